import PyProof.Rows.All
import Wide.All
import OpenK.AllK
import Wide.FinOn
import Lean
import PyProof.EqAt
import PyProof.EqKinds
import PyProof.TupleCall
import PyProof.EnumMake
import PyProof.Draws
import PySem.Challenge.RW_fallcounts_k16_whole_triangle
set_option Elab.async false
set_option linter.all false
set_option maxRecDepth 100000
set_option maxHeartbeats 8000000
/-! THE HAND LAYER, for ints, bools, texts, own classes, LISTS and tuples (index, slices, in, append, pop ..), calls, loops. Paste it whole ahead of your own text; what your proof does not reach may be deleted. -/
namespace L2
open PySem PySem.Spec PyProof.Rows

/-- a key: an int or a str -/
abbrev Key := Sum Int Str
def keyIs : Key → Value → Bool
  | .inl k, v => Value.isInt k v
  | .inr x, v => Value.isStrOf x v
def keyH (w : World) : Key → Int
  | .inl k => hashInt k
  | .inr x => hashStr w x
theorem keyIs_shape : ∀ {k : Key} {v : Value}, keyIs k v = true → (∃ i t, k = Sum.inl i ∧ v = Value.int i t) ∨ (∃ x t, k = Sum.inr x ∧ v = Value.str x t)
  | .inl i, v, h => by
    obtain ⟨t, e⟩ := Value.isInt_shape (k := i) (v := v) h
    exact .inl ⟨i, t, rfl, e⟩
  | .inr x, v, h => by
    obtain ⟨t, e⟩ := Value.isStrOf_shape (x := x) (v := v) h
    exact .inr ⟨x, t, rfl, e⟩
theorem keyIs_int (i : Int) (t : Tok) : keyIs (.inl i) (.int i t) = true := by simp [keyIs, Value.isInt]
theorem keyIs_str (x : Str) (t : Tok) : keyIs (.inr x) (.str x t) = true := by simp [keyIs, Value.isStrOf]
theorem key_ll (a b : Int) : decide ((Sum.inl a : Key) = Sum.inl b) = (a == b) := by
  by_cases e : a = b
  · subst e; simp
  · have h : ¬ (Sum.inl a : Key) = Sum.inl b := fun q => e (Sum.inl.inj q)
    rw [decide_eq_false h]
    exact (beq_eq_false_iff_ne.mpr e).symm
theorem key_rr (a b : Str) : decide ((Sum.inr a : Key) = Sum.inr b) = decide (a = b) := by
  by_cases e : a = b
  · subst e; simp
  · have h : ¬ (Sum.inr a : Key) = Sum.inr b := fun q => e (Sum.inr.inj q)
    rw [decide_eq_false h, decide_eq_false e]
theorem key_lr (a : Int) (b : Str) : decide ((Sum.inl a : Key) = Sum.inr b) = false := decide_eq_false (fun q => nomatch q)
theorem key_rl (a : Str) (b : Int) : decide ((Sum.inr a : Key) = Sum.inl b) = false := decide_eq_false (fun q => nomatch q)

def mixKind (prog : Program) (w : World) : PySem.KeyKind prog w Key where
  is := keyIs
  hash := keyH w
  inj := fun v a b ha hb => by
    rcases keyIs_shape ha with ⟨i, t, rfl, rfl⟩ | ⟨x, t, rfl, rfl⟩
    · rcases keyIs_shape hb with ⟨j, u, rfl, e⟩ | ⟨y, u, rfl, e⟩
      · injection e with e1 _; rw [e1]
      · exact nomatch e
    · rcases keyIs_shape hb with ⟨j, u, rfl, e⟩ | ⟨y, u, rfl, e⟩
      · exact nomatch e
      · injection e with e1 _; rw [e1]
  byValue := fun k v h => by
    rcases keyIs_shape h with ⟨i, t, rfl, rfl⟩ | ⟨x, t, rfl, rfl⟩ <;> rfl
  pyHash := fun hv h => by
    rcases keyIs_shape hv with ⟨i, t, rfl, rfl⟩ | ⟨x, t, rfl, rfl⟩
    · exact wpAny_pyHash_int h
    · exact wpAny_pyHash_str h
  eqBool := fun hu hv h => by
    rcases keyIs_shape hu with ⟨i, t, rfl, rfl⟩ | ⟨x, t, rfl, rfl⟩
    · rcases keyIs_shape hv with ⟨j, u, rfl, rfl⟩ | ⟨y, u, rfl, rfl⟩
      · rw [key_ll] at h; exact wpAny_eqBool_int h
      · rw [key_lr] at h; exact SeqAt.EqAt.int_str i t y u _ _ _ _ h
    · rcases keyIs_shape hv with ⟨j, u, rfl, rfl⟩ | ⟨y, u, rfl, rfl⟩
      · rw [key_rl] at h; exact SeqAt.EqAt.str_int x t j u _ _ _ _ h
      · rw [key_rr] at h; exact wpAny_eqBool_str h
  «strs» := fun k x t v h => by
    rcases keyIs_shape h with ⟨i, u, rfl, e⟩ | ⟨y, u, rfl, e⟩
    · exact nomatch e
    · injection e with e1 _
      subst e1
      cases v <;> rfl

theorem mixKind_is (prog : Program) (w : World) (k : Key) (v : Value) : (mixKind prog w).is k v = keyIs k v := rfl
theorem mixKind_int (prog : Program) (w : World) (i : Int) (t : Tok) : (mixKind prog w).is (.inl i) (.int i t) = true := keyIs_int i t
theorem mixKind_str (prog : Program) (w : World) (x : Str) (t : Tok) : (mixKind prog w).is (.inr x) (.str x t) = true := keyIs_str x t
end L2

namespace L2
open PySem PySem.Spec PyProof.Rows

/-- a value, without the heap -/
inductive V where
  | non | bl (b : Bool) | int (i : Int) | str (x : Str) | byt (b : Array UInt8) | flt (b : UInt64) | ref (a : Addr) | ty (n : String)
  deriving DecidableEq

def RelV : V → Value → Prop
  | .non, u => u = Value.none
  | .bl b, u => u = Value.bool b
  | .int i, u => ∃ t, u = Value.int i t
  | .str x, u => ∃ t, u = Value.str x t
  | .byt b, u => ∃ t, u = Value.bytes b t
  | .flt b, u => ∃ t, u = Value.float b t
  | .ref a, u => u = Value.ref a
  | .ty n, u => u = Value.type n

abbrev Vals : List V → List Value → Prop := Paired RelV
theorem Vals.length {xs : List V} {us : List Value} (r : Vals xs us) : xs.length = us.length := Paired.length r
theorem Vals.get : ∀ {xs : List V} {us : List Value} {i : Nat} {x : V}, Vals xs us → xs[i]? = some x → ∃ u, us[i]? = some u ∧ RelV x u
  | _, _, _, _, .nil, e => by simp at e
  | _, _, 0, _, .cons r _, e => by simp at e; subst e; exact ⟨_, rfl, r⟩
  | _, _, i + 1, x, .cons _ t, e => by
    obtain ⟨u, h1, h2⟩ := Vals.get (i := i) (x := x) t (by simpa using e)
    exact ⟨u, by simpa using h1, h2⟩
theorem Vals.set {x : V} {u : Value} (r : RelV x u) : ∀ {xs : List V} {us : List Value} (i : Nat), Vals xs us → Vals (xs.set i x) (us.set i u)
  | _, _, _, .nil => .nil
  | _, _, 0, .cons _ t => .cons r t
  | _, _, i + 1, .cons q t => .cons q (Vals.set r i t)
theorem Vals.append : ∀ {xs ys : List V} {us ws : List Value}, Vals xs us → Vals ys ws → Vals (xs ++ ys) (us ++ ws)
  | _, _, _, _, .nil, s => s
  | _, _, _, _, .cons r t, s => .cons r (Vals.append t s)
theorem Vals.take : ∀ {xs : List V} {us : List Value} (n : Nat), Vals xs us → Vals (xs.take n) (us.take n)
  | _, _, 0, _ => .nil
  | _, _, _ + 1, .nil => .nil
  | _, _, n + 1, .cons r t => .cons r (Vals.take n t)
theorem Vals.drop : ∀ {xs : List V} {us : List Value} (n : Nat), Vals xs us → Vals (xs.drop n) (us.drop n)
  | _, _, 0, r => r
  | _, _, _ + 1, .nil => .nil
  | _, _, n + 1, .cons _ t => Vals.drop n t
theorem Vals.none_of : ∀ {xs : List V} {us : List Value} {i : Nat}, Vals xs us → xs[i]? = none → us[i]? = none := fun {xs us i} r e => by
  have h1 := r.length
  have h2 : xs.length ≤ i := List.getElem?_eq_none_iff.mp e
  exact List.getElem?_eq_none_iff.mpr (by omega)

def RelO : Option V → Option Value → Prop
  | some v, some u => RelV v u
  | none, none => True
  | _, _ => False
def KV {κ : Type} : List (κ × V) → List (κ × Value) → Prop := Paired fun (p : κ × V) (q : κ × Value) => p.1 = q.1 ∧ RelV p.2 q.2

/-- a key of a dict (00_mix): an int or a text -/
def kV : Key → V
  | .inl i => .int i
  | .inr x => .str x

/-- what stands at a tracked address -/
inductive HO where
  /-- a list -/
  | lst (xs : List V)
  /-- a tuple (never changes) -/
  | tup (xs : List V)
  /-- a dict whose keys are ints and texts; one whose keys are tuples of ints and texts (the empty one is both) -/
  | dK (kvs : List (Key × V)) | dT (kvs : List (List Key × V))
  /-- a set of ints: its members, its size -/
  | set (S : Int → Bool) (n : Nat)
  /-- an instance of the class at C, its dict at dx, its attributes -/
  | ins (C dx : Addr) (fs : List (Str × V))
  /-- the dict of the instance at x -/
  | own (x : Addr)
  /-- the dict of an exception -/
  | xd (fs : List (Str × V))
  /-- a bound method, f of x -/
  | met (f x : Addr)
  /-- a range object lo, lo + 1, .. below hi -/
  | rng (lo hi : Int)
  /-- a thing that is known to the object (the script; a dict while a loop walks it): read, never written while it is so -/
  | frz (o : Obj) (u : HO)
  /-- a code object's table -/
  | tbl (ps : Array Value)
  /-- any other thing, by what is true of its one object (a def of one's own: SetO a S n := HO.ext fun h => ..) -/
  | ext (φ : Heap → Prop)

abbrev Hp := Addr → Option HO
def upd (H : Hp) (a : Addr) (o : HO) : Hp := fun b => if b = a then some o else H b
theorem upd_same {H : Hp} {a : Addr} {o : HO} : upd H a o a = some o := by unfold upd; rw [if_pos rfl]
theorem upd_ne {H : Hp} {a b : Addr} {o : HO} (h : b ≠ a) : upd H a o b = H b := by unfold upd; rw [if_neg h]
theorem upd_upd {H : Hp} {a : Addr} {o u : HO} : upd (upd H a o) a u = upd H a u := by
  funext b; unfold upd; split <;> rfl
/-- two objects of different content stand apart -/
theorem ne_of {H : Hp} {a b : Addr} {o u : HO} (h : H a = some o) (h' : H b = some u) (d : o ≠ u) : a ≠ b := by
  intro e; subst e; rw [h] at h'; exact d (Option.some.inj h')
theorem ne_of_none {H : Hp} {a b : Addr} {o : HO} (h : H a = some o) (h' : H b = none) : a ≠ b := by
  intro e; subst e; rw [h] at h'; cases h'

section
variable (P : Program) (w : World)
def ObjOk (H : Hp) (h : Heap) (a : Addr) : HO → Prop
  | .lst xs => xs.length ≤ sizeLine ∧ ∃ (its : List Value) (n : Nat), Vals xs its ∧ h.get? a = some { cls := .type "list", data := .seq its.toArray n }
  | .tup xs => xs.length ≤ sizeLine ∧ ∃ its : List Value, Vals xs its ∧ IsTup h a its.toArray
  | .dK kvs => kvs.length ≤ sizeLine ∧ (a == sysModules) = false ∧ ∃ vs, KV kvs vs ∧ h.DictOf (mixKind P w) a vs
  | .dT kvs => kvs.length ≤ sizeLine ∧ (a == sysModules) = false ∧ ∃ xs : List (List Key × Addr × Value),
      Paired (fun (p : List Key × V) (q : List Key × Addr × Value) => p.1 = q.1 ∧ H q.2.1 = some (.tup (p.1.map kV)) ∧ RelV p.2 q.2.2) kvs xs ∧
      ∃ o es ep, h.get? a = some o ∧ o.ExactDict ∧ o.data = .dict es ep ∧ es.toList = xs.map (entryOfKey (tupleKind (mixKind P w))) ∧ (xs.map (·.1)).Nodup
  | .set S n => h.SetOf (intKind P w) a S n
  | .ins C dx fs => H dx = some (.own a) ∧ fs.length ≤ 1000 ∧ dx ≠ a ∧ h.get? a = some (PySem.W.instObj C dx) ∧
      ∃ mA, h.Ns1 dx mA ∧ (∀ f, RelO (fs.lookup f) (mA f)) ∧ PySem.Within mA (fs.map (·.1))
  | .own _ => ∃ o, h.get? a = some o
  | .xd fs => ∃ mA, h.Ns1 a mA ∧ ∀ f, RelO (fs.lookup f) (mA f)
  | .rng lo hi => ∃ t u v, h.get? a = some { cls := .type "range", data := .fields #[.int lo t, .int hi u, .int 1 v] }
  | .frz o u => h.get? a = some o ∧ ObjOk H h a u
  | .tbl ps => h.get? a = some { cls := .none, data := .fields ps }
  | .met f x => h.get? a = some (PySem.W.methodObj (.ref f) (.ref x))
  | .ext φ => φ h ∧ (∃ o, h.get? a = some o) ∧ ∀ h1 h2 : Heap, φ h1 → (∀ o, h1.get? a = some o → h2.get? a = some o) → φ h2
/-- the abstract heap is held -/
def HOk (H : Hp) (h : Heap) : Prop := ∀ a o, H a = some o → ObjOk P w H h a o
end

section
variable {P : Program} {w : World} {H H' : Hp} {h h' : Heap} {a : Addr} {o : HO}
theorem ObjOk.lt (x : ObjOk P w H h a o) : a < h.objs.size := by
  cases o with
  | lst xs => obtain ⟨_, _, _, _, e⟩ := x; exact Heap.lt_size e
  | tup xs => obtain ⟨_, _, _, p⟩ := x; exact p.lt
  | dK kvs => obtain ⟨_, _, _, _, o, _, _, e, _⟩ := x; exact Heap.lt_size e
  | dT kvs => obtain ⟨_, _, _, _, o, _, _, e, _⟩ := x; exact Heap.lt_size e
  | set S n => obtain ⟨o, _, _, _, e, _⟩ := x; exact Heap.lt_size e
  | ins C dx fs => obtain ⟨_, _, _, e, _⟩ := x; exact Heap.lt_size e
  | own y => obtain ⟨_, e⟩ := x; exact Heap.lt_size e
  | xd fs => obtain ⟨_, ⟨_, _, _, e, _⟩, _⟩ := x; exact Heap.lt_size e
  | rng lo hi => obtain ⟨_, _, _, e⟩ := x; exact Heap.lt_size e
  | frz ob u => obtain ⟨e, _⟩ := x; exact Heap.lt_size e
  | tbl ps => exact Heap.lt_size (show h.get? a = some _ from x)
  | met f y => exact Heap.lt_size (show h.get? a = some _ from x)
  | ext φ => obtain ⟨_, ⟨_, e⟩, _⟩ := x; exact Heap.lt_size e
theorem Paired.mapP {α β : Type} {F G : α → β → Prop} : ∀ {l₁ : List α} {l₂ : List β}, Paired F l₁ l₂ → (∀ a b, F a b → G a b) → Paired G l₁ l₂
  | _, _, .nil, _ => .nil
  | _, _, .cons r t, f => .cons (f _ _ r) (Paired.mapP t f)
theorem Paired.imp' {α β : Type} {F G : α → β → Prop} (f : ∀ a b, F a b → G a b) {l₁ : List α} {l₂ : List β} (r : Paired F l₁ l₂) : Paired G l₁ l₂ := Paired.mapP r f
/-- what an object's description leans on: its own object, its own dict, the tuples -/
theorem ObjOk.stay (x : ObjOk P w H h a o) (k : ∀ b u, (b = a ∨ H b = some (.own a)) → h.get? b = some u → h'.get? b = some u)
    (ho : ∀ b, H b = some (.own a) → H' b = some (.own a)) (ht : ∀ b xs, H b = some (.tup xs) → H' b = some (.tup xs)) : ObjOk P w H' h' a o := by
  induction o with
  | lst xs => obtain ⟨z, its, n, r, e⟩ := x; exact ⟨z, its, n, r, k _ _ (.inl rfl) e⟩
  | tup xs => obtain ⟨z, its, r, ob, e, c⟩ := x; exact ⟨z, its, r, ob, k _ _ (.inl rfl) e, c⟩
  | dK kvs => obtain ⟨z, y, vs, r, ob, es, ep, e, c⟩ := x; exact ⟨z, y, vs, r, ob, es, ep, k _ _ (.inl rfl) e, c⟩
  | dT kvs =>
    obtain ⟨z, y, xs, r, ob, es, ep, e, c⟩ := x
    exact ⟨z, y, xs, Paired.mapP r fun p q z => ⟨z.1, ht _ _ z.2.1, z.2.2⟩, ob, es, ep, k _ _ (.inl rfl) e, c⟩
  | set S n => obtain ⟨ob, es, ep, t, e, c⟩ := x; exact ⟨ob, es, ep, t, k _ _ (.inl rfl) e, c⟩
  | ins C dx fs =>
    obtain ⟨d, z, ne, e, mA, ⟨od, es, ep, e2, c⟩, r⟩ := x
    exact ⟨ho _ d, z, ne, k _ _ (.inl rfl) e, mA, ⟨od, es, ep, k _ _ (.inr d) e2, c⟩, r⟩
  | own y => obtain ⟨ob, e⟩ := x; exact ⟨ob, k _ _ (.inl rfl) e⟩
  | xd fs => obtain ⟨mA, ⟨od, es, ep, e, c⟩, r⟩ := x; exact ⟨mA, ⟨od, es, ep, k _ _ (.inl rfl) e, c⟩, r⟩
  | rng lo hi => obtain ⟨t, u, v, e⟩ := x; exact ⟨t, u, v, k _ _ (.inl rfl) e⟩
  | frz ob u ih => obtain ⟨e, q⟩ := x; exact ⟨k _ _ (.inl rfl) e, ih q⟩
  | tbl ps =>
    have e : h.get? a = some { cls := .none, data := .fields ps } := x
    show h'.get? a = some { cls := .none, data := .fields ps }
    exact k a _ (.inl rfl) e
  | met f y =>
    have e : h.get? a = some (PySem.W.methodObj (.ref f) (.ref y)) := x
    show h'.get? a = some (PySem.W.methodObj (.ref f) (.ref y))
    exact k a _ (.inl rfl) e
  | ext φ => obtain ⟨p, ⟨o, e⟩, st⟩ := x; exact ⟨st _ _ p fun o q => k _ _ (.inl rfl) q, ⟨o, k _ _ (.inl rfl) e⟩, st⟩
theorem HOk.lt (x : HOk P w H h) (e : H a = some o) : a < h.objs.size := (x a o e).lt
theorem HOk.fresh (x : HOk P w H h) (e : h.objs.size ≤ a) : H a = none := by
  cases q : H a with
  | none => rfl
  | some u => exact absurd (Nat.lt_of_lt_of_le (x.lt q) e) (Nat.lt_irrefl _)
/-- every object of the heap is kept -/
theorem HOk.kept (x : HOk P w H h) (k : ∀ b u, h.get? b = some u → h'.get? b = some u) : HOk P w H h' := fun a o e =>
  (x a o e).stay (fun b u _ q => k b u q) (fun _ q => q) fun _ _ q => q
/-- a new object is laid and tracked -/
theorem HOk.laid (x : HOk P w H h) (k : ∀ b u, h.get? b = some u → h'.get? b = some u) (hp : h.objs.size ≤ a) (new : ObjOk P w (upd H a o) h' a o) : HOk P w (upd H a o) h' := fun b u e => by
  have hn := x.fresh hp
  by_cases hb : b = a
  · subst hb; rw [upd_same] at e; cases e; exact new
  · rw [upd_ne hb] at e
    exact (x b u e).stay (fun c v _ q => k c v q) (fun c q => by rw [upd_ne (ne_of_none q hn)]; exact q) fun c xs q => by rw [upd_ne (ne_of_none q hn)]; exact q
end

/-- what may be read as u: it is u, or a known u -/
def Rd (H : Hp) (a : Addr) (u : HO) : Prop := H a = some u ∨ ∃ o, H a = some (.frz o u)
theorem Rd.of {H : Hp} {a : Addr} {u : HO} (h : H a = some u) : Rd H a u := .inl h
theorem Rd.ok {P : Program} {w : World} {H : Hp} {h : Heap} {a : Addr} {u : HO} (r : Rd H a u) (x : HOk P w H h) : ObjOk P w H h a u := by
  rcases r with r | ⟨o, r⟩
  · exact x a u r
  · obtain ⟨_, q⟩ := x a _ r
    exact q
/-- what may be written -/
def Mut : Option HO → Prop
  | some (.lst _) => True
  | some (.dK _) => True
  | some (.dT _) => True
  | some (.set _ _) => True
  | some (.ins _ _ _) => True
  | some (.ext _) => True
  | _ => False
section
variable {P : Program} {w : World} {H : Hp} {h h' : Heap} {x e : Addr} {o' : HO}
/-- the object at e is changed: x itself, or the dict of the instance x -/
theorem HOk.write (ok : HOk P w H h) (mu : Mut (H x)) (he : e = x ∨ H e = some (.own x)) (k : ∀ b u, b ≠ e → h.get? b = some u → h'.get? b = some u) (heo : ∃ u, h'.get? e = some u)
    (new : ObjOk P w (upd H x o') h' x o') : HOk P w (upd H x o') h' := fun b u q => by
  have nown : ∀ c y, H c = some (.own y) → c ≠ x := fun c y r z => by subst z; rw [r] at mu; exact mu
  have ntup : ∀ c xs, H c = some (.tup xs) → c ≠ x := fun c xs r z => by subst z; rw [r] at mu; exact mu
  by_cases hb : b = x
  · subst hb; rw [upd_same] at q; cases q; exact new
  · rw [upd_ne hb] at q
    by_cases hbe : b = e
    · have q' : H b = some (.own x) := by
        rcases he with z | z
        · exact absurd (hbe.trans z) hb
        · rw [hbe]; exact z
      rw [q] at q'; cases q'
      obtain ⟨v, hv⟩ := heo
      exact ⟨v, by rw [hbe]; exact hv⟩
    · refine (ok b u q).stay (fun c v hc r => k c v ?_ r) (fun c r => by rw [upd_ne (nown c b r)]; exact r) fun c xs r => by rw [upd_ne (ntup c xs r)]; exact r
      rcases hc with rfl | hc
      · exact hbe
      · rintro rfl
        rcases he with z | z
        · exact nown c b hc z
        · rw [hc] at z; cases z; exact hb rfl
end

/-! ### kept unless tracked; of the frames at fs (the callers') the slots may change (an exception that passes writes there); of the records at ex (iterators) nothing is said -/
structure Un (fs ex : List Addr) (H H' : Hp) (h h' : Heap) : Prop where
  keep : ∀ b o, h.get? b = some o → H b = none → b ∉ fs → b ∉ ex → h'.get? b = some o
  slot : ∀ b o, h.get? b = some o → H b = none → b ∈ fs → b ∉ ex → ∃ sl, h'.get? b = some { o with slots := sl }
  free : ∀ b o, h.get? b = some o → H b = none → b ∉ ex → H' b = none
  there : ∀ b o, h.get? b = some o → b ∉ ex → ∃ o', h'.get? b = some o'
  tups : ∀ b xs, H b = some (.tup xs) → H' b = some (.tup xs)
  frzs : ∀ b o u, H b = some (.frz o u) → H' b = some (.frz o u)
  tbls : ∀ b ps, H b = some (.tbl ps) → ∃ more, H' b = some (.tbl (ps ++ more))
section
variable {fs fs' ex ex' : List Addr} {H H1 H2 : Hp} {h h1 h2 h' : Heap} {a x e : Addr} {o : HO}
theorem Un.any (u : Un fs ex H H1 h h1) {b : Addr} {ob : Obj} (q : h.get? b = some ob) (n : H b = none) (hx : b ∉ ex) : ∃ sl, h1.get? b = some { ob with slots := sl } := by
  by_cases hb : b ∈ fs
  · exact u.slot b ob q n hb hx
  · exact ⟨ob.slots, u.keep b ob q n hb hx⟩
theorem Un.trans (a : Un fs ex H H1 h h1) (b : Un fs ex H1 H2 h1 h2) : Un fs ex H H2 h h2 where
  keep := fun c ob q n hc hx => b.keep c ob (a.keep c ob q n hc hx) (a.free c ob q n hx) hc hx
  slot := fun c ob q n hc hx => by
    obtain ⟨sl, e1⟩ := a.slot c ob q n hc hx
    obtain ⟨sl', e2⟩ := b.slot c _ e1 (a.free c ob q n hx) hc hx
    exact ⟨sl', e2⟩
  free := fun c ob q n hx => by
    obtain ⟨o', e1⟩ := a.there c ob q hx
    exact b.free c o' e1 (a.free c ob q n hx) hx
  there := fun c ob q hx => by
    obtain ⟨o', e1⟩ := a.there c ob q hx
    exact b.there c o' e1 hx
  tups := fun c xs q => b.tups c xs (a.tups c xs q)
  frzs := fun c ob xs q => b.frzs c ob xs (a.frzs c ob xs q)
  tbls := fun c ps q => by
    obtain ⟨m1, e1⟩ := a.tbls c ps q
    obtain ⟨m2, e2⟩ := b.tbls c _ e1
    exact ⟨m1 ++ m2, by rw [e2, Array.append_assoc]⟩
theorem Un.kept (k : ∀ b u, h.get? b = some u → h'.get? b = some u) : Un fs ex H H h h' :=
  ⟨fun b ob q _ _ _ => k b ob q, fun b ob q _ _ _ => ⟨ob.slots, k b ob q⟩, fun _ _ _ n _ => n, fun b ob q _ => ⟨ob, k b ob q⟩, fun _ _ q => q, fun _ _ _ q => q, fun _ ps q => ⟨#[], by rw [q]; simp⟩⟩
theorem Un.refl : Un fs ex H H h h := Un.kept fun _ _ q => q
theorem Un.laid (k : ∀ b u, h.get? b = some u → h'.get? b = some u) (hp : h.objs.size ≤ a) (hn : H a = none) : Un fs ex H (upd H a o) h h' where
  keep := fun b u q _ _ _ => k b u q
  slot := fun b u q _ _ _ => ⟨u.slots, k b u q⟩
  free := fun b u q n _ => by rw [upd_ne (Nat.ne_of_lt (Nat.lt_of_lt_of_le (Heap.lt_size q) hp))]; exact n
  there := fun b u q _ => ⟨u, k b u q⟩
  tups := fun b xs q => by rw [upd_ne (ne_of_none q hn)]; exact q
  frzs := fun b u xs q => by rw [upd_ne (ne_of_none q hn)]; exact q
  tbls := fun b ps q => ⟨#[], by rw [upd_ne (ne_of_none q hn), q]; simp⟩
theorem Un.write (mu : Mut (H x)) (he : e = x ∨ H e = some (.own x)) (k : ∀ b u, b ≠ e → h.get? b = some u → h'.get? b = some u) (heo : ∃ u, h'.get? e = some u) : Un fs ex H (upd H x o) h h' := by
  have hx : ∀ b, H b = none → b ≠ x := fun b n z => by subst z; rw [n] at mu; exact mu
  have hb : ∀ b, H b = none → b ≠ e := fun b n z => by
    subst z
    rcases he with r | r
    · exact hx b n r
    · rw [n] at r; cases r
  have hm : ∀ b u, H b = some u → ¬ Mut (some u) → b ≠ x := fun b u q nm z => by subst z; rw [q] at mu; exact nm mu
  refine ⟨fun b u q n _ _ => k b u (hb b n) q, fun b u q n _ _ => ⟨u.slots, k b u (hb b n) q⟩, fun b u q n _ => by rw [upd_ne (hx b n)]; exact n, fun b u q _ => ?_,
    fun b xs q => by rw [upd_ne (hm b _ q fun z => z)]; exact q, fun b u xs q => by rw [upd_ne (hm b _ q fun z => z)]; exact q, fun b ps q => ⟨#[], by rw [upd_ne (hm b _ q fun z => z), q]; simp⟩⟩
  by_cases hbe : b = e
  · subst hbe; exact heo
  · exact ⟨u, k b u hbe q⟩
theorem Un.mono (u : Un fs ex H H1 h h1) (hs : ∀ b ∈ fs, b ∈ fs') (hx : ∀ b ∈ ex, b ∈ ex') : Un fs' ex' H H1 h h1 :=
  ⟨fun b ob q n hb he => u.keep b ob q n (fun z => hb (hs b z)) fun z => he (hx b z), fun _ _ q n _ he => u.any q n fun z => he (hx _ z), fun b ob q n he => u.free b ob q n fun z => he (hx b z), fun b ob q he => u.there b ob q fun z => he (hx b z), u.tups, u.frzs, u.tbls⟩
end

/-! ### the heap without what is tracked -/
def trk (h : Heap) (H : Hp) : List Addr := (List.range h.objs.size).filter fun a => (H a).isSome
def hidT (h : Heap) (H : Hp) : Heap := PySem.W.hideAll h (trk h H)
theorem hidT_size (h : Heap) (H : Hp) : (hidT h H).objs.size = h.objs.size := PySem.W.hideAll_size _ _
theorem hidT_get {h : Heap} {H : Hp} {b : Addr} {o : Obj} (e : h.get? b = some o) (n : H b = none) : (hidT h H).get? b = some o :=
  PySem.W.hideAll_get _ e fun hm => by
    have q : (H b).isSome = true := (List.mem_filter.mp hm).2
    rw [n] at q; simp at q
theorem of_hidT {h : Heap} {H : Hp} {b : Addr} {o : Obj} (e : (hidT h H).get? b = some o) : h.get? b = some o ∧ H b = none := by
  have e' : h.get? b = some o := PySem.W.of_hideAll (trk h H) e
  refine ⟨e', ?_⟩
  cases q : H b with
  | none => rfl
  | some x =>
    have hm : b ∈ trk h H := List.mem_filter.mpr ⟨List.mem_range.mpr (Heap.lt_size e'), by simp [q]⟩
    have z : (hidT h H).get? b = none := PySem.W.hideAll_none (trk h H) hm
    rw [z] at e; cases e

/-! ### OpenK's ledger, filled with every new object but one -/
def allNews (g h : Heap) (L : Addr) : List (Addr × Obj) := (List.range h.objs.size).filterMap fun a => if a = L ∨ (g.get? a).isSome = true then none else (h.get? a).map fun o => (a, o)
theorem mem_allNews {g h : Heap} {L a : Addr} {o : Obj} (h1 : a ≠ L) (h2 : g.get? a = none) (h3 : h.get? a = some o) : (a, o) ∈ allNews g h L :=
  List.mem_filterMap.mpr ⟨a, List.mem_range.mpr (Heap.lt_size h3), by simp [h1, h2, h3]⟩
theorem of_mem_allNews {g h : Heap} {L : Addr} {p : Addr × Obj} (hp : p ∈ allNews g h L) : p.1 ≠ L ∧ g.get? p.1 = none ∧ h.get? p.1 = some p.2 := by
  obtain ⟨b, _, e⟩ := List.mem_filterMap.mp hp
  split at e
  · cases e
  · rename_i hn
    cases q : h.get? b with
    | none => rw [q] at e; simp at e
    | some u =>
      rw [q] at e
      simp only [Option.map_some, Option.some.injEq] at e
      subst e
      refine ⟨fun z => hn (.inl z), ?_, q⟩
      show g.get? b = none
      cases r : g.get? b with
      | none => rfl
      | some v => exact (hn (.inr (by simp [r]))).elim
def rest (g h : Heap) (L d : Addr) : List (Addr × Obj) := (allNews g h L).filter fun p => decide (p.1 ≠ d)
theorem rest_ne {g h : Heap} {L d : Addr} : ∀ p ∈ rest g h L d, p.1 ≠ d := fun p hp => of_decide_eq_true (List.mem_filter.mp hp).2
theorem mem_rest {g h : Heap} {L d a : Addr} {o : Obj} (h1 : a ≠ L) (h2 : g.get? a = none) (h3 : h.get? a = some o) (h4 : a ≠ d) : (a, o) ∈ rest g h L d :=
  List.mem_filter.mpr ⟨mem_allNews h1 h2 h3, decide_eq_true h4⟩
theorem news_all {g h : Heap} {L : Addr} : News g L h (allNews g h L) := fun p hp => let ⟨a, b, c⟩ := of_mem_allNews hp; ⟨c, a, b⟩
theorem news_at {g h : Heap} {L d : Addr} {o : Obj} (h1 : d ≠ L) (h2 : g.get? d = none) (h3 : h.get? d = some o) : News g L h ((d, o) :: rest g h L d) := fun p hp => by
  rcases List.mem_cons.mp hp with rfl | hp
  · exact ⟨h3, h1, h2⟩
  · exact news_all p (List.mem_filter.mp hp).1
/-- behind a rule that changed d alone: all else but the frame is kept -/
theorem kept_of_news {g h h' : Heap} {L d : Addr} {m : Str → Option Value} (k : ∀ b o, g.get? b = some o → h.get? b = some o) (F : Fr g L h' m) (N : News g L h' (rest g h L d)) :
    ∀ b o, b ≠ L → b ≠ d → h.get? b = some o → h'.get? b = some o := fun b o h1 h2 e => by
  cases q : g.get? b with
  | some u =>
    have := k b u q
    rw [e] at this; cases this
    exact F.keep b _ q
  | none => exact (N (b, o) (mem_rest h1 q e h2)).1
end L2

namespace L2
open PySem PySem.Spec PyProof.Rows

/-- the module's facts, over the base: the heap at the law's entry without what is tracked there -/
structure Mod (K : PySem.W.Frag) (mg : Str → Option Value) (base : Heap) : Prop where
  kin : K.In base
  glob : base.Ns mainGlobals mg
  blt : ∃ mb, base.Ns builtinsNs mb ∧ ∀ x : Str, x ≠ "__name__" → mb x = bootBuiltins x
  nolimit : base.NoLimit

/-- the context: a def's body (or a comprehension's block) running. base: fixed through the whole law; s₀, H₀: the entry; outer: the frames whose slots others may change (a def's callers); stack: all frames that run;
   ex: iterators that were made ahead of the entry and are walked here (a comprehension's); fn: the names whose cells were made at the entry (a def: all; a comprehension's block: its own); calm: not within an except suite; pn: pins that every state bears; xe: what is wanted of an exception that leaves the code -/
structure Cx where
  prog : Program
  w : World
  K : PySem.W.Frag
  mg : Str → Option Value
  base : Heap
  A : Around
  N : List Str
  s₀ : Shared
  H₀ : Hp
  env : Env
  outer : List Env
  stack : List Env
  ex : List Addr
  fn : Str → Bool
  calm : Bool
  pn : List (Addr × Obj)
  xe : Value → Shared → Prop
/-- the callers' frames -/
def frs (l : List Env) : List Addr := l.filterMap (·.frame)
abbrev Cx.fs (X : Cx) : List Addr := frs X.outer

def Vis (sc : Scope) (x : Str) : Prop := sc.names.lookup x = some .local ∨ sc.names.lookup x = some .cell ∨ sc.names.lookup x = some .free
def Loc (sc : Scope) (x : Str) : Prop := sc.names.lookup x = some .local ∨ sc.names.lookup x = some .cell
def Look (env : Env) (h : Heap) (m : Str → Option Value) (x : Str) (u : Value) : Prop :=
  (env.kindOf x = some .local ∧ m x = some u) ∨ ((env.kindOf x = some .cell ∨ env.kindOf x = some .free) ∧ ∃ c, env.cells.lookup x = some c ∧ h.IsCell c (some u))

structure Cx.Ok (X : Cx) : Prop where
  mod : Mod X.K X.mg X.base
  kind : X.env.scope.kind = .function
  glob : X.env.globals = mainGlobals
  blt : X.env.builtins = builtinsNs
  above : X.s₀.heap.objs.size ≤ X.env.locals
  inj : ∀ x y c, X.env.cells.lookup x = some c → X.env.cells.lookup y = some c → x = y
  has : ∀ x, (X.env.kindOf x = some .cell ∨ X.env.kindOf x = some .free) → ∃ c, X.env.cells.lookup x = some c
  cab : ∀ x c, X.fn x = true → X.env.cells.lookup x = some c → X.s₀.heap.objs.size ≤ c
  hd : X.calm = true → X.A.handled = none
  frames : X.A.frames = some X.stack
  stk : X.stack = X.outer ∨ (X.stack = X.env :: X.outer ∧ X.env.frame = some X.env.locals)
  exf : ∀ b ∈ X.ex, b ≠ X.env.locals ∧ ∀ x c, X.env.cells.lookup x = some c → c ≠ b
  bs : ∀ b o, X.base.get? b = some o → X.s₀.heap.get? b = some o ∧ X.H₀ b = none
  bsz : X.base.objs.size ≤ X.s₀.heap.objs.size
  noex : ∀ b o, X.base.get? b = some o → b ∉ X.ex
  exfs : ∀ b ∈ X.ex, b ∉ X.fs
  funs : X.s₀.heap.FunFrames X.base X.outer
  frf : ∀ b ∈ X.fs, X.H₀ b = none

structure Inv (X : Cx) (pins : List (Addr × Obj)) (σ : List (Option V)) (H : Hp) (s : Shared) : Prop where
  ok : X.Ok
  os : s.os = X.s₀.os
  bare : AllBare s.gens
  base : Un X.fs X.ex X.H₀ H X.s₀.heap s.heap
  loc : ∃ m, s.heap.Ns X.env.locals m ∧ ∀ (i : Nat) (x : Str) (v : V), X.N[i]? = some x → σ[i]? = some (some v) → Vis X.env.scope x → ∃ u, RelV v u ∧ Look X.env s.heap m x u
  cell : ∀ x c, X.env.cells.lookup x = some c → ∃ v, s.heap.IsCell c v
  free : H X.env.locals = none
  freeC : ∀ x c, X.env.cells.lookup x = some c → H c = none
  pin : ∀ p ∈ X.pn ++ pins, s.heap.get? p.1 = some p.2 ∧ H p.1 = none ∧ p.1 ≠ X.env.locals ∧ p.1 ∉ X.fs ∧ ∀ v, p.2.data ≠ .cell v
  hok : HOk X.prog X.w H s.heap
  len : σ.length = X.N.length

section
variable {X : Cx} {pins : List (Addr × Obj)} {σ : List (Option V)} {H H' : Hp} {s : Shared} {h' : Heap}

theorem Cx.Ok.nofr (ok : X.Ok) {b : Addr} {o : Obj} (e : X.base.get? b = some o) : b ∉ X.fs := fun hb => by
  have := (ok.funs.mem hb).1
  rw [e] at this; cases this
theorem Inv.bs (I : Inv X pins σ H s) : ∀ b o, X.base.get? b = some o → s.heap.get? b = some o ∧ H b = none := fun b o e =>
  ⟨I.base.keep b o (I.ok.bs b o e).1 (I.ok.bs b o e).2 (I.ok.nofr e) (I.ok.noex b o e), I.base.free b o (I.ok.bs b o e).1 (I.ok.bs b o e).2 (I.ok.noex b o e)⟩
theorem Inv.bk (I : Inv X pins σ H s) : ∀ b o, X.base.get? b = some o → s.heap.get? b = some o := fun b o e => (I.bs b o e).1
theorem Inv.mod (I : Inv X pins σ H s) : Mod X.K X.mg X.base := I.ok.mod
theorem Inv.kIn (I : Inv X pins σ H s) : X.K.In s.heap := I.ok.mod.kin.keeps I.bk
theorem Inv.nolimit (I : Inv X pins σ H s) : s.heap.NoLimit := I.ok.mod.nolimit.keeps I.bk
/-- the frame over the base: for OpenK's rules (K.In X.base is I.mod.kin) -/
theorem Inv.fr (I : Inv X pins σ H s) : ∃ m, Fr X.base X.env.locals s.heap m :=
  let ⟨m, hn, _⟩ := I.loc
  ⟨m, hn, I.bk, Nat.le_trans I.ok.bsz I.ok.above⟩
theorem Inv.lt (I : Inv X pins σ H s) : X.env.locals < s.heap.objs.size := let ⟨_, hn, _⟩ := I.loc; hn.lt
theorem Inv.sz (I : Inv X pins σ H s) : X.s₀.heap.objs.size ≤ s.heap.objs.size := Nat.le_trans I.ok.above (Nat.le_of_lt I.lt)
theorem Inv.nofs (I : Inv X pins σ H s) {a : Addr} (h : s.heap.objs.size ≤ a) : a ∉ X.fs := fun hb => by
  obtain ⟨_, o, ho, _⟩ := I.ok.funs.mem hb
  exact absurd (Nat.lt_of_lt_of_le (Heap.lt_size ho) (Nat.le_trans I.sz h)) (Nat.lt_irrefl _)
theorem Inv.cne (I : Inv X pins σ H s) : ∀ x c, X.env.cells.lookup x = some c → c ≠ X.env.locals := fun x c e z => by
  obtain ⟨v, o, ho, hd⟩ := I.cell x c e
  obtain ⟨m, ⟨o', es, ep, ho', hd', _⟩, _⟩ := I.loc
  rw [z, ho'] at ho; cases ho; rw [hd'] at hd; cases hd
theorem Inv.funs (I : Inv X pins σ H s) : s.heap.FunFrames X.base X.outer := by
  have all : ∀ (l : List Env), (∀ b ∈ frs l, b ∈ X.fs) → X.s₀.heap.FunFrames X.base l → s.heap.FunFrames X.base l := by
    intro l
    induction l with
    | nil => intro _ _; trivial
    | cons env r ih =>
      intro hs hl
      obtain ⟨hk, ⟨L, o, hf, hn, ho, hd⟩, hr⟩ := hl
      have hL : L ∈ X.fs := hs L (by unfold frs; rw [List.filterMap_cons, hf]; exact List.mem_cons_self)
      obtain ⟨sl, e⟩ := I.base.slot L o ho (I.ok.frf L hL) hL fun z => I.ok.exfs L z hL
      exact ⟨hk, ⟨L, _, hf, hn, e, hd⟩, ih (fun b hb => hs b (by unfold frs; rw [List.filterMap_cons, hf]; exact List.mem_cons_of_mem _ hb)) hr⟩
  exact all X.outer (fun _ hb => hb) I.ok.funs

/-- the frames that run, for a call -/
theorem Inv.stack (I : Inv X pins σ H s) : s.heap.FunFrames X.base X.stack := by
  rcases I.ok.stk with e | ⟨e, hf⟩
  · rw [e]; exact I.funs
  · rw [e]
    obtain ⟨m, hn, _⟩ := I.loc
    refine .cons (by rw [I.ok.kind]; decide) hf hn ?_ I.funs
    exact Heap.get?_none_of_le (Nat.le_trans I.ok.bsz I.ok.above)
theorem Inv.stkSub (I : Inv X pins σ H s) : ∀ b ∈ frs X.stack, b ∈ X.env.locals :: X.fs := fun b hb => by
  rcases I.ok.stk with e | ⟨e, hf⟩
  · rw [e] at hb; exact List.mem_cons_of_mem _ hb
  · rw [e] at hb
    unfold frs at hb
    rw [List.filterMap_cons, hf] at hb
    exact hb
theorem Inv.stkFree (I : Inv X pins σ H s) : ∀ b ∈ frs X.stack, H b = none := fun b hb => by
  rcases List.mem_cons.mp (I.stkSub b hb) with e | hb
  · rw [e]; exact I.free
  · obtain ⟨_, o, ho, _⟩ := I.ok.funs.mem hb
    exact I.base.free b o ho (I.ok.frf b hb) fun z => I.ok.exfs b z hb

/-- THE STEP: the untracked objects but the frame and the records at ch are kept (the callers' frames up to slots), the frame's map is kept, the new abstract heap is held -/
theorem Inv.step {g' : Array GenState} {t' : Nat} {d' : Drawn} {ch : List Addr} (I : Inv X pins σ H s)
    (hch : ∀ b ∈ ch, (b ∈ X.ex ∨ X.s₀.heap.objs.size ≤ b) ∧ b ≠ X.env.locals ∧ (∀ x c, X.env.cells.lookup x = some c → c ≠ b) ∧ ∀ p ∈ X.pn ++ pins, p.1 ≠ b)
    (keep : ∀ b o, b ≠ X.env.locals → b ∉ X.fs → b ∉ ch → s.heap.get? b = some o → H b = none → h'.get? b = some o)
    (slot : ∀ b o, b ≠ X.env.locals → b ∈ X.fs → b ∉ ch → s.heap.get? b = some o → H b = none → ∃ sl, h'.get? b = some { o with slots := sl }) (free : ∀ b o, b ∉ ch → s.heap.get? b = some o → H b = none → H' b = none)
    (there : ∀ b o, b ∉ ch → s.heap.get? b = some o → ∃ o', h'.get? b = some o')
    (tups : ∀ b xs, H b = some (.tup xs) → H' b = some (.tup xs)) (frzs : ∀ b o u, H b = some (.frz o u) → H' b = some (.frz o u)) (tbls : ∀ b ps, H b = some (.tbl ps) → ∃ more, H' b = some (.tbl (ps ++ more)))
    (ns : ∀ m, s.heap.Ns X.env.locals m → h'.Ns X.env.locals m) (hok : HOk X.prog X.w H' h') (hg : AllBare g') :
    Inv X pins σ H' { s with heap := h', gens := g', drawn := d', toks := t' } := by
  have neL : ∀ b o, X.s₀.heap.get? b = some o → b ≠ X.env.locals := fun b o e => Nat.ne_of_lt (Nat.lt_of_lt_of_le (Heap.lt_size e) I.ok.above)
  have neC : ∀ b o, X.s₀.heap.get? b = some o → b ∉ X.ex → b ∉ ch := fun b o e hx hb => by
    rcases (hch b hb).1 with z | z
    · exact hx z
    · exact absurd (Nat.lt_of_lt_of_le (Heap.lt_size e) z) (Nat.lt_irrefl _)
  have cellK : ∀ x c, X.env.cells.lookup x = some c → ∀ v, s.heap.IsCell c v → h'.IsCell c v := fun x c e v ⟨o, ho, hd⟩ => by
    have nch : c ∉ ch := fun z => (hch c z).2.2.1 x c e rfl
    by_cases hc : c ∈ X.fs
    · obtain ⟨sl, q⟩ := slot c o (I.cne x c e) hc nch ho (I.freeC x c e)
      exact ⟨_, q, hd⟩
    · exact ⟨o, keep c o (I.cne x c e) hc nch ho (I.freeC x c e), hd⟩
  refine ⟨I.ok, I.os, hg, ⟨fun b o e n hb hx => ?_, fun b o e n hb hx => ?_, fun b o e n hx => ?_, fun b o e hx => ?_, fun b xs e => tups b xs (I.base.tups b xs e), fun b o xs e => frzs b o xs (I.base.frzs b o xs e), fun b ps e => ?_⟩, ?_, fun x c e => ?_, ?_, fun x c e => ?_, fun p hp => ?_, hok, I.len⟩
  · exact keep b o (neL b o e) hb (neC b o e hx) (I.base.keep b o e n hb hx) (I.base.free b o e n hx)
  · obtain ⟨sl, e1⟩ := I.base.slot b o e n hb hx
    obtain ⟨sl', e2⟩ := slot b _ (neL b o e) hb (neC b o e hx) e1 (I.base.free b o e n hx)
    exact ⟨sl', e2⟩
  · obtain ⟨o', e1⟩ := I.base.there b o e hx
    exact free b o' (neC b o e hx) e1 (I.base.free b o e n hx)
  · obtain ⟨o', e1⟩ := I.base.there b o e hx
    exact there b o' (neC b o e hx) e1
  · obtain ⟨m1, e1⟩ := I.base.tbls b ps e
    obtain ⟨m2, e2⟩ := tbls b _ e1
    exact ⟨m1 ++ m2, by rw [e2, Array.append_assoc]⟩
  · obtain ⟨m, hn, hl⟩ := I.loc
    refine ⟨m, ns m hn, fun i x v e1 e2 e3 => ?_⟩
    obtain ⟨u, r, l⟩ := hl i x v e1 e2 e3
    refine ⟨u, r, ?_⟩
    rcases l with l | ⟨k, c, e, z⟩
    · exact .inl l
    · exact .inr ⟨k, c, e, cellK x c e _ z⟩
  · obtain ⟨v, z⟩ := I.cell x c e
    exact ⟨v, cellK x c e v z⟩
  · obtain ⟨m, ⟨o, _, _, ho, _⟩, _⟩ := I.loc
    exact free _ o (fun z => (hch _ z).2.1 rfl) ho I.free
  · obtain ⟨v, o, ho, hd⟩ := I.cell x c e
    exact free c o (fun z => (hch c z).2.2.1 x c e rfl) ho (I.freeC x c e)
  · obtain ⟨e, n, ne, nf, d⟩ := I.pin p hp
    have nch : p.1 ∉ ch := fun z => (hch p.1 z).2.2.2 p hp rfl
    exact ⟨keep p.1 p.2 ne nf nch e n, free p.1 p.2 nch e n, ne, nf, d⟩
/-- .. where the frame's own object is kept too -/
theorem Inv.un {t' : Nat} (I : Inv X pins σ H s) (u : Un X.fs [] H H' s.heap h') (hok : HOk X.prog X.w H' h') : Inv X pins σ H' { s with heap := h', toks := t' } := by
  obtain ⟨m, ⟨o, es, ep, ho, r⟩, _⟩ := id I.loc
  obtain ⟨sl, hL⟩ := u.any ho I.free (by simp)
  exact I.step (g' := s.gens) (d' := s.drawn) (ch := []) (fun _ z => nomatch z) (fun b o _ hb _ e n => u.keep b o e n hb (by simp)) (fun b o _ hb _ e n => u.slot b o e n hb (by simp)) (fun b o _ e n => u.free b o e n (by simp)) (fun b o _ e => u.there b o e (by simp)) u.tups u.frzs u.tbls (fun m' hm => by
    obtain ⟨o', es', ep', ho', r'⟩ := hm
    rw [ho] at ho'; cases ho'
    exact ⟨_, es', ep', hL, r'⟩) hok I.bare
/-- behind a call (or a comprehension's block): the slots of this frame may have changed too, the records at ch may have turned -/
theorem Inv.call {g' : Array GenState} {t' : Nat} {d' : Drawn} {ch : List Addr} (I : Inv X pins σ H s) (u : Un (frs X.stack) ch H H' s.heap h') (hok : HOk X.prog X.w H' h') (hg : AllBare g')
    (hch : ∀ b ∈ ch, (b ∈ X.ex ∨ X.s₀.heap.objs.size ≤ b) ∧ b ≠ X.env.locals ∧ (∀ x c, X.env.cells.lookup x = some c → c ≠ b) ∧ ∀ p ∈ X.pn ++ pins, p.1 ≠ b) :
    Inv X pins σ H' { s with heap := h', gens := g', drawn := d', toks := t' } := by
  obtain ⟨m, ⟨o, es, ep, ho, r⟩, _⟩ := id I.loc
  obtain ⟨sl, hL⟩ := u.any ho I.free fun z => (hch _ z).2.1 rfl
  exact I.step (ch := ch) hch (fun b o hL hb hc e n => u.keep b o e n (fun z => (List.mem_cons.mp (I.stkSub b z)).elim hL hb) hc) (fun b o _ _ hc e n => u.any e n hc) (fun b o hc e n => u.free b o e n hc) (fun b o hc e => u.there b o e hc) u.tups u.frzs u.tbls (fun m' hm => by
    obtain ⟨o', es', ep', ho', r'⟩ := hm
    rw [ho] at ho'; cases ho'
    exact ⟨_, es', ep', hL, r'⟩) hok hg
/-- an untracked record of ours (an iterator) has turned -/
theorem Inv.turned {t' : Nat} {it : Addr} (I : Inv X pins σ H s) (k : ∀ b o, b ≠ it → s.heap.get? b = some o → h'.get? b = some o) (hn : H it = none) (hL : it ≠ X.env.locals)
    (h1 : it ∈ X.ex ∨ X.s₀.heap.objs.size ≤ it) (h2 : ∀ x c, X.env.cells.lookup x = some c → c ≠ it) (h3 : ∀ p ∈ X.pn ++ pins, p.1 ≠ it) : Inv X pins σ H { s with heap := h', toks := t' } := by
  have nit : ∀ b u, H b = some u → b ≠ it := fun b u e z => by rw [z, hn] at e; cases e
  refine I.step (g' := s.gens) (d' := s.drawn) (ch := [it]) (fun b hb => ?_) (fun b o _ _ hc e _ => k b o (fun z => hc (by simp [z])) e) (fun b o _ _ hc e _ => ⟨o.slots, k b o (fun z => hc (by simp [z])) e⟩) (fun _ _ _ _ n => n)
    (fun b o hc e => ⟨o, k b o (fun z => hc (by simp [z])) e⟩) (fun _ _ e => e) (fun _ _ _ e => e) (fun b ps e => ⟨#[], by rw [e]; simp⟩) (fun m hm => ?_) (fun b u e => ?_) I.bare
  · have e : b = it := by simpa using hb
    subst e
    exact ⟨h1, hL, h2, h3⟩
  · obtain ⟨o, es, ep, ho, r⟩ := hm
    exact ⟨o, es, ep, k _ o (Ne.symm hL) ho, r⟩
  · refine (I.hok b u e).stay (fun c v hc q => k c v ?_ q) (fun _ q => q) fun _ _ q => q
    rcases hc with z | z
    · rw [z]; exact nit b u e
    · exact nit c _ z
theorem Inv.tok (I : Inv X pins σ H s) (t : Nat) : Inv X pins σ H { s with toks := t } := I.un (h' := s.heap) (t' := t) Un.refl I.hok
/-- all objects kept -/
theorem Inv.kept {t' : Nat} (I : Inv X pins σ H s) (k : ∀ b u, s.heap.get? b = some u → h'.get? b = some u) : Inv X pins σ H { s with heap := h', toks := t' } := I.un (Un.kept k) (I.hok.kept k)
/-- a new object laid and tracked -/
theorem Inv.laid {a : Addr} {o : HO} {t' : Nat} (I : Inv X pins σ H s) (k : ∀ b u, s.heap.get? b = some u → h'.get? b = some u) (hp : s.heap.objs.size ≤ a) (new : ObjOk X.prog X.w (upd H a o) h' a o) :
    Inv X pins σ (upd H a o) { s with heap := h', toks := t' } := I.un (Un.laid k hp (I.hok.fresh hp)) (I.hok.laid k hp new)
/-- an object written -/
theorem Inv.write {x e : Addr} {o : HO} {t' : Nat} (I : Inv X pins σ H s) (mu : Mut (H x)) (he : e = x ∨ H e = some (.own x)) (k : ∀ b u, b ≠ e → s.heap.get? b = some u → h'.get? b = some u) (heo : ∃ u, h'.get? e = some u)
    (new : ObjOk X.prog X.w (upd H x o) h' x o) : Inv X pins σ (upd H x o) { s with heap := h', toks := t' } := I.un (Un.write mu he k heo) (I.hok.write mu he k heo new)
/-- forgetting slots, pins -/
theorem Inv.weak {σ' : List (Option V)} (I : Inv X pins σ H s) (hl : σ'.length = σ.length) (w : ∀ (i : Nat) v, σ'[i]? = some (some v) → σ[i]? = some (some v)) : Inv X pins σ' H s :=
  ⟨I.ok, I.os, I.bare, I.base, let ⟨m, hn, hl'⟩ := I.loc; ⟨m, hn, fun i x v e1 e2 e3 => hl' i x v e1 (w i v e2) e3⟩, I.cell, I.free, I.freeC, I.pin, I.hok, hl.trans I.len⟩
theorem Inv.pins_of {pins' : List (Addr × Obj)} (I : Inv X pins σ H s) (h : ∀ p ∈ pins', s.heap.get? p.1 = some p.2 ∧ H p.1 = none ∧ p.1 ≠ X.env.locals ∧ p.1 ∉ X.fs ∧ ∀ v, p.2.data ≠ .cell v) : Inv X pins' σ H s :=
  ⟨I.ok, I.os, I.bare, I.base, I.loc, I.cell, I.free, I.freeC, fun p hp => (List.mem_append.mp hp).elim (fun z => I.pin p (List.mem_append_left _ z)) (h p), I.hok, I.len⟩

theorem nodup_ix {N : List Str} (hN : N.Nodup) {i j : Nat} {x : Str} (a : N[i]? = some x) (b : N[j]? = some x) : i = j := by
  obtain ⟨h1, e1⟩ := List.getElem?_eq_some_iff.mp a
  obtain ⟨h2, e2⟩ := List.getElem?_eq_some_iff.mp b
  exact (List.getElem_inj hN).mp (e1.trans e2.symm)

/-- a name is stored; what changed -/
theorem store_ok2 {M : Model} {A : Around} {E : Value → Shared → Prop} {i : Nat} {x : Str} {v : V} {u : Value} {Q : Unit → Shared → Prop} (I : Inv X pins σ H s) (hN : X.N.Nodup) (hi : X.N[i]? = some x) (hx : Loc X.env.scope x) (r : RelV v u)
    (h : ∀ s', Inv X pins (σ.set i (some v)) H s' → (∃ a, Heap.SameBut a s.heap s'.heap ∧ (a = X.env.locals ∨ X.env.cells.lookup x = some a)) → Q () s') (hf : X.fn x = true ∨ X.env.scope.names.lookup x = some .local := by first | exact .inl rfl | exact .inr rfl | assumption) : wpAny M A (storeName X.env x u) Q E s := by
  obtain ⟨m, hn, hl⟩ := id I.loc
  have hcls : (X.env.scope.kind == .class || (X.env.scope.kind == .module && X.env.locals != X.env.globals)) = false := by rw [I.ok.kind]; rfl
  have hiσ : i < σ.length := by rw [I.len]; exact (List.getElem?_eq_some_iff.mp hi).1
  have cne := I.cne
  have tracked : ∀ {a : Addr} {h' : Heap}, (∃ o, s.heap.get? a = some o ∧ H a = none) → Heap.SameBut a s.heap h' → HOk X.prog X.w H h' := fun {a h'} ha hs b ob e => by
    obtain ⟨_, _, hfree⟩ := ha
    refine (I.hok b ob e).stay (fun c w' hc q => (hs.2 c ?_).trans q) (fun _ q => q) fun _ _ q => q
    rintro rfl
    rcases hc with rfl | hc
    · rw [hfree] at e; cases e
    · rw [hfree] at hc; cases hc
  rcases hx with hk | hk
  · refine wpAny_storeName_local hk hn (fun h' hn' hs => ?_) hcls
    obtain ⟨oL, _, _, hoL, _⟩ := id hn
    refine h _ ⟨I.ok, I.os, I.bare, ⟨fun b o e n hb hx => ?_, fun b o e n hb hx => ?_, I.base.free, fun b o e hx => ?_, I.base.tups, I.base.frzs, I.base.tbls⟩, ⟨_, hn', fun j y v' e1 e2 e3 => ?_⟩, fun y c e => ?_, I.free, I.freeC, fun p hp => ?_, tracked ⟨oL, hoL, I.free⟩ hs, by simpa using I.len⟩ ⟨_, hs, .inl rfl⟩
    · exact (hs.2 b (Nat.ne_of_lt (Nat.lt_of_lt_of_le (Heap.lt_size e) I.ok.above))).trans (I.base.keep b o e n hb hx)
    · obtain ⟨sl, e1⟩ := I.base.slot b o e n hb hx
      exact ⟨sl, (hs.2 b (Nat.ne_of_lt (Nat.lt_of_lt_of_le (Heap.lt_size e) I.ok.above))).trans e1⟩
    · obtain ⟨o', e1⟩ := I.base.there b o e hx
      exact ⟨o', (hs.2 b (Nat.ne_of_lt (Nat.lt_of_lt_of_le (Heap.lt_size e) I.ok.above))).trans e1⟩
    · by_cases hj : j = i
      · subst hj
        rw [hi] at e1; cases e1
        rw [List.getElem?_set_self hiσ] at e2
        cases e2
        exact ⟨u, r, .inl ⟨hk, by simp⟩⟩
      · rw [List.getElem?_set_ne (Ne.symm hj)] at e2
        obtain ⟨u', r', q⟩ := hl j y v' e1 e2 e3
        refine ⟨u', r', ?_⟩
        rcases q with ⟨k, e⟩ | ⟨k, c, e, z⟩
        · refine .inl ⟨k, ?_⟩
          have : y ≠ x := fun e => hj (nodup_ix hN e1 (e ▸ hi))
          simp [this, e]
        · exact .inr ⟨k, c, e, z.sameBut hs (cne y c e)⟩
    · obtain ⟨w', z⟩ := I.cell y c e
      exact ⟨w', z.sameBut hs (cne y c e)⟩
    · obtain ⟨e, n, ne, nf, d⟩ := I.pin p hp
      exact ⟨(hs.2 p.1 ne).trans e, n, ne, nf, d⟩
  · have hfn : X.fn x = true := by
      rcases hf with z | z
      · exact z
      · rw [z] at hk; cases hk
    obtain ⟨c, hc⟩ := I.ok.has x (.inl hk)
    obtain ⟨w', z⟩ := I.cell x c hc
    refine wpAny_storeName_cell I.ok.kind hk hc z (fun h' hc' hs => ?_)
    obtain ⟨oc, hoc, hocd⟩ := id z
    refine h { s with heap := h' } ⟨I.ok, I.os, I.bare, ⟨fun b o e n hb hx => ?_, fun b o e n hb hx => ?_, I.base.free, fun b o e hx => ?_, I.base.tups, I.base.frzs, I.base.tbls⟩, ⟨m, hn.sameBut hs (Ne.symm (cne x c hc)), fun j y v' e1 e2 e3 => ?_⟩, fun y c' e => ?_, I.free, I.freeC, fun p hp => ?_, tracked ⟨oc, hoc, I.freeC x c hc⟩ hs, by simpa using I.len⟩ ⟨c, hs, .inr hc⟩
    · exact (hs.2 b (Nat.ne_of_lt (Nat.lt_of_lt_of_le (Heap.lt_size e) (I.ok.cab x c hfn hc)))).trans (I.base.keep b o e n hb hx)
    · obtain ⟨sl, e1⟩ := I.base.slot b o e n hb hx
      exact ⟨sl, (hs.2 b (Nat.ne_of_lt (Nat.lt_of_lt_of_le (Heap.lt_size e) (I.ok.cab x c hfn hc)))).trans e1⟩
    · obtain ⟨o', e1⟩ := I.base.there b o e hx
      exact ⟨o', (hs.2 b (Nat.ne_of_lt (Nat.lt_of_lt_of_le (Heap.lt_size e) (I.ok.cab x c hfn hc)))).trans e1⟩
    · by_cases hj : j = i
      · subst hj
        rw [hi] at e1; cases e1
        rw [List.getElem?_set_self hiσ] at e2
        cases e2
        exact ⟨u, r, .inr ⟨.inl hk, c, hc, hc'⟩⟩
      · rw [List.getElem?_set_ne (Ne.symm hj)] at e2
        obtain ⟨u', r', q⟩ := hl j y v' e1 e2 e3
        refine ⟨u', r', ?_⟩
        rcases q with q | ⟨k, c', e, z'⟩
        · exact .inl q
        · refine .inr ⟨k, c', e, z'.sameBut hs ?_⟩
          rintro rfl
          exact hj (nodup_ix hN e1 (I.ok.inj _ _ _ e hc ▸ hi))
    · by_cases hcc : c' = c
      · subst hcc; exact ⟨_, hc'⟩
      · obtain ⟨w2, z2⟩ := I.cell y c' e
        exact ⟨w2, z2.sameBut hs hcc⟩
    · obtain ⟨e, n, ne, nf, d⟩ := I.pin p hp
      refine ⟨(hs.2 p.1 ?_).trans e, n, ne, nf, d⟩
      intro q
      rw [q, hoc] at e
      have q' : oc = p.2 := Option.some.inj e
      exact d w' (by rw [← q']; exact hocd)
theorem store_ok {M : Model} {A : Around} {E : Value → Shared → Prop} {i : Nat} {x : Str} {v : V} {u : Value} {Q : Unit → Shared → Prop} (I : Inv X pins σ H s) (hN : X.N.Nodup) (hi : X.N[i]? = some x) (hx : Loc X.env.scope x) (r : RelV v u)
    (h : ∀ s', Inv X pins (σ.set i (some v)) H s' → Q () s') (hf : X.fn x = true ∨ X.env.scope.names.lookup x = some .local := by first | exact .inl rfl | exact .inr rfl | assumption) : wpAny M A (storeName X.env x u) Q E s :=
  store_ok2 I hN hi hx r (fun s' I' _ => h s' I') hf
/-- behind a call or a block, the state as it is -/
theorem Inv.call' {s' : Shared} {ch : List Addr} (I : Inv X pins σ H s) (ho : s'.os = s.os) (u : Un (frs X.stack) ch H H' s.heap s'.heap) (hok : HOk X.prog X.w H' s'.heap) (hg : AllBare s'.gens)
    (hch : ∀ b ∈ ch, (b ∈ X.ex ∨ X.s₀.heap.objs.size ≤ b) ∧ b ≠ X.env.locals ∧ (∀ x c, X.env.cells.lookup x = some c → c ≠ b) ∧ ∀ p ∈ X.pn ++ pins, p.1 ≠ b) : Inv X pins σ H' s' := by
  obtain ⟨h', g', d', t', o'⟩ := s'
  have e : o' = s.os := ho
  subst e
  exact I.call (g' := g') (t' := t') (d' := d') u hok hg hch
end

/-! ### the judgements -/
/-- an exception: its class, its own dict's address (where it has one), the abstract heap behind it -/
abbrev XK := Value → Option Addr → Hp → Prop
abbrev St := List (Option V)
abbrev VK := V → Hp → Prop
/-- an expression's reading; a test's; an argument list's -/
abbrev TE := St → Hp → VK → Prop
abbrev TT := St → Hp → (Bool → Hp → Prop) → Prop
abbrev TA := St → Hp → (List V → Hp → Prop) → Prop
/-- what is wanted behind a statement -/
structure Ends where
  nx : St → Hp → Prop
  rt : VK
  bk : St → Hp → Prop := fun _ _ => False
  ct : St → Hp → Prop := fun _ _ => False
abbrev TS := Ends → St → Hp → Prop

def EP (X : Cx) (pins : List (Addr × Obj)) (σ : St) (Q : VK) (u : Value) (s' : Shared) : Prop := ∃ v H', Inv X pins σ H' s' ∧ RelV v u ∧ Q v H'
def TP (X : Cx) (pins : List (Addr × Obj)) (σ : St) (Q : Bool → Hp → Prop) (b : Bool) (s' : Shared) : Prop := ∃ H', Inv X pins σ H' s' ∧ Q b H'
def AP (X : Cx) (pins : List (Addr × Obj)) (σ : St) (Q : List V → Hp → Prop) (us : List Value) (s' : Shared) : Prop := ∃ vs H', Inv X pins σ H' s' ∧ Vals vs us ∧ Q vs H'
def SP (X : Cx) (pins : List (Addr × Obj)) (D : Ends) (f : Flow) (s' : Shared) : Prop :=
  match f with
  | .next => ∃ σ' H', Inv X pins σ' H' s' ∧ D.nx σ' H'
  | .brk => ∃ σ' H', Inv X pins σ' H' s' ∧ D.bk σ' H'
  | .cont => ∃ σ' H', Inv X pins σ' H' s' ∧ D.ct σ' H'
  | .ret u => ∃ v σ' H', Inv X pins σ' H' s' ∧ RelV v u ∧ D.rt v H'

def PE (X : Cx) (e : Expr) (t : TE) : Prop :=
  ∀ (pins : List (Addr × Obj)) (s : Shared) (σ : St) (H : Hp) (Q : VK), Inv X pins σ H s → t σ H Q → wpAny (model X.prog X.w) X.A (eval e X.env) (EP X pins σ Q) X.xe s
def PT (X : Cx) (e : Expr) (t : TT) : Prop :=
  ∀ (pins : List (Addr × Obj)) (s : Shared) (σ : St) (H : Hp) (Q : Bool → Hp → Prop), Inv X pins σ H s → t σ H Q → wpAny (model X.prog X.w) X.A (isTrue e X.env (eval e X.env)) (TP X pins σ Q) X.xe s
/-- a test whatever its 'whole' is (and, or) -/
def PW (X : Cx) (e : Expr) (t : TT) : Prop :=
  ∀ (whole : Sem Value) (pins : List (Addr × Obj)) (s : Shared) (σ : St) (H : Hp) (Q : Bool → Hp → Prop), Inv X pins σ H s → t σ H Q → wpAny (model X.prog X.w) X.A (isTrue e X.env whole) (TP X pins σ Q) X.xe s
theorem PW.pt {X : Cx} {e : Expr} {t : TT} (h : PW X e t) : PT X e t := h _
/-- an argument list (no star), from the left -/
def PA (X : Cx) (es : List Expr) (t : TA) : Prop :=
  ∀ (pos : Pos) (pins : List (Addr × Obj)) (s : Shared) (σ : St) (H : Hp) (Q : List V → Hp → Prop), Inv X pins σ H s → t σ H Q → wpAny (model X.prog X.w) X.A (spliced (backTo pos (starEach es X.env))) (AP X pins σ Q) X.xe s
def PS (X : Cx) (st : Stmt) (t : TS) : Prop :=
  ∀ (pins : List (Addr × Obj)) (s : Shared) (σ : St) (H : Hp) (D : Ends), Inv X pins σ H s → t D σ H → wpAny (model X.prog X.w) X.A (exec st X.env) (SP X pins D) X.xe s
def PSs (X : Cx) (st : List Stmt) (t : TS) : Prop :=
  ∀ (pins : List (Addr × Obj)) (s : Shared) (σ : St) (H : Hp) (D : Ends), Inv X pins σ H s → t D σ H → wpAny (model X.prog X.w) X.A (execs st X.env) (SP X pins D) X.xe s
/-- weaken the end -/
theorem thn {α : Type} {t : Sem α} {Q Q' : α → Shared → Prop} {M : Model} {A : Around} {E : Value → Shared → Prop} {s : Shared} (h : wpAny M A t Q E s) (hQ : ∀ a s, Q a s → Q' a s) : wpAny M A t Q' E s := wpAny_mono h hQ fun _ _ x => x
end L2

namespace L2
open PySem PySem.Spec PyProof.Rows
section
variable {X : Cx}

/-- two expressions in a row -/
theorem bin {a b : Expr} {ta tb : TE} (ha : PE X a ta) (hb : PE X b tb) {pins : List (Addr × Obj)} {s : Shared} {σ : St} {H : Hp} {R : V → V → Hp → Prop} (I : Inv X pins σ H s) (h : ta σ H fun x H1 => tb σ H1 fun y H2 => R x y H2)
    {α : Type} {Q : α → Shared → Prop} {f : Value → Value → Sem α}
    (hf : ∀ v u s2 x y H2, Inv X pins σ H2 s2 → RelV x v → RelV y u → R x y H2 → wpAny (model X.prog X.w) X.A (f v u) Q X.xe s2) :
    wpAny (model X.prog X.w) X.A (eval a X.env) (fun v s₁ => wpAny (model X.prog X.w) X.A (eval b X.env) (fun u s₂ => wpAny (model X.prog X.w) X.A (f v u) Q X.xe s₂) X.xe s₁) X.xe s := by
  refine thn (ha pins s σ H _ I h) fun v s1 ⟨x, H1, I1, r1, q1⟩ => ?_
  refine thn (hb pins s1 σ H1 _ I1 q1) fun u s2 ⟨y, H2, I2, r2, q2⟩ => ?_
  exact hf v u s2 x y H2 I2 r1 r2 q2

/-! ### names and constants -/
def tVar (i : Nat) : TE := fun σ H Q => ∃ v, σ[i]? = some (some v) ∧ Q v H
def tC (v : V) : TE := fun _ H Q => Q v H
theorem pe_var {i : Nat} {x : Str} {pos : Pos} (hN : X.N[i]? = some x) (hv : Vis X.env.scope x) (hd : (x == ("__debug__" : Str)) = false := by decide) (hcd : (x == ("__classdict__" : Str)) = false := by decide) : PE X (.Name x pos) (tVar i) := by
  intro pins s σ H Q I h
  obtain ⟨v, e, h⟩ := h
  obtain ⟨m, hn, hl⟩ := I.loc
  obtain ⟨u, r, l⟩ := hl i x v hN e hv
  have fin : EP X pins σ Q u s := ⟨v, H, I, r, h⟩
  rcases l with ⟨hk, hm⟩ | ⟨hk, c, hc, hcell⟩
  · exact wpAny_Name (wpAny_loadName_local I.ok.kind hk hn hm fin) hd
  · rcases hk with hk | hk
    · exact wpAny_Name (wpAny_loadName_cell I.ok.kind hk hc hcell fin) hd
    · exact wpAny_Name (wpAny_loadName_free I.ok.kind hk hc hcell fin hcd) hd
theorem pe_int {i j pos} : PE X (.Constant (.int i) j pos) (tC (.int i)) := fun _ _ _ H _ I h => wpAny_Constant_int ⟨.int i, H, I.tok _, ⟨_, rfl⟩, h⟩
theorem pe_bl {b j pos} : PE X (.Constant (.bool b) j pos) (tC (.bl b)) := fun _ _ _ H _ I h => Constant_bool ⟨.bl b, H, I, rfl, h⟩
theorem pe_non {j pos} : PE X (.Constant .none j pos) (tC .non) := fun _ _ _ H _ I h => Constant_none ⟨.non, H, I, rfl, h⟩
theorem pe_str {x j pos} : PE X (.Constant (.str x) j pos) (tC (.str x)) := fun _ _ _ H _ I h => Calls.Constant_str ⟨.str x, H, I.tok _, ⟨_, rfl⟩, h⟩

/-- a global name of the def -/
def Gl (X : Cx) (x : Str) : Prop := X.env.kindOf x = some .globalImplicit
theorem ld_glob {E : Value → Shared → Prop} {pins : List (Addr × Obj)} {s : Shared} {σ : St} {H : Hp} {x : Str} {u : Value} {pos : Pos} {Q : Value → Shared → Prop} (I : Inv X pins σ H s) (hg : Gl X x) (hm : X.mg x = some u) (h : Q u s)
    (hd : (x == ("__debug__" : Str)) = false := by decide) : wpAny (model X.prog X.w) X.A (eval (.Name x pos) X.env) Q E s :=
  Calls.Name_function_global I.ok.kind hg (Calls.loadGlobal_global (by rw [I.ok.glob]; exact I.mod.glob.keeps I.bk) hm h) hd
theorem ld_blt {E : Value → Shared → Prop} {pins : List (Addr × Obj)} {s : Shared} {σ : St} {H : Hp} {x : Str} {u : Value} {pos : Pos} {Q : Value → Shared → Prop} (I : Inv X pins σ H s) (hg : Gl X x) (hm : X.mg x = none) (hv : bootBuiltins x = some u) (h : Q u s)
    (hn : x ≠ "__name__" := by decide) (hd : (x == ("__debug__" : Str)) = false := by decide) : wpAny (model X.prog X.w) X.A (eval (.Name x pos) X.env) Q E s := by
  obtain ⟨mb, h1, h2⟩ := I.mod.blt
  exact Calls.Name_function_global I.ok.kind hg (Calls.loadGlobal_builtin (by rw [I.ok.glob]; exact I.mod.glob.keeps I.bk) hm (by rw [I.ok.blt]; exact h1.keeps I.bk) ((h2 x hn).trans hv) h) hd
/-- a module's constant, a class, a function, as a value -/
theorem pe_glob {x : Str} {v : V} {u : Value} {pos : Pos} (hg : Gl X x) (hm : X.mg x = some u) (r : RelV v u) (hd : (x == ("__debug__" : Str)) = false := by decide) : PE X (.Name x pos) (tC v) :=
  fun _ _ _ H _ I h => ld_glob I hg hm ⟨v, H, I, r, h⟩ hd
theorem pe_bltn {x : Str} {v : V} {u : Value} {pos : Pos} (hg : Gl X x) (hm : X.mg x = none) (hv : bootBuiltins x = some u) (r : RelV v u) (hn : x ≠ "__name__" := by decide) (hd : (x == ("__debug__" : Str)) = false := by decide) : PE X (.Name x pos) (tC v) :=
  fun _ _ _ H _ I h => ld_blt I hg hm hv ⟨v, H, I, r, h⟩ hn hd

/-! ### arithmetic -/
/-- two ints -/
def t2I (ta tb : TE) (k : Int → Int → Hp → Prop) : St → Hp → Prop := fun σ H => ta σ H fun x H1 => tb σ H1 fun y H2 => ∃ i j, x = .int i ∧ y = .int j ∧ k i j H2
def tAdd (ta tb : TE) : TE := fun σ H Q => t2I ta tb (fun i j H2 => Q (.int (i + j)) H2) σ H
def tSub (ta tb : TE) : TE := fun σ H Q => t2I ta tb (fun i j H2 => Q (.int (i - j)) H2) σ H
/-- the left factor below 2^64 -/
def tMul (ta tb : TE) : TE := fun σ H Q => t2I ta tb (fun i j H2 => (-(2 ^ 64) < i ∧ i < 2 ^ 64) ∧ Q (.int (i * j)) H2) σ H
variable {a b : Expr} {ta tb : TE} {pos : Pos}
theorem pe_add (ha : PE X a ta) (hb : PE X b tb) : PE X (.BinOp a .Add b pos) (tAdd ta tb) := by
  intro pins s σ H Q I h
  refine wpAny_BinOp (bin ha hb I h fun v u s2 x y H2 I2 rx ry q => ?_)
  obtain ⟨i, j, rfl, rfl, q⟩ := q
  obtain ⟨t, rfl⟩ := rx
  obtain ⟨t', rfl⟩ := ry
  exact add_int ⟨.int _, H2, I2.tok _, ⟨_, rfl⟩, q⟩
theorem pe_sub (ha : PE X a ta) (hb : PE X b tb) : PE X (.BinOp a .Sub b pos) (tSub ta tb) := by
  intro pins s σ H Q I h
  refine wpAny_BinOp (bin ha hb I h fun v u s2 x y H2 I2 rx ry q => ?_)
  obtain ⟨i, j, rfl, rfl, q⟩ := q
  obtain ⟨t, rfl⟩ := rx
  obtain ⟨t', rfl⟩ := ry
  exact sub_int ⟨.int _, H2, I2.tok _, ⟨_, rfl⟩, q⟩
theorem pe_mul (ha : PE X a ta) (hb : PE X b tb) : PE X (.BinOp a .Mult b pos) (tMul ta tb) := by
  intro pins s σ H Q I h
  refine wpAny_BinOp (bin ha hb I h fun v u s2 x y H2 I2 rx ry q => ?_)
  obtain ⟨i, j, rfl, rfl, ⟨q1, q2⟩, q⟩ := q
  obtain ⟨t, rfl⟩ := rx
  obtain ⟨t', rfl⟩ := ry
  exact mul_int ⟨.int _, H2, I2.tok _, ⟨_, rfl⟩, q⟩ (.of_left (intBits_le_64 q1 q2))

/-! ### comparisons -/
def PC (X : Cx) (op : CmpOp) (a b : Expr) (t : TE) : Prop :=
  ∀ (pins : List (Addr × Obj)) (s : Shared) (σ : St) (H : Hp) (Q : VK), Inv X pins σ H s → t σ H Q →
    wpAny (model X.prog X.w) X.A (eval a X.env) (fun v s₁ => wpAny (model X.prog X.w) X.A (eval b X.env) (fun u s₂ => wpAny (model X.prog X.w) X.A (compareOp op v u) (EP X pins σ Q) X.xe s₂) X.xe s₁) X.xe s
theorem nobehind (b : Expr) {op : CmpOp} (h : op ≠ .In) (h2 : op ≠ .NotIn) : behindInMarks op b = false := by
  have e1 : (op == CmpOp.In) = false := by cases op <;> first | rfl | exact absurd rfl h
  have e2 : (op == CmpOp.NotIn) = false := by cases op <;> first | rfl | exact absurd rfl h2
  cases b <;> simp [behindInMarks, e1, e2]
def tCmp (p : Int → Int → Bool) (ta tb : TE) : TE := fun σ H Q => t2I ta tb (fun i j H2 => Q (.bl (p i j)) H2) σ H
abbrev tLt : TE → TE → TE := tCmp fun i j => decide (i < j)
abbrev tLe : TE → TE → TE := tCmp fun i j => decide (i ≤ j)
abbrev tGt : TE → TE → TE := tCmp fun i j => decide (j < i)
abbrev tGe : TE → TE → TE := tCmp fun i j => decide (j ≤ i)
abbrev tEqI : TE → TE → TE := tCmp fun i j => decide (i = j)
abbrev tNeI : TE → TE → TE := tCmp fun i j => !decide (i = j)
/-- a comparison of two ints, by its rule -/
theorem pc_int {op : CmpOp} {p : Int → Int → Bool} (ha : PE X a ta) (hb : PE X b tb)
    (rule : ∀ (i j : Int) (t u : Tok) (Q : Value → Shared → Prop) (s : Shared), Q (.bool (p i j)) s → wpAny (model X.prog X.w) X.A (compareOp op (.int i t) (.int j u)) Q X.xe s) : PC X op a b (tCmp p ta tb) := by
  intro pins s σ H Q I h
  refine bin ha hb I h fun v u s2 x y H2 I2 rx ry q => ?_
  obtain ⟨i, j, rfl, rfl, q⟩ := q
  obtain ⟨t, rfl⟩ := rx
  obtain ⟨t', rfl⟩ := ry
  exact rule i j t t' _ s2 ⟨.bl _, H2, I2, rfl, q⟩
theorem pc_lt (ha : PE X a ta) (hb : PE X b tb) : PC X .Lt a b (tLt ta tb) := pc_int ha hb fun _ _ _ _ _ _ h => lt_int h
theorem pc_le (ha : PE X a ta) (hb : PE X b tb) : PC X .LtE a b (tLe ta tb) := pc_int ha hb fun _ _ _ _ _ _ h => le_int h
theorem pc_gt (ha : PE X a ta) (hb : PE X b tb) : PC X .Gt a b (tGt ta tb) := pc_int ha hb fun _ _ _ _ _ _ h => gt_int h
theorem pc_ge (ha : PE X a ta) (hb : PE X b tb) : PC X .GtE a b (tGe ta tb) := pc_int ha hb fun _ _ _ _ _ _ h => ge_int h
theorem pc_eqI (ha : PE X a ta) (hb : PE X b tb) : PC X .Eq a b (tEqI ta tb) := pc_int ha hb fun _ _ _ _ _ _ h => eq_int (by rw [Bool.beq_eq_decide_eq]; exact h)
theorem pc_neI (ha : PE X a ta) (hb : PE X b tb) : PC X .NotEq a b (tNeI ta tb) := pc_int ha hb fun _ _ _ _ _ _ h => ne_int (by rw [bne, Bool.beq_eq_decide_eq]; exact h)
/-- is None -/
def tIsN (ta : TE) : TE := fun σ H Q => ta σ H fun x H1 => Q (.bl (decide (x = .non))) H1
def tNotN (ta : TE) : TE := fun σ H Q => ta σ H fun x H1 => Q (.bl (!decide (x = .non))) H1
theorem RelV.none_iff {x : V} {v : Value} (r : RelV x v) : (v == Value.none) = decide (x = .non) := by
  cases x with
  | non => cases r; rfl
  | bl _ => cases r; rfl
  | int _ => obtain ⟨t, rfl⟩ := r; rfl
  | str _ => obtain ⟨t, rfl⟩ := r; rfl
  | byt _ => obtain ⟨t, rfl⟩ := r; rfl
  | flt _ => obtain ⟨t, rfl⟩ := r; rfl
  | ref _ => cases r; rfl
  | ty _ => cases r; rfl
theorem pc_isN {j pos'} (ha : PE X a ta) : PC X .Is a (.Constant .none j pos') (tIsN ta) := by
  intro pins s σ H Q I h
  refine thn (ha pins s σ H _ I h) fun v s1 ⟨x, H1, I1, r1, q1⟩ => ?_
  exact Constant_none (is_none_gen ⟨.bl _, H1, I1, by rw [r1.none_iff]; rfl, q1⟩)
theorem pc_notN {j pos'} (ha : PE X a ta) : PC X .IsNot a (.Constant .none j pos') (tNotN ta) := by
  intro pins s σ H Q I h
  refine thn (ha pins s σ H _ I h) fun v s1 ⟨x, H1, I1, r1, q1⟩ => ?_
  exact Constant_none (isnot_none_gen ⟨.bl _, H1, I1, by rw [r1.none_iff]; rfl, q1⟩)
/-- a comparison as a value, as a test -/
def tB (t : TE) : TT := fun σ H Q => t σ H fun x H1 => ∃ c, x = .bl c ∧ Q c H1
theorem pe_cmp {op : CmpOp} {t : TE} (h : PC X op a b t) (h1 : behindInMarks op b = false := by first | exact nobehind _ (by decide) (by decide) | rfl) : PE X (.Compare a [op] [b] pos) t := fun pins s σ H Q I hw => wpAny_Compare1 (h pins s σ H Q I hw) h1
theorem pt_cmp {op : CmpOp} {t : TE} (h : PC X op a b t) (h1 : behindInMarks op b = false := by first | exact nobehind _ (by decide) (by decide) | rfl) : PT X (.Compare a [op] [b] pos) (tB t) := by
  intro pins s σ H Q I hw
  refine wpAny_isTrue_Compare1 (thn (h pins s σ H _ I hw) fun v s1 h1 => thn h1 fun u s2 h2 => thn h2 fun c s3 ⟨x, H1, I1, r1, q1⟩ => ?_) h1
  obtain ⟨d, rfl, q⟩ := q1
  cases r1
  exact wpAny_truthy_bool ⟨H1, I1, q⟩
/-- an expression whose value is a bool, as a test -/
theorem pt_val {e : Expr} {t : TE} (h : PE X e t) (he : ∀ whole, isTrue e X.env whole = (do let v ← whole; standAt e.pos; holding [v] (truthy v)) := by intro _; rfl) : PT X e (tB t) := by
  intro pins s σ H Q I hw
  refine isTrue_plain (thn (h pins s σ H _ I hw) fun v s1 ⟨x, H1, I1, r1, q1⟩ => ?_) (he _)
  obtain ⟨d, rfl, q⟩ := q1
  cases r1
  exact wpAny_truthy_bool ⟨H1, I1, q⟩

/-! ### and, or, not -/
variable {tA tB' : TT} {rest : List Expr}
def tAnd (t u : TT) : TT := fun σ H Q => t σ H fun c H1 => if c = true then u σ H1 Q else Q false H1
def tOr (t u : TT) : TT := fun σ H Q => t σ H fun c H1 => if c = true then Q true H1 else u σ H1 Q
def tNot (t : TT) : TT := fun σ H Q => t σ H fun c H1 => Q (!c) H1
theorem pw_and1 (ha : PT X a tA) : PW X (.BoolOp .And [a] pos) tA := by
  intro wh pins s σ H Q I h
  refine isTrue_and (thn (ha pins s σ H Q I h) fun c s1 e => ?_)
  cases c with
  | true => exact isTrue_and_nil e
  | false => exact e
theorem pw_or1 (ha : PT X a tA) : PW X (.BoolOp .Or [a] pos) tA := by
  intro wh pins s σ H Q I h
  refine isTrue_or (thn (ha pins s σ H Q I h) fun c s1 e => ?_)
  cases c with
  | false => exact isTrue_or_nil e
  | true => exact e
theorem pw_and (ha : PT X a tA) (hb : PW X (.BoolOp .And (b :: rest) pos) tB') : PW X (.BoolOp .And (a :: b :: rest) pos) (tAnd tA tB') := by
  intro wh pins s σ H Q I h
  refine isTrue_and (thn (ha pins s σ H _ I h) fun c s1 ⟨H1, I1, q1⟩ => ?_)
  cases c with
  | true => exact hb wh pins s1 σ H1 Q I1 q1
  | false => exact ⟨H1, I1, q1⟩
theorem pw_or (ha : PT X a tA) (hb : PW X (.BoolOp .Or (b :: rest) pos) tB') : PW X (.BoolOp .Or (a :: b :: rest) pos) (tOr tA tB') := by
  intro wh pins s σ H Q I h
  refine isTrue_or (thn (ha pins s σ H _ I h) fun c s1 ⟨H1, I1, q1⟩ => ?_)
  cases c with
  | true => exact ⟨H1, I1, q1⟩
  | false => exact hb wh pins s1 σ H1 Q I1 q1
theorem pt_not (ha : PT X a tA) : PT X (.UnaryOp .Not a pos) (tNot tA) := by
  intro pins s σ H Q I h
  exact isTrue_not (ha pins s σ H (fun c H1 => Q (!c) H1) I h)
/-- .. as values (bools) -/
def tAndV (ta tb : TE) : TE := fun σ H Q => ta σ H fun x H1 => ∃ c, x = .bl c ∧ if c = true then tb σ H1 Q else Q (.bl false) H1
def tOrV (ta tb : TE) : TE := fun σ H Q => ta σ H fun x H1 => ∃ c, x = .bl c ∧ if c = true then Q (.bl true) H1 else tb σ H1 Q
def tNotV (ta : TE) : TE := fun σ H Q => ta σ H fun x H1 => ∃ c, x = .bl c ∧ Q (.bl (!c)) H1
theorem pe_one {op} {t : TE} (h : PE X a t) : PE X (.BoolOp op [a] pos) t := fun pins s σ H Q I hw => BoolOp_one (h pins s σ H Q I hw)
theorem pe_and (ha : PE X a ta) (hb : PE X (.BoolOp .And (b :: rest) pos) tb) : PE X (.BoolOp .And (a :: b :: rest) pos) (tAndV ta tb) := by
  intro pins s σ H Q I h
  refine BoolOp_and (thn (ha pins s σ H _ I h) fun v s1 ⟨x, H1, I1, r1, q1⟩ => ?_)
  obtain ⟨c, rfl, q1⟩ := q1
  cases r1
  refine wpAny_truthy_bool ?_
  cases c with
  | true => exact hb pins s1 σ H1 Q I1 q1
  | false => exact ⟨.bl false, H1, I1, rfl, q1⟩
theorem pe_or (ha : PE X a ta) (hb : PE X (.BoolOp .Or (b :: rest) pos) tb) : PE X (.BoolOp .Or (a :: b :: rest) pos) (tOrV ta tb) := by
  intro pins s σ H Q I h
  refine BoolOp_or (thn (ha pins s σ H _ I h) fun v s1 ⟨x, H1, I1, r1, q1⟩ => ?_)
  obtain ⟨c, rfl, q1⟩ := q1
  cases r1
  refine wpAny_truthy_bool ?_
  cases c with
  | false => exact hb pins s1 σ H1 Q I1 q1
  | true => exact ⟨.bl true, H1, I1, rfl, q1⟩
theorem pe_not (ha : PE X a ta) : PE X (.UnaryOp .Not a pos) (tNotV ta) := by
  intro pins s σ H Q I h
  refine UnaryOp_ (thn (ha pins s σ H _ I h) fun v s1 ⟨x, H1, I1, r1, q1⟩ => ?_)
  obtain ⟨c, rfl, q1⟩ := q1
  cases r1
  exact not_of (wpAny_truthy_bool ⟨.bl (!c), H1, I1, rfl, q1⟩)
/-- a if t else b -/
def tIf (t : TT) (ta tb : TE) : TE := fun σ H Q => t σ H fun c H1 => if c = true then ta σ H1 Q else tb σ H1 Q
theorem pe_ifExp {c : Expr} (hc : PT X c tA) (ha : PE X a ta) (hb : PE X b tb) : PE X (.IfExp c a b pos) (tIf tA ta tb) := by
  intro pins s σ H Q I h
  refine wpAny_IfExp (thn (hc pins s σ H _ I h) fun d s1 ⟨H1, I1, q1⟩ => ?_)
  cases d with
  | true => exact ha pins s1 σ H1 Q I1 q1
  | false => exact hb pins s1 σ H1 Q I1 q1
end
end L2

namespace L2
open PySem PySem.Spec PyProof.Rows

/-! ### a list, a tuple that is read: tracked, frozen, or an object of the module -/
def SqL (K : PySem.W.Frag) (H : Hp) (a : Addr) (xs : List V) : Prop :=
  Rd H a (.lst xs) ∨
    ∃ (o : Obj) (its : Array Value) (n : Nat), K.lookup a = some o ∧ o.cls = .type "list" ∧ o.dict = none ∧ o.data = .seq its n ∧ its.size ≤ sizeLine ∧ Vals xs its.toList
def SqT (K : PySem.W.Frag) (H : Hp) (a : Addr) (xs : List V) : Prop :=
  Rd H a (.tup xs) ∨
    ∃ (o : Obj) (its : Array Value) (n : Nat), K.lookup a = some o ∧ o.cls = .type "tuple" ∧ o.data = .seq its n ∧ its.size ≤ sizeLine ∧ Vals xs its.toList
def absV : Value → Option V
  | .none => some .non
  | .bool b => some (.bl b)
  | .int i _ => some (.int i)
  | .str x _ => some (.str x)
  | .bytes b _ => some (.byt b)
  | .float b _ => some (.flt b)
  | .ref a => some (.ref a)
  | .type n => some (.ty n)
  | _ => none
theorem RelV.abs {x : V} {u : Value} (r : RelV x u) : absV u = some x := by
  cases x with
  | non => cases r; rfl
  | bl _ => cases r; rfl
  | int _ => obtain ⟨t, rfl⟩ := r; rfl
  | str _ => obtain ⟨t, rfl⟩ := r; rfl
  | byt _ => obtain ⟨t, rfl⟩ := r; rfl
  | flt _ => obtain ⟨t, rfl⟩ := r; rfl
  | ref _ => cases r; rfl
  | ty _ => cases r; rfl
theorem RelV.inj {x y : V} {u : Value} (r : RelV x u) (q : RelV y u) : x = y := Option.some.inj (r.abs.symm.trans q.abs)
theorem Vals.inj : ∀ {xs ys : List V} {us : List Value}, Vals xs us → Vals ys us → xs = ys
  | _, _, _, .nil, .nil => rfl
  | _, _, _, .cons r t, .cons r' t' => by rw [r.inj r', Vals.inj t t']
section
variable {X : Cx} {pins : List (Addr × Obj)} {σ : St} {H : Hp} {s : Shared} {a : Addr} {xs ys : List V}
theorem SqL.of {K : PySem.W.Frag} (h : H a = some (.lst xs)) : SqL K H a xs := .inl (.inl h)
theorem SqT.of {K : PySem.W.Frag} (h : H a = some (.tup xs)) : SqT K H a xs := .inl (.inl h)
theorem Inv.list (I : Inv X pins σ H s) (h : SqL X.K H a xs) : ∃ its : List Value, Vals xs its ∧ PlainL s.heap a its.toArray ∧ xs.length ≤ sizeLine := by
  rcases h with h | ⟨o, its, n, hk, hc, hd, hs, hz, r⟩
  · obtain ⟨z, its, n, r, e⟩ := h.ok I.hok
    exact ⟨its, r, ⟨_, n, e, rfl, rfl, rfl⟩, z⟩
  · refine ⟨its.toList, r, ⟨o, n, I.kIn a o hk, hc, hd, by simpa using hs⟩, ?_⟩
    have e := r.length
    simp only [Array.length_toList] at e
    omega
theorem Inv.tuple (I : Inv X pins σ H s) (h : SqT X.K H a xs) : ∃ its : List Value, Vals xs its ∧ IsTup s.heap a its.toArray ∧ xs.length ≤ sizeLine := by
  rcases h with h | ⟨o, its, n, hk, hc, hs, hz, r⟩
  · obtain ⟨z, its, r, p⟩ := h.ok I.hok
    exact ⟨its, r, p, z⟩
  · refine ⟨its.toList, r, ⟨o, I.kIn a o hk, hc, n, by simpa using hs⟩, ?_⟩
    have e := r.length
    simp only [Array.length_toList] at e
    omega
theorem Inv.list_inj (I : Inv X pins σ H s) (h : SqL X.K H a xs) (h' : SqL X.K H a ys) : xs = ys := by
  obtain ⟨its, r, ⟨o, n, e, _, _, d⟩, _⟩ := I.list h
  obtain ⟨its', r', ⟨o', n', e', _, _, d'⟩, _⟩ := I.list h'
  rw [e] at e'; cases e'
  rw [d] at d'
  injection d' with d1 _
  have : its = its' := by simpa using congrArg Array.toList d1
  subst this
  exact r.inj r'
theorem Inv.tuple_inj (I : Inv X pins σ H s) (h : SqT X.K H a xs) (h' : SqT X.K H a ys) : xs = ys := by
  obtain ⟨its, r, ⟨o, e, _, n, d⟩, _⟩ := I.tuple h
  obtain ⟨its', r', ⟨o', e', _, n', d'⟩, _⟩ := I.tuple h'
  rw [e] at e'; cases e'
  rw [d] at d'
  injection d' with d1 _
  have : its = its' := by simpa using congrArg Array.toList d1
  subst this
  exact r.inj r'
end

/-! ### another wish about exceptions -/
abbrev Cx.wish (X : Cx) (E : Value → Shared → Prop) : Cx := { X with xe := E }
/-- no exception leaves -/
abbrev Cx.nox (X : Cx) : Cx := X.wish fun _ _ => False
theorem Cx.Ok.wish {X : Cx} (ok : X.Ok) (E : Value → Shared → Prop) : (X.wish E).Ok :=
  ⟨ok.mod, ok.kind, ok.glob, ok.blt, ok.above, ok.inj, ok.has, ok.cab, ok.hd, ok.frames, ok.stk, ok.exf, ok.bs, ok.bsz, ok.noex, ok.exfs, ok.funs, ok.frf⟩
theorem Cx.Ok.unwish {X : Cx} {E : Value → Shared → Prop} (ok : (X.wish E).Ok) : X.Ok :=
  ⟨ok.mod, ok.kind, ok.glob, ok.blt, ok.above, ok.inj, ok.has, ok.cab, ok.hd, ok.frames, ok.stk, ok.exf, ok.bs, ok.bsz, ok.noex, ok.exfs, ok.funs, ok.frf⟩
section
variable {X : Cx} {pins : List (Addr × Obj)} {σ : St} {H : Hp} {s : Shared} {E : Value → Shared → Prop}
theorem Inv.wish (I : Inv X pins σ H s) (E : Value → Shared → Prop) : Inv (X.wish E) pins σ H s := ⟨I.ok.wish E, I.os, I.bare, I.base, I.loc, I.cell, I.free, I.freeC, I.pin, I.hok, I.len⟩
theorem Inv.unwish (I : Inv (X.wish E) pins σ H s) : Inv X pins σ H s := ⟨I.ok.unwish, I.os, I.bare, I.base, I.loc, I.cell, I.free, I.freeC, I.pin, I.hok, I.len⟩
theorem SP.unwish {D : Ends} {f : Flow} {s' : Shared} (h : SP (X.wish E) pins D f s') : SP X pins D f s' := by
  cases f with
  | next => obtain ⟨σ', H', I, q⟩ := h; exact ⟨σ', H', I.unwish, q⟩
  | brk => obtain ⟨σ', H', I, q⟩ := h; exact ⟨σ', H', I.unwish, q⟩
  | cont => obtain ⟨σ', H', I, q⟩ := h; exact ⟨σ', H', I.unwish, q⟩
  | ret u => obtain ⟨v, σ', H', I, r, q⟩ := h; exact ⟨v, σ', H', I.unwish, r, q⟩
theorem PE.nox {e : Expr} {t : TE} (h : PE X.nox e t) : PE X e t := fun pins s σ H Q I hw =>
  wpAny_mono (h pins s σ H Q (I.wish _) hw) (fun _ _ ⟨v, H', I', r, q⟩ => ⟨v, H', I'.unwish, r, q⟩) fun _ _ z => False.elim z
theorem PT.nox {e : Expr} {t : TT} (h : PT X.nox e t) : PT X e t := fun pins s σ H Q I hw =>
  wpAny_mono (h pins s σ H Q (I.wish _) hw) (fun _ _ ⟨H', I', q⟩ => ⟨H', I'.unwish, q⟩) fun _ _ z => False.elim z
theorem PSs.nox {st : List Stmt} {t : TS} (h : PSs X.nox st t) : PSs X st t := fun pins s σ H D I hw =>
  wpAny_mono (h pins s σ H D (I.wish _) hw) (fun _ _ q => q.unwish) fun _ _ z => False.elim z
end

/-! ### blocks and small statements -/
section
variable {X : Cx} {st : Stmt} {rest : List Stmt} {t u : TS} {e : Expr} {te : TE} {pos : Pos}
def tNext : TS := fun D σ H => D.nx σ H
def tSeq (t u : TS) : TS := fun D σ H => t { D with nx := u D } σ H
theorem pss_nil : PSs X [] tNext := fun _ _ σ H _ I h => wpAny_execs_nil ⟨σ, H, I, h⟩
theorem pss_cons (h1 : PS X st t) (h2 : PSs X rest u) : PSs X (st :: rest) (tSeq t u) := by
  intro pins s σ H D I h
  refine wpAny_execs_cons (thn (h1 pins s σ H { D with nx := u D } I h) fun f s1 q => ?_)
  cases f with
  | next =>
    obtain ⟨σ', H', I', q⟩ := q
    exact h2 pins s1 σ' H' D I' q
  | ret v => exact q
  | brk => exact q
  | cont => exact q
theorem pss_one (h1 : PS X st t) : PSs X [st] t := by
  intro pins s σ H D I h
  refine wpAny_execs_cons (thn (h1 pins s σ H D I h) fun f s1 q => ?_)
  cases f with
  | next => exact wpAny_execs_nil q
  | ret v => exact q
  | brk => exact q
  | cont => exact q
def tBreak : TS := fun D σ H => D.bk σ H
def tCont : TS := fun D σ H => D.ct σ H
theorem ps_pass : PS X (.Pass pos) tNext := fun _ _ σ H _ I h => wpAny_Pass ⟨σ, H, I, h⟩
theorem ps_break : PS X (.Break pos) tBreak := fun _ _ σ H _ I h => wpAny_Break ⟨σ, H, I, h⟩
theorem ps_continue : PS X (.Continue pos) tCont := fun _ _ σ H _ I h => wpAny_Continue ⟨σ, H, I, h⟩
/-- in a def's body nothing is shown -/
theorem Inv.quiet {pins : List (Addr × Obj)} {σ : St} {H : Hp} {s : Shared} (I : Inv X pins σ H s) : interactive X.env = false := by simp [interactive, I.ok.kind]
/-- a docstring -/
theorem ps_doc {x j pos pos'} : PS X (.Expr (.Constant (.str x) j pos) pos') tNext := fun _ s σ H _ I h => wpAny_Expr (Calls.Constant_str (show SP X _ _ .next { s with toks := s.toks + 1 } from ⟨σ, H, I.tok _, h⟩)) I.quiet
/-- an expression whose value is dropped -/
def tDrop (te : TE) : TS := fun D σ H => te σ H fun _ H1 => D.nx σ H1
theorem ps_expr (he : PE X e te) (hs : swapsWith e none pos.line X.env = pure false := by rfl) : PS X (.Expr e pos) (tDrop te) := by
  intro pins s σ H D I h
  exact wpAny_Expr_any (thn (he pins s σ H _ I h) fun v s1 ⟨x, H1, I1, r1, q1⟩ => ⟨σ, H1, I1, q1⟩) I.quiet hs
def tRet (te : TE) : TS := fun D σ H => te σ H D.rt
theorem ps_ret (he : PE X e te) : PS X (.Return (some e) pos) (tRet te) := by
  intro pins s σ H D I h
  exact wpAny_Return_some (thn (he pins s σ H _ I h) fun v s1 ⟨x, H1, I1, r1, q1⟩ => ⟨x, σ, H1, I1, r1, q1⟩)
def tRetN : TS := fun D _ H => D.rt .non H
theorem ps_retN : PS X (.Return none pos) tRetN := fun _ _ σ H _ I h => wpAny_Return_none ⟨.non, σ, H, I, rfl, h⟩
def tIfS (c : TT) (t u : TS) : TS := fun D σ H => c σ H fun b H1 => if b = true then t D σ H1 else u D σ H1
theorem ps_if {c : Expr} {a b : List Stmt} {tc : TT} (hc : PT X c tc) (ha : PSs X a t) (hb : PSs X b u) : PS X (.If c a b pos) (tIfS tc t u) := by
  intro pins s σ H D I h
  refine wpAny_If (thn (hc pins s σ H _ I h) fun d s1 ⟨H1, I1, q1⟩ => ?_)
  cases d with
  | true => exact ha pins s1 σ H1 D I1 q1
  | false => exact hb pins s1 σ H1 D I1 q1
/-- code that the proof never comes to -/
def tNever : TS := fun _ _ _ => False
theorem ps_never : PS X st tNever := fun _ _ _ _ _ _ h => h.elim
theorem pss_never {sts : List Stmt} : PSs X sts tNever := fun _ _ _ _ _ _ h => h.elim
end

/-! ### targets -/
abbrev TG := V → St → Hp → (St → Hp → Prop) → Prop
abbrev TGs := List V → St → Hp → (St → Hp → Prop) → Prop
def PG (X : Cx) (target : Expr) (t : TG) : Prop :=
  ∀ (pins : List (Addr × Obj)) (s : Shared) (σ : St) (H : Hp) (v : V) (u : Value) (Q : St → Hp → Prop), Inv X pins σ H s → RelV v u → t v σ H Q →
    wpAny (model X.prog X.w) X.A (assign target X.env u) (fun _ s' => ∃ σ' H', Inv X pins σ' H' s' ∧ Q σ' H') X.xe s
/-- several targets, one after another -/
def PGs (X : Cx) (ts : List Expr) (t : TGs) : Prop :=
  ∀ (pins : List (Addr × Obj)) (s : Shared) (σ : St) (H : Hp) (vs : List V) (us : List Value) (Q : St → Hp → Prop), Inv X pins σ H s → Vals vs us → t vs σ H Q →
    wpAny (model X.prog X.w) X.A (assignInOrder ((assignEach ts X.env).map (·.2)) us) (fun _ s' => ∃ σ' H', Inv X pins σ' H' s' ∧ Q σ' H') X.xe s
/-- o[i] = v, by values -/
abbrev TSet := V → V → V → Hp → (Hp → Prop) → Prop
def PSet (X : Cx) (t : TSet) : Prop :=
  ∀ (pins : List (Addr × Obj)) (s : Shared) (σ : St) (H : Hp) (o i v : V) (ov iv u : Value) (Q : Hp → Prop), Inv X pins σ H s → RelV o ov → RelV i iv → RelV v u → t o i v H Q →
    wpAny (model X.prog X.w) X.A (setItem ov iv u) (fun _ s' => ∃ H', Inv X pins σ H' s' ∧ Q H') X.xe s
/-- a op= b, by values -/
abbrev TIp := V → V → Hp → VK → Prop
def PIp (X : Cx) (op : Operator) (t : TIp) : Prop :=
  ∀ (pins : List (Addr × Obj)) (s : Shared) (σ : St) (H : Hp) (x y : V) (v u : Value) (Q : VK), Inv X pins σ H s → RelV x v → RelV y u → t x y H Q →
    wpAny (model X.prog X.w) X.A (inplaceOp op v u) (EP X pins σ Q) X.xe s
section
variable {X : Cx} {pos : Pos}
def gName (i : Nat) : TG := fun v σ H Q => Q (σ.set i (some v)) H
theorem pg_name {i : Nat} {x : Str} (hN : X.N.Nodup) (hi : X.N[i]? = some x) (hx : Loc X.env.scope x) (hf : X.fn x = true ∨ X.env.scope.names.lookup x = some .local := by first | exact .inl rfl | exact .inr rfl | assumption) : PG X (.Name x pos) (gName i) := by
  intro pins s σ H v u Q I r h
  exact wpAny_assign_Name (store_ok I hN hi hx r (fun s' I' => ⟨_, H, I', h⟩) hf)
def gNil : TGs := fun vs σ H Q => vs = [] ∧ Q σ H
def gCons (t : TG) (u : TGs) : TGs := fun vs σ H Q => ∃ v r, vs = v :: r ∧ t v σ H fun σ' H' => u r σ' H' Q
theorem pgs_nil : PGs X [] gNil := by
  intro pins s σ H vs us Q I r h
  obtain ⟨e, h⟩ := h
  subst e
  cases r
  exact assignInOrder_nil ⟨σ, H, I, h⟩
theorem pgs_cons {e : Expr} {es : List Expr} {t : TG} {u : TGs} (h1 : PG X e t) (h2 : PGs X es u)
    (hs : (assignEach (e :: es) X.env).map (·.2) = assign e X.env :: (assignEach es X.env).map (·.2) := by rfl) : PGs X (e :: es) (gCons t u) := by
  intro pins s σ H vs us Q I r h
  obtain ⟨v, vr, e1, h⟩ := h
  subst e1
  cases r with
  | cons r rr =>
    rw [hs]
    refine assignInOrder_cons (thn (h1 pins s σ H _ _ _ I r h) fun _ s1 ⟨σ1, H1, I1, q1⟩ => ?_)
    exact h2 pins s1 σ1 H1 _ _ Q I1 rr q1
/-- (a, b, ..) = a tuple of that length -/
def gTup (K : PySem.W.Frag) (n : Nat) (t : TGs) : TG := fun v σ H Q => ∃ a xs, v = .ref a ∧ SqT K H a xs ∧ xs.length = n ∧ t xs σ H Q
theorem pg_tup {es : List Expr} {k : Nat} {t : TGs} {n : Nat} (hc : X.calm = true) (h : PGs X es t)
    (hn : (assignEach es X.env).length = n := by rfl) (hst : (assignEach es X.env).findIdx? (·.1) = none := by rfl) : PG X (.Tuple es k pos) (gTup X.K n t) := by
  intro pins s σ H v u Q I r hw
  obtain ⟨a, xs, e1, hq, hl, hw⟩ := hw
  subst e1
  cases r
  obtain ⟨its, rv, ht, hz⟩ := I.tuple hq
  refine assign_Tuple_tuple (I.ok.hd hc) ht (by simp [hn, ← hl, rv.length]) hst fun h' hx => ?_
  have I1 : Inv X pins σ H { s with heap := h' } := I.kept (t' := s.toks) fun b o e => hx b o (Nat.ne_of_lt (Heap.lt_size e)) e
  exact h pins _ σ H xs _ Q I1 (by simpa using rv) hw
/-- o[i] = .. -/
def gSub (to ti : TE) (t : TSet) : TG := fun v σ H Q => to σ H fun o H1 => ti σ H1 fun i H2 => t o i v H2 fun H3 => Q σ H3
theorem pg_sub {o i : Expr} {to ti : TE} {t : TSet} (ho : PE X o to) (hi : PE X i ti) (hs : PSet X t)
    (ha : ∀ v, assign (.Subscript o i pos) X.env v = (do
      let ov ← holding [v] (eval o X.env)
      let iv ← holding [v, ov] (eval i X.env)
      standAt pos
      holding [v, ov, iv] (setItem ov iv v)
      release [v, ov, iv] []) := by intro _; rfl) : PG X (.Subscript o i pos) (gSub to ti t) := by
  intro pins s σ H v u Q I r h
  rw [ha]
  refine wpAny_bind (wpAny_holding (thn (ho pins s σ H _ I h) fun ov s1 ⟨x, H1, I1, r1, q1⟩ => ?_))
  refine wpAny_bind (wpAny_holding (thn (hi pins s1 σ H1 _ I1 q1) fun iv s2 ⟨y, H2, I2, r2, q2⟩ => ?_))
  refine wpAny_bind (wpAny_standAt (wpAny_bind (wpAny_holding (thn (hs pins s2 σ H2 x y v ov iv u _ I2 r1 r2 r q2) fun _ s3 ⟨H3, I3, q3⟩ => ?_))))
  exact wpAny_release ⟨σ, H3, I3, q3⟩
/-- target = value -/
def tAsg (te : TE) (g : TG) : TS := fun D σ H => te σ H fun x H1 => g x σ H1 D.nx
theorem ps_asg {tg e : Expr} {te : TE} {g : TG} (he : PE X e te) (hg : PG X tg g) (hs : swapsWithSole [tg] e pos.line X.env = pure false := by rfl) (hw : swappedStores [tg] e X.env = pure none := by rfl)
    (h1 : (assignEach [tg] X.env).map (·.2) = [assign tg X.env] := by rfl) : PS X (.Assign [tg] e pos) (tAsg te g) := by
  intro pins s σ H D I h
  refine wpAny_Assign_stores (thn (he pins s σ H _ I h) fun v s1 ⟨x, H1, I1, r1, q1⟩ => ?_) hs hw
  rw [h1]
  exact thn (hg pins s1 σ H1 x v _ I1 r1 q1) fun _ s2 q => q
/-- name = value -/
theorem ps_set {i : Nat} {x : Str} {e : Expr} {te : TE} {pos' : Pos} (hN : X.N.Nodup) (hi : X.N[i]? = some x) (hx : Loc X.env.scope x) (he : PE X e te) (hs : swapsWith e (some (.Name x pos')) pos.line X.env = pure false := by rfl) (hf : X.fn x = true ∨ X.env.scope.names.lookup x = some .local := by first | exact .inl rfl | exact .inr rfl | assumption) :
    PS X (.Assign [.Name x pos'] e pos) (tAsg te (gName i)) := by
  intro pins s σ H D I h
  refine wpAny_Assign_Name (thn (he pins s σ H _ I h) fun v s1 ⟨y, H1, I1, r1, q1⟩ => ?_) hs
  exact store_ok I1 hN hi hx r1 (fun s2 I2 => ⟨_, H1, I2, q1⟩) hf
/-- a, b = x, y with plain local names: stored from the right; the pair itself is not tracked (the opening rows as in PyProof/Rows/TupAssign.lean:23) -/
def tPar (i j : Nat) (ta : TA) : TS := fun D σ H => ta σ H fun vs H1 => ∃ v w, vs = [v, w] ∧ D.nx ((σ.set i (some v)).set j (some w)) H1
theorem ps_par {i j : Nat} {x y : Str} {a b : Expr} {ta : TA} {px py pt : Pos} {kt k2 pt2} (hc : X.calm = true) (hN : X.N.Nodup) (hi : X.N[i]? = some x) (hj : X.N[j]? = some y) (hij : i ≠ j)
    (hx : X.env.scope.names.lookup x = some .local) (hy : X.env.scope.names.lookup y = some .local) (ha : PA X [a, b] ta)
    (hw : swappedStores [.Tuple [.Name x px, .Name y py] kt pt] (.Tuple [a, b] k2 pt2) X.env = pure (some [x, y]))
    (hs : swapsWithSole [.Tuple [.Name x px, .Name y py] kt pt] (.Tuple [a, b] k2 pt2) pos.line X.env = pure false := by rfl) :
    PS X (.Assign [.Tuple [.Name x px, .Name y py] kt pt] (.Tuple [a, b] k2 pt2) pos) (tPar i j ta) := by
  intro pins s σ H D I h
  rw [exec_Assign_arm]
  refine wpAny_bind (wpAny_standAt ?_)
  rw [hs]
  refine wpAny_bind (wpAny_pure ?_)
  rw [if_neg (by decide)]
  refine wpAny_bind (Tuple_ (thn (ha _ pins s σ H _ I h) fun us s1 ⟨vs, H1, I1, r1, q1⟩ => ?_))
  obtain ⟨v, w, e1, q1⟩ := q1
  subst e1
  obtain ⟨u1, u2, rfl, rv, rw'⟩ : ∃ u1 u2, us = [u1, u2] ∧ RelV v u1 ∧ RelV w u2 := by
    cases r1 with
    | cons p q =>
      cases q with
      | cons p' q' =>
        cases q'
        exact ⟨_, _, rfl, p, p'⟩
  refine wpAny_newObj_type ?_ (by show 2 ≤ sizeLine; decide)
  have I2 : Inv X pins σ H1 { s1 with heap := s1.heap.push { cls := .type "tuple", data := .seq [u1, u2].toArray } } := I1.kept (t' := s1.toks) fun b o e => Heap.get?_push_of_some _ e
  rw [hw]
  refine wpAny_bind (wpAny_pure ?_)
  show wpAny (model X.prog X.w) X.A (do rule "assign.swapped-stores"; let items ← unpackItems (.ref s1.heap.objs.size) 2 none; assignInOrder [fun v => bindName X.env y v, fun v => bindName X.env x v] items.reverse; pure Flow.next) _ _ _
  refine wpAny_bind (wpAny_rule (wpAny_bind (unpackItems_tuple (items := #[u1, u2]) (I.ok.hd hc) (IsTup.new s1.heap _) fun h' hx' => ?_)))
  have I3 := I2.kept (h' := h') (t' := s1.toks) fun b o e => hx' b o (Nat.ne_of_lt (Heap.lt_size e)) e
  show wpAny _ _ (assignInOrder [fun v => bindName X.env y v, fun v => bindName X.env x v] [u2, u1] >>= fun _ => pure Flow.next) _ _ _
  refine wpAny_bind (assignInOrder_cons (wpAny_bindName (store_ok I3 hN hj (.inl hy) rw' (fun s2 I4 => ?_) (.inr hy))))
  refine assignInOrder_cons (wpAny_bindName (store_ok I4 hN hi (.inl hx) rv (fun s3 I5 => assignInOrder_nil (wpAny_pure ?_)) (.inr hx)))
  rw [List.set_comm _ _ (Ne.symm hij)] at I5
  exact ⟨_, H1, I5, q1⟩
/-- name op= e -/
def tAug (i : Nat) (te : TE) (ti : TIp) : TS := fun D σ H => ∃ x, σ[i]? = some (some x) ∧ te σ H fun y H1 => ti x y H1 fun z H2 => D.nx (σ.set i (some z)) H2
theorem ps_aug {i : Nat} {x : Str} {e : Expr} {te : TE} {op : Operator} {ti : TIp} {pos' : Pos} (hN : X.N.Nodup) (hi : X.N[i]? = some x) (hx : Loc X.env.scope x) (he : PE X e te) (ho : PIp X op ti) (hf : X.fn x = true ∨ X.env.scope.names.lookup x = some .local := by first | exact .inl rfl | exact .inr rfl | assumption) :
    PS X (.AugAssign (.Name x pos') op e pos) (tAug i te ti) := by
  intro pins s σ H D I h
  obtain ⟨v, e1, h⟩ := h
  obtain ⟨m, hn, hl⟩ := I.loc
  have vis : Vis X.env.scope x := by rcases hx with k | k; exact .inl k; exact .inr (.inl k)
  obtain ⟨u, r, l⟩ := hl i x v hi e1 vis
  refine wpAny_AugAssign_Name ?_
  have go : wpAny (model X.prog X.w) X.A (eval e X.env) (fun w s₂ => wpAny (model X.prog X.w) X.A (inplaceOp op u w) (fun r s₃ => wpAny (model X.prog X.w) X.A (storeName X.env x r) (fun _ => SP X pins D .next) X.xe s₃) X.xe s₂) X.xe s := by
    refine thn (he pins s σ H _ I h) fun w s1 ⟨y, H1, I1, r1, q1⟩ => ?_
    refine thn (ho pins s1 σ H1 v y u w _ I1 r r1 q1) fun z s2 ⟨zv, H2, I2, r2, q2⟩ => ?_
    exact store_ok I2 hN hi hx r2 (fun s3 I3 => ⟨_, H2, I3, q2⟩) hf
  rcases l with ⟨hk, hm⟩ | ⟨hk, c, hc, hcell⟩
  · exact wpAny_loadName_local I.ok.kind hk hn hm go
  · rcases hk with hk | hk
    · exact wpAny_loadName_cell I.ok.kind hk hc hcell go
    · rcases hx with k | k
      · have : X.env.scope.names.lookup x = some .free := hk
        rw [k] at this; cases this
      · have : X.env.scope.names.lookup x = some .free := hk
        rw [k] at this; cases this
/-- o[i] op= e -/
def tAugS (to ti te : TE) (tget : V → V → Hp → VK → Prop) (tip : TIp) (tset : TSet) : TS := fun D σ H => to σ H fun o H1 => ti σ H1 fun i H2 => tget o i H2 fun x H3 => te σ H3 fun y H4 => tip x y H4 fun z H5 => tset o i z H5 fun H6 => D.nx σ H6
/-- o[i], by values -/
def PGet (X : Cx) (t : V → V → Hp → VK → Prop) : Prop :=
  ∀ (pins : List (Addr × Obj)) (s : Shared) (σ : St) (H : Hp) (o i : V) (ov iv : Value) (Q : VK), Inv X pins σ H s → RelV o ov → RelV i iv → t o i H Q →
    wpAny (model X.prog X.w) X.A (getItem ov iv) (EP X pins σ Q) X.xe s
theorem ps_augS {o i e : Expr} {to ti te : TE} {tget : V → V → Hp → VK → Prop} {tip : TIp} {tset : TSet} {op : Operator} {tpos : Pos} (ho : PE X o to) (hi : PE X i ti) (hg : PGet X tget) (he : PE X e te) (hp : PIp X op tip) (hs : PSet X tset)
    (ha : ∀ ov iv new, augStore i ov iv new = (do holding [new, ov, iv] (setItem ov iv new); release [new, ov, iv] []; pure .next) := by intros; rfl) : PS X (.AugAssign (.Subscript o i tpos) op e pos) (tAugS to ti te tget tip tset) := by
  intro pins s σ H D I h
  refine wpAny_AugAssign_SubscriptAny (thn (ho pins s σ H _ I h) fun ov s1 ⟨x1, H1, I1, r1, q1⟩ => ?_) ha
  refine thn (hi pins s1 σ H1 _ I1 q1) fun iv s2 ⟨x2, H2, I2, r2, q2⟩ => ?_
  refine thn (hg pins s2 σ H2 x1 x2 ov iv _ I2 r1 r2 q2) fun old s3 ⟨x3, H3, I3, r3, q3⟩ => ?_
  refine thn (he pins s3 σ H3 _ I3 q3) fun v s4 ⟨x4, H4, I4, r4, q4⟩ => ?_
  refine thn (hp pins s4 σ H4 x3 x4 old v _ I4 r3 r4 q4) fun new s5 ⟨x5, H5, I5, r5, q5⟩ => ?_
  exact thn (hs pins s5 σ H5 x1 x2 x5 ov iv new _ I5 r1 r2 r5 q5) fun _ s6 ⟨H6, I6, q6⟩ => ⟨σ, H6, I6, q6⟩
/-- ints -/
def ipI (f : Int → Int → Int) : TIp := fun x y H Q => ∃ i j, x = .int i ∧ y = .int j ∧ Q (.int (f i j)) H
theorem ip_add : PIp X .Add (ipI fun i j => i + j) := by
  intro pins s σ H x y v u Q I r1 r2 h
  obtain ⟨i, j, e1, e2, q⟩ := h
  subst e1; subst e2
  obtain ⟨t, rfl⟩ := r1
  obtain ⟨t', rfl⟩ := r2
  exact iadd_int ⟨.int _, H, I.tok _, ⟨_, rfl⟩, q⟩
theorem ip_sub : PIp X .Sub (ipI fun i j => i - j) := by
  intro pins s σ H x y v u Q I r1 r2 h
  obtain ⟨i, j, e1, e2, q⟩ := h
  subst e1; subst e2
  obtain ⟨t, rfl⟩ := r1
  obtain ⟨t', rfl⟩ := r2
  exact isub_int ⟨.int _, H, I.tok _, ⟨_, rfl⟩, q⟩
end

/-! ### while -/
section
variable {X : Cx} {pos : Pos}
/-- the invariant W with its measure -/
def tWhile (c : TT) (tb : TS) : TS := fun D σ H => ∃ W : Nat → St → Hp → Prop, (∃ m, W m σ H) ∧ ∀ m σ H, W m σ H →
  c σ H fun b H1 => if b = true then ∃ N : St → Hp → Prop, (∀ σ' H', N σ' H' → ∃ m', m' < m ∧ W m' σ' H') ∧ tb { D with nx := N, ct := N, bk := D.nx } σ H1 else D.nx σ H1
theorem ps_while {c : Expr} {body : List Stmt} {tc : TT} {tb : TS} (hp : PassesOwn (model X.prog X.w) X.A X.env X.xe) (hc : PT X c tc) (hb : PSs X body tb) : PS X (.While c body [] pos) (tWhile tc tb) := by
  intro pins s σ H D I h
  obtain ⟨W, ⟨m0, w0⟩, turn⟩ := h
  refine wpAny_While (codeAny_whileLoop (fun n s' => ∃ σ' H', Inv X pins σ' H' s' ∧ W n σ' H') ?_ m0 ⟨σ, H, I, w0⟩)
  rintro n s1 ⟨σ1, H1, I1, w1⟩
  refine wpAny_passesOwn hp (thn (hc pins s1 σ1 H1 _ I1 (turn n σ1 H1 w1)) fun b s2 ⟨H2, I2, q2⟩ => ?_)
  cases b with
  | true =>
    obtain ⟨N, hN, q2⟩ := q2
    rw [if_pos rfl]
    refine wpAny_passesOwn hp (thn (hb pins s2 σ1 H2 _ I2 q2) fun f s3 q3 => ?_)
    cases f with
    | next =>
      obtain ⟨σ3, H3, I3, n3⟩ := q3
      obtain ⟨m', hm, w3⟩ := hN σ3 H3 n3
      exact ⟨m', hm, σ3, H3, I3, w3⟩
    | cont =>
      obtain ⟨σ3, H3, I3, n3⟩ := q3
      obtain ⟨m', hm, w3⟩ := hN σ3 H3 n3
      exact ⟨m', hm, σ3, H3, I3, w3⟩
    | brk => exact q3
    | ret v => exact q3
  | false =>
    rw [if_neg Bool.false_ne_true]
    exact wpAny_execs_nil ⟨σ1, H2, I2, q2⟩
end

/-! ### what a loop or a comprehension walks -/
/-- at turn i: it yields x (the heap may grow), or it stops -/
structure It where
  go : Nat → Hp → Prop
  yld : Nat → Hp → V → Hp → Prop
  stop : Nat → Hp → Prop
/-- the iterator's own objects may turn: they are not the frame's, not pinned, younger than the entry (or a comprehension's own) -/
def FpOk (X : Cx) (pins : List (Addr × Obj)) (H : Hp) (b : Addr) : Prop :=
  H b = none ∧ b ≠ X.env.locals ∧ b ∉ X.fs ∧ (b ∈ X.ex ∨ X.s₀.heap.objs.size ≤ b) ∧ (∀ x c, X.env.cells.lookup x = some c → c ≠ b) ∧ ∀ p ∈ X.pn ++ pins, p.1 ≠ b
theorem Inv.fpOk {X : Cx} {pins : List (Addr × Obj)} {σ : St} {H H' : Hp} {s : Shared} {b : Addr} (I : Inv X pins σ H s) (hb : s.heap.objs.size ≤ b) (hn : H' b = none) : FpOk X pins H' b := by
  refine ⟨hn, Nat.ne_of_gt (Nat.lt_of_lt_of_le I.lt hb), I.nofs hb, .inr (Nat.le_trans I.sz hb), fun x c e z => ?_, fun p hp z => ?_⟩
  · obtain ⟨v, q⟩ := I.cell x c e
    exact absurd (Nat.lt_of_lt_of_le q.lt (by rw [z]; exact hb)) (Nat.lt_irrefl _)
  · exact absurd (Nat.lt_of_lt_of_le (Heap.lt_size (I.pin p hp).1) (by rw [z]; exact hb)) (Nat.lt_irrefl _)
structure Turn (P : Program) (w : World) (K : PySem.W.Frag) (tg : Expr) (J : It) (fp : List Addr) (it : Addr) (tn : Nat → Heap → Prop) : Prop where
  mem : it ∈ fp
  obj : ∀ i h, tn i h → ∀ b ∈ fp, ∃ o, h.get? b = some o ∧ ∀ v, o.data ≠ .cell v
  keep : ∀ i h h', tn i h → (∀ b ∈ fp, ∀ o, h.get? b = some o → h'.get? b = some o) → tn i h'
  item : ∀ (X : Cx), X.prog = P → X.w = w → X.K = K → X.calm = true → ∀ (i : Nat) (pins : List (Addr × Obj)) (s : Shared) (σ : St) (H : Hp) (E : Value → Shared → Prop), Inv X pins σ H s → (∀ b ∈ fp, FpOk X pins H b) → tn i s.heap → J.go i H →
    wpAny (model P w) X.A (pyNext (.ref it)) (fun r s1 => ∃ u, r = some u ∧
      wpAny (model P w) X.A (letOwnedTupleGo tg (.ref it) u) (fun _ s2 => ∃ x H', Inv X pins σ H' s2 ∧ RelV x u ∧ J.yld i H x H' ∧ tn (i + 1) s2.heap ∧ ∀ b ∈ fp, H' b = none) E s1) E s
  done : ∀ (X : Cx), X.prog = P → X.w = w → X.K = K → X.calm = true → ∀ (i : Nat) (pins : List (Addr × Obj)) (s : Shared) (σ : St) (H : Hp) (E : Value → Shared → Prop), Inv X pins σ H s → (∀ b ∈ fp, FpOk X pins H b) → tn i s.heap → J.stop i H →
    wpAny (model P w) X.A (pyNext (.ref it)) (fun r s1 => r = none ∧ Inv X pins σ H s1) E s
  self : ∀ (A : Around) (i : Nat) (s : Shared) (Q : Value → Shared → Prop) (E : Value → Shared → Prop), tn i s.heap → Q (.ref it) s → wpAny (model P w) A (pyIter (.ref it)) Q E s
abbrev TI := St → Hp → (It → Hp → Prop) → Prop
/-- an iterator has come -/
def PIE (X : Cx) (pins : List (Addr × Obj)) (σ : St) (tg : Expr) (R : It → Hp → Prop) (itv : Value) (s2 : Shared) : Prop :=
  ∃ (it : Addr) (fp : List Addr) (tn : Nat → Heap → Prop) (J : It) (H' : Hp), itv = .ref it ∧ Inv X pins σ H' s2 ∧ Turn X.prog X.w X.K tg J fp it tn ∧ tn 0 s2.heap ∧ (∀ b ∈ fp, FpOk X pins H' b) ∧ R J H'
def PI (X : Cx) (tg iter : Expr) (wi : TI) : Prop :=
  ∀ (pins : List (Addr × Obj)) (s : Shared) (σ : St) (H : Hp) (R : It → Hp → Prop), Inv X pins σ H s → wi σ H R →
    wpAny (model X.prog X.w) X.A (eval iter X.env) (fun v s1 => wpAny (model X.prog X.w) X.A (pyIter v) (PIE X pins σ tg R) X.xe s1) X.xe s

/-- the step ahead of the store is nothing for an iterator that keeps no tuple -/
theorem go_of {M : Model} {A : Around} {E : Value → Shared → Prop} {s : Shared} {tg : Expr} {it : Addr} {u : Value} {o : Obj} {n : String} {vs : Array Value} {Q : Unit → Shared → Prop} (ho : s.heap.get? it = some o) (hc : o.cls = .type n) (hd : o.data = .fields vs)
    (hn : ["enumerate", "zip", "dict_itemiterator", "dict_reverseitemiterator", "odict_iterator", "itertools.zip_longest", "itertools.pairwise"].contains n = false) (hQ : Q () s) : wpAny M A (letOwnedTupleGo tg (.ref it) u) Q E s := by
  unfold letOwnedTupleGo
  cases tg <;> first
    | exact wpAny_pure hQ
    | (cases u <;> first
        | exact wpAny_pure hQ
        | (refine wpAny_bind (wpAny_load ho ?_)
           rw [hc, hd]
           show wpAny M A (if (["enumerate", "zip", "dict_itemiterator", "dict_reverseitemiterator", "odict_iterator", "itertools.zip_longest", "itertools.pairwise"].contains n && vs[0]? == some (rawInt _)) = true then _ else _) Q E s
           rw [if_neg (by intro h; rw [hn, Bool.false_and] at h; cases h)]
           exact wpAny_pure hQ))

/-- the list at a, as it stands at each turn (a loop may append to it) -/
def Itl (K : PySem.W.Frag) (a : Addr) : It :=
  ⟨fun i H => ∃ xs x, SqL K H a xs ∧ xs[i]? = some x, fun i H x H' => H' = H ∧ ∀ xs, SqL K H a xs → xs[i]? = some x, fun i H => ∃ xs, SqL K H a xs ∧ xs.length ≤ i⟩
def Itt (K : PySem.W.Frag) (a : Addr) : It :=
  ⟨fun i H => ∃ xs x, SqT K H a xs ∧ xs[i]? = some x, fun i H x H' => H' = H ∧ ∀ xs, SqT K H a xs → xs[i]? = some x, fun i H => ∃ xs, SqT K H a xs ∧ xs.length ≤ i⟩
/-- lo, lo + 1, .. (n of them) -/
def Itr (lo : Int) (n : Nat) : It := ⟨fun i _ => i < n, fun i H x H' => H' = H ∧ x = .int (lo + i), fun i _ => n ≤ i⟩
theorem turn_list {P : Program} {w : World} {K : PySem.W.Frag} {tg : Expr} (a it : Addr) : Turn P w K tg (Itl K a) [it] it (fun i h => h.IsListIter it a i) where
  mem := by simp
  obj := fun i h st b hb => by
    have e : b = it := by simpa using hb
    subst e
    obtain ⟨o, e, c, d⟩ := st
    exact ⟨o, e, fun v z => by rw [d] at z; cases z⟩
  keep := fun i h h' st k => st.at fun o e => k it (by simp) o e
  item := by
    intro X hP hw hK hc i pins s σ H E I hf st hg
    subst hP hw hK
    obtain ⟨xs, x, hq, hx⟩ := hg
    obtain ⟨its, rv, p, hz⟩ := I.list hq
    obtain ⟨u, hu, ru⟩ := rv.get hx
    obtain ⟨f0, f1, f2, f3, f4, f5⟩ := hf it (by simp)
    refine wpAny_pyNext_list_item st p.isList (x := u) (by simpa using hu) fun h' st' sb => ?_
    have I1 : Inv X pins σ H { s with heap := h' } := I.turned (t' := s.toks) (fun b o hb e => (sb.2 b hb).trans e) f0 f1 f3 f4 f5
    obtain ⟨o, e, c, d⟩ := id st'
    exact ⟨u, rfl, go_of (s := { s with heap := h' }) e c d (by decide) ⟨x, H, I1, ru, ⟨rfl, fun ys hy => by rw [I.list_inj hy hq]; exact hx⟩, st', fun b hb => (hf b hb).1⟩⟩
  done := by
    intro X hP hw hK hc i pins s σ H E I hf st hg
    subst hP hw hK
    obtain ⟨xs, hq, hx⟩ := hg
    obtain ⟨its, rv, p, hz⟩ := I.list hq
    obtain ⟨f0, f1, f2, f3, f4, f5⟩ := hf it (by simp)
    have hl := rv.length
    exact wpAny_pyNext_list_end (I.ok.hd hc) st p.isList (by simp; omega) fun h' eb => ⟨rfl, I.turned (t' := s.toks) (fun b o hb e => eb b o hb e) f0 f1 f3 f4 f5⟩
  self := fun _ _ _ _ _ st h => wpAny_pyIter_listiter st h
theorem turn_tuple {P : Program} {w : World} {K : PySem.W.Frag} {tg : Expr} (a it : Addr) : Turn P w K tg (Itt K a) [it] it (fun i h => h.IsTupleIter it a i) where
  mem := by simp
  obj := fun i h st b hb => by
    have e : b = it := by simpa using hb
    subst e
    obtain ⟨o, e, c, d⟩ := st
    exact ⟨o, e, fun v z => by rw [d] at z; cases z⟩
  keep := fun i h h' st k => st.at fun o e => k it (by simp) o e
  item := by
    intro X hP hw hK hc i pins s σ H E I hf st hg
    subst hP hw hK
    obtain ⟨xs, x, hq, hx⟩ := hg
    obtain ⟨its, rv, p, hz⟩ := I.tuple hq
    obtain ⟨u, hu, ru⟩ := rv.get hx
    obtain ⟨f0, f1, f2, f3, f4, f5⟩ := hf it (by simp)
    refine wpAny_pyNext_tuple_item st (show s.heap.IsTuple a its.toArray from p) (x := u) (by simpa using hu) fun h' st' sb => ?_
    have I1 : Inv X pins σ H { s with heap := h' } := I.turned (t' := s.toks) (fun b o hb e => (sb.2 b hb).trans e) f0 f1 f3 f4 f5
    obtain ⟨o, e, c, d⟩ := id st'
    exact ⟨u, rfl, go_of (s := { s with heap := h' }) e c d (by decide) ⟨x, H, I1, ru, ⟨rfl, fun ys hy => by rw [I.tuple_inj hy hq]; exact hx⟩, st', fun b hb => (hf b hb).1⟩⟩
  done := by
    intro X hP hw hK hc i pins s σ H E I hf st hg
    subst hP hw hK
    obtain ⟨xs, hq, hx⟩ := hg
    obtain ⟨its, rv, p, hz⟩ := I.tuple hq
    obtain ⟨f0, f1, f2, f3, f4, f5⟩ := hf it (by simp)
    have hl := rv.length
    exact wpAny_pyNext_tuple_end (I.ok.hd hc) st (show s.heap.IsTuple a its.toArray from p) (by simp; omega) fun h' eb => ⟨rfl, I.turned (t' := s.toks) (fun b o hb e => eb b o hb e) f0 f1 f3 f4 f5⟩
  self := fun _ _ _ _ _ st h => wpAny_pyIter_tupleiter st h
theorem turn_range {P : Program} {w : World} {K : PySem.W.Frag} {tg : Expr} (it : Addr) (lo : Int) (n : Nat) : Turn P w K tg (Itr lo n) [it] it (fun i h => IsRangeIter h it (lo + (i : Nat) * 1) ((n : Int) - (i : Nat)) 1) where
  mem := by simp
  obj := fun i h st b hb => by
    have e : b = it := by simpa using hb
    subst e
    exact ⟨_, st, fun v z => by
      have z' : Data.fields _ = Data.cell v := z
      cases z'⟩
  keep := fun i h h' st k => k it (by simp) _ st
  item := by
    intro X hP hw hK hc i pins s σ H E I hf st hg
    subst hP hw hK
    obtain ⟨f0, f1, f2, f3, f4, f5⟩ := hf it (by simp)
    have W := Walks.range (prog := X.prog) (w := X.w) (I.ok.hd hc) it lo 1 n
    refine W.item i s _ _ hg st fun v h' tk hv st' kk => ?_
    obtain ⟨t, rfl⟩ := hv
    have I1 : Inv X pins σ H { s with heap := h', toks := tk } := I.turned (fun b o hb e => kk b o (by simpa using hb) e) f0 f1 f3 f4 f5
    refine ⟨_, rfl, go_of (s := { s with heap := h', toks := tk }) (n := "range_iterator") st' rfl rfl (by decide) ⟨.int (lo + i), H, I1, ⟨t, ?_⟩, ⟨rfl, rfl⟩, st', fun b hb => (hf b hb).1⟩⟩
    rw [Int.mul_one]
  done := by
    intro X hP hw hK hc i pins s σ H E I hf st hg
    subst hP hw hK
    obtain ⟨f0, f1, f2, f3, f4, f5⟩ := hf it (by simp)
    exact wpAny_pyNext_range_end (I.ok.hd hc) st (by have : n ≤ i := hg; omega) fun h' eb => ⟨rfl, I.turned (t' := s.toks) (fun b o hb e => eb b o hb e) f0 f1 f3 f4 f5⟩
  self := fun _ _ _ _ _ st h => wpAny_pyIter_rangeiter st h
end L2

namespace L2
open PySem PySem.Spec PyProof.Rows
section
variable {X : Cx} {tg : Expr}
def iList (K : PySem.W.Frag) (tl : TE) : TI := fun σ H R => tl σ H fun x H1 => ∃ a, x = .ref a ∧ (∃ xs, SqL K H1 a xs) ∧ R (Itl K a) H1
def iTup (K : PySem.W.Frag) (tl : TE) : TI := fun σ H R => tl σ H fun x H1 => ∃ a, x = .ref a ∧ (∃ xs, SqT K H1 a xs) ∧ R (Itt K a) H1
theorem pi_list {l : Expr} {tl : TE} (hl : PE X l tl) : PI X tg l (iList X.K tl) := by
  intro pins s σ H R I h
  refine thn (hl pins s σ H _ I h) fun v s1 ⟨x, H1, I1, r1, q1⟩ => ?_
  obtain ⟨a, e, ⟨xs, hq⟩, q⟩ := q1
  subst e
  cases r1
  obtain ⟨its, rv, p, hz⟩ := I1.list hq
  refine wpAny_pyIter_list p.isList ?_
  refine ⟨s1.heap.objs.size, [s1.heap.objs.size], _, _, H1, rfl, I1.kept (t' := s1.toks) fun b o e => Heap.get?_push_of_some _ e, turn_list a _, ⟨_, Heap.get?_push_size _ rfl, rfl, rfl⟩, fun b hb => ?_, q⟩
  have e : b = s1.heap.objs.size := by simpa using hb
  subst e
  exact I1.fpOk (Nat.le_refl _) (I1.hok.fresh (Nat.le_refl _))
theorem pi_tup {l : Expr} {tl : TE} (hl : PE X l tl) : PI X tg l (iTup X.K tl) := by
  intro pins s σ H R I h
  refine thn (hl pins s σ H _ I h) fun v s1 ⟨x, H1, I1, r1, q1⟩ => ?_
  obtain ⟨a, e, ⟨xs, hq⟩, q⟩ := q1
  subst e
  cases r1
  obtain ⟨its, rv, p, hz⟩ := I1.tuple hq
  refine wpAny_pyIter_tuple (show s1.heap.IsTuple a its.toArray from p) ?_
  refine ⟨s1.heap.objs.size, [s1.heap.objs.size], _, _, H1, rfl, I1.kept (t' := s1.toks) fun b o e => Heap.get?_push_of_some _ e, turn_tuple a _, ⟨_, Heap.get?_push_size _ rfl, rfl, rfl⟩, fun b hb => ?_, q⟩
  have e : b = s1.heap.objs.size := by simpa using hb
  subst e
  exact I1.fpOk (Nat.le_refl _) (I1.hok.fresh (Nat.le_refl _))
/-- a range object just made, walked -/
theorem range_it {pins : List (Addr × Obj)} {σ : St} {H : Hp} {s : Shared} {R : It → Hp → Prop} {E : Value → Shared → Prop} {lo hi : Int} {t u v : Tok} {tk : Nat} (I : Inv X pins σ H s) (h1 : -(2 ^ 62) ≤ lo) (h2 : lo < 2 ^ 62) (h3 : -(2 ^ 62) ≤ hi) (h4 : hi < 2 ^ 62)
    (q : R (Itr lo (hi - lo).toNat) H) : wpAny (model X.prog X.w) X.A (pyIter (.ref s.heap.objs.size)) (PIE X pins σ tg R) E { s with heap := s.heap.push { cls := .type "range", data := .fields #[.int lo t, .int hi u, .int 1 v] }, toks := tk } := by
  refine wpAny_pyIter_range (IsRange.new ..) (small_one h1 h2 h3 h4) ?_
  have I1 : Inv X pins σ H { s with heap := s.heap.push { cls := .type "range", data := .fields #[.int lo t, .int hi u, .int 1 v] }, toks := tk } := I.kept fun b o e => Heap.get?_push_of_some _ e
  refine ⟨(s.heap.push { cls := .type "range", data := .fields #[.int lo t, .int hi u, .int 1 v] }).objs.size, [(s.heap.push { cls := .type "range", data := .fields #[.int lo t, .int hi u, .int 1 v] }).objs.size], _, _, H, rfl,
    I1.kept (t' := tk) fun b o e => Heap.get?_push_of_some _ e, turn_range _ lo (hi - lo).toNat, ?_, fun b hb => ?_, q⟩
  · have e1 : lo + ((0 : Nat) : Int) * 1 = lo := by simp
    have e2 : (((hi - lo).toNat : Nat) : Int) - ((0 : Nat) : Int) = Builtin.Range.rangeSize lo hi 1 := by rw [rangeSize_one]; split <;> omega
    show IsRangeIter _ _ (lo + ((0 : Nat) : Int) * 1) ((((hi - lo).toNat : Nat) : Int) - ((0 : Nat) : Int)) 1
    rw [e1, e2]
    exact Heap.get?_push_size _ rfl
  · have e : b = (s.heap.push { cls := .type "range", data := .fields #[.int lo t, .int hi u, .int 1 v] }).objs.size := by simpa using hb
    subst e
    exact I1.fpOk (Nat.le_refl _) (I1.hok.fresh (Nat.le_refl _))
def iRng1 (ta : TA) : TI := fun σ H R => ta σ H fun vs H1 => ∃ j : Int, vs = [.int j] ∧ -(2 ^ 62) ≤ j ∧ j < 2 ^ 62 ∧ R (Itr 0 j.toNat) H1
def iRng2 (ta : TA) : TI := fun σ H R => ta σ H fun vs H1 => ∃ i j : Int, vs = [.int i, .int j] ∧ (-(2 ^ 62) ≤ i ∧ i < 2 ^ 62 ∧ -(2 ^ 62) ≤ j ∧ j < 2 ^ 62) ∧ R (Itr i (j - i).toNat) H1
theorem pi_range1 {a : Expr} {ta : TA} {p pos : Pos} (hg : Gl X "range") (hm : X.mg "range" = none) (ha : PA X [a] ta) (hs : starEach [a] X.env = [(false, eval a X.env)] := by rfl) : PI X tg (.Call (.Name "range" p) [a] [] pos) (iRng1 ta) := by
  intro pins s σ H R I h
  refine Call_ (ld_blt I hg hm boot_range (PyProof.Rows.callWith_type1 (thn (ha pos pins s σ H _ I h) fun us s1 ⟨vs, H1, I1, r1, q1⟩ => ?_) hs rfl))
  obtain ⟨j, e, q1, q2, q⟩ := q1
  subst e
  cases r1 with
  | cons r rr =>
    cases rr
    obtain ⟨t, rfl⟩ := r
    exact call_range_1 (range_it I1 (by omega) (by omega) q1 q2 (by simpa using q))
theorem pi_range2 {a b : Expr} {ta : TA} {p pos : Pos} (hg : Gl X "range") (hm : X.mg "range" = none) (ha : PA X [a, b] ta) (hs : starEach [a, b] X.env = [(false, eval a X.env), (false, eval b X.env)] := by rfl) (hs2 : starEach [b] X.env = [(false, eval b X.env)] := by rfl) :
    PI X tg (.Call (.Name "range" p) [a, b] [] pos) (iRng2 ta) := by
  intro pins s σ H R I h
  refine Call_ (ld_blt I hg hm boot_range (PyProof.Rows.callWith_type1 (thn (ha pos pins s σ H _ I h) fun us s1 ⟨vs, H1, I1, r1, q1⟩ => ?_) (by rw [hs, hs2]) (by rw [hs2]; rfl)))
  obtain ⟨i, j, e, ⟨q1, q2, q3, q4⟩, q⟩ := q1
  subst e
  cases r1 with
  | cons r rr =>
    cases rr with
    | cons r' rr =>
      cases rr
      obtain ⟨t, rfl⟩ := r
      obtain ⟨t', rfl⟩ := r'
      exact call_range_2 (range_it I1 q1 q2 q3 q4 q)

/-! ### for -/
/-- W: the invariant by the turn and a measure; N: what the body is to reach -/
def tFor (wi : TI) (g : TG) (tb : TS) : TS := fun D σ H => wi σ H fun J H1 => ∃ W : Nat → Nat → St → Hp → Prop, (∃ m, W 0 m σ H1) ∧ ∀ i m σ H, W i m σ H →
  (J.stop i H ∧ D.nx σ H) ∨ (J.go i H ∧ ∃ N : St → Hp → Prop, (∀ σ' H', N σ' H' → ∃ m', m' < m ∧ W (i + 1) m' σ' H') ∧ ∀ x H', J.yld i H x H' → g x σ H' fun σ2 H2 => tb { D with nx := N, ct := N, bk := D.nx } σ2 H2)
/-- the records at fp as they stand -/
def pinsAt (fp : List Addr) (h : Heap) : List (Addr × Obj) := fp.filterMap fun b => (h.get? b).map fun o => (b, o)
theorem mem_pinsAt {fp : List Addr} {h : Heap} {b : Addr} {o : Obj} (hb : b ∈ fp) (e : h.get? b = some o) : (b, o) ∈ pinsAt fp h := List.mem_filterMap.mpr ⟨b, hb, by rw [e]; rfl⟩
theorem of_pinsAt {fp : List Addr} {h : Heap} {p : Addr × Obj} (hp : p ∈ pinsAt fp h) : p.1 ∈ fp ∧ h.get? p.1 = some p.2 := by
  obtain ⟨b, hb, e⟩ := List.mem_filterMap.mp hp
  cases q : h.get? b with
  | none => rw [q] at e; cases e
  | some o =>
    rw [q] at e
    have e' : (b, o) = p := Option.some.inj e
    subst e'
    exact ⟨hb, q⟩
theorem Inv.pinned {pins : List (Addr × Obj)} {σ : St} {H : Hp} {s : Shared} {fp : List Addr} (I : Inv X pins σ H s) (hf : ∀ b ∈ fp, FpOk X pins H b) (ho : ∀ b ∈ fp, ∃ o, s.heap.get? b = some o ∧ ∀ v, o.data ≠ .cell v) : Inv X (pins ++ pinsAt fp s.heap) σ H s :=
  I.pins_of fun p hp => (List.mem_append.mp hp).elim (fun z => I.pin p (List.mem_append_right _ z)) fun z => by
    obtain ⟨hb, e⟩ := of_pinsAt z
    obtain ⟨f0, f1, f2, _⟩ := hf p.1 hb
    obtain ⟨o, e', d⟩ := ho p.1 hb
    rw [e] at e'; cases e'
    exact ⟨e, f0, f1, f2, d⟩
theorem Inv.unpinned {pins pl : List (Addr × Obj)} {σ : St} {H : Hp} {s : Shared} (I : Inv X (pins ++ pl) σ H s) : Inv X pins σ H s := I.pins_of fun p hp => I.pin p (List.mem_append_right _ (List.mem_append_left _ hp))
theorem ps_for {iter : Expr} {body : List Stmt} {wi : TI} {g : TG} {tb : TS} {pos : Pos} (hp : PassesOwn (model X.prog X.w) X.A X.env X.xe) (hc : X.calm = true) (hi : PI X tg iter wi) (hg : PG X tg g) (hb : PSs X body tb)
    (hs : ∀ x, foldedSetIterable iter X.env x = pure x := by intro _; rfl) : PS X (.For tg iter body [] pos) (tFor wi g tb) := by
  intro pins s σ H D I h
  refine wpAny_For (thn (hi pins s σ H _ I h) fun v s1 h1 => thn h1 fun itv s2 h2 => ?_) hs
  obtain ⟨it, fp, tn, J, H2, e, I2, T, st2, f2, W, ⟨m0, w0⟩, turn⟩ := h2
  subst e
  -- what stays true of the iterator's objects through the loop
  have stat : ∀ {H' : Hp}, (∀ b ∈ fp, H' b = none) → ∀ b ∈ fp, FpOk X pins H' b := fun hn b hb => ⟨hn b hb, (f2 b hb).2⟩
  refine codeAny_forLoop_any (fun n s' => ∃ i σ' H', Inv X pins σ' H' s' ∧ tn i s'.heap ∧ (∀ b ∈ fp, H' b = none) ∧ W i n σ' H') ?_ m0 ⟨0, σ, H2, I2, st2, fun b hb => (f2 b hb).1, w0⟩
  rintro n s3 ⟨i, σ3, H3, I3, st3, fr3, w3⟩
  rcases turn i n σ3 H3 w3 with ⟨stop, qn⟩ | ⟨go, N, hN, step⟩
  · refine wpAny_passesOwn hp (thn (T.done X rfl rfl rfl hc i pins s3 σ3 H3 X.xe I3 (stat fr3) st3 stop) fun r s4 ⟨hr, I4⟩ => ?_)
    subst hr
    exact wpAny_execs_nil ⟨σ3, H3, I4, qn⟩
  · refine wpAny_passesOwn hp (thn (T.item X rfl rfl rfl hc i pins s3 σ3 H3 X.xe I3 (stat fr3) st3 go) fun r s4 ⟨u, hr, h4⟩ => ?_)
    subst hr
    refine wpAny_passesOwn hp (thn h4 fun _ s5 ⟨x, H5, I5, r5, y5, st5, fr5⟩ => ?_)
    have I5' := I5.pinned (stat fr5) (T.obj _ _ st5)
    refine wpAny_passesOwn hp (thn (hg _ s5 σ3 H5 x u _ I5' r5 (step x H5 y5)) fun _ s6 ⟨σ6, H6, I6, q6⟩ => ?_)
    refine wpAny_passesOwn hp (thn (hb _ s6 σ6 H6 _ I6 q6) fun f s7 q7 => ?_)
    have again : ∀ {σ7 : St} {H7 : Hp}, Inv X (pins ++ pinsAt fp s5.heap) σ7 H7 s7 → N σ7 H7 → ∃ m, m < n ∧ ∃ i σ' H', Inv X pins σ' H' s7 ∧ tn i s7.heap ∧ (∀ b ∈ fp, H' b = none) ∧ W i m σ' H' := fun {σ7 H7} I7 n7 => by
      obtain ⟨m', hm, w7⟩ := hN σ7 H7 n7
      refine ⟨m', hm, i + 1, σ7, H7, I7.unpinned, T.keep _ _ _ st5 fun b hb o e => (I7.pin (b, o) (List.mem_append_right _ (List.mem_append_right _ (mem_pinsAt hb e)))).1, fun b hb => ?_, w7⟩
      obtain ⟨o, e, d⟩ := T.obj _ _ st5 b hb
      exact (I7.pin (b, o) (List.mem_append_right _ (List.mem_append_right _ (mem_pinsAt hb e)))).2.1
    cases f with
    | next => obtain ⟨σ7, H7, I7, n7⟩ := q7; exact again I7 n7
    | cont => obtain ⟨σ7, H7, I7, n7⟩ := q7; exact again I7 n7
    | brk => obtain ⟨σ7, H7, I7, q7⟩ := q7; exact ⟨σ7, H7, I7.unpinned, q7⟩
    | ret v => obtain ⟨x7, σ7, H7, I7, r7, q7⟩ := q7; exact ⟨x7, σ7, H7, I7.unpinned, r7, q7⟩
end

/-! ### the forms one uses -/
/-- over a list that the body leaves as it is -/
theorem for_list {K : PySem.W.Frag} {a : Addr} {xs : List V} {g : TG} {tb : TS} {D : Ends} {σ : St} {H : Hp} (Pv : Nat → St → Hp → Prop) (h0 : Pv 0 σ H) (hl : ∀ i σ H, i ≤ xs.length → Pv i σ H → SqL K H a xs)
    (hs : ∀ i x σ H, xs[i]? = some x → Pv i σ H → g x σ H fun σ2 H2 => tb { D with nx := Pv (i + 1), ct := Pv (i + 1), bk := D.nx } σ2 H2) (hd : ∀ σ H, Pv xs.length σ H → D.nx σ H) :
    ∃ W : Nat → Nat → St → Hp → Prop, (∃ m, W 0 m σ H) ∧ ∀ i m σ H, W i m σ H →
      ((Itl K a).stop i H ∧ D.nx σ H) ∨ ((Itl K a).go i H ∧ ∃ N : St → Hp → Prop, (∀ σ' H', N σ' H' → ∃ m', m' < m ∧ W (i + 1) m' σ' H') ∧ ∀ x H', (Itl K a).yld i H x H' → g x σ H' fun σ2 H2 => tb { D with nx := N, ct := N, bk := D.nx } σ2 H2) := by
  refine ⟨fun i m σ H => m = xs.length - i ∧ i ≤ xs.length ∧ Pv i σ H, ⟨xs.length, by simp, Nat.zero_le _, h0⟩, ?_⟩
  rintro i m σ H ⟨rfl, hi, p⟩
  have q := hl i σ H hi p
  by_cases hlt : i < xs.length
  · refine .inr ⟨⟨xs, xs[i], q, by simp [hlt]⟩, Pv (i + 1), fun σ' H' p' => ⟨xs.length - (i + 1), by omega, rfl, hlt, p'⟩, fun x H' y => ?_⟩
    obtain ⟨e, y⟩ := y
    subst e
    exact hs i x σ _ (y xs q) p
  · have e : i = xs.length := by omega
    subst e
    exact .inl ⟨⟨xs, q, Nat.le_refl _⟩, hd σ H p⟩
theorem for_tup {K : PySem.W.Frag} {a : Addr} {xs : List V} {g : TG} {tb : TS} {D : Ends} {σ : St} {H : Hp} (Pv : Nat → St → Hp → Prop) (h0 : Pv 0 σ H) (hl : ∀ i σ H, i ≤ xs.length → Pv i σ H → SqT K H a xs)
    (hs : ∀ i x σ H, xs[i]? = some x → Pv i σ H → g x σ H fun σ2 H2 => tb { D with nx := Pv (i + 1), ct := Pv (i + 1), bk := D.nx } σ2 H2) (hd : ∀ σ H, Pv xs.length σ H → D.nx σ H) :
    ∃ W : Nat → Nat → St → Hp → Prop, (∃ m, W 0 m σ H) ∧ ∀ i m σ H, W i m σ H →
      ((Itt K a).stop i H ∧ D.nx σ H) ∨ ((Itt K a).go i H ∧ ∃ N : St → Hp → Prop, (∀ σ' H', N σ' H' → ∃ m', m' < m ∧ W (i + 1) m' σ' H') ∧ ∀ x H', (Itt K a).yld i H x H' → g x σ H' fun σ2 H2 => tb { D with nx := N, ct := N, bk := D.nx } σ2 H2) := by
  refine ⟨fun i m σ H => m = xs.length - i ∧ i ≤ xs.length ∧ Pv i σ H, ⟨xs.length, by simp, Nat.zero_le _, h0⟩, ?_⟩
  rintro i m σ H ⟨rfl, hi, p⟩
  have q := hl i σ H hi p
  by_cases hlt : i < xs.length
  · refine .inr ⟨⟨xs, xs[i], q, by simp [hlt]⟩, Pv (i + 1), fun σ' H' p' => ⟨xs.length - (i + 1), by omega, rfl, hlt, p'⟩, fun x H' y => ?_⟩
    obtain ⟨e, y⟩ := y
    subst e
    exact hs i x σ _ (y xs q) p
  · have e : i = xs.length := by omega
    subst e
    exact .inl ⟨⟨xs, q, Nat.le_refl _⟩, hd σ H p⟩
theorem for_range {lo : Int} {n : Nat} {g : TG} {tb : TS} {D : Ends} {σ : St} {H : Hp} (Pv : Nat → St → Hp → Prop) (h0 : Pv 0 σ H)
    (hs : ∀ i σ H, i < n → Pv i σ H → g (.int (lo + i)) σ H fun σ2 H2 => tb { D with nx := Pv (i + 1), ct := Pv (i + 1), bk := D.nx } σ2 H2) (hd : ∀ σ H, Pv n σ H → D.nx σ H) :
    ∃ W : Nat → Nat → St → Hp → Prop, (∃ m, W 0 m σ H) ∧ ∀ i m σ H, W i m σ H →
      ((Itr lo n).stop i H ∧ D.nx σ H) ∨ ((Itr lo n).go i H ∧ ∃ N : St → Hp → Prop, (∀ σ' H', N σ' H' → ∃ m', m' < m ∧ W (i + 1) m' σ' H') ∧ ∀ x H', (Itr lo n).yld i H x H' → g x σ H' fun σ2 H2 => tb { D with nx := N, ct := N, bk := D.nx } σ2 H2) := by
  refine ⟨fun i m σ H => m = n - i ∧ i ≤ n ∧ Pv i σ H, ⟨n, by simp, Nat.zero_le _, h0⟩, ?_⟩
  rintro i m σ H ⟨rfl, hi, p⟩
  by_cases hlt : i < n
  · refine .inr ⟨hlt, Pv (i + 1), fun σ' H' p' => ⟨n - (i + 1), by omega, rfl, hlt, p'⟩, fun x H' y => ?_⟩
    obtain ⟨e, y⟩ := y
    subst e y
    exact hs i σ _ hlt p
  · have e : i = n := by omega
    subst e
    exact .inl ⟨Nat.le_refl _, hd σ H p⟩
/-- while, by a word and a measure of the state -/
theorem while_by {c : TT} {tb : TS} {D : Ends} {σ : St} {H : Hp} (Pv : St → Hp → Prop) (μ : St → Hp → Nat) (h0 : Pv σ H)
    (hs : ∀ σ H, Pv σ H → c σ H fun b H1 => if b = true then tb { D with nx := fun σ' H' => Pv σ' H' ∧ μ σ' H' < μ σ H, ct := fun σ' H' => Pv σ' H' ∧ μ σ' H' < μ σ H, bk := D.nx } σ H1 else D.nx σ H1)
    (mono : ∀ σ H Q Q', (∀ b H1, Q b H1 → Q' b H1) → c σ H Q → c σ H Q') : tWhile c tb D σ H := by
  refine ⟨fun m σ H => m = μ σ H ∧ Pv σ H, ⟨_, rfl, h0⟩, ?_⟩
  rintro m σ H ⟨rfl, p⟩
  refine mono σ H _ _ (fun b H1 q => ?_) (hs σ H p)
  cases b with
  | true => exact ⟨_, fun σ' H' ⟨p', l⟩ => ⟨_, l, rfl, p'⟩, q⟩
  | false => exact q
end L2

namespace L2
open PySem PySem.Spec PyProof.Rows

abbrev R2 := V → V → Hp → VK → Prop
/-- a two-place operation on values: f is binaryOp op, inplaceOp op or compareOp op -/
def OpR (X : Cx) (f : Value → Value → Sem Value) (r : R2) : Prop :=
  ∀ (pins : List (Addr × Obj)) (s : Shared) (σ : St) (H : Hp) (x y : V) (v u : Value) (Q : VK), Inv X pins σ H s → RelV x v → RelV y u → r x y H Q →
    wpAny (model X.prog X.w) X.A (f v u) (EP X pins σ Q) X.xe s
/-- a one-place operation -/
def UnR (X : Cx) (f : Value → Sem Value) (r : V → Hp → VK → Prop) : Prop :=
  ∀ (pins : List (Addr × Obj)) (s : Shared) (σ : St) (H : Hp) (x : V) (v : Value) (Q : VK), Inv X pins σ H s → RelV x v → r x H Q →
    wpAny (model X.prog X.w) X.A (f v) (EP X pins σ Q) X.xe s
/-- a call of a value that is known (a builtin, a type) with values -/
def CallR (X : Cx) (f : Value) (r : List V → Hp → VK → Prop) : Prop :=
  ∀ (pins : List (Addr × Obj)) (s : Shared) (σ : St) (H : Hp) (xs : List V) (us : List Value) (Q : VK), Inv X pins σ H s → Vals xs us → r xs H Q →
    wpAny (model X.prog X.w) X.A (call f us) (EP X pins σ Q) X.xe s
/-- a value's truth -/
def TruR (X : Cx) (r : V → Hp → (Bool → Hp → Prop) → Prop) : Prop :=
  ∀ (pins : List (Addr × Obj)) (s : Shared) (σ : St) (H : Hp) (x : V) (v : Value) (Q : Bool → Hp → Prop), Inv X pins σ H s → RelV x v → r x H Q →
    wpAny (model X.prog X.w) X.A (truthy v) (TP X pins σ Q) X.xe s

def tOp (r : R2) (ta tb : TE) : TE := fun σ H Q => ta σ H fun x H1 => tb σ H1 fun y H2 => r x y H2 Q
def tUn (r : V → Hp → VK → Prop) (ta : TE) : TE := fun σ H Q => ta σ H fun x H1 => r x H1 Q
/-- ints in, under C, and a value out -/
def rI (C : Int → Int → Prop) (g : Int → Int → V) : R2 := fun x y H Q => ∃ i j, x = .int i ∧ y = .int j ∧ C i j ∧ Q (g i j) H
def rI0 (g : Int → Int → V) : R2 := fun x y H Q => ∃ i j, x = .int i ∧ y = .int j ∧ Q (g i j) H
def rU (g : Int → V) : V → Hp → VK → Prop := fun x H Q => ∃ i, x = .int i ∧ Q (g i) H

section
variable {X : Cx} {a b c : Expr} {ta tb tc : TE} {pos : Pos}

theorem binT (ha : PE X a ta) (hb : PE X b tb) {pins : List (Addr × Obj)} {s : Shared} {σ : St} {H : Hp} {R : V → V → Hp → Prop} (I : Inv X pins σ H s)
    (h : ta σ H fun x H1 => tb σ H1 fun y H2 => R x y H2) {Q : Value → Shared → Prop} {f : Value → Value → Sem Value}
    (hf : ∀ v u s2 x y H2, Inv X pins σ H2 s2 → RelV x v → RelV y u → R x y H2 → wpAny (model X.prog X.w) X.A (f v u) Q X.xe s2) :
    wpAny (model X.prog X.w) X.A (eval a X.env) (fun v s₁ => wpAny (model X.prog X.w) X.A (eval b X.env) (fun u s₂ => wpAny (model X.prog X.w) X.A (f v u) Q X.xe s₂) X.xe s₁) X.xe s := by
  refine thn (ha pins s σ H _ I h) fun v s1 ⟨x, H1, I1, r1, q1⟩ => ?_
  refine thn (hb pins s1 σ H1 _ I1 q1) fun u s2 ⟨y, H2, I2, r2, q2⟩ => ?_
  exact hf v u s2 x y H2 I2 r1 r2 q2

theorem pe_op {op : Operator} {r : R2} (ho : OpR X (binaryOp op) r) (ha : PE X a ta) (hb : PE X b tb) : PE X (.BinOp a op b pos) (tOp r ta tb) := by
  intro pins s σ H Q I h
  exact wpAny_BinOp (binT ha hb I h fun v u s2 x y H2 I2 rx ry q => ho pins s2 σ H2 x y v u Q I2 rx ry q)
theorem pe_un {op : UnaryOp} {r : V → Hp → VK → Prop} (ho : UnR X (unaryOp op) r) (ha : PE X a ta) : PE X (.UnaryOp op a pos) (tUn r ta) := by
  intro pins s σ H Q I h
  exact UnaryOp_ (thn (ha pins s σ H _ I h) fun v s1 ⟨x, H1, I1, r1, q1⟩ => ho pins s1 σ H1 x v Q I1 r1 q1)
/-- a op= e at a name: the name's slot i -/
theorem augR {op : Operator} {r : R2} (ho : OpR X (inplaceOp op) r) {pins : List (Addr × Obj)} {s : Shared} {σ : St} {H : Hp} {x y : V} {v u : Value} {Q : VK} (I : Inv X pins σ H s)
    (rx : RelV x v) (ry : RelV y u) (q : r x y H Q) : wpAny (model X.prog X.w) X.A (inplaceOp op v u) (EP X pins σ Q) X.xe s := ho pins s σ H x y v u Q I rx ry q

/-! ### ints -/
theorem opI {f : Value → Value → Sem Value} {C : Int → Int → Prop} {g : Int → Int → Int}
    (rule : ∀ (i j : Int) (t u : Tok) (s : Shared) (Q : Value → Shared → Prop) (E : Value → Shared → Prop), C i j → Q (.int (g i j) s.toks) { s with toks := s.toks + 1 } → wpAny (model X.prog X.w) X.A (f (.int i t) (.int j u)) Q E s) :
    OpR X f (rI C fun i j => .int (g i j)) := by
  intro pins s σ H x y v u Q I rx ry h
  obtain ⟨i, j, rfl, rfl, hc, q⟩ := h
  obtain ⟨t, rfl⟩ := rx
  obtain ⟨t', rfl⟩ := ry
  exact rule i j t t' s _ _ hc ⟨.int (g i j), H, I.tok _, ⟨_, rfl⟩, q⟩
theorem opI0 {f : Value → Value → Sem Value} {g : Int → Int → Int}
    (rule : ∀ (i j : Int) (t u : Tok) (s : Shared) (Q : Value → Shared → Prop) (E : Value → Shared → Prop), Q (.int (g i j) s.toks) { s with toks := s.toks + 1 } → wpAny (model X.prog X.w) X.A (f (.int i t) (.int j u)) Q E s) :
    OpR X f (rI0 fun i j => .int (g i j)) := by
  intro pins s σ H x y v u Q I rx ry h
  obtain ⟨i, j, rfl, rfl, q⟩ := h
  obtain ⟨t, rfl⟩ := rx
  obtain ⟨t', rfl⟩ := ry
  exact rule i j t t' s _ _ ⟨.int (g i j), H, I.tok _, ⟨_, rfl⟩, q⟩
theorem opB0 {f : Value → Value → Sem Value} {g : Int → Int → Bool}
    (rule : ∀ (i j : Int) (t u : Tok) (s : Shared) (Q : Value → Shared → Prop) (E : Value → Shared → Prop), Q (.bool (g i j)) s → wpAny (model X.prog X.w) X.A (f (.int i t) (.int j u)) Q E s) :
    OpR X f (rI0 fun i j => .bl (g i j)) := by
  intro pins s σ H x y v u Q I rx ry h
  obtain ⟨i, j, rfl, rfl, q⟩ := h
  obtain ⟨t, rfl⟩ := rx
  obtain ⟨t', rfl⟩ := ry
  exact rule i j t t' s _ _ ⟨.bl (g i j), H, I, rfl, q⟩

def CDiv (i j : Int) : Prop := 0 < j ∧ j < 1073741824
def CDivN (i j : Int) : Prop := j ≠ 0 ∧ j.natAbs < 1073741824
def CPow (i j : Int) : Prop := 0 ≤ j ∧ j ≤ 1000000 ∧ i.natAbs < 2 ^ 64
def CMul (i j : Int) : Prop := (-(2 ^ 64) < i ∧ i < 2 ^ 64) ∨ (-(2 ^ 64) < j ∧ j < 2 ^ 64)
theorem CMul.ok {i j : Int} (h : CMul i j) : IntMulOk i j := by
  rcases h with ⟨h1, h2⟩ | ⟨h1, h2⟩
  · exact .of_left (intBits_le_64 h1 h2)
  · exact .of_right (intBits_le_64 h1 h2)
theorem two_pow_nn (k : Nat) : (0 : Int) ≤ 2 ^ k := by
  rw [two_pow_cast]
  exact Int.natCast_nonneg _

theorem op_add : OpR X (binaryOp .Add) (rI0 fun i j => .int (i + j)) := opI0 fun _ _ _ _ _ _ _ q => add_int q
theorem op_sub : OpR X (binaryOp .Sub) (rI0 fun i j => .int (i - j)) := opI0 fun _ _ _ _ _ _ _ q => sub_int q
theorem op_mul : OpR X (binaryOp .Mult) (rI CMul fun i j => .int (i * j)) := opI fun _ _ _ _ _ _ _ hc q => mul_int q hc.ok
/-- // by a positive divisor -/
theorem op_fdiv : OpR X (binaryOp .FloorDiv) (rI CDiv fun i j => .int (i / j)) := opI fun i j _ _ _ _ _ hc q => by
  have h1 : (0 : Int) < j := hc.1
  have h2 : j < 1073741824 := hc.2
  exact floordiv_int (by omega) (by rw [Int.fdiv_eq_ediv_of_nonneg i (by omega)]; exact q) (.inl (PyProof.noPylong_small (by omega)))
theorem op_fdivN : OpR X (binaryOp .FloorDiv) (rI CDivN fun i j => .int (i.fdiv j)) := opI fun _ _ _ _ _ _ _ hc q => floordiv_int hc.1 q (.inl (PyProof.noPylong_small hc.2))
/-- % by a positive divisor of any size -/
theorem op_mod : OpR X (binaryOp .Mod) (rI (fun _ j => 0 < j) fun i j => .int (i % j)) := opI fun i j _ _ _ _ _ hc q => by
  have h1 : (0 : Int) < j := hc
  exact mod_int' (by omega) (by rw [Int.fmod_eq_emod_of_nonneg i (by omega)]; exact q)
theorem op_modN : OpR X (binaryOp .Mod) (rI (fun _ j => j ≠ 0) fun i j => .int (i.fmod j)) := opI fun _ _ _ _ _ _ _ hc q => mod_int' hc q
theorem op_pow : OpR X (binaryOp .Pow) (rI CPow fun i j => .int (i ^ j.toNat)) := opI fun _ _ _ _ _ _ _ hc q => pow_int_small hc.1 hc.2.1 hc.2.2 q
theorem op_shl : OpR X (binaryOp .LShift) (rI CPow fun i j => .int (i * 2 ^ j.toNat)) := opI fun _ _ _ _ _ _ _ hc q => lshift_int_small hc.1 hc.2.1 hc.2.2 q
theorem op_shr : OpR X (binaryOp .RShift) (rI (fun _ j => 0 ≤ j) fun i j => .int (i / 2 ^ j.toNat)) := opI fun i j _ _ _ _ _ hc q =>
  rshift_int hc (by rw [Int.fdiv_eq_ediv_of_nonneg i (two_pow_nn _)]; exact q)
theorem op_and : OpR X (binaryOp .BitAnd) (rI0 fun i j => .int (Builtin.bitAnd i j)) := opI0 fun _ _ _ _ _ _ _ q => and_int q
theorem op_or : OpR X (binaryOp .BitOr) (rI0 fun i j => .int (Builtin.bitOr i j)) := opI0 fun _ _ _ _ _ _ _ q => or_int q
theorem op_xor : OpR X (binaryOp .BitXor) (rI0 fun i j => .int (Builtin.bitXor i j)) := opI0 fun _ _ _ _ _ _ _ q => xor_int q

theorem iop_add : OpR X (inplaceOp .Add) (rI0 fun i j => .int (i + j)) := opI0 fun _ _ _ _ _ _ _ q => iadd_int q
theorem iop_sub : OpR X (inplaceOp .Sub) (rI0 fun i j => .int (i - j)) := opI0 fun _ _ _ _ _ _ _ q => isub_int q
theorem iop_mul : OpR X (inplaceOp .Mult) (rI CMul fun i j => .int (i * j)) := opI fun _ _ _ _ _ _ _ hc q => imul_int q hc.ok
theorem iop_fdiv : OpR X (inplaceOp .FloorDiv) (rI CDiv fun i j => .int (i / j)) := opI fun i j _ _ _ _ _ hc q => by
  have h1 : (0 : Int) < j := hc.1
  have h2 : j < 1073741824 := hc.2
  exact ifloordiv_int (by omega) (by rw [Int.fdiv_eq_ediv_of_nonneg i (by omega)]; exact q) (.inl (PyProof.noPylong_small (by omega)))
theorem iop_mod : OpR X (inplaceOp .Mod) (rI (fun _ j => 0 < j) fun i j => .int (i % j)) := opI fun i j _ _ _ _ _ hc q => by
  have h1 : (0 : Int) < j := hc
  exact imod_int (by omega) (by rw [Int.fmod_eq_emod_of_nonneg i (by omega)]; exact q)
theorem iop_shl : OpR X (inplaceOp .LShift) (rI CPow fun i j => .int (i * 2 ^ j.toNat)) := opI fun _ _ _ _ _ _ _ hc q => ilshift_int_small hc.1 hc.2.1 hc.2.2 q
theorem iop_shr : OpR X (inplaceOp .RShift) (rI (fun _ j => 0 ≤ j) fun i j => .int (i / 2 ^ j.toNat)) := opI fun i j _ _ _ _ _ hc q =>
  irshift_int hc (by rw [Int.fdiv_eq_ediv_of_nonneg i (two_pow_nn _)]; exact q)
theorem iop_and : OpR X (inplaceOp .BitAnd) (rI0 fun i j => .int (Builtin.bitAnd i j)) := opI0 fun _ _ _ _ _ _ _ q => iand_int q
theorem iop_or : OpR X (inplaceOp .BitOr) (rI0 fun i j => .int (Builtin.bitOr i j)) := opI0 fun _ _ _ _ _ _ _ q => ior_int q
theorem iop_xor : OpR X (inplaceOp .BitXor) (rI0 fun i j => .int (Builtin.bitXor i j)) := opI0 fun _ _ _ _ _ _ _ q => ixor_int q

theorem unI {f : Value → Sem Value} {g : Int → Int}
    (rule : ∀ (i : Int) (t : Tok) (s : Shared) (Q : Value → Shared → Prop) (E : Value → Shared → Prop), Q (.int (g i) s.toks) { s with toks := s.toks + 1 } → wpAny (model X.prog X.w) X.A (f (.int i t)) Q E s) :
    UnR X f (rU fun i => .int (g i)) := by
  intro pins s σ H x v Q I rx h
  obtain ⟨i, rfl, q⟩ := h
  obtain ⟨t, rfl⟩ := rx
  exact rule i t s _ _ ⟨.int (g i), H, I.tok _, ⟨_, rfl⟩, q⟩
theorem un_neg : UnR X (unaryOp .USub) (rU fun i => .int (-i)) := unI fun _ _ _ _ _ q => neg_int q
theorem un_inv : UnR X (unaryOp .Invert) (rU fun i => .int (Builtin.bitNot i)) := unI fun _ _ _ _ _ q => invert_int q

/-! ### bools among ints: n += (a < b) -/
theorem op_add_ib : OpR X (binaryOp .Add) (fun x y H Q => ∃ i k, x = .int i ∧ y = .bl k ∧ Q (.int (i + b2i k)) H) := by
  intro pins s σ H x y v u Q I rx ry h
  obtain ⟨i, k, rfl, rfl, q⟩ := h
  obtain ⟨t, rfl⟩ := rx
  cases ry
  exact add_int_bool ⟨.int (i + b2i k), H, I.tok _, ⟨_, rfl⟩, q⟩
end

/-! ### comparisons -/
/-- the scalars that == tells apart as data does -/
def scal : V → V → Bool
  | .non, .non => true | .non, .int _ => true | .int _, .non => true | .non, .bl _ => true | .bl _, .non => true | .non, .str _ => true | .str _, .non => true
  | .int _, .int _ => true | .bl _, .bl _ => true | .str _, .str _ => true | .byt _, .byt _ => true
  | .int _, .str _ => true | .str _, .int _ => true | .bl _, .str _ => true | .str _, .bl _ => true
  | _, _ => false
def rEq : R2 := fun x y H Q => scal x y = true ∧ Q (.bl (decide (x = y))) H
def rNe : R2 := fun x y H Q => scal x y = true ∧ Q (.bl (!decide (x = y))) H

theorem dec_int {i j : Int} : decide (V.int i = V.int j) = (i == j) := by
  rw [Bool.eq_iff_iff]
  simp
theorem dec_bl {i j : Bool} : decide (V.bl i = V.bl j) = (i == j) := by
  rw [Bool.eq_iff_iff]
  simp
theorem dec_str {i j : Str} : decide (V.str i = V.str j) = (i == j) := by
  rw [Bool.eq_iff_iff]
  simp
theorem dec_byt {i j : Array UInt8} : decide (V.byt i = V.byt j) = (i.toList == j.toList) := by
  rw [Bool.eq_iff_iff]
  cases i
  cases j
  simp

section
variable {X : Cx} {a b c : Expr} {ta tb tc : TE} {pos : Pos}
theorem fin_bl {pins : List (Addr × Obj)} {σ : St} {H : Hp} {s : Shared} {Q : VK} {k k' : Bool} (I : Inv X pins σ H s) (q : Q (.bl k) H) (e : k = k') : EP X pins σ Q (.bool k') s := by
  subst e
  exact ⟨.bl k, H, I, rfl, q⟩
theorem op_eq : OpR X (compareOp .Eq) rEq := by
  intro pins s σ H x y v u Q I rx ry h
  obtain ⟨hs, q⟩ := h
  cases x with
  | non =>
    cases rx
    cases y with
    | non => cases ry; exact PySem.EqNone.eq_none_none (fin_bl I q (by simp))
    | bl j => cases ry; exact PySem.EqNone.eq_none_bool (fin_bl I q (by simp))
    | int j => obtain ⟨t', rfl⟩ := ry; exact PySem.EqNone.eq_none_int (fin_bl I q (by simp))
    | str j => obtain ⟨t', rfl⟩ := ry; exact PySem.EqNone.eq_none_str (fin_bl I q (by simp))
    | _ => exact absurd (show false = true from hs) Bool.false_ne_true
  | bl i =>
    cases rx
    cases y with
    | non => cases ry; exact PySem.EqNone.eq_bool_none (fin_bl I q (by simp))
    | bl j => cases ry; exact eq_bool (fin_bl I q dec_bl)
    | str j => obtain ⟨t', rfl⟩ := ry; exact PySem.EqMixed.eq_bool_str (fin_bl I q (by simp))
    | _ => exact absurd (show false = true from hs) Bool.false_ne_true
  | int i =>
    obtain ⟨t, rfl⟩ := rx
    cases y with
    | non => cases ry; exact PySem.EqNone.eq_int_none (fin_bl I q (by simp))
    | int j => obtain ⟨t', rfl⟩ := ry; exact eq_int (fin_bl I q dec_int)
    | str j => obtain ⟨t', rfl⟩ := ry; exact PySem.EqMixed.eq_int_str (fin_bl I q (by simp))
    | _ => exact absurd (show false = true from hs) Bool.false_ne_true
  | str i =>
    obtain ⟨t, rfl⟩ := rx
    cases y with
    | non => cases ry; exact PySem.EqNone.eq_str_none (fin_bl I q (by simp))
    | bl j => cases ry; exact PySem.EqMixed.eq_str_bool (fin_bl I q (by simp))
    | int j => obtain ⟨t', rfl⟩ := ry; exact PySem.EqMixed.eq_str_int (fin_bl I q (by simp))
    | str j => obtain ⟨t', rfl⟩ := ry; exact eq_str (fin_bl I q dec_str)
    | _ => exact absurd (show false = true from hs) Bool.false_ne_true
  | byt i =>
    obtain ⟨t, rfl⟩ := rx
    cases y with
    | byt j => obtain ⟨t', rfl⟩ := ry; exact PySem.W.eq_bytes (fin_bl I q dec_byt)
    | _ => exact absurd (show false = true from hs) Bool.false_ne_true
  | _ => cases y <;> exact absurd (show false = true from hs) Bool.false_ne_true
theorem op_ne : OpR X (compareOp .NotEq) rNe := by
  intro pins s σ H x y v u Q I rx ry h
  obtain ⟨hs, q⟩ := h
  cases x with
  | non =>
    cases rx
    cases y with
    | non => cases ry; exact PySem.EqNone.ne_none_none (fin_bl I q (by simp))
    | bl j => cases ry; exact PySem.EqNone.ne_none_bool (fin_bl I q (by simp))
    | int j => obtain ⟨t', rfl⟩ := ry; exact PySem.EqNone.ne_none_int (fin_bl I q (by simp))
    | str j => obtain ⟨t', rfl⟩ := ry; exact PySem.EqNone.ne_none_str (fin_bl I q (by simp))
    | _ => exact absurd (show false = true from hs) Bool.false_ne_true
  | bl i =>
    cases rx
    cases y with
    | non => cases ry; exact PySem.EqNone.ne_bool_none (fin_bl I q (by simp))
    | bl j => cases ry; exact ne_bool (fin_bl I q (congrArg not dec_bl))
    | str j => obtain ⟨t', rfl⟩ := ry; exact PySem.EqMixed.ne_bool_str (fin_bl I q (by simp))
    | _ => exact absurd (show false = true from hs) Bool.false_ne_true
  | int i =>
    obtain ⟨t, rfl⟩ := rx
    cases y with
    | non => cases ry; exact PySem.EqNone.ne_int_none (fin_bl I q (by simp))
    | int j => obtain ⟨t', rfl⟩ := ry; exact ne_int (fin_bl I q (congrArg not dec_int))
    | str j => obtain ⟨t', rfl⟩ := ry; exact PySem.EqMixed.ne_int_str (fin_bl I q (by simp))
    | _ => exact absurd (show false = true from hs) Bool.false_ne_true
  | str i =>
    obtain ⟨t, rfl⟩ := rx
    cases y with
    | non => cases ry; exact PySem.EqNone.ne_str_none (fin_bl I q (by simp))
    | bl j => cases ry; exact PySem.EqMixed.ne_str_bool (fin_bl I q (by simp))
    | int j => obtain ⟨t', rfl⟩ := ry; exact PySem.EqMixed.ne_str_int (fin_bl I q (by simp))
    | str j => obtain ⟨t', rfl⟩ := ry; exact ne_str (fin_bl I q (congrArg not dec_str))
    | _ => exact absurd (show false = true from hs) Bool.false_ne_true
  | byt i =>
    obtain ⟨t, rfl⟩ := rx
    cases y with
    | byt j => obtain ⟨t', rfl⟩ := ry; exact PySem.W.ne_bytes (fin_bl I q (congrArg not dec_byt))
    | _ => exact absurd (show false = true from hs) Bool.false_ne_true
  | _ => cases y <;> exact absurd (show false = true from hs) Bool.false_ne_true

theorem op_lt : OpR X (compareOp .Lt) (rI0 fun i j => .bl (decide (i < j))) := opB0 fun _ _ _ _ _ _ _ q => lt_int q
theorem op_le : OpR X (compareOp .LtE) (rI0 fun i j => .bl (decide (i ≤ j))) := opB0 fun _ _ _ _ _ _ _ q => le_int q
theorem op_gt : OpR X (compareOp .Gt) (rI0 fun i j => .bl (decide (j < i))) := opB0 fun _ _ _ _ _ _ _ q => gt_int q
theorem op_ge : OpR X (compareOp .GtE) (rI0 fun i j => .bl (decide (j ≤ i))) := opB0 fun _ _ _ _ _ _ _ q => ge_int q
theorem op_lt_str : OpR X (compareOp .Lt) (fun x y H Q => ∃ i j, x = .str i ∧ y = .str j ∧ Q (.bl (decide (i.cps.toList < j.cps.toList))) H) := by
  intro pins s σ H x y v u Q I rx ry h
  obtain ⟨i, j, rfl, rfl, q⟩ := h
  obtain ⟨t, rfl⟩ := rx
  obtain ⟨t', rfl⟩ := ry
  exact lt_str (fin_bl I q rfl)
/-- the one string within the other -/
theorem op_in_str : OpR X (compareOp .In) (fun x y H Q => ∃ i j, x = .str i ∧ y = .str j ∧ Q (.bl (!(Builtin.Str.occurrences j i 0 j.length 1).isEmpty)) H) := by
  intro pins s σ H x y v u Q I rx ry h
  obtain ⟨i, j, rfl, rfl, q⟩ := h
  obtain ⟨t, rfl⟩ := rx
  obtain ⟨t', rfl⟩ := ry
  exact in_str (fin_bl I q rfl)

/-- is None, is not None: the right side a value none -/
theorem op_isN : OpR X (compareOp .Is) (fun x y H Q => y = .non ∧ Q (.bl (decide (x = .non))) H) := by
  intro pins s σ H x y v u Q I rx ry h
  obtain ⟨rfl, q⟩ := h
  cases ry
  refine is_none_gen (fin_bl I q ?_)
  cases x <;> first
    | (cases rx; rfl)
    | (obtain ⟨t, rfl⟩ := rx; rfl)
theorem op_notN : OpR X (compareOp .IsNot) (fun x y H Q => y = .non ∧ Q (.bl (!decide (x = .non))) H) := by
  intro pins s σ H x y v u Q I rx ry h
  obtain ⟨rfl, q⟩ := h
  cases ry
  refine isnot_none_gen (fin_bl I q ?_)
  cases x <;> first
    | (cases rx; rfl)
    | (obtain ⟨t, rfl⟩ := rx; rfl)

theorem op_notin_str : OpR X (compareOp .NotIn) (fun x y H Q => ∃ i j, x = .str i ∧ y = .str j ∧ Q (.bl (!(!(Builtin.Str.occurrences j i 0 j.length 1).isEmpty))) H) := by
  intro pins s σ H x y v u Q I rx ry h
  obtain ⟨i, j, rfl, rfl, q⟩ := h
  obtain ⟨t, rfl⟩ := rx
  obtain ⟨t', rfl⟩ := ry
  exact notIn_str (fin_bl I q rfl)
/-- is, is not of two objects that are tracked lists or instances -/
def isObj : HO → Bool
  | .lst _ => true
  | .ins _ _ _ => true
  | _ => false
theorem obj_there {pins : List (Addr × Obj)} {s : Shared} {σ : St} {H : Hp} {a : Addr} {o : HO} (I : Inv X pins σ H s) (h : H a = some o) (p : isObj o = true) : ∃ ob, s.heap.get? a = some ob ∧ ob.cls ≠ .type "tuple" := by
  cases o with
  | lst xs =>
    obtain ⟨_, its, n, _, e⟩ : xs.length ≤ sizeLine ∧ ∃ (its : List Value) (n : Nat), Vals xs its ∧ s.heap.get? a = some { cls := .type "list", data := .seq its.toArray n } := I.hok a _ h
    exact ⟨_, e, (by show Value.type "list" ≠ .type "tuple"; decide +kernel)⟩
  | ins C dx fs =>
    have x := I.hok a _ h
    obtain ⟨_, _, _, e, _⟩ := x
    exact ⟨_, e, (by show Value.ref C ≠ .type "tuple"; exact fun z => by cases z)⟩
  | _ => exact absurd (show false = true from p) Bool.false_ne_true
theorem op_is_ref : OpR X (compareOp .Is) (fun x y H Q => ∃ a b oa ob, x = .ref a ∧ y = .ref b ∧ H a = some oa ∧ isObj oa = true ∧ H b = some ob ∧ isObj ob = true ∧ Q (.bl (decide (a = b))) H) := by
  intro pins s σ H x y v u Q I rx ry h
  obtain ⟨a, b, oa, ob, rfl, rfl, ha, pa, hb, pb, q⟩ := h
  cases rx
  cases ry
  obtain ⟨o1, e1, n1⟩ := obj_there I ha pa
  obtain ⟨o2, e2, _⟩ := obj_there I hb pb
  by_cases z : a = b
  · subst z
    exact wpAny_is_ref_self (fin_bl I q (by simp))
  · exact wpAny_is_ref_other z e1 e2 n1 (fin_bl I q (by simp [z]))
theorem op_isnot_ref : OpR X (compareOp .IsNot) (fun x y H Q => ∃ a b oa ob, x = .ref a ∧ y = .ref b ∧ H a = some oa ∧ isObj oa = true ∧ H b = some ob ∧ isObj ob = true ∧ Q (.bl (!decide (a = b))) H) := by
  intro pins s σ H x y v u Q I rx ry h
  obtain ⟨a, b, oa, ob, rfl, rfl, ha, pa, hb, pb, q⟩ := h
  cases rx
  cases ry
  obtain ⟨o1, e1, n1⟩ := obj_there I ha pa
  obtain ⟨o2, e2, _⟩ := obj_there I hb pb
  by_cases z : a = b
  · subst z
    exact wpAny_isNot_ref_self (fin_bl I q (by simp))
  · exact wpAny_isNot_ref_other z e1 e2 n1 (fin_bl I q (by simp [z]))

/-- two rules for one operation: by cases -/
theorem OpR.or {f : Value → Value → Sem Value} {r r' : R2} (h : OpR X f r) (h' : OpR X f r') : OpR X f (fun x y H Q => r x y H Q ∨ r' x y H Q) := by
  intro pins s σ H x y v u Q I rx ry q
  rcases q with q | q
  · exact h pins s σ H x y v u Q I rx ry q
  · exact h' pins s σ H x y v u Q I rx ry q

theorem nomark (b : Expr) {op : CmpOp} (h : op ≠ .In := by decide) (h2 : op ≠ .NotIn := by decide) : behindInMarks op b = false := by
  have e1 : (op == CmpOp.In) = false := by cases op <;> first | rfl | exact absurd rfl h
  have e2 : (op == CmpOp.NotIn) = false := by cases op <;> first | rfl | exact absurd rfl h2
  cases b <;> simp [behindInMarks, e1, e2]
/-- a comparison as a value; hm: nomark b, or (for in, not in) by with_unfolding_all rfl -/
theorem pe_cmpR {op : CmpOp} {r : R2} (ho : OpR X (compareOp op) r) (ha : PE X a ta) (hb : PE X b tb) (hm : behindInMarks op b = false) : PE X (.Compare a [op] [b] pos) (tOp r ta tb) := by
  intro pins s σ H Q I h
  exact wpAny_Compare1 (binT ha hb I h fun v u s2 x y H2 I2 rx ry q => ho pins s2 σ H2 x y v u Q I2 rx ry q) hm
/-- a reading of a value as a test -/
def tTest (t : TE) : TT := fun σ H Q => t σ H fun x H' => ∃ k, x = .bl k ∧ Q k H'
theorem pt_cmpR {op : CmpOp} {r : R2} (ho : OpR X (compareOp op) r) (ha : PE X a ta) (hb : PE X b tb) (hm : behindInMarks op b = false) : PT X (.Compare a [op] [b] pos) (tTest (tOp r ta tb)) := by
  intro pins s σ H Q I h
  refine wpAny_isTrue_Compare1 (thn (ha pins s σ H _ I h) fun v s1 ⟨x, H1, I1, r1, q1⟩ => thn (hb pins s1 σ H1 _ I1 q1) fun u s2 ⟨y, H2, I2, r2, q2⟩ =>
    thn (ho pins s2 σ H2 x y v u _ I2 r1 r2 q2) fun c s3 ⟨z, H3, I3, r3, k, e, q3⟩ => ?_) hm
  subst e
  cases r3
  exact wpAny_truthy_bool ⟨H3, I3, q3⟩
/-- a op1 b op2 c -/
def tChain (r r' : R2) (ta tb tc : TE) : TE := fun σ H Q => ta σ H fun x H1 => tb σ H1 fun y H2 => r x y H2 fun z H3 => ∃ k, z = .bl k ∧
  (if k = true then tc σ H3 fun w' H4 => r' y w' H4 Q else Q (.bl false) H3)
theorem pe_chain {op op' : CmpOp} {r r' : R2} (ho : OpR X (compareOp op) r) (ho' : OpR X (compareOp op') r') (ha : PE X a ta) (hb : PE X b tb) (hc : PE X c tc)
    (hm : lastMarks [op, op'] [b, c] = false := by with_unfolding_all rfl) : PE X (.Compare a [op, op'] [b, c] pos) (tChain r r' ta tb tc) := by
  intro pins s σ H Q I h
  refine Compare_chain (thn (ha pins s σ H _ I h) fun v s1 ⟨x, H1, I1, r1, q1⟩ => chain_link (thn (hb pins s1 σ H1 _ I1 q1) fun u s2 ⟨y, H2, I2, r2, q2⟩ =>
    thn (ho pins s2 σ H2 x y v u _ I2 r1 r2 q2) fun d s3 ⟨z, H3, I3, r3, k, e, q3⟩ => ?_)) hm
  subst e
  cases r3
  refine wpAny_truthy_bool ?_
  cases k with
  | false => exact ite_ff ⟨.bl false, H3, I3, rfl, q3⟩
  | true => exact ite_tt (chain_last (thn (hc pins s3 σ H3 _ I3 q3) fun w' s4 ⟨z', H4, I4, r4, q4⟩ => ho' pins s4 σ H4 y z' u w' Q I4 r2 r4 q4))
theorem pt_chain {op op' : CmpOp} {r r' : R2} (ho : OpR X (compareOp op) r) (ho' : OpR X (compareOp op') r') (ha : PE X a ta) (hb : PE X b tb) (hc : PE X c tc)
    (hm : lastMarks [op, op'] [b, c] = false := by with_unfolding_all rfl) : PT X (.Compare a [op, op'] [b, c] pos) (tTest (tChain r r' ta tb tc)) := by
  intro pins s σ H Q I h
  refine isTrue_chain (thn (ha pins s σ H _ I h) fun v s1 ⟨x, H1, I1, r1, q1⟩ => test_link (thn (hb pins s1 σ H1 _ I1 q1) fun u s2 ⟨y, H2, I2, r2, q2⟩ =>
    thn (ho pins s2 σ H2 x y v u _ I2 r1 r2 q2) fun d s3 ⟨z, H3, I3, r3, k, e, q3⟩ => ?_)) hm
  subst e
  cases r3
  refine wpAny_truthy_bool ?_
  cases k with
  | false =>
    obtain ⟨k', e', q'⟩ := q3
    cases e'
    exact ite_ff ⟨H3, I3, q'⟩
  | true =>
    refine ite_tt (test_last (thn (hc pins s3 σ H3 _ I3 q3) fun w' s4 ⟨z', H4, I4, r4, q4⟩ => thn (ho' pins s4 σ H4 y z' u w' _ I4 r2 r4 q4) fun d' s5 ⟨z2, H5, I5, r5, k2, e2, q5⟩ => ?_))
    subst e2
    cases r5
    exact wpAny_truthy_bool ⟨H5, I5, q5⟩

/-! ### truth -/
/-- a value's truth by the abstract heap -/
def TruV (K : PySem.W.Frag) (x : V) (H : Hp) (k : Bool) : Prop :=
  match x with
  | .non => k = false
  | .bl b => k = b
  | .int i => k = (i != 0)
  | .str y => y.length ≤ sizeLine ∧ k = ((y.length : Int) != 0)
  | .byt y => y.size ≤ sizeLine ∧ k = ((y.size : Int) != 0)
  | .ref p => (∃ xs, SqL K H p xs ∧ k = !xs.isEmpty) ∨ (∃ xs, SqT K H p xs ∧ k = !xs.isEmpty) ∨ ∃ kvs, H p = some (.dK kvs) ∧ k = !kvs.isEmpty
  | _ => False
theorem isEmpty_kv {κ : Type} {kvs : List (κ × V)} {vs : List (κ × Value)} (r : KV kvs vs) : (!vs.isEmpty) = !kvs.isEmpty := by
  cases r <;> rfl
theorem isEmpty_of {xs : List V} {its : List Value} (r : Vals xs its) : (!its.toArray.isEmpty) = !xs.isEmpty := by
  cases r <;> simp
theorem line63 : (sizeLine : Nat) < 2 ^ 63 := by rw [sizeLine_eq]; decide
theorem tru_ok : TruR X (fun x H Q => ∃ k, TruV X.K x H k ∧ Q k H) := by
  intro pins s σ H x v Q I rx h
  obtain ⟨k, e, q⟩ := h
  have hl := line63
  have hs : sizeLine = 16777216 := sizeLine_eq
  cases x with
  | non =>
    cases rx
    have e' : k = false := e
    subst e'
    exact truthy_none ⟨H, I, q⟩
  | bl b =>
    cases rx
    have e' : k = b := e
    subst e'
    exact wpAny_truthy_bool ⟨H, I, q⟩
  | int i =>
    obtain ⟨t, rfl⟩ := rx
    have e' : k = (i != 0) := e
    subst e'
    exact PySem.P.truthy_int ⟨H, I, q⟩
  | str y =>
    obtain ⟨t, rfl⟩ := rx
    obtain ⟨hy, e'⟩ : y.length ≤ sizeLine ∧ k = ((y.length : Int) != 0) := e
    subst e'
    exact PySem.P.truthy_str (by omega) ⟨H, I.tok _, q⟩
  | byt y =>
    obtain ⟨t, rfl⟩ := rx
    obtain ⟨hy, e'⟩ : y.size ≤ sizeLine ∧ k = ((y.size : Int) != 0) := e
    subst e'
    exact PySem.W.truthy_bytes (by omega) ⟨H, I.tok _, q⟩
  | ref p =>
    cases rx
    have e' : (∃ xs, SqL X.K H p xs ∧ k = !xs.isEmpty) ∨ (∃ xs, SqT X.K H p xs ∧ k = !xs.isEmpty) ∨ ∃ kvs, H p = some (.dK kvs) ∧ k = !kvs.isEmpty := e
    rcases e' with ⟨xs, hx, e'⟩ | ⟨xs, hx, e'⟩ | ⟨kvs, hx, e'⟩
    · subst e'
      obtain ⟨its, r, pl, hz⟩ := I.list hx
      have hlen := r.length
      exact wpAny_truthy_list pl.isList (by simp only [List.size_toArray]; omega) ⟨H, I.tok _, by rw [isEmpty_of r]; exact q⟩
    · subst e'
      obtain ⟨its, r, pl, hz⟩ := I.tuple hx
      have hlen := r.length
      exact truthy_tuple pl (by simp only [List.size_toArray]; omega) ⟨H, I.tok _, by rw [isEmpty_of r]; exact q⟩
    · subst e'
      obtain ⟨hz, hS, vs, r, m⟩ : kvs.length ≤ sizeLine ∧ (p == sysModules) = false ∧ ∃ vs, KV kvs vs ∧ s.heap.DictOf (mixKind X.prog X.w) p vs := I.hok p _ hx
      have hlen : kvs.length = vs.length := Paired.length r
      exact wpAny_truthy_dict hS m (by omega) ⟨H, I.tok _, by rw [isEmpty_kv r]; exact q⟩
  | _ => exact (show False from e).elim
/-- any expression whose test is its value's truth (a name, a call, a subscript, a field ..: he by fun _ => rfl) -/
theorem pt_truth (ha : PE X a ta) (he : ∀ whole, isTrue a X.env whole = (do let v ← whole; standAt a.pos; holding [v] (truthy v))) :
    PT X a (fun σ H Q => ta σ H fun x H' => ∃ k, TruV X.K x H' k ∧ Q k H') := by
  intro pins s σ H Q I h
  exact isTrue_plain (thn (ha pins s σ H _ I h) fun v s1 ⟨x, H1, I1, r1, q1⟩ => tru_ok pins s1 σ H1 x v Q I1 r1 q1) (he _)

/-! ### strs and bytes -/
theorem pe_byt {x : List UInt8} {k : Nat} : PE X (.Constant (.bytes x) k pos) (fun _ H Q => Q (.byt x.toArray) H) := fun _ _ _ H _ I h => PySem.W.Constant_bytes ⟨.byt x.toArray, H, I.tok _, ⟨_, rfl⟩, h⟩
theorem op_add_str : OpR X (binaryOp .Add) (fun x y H Q => ∃ i j, x = .str i ∧ y = .str j ∧ i.length + j.length ≤ sizeLine ∧ Q (.str (i ++ j)) H) := by
  intro pins s σ H x y v u Q I rx ry h
  obtain ⟨i, j, rfl, rfl, hz, q⟩ := h
  obtain ⟨t, rfl⟩ := rx
  obtain ⟨t', rfl⟩ := ry
  exact add_str (fun t' tk => ⟨.str (i ++ j), H, I.tok _, ⟨_, rfl⟩, q⟩) hz
theorem iop_add_str : OpR X (inplaceOp .Add) (fun x y H Q => ∃ i j, x = .str i ∧ y = .str j ∧ i.length + j.length ≤ sizeLine ∧ Q (.str (i ++ j)) H) := by
  intro pins s σ H x y v u Q I rx ry h
  obtain ⟨i, j, rfl, rfl, hz, q⟩ := h
  obtain ⟨t, rfl⟩ := rx
  obtain ⟨t', rfl⟩ := ry
  exact iadd_str (fun t' tk => ⟨.str (i ++ j), H, I.tok _, ⟨_, rfl⟩, q⟩) hz
theorem op_add_byt : OpR X (binaryOp .Add) (fun x y H Q => ∃ i j, x = .byt i ∧ y = .byt j ∧ i.size + j.size ≤ 16777216 ∧ Q (.byt (i ++ j)) H) := by
  intro pins s σ H x y v u Q I rx ry h
  obtain ⟨i, j, rfl, rfl, hz, q⟩ := h
  obtain ⟨t, rfl⟩ := rx
  obtain ⟨t', rfl⟩ := ry
  exact PySem.W.KBy.add_bytes hz (fun t' tk => ⟨.byt (i ++ j), H, I.tok _, ⟨_, rfl⟩, q⟩)

def PlainIxT (b : Expr) : Prop := ∀ o i, subscripted b false o i = operate [o, i] (getItem o i)
/-- s[i], 0 ≤ i < len -/
theorem pe_item_str (ha : PE X a ta) (hb : PE X b tb) (hs : PlainIxT b) :
    PE X (.Subscript a b pos) (tOp (fun x y H Q => ∃ z i c, x = .str z ∧ y = .int i ∧ 0 ≤ i ∧ i < 2 ^ 63 ∧ i < z.length ∧ z.cps[i.toNat]? = some c ∧ Q (.str ⟨#[c]⟩) H) ta tb) := by
  intro pins s σ H Q I h
  refine Subscript_ (binT ha hb I h fun v u s2 x y H2 I2 rx ry q => ?_)
  obtain ⟨z, i, c, rfl, rfl, h0, h63, h1, hc, q⟩ := q
  obtain ⟨t, rfl⟩ := rx
  obtain ⟨t', rfl⟩ := ry
  have e : seqIndex? i z.length = some i.toNat := PySem.StrLaws.seqIndex_nonneg h0 h1
  exact tail_any (typeIs_str s2 z t) slot_str_getitem.lookup (getItem_str (c := c) (by
    have e1 : decide (i < -(2 ^ 63 : Int)) = false := decide_eq_false (by omega)
    have e2 : decide (i ≥ 2 ^ 63) = false := decide_eq_false (by omega)
    rw [e1, e2] <;> rfl) (by rw [e]; exact hc) ⟨.str ⟨#[c]⟩, H2, I2.tok _, ⟨_, rfl⟩, q⟩) (hs _ _)
/-- b[i], 0 ≤ i < len -/
theorem pe_item_byt (ha : PE X a ta) (hb : PE X b tb) (hs : PlainIxT b) :
    PE X (.Subscript a b pos) (tOp (fun x y H Q => ∃ (z : List UInt8) (i : Int), x = .byt z.toArray ∧ y = .int i ∧ z.length ≤ sizeLine ∧ 0 ≤ i ∧ i < z.length ∧ Q (.int ((z.getD i.toNat 0).toNat : Nat)) H) ta tb) := by
  intro pins s σ H Q I h
  refine Subscript_ (binT ha hb I h fun v u s2 x y H2 I2 rx ry q => ?_)
  obtain ⟨z, i, rfl, rfl, hz, h0, h1, q⟩ := q
  obtain ⟨t, rfl⟩ := rx
  obtain ⟨t', rfl⟩ := ry
  have hl : sizeLine = 16777216 := sizeLine_eq
  exact tail_any (PySem.W.typeIs_bytes s2 z.toArray t) PySem.W.FB.slot_bytes_getitem.lookup (PySem.W.getItem_bytes (by omega) h0 h1 ⟨.int ((z.getD i.toNat 0).toNat : Nat), H2, I2.tok _, ⟨_, rfl⟩, q⟩) (hs _ _)

/-! ### scalar builtins, by CallR -/
theorem vals1 {x : V} {us : List Value} (r : Vals [x] us) : ∃ u, us = [u] ∧ RelV x u := by
  cases r with
  | cons r1 r2 => cases r2; exact ⟨_, rfl, r1⟩
theorem vals2 {x y : V} {us : List Value} (r : Vals [x, y] us) : ∃ u w', us = [u, w'] ∧ RelV x u ∧ RelV y w' := by
  cases r with
  | cons r1 r2 =>
    cases r2 with
    | cons r3 r4 => cases r4; exact ⟨_, _, rfl, r1, r3⟩
theorem call_abs : CallR X (.builtin "abs") (fun xs H Q => ∃ i, xs = [.int i] ∧ Q (.int (if i < 0 then -i else i)) H) := by
  intro pins s σ H xs us Q I r h
  obtain ⟨i, rfl, q⟩ := h
  obtain ⟨u, rfl, t, rfl⟩ := vals1 r
  exact call_abs_int fun u tk => ⟨.int (if i < 0 then -i else i), H, I.tok _, ⟨_, rfl⟩, q⟩
theorem call_max2 (hc : X.calm = true) : CallR X (.builtin "max") (fun xs H Q => ∃ i j, xs = [.int i, .int j] ∧ Q (.int (if j > i then j else i)) H) := by
  intro pins s σ H xs us Q I r h
  obtain ⟨i, j, rfl, q⟩ := h
  obtain ⟨u, w', rfl, ⟨t, rfl⟩, ⟨t', rfl⟩⟩ := vals2 r
  refine max_two_ints (I.ok.hd hc) fun h' tk k => ⟨_, H, I.kept k, ?_, q⟩
  by_cases hj : j > i
  · rw [if_pos hj, if_pos hj]; exact ⟨_, rfl⟩
  · rw [if_neg hj, if_neg hj]; exact ⟨_, rfl⟩
theorem call_min2 (hc : X.calm = true) : CallR X (.builtin "min") (fun xs H Q => ∃ i j, xs = [.int i, .int j] ∧ Q (.int (if j < i then j else i)) H) := by
  intro pins s σ H xs us Q I r h
  obtain ⟨i, j, rfl, q⟩ := h
  obtain ⟨u, w', rfl, ⟨t, rfl⟩, ⟨t', rfl⟩⟩ := vals2 r
  refine min_two_ints (I.ok.hd hc) fun h' tk k => ⟨_, H, I.kept k, ?_, q⟩
  by_cases hj : j < i
  · rw [if_pos hj, if_pos hj]; exact ⟨_, rfl⟩
  · rw [if_neg hj, if_neg hj]; exact ⟨_, rfl⟩
theorem call_int1 : CallR X (.type "int") (fun xs H Q => (∃ i, xs = [.int i] ∧ Q (.int i) H) ∨ ∃ k, xs = [.bl k] ∧ Q (.int (if k then 1 else 0)) H) := by
  intro pins s σ H xs us Q I r h
  rcases h with ⟨i, rfl, q⟩ | ⟨k, rfl, q⟩
  · obtain ⟨u, rfl, t, rfl⟩ := vals1 r
    exact call_int_int ⟨.int i, H, I, ⟨_, rfl⟩, q⟩
  · obtain ⟨u, rfl, r1⟩ := vals1 r
    cases r1
    exact call_int_bool ⟨.int (if k then 1 else 0), H, I.tok _, ⟨_, rfl⟩, q⟩
theorem call_bool1 : CallR X (.type "bool") (fun xs H Q => (∃ i, xs = [.int i] ∧ Q (.bl (i != 0)) H) ∨ ∃ k, xs = [.bl k] ∧ Q (.bl k) H) := by
  intro pins s σ H xs us Q I r h
  rcases h with ⟨i, rfl, q⟩ | ⟨k, rfl, q⟩
  · obtain ⟨u, rfl, t, rfl⟩ := vals1 r
    exact call_bool_int ⟨.bl (i != 0), H, I, rfl, q⟩
  · obtain ⟨u, rfl, r1⟩ := vals1 r
    cases r1
    exact call_bool_bool ⟨.bl k, H, I, rfl, q⟩
theorem call_str_int : CallR X (.type "str") (fun xs H Q => ∃ i, xs = [.int i] ∧ i.natAbs.log2 < 1920 ∧ Q (.str (toString i)) H) := by
  intro pins s σ H xs us Q I r h
  obtain ⟨i, rfl, hz, q⟩ := h
  obtain ⟨u, rfl, t, rfl⟩ := vals1 r
  exact PySem.P.str_of_int hz ⟨.str _, H, I.tok _, ⟨_, rfl⟩, q⟩
theorem call_ord : CallR X (.builtin "ord") (fun xs H Q => ∃ x, xs = [.str x] ∧ x.length = 1 ∧ Q (.int (x.cps.getD 0 0 : Nat)) H) := by
  intro pins s σ H xs us Q I r h
  obtain ⟨x, rfl, hz, q⟩ := h
  obtain ⟨u, rfl, t, rfl⟩ := vals1 r
  exact ord_of_one hz ⟨.int _, H, I.tok _, ⟨_, rfl⟩, q⟩
theorem call_chr : CallR X (.builtin "chr") (fun xs H Q => ∃ i, xs = [.int i] ∧ 0 ≤ i ∧ i ≤ 1114111 ∧ Q (.str ⟨#[i.toNat]⟩) H) := by
  intro pins s σ H xs us Q I r h
  obtain ⟨i, rfl, h0, h1, q⟩ := h
  obtain ⟨u, rfl, t, rfl⟩ := vals1 r
  exact chr_of_range h0 h1 ⟨.str _, H, I.tok _, ⟨_, rfl⟩, q⟩
/-- len of a str, a bytes, a list, a tuple -/
def LenV (K : PySem.W.Frag) (x : V) (H : Hp) (n : Nat) : Prop :=
  match x with
  | .str y => y.length ≤ sizeLine ∧ n = y.length
  | .byt y => y.size ≤ sizeLine ∧ n = y.size
  | .ref p => (∃ xs, SqL K H p xs ∧ n = xs.length) ∨ ∃ xs, SqT K H p xs ∧ n = xs.length
  | _ => False
theorem call_len : CallR X (.builtin "len") (fun xs H Q => ∃ x n, xs = [x] ∧ LenV X.K x H n ∧ Q (.int n) H) := by
  intro pins s σ H xs us Q I r h
  obtain ⟨x, n, rfl, e, q⟩ := h
  obtain ⟨u, rfl, rx⟩ := vals1 r
  have hl := line63
  have hs : sizeLine = 16777216 := sizeLine_eq
  cases x with
  | str y =>
    obtain ⟨t, rfl⟩ := rx
    obtain ⟨hy, e'⟩ : y.length ≤ sizeLine ∧ n = y.length := e
    subst e'
    exact len_str (by omega) ⟨.int _, H, I.tok _, ⟨_, rfl⟩, q⟩
  | byt y =>
    obtain ⟨t, rfl⟩ := rx
    obtain ⟨hy, e'⟩ : y.size ≤ sizeLine ∧ n = y.size := e
    subst e'
    exact PySem.W.len_bytes (by omega) ⟨.int _, H, I.tok _, ⟨_, rfl⟩, q⟩
  | ref p =>
    cases rx
    have e' : (∃ xs, SqL X.K H p xs ∧ n = xs.length) ∨ ∃ xs, SqT X.K H p xs ∧ n = xs.length := e
    rcases e' with ⟨xs, hx, e'⟩ | ⟨xs, hx, e'⟩
    · subst e'
      obtain ⟨its, r', pl, hz⟩ := I.list hx
      have hlen := r'.length
      exact Calls.call_len_list pl.isList (by simp only [List.size_toArray]; omega) ⟨.int xs.length, H, I.tok _, ⟨_, by simp only [List.size_toArray]; rw [hlen]⟩, q⟩
    · subst e'
      obtain ⟨its, r', pl, hz⟩ := I.tuple hx
      have hlen := r'.length
      exact len_tuple pl (by simp only [List.size_toArray]; omega) ⟨.int xs.length, H, I.tok _, ⟨_, by simp only [List.size_toArray]; rw [hlen]⟩, q⟩
  | _ => exact (show False from e).elim
/-- divmod: a new tuple -/
theorem call_divmod : CallR X (.builtin "divmod") (fun xs H Q => ∃ i j, xs = [.int i, .int j] ∧ CDiv i j ∧ ∀ p, H p = none → Q (.ref p) (upd H p (.tup [.int (i / j), .int (i % j)]))) := by
  intro pins s σ H xs us Q I r h
  obtain ⟨i, j, rfl, ⟨h1, h2⟩, q⟩ := h
  obtain ⟨u, w', rfl, ⟨t, rfl⟩, ⟨t', rfl⟩⟩ := vals2 r
  refine divmod_int (by omega) ?_ (.inl (PyProof.noPylong_small (by omega)))
  rw [Int.fdiv_eq_ediv_of_nonneg i (by omega), Int.fmod_eq_emod_of_nonneg i (by omega)]
  have hn : H s.heap.objs.size = none := I.hok.fresh (Nat.le_refl _)
  refine ⟨.ref s.heap.objs.size, _, ?_, rfl, q _ hn⟩
  refine I.laid (fun b o e => Heap.get?_push_of_some _ e) (Nat.le_refl _) ⟨by simp only [List.length_cons, List.length_nil]; rw [sizeLine_eq]; decide, [.int (i / j) s.toks, .int (i % j) (s.toks + 1)], .cons ⟨_, rfl⟩ (.cons ⟨_, rfl⟩ .nil), ?_⟩
  exact ⟨_, Heap.get?_push_size s.heap rfl, rfl, 0, rfl⟩
end
end L2

namespace L2
open PySem PySem.Spec PyProof.Rows

/-! ### an instance, its attributes a map -/
structure ObjM (h : Heap) (x dx C : Addr) (mA : Str → Option Value) : Prop where
  obj : h.get? x = some (PySem.W.instObj C dx)
  ns : h.Ns1 dx mA
  ne : dx ≠ x

theorem lookIn_ns {h : Heap} {dx : Addr} {mA : Str → Option Value} (n : h.Ns1 dx mA) : ∃ od, h.get? dx = some od ∧ ∀ name, PySem.W.lookIn name od = some (mA name) := by
  obtain ⟨o, es, ep, ho, hd, hk, _, hm⟩ := n
  refine ⟨o, ho, fun name => ?_⟩
  have e := hm name
  unfold nsFind findBy at e
  rw [← Array.find?_toList] at e
  unfold PySem.W.lookIn
  rw [hd]
  dsimp only
  split
  · rename_i y q
    rw [q] at e
    exact congrArg some e
  · rename_i q
    rw [q] at e
    have a : es.toList.any (·.refKey) = false := by
      rw [List.any_eq_false]
      intro y hy
      obtain ⟨z, t, hkey⟩ := hk y (Array.mem_toList_iff.mp hy)
      simp [DictEntry.refKey, hkey]
    have a' : ¬ es.toList.any (·.refKey) = true := by rw [a]; exact Bool.false_ne_true
    rw [if_neg a']
    exact congrArg some e

theorem ObjM.look {h : Heap} {x dx C : Addr} {mA : Str → Option Value} (I : ObjM h x dx C mA) : ∃ od, PySem.W.InstAt h x (PySem.W.instObj C dx) C (some od) ∧ ∀ name, PySem.W.lookIn name od = some (mA name) :=
  let ⟨od, ho, hl⟩ := lookIn_ns I.ns
  ⟨od, ⟨I.obj, rfl, rfl, ho⟩, hl⟩

section
variable {prog : Program} {w : World} {A : Around} {E : Value → Shared → Prop} {s : Shared} {K : PySem.W.Frag} {x dx C f : Addr} {mA : Str → Option Value} {name : Str} {v : Value}

theorem get_map {expr : Bool} {Q : Value → Shared → Prop} (X : K.In s.heap) (I : ObjM s.heap x dx C mA) (hg : PySem.W.plainGet K C name = true) (hh : PySem.W.hasDictIn K C = true)
    (ha : PySem.W.findIn K (.ref C) name = some none) (hv : mA name = some v) (hv' : PySem.W.handedIn v = true) (h : Q v { s with toks := s.toks + 1 }) :
    wpAny (model prog w) A (getAttr (.ref x) name expr) Q E s := by
  obtain ⟨od, J, hl⟩ := I.look
  exact PySem.W.get_value X J (PySem.W.plainGet_of hg).1 (PySem.W.findObj_own hh ha rfl (by rw [hl, hv])) hv' h

theorem get_const {expr : Bool} {a : Value} {Q : Value → Shared → Prop} (X : K.In s.heap) (I : ObjM s.heap x dx C mA) (hg : PySem.W.plainGet K C name = true) (hh : PySem.W.hasDictIn K C = true)
    (ha : PySem.W.findIn K (.ref C) name = some (some a)) (hn : PySem.W.specialIn K a "__get__" = some none) (hc : PySem.W.copiedNames.contains name = false) (hv : mA name = none) (hv' : PySem.W.handedIn a = true)
    (h : Q a { s with toks := s.toks + 1 }) : wpAny (model prog w) A (getAttr (.ref x) name expr) Q E s := by
  obtain ⟨od, J, hl⟩ := I.look
  exact PySem.W.get_value X J (PySem.W.plainGet_of hg).1 (PySem.W.findObj_cls hh ha hn hv' hc (by rw [hl, hv])) hv' h

theorem get_meth {pl : Sem Bool} {Q : Value × List Value → Shared → Prop} (X : K.In s.heap) (I : ObjM s.heap x dx C mA) (hg : PySem.W.plainGet K C name = true)
    (hf : PySem.W.findIn K (.ref C) name = some (some (.ref f))) (ht : PySem.W.isFn K (.ref f) = true) (hv : mA name = none) (h : Q (.ref f, [.ref x]) s) :
    wpAny (model prog w) A (getMethod (.ref x) name pl) Q E s := by
  obtain ⟨od, J, hl⟩ := I.look
  exact PySem.W.method_fn X J (PySem.W.plainGet_of hg).1 (PySem.W.plainGet_of hg).2 hf (beq_iff_eq.mp ht) (by show (PySem.W.lookIn name od).map (·.isSome) = some false; rw [hl, hv]; rfl) h

theorem set_map {ns : List Str} {Q : Unit → Shared → Prop} (X : K.In s.heap) (I : ObjM s.heap x dx C mA)
    (hs : PySem.W.findIn K (.ref C) "__setattr__" = some (some (.builtin "object.__setattr__"))) (hp : PySem.W.plainOver K C = true) (ht : PySem.W.takerIn K C name = some none) (hh : PySem.W.hasDictIn K C = true)
    (hw : PySem.Within mA ns) (hsz : ns.length ≤ sizeLine)
    (h : ∀ h', ObjM h' x dx C (fun y => if y = name then some v else mA y) → Heap.SameBut dx s.heap h' → Q () { s with heap := h', toks := s.toks + 2 }) :
    wpAny (model prog w) A (setAttr (.ref x) name v) Q E s := by
  obtain ⟨od, J, hl⟩ := I.look
  refine PySem.W.set_plain X J hs (PySem.W.osa_open (s := { s with toks := s.toks + 1 }) (r := none) X J hp ht fun b => ?_)
  obtain ⟨cd, hc, hd'⟩ := PySem.W.any_some hh
  have hx : s.heap.get? x = some ⟨.ref C, some dx, .plain, #[]⟩ := I.obj
  refine wpAny_bind (wpAny_pure (wpAny_bind (wpAny_bind (wpAny_loadPart hx (wpAny_bind (PySem.W.Looks.here (s := { s with toks := s.toks + 1 }) (PySem.W.looks_clsIn X hc) ?_))))))
  rw [hd']
  refine wpAny_pure (a := some dx) (wpAny_bind (wpAny_pure (wpAny_bind ?_)))
  refine wpAny_nsSet1 (s := { s with toks := s.toks + 1 }) I.ns fun h' hn2 hs2 => ?_
  obtain ⟨oD, esD, epD, hoD, hdD, hcD⟩ := hn2.count (PySem.Within.cons name v hw)
  refine wpAny_bind (wpAny_lookBehind hoD (by rw [hdD]; exact pastItsLine_dict (Nat.le_trans hcD (by rw [List.length_cons]; omega))) ?_)
  exact wpAny_pure (h _ ⟨(hs2.2 _ (Ne.symm I.ne)).trans I.obj, hn2, I.ne⟩ hs2)

/-- C(..): the dict at the heap's end, the instance behind it; then its __init__ -/
theorem make_map {R : Result → Shared → Prop} {vs : List Value} {kw : List (Str × Value)} (X : K.In s.heap) (hm : PySem.W.makesIn K C = true)
    (hi : PySem.W.findIn K (.ref C) "__init__" = some (some (.ref f))) (hf : PySem.W.typeIn K (.ref f) = some (.type "function"))
    (h : codeAny (model prog w) (A.under (.builtin "type.__call__" ⟨.ref C :: vs, kw⟩)) (.call (.ref f) ⟨.ref (s.heap.objs.size + 1) :: vs, kw⟩) (PySem.W.InitBack (s.heap.objs.size + 1) R)
      { s with heap := (s.heap.push PySem.W.emptyDict).push (PySem.W.instObj C s.heap.objs.size) }) :
    codeAny (model prog w) A (.call (.ref C) ⟨vs, kw⟩) R s := by
  obtain ⟨hh, g, d, t, os⟩ := s
  exact PySem.W.make_core (PySem.W.makes_of X hm) (PySem.W.looks_findIn X hi) (fun self => PySem.W.bind_fn X self hf) (.inl rfl) h
/-- C() where there is no __init__ but object's -/
theorem make_map0 {R : Result → Shared → Prop} (X : K.In s.heap) (hm : PySem.W.makesIn K C = true)
    (hi : PySem.W.findIn K (.ref C) "__init__" = some (some (.builtin "object.__init__")))
    (hb : ∀ self, PySem.W.Looks (model prog w) s.heap (bindSpecial (.builtin "object.__init__") self) (.builtin "object.__init__", [self]))
    (h : codeAny (model prog w) (A.under (.builtin "type.__call__" ⟨[.ref C], []⟩)) (.call (.builtin "object.__init__") ⟨[.ref (s.heap.objs.size + 1)], []⟩) (PySem.W.InitBack (s.heap.objs.size + 1) R)
      { s with heap := (s.heap.push PySem.W.emptyDict).push (PySem.W.instObj C s.heap.objs.size) }) :
    codeAny (model prog w) A (.call (.ref C) ⟨[], []⟩) R s := by
  obtain ⟨hh, g, d, t, os⟩ := s
  exact PySem.W.make_core (PySem.W.makes_of X hm) (PySem.W.looks_findIn X hi) hb (.inr ⟨rfl, rfl⟩) h
end

/-! ### the attributes as a list of pairs -/
def putF (f : Str) (v : V) : List (Str × V) → List (Str × V)
  | [] => [(f, v)]
  | (g, x) :: r => if g = f then (g, v) :: r else (g, x) :: putF f v r
theorem lookup_putF (f g : Str) (v : V) : ∀ fs : List (Str × V), (putF f v fs).lookup g = if g = f then some v else fs.lookup g
  | [] => by
    show List.lookup g [(f, v)] = _
    by_cases h : g = f
    · have hb : (g == f) = true := beq_iff_eq.mpr h
      simp only [List.lookup, hb, if_pos h]
    · have hb : (g == f) = false := beq_eq_false_iff_ne.mpr h
      simp only [List.lookup, hb, if_neg h]
  | (k, x) :: r => by
    have ih := lookup_putF f g v r
    rw [show putF f v ((k, x) :: r) = (if k = f then (k, v) :: r else (k, x) :: putF f v r) from rfl]
    by_cases hk : k = f
    · rw [if_pos hk]
      by_cases h : g = k
      · have hb : (g == k) = true := beq_iff_eq.mpr h
        simp only [List.lookup, hb, if_pos (h.trans hk)]
      · have hb : (g == k) = false := beq_eq_false_iff_ne.mpr h
        simp only [List.lookup, hb, if_neg (fun e : g = f => h (e.trans hk.symm))]
    · rw [if_neg hk]
      by_cases h : g = k
      · have hb : (g == k) = true := beq_iff_eq.mpr h
        simp only [List.lookup, hb, if_neg (fun e : g = f => hk (h.symm.trans e))]
      · have hb : (g == k) = false := beq_eq_false_iff_ne.mpr h
        simp only [List.lookup, hb]
        exact ih
theorem keys_putF (f : Str) (v : V) : ∀ fs : List (Str × V), f ∈ (putF f v fs).map (·.1) ∧ ∀ g, g ∈ fs.map (·.1) → g ∈ (putF f v fs).map (·.1)
  | [] => ⟨by simp [putF], fun g h => by simp at h⟩
  | (k, x) :: r => by
    obtain ⟨i1, i2⟩ := keys_putF f v r
    rw [show putF f v ((k, x) :: r) = (if k = f then (k, v) :: r else (k, x) :: putF f v r) from rfl]
    by_cases hk : k = f
    · rw [if_pos hk]
      subst hk
      exact ⟨by simp, fun g h => by simpa using h⟩
    · rw [if_neg hk]
      refine ⟨?_, fun g h => ?_⟩
      · rw [List.map_cons]
        exact List.mem_cons_of_mem _ i1
      · rw [List.map_cons] at h ⊢
        rcases List.mem_cons.mp h with e | e
        · exact List.mem_cons.mpr (.inl e)
        · exact List.mem_cons_of_mem _ (i2 g e)
theorem length_putF (f : Str) (v : V) : ∀ fs : List (Str × V), (putF f v fs).length ≤ fs.length + 1
  | [] => by simp [putF]
  | (k, x) :: r => by
    have ih := length_putF f v r
    rw [show putF f v ((k, x) :: r) = (if k = f then (k, v) :: r else (k, x) :: putF f v r) from rfl]
    by_cases hk : k = f
    · rw [if_pos hk, List.length_cons, List.length_cons]; omega
    · rw [if_neg hk, List.length_cons, List.length_cons]; omega

theorem RelO.some_of {v : V} {o : Option Value} (r : RelO (some v) o) : ∃ u, o = some u ∧ RelV v u := by
  cases o with
  | none => exact (show False from r).elim
  | some u => exact ⟨u, rfl, r⟩
theorem RelO.none_of {o : Option Value} (r : RelO none o) : o = none := by
  cases o with
  | none => rfl
  | some u => exact (show False from r).elim
theorem handed_of {v : V} {u : Value} (r : RelV v u) : PySem.W.handedIn u = true := by
  cases v with
  | non => cases (show u = Value.none from r); rfl
  | bl b => cases (show u = Value.bool b from r); rfl
  | int i => obtain ⟨t, e⟩ := (show ∃ t, u = Value.int i t from r); cases e; rfl
  | str x => obtain ⟨t, e⟩ := (show ∃ t, u = Value.str x t from r); cases e; rfl
  | byt b => obtain ⟨t, e⟩ := (show ∃ t, u = Value.bytes b t from r); cases e; rfl
  | flt b => obtain ⟨t, e⟩ := (show ∃ t, u = Value.float b t from r); cases e; rfl
  | ref a => cases (show u = Value.ref a from r); rfl
  | ty n => cases (show u = Value.type n from r); rfl

section
variable {P : Program} {w : World} {H H' : Hp} {h h' : Heap} {a C dx : Addr} {fs fs' : List (Str × V)}
theorem ins_get (hok : HOk P w H h) (e : H a = some (.ins C dx fs)) : ∃ mA, ObjM h a dx C mA ∧ (∀ f, RelO (fs.lookup f) (mA f)) ∧ PySem.Within mA (fs.map (·.1)) ∧ fs.length ≤ 1000 ∧ H dx = some (.own a) := by
  obtain ⟨d, z, ne, ob, mA, n, r, q⟩ := (show ObjOk P w H h a (.ins C dx fs) from hok a _ e)
  exact ⟨mA, ⟨ob, n, ne⟩, r, q, z, d⟩
end

/-! ### what of the text a class must have -/
structure Cls (K : PySem.W.Frag) (C : Addr) : Prop where
  pg : PySem.W.plainGet K C Str.empty = true
  hd : PySem.W.hasDictIn K C = true
  po : PySem.W.plainOver K C = true
  sa : PySem.W.findIn K (.ref C) "__setattr__" = some (some (.builtin "object.__setattr__"))
theorem Cls.get {K : PySem.W.Frag} {C : Addr} (c : Cls K C) (f : Str) : PySem.W.plainGet K C f = true := c.pg
/-- no class of it has the name -/
def NoAttr (K : PySem.W.Frag) (C : Addr) (f : Str) : Prop := PySem.W.findIn K (.ref C) f = some none
theorem NoAttr.taker {K : PySem.W.Frag} {C : Addr} {f : Str} (n : NoAttr K C f) : PySem.W.takerIn K C f = some none := by
  unfold PySem.W.takerIn
  rw [show PySem.W.findIn K (.ref C) f = some none from n]
  rfl
/-- a constant of the class -/
structure Con (K : PySem.W.Frag) (C : Addr) (f : Str) (v : V) (u : Value) : Prop where
  at_ : PySem.W.findIn K (.ref C) f = some (some u)
  rel : RelV v u
  get : PySem.W.specialIn K u "__get__" = some none
  cp : PySem.W.copiedNames.contains f = false
/-- a method: a plain def of the class or of one above it -/
structure Meth (K : PySem.W.Frag) (C : Addr) (m : Str) (f : Addr) : Prop where
  at_ : PySem.W.findIn K (.ref C) m = some (some (.ref f))
  fn : PySem.W.isFn K (.ref f) = true
  kp : PySem.W.keepIn K (.ref f) = true

section
variable {X : Cx} {pins : List (Addr × Obj)} {σ : St} {H : Hp} {s : Shared} {a C dx : Addr} {fs : List (Str × V)} {f : Str} {v : V} {A : Around} {E : Value → Shared → Prop}

theorem getattr_ok {b : Bool} {Q : Value → Shared → Prop} (I : Inv X pins σ H s) (e : H a = some (.ins C dx fs)) (c : Cls X.K C) (n : NoAttr X.K C f) (l : fs.lookup f = some v)
    (h : ∀ u s', Inv X pins σ H s' → RelV v u → Q u s') : wpAny (model X.prog X.w) A (getAttr (.ref a) f b) Q E s := by
  obtain ⟨mA, O, r, _, _, _⟩ := ins_get I.hok e
  obtain ⟨u, hu, ru⟩ := RelO.some_of (v := v) (o := mA f) (by rw [← l]; exact r f)
  exact get_map I.kIn O (c.get f) c.hd n hu (handed_of ru) (h u _ (I.tok _) ru)

theorem getcon_ok {b : Bool} {u : Value} {Q : Value → Shared → Prop} (I : Inv X pins σ H s) (e : H a = some (.ins C dx fs)) (c : Cls X.K C) (k : Con X.K C f v u) (l : fs.lookup f = none)
    (h : ∀ s', Inv X pins σ H s' → Q u s') : wpAny (model X.prog X.w) A (getAttr (.ref a) f b) Q E s := by
  obtain ⟨mA, O, r, _, _, _⟩ := ins_get I.hok e
  have hn : mA f = none := RelO.none_of (by rw [← l]; exact r f)
  exact get_const I.kIn O (c.get f) c.hd k.at_ k.get k.cp hn (handed_of k.rel) (h _ (I.tok _))

theorem getmeth_ok {m : Str} {g : Addr} {pl : Sem Bool} {Q : Value × List Value → Shared → Prop} (I : Inv X pins σ H s) (e : H a = some (.ins C dx fs)) (c : Cls X.K C) (k : Meth X.K C m g) (l : fs.lookup m = none)
    (h : Q (.ref g, [.ref a]) s) : wpAny (model X.prog X.w) A (getMethod (.ref a) m pl) Q E s := by
  obtain ⟨mA, O, r, _, _, _⟩ := ins_get I.hok e
  have hn : mA m = none := RelO.none_of (by rw [← l]; exact r m)
  exact get_meth I.kIn O (c.get m) k.at_ k.fn hn h

theorem setattr_ok {y : V} {u : Value} {Q : Unit → Shared → Prop} (I : Inv X pins σ H s) (e : H a = some (.ins C dx fs)) (c : Cls X.K C) (n : NoAttr X.K C f) (hl : fs.length < 1000) (ry : RelV y u)
    (h : ∀ s', Inv X pins σ (upd H a (.ins C dx (putF f y fs))) s' → Q () s') : wpAny (model X.prog X.w) A (setAttr (.ref a) f u) Q E s := by
  obtain ⟨mA, O, r, wi, _, ho⟩ := ins_get I.hok e
  have hz : (fs.map (·.1)).length ≤ sizeLine := by rw [List.length_map, sizeLine_eq]; omega
  refine set_map I.kIn O c.sa c.po n.taker c.hd wi hz fun h' O' sb => h _ ?_
  have hd : ∃ o, h'.get? dx = some o := let ⟨o, _, _, e', _⟩ := O'.ns; ⟨o, e'⟩
  refine I.write (x := a) (e := dx) (by rw [e]; exact True.intro) (.inr ho) (fun b q hb z => (sb.2 b hb).trans z) hd ?_
  refine ⟨by rw [upd_ne O.ne]; exact ho, ?_, O.ne, O'.obj, _, O'.ns, fun g => ?_, fun g hg => ?_⟩
  · have := length_putF f y fs; omega
  · show RelO ((putF f y fs).lookup g) (if g = f then some u else mA g)
    rw [lookup_putF]
    by_cases q : g = f
    · rw [if_pos q, if_pos q]; exact ry
    · rw [if_neg q, if_neg q]; exact r g
  · by_cases q : g = f
    · rw [q]; exact (keys_putF f y fs).1
    · refine (keys_putF f y fs).2 g (wi g fun z => hg ?_)
      show (if g = f then some u else mA g) = none
      rw [if_neg q]; exact z

/-- a new instance, tracked, without attributes -/
theorem Inv.made (I : Inv X pins σ H s) : Inv X pins σ (upd (upd H s.heap.objs.size (.own (s.heap.objs.size + 1))) (s.heap.objs.size + 1) (.ins C s.heap.objs.size []))
    { s with heap := (s.heap.push PySem.W.emptyDict).push (PySem.W.instObj C s.heap.objs.size) } := by
  have e1 : (s.heap.push PySem.W.emptyDict).get? s.heap.objs.size = some PySem.W.emptyDict := Heap.get?_push_size s.heap rfl
  have e2 : ((s.heap.push PySem.W.emptyDict).push (PySem.W.instObj C s.heap.objs.size)).get? (s.heap.objs.size + 1) = some (PySem.W.instObj C s.heap.objs.size) := by
    have := Heap.get?_push_size (s.heap.push PySem.W.emptyDict) (o := PySem.W.instObj C s.heap.objs.size) rfl
    rwa [Heap.size_push] at this
  have e3 : (s.heap.push PySem.W.emptyDict).Ns s.heap.objs.size (fun _ => none) := ⟨PySem.W.emptyDict, #[], _, e1, rfl, (fun e he => absurd he (by simp)), fun _ => rfl⟩
  have I1 := I.laid (a := s.heap.objs.size) (o := .own (s.heap.objs.size + 1)) (h' := s.heap.push PySem.W.emptyDict) (t' := s.toks) (fun b u q => Heap.get?_push_of_some _ q) (Nat.le_refl _) ⟨_, e1⟩
  refine I1.laid (a := s.heap.objs.size + 1) (o := .ins C s.heap.objs.size []) (t' := s.toks) (fun b u q => Heap.get?_push_of_some _ q) (Nat.le_of_eq (Heap.size_push _ _)) ?_
  have ne : s.heap.objs.size ≠ s.heap.objs.size + 1 := Nat.ne_of_lt (Nat.lt_succ_self _)
  refine ⟨by rw [upd_ne ne, upd_same], Nat.zero_le _, ne, e2, fun _ => none, (Heap.Ns1.of_empty e3).at fun o q => Heap.get?_push_of_some _ q, fun _ => True.intro, fun y hy => absurd rfl hy⟩

/-- e.f where nothing but the object is asked: through attributeBase (super) and the last hold -/
theorem attr_of {prog : Program} {w : World} {env : Env} {e : Expr} {f : Str} {pos : Pos} {s : Shared} {Q : Value → Shared → Prop} (hb : attributeBase e f env (eval e env) = eval e env)
    (h : wpAny (model prog w) A (eval e env) (fun o s₁ => wpAny (model prog w) A (getAttr o f true) Q E s₁) E s) : wpAny (model prog w) A (eval (.Attribute e f pos) env) Q E s :=
  Attribute_any_ h (by rw [arm_eval_Attribute, hb])
end

/-! ### readings and rules -/
/-- e.f, an attribute of the instance -/
def tFld (K : PySem.W.Frag) (ta : TE) (f : Str) : TE := fun σ H Q => ta σ H fun x H1 => ∃ a C dx fs v, x = .ref a ∧ H1 a = some (.ins C dx fs) ∧ Cls K C ∧ NoAttr K C f ∧ fs.lookup f = some v ∧ Q v H1
/-- e.f, a constant of the class -/
def tCon (K : PySem.W.Frag) (ta : TE) (f : Str) : TE := fun σ H Q => ta σ H fun x H1 => ∃ a C dx fs v u, x = .ref a ∧ H1 a = some (.ins C dx fs) ∧ Cls K C ∧ Con K C f v u ∧ fs.lookup f = none ∧ Q v H1
/-- e.f = value -/
def sFld (K : PySem.W.Frag) (ta tv : TE) (f : Str) : TS := fun D σ H => tv σ H fun y H1 => ta σ H1 fun x H2 => ∃ a C dx fs, x = .ref a ∧ H2 a = some (.ins C dx fs) ∧ Cls K C ∧ NoAttr K C f ∧ fs.length < 1000 ∧
  D.nx σ (upd H2 a (.ins C dx (putF f y fs)))
/-- an augmented operator on two values -/
def InOp (X : Cx) (op : Operator) (rd : V → V → Hp → VK → Prop) : Prop :=
  ∀ (pins : List (Addr × Obj)) (s : Shared) (σ : St) (H : Hp) (x y : V) (u v : Value) (Q : VK), Inv X pins σ H s → RelV x u → RelV y v → rd x y H Q → wpAny (model X.prog X.w) X.A (inplaceOp op u v) (EP X pins σ Q) X.xe s
/-- e.f op= value -/
def sFldAug (K : PySem.W.Frag) (ta tv : TE) (rd : V → V → Hp → VK → Prop) (f : Str) : TS := fun D σ H => ta σ H fun x H1 => ∃ a C dx fs v, x = .ref a ∧ H1 a = some (.ins C dx fs) ∧ Cls K C ∧ NoAttr K C f ∧ fs.lookup f = some v ∧
  tv σ H1 fun y H2 => rd v y H2 fun z H3 => ∃ dx' fs', H3 a = some (.ins C dx' fs') ∧ fs'.length < 1000 ∧ D.nx σ (upd H3 a (.ins C dx' (putF f z fs')))

section
variable {X : Cx} {o e value : Expr} {f : Str} {pos pos' tpos : Pos} {ta tv : TE}
theorem pe_fld (he : PE X e ta) (hb : attributeBase e f X.env (eval e X.env) = eval e X.env) : PE X (.Attribute e f pos) (tFld X.K ta f) := by
  intro pins s σ H Q I h
  refine attr_of hb (thn (he pins s σ H _ I h) fun u s1 ⟨x, H1, I1, rx, a, C, dx, fs, v, ex, ea, c, n, l, q⟩ => ?_)
  subst ex
  obtain rfl : u = Value.ref a := rx
  exact getattr_ok I1 ea c n l fun u' s2 I2 ru => ⟨v, H1, I2, ru, q⟩
theorem pe_con (he : PE X e ta) (hb : attributeBase e f X.env (eval e X.env) = eval e X.env) : PE X (.Attribute e f pos) (tCon X.K ta f) := by
  intro pins s σ H Q I h
  refine attr_of hb (thn (he pins s σ H _ I h) fun u s1 ⟨x, H1, I1, rx, a, C, dx, fs, v, u0, ex, ea, c, k, l, q⟩ => ?_)
  subst ex
  obtain rfl : u = Value.ref a := rx
  exact getcon_ok I1 ea c k l fun s2 I2 => ⟨v, H1, I2, k.rel, q⟩
theorem ps_fld (ha : PE X o ta) (hv : PE X value tv) (hs : swapsWith value (some (.Attribute o f pos')) pos.line X.env = pure false) : PS X (.Assign [.Attribute o f pos'] value pos) (sFld X.K ta tv f) := by
  intro pins s σ H D I h
  refine plainObj_wpAny_Assign_Attribute (thn (hv pins s σ H _ I h) fun u s1 ⟨y, H1, I1, ry, q⟩ => thn (ha pins s1 σ H1 _ I1 q) fun ov s2 ⟨x, H2, I2, rx, a, C, dx, fs, ex, ea, c, n, l, q2⟩ => ?_) hs
  subst ex
  obtain rfl : ov = Value.ref a := rx
  exact setattr_ok I2 ea c n l ry fun s3 I3 => ⟨σ, _, I3, q2⟩
theorem ps_fldaug {op : Operator} {rd : V → V → Hp → VK → Prop} (ha : PE X o ta) (hv : PE X value tv) (hop : InOp X op rd) : PS X (.AugAssign (.Attribute o f tpos) op value pos) (sFldAug X.K ta tv rd f) := by
  intro pins s σ H D I h
  refine wpAny_AugAssign_AttributeAny (thn (ha pins s σ H _ I h) fun ov s1 ⟨x, H1, I1, rx, a, C, dx, fs, v, ex, ea, c, n, l, q⟩ => ?_)
  subst ex
  obtain rfl : ov = Value.ref a := rx
  refine getattr_ok I1 ea c n l fun u s2 I2 ru => thn (hv pins s2 σ H1 _ I2 q) fun w3 s3 ⟨y, H2, I3, ry, q3⟩ => thn (hop pins s3 σ H2 v y u w3 _ I3 ru ry q3) fun w4 s4 ⟨z, H3, I4, rz, dx', fs', ea', l', q4⟩ => ?_
  exact setattr_ok I4 ea' c n l' rz fun s5 I5 => ⟨σ, _, I5, q4⟩
def rAdd : V → V → Hp → VK → Prop := fun x y H Q => ∃ i j, x = .int i ∧ y = .int j ∧ Q (.int (i + j)) H
def rSub : V → V → Hp → VK → Prop := fun x y H Q => ∃ i j, x = .int i ∧ y = .int j ∧ Q (.int (i - j)) H
theorem in_add : InOp X .Add rAdd := by
  rintro pins s σ H x y u v Q I rx ry ⟨i, j, rfl, rfl, q⟩
  obtain ⟨t, rfl⟩ := (show ∃ t, u = Value.int i t from rx)
  obtain ⟨t', rfl⟩ := (show ∃ t', v = Value.int j t' from ry)
  exact PyProof.Rows.iadd_int ⟨.int (i + j), H, I.tok _, ⟨_, rfl⟩, q⟩
theorem in_sub : InOp X .Sub rSub := by
  rintro pins s σ H x y u v Q I rx ry ⟨i, j, rfl, rfl, q⟩
  obtain ⟨t, rfl⟩ := (show ∃ t, u = Value.int i t from rx)
  obtain ⟨t', rfl⟩ := (show ∃ t', v = Value.int j t' from ry)
  exact PyProof.Rows.isub_int ⟨.int (i - j), H, I.tok _, ⟨_, rfl⟩, q⟩

/-- what is between an instance and its method: the tree of a method call -/
theorem methcall_of {pl : Sem Bool} {m : Str} {apos : Pos} {args : List Expr} {pins : List (Addr × Obj)} {s : Shared} {σ : St} {H : Hp} {Q : Value → Shared → Prop} {te : TE} (he : PE X e te) (I : Inv X pins σ H s)
    (h : te σ H fun x H1 => ∃ a C dx fs g, x = .ref a ∧ H1 a = some (.ins C dx fs) ∧ Cls X.K C ∧ Meth X.K C m g ∧ fs.lookup m = none ∧
      ∀ s1, Inv X pins σ H1 s1 → wpAny (model X.prog X.w) X.A (callWith pos (.ref g) [.ref a] (backTo pos (starEach args X.env)) (backToKw pos (keywordEach [] X.env))) Q X.xe s1)
    (ht : eval (.Call (.Attribute e m apos) args [] pos) X.env = (do
      let ov ← eval e X.env
      standAt apos.atName
      let (f, first) ← holding [ov] (getMethod ov m pl)
      callWith pos f first (backTo pos (starEach args X.env)) (backToKw pos (keywordEach [] X.env)))) :
    wpAny (model X.prog X.w) X.A (eval (.Call (.Attribute e m apos) args [] pos) X.env) Q X.xe s := by
  refine PySem.W.methodCall_KW (pl := pl) (thn (he pins s σ H _ I h) fun u s1 ⟨x, H1, I1, rx, a, C, dx, fs, g, ex, ea, c, k, l, q⟩ => ?_) ht
  subst ex
  obtain rfl : u = Value.ref a := rx
  exact getmeth_ok I1 ea c k l (q s1 I1)
end

/-! ### isinstance -/
section
variable {X : Cx} {pins : List (Addr × Obj)} {σ : St} {H : Hp} {s : Shared} {A : Around} {E : Value → Shared → Prop} {Q : Value → Shared → Prop} {c : Value} {b : Bool}
/-- the type of a value, as the fragment's deciders take it; for an instance its class -/
inductive TyOf (K : PySem.W.Frag) (H : Hp) : V → Value → Prop where
  | non : TyOf K H .non (.type "NoneType")
  | bl (x : Bool) : TyOf K H (.bl x) (.type "bool")
  | int (i : Int) : TyOf K H (.int i) (.type "int")
  | str (x : Str) : TyOf K H (.str x) (.type "str")
  | flt (x : UInt64) : TyOf K H (.flt x) (.type "float")
  | lst {a : Addr} {xs : List V} (e : H a = some (.lst xs)) : TyOf K H (.ref a) (.type "list")
  | frz {a : Addr} {o : Obj} {xs : List V} (e : H a = some (.frz o (.lst xs))) : TyOf K H (.ref a) (.type "list")
  | tup {a : Addr} {xs : List V} (e : H a = some (.tup xs)) : TyOf K H (.ref a) (.type "tuple")
  | dK {a : Addr} {kvs : List (Key × V)} (e : H a = some (.dK kvs)) : TyOf K H (.ref a) (.type "dict")
  | dT {a : Addr} {kvs : List (List Key × V)} (e : H a = some (.dT kvs)) : TyOf K H (.ref a) (.type "dict")
  | ins {a C dx : Addr} {fs : List (Str × V)} (e : H a = some (.ins C dx fs)) (cl : Cls K C) (ha : PySem.W.findIn K (.ref C) "__class__" = some (some (.builtin "object.__class__")))
      (hn : PySem.W.specialIn K (.builtin "object.__class__") "__get__" = some (some (.builtin "getset_descriptor.__get__"))) (htk : PySem.W.takesIn K (.builtin "object.__class__") = some true)
      (hm : PySem.W.mroIn K C (.type "object") = some true) : TyOf K H (.ref a) (.ref C)
/-- isinstance(x, c) for one class c, a built-in or an own one: kitOne's answer -/
theorem isinst_ok {x : V} {u t : Value} (I : Inv X pins σ H s) (rx : RelV x u) (ty : TyOf X.K H x t) (e : PySem.W.kitOne X.K t c = some b) (h : ∀ tk, Q (.bool b) { s with toks := tk }) :
    wpAny (model X.prog X.w) A (call (.builtin "isinstance") [u, c]) Q E s := by
  cases ty with
  | non => cases (show u = Value.none from rx); exact PySem.W.kia_one PySem.W.kitx_none I.kIn True.intro e (fun z => nomatch z) h
  | bl y => cases (show u = Value.bool y from rx); exact PySem.W.kia_one PySem.W.kitx_bool I.kIn True.intro e (fun z => nomatch z) h
  | int i => obtain ⟨t, q⟩ := (show ∃ t, u = Value.int i t from rx); cases q; exact PySem.W.kia_one PySem.W.kitx_int I.kIn True.intro e (fun z => nomatch z) h
  | str y => obtain ⟨t, q⟩ := (show ∃ t, u = Value.str y t from rx); cases q; exact PySem.W.kia_one PySem.W.kitx_str I.kIn True.intro e (fun z => nomatch z) h
  | flt y => obtain ⟨t, q⟩ := (show ∃ t, u = Value.float y t from rx); cases q; exact PySem.W.kia_one PySem.W.kitx_float I.kIn True.intro e (fun z => nomatch z) h
  | @lst a xs ea =>
    cases (show u = Value.ref a from rx)
    obtain ⟨_, _, n, _, h1⟩ := (show ObjOk X.prog X.w H s.heap a (.lst xs) from I.hok a _ ea)
    exact PySem.W.kia_one PySem.W.kitx_list I.kIn ⟨_, h1, rfl⟩ e (fun z => nomatch z) h
  | @frz a ob xs ea =>
    cases (show u = Value.ref a from rx)
    obtain ⟨_, _, _, n, _, h1⟩ := (show ObjOk X.prog X.w H s.heap a (.frz ob (.lst xs)) from I.hok a _ ea)
    exact PySem.W.kia_one PySem.W.kitx_list I.kIn ⟨_, h1, rfl⟩ e (fun z => nomatch z) h
  | @tup a xs ea =>
    cases (show u = Value.ref a from rx)
    obtain ⟨_, _, _, p⟩ := (show ObjOk X.prog X.w H s.heap a (.tup xs) from I.hok a _ ea)
    obtain ⟨o, h1, h2, _⟩ := p
    exact PySem.W.kia_one PySem.W.kitx_tuple I.kIn ⟨o, h1, h2⟩ e (fun z => nomatch z) h
  | @dK a kvs ea =>
    cases (show u = Value.ref a from rx)
    obtain ⟨_, _, vs, _, p⟩ := (show ObjOk X.prog X.w H s.heap a (.dK kvs) from I.hok a _ ea)
    obtain ⟨o, es, ep, h1, h2, _⟩ := p
    exact PySem.W.kia_one PySem.W.kitx_dict I.kIn ⟨o, h1, h2.1⟩ e (fun z => nomatch z) h
  | @dT a kvs ea =>
    cases (show u = Value.ref a from rx)
    obtain ⟨_, _, xs, _, o, es, ep, h1, h2, _⟩ := (show ObjOk X.prog X.w H s.heap a (.dT kvs) from I.hok a _ ea)
    exact PySem.W.kia_one PySem.W.kitx_dict I.kIn ⟨o, h1, h2.1⟩ e (fun z => nomatch z) h
  | @ins a C dx fs ea cl ha hn htk hm =>
    cases (show u = Value.ref a from rx)
    obtain ⟨mA, O, _⟩ := ins_get I.hok ea
    obtain ⟨od, J, _⟩ := O.look
    exact PySem.W.kia_one (PySem.W.kitx_own (cl.get _) cl.hd ha hn htk hm) I.kIn J e (fun z => nomatch z) h
end
end L2

namespace L2
open PySem PySem.Spec PyProof.Rows

/-! ### room -/
structure Room (k : Nat) (A : Around) : Prop where
  hd : A.handled = none
  dp : A.depth + 3 * k + 5 < recursionLimit
  un : A.units + 16 * k + 200 < cLine
  gd : A.guards = some []
theorem Room.mono {j k : Nat} {A : Around} (r : Room k A) (h : j ≤ k) : Room j A := ⟨r.hd, by have := r.dp; omega, by have := r.un; omega, r.gd⟩
theorem Room.deeper {k : Nat} {A : Around} (r : Room (k + 1) A) (env : Env) : Room k (A.deeper env) :=
  ⟨r.hd, by have := r.dp; show A.depth + 1 + 3 * k + 5 < _; omega, by have := r.un; show A.units + 3 + 16 * k + 200 < _; omega, r.gd⟩
theorem Room.in1 {k : Nat} {A : Around} (r : Room (k + 1) A) : Room k A.in1 :=
  ⟨r.hd, by have := r.dp; show A.depth + 3 * k + 5 < _; omega, by have := r.un; show A.units + 1 + 16 * k + 200 < _; omega, r.gd⟩
theorem make_depth {A : Around} {C : Addr} {us : List Value} {kw : List (Str × Value)} : (A.under (.builtin "type.__call__" ⟨.ref C :: us, kw⟩)).depth = A.depth + 1 := by
  first | rfl | simp [Around.under, Code.weight, Code.isCreation, Code.isGuard, Code.isCaller, Code.frames, Code.isFrame, guardIds]
theorem make_units {A : Around} {C : Addr} {us : List Value} {kw : List (Str × Value)} : (A.under (.builtin "type.__call__" ⟨.ref C :: us, kw⟩)).units = A.units + 1 := by
  first | rfl | simp [Around.under, Code.cUnits, Code.frames, Code.isFrame]
theorem Room.make {k : Nat} {A : Around} (r : Room (k + 1) A) (C : Addr) (us : List Value) (kw : List (Str × Value)) : Room k (A.under (.builtin "type.__call__" ⟨.ref C :: us, kw⟩)) :=
  ⟨r.hd, by have := r.dp; rw [make_depth]; omega, by have := r.un; rw [make_units]; omega, by first | exact r.gd | (simpa [Around.under, Code.envs, Code.isFrame, Code.isGuard, guardIds] using r.gd)⟩
theorem Room.depth {k : Nat} {A : Around} (r : Room k A) : A.depth < recursionLimit := by have := r.dp; omega
theorem Room.units {k : Nat} {A : Around} (r : Room k A) : A.units + 64 < cLine := by have := r.un; omega
theorem Room.units0 {k : Nat} {A : Around} (r : Room k A) : A.units < cLine := by have := r.un; omega

/-! ### argument lists and displays -/
def tNil : TA := fun _ H Q => Q [] H
def tCons (ta : TE) (tr : TA) : TA := fun σ H Q => ta σ H fun x H1 => tr σ H1 fun xs H2 => Q (x :: xs) H2
section
variable {X : Cx} {e : Expr} {es : List Expr} {te : TE} {t : TA} {pos : Pos}
theorem pa_nil : PA X [] tNil := fun _ _ _ _ H Q I h => Calls.spliced_nil ⟨[], H, I, .nil, h⟩
theorem pa_cons (ha : PE X e te) (hr : PA X es t) (hs : starEach (e :: es) X.env = (false, eval e X.env) :: starEach es X.env := by rfl) : PA X (e :: es) (tCons te t) := by
  intro pos pins s σ H Q I h
  rw [hs]
  show wpAny _ _ (spliced ((false, eval e X.env) :: backTo pos (starEach es X.env))) _ _ s
  refine Calls.spliced_cons (thn (ha pins s σ H _ I h) fun u s1 ⟨x, H1, I1, r1, q1⟩ => ?_)
  exact thn (hr pos pins s1 σ H1 _ I1 q1) fun us s2 ⟨xs, H2, I2, r2, q2⟩ => ⟨x :: xs, H2, I2, .cons r1 r2, q2⟩

/-- a tuple, a list of written items -/
def tTup (t : TA) : TE := fun σ H Q => t σ H fun xs H1 => xs.length ≤ sizeLine ∧ ∀ p, H1 p = none → Q (.ref p) (upd H1 p (.tup xs))
def tLst (t : TA) : TE := fun σ H Q => t σ H fun xs H1 => xs.length ≤ sizeLine ∧ ∀ p, H1 p = none → Q (.ref p) (upd H1 p (.lst xs))
theorem pe_tup {x1} (h : PA X es t) : PE X (.Tuple es x1 pos) (tTup t) := by
  intro pins s σ H Q I hq
  refine wpAny_Tuple_spliced (thn (h pos pins s σ H _ I hq) fun us s1 ⟨xs, H1, I1, r, z, q⟩ => ⟨by rw [← r.length]; exact z, ?_⟩)
  have hf : H1 s1.heap.objs.size = none := I1.hok.fresh (Nat.le_refl _)
  refine ⟨.ref s1.heap.objs.size, upd H1 s1.heap.objs.size (.tup xs), I1.laid (t' := s1.toks) (fun b u e => Heap.get?_push_of_some _ e) (Nat.le_refl _) ?_, rfl, q _ hf⟩
  exact ⟨z, us, r, ⟨_, Heap.get?_push_size _ rfl, rfl, _, rfl⟩⟩
theorem pe_lst (h : PA X es t) : PE X (.List es pos) (tLst t) := by
  intro pins s σ H Q I hq
  refine wpAny_List_spliced (thn (h pos pins s σ H _ I hq) fun us s1 ⟨xs, H1, I1, r, z, q⟩ => ⟨by rw [← r.length]; exact z, ?_⟩)
  have hf : H1 s1.heap.objs.size = none := I1.hok.fresh (Nat.le_refl _)
  refine ⟨.ref s1.heap.objs.size, upd H1 s1.heap.objs.size (.lst xs), I1.laid (t' := s1.toks) (fun b u e => Heap.get?_push_of_some _ e) (Nat.le_refl _) ?_, rfl, q _ hf⟩
  exact ⟨z, us, 0, r, Heap.get?_push_size _ rfl⟩
end

/-! ### what a def promises -/
/-- a def's promise: the bound arguments in the parameters' order, the heap, the wanted end, the wanted exception -/
abbrev Sp := List V → Hp → VK → XK → Prop
/-- how an exception lies behind a call (file 08 gives it): the callers' frames, abstract heap and state ahead of the call, the wish, the exception, the state -/
abbrev CXT := List Env → Hp → Shared → XK → Value → Shared → Prop

/-- the state at a call -/
structure Env0 (P : Program) (w : World) (K : PySem.W.Frag) (mg : Str → Option Value) (base : Heap) (A : Around) (outer : List Env) (s : Shared) (H : Hp) : Prop where
  frames : A.frames = some outer
  mod : Mod K mg base
  bs : ∀ b o, base.get? b = some o → s.heap.get? b = some o ∧ H b = none
  bsz : base.objs.size ≤ s.heap.objs.size
  funs : s.heap.FunFrames base outer
  frf : ∀ b ∈ frs outer, H b = none
  hok : HOk P w H s.heap
  bare : AllBare s.gens
/-- a call's end -/
def CE (outer : List Env) (P : Program) (w : World) (H : Hp) (s : Shared) (Q : VK) (u : Value) (s' : Shared) : Prop :=
  ∃ v H', s'.os = s.os ∧ AllBare s'.gens ∧ Un (frs outer) [] H H' s.heap s'.heap ∧ HOk P w H' s'.heap ∧ RelV v u ∧ Q v H'
def CR (CX : CXT) (outer : List Env) (P : Program) (w : World) (H : Hp) (s : Shared) (Q : VK) (E : XK) (r : Result) (s' : Shared) : Prop :=
  match r with
  | .ok (.ret u) => CE outer P w H s Q u s'
  | .ok _ => False
  | .error e => CX outer H s E e s'
structure FnOk (P : Program) (w : World) (K : PySem.W.Frag) (mg : Str → Option Value) (base : Heap) (CX : CXT) (k : Nat) (f : Addr) (fd : FuncData) (ps : List Str) (sp : Sp) : Prop where
  len : ∀ vs H Q E, sp vs H Q E → vs.length = ps.length
  run : ∀ (A : Around) (outer : List Env) (s : Shared) (H : Hp) (args : Args) (us : List Value) (vs : List V) (Q : VK) (E : XK), Room k A → Env0 P w K mg base A outer s H → BindsTo s fd args (ps.zip us) → Vals vs us → sp vs H Q E →
    codeAny (model P w) A (.call (.ref f) args) (CR CX outer P w H s Q E) s
theorem FnOk.mono {P : Program} {w : World} {K : PySem.W.Frag} {mg : Str → Option Value} {base : Heap} {CX : CXT} {j k : Nat} {f : Addr} {fd : FuncData} {ps : List Str} {sp : Sp} (F : FnOk P w K mg base CX j f fd ps sp) (h : j ≤ k) :
    FnOk P w K mg base CX k f fd ps sp := ⟨F.len, fun A outer s H args us vs Q E hr => F.run A outer s H args us vs Q E (hr.mono h)⟩
/-- a weaker promise -/
theorem FnOk.imp {P : Program} {w : World} {K : PySem.W.Frag} {mg : Str → Option Value} {base : Heap} {CX : CXT} {k : Nat} {f : Addr} {fd : FuncData} {ps : List Str} {sp sp' : Sp} (F : FnOk P w K mg base CX k f fd ps sp)
    (h : ∀ vs H Q E, sp' vs H Q E → sp vs H Q E) : FnOk P w K mg base CX k f fd ps sp' :=
  ⟨fun vs H Q E q => F.len vs H Q E (h _ _ _ _ q), fun A outer s H args us vs Q E hr he hb hv hs => F.run A outer s H args us vs Q E hr he hb hv (h _ _ _ _ hs)⟩

theorem Env0.make {P : Program} {w : World} {K : PySem.W.Frag} {mg : Str → Option Value} {base : Heap} {A : Around} {outer : List Env} {s : Shared} {H : Hp} (e : Env0 P w K mg base A outer s H) (C : Addr) (us : List Value) (kw : List (Str × Value)) :
    Env0 P w K mg base (A.under (.builtin "type.__call__" ⟨.ref C :: us, kw⟩)) outer s H := ⟨by first | exact e.frames | (simpa [Around.under, Code.envs, Code.isFrame, pushEnvs] using e.frames), e.mod, e.bs, e.bsz, e.funs, e.frf, e.hok, e.bare⟩
theorem Env0.in1 {P : Program} {w : World} {K : PySem.W.Frag} {mg : Str → Option Value} {base : Heap} {A : Around} {outer : List Env} {s : Shared} {H : Hp} (e : Env0 P w K mg base A outer s H) :
    Env0 P w K mg base A.in1 outer s H := ⟨e.frames, e.mod, e.bs, e.bsz, e.funs, e.frf, e.hok, e.bare⟩

section
variable {X : Cx} {pins : List (Addr × Obj)} {σ : St} {H : Hp} {s s' : Shared}
/-- from a body: what a callee wants -/
theorem Inv.env0 (I : Inv X pins σ H s) : Env0 X.prog X.w X.K X.mg X.base X.A X.stack s H :=
  ⟨I.ok.frames, I.ok.mod, I.bs, Nat.le_trans I.ok.bsz I.sz, I.stack, I.stkFree, I.hok, I.bare⟩
/-- behind a call -/
theorem Inv.after {Q : VK} {u : Value} (I : Inv X pins σ H s) (h : CE X.stack X.prog X.w H s Q u s') : EP X pins σ Q u s' := by
  obtain ⟨v, H', os, bare, un, hok, r, q⟩ := h
  obtain ⟨hh, g, d, t, os'⟩ := s'
  obtain rfl : os' = s.os := os
  exact ⟨v, H', I.call (h' := hh) (g' := g) (d' := d) (t' := t) (ch := []) un hok bare (fun b z => absurd z (by simp)), r, q⟩
end

/-! ### calls -/
/-- f(..): the written arguments, then the defaults dvs; E: what is wanted of an exception -/
def tCall (sp : Sp) (dvs : List V) (E : XK) (t : TA) : TE := fun σ H Q => t σ H fun vs H1 => sp (vs ++ dvs) H1 Q E
/-- o.m(..) of an instance of the class at C -/
def tMeth (C : Addr) (m : Str) (sp : Sp) (dvs : List V) (E : XK) (ta : TE) (t : TA) : TE := fun σ H Q => ta σ H fun x H1 => ∃ a dx fs, x = .ref a ∧ H1 a = some (.ins C dx fs) ∧ fs.lookup m = none ∧
  t σ H1 fun vs H2 => sp (x :: (vs ++ dvs)) H2 Q E
/-- C(..): a new instance and its dict, then __init__ -/
def tMake (C : Addr) (sp : Sp) (dvs : List V) (E : XK) (t : TA) : TE := fun σ H Q => t σ H fun vs H1 => ∀ x dx, H1 x = none → H1 dx = none → dx ≠ x →
  sp (.ref x :: (vs ++ dvs)) (upd (upd H1 dx (.own x)) x (.ins C dx [])) (fun v H2 => v = .non ∧ Q (.ref x) H2) E

/-- how the parameters are bound: us the positional arguments, kw the keywords' values by name, ds the defaults that fill up -/
def Binds (K : PySem.W.Frag) (fd : FuncData) (ps : List Str) (ds : List Value) : Prop :=
  ∀ (s : Shared) (us : List Value), K.In s.heap → (us ++ ds).length = ps.length → BindsTo s fd ⟨us, []⟩ (ps.zip (us ++ ds))
/-- every parameter is given -/
theorem Binds.all {K : PySem.W.Frag} {fd : FuncData} {ps : List Str} (h : ∀ us : List Value, us.length = ps.length → bindArgs fd ⟨us, []⟩ = pure (ps.zip us)) : Binds K fd ps [] := fun s us _ hl => by
  rw [List.append_nil] at hl ⊢
  exact .of_eq (h us hl)

/-- an exception of a callee reaches what this body wants of exceptions -/
def Passes (CX : CXT) (X : Cx) (E : XK) : Prop := ∀ (pins : List (Addr × Obj)) (σ : St) (H : Hp) (s : Shared) (e : Value) (s' : Shared), Inv X pins σ H s → CX X.stack H s E e s' → X.xe e s'

section
variable {X : Cx} {CX : CXT} {k : Nat} {f C : Addr} {fd : FuncData} {ps : List Str} {sp : Sp} {dvs : List V} {ds : List Value} {E : XK} {x m : Str} {p pos apos : Pos} {e o : Expr} {es : List Expr} {ta : TE} {t : TA}

/-- the callee runs -/
theorem run_fn {pins : List (Addr × Obj)} {σ : St} {H : Hp} {s : Shared} {Q : VK} {us : List Value} {vs : List V} (F : FnOk X.prog X.w X.K X.mg X.base CX k f fd ps sp) (hr : Room k X.A) (hb : Binds X.K fd ps ds) (hd : Vals dvs ds) (hx : Passes CX X E)
    (I : Inv X pins σ H s) (r : Vals vs us) (h : sp (vs ++ dvs) H Q E) : wpAny (model X.prog X.w) X.A (call (.ref f) us) (EP X pins σ Q) X.xe s := by
  have r2 : Vals (vs ++ dvs) (us ++ ds) := r.append hd
  have hl : (us ++ ds).length = ps.length := by rw [← r2.length]; exact F.len _ _ _ _ h
  refine wpAny_call (codeAny_mono (F.run X.A X.stack s H ⟨us, []⟩ (us ++ ds) (vs ++ dvs) Q E hr I.env0 (hb s us I.kIn hl) r2 h) fun r s' hq => ?_)
  cases r with
  | error e => exact hx pins σ H s e s' I hq
  | ok fl =>
    cases fl with
    | ret u => exact I.after hq
    | next => exact False.elim hq
    | brk => exact False.elim hq
    | cont => exact False.elim hq

theorem pe_call (F : FnOk X.prog X.w X.K X.mg X.base CX k f fd ps sp) (hr : Room k X.A) (hg : Gl X x) (hm : X.mg x = some (.ref f)) (hk : PySem.W.keepIn X.K (.ref f) = true) (hb : Binds X.K fd ps ds) (hd : Vals dvs ds) (hx : Passes CX X E)
    (ha : PA X (e :: es) t) (hdb : (x == ("__debug__" : Str)) = false := by decide) (he : starEach (e :: es) X.env = (false, eval e X.env) :: starEach es X.env := by rfl) (hpl : (backTo pos (starEach es X.env)).any (·.1) = false := by rfl) :
    PE X (.Call (.Name x p) (e :: es) [] pos) (tCall sp dvs E t) := by
  intro pins s σ H Q I h
  refine wpAny_Call_Name_kw (ld_glob I hg hm ?_ hdb)
  refine PySem.W.callWith_K (h₀ := X.base) I.ok.mod.kin hk (thn (ha pos pins s σ H _ I h) fun us s1 ⟨vs, H1, I1, r, q⟩ => ⟨I1.kIn, ?_⟩) he hpl
  exact run_fn F hr hb hd hx I1 r q
theorem pe_call0 (F : FnOk X.prog X.w X.K X.mg X.base CX k f fd ps sp) (hr : Room k X.A) (hg : Gl X x) (hm : X.mg x = some (.ref f)) (hk : PySem.W.keepIn X.K (.ref f) = true) (hb : Binds X.K fd ps ds) (hd : Vals dvs ds) (hx : Passes CX X E)
    (hdb : (x == ("__debug__" : Str)) = false := by decide) : PE X (.Call (.Name x p) [] [] pos) (tCall sp dvs E tNil) := by
  intro pins s σ H Q I h
  refine wpAny_Call_Name_kw (ld_glob I hg hm ?_ hdb)
  exact PySem.W.callWith_K0 I.kIn hk (run_fn (us := []) F hr hb hd hx I .nil h)

/-- o.m(e, ..) -/
theorem pe_meth {pl : Sem Bool} (he : PE X o ta) (c : Cls X.K C) (hm : Meth X.K C m f) (F : FnOk X.prog X.w X.K X.mg X.base CX k f fd ps sp) (hr : Room k X.A) (hb : Binds X.K fd ps ds) (hd : Vals dvs ds) (hx : Passes CX X E) (ha : PA X (e :: es) t)
    (hst : starEach (e :: es) X.env = (false, eval e X.env) :: starEach es X.env := by rfl) (hpl : (backTo pos (starEach es X.env)).any (·.1) = false := by rfl)
    (ht : eval (.Call (.Attribute o m apos) (e :: es) [] pos) X.env = (do
      let ov ← eval o X.env
      standAt apos.atName
      let (f, first) ← holding [ov] (getMethod ov m pl)
      callWith pos f first (backTo pos (starEach (e :: es) X.env)) (backToKw pos (keywordEach [] X.env))) := by rfl) :
    PE X (.Call (.Attribute o m apos) (e :: es) [] pos) (tMeth C m sp dvs E ta t) := by
  intro pins s σ H Q I h
  refine PySem.W.methodCall_KW (pl := pl) (thn (he pins s σ H _ I h) fun u s1 ⟨x, H1, I1, rx, a, dx, fs, ex, ea, l, q⟩ => ?_) ht
  subst ex
  obtain rfl : u = Value.ref a := rx
  refine getmeth_ok I1 ea c hm l ?_
  refine PySem.W.callWith_K (first := [.ref a]) (h₀ := X.base) I.ok.mod.kin hm.kp (thn (ha pos pins s1 σ H1 _ I1 q) fun us s2 ⟨vs, H2, I2, r, q2⟩ => ⟨I2.kIn, ?_⟩) hst hpl
  exact run_fn (us := .ref a :: us) (vs := .ref a :: vs) F hr hb hd hx I2 (.cons rfl r) q2
/-- o.m() -/
theorem pe_meth0 {pl : Sem Bool} (he : PE X o ta) (c : Cls X.K C) (hm : Meth X.K C m f) (F : FnOk X.prog X.w X.K X.mg X.base CX k f fd ps sp) (hr : Room k X.A) (hb : Binds X.K fd ps ds) (hd : Vals dvs ds) (hx : Passes CX X E)
    (ht : eval (.Call (.Attribute o m apos) [] [] pos) X.env = (do
      let ov ← eval o X.env
      standAt apos.atName
      let (f, first) ← holding [ov] (getMethod ov m pl)
      callWith pos f first (backTo pos (starEach [] X.env)) (backToKw pos (keywordEach [] X.env))) := by rfl) :
    PE X (.Call (.Attribute o m apos) [] [] pos) (tMeth C m sp dvs E ta tNil) := by
  intro pins s σ H Q I h
  refine PySem.W.methodCall_KW (pl := pl) (thn (he pins s σ H _ I h) fun u s1 ⟨x, H1, I1, rx, a, dx, fs, ex, ea, l, q⟩ => ?_) ht
  subst ex
  obtain rfl : u = Value.ref a := rx
  refine getmeth_ok I1 ea c hm l ?_
  exact PySem.W.callWith_K0 (first := [.ref a]) I1.kIn hm.kp (run_fn (us := [.ref a]) (vs := [.ref a]) F hr hb hd hx I1 (.cons rfl .nil) q)

/-- what a class must have to be made -/
structure Mk (K : PySem.W.Frag) (C f : Addr) : Prop where
  makes : PySem.W.makesIn K C = true
  init : PySem.W.findIn K (.ref C) "__init__" = some (some (.ref f))
  fn : PySem.W.isFn K (.ref f) = true
  kp : PySem.W.keepIn K (.ref C) = true

theorem run_make {pins : List (Addr × Obj)} {σ : St} {H : Hp} {s : Shared} {Q : VK} {us : List Value} {vs : List V} (M : Mk X.K C f) (F : FnOk X.prog X.w X.K X.mg X.base CX k f fd ps sp) (hr : Room (k + 1) X.A) (hb : Binds X.K fd ps ds) (hd : Vals dvs ds)
    (hx : Passes CX X E) (I : Inv X pins σ H s) (r : Vals vs us)
    (h : ∀ x dx, H x = none → H dx = none → dx ≠ x → sp (.ref x :: (vs ++ dvs)) (upd (upd H dx (.own x)) x (.ins C dx [])) (fun v H2 => v = .non ∧ Q (.ref x) H2) E) :
    wpAny (model X.prog X.w) X.A (call (.ref C) us) (EP X pins σ Q) X.xe s := by
  have hq := h (s.heap.objs.size + 1) s.heap.objs.size (I.hok.fresh (Nat.le_succ _)) (I.hok.fresh (Nat.le_refl _)) (Nat.ne_of_lt (Nat.lt_succ_self _))
  have I2 := Inv.made (C := C) I
  have r2 : Vals (V.ref (s.heap.objs.size + 1) :: (vs ++ dvs)) (Value.ref (s.heap.objs.size + 1) :: (us ++ ds)) := .cons rfl (r.append hd)
  have hl : (Value.ref (s.heap.objs.size + 1) :: us ++ ds).length = ps.length := by
    have e := r2.length
    rw [F.len _ _ _ _ hq] at e
    exact e.symm
  refine wpAny_call (make_map (f := f) I.kIn M.makes M.init (beq_iff_eq.mp M.fn) (codeAny_mono (F.run _ X.stack _ _ ⟨Value.ref (s.heap.objs.size + 1) :: us, []⟩ (Value.ref (s.heap.objs.size + 1) :: (us ++ ds)) _ _ E (hr.make C us [])
    (I2.env0.make C us []) (hb _ (Value.ref (s.heap.objs.size + 1) :: us) I2.kIn hl) r2 hq) fun r s' hq' => ?_))
  cases r with
  | error e => exact hx pins σ _ _ e s' I2 hq'
  | ok fl =>
    cases fl with
    | ret u =>
      obtain ⟨v, H', I3, rv, ev, q3⟩ := I2.after hq'
      subst ev
      exact ⟨rv, ⟨V.ref (s.heap.objs.size + 1), H', I3, rfl, q3⟩⟩
    | next => exact False.elim hq'
    | brk => exact False.elim hq'
    | cont => exact False.elim hq'
theorem pe_make (M : Mk X.K C f) (F : FnOk X.prog X.w X.K X.mg X.base CX k f fd ps sp) (hr : Room (k + 1) X.A) (hg : Gl X x) (hm : X.mg x = some (.ref C)) (hb : Binds X.K fd ps ds) (hd : Vals dvs ds) (hx : Passes CX X E)
    (ha : PA X (e :: es) t) (hdb : (x == ("__debug__" : Str)) = false := by decide) (he : starEach (e :: es) X.env = (false, eval e X.env) :: starEach es X.env := by rfl) (hpl : (backTo pos (starEach es X.env)).any (·.1) = false := by rfl) :
    PE X (.Call (.Name x p) (e :: es) [] pos) (tMake C sp dvs E t) := by
  intro pins s σ H Q I h
  refine wpAny_Call_Name_kw (ld_glob I hg hm ?_ hdb)
  refine PySem.W.callWith_K (h₀ := X.base) I.ok.mod.kin M.kp (thn (ha pos pins s σ H _ I h) fun us s1 ⟨vs, H1, I1, r, q⟩ => ⟨I1.kIn, ?_⟩) he hpl
  exact run_make M F hr hb hd hx I1 r q
theorem pe_make0 (M : Mk X.K C f) (F : FnOk X.prog X.w X.K X.mg X.base CX k f fd ps sp) (hr : Room (k + 1) X.A) (hg : Gl X x) (hm : X.mg x = some (.ref C)) (hb : Binds X.K fd ps ds) (hd : Vals dvs ds) (hx : Passes CX X E)
    (hdb : (x == ("__debug__" : Str)) = false := by decide) : PE X (.Call (.Name x p) [] [] pos) (tMake C sp dvs E tNil) := by
  intro pins s σ H Q I h
  refine wpAny_Call_Name_kw (ld_glob I hg hm ?_ hdb)
  exact PySem.W.callWith_K0 I.kIn M.kp (run_make (us := []) M F hr hb hd hx I .nil h)
end

/-! ### keywords -/
/-- the values of the keywords, from the left -/
def PK (X : Cx) (kws : List Keyword) (t : TA) : Prop :=
  ∀ (pos : Pos) (pins : List (Addr × Obj)) (s : Shared) (σ : St) (H : Hp) (Q : List V → Hp → Prop), Inv X pins σ H s → t σ H Q → wpAny (model X.prog X.w) X.A (evalAll ((backToKw pos (keywordEach kws X.env)).map (·.2))) (AP X pins σ Q) X.xe s
section
variable {X : Cx} {CX : CXT} {k : Nat} {f C : Addr} {fd : FuncData} {ps ks : List Str} {sp : Sp} {E : XK} {x m : Str} {p pos apos kpos : Pos} {e o : Expr} {es : List Expr} {kws : List Keyword} {te ta : TE} {t tk : TA} {nm : Option Str}
theorem pk_nil : PK X [] tNil := fun _ _ _ _ H Q I h => wpAny_evalAll_nil ⟨[], H, I, .nil, h⟩
theorem pk_cons (ha : PE X e te) (hr : PK X kws t) : PK X (⟨nm, e, kpos⟩ :: kws) (tCons te t) := by
  intro pos pins s σ H Q I h
  show wpAny _ _ (evalAll ((do let v ← eval e X.env; standAt pos; pure v) :: (backToKw pos (keywordEach kws X.env)).map (·.2))) _ _ s
  refine wpAny_evalAll_cons (wpAny_bind (thn (ha pins s σ H _ I h) fun u s1 ⟨x, H1, I1, r1, q1⟩ => wpAny_bind (wpAny_standAt (wpAny_pure ?_))))
  exact thn (hr pos pins s1 σ H1 _ I1 q1) fun us s2 ⟨xs, H2, I2, r2, q2⟩ => ⟨x :: xs, H2, I2, .cons r1 r2, q2⟩

/-- how a call with keywords binds: g puts the positional values us and the keywords' values ws (names ks) in the parameters' order, defaults among them -/
structure KBinds (K : PySem.W.Frag) (fd : FuncData) (ps ks : List Str) (g : List Value → List Value → List Value) (gV : List V → List V → List V) : Prop where
  to : ∀ (s : Shared) (us ws : List Value), K.In s.heap → (g us ws).length = ps.length → BindsTo s fd ⟨us, ks.zip ws⟩ (ps.zip (g us ws))
  rel : ∀ {vs : List V} {us : List Value} {zs : List V} {ws : List Value}, Vals vs us → Vals zs ws → Vals (gV vs zs) (g us ws)
def tCallK (sp : Sp) (gV : List V → List V → List V) (E : XK) (t tk : TA) : TE := fun σ H Q => t σ H fun vs H1 => tk σ H1 fun zs H2 => sp (gV vs zs) H2 Q E
variable {g : List Value → List Value → List Value} {gV : List V → List V → List V}
theorem run_fnk {pins : List (Addr × Obj)} {σ : St} {H : Hp} {s : Shared} {Q : VK} {us ws : List Value} {vs zs : List V} (F : FnOk X.prog X.w X.K X.mg X.base CX k f fd ps sp) (hr : Room k X.A) (hb : KBinds X.K fd ps ks g gV) (hx : Passes CX X E)
    (I : Inv X pins σ H s) (r : Vals vs us) (rz : Vals zs ws) (h : sp (gV vs zs) H Q E) : wpAny (model X.prog X.w) X.A (call (.ref f) us (ks.zip ws)) (EP X pins σ Q) X.xe s := by
  have r2 := hb.rel r rz
  have hl : (g us ws).length = ps.length := by rw [← r2.length]; exact F.len _ _ _ _ h
  refine wpAny_call (codeAny_mono (F.run X.A X.stack s H ⟨us, ks.zip ws⟩ (g us ws) (gV vs zs) Q E hr I.env0 (hb.to s us ws I.kIn hl) r2 h) fun r s' hq => ?_)
  cases r with
  | error e => exact hx pins σ H s e s' I hq
  | ok fl =>
    cases fl with
    | ret u => exact I.after hq
    | next => exact False.elim hq
    | brk => exact False.elim hq
    | cont => exact False.elim hq
/-- f(e, .., k = v, ..) -/
theorem pe_callK (F : FnOk X.prog X.w X.K X.mg X.base CX k f fd ps sp) (hr : Room k X.A) (hg : Gl X x) (hm : X.mg x = some (.ref f)) (hk : PySem.W.keepIn X.K (.ref f) = true) (hb : KBinds X.K fd ps ks g gV) (hx : Passes CX X E)
    (ha : PA X (e :: es) t) (hkw : PK X kws tk) (hall : (backToKw pos (keywordEach kws X.env)).all (·.1.isSome) = true := by rfl) (hks : (backToKw pos (keywordEach kws X.env)).filterMap (·.1) = ks := by rfl)
    (hdb : (x == ("__debug__" : Str)) = false := by decide) (he : starEach (e :: es) X.env = (false, eval e X.env) :: starEach es X.env := by rfl)
    (hpl : ((backTo pos (starEach (e :: es) X.env)).any (·.1) || (backToKw pos (keywordEach kws X.env)).any (·.1.isNone)) = false := by rfl) :
    PE X (.Call (.Name x p) (e :: es) kws pos) (tCallK sp gV E t tk) := by
  intro pins s σ H Q I h
  refine wpAny_Call_Name_kw (ld_glob I hg hm ?_ hdb)
  refine PySem.W.callWith_KW (h₀ := X.base) I.ok.mod.kin hk hall (thn (ha pos pins s σ H _ I h) fun us s1 ⟨vs, H1, I1, r, q⟩ => ?_) hpl he
  refine thn (hkw pos pins s1 σ H1 _ I1 q) fun ws s2 ⟨zs, H2, I2, rz, q2⟩ => ⟨I2.kIn, ?_⟩
  rw [hks]
  exact run_fnk F hr hb hx I2 r rz q2
end

/-! ### a def's body keeps its promise -/
/-- names: the parameters first -/
structure FnScope (N P : List Str) (sc : Scope) : Prop where
  kind : sc.kind = .function
  co : sc.isCoroutine = false
  gen : sc.isGenerator = false
  nd : N.Nodup
  pre : N.take P.length = P
  par : ∀ x ∈ P, sc.names.lookup x = some .local ∨ sc.names.lookup x = some .cell
  nofree : ∀ y ∈ sc.names, y.2 ≠ .free

theorem bindL_out {kindOf : Str → Option NameKind} {x : Str} : ∀ {binds : List (Str × Value)} {m : Str → Option Value}, (∀ v, (x, v) ∉ binds) → bindL kindOf binds m x = m x
  | [], _, _ => rfl
  | (n, v) :: r, m, h => by
    unfold bindL
    rw [bindL_out fun w hw => h w (List.mem_cons_of_mem _ hw)]
    split
    · have : x ≠ n := by rintro rfl; exact h v List.mem_cons_self
      simp [this]
    · rfl
theorem bindC_out {kindOf : Str → Option NameKind} {x : Str} : ∀ {binds : List (Str × Value)} {m : Str → Option Value}, (∀ v, (x, v) ∉ binds) → bindC kindOf binds m x = m x
  | [], _, _ => rfl
  | (n, v) :: r, m, h => by
    unfold bindC
    rw [bindC_out fun w hw => h w (List.mem_cons_of_mem _ hw)]
    split
    · rfl
    · have : x ≠ n := by rintro rfl; exact h v List.mem_cons_self
      simp [this]
theorem bindL_get {kindOf : Str → Option NameKind} {x : Str} {v : Value} : ∀ {P : List Str} {vs : List Value} {i : Nat} {m : Str → Option Value}, P.Nodup → P[i]? = some x → vs[i]? = some v → kindOf x = some .local →
    bindL kindOf (P.zip vs) m x = some v
  | [], _, _, _, _, h, _, _ => by simp at h
  | _ :: _, [], _, _, _, _, h, _ => by simp at h
  | p :: P, w :: vs, 0, m, nd, h1, h2, hk => by
    simp at h1 h2; subst h1; subst h2
    show bindL kindOf ((p, w) :: P.zip vs) m p = _
    unfold bindL
    rw [bindL_out fun v hv => (List.nodup_cons.mp nd).1 (List.of_mem_zip hv).1, if_pos hk]
    simp
  | p :: P, w :: vs, i + 1, m, nd, h1, h2, hk => by
    show bindL kindOf ((p, w) :: P.zip vs) m x = _
    unfold bindL
    exact bindL_get (i := i) (List.nodup_cons.mp nd).2 (by simpa using h1) (by simpa using h2) hk
theorem bindC_get {kindOf : Str → Option NameKind} {x : Str} {v : Value} : ∀ {P : List Str} {vs : List Value} {i : Nat} {m : Str → Option Value}, P.Nodup → P[i]? = some x → vs[i]? = some v → kindOf x ≠ some .local →
    bindC kindOf (P.zip vs) m x = some v
  | [], _, _, _, _, h, _, _ => by simp at h
  | _ :: _, [], _, _, _, _, h, _ => by simp at h
  | p :: P, w :: vs, 0, m, nd, h1, h2, hk => by
    simp at h1 h2; subst h1; subst h2
    show bindC kindOf ((p, w) :: P.zip vs) m p = _
    unfold bindC
    rw [bindC_out fun v hv => (List.nodup_cons.mp nd).1 (List.of_mem_zip hv).1, if_neg hk]
    simp
  | p :: P, w :: vs, i + 1, m, nd, h1, h2, hk => by
    show bindC kindOf ((p, w) :: P.zip vs) m x = _
    unfold bindC
    exact bindC_get (i := i) (List.nodup_cons.mp nd).2 (by simpa using h1) (by simpa using h2) hk

/-- the names' values at the entry -/
def start (N : List Str) (vs : List V) : St := vs.map some ++ List.replicate (N.length - vs.length) none

/-- the context of a def's body, at its entry; an exception leaves the frame, then lies as CX says -/
def cxOf (CX : CXT) (P : Program) (w : World) (K : PySem.W.Frag) (mg : Str → Option Value) (base : Heap) (N : List Str) (qual : Str) (scope : Scope) (f : Addr) (cd : Value) (A : Around) (outer : List Env) (s : Shared) (H : Hp) (E : XK) : Cx where
  prog := P
  w := w
  K := K
  mg := mg
  base := base
  A := A.deeper (envOfC qual scope s.heap.objs.size f cd)
  N := N
  s₀ := s
  H₀ := H
  env := envOfC qual scope s.heap.objs.size f cd
  outer := outer
  stack := envOfC qual scope s.heap.objs.size f cd :: outer
  ex := []
  calm := true
  fn := fun _ => true
  pn := []
  xe := fun e s' => wpAny (model P w) (A.deeper (envOfC qual scope s.heap.objs.size f cd)) (leaving (envOfC qual scope s.heap.objs.size f cd) e) (fun _ s'' => CX outer H s E e s'') (fun e' s'' => CX outer H s E e' s'') s'

theorem cell_has {sc : Scope} {n : Nat} {x : Str} (h : sc.names.lookup x = some .cell) : ∃ c, (cellsFrom n sc.names []).lookup x = some c := by
  have q := PySem.W.cellsFrom_some sc.names n [] (.inl h)
  exact Option.isSome_iff_exists.mp q

theorem inv_start {CX : CXT} {P : Program} {w : World} {K : PySem.W.Frag} {mg : Str → Option Value} {base : Heap} {N ps : List Str} {qual : Str} {scope : Scope} {f : Addr} {cd : Value} {A : Around} {outer : List Env} {s s1 : Shared} {H : Hp} {E : XK} {us : List Value} {vs : List V}
    (S : FnScope N ps scope) (hd : A.handled = none) (e0 : Env0 P w K mg base A outer s H) (hl : vs.length = ps.length) (r : Vals vs us)
    (x : InCallC s s.heap.objs.size (bindL (envOfC qual scope s.heap.objs.size f cd).kindOf (ps.zip us) fun _ => none) (cellsFrom (s.heap.objs.size + 1) scope.names []) (bindC (envOfC qual scope s.heap.objs.size f cd).kindOf (ps.zip us) fun _ => none) s1) :
    Inv (cxOf CX P w K mg base N qual scope f cd A outer s H E) [] (start N vs) H s1 := by
  have hpl : ps.length ≤ N.length := by have := congrArg List.length S.pre; rw [List.length_take] at this; omega
  obtain ⟨h1, tk, rfl, hk⟩ := x.done
  have noA : ∀ b : Addr, b ∉ (cxOf CX P w K mg base N qual scope f cd A outer s H E).ex := fun b z => absurd (show b ∈ ([] : List Addr) from z) (by simp)
  refine ⟨⟨e0.mod, S.kind, rfl, rfl, Nat.le_refl _, fun y z c h1 h2 => ?_, fun y hy => ?_, fun y c _ h => ?_, fun _ => hd, Around.frames_deeper e0.frames, .inr ⟨rfl, rfl⟩, fun b z => absurd z (noA b), e0.bs, e0.bsz, fun b _ _ => noA b, fun b z => absurd z (noA b), e0.funs, e0.frf⟩,
    rfl, e0.bare, Un.kept hk, ⟨_, x.toInCall.ns, fun i y v h1 h2 h3 => ?_⟩, fun y c h => ⟨_, x.cell y c h⟩, e0.hok.fresh (Nat.le_refl _), fun y c h => ?_, fun p hp => absurd (show p ∈ ([] : List (Addr × Obj)) from hp) (by simp), e0.hok.kept hk, ?_⟩
  · exact name_of_addr x.apart (PySem.mem_of_lookup h1) (PySem.mem_of_lookup h2)
  · have hy : scope.names.lookup y = some .cell ∨ scope.names.lookup y = some .free := hy
    rcases hy with hy | hy
    · exact cell_has hy
    · exact absurd rfl (S.nofree _ (PySem.mem_of_lookup hy))
  · exact Nat.le_of_lt (x.above y c (PySem.mem_of_lookup h))
  · have hi : i < vs.length := by
      unfold start at h2
      by_cases hi : i < vs.length
      · exact hi
      · rw [List.getElem?_append_right (by simpa using hi)] at h2
        rw [List.getElem?_replicate] at h2
        split at h2 <;> cases h2
    have ha : vs[i]? = some v := by
      unfold start at h2
      rw [List.getElem?_append_left (by simpa using hi), List.getElem?_map] at h2
      cases e : vs[i]? with
      | none => rw [e] at h2; cases h2
      | some a => rw [e] at h2; cases h2; rfl
    obtain ⟨u, hu, rv⟩ := r.get ha
    have hp : ps[i]? = some y := by
      rw [← S.pre, List.getElem?_take_of_lt (by omega)]; exact h1
    have ndP : ps.Nodup := by rw [← S.pre]; exact S.nd.sublist (List.take_sublist _ _)
    refine ⟨u, rv, ?_⟩
    rcases S.par y (List.mem_of_getElem? hp) with k | k
    · exact .inl ⟨k, bindL_get ndP hp hu k⟩
    · obtain ⟨c, e⟩ := cell_has (n := s.heap.objs.size + 1) k
      refine .inr ⟨.inl k, c, e, ?_⟩
      have q := x.cell y c e
      rw [bindC_get ndP hp hu (by show scope.names.lookup y ≠ _; rw [k]; decide)] at q
      exact q
  · exact e0.hok.fresh (Nat.le_of_lt (x.above y c (PySem.mem_of_lookup h)))
  · unfold start
    show _ = N.length
    rw [List.length_append, List.length_map, List.length_replicate]
    omega

/-- THE RULE: a def (or a method) of the text, by its body. The body's reading t is chosen for each entry; it is run at the parameters' values -/
theorem fn_of {CX : CXT} {P : Program} {w : World} {K : PySem.W.Frag} {mg : Str → Option Value} {base : Heap} {k : Nat} {f : Addr} {name qual : Str} {params : Arguments} {body : List Stmt} {scope : Scope} {dV kV doc pm cdv ct oc : Value} {an od : Option Addr}
    {osl : Array (Option Value)} {N ps : List Str} {sp : Sp} (lk : K.lookup f = some ⟨oc, od, .func (PySem.W.fnOf name qual params body scope dV kV doc pm an cdv ct), osl⟩) (hcd : PySem.W.codeIn K cdv qual = true) (S : FnScope N ps scope)
    (len : ∀ vs H Q E, sp vs H Q E → vs.length = ps.length)
    (hbody : ∀ (A : Around) (outer : List Env) (s : Shared) (H : Hp) (vs : List V) (Q : VK) (E : XK), Room k (A.deeper (envOfC qual scope s.heap.objs.size f cdv)) → sp vs H Q E →
      ∃ t, PSs (cxOf CX P w K mg base N qual scope f cdv A outer s H E) body t ∧ t { nx := fun _ H' => Q .non H', rt := Q } (start N vs) H) :
    FnOk P w K mg base CX (k + 1) f (PySem.W.fnOf name qual params body scope dV kV doc pm an cdv ct) ps sp := by
  refine ⟨len, fun A outer s H args us vs Q E hr e0 hb r hsp => ?_⟩
  have hl := len _ _ _ _ hsp
  have KX : K.In s.heap := e0.mod.kin.keeps fun b o e => (e0.bs b o e).1
  have lim : s.heap.NoLimit := e0.mod.nolimit.keeps fun b o e => (e0.bs b o e).1
  have hkind : ∀ y ∈ ps.zip us, scope.names.lookup y.1 = some .local ∨ (scope.names.lookup y.1 = some .cell ∧ ((cellsFrom (s.heap.objs.size + 1) scope.names []).lookup y.1).isSome = true) := fun ⟨n, v⟩ hy => by
    rcases S.par n (List.of_mem_zip hy).1 with q | q
    · exact .inl q
    · exact .inr ⟨q, PySem.W.cellsFrom_some _ _ _ (.inl q)⟩
  refine codeAny_call_function hr.depth (KX _ _ lk) rfl S.co S.gen rfl (PySem.W.codeRec_of KX hcd) (hb _ _ _ _ ?_)
  refine wpAny_newFunctionEnv_cells S.kind hkind fun env he s1 x => ?_
  subst he
  refine ⟨lim.keeps x.toInCall.keep, codeAny_func ?_⟩
  obtain ⟨t, ht, hq⟩ := hbody A outer s H vs Q E (hr.deeper _) hsp
  have I : Inv (cxOf CX P w K mg base N qual scope f cdv A outer s H E) [] (start N vs) H s1 := inv_start S hr.hd e0 hl r x
  refine wpAny_mono (ht [] s1 (start N vs) H _ I hq) (fun fl s' hs => ?_) fun e s' hs => hs
  have fin : ∀ {σ' : St} {H' : Hp} {v : V} {u : Value}, Inv (cxOf CX P w K mg base N qual scope f cdv A outer s H E) [] σ' H' s' → RelV v u → Q v H' → CE outer P w H s Q u s' :=
    fun {σ' H' v u} J rv q => ⟨v, H', J.os, J.bare, J.base, J.hok, rv, q⟩
  cases fl with
  | ret u =>
    obtain ⟨v, σ', H', J, rv, q⟩ := hs
    exact fin J rv q
  | next =>
    obtain ⟨σ', H', J, q⟩ := hs
    exact fin (v := V.non) (u := Value.none) J rfl q
  | brk =>
    obtain ⟨_, _, _, q⟩ := hs
    exact False.elim q
  | cont =>
    obtain ⟨_, _, _, q⟩ := hs
    exact False.elim q
end L2

namespace L2
open PySem PySem.Spec PyProof.Rows
section
variable {X : Cx} {x : Str} {p pos : Pos} {e : Expr} {es : List Expr} {t : TA} {id T : String} {r : List V → Hp → VK → Prop}

def tCB (r : List V → Hp → VK → Prop) (t : TA) : TE := fun σ H Q => t σ H fun vs H1 => r vs H1 Q
/-- f(e, ..), f a built-in function -/
theorem pe_callB (hc : CallR X (.builtin id) r) (hg : Gl X x) (hm : X.mg x = none) (hv : bootBuiltins x = some (.builtin id)) (ha : PA X (e :: es) t) (hn : x ≠ "__name__" := by decide) (hdb : (x == ("__debug__" : Str)) = false := by decide)
    (he : starEach (e :: es) X.env = (false, eval e X.env) :: starEach es X.env := by rfl) (hpl : (backTo pos (starEach es X.env)).any (·.1) = false := by rfl) : PE X (.Call (.Name x p) (e :: es) [] pos) (tCB r t) := by
  intro pins s σ H Q I h
  refine wpAny_Call_Name_kw (ld_blt I hg hm hv ?_ hn hdb)
  exact PyProof.Rows.callWith_builtin1 (thn (ha pos pins s σ H _ I h) fun us s1 ⟨vs, H1, I1, r1, q1⟩ => hc pins s1 σ H1 vs us Q I1 r1 q1) he hpl
/-- T(e, ..), T a built-in type -/
theorem pe_callTy (hc : CallR X (.type T) r) (hg : Gl X x) (hm : X.mg x = none) (hv : bootBuiltins x = some (.type T)) (ha : PA X (e :: es) t) (hn : x ≠ "__name__" := by decide) (hdb : (x == ("__debug__" : Str)) = false := by decide)
    (he : starEach (e :: es) X.env = (false, eval e X.env) :: starEach es X.env := by rfl) (hpl : (backTo pos (starEach es X.env)).any (·.1) = false := by rfl) : PE X (.Call (.Name x p) (e :: es) [] pos) (tCB r t) := by
  intro pins s σ H Q I h
  refine wpAny_Call_Name_kw (ld_blt I hg hm hv ?_ hn hdb)
  exact PyProof.Rows.callWith_type1 (thn (ha pos pins s σ H _ I h) fun us s1 ⟨vs, H1, I1, r1, q1⟩ => hc pins s1 σ H1 vs us Q I1 r1 q1) he hpl
/-- T() -/
theorem pe_callTy0 (hc : CallR X (.type T) r) (hg : Gl X x) (hm : X.mg x = none) (hv : bootBuiltins x = some (.type T)) (hn : x ≠ "__name__" := by decide) (hdb : (x == ("__debug__" : Str)) = false := by decide) :
    PE X (.Call (.Name x p) [] [] pos) (tCB r tNil) := by
  intro pins s σ H Q I h
  refine wpAny_Call_Name_kw (ld_blt I hg hm hv ?_ hn hdb)
  exact PyProof.Rows.callWith_type0 (hc pins s σ H [] [] Q I .nil h)
end
end L2

namespace HT
open PySem PyProof.Rows

/-- t < u of tuples of ints -/
def lexLt : List Int → List Int → Bool
  | [], [] => false
  | [], _ :: _ => true
  | _ :: _, [] => false
  | x :: xs, y :: ys => if x = y then lexLt xs ys else decide (x < y)
theorem lexLt_cons (x y : Int) (xs ys : List Int) : lexLt (x :: xs) (y :: ys) = if x = y then lexLt xs ys else decide (x < y) := rfl
theorem lexLt_nil_nil : lexLt [] [] = false := rfl
theorem lexLt_nil_cons (y : Int) (ys : List Int) : lexLt [] (y :: ys) = true := rfl
theorem lexLt_cons_nil (x : Int) (xs : List Int) : lexLt (x :: xs) [] = false := rfl

theorem eqAt_int (A : Around) (s : Shared) (a : Int) (t : Tok) (c : Int) (u : Tok) : ∃ e, SeqAt.EqAt A s (.int a t) (.int c u) e ∧ (e = true ↔ a = c) :=
  ⟨(a == c), SeqAt.EqAt.int_int a t c u, by simp⟩
theorem rcLt_int (A : Around) (s : Shared) (a : Int) (t : Tok) (c : Int) (u : Tok) (prog : Program) (w : World) (E : Value → Shared → Prop) (Q : Value → Shared → Prop) (h : Q (.bool (decide (a < c))) s) :
    wpAny (model prog w) A (richCompare .Lt (.int a t) (.int c u)) Q E s :=
  (PyProof.Rows.lt_int h : wpAny (model prog w) A (compareOp .Lt (.int a t) (.int c u)) Q E s)

section
open PySem.SeqAt
open PySem.AutoSeq1 (wpAny_loadPart')
open PySem.MeetsSeq PySem.MeetsSeq2 PySem.MeetsSeq3

theorem tuple_lt_ints (l b : Addr) (items items2 : Array Value) (n n2 : Nat) (dd dd2 : Option Addr) (sl sl2 : Array (Option Value)) (ns ms : List Int) (hi : IntsAre items.toList ns) (hj : IntsAre items2.toList ms) :
    Meets (Builtin.«tuple.__lt__» ⟨[.ref l, .ref b], []⟩)
      (fun _ R s => s.heap.get? l = some { cls := .type "tuple", dict := dd, data := .seq items n, slots := sl } ∧ s.heap.get? b = some { cls := .type "tuple", dict := dd2, data := .seq items2 n2, slots := sl2 } ∧
        R (.ok (.ret (.bool (lexLt ns ms)))) s) :=
  .of_wp fun prog w A R s h => by
    obtain ⟨hp, g, d, tk, os⟩ := s; obtain ⟨hl, hb, h⟩ := h
    have f2 := AutoSeq1.sub_tuple_tuple
    have z1 : items.size = ns.length := by rw [← hi.length]; simp
    have z2 : items2.size = ms.length := by rw [← hj.length]; simp
    wp_walk using wpAny_loadPart' hl, wpAny_loadPart' hb, wpAny_forIn_list _ (fun rest b s' => b.1 = none ∧ s' = ⟨hp, g, d, tk, os⟩ ∧ ∃ (vs ws : List Value) (ns' ms' : List Int), rest = vs.zip ws ∧
      IntsAre vs ns' ∧ IntsAre ws ms' ∧ ns'.length + items2.size = ms'.length + items.size ∧ R (.ok (.ret (.bool (lexLt ns' ms')))) ⟨hp, g, d, tk, os⟩) _
    case turn =>
      rintro ⟨y, x⟩ rest b s' ⟨hb', rfl, vs, ws, ns', ms', hz, hvi, hwi, hlen, hR⟩
      cases hvi with
      | nil => rw [List.zip_nil_left] at hz; cases hz
      | cons a t hvi' =>
        cases hwi with
        | nil => rw [List.zip_nil_right] at hz; cases hz
        | cons c u hwi' =>
          rw [List.zip_cons_cons] at hz
          injection hz with hyx hrest
          injection hyx with hy hx
          subst hy hx
          rw [lexLt_cons] at hR
          simp only [List.length_cons] at hlen
          obtain ⟨e, he, hiff⟩ := eqAt_int A.in1 ⟨hp, g, d, tk, os⟩ a t c u
          refine wpAny_bind (he prog w _ _ ?_)
          cases e with
          | true =>
            rw [if_pos (hiff.mp rfl)] at hR
            wp_walk
            exact ⟨rfl, rfl, _, _, _, _, hrest, hvi', hwi', by omega, hR⟩
          | false =>
            rw [if_neg (fun q => absurd (hiff.mpr q) Bool.false_ne_true)] at hR
            have hri := rcLt_int A.in1 ⟨hp, g, d, tk, os⟩ a t c u prog w
            wp_walk using hri
            exact ⟨_, rfl, by simpa using hR⟩
    case fin =>
      rintro ⟨b1, b2⟩ s' ⟨hb', rfl, vs, ws, ns', ms', hz, hvi, hwi, hlen, hR⟩
      simp only at hb'
      subst hb'
      have hv : lexLt ns' ms' = decide (items.size < items2.size) := by
        cases hvi with
        | nil =>
          cases hwi with
          | nil =>
            simp only [List.length_nil] at hlen
            rw [lexLt_nil_nil]
            exact (decide_eq_false (by omega)).symm
          | cons c u hw =>
            simp only [List.length_nil, List.length_cons] at hlen
            rw [lexLt_nil_cons]
            exact (decide_eq_true (by omega)).symm
        | cons a t hv =>
          cases hwi with
          | nil =>
            simp only [List.length_nil, List.length_cons] at hlen
            rw [lexLt_cons_nil]
            exact (decide_eq_false (by omega)).symm
          | cons c u hw =>
            rw [List.zip_cons_cons] at hz
            cases hz
      rw [hv] at hR
      wp_walk
      exact ⟨_, rfl, by simpa [Builtin.Tuple.tupleCompareSizes] using hR⟩
    case h =>
      exact ⟨rfl, rfl, items.toList, items2.toList, ns, ms, rfl, hi, hj, by omega, h⟩
end

section
variable {prog : Program} {w : World} {A : Around} {E : Value → Shared → Prop} {s : Shared}

theorem lt_tupInts {l b : Addr} {items items2 : Array Value} {ns ms : List Int} {Q : Value → Shared → Prop} (hl : IsTup s.heap l items) (hb : IsTup s.heap b items2) (hi : IntsAre items.toList ns) (hj : IntsAre items2.toList ms)
    (hu : A.units < cLine) (h : Q (.bool (lexLt ns ms)) s) : wpAny (model prog w) A (compareOp .Lt (.ref l) (.ref b)) Q E s := by
  obtain ⟨⟨cls, dd, data, sl⟩, ho, hc, n, hd⟩ := id hl
  obtain ⟨⟨cls2, dd2, data2, sl2⟩, ho2, hc2, n2, hd2⟩ := id hb
  simp only at hc hd hc2 hd2
  subst hc hd hc2 hd2
  exact richCompare_meets_room (op := .Lt) ⟨_, ho, rfl⟩ ⟨_, ho2, rfl⟩ PySem.F.slot_tuple_lt PySem.F.entry_tuple_lt (PySem.F.args_tuple_lt_2 _ _) (tuple_lt_ints l b items items2 n n2 dd dd2 sl sl2 ns ms hi hj)
    ⟨ho, ho2, show Value.bool (lexLt ns ms) ≠ Value.notImplemented ∧ Q (.bool (lexLt ns ms)) s from ⟨(fun x => nomatch x), h⟩⟩ hu

/-- t + u, t not empty -/
theorem cat_tup {t b : Addr} {vs ws : List Value} {Q : Value → Shared → Prop} (ht : IsTup s.heap t vs.toArray) (hb : IsTup s.heap b ws.toArray) (hv : vs ≠ [])
    (h1 : ws = [] → Q (.ref t) s) (h2 : ws ≠ [] → Q (.ref s.heap.objs.size) { s with heap := s.heap.push { cls := .type "tuple", data := .seq (vs ++ ws).toArray } })
    (hsz : vs.length + ws.length ≤ sizeLine) : wpAny (model prog w) A (binaryOp .Add (.ref t) (.ref b)) Q E s := by
  obtain ⟨⟨cls, dd, data, sl⟩, ho, hc, n, hd⟩ := id ht
  obtain ⟨⟨cls2, dd2, data2, sl2⟩, ho2, hc2, n2, hd2⟩ := id hb
  simp only at hc hd hc2 hd2
  subst hc hd hc2 hd2
  have e : vs.toArray ++ ws.toArray = (vs ++ ws).toArray := by simp
  by_cases hw : ws = []
  · exact concat_meets ⟨_, ho, rfl⟩ ⟨_, ho2, rfl⟩ noFill_tuple_add seq_tuple_add PySem.F.slot_tuple_add PySem.F.entry_tuple_add (PySem.F.args_tuple_add_2 _ _)
      (tuple_addW1 t b vs.toArray ws.toArray n n2 dd dd2 sl sl2 (by simpa using hv) (by simp [hw])) ⟨ho, ho2, h1 hw⟩
  · refine concat_meets ⟨_, ho, rfl⟩ ⟨_, ho2, rfl⟩ noFill_tuple_add seq_tuple_add PySem.F.slot_tuple_add PySem.F.entry_tuple_add (PySem.F.args_tuple_add_2 _ _)
      (tuple_addW2 t b vs.toArray ws.toArray n n2 dd dd2 sl sl2 (by simpa using hv) (by simpa using hw) (by rw [List.size_toArray, List.size_toArray]; exact hsz)) ⟨ho, ho2, ?_⟩
    rw [e]
    exact h2 hw

/-! ### t[a:b], not the whole -/
/-- a slice's bound as a place among n (d where it is left out) -/
def sIx (n d : Nat) : Option Int → Nat
  | none => d
  | some v => if v < 0 then (v + (n : Int)).toNat else min v.toNat n
theorem sIx_none (n d : Nat) : sIx n d none = d := rfl
theorem sIx_nat (n d k : Nat) : sIx n d (some (k : Int)) = min k n := by
  show (if (k : Int) < 0 then ((k : Int) + (n : Int)).toNat else min (k : Int).toNat n) = min k n
  rw [if_neg (by omega), Int.toNat_natCast]
theorem sIx_le (n d : Nat) (hd : d ≤ n) (o : Option Int) : sIx n d o ≤ n := by
  cases o with
  | none => exact hd
  | some v =>
    show (if v < 0 then (v + (n : Int)).toNat else min v.toNat n) ≤ n
    by_cases hv : v < 0
    · rw [if_pos hv]; omega
    · rw [if_neg hv]; exact Nat.min_le_right _ _
theorem clip_eq (v : Int) (n d : Nat) : (if v < 0 then max (v + (n : Int)) 0 else min v (n : Int)) = ((sIx n d (some v) : Nat) : Int) := by
  show (if v < 0 then max (v + (n : Int)) 0 else min v (n : Int)) = (((if v < 0 then (v + (n : Int)).toNat else min v.toNat n) : Nat) : Int)
  by_cases hv : v < 0
  · simp only [if_pos hv]; omega
  · simp only [if_neg hv]; omega
theorem adjust_gen (lo hi : Option Int) (n : Nat) : Builtin.Slice.sliceAdjust lo hi 1 (n : Int) = (((sIx n 0 lo : Nat) : Int), ((sIx n n hi : Nat) : Int)) := by
  have h1 : ¬ ((1 : Int) < 0) := by omega
  unfold Builtin.Slice.sliceAdjust
  simp only [h1, if_false]
  refine Prod.ext ?_ ?_
  · cases lo with
    | none => rfl
    | some v => exact clip_eq v n 0
  · cases hi with
    | none => rfl
    | some v => exact clip_eq v n n
theorem places_gen (i j : Nat) : Builtin.Slice.slicePlaces (i : Int) (j : Int) 1 = j - i := by
  unfold Builtin.Slice.slicePlaces
  have h1 : (1 : Int) > 0 := by omega
  simp only [h1, if_true, Int.ediv_one]
  split <;> omega
theorem slicePart_ {v : Value} {o : Option Int} {Q : Option Int → Shared → Prop} (p : IsPart v o) (h : Q o s) : wpAny (model prog w) A (Builtin.Slice.slicePartIndex v) Q E s := by
  cases p with
  | none => exact slicePart_none h
  | int i t => exact slicePart_int h
theorem sliceApplied_gen {sl : Addr} {vl vu : Value} {lo hi : Option Int} {n : Nat} {Q : Int × Int × Nat → Shared → Prop} (hs : s.heap.IsSliceOf sl vl vu .none) (pl : IsPart vl lo) (pu : IsPart vu hi)
    (h : Q (((sIx n 0 lo : Nat) : Int), 1, sIx n n hi - sIx n 0 lo) s) : wpAny (model prog w) A (Builtin.Slice.sliceApplied (.ref sl) (pure (n : Int))) Q E s := by
  obtain ⟨os, hos, hcs, hds⟩ := id hs
  unfold Builtin.Slice.sliceApplied Builtin.Slice.sliceFields
  refine wpAny_bind (wpAny_bind (wpAny_field hos hds (x := vl) rfl (wpAny_bind (wpAny_field hos hds (x := vu) rfl (wpAny_bind (wpAny_field hos hds (x := .none) rfl (wpAny_pure ?_)))))))
  refine wpAny_bind (slicePart_none ?_)
  show wpAny _ _ (if ((1 : Int) == 0) = true then _ else _) _ _ s
  rw [if_neg (by decide)]
  refine wpAny_bind (slicePart_ pl (wpAny_bind (slicePart_ pu (wpAny_bind (wpAny_pure ?_)))))
  show wpAny _ _ (match Builtin.Slice.sliceAdjust lo hi 1 (n : Int) with | (lo, hi) => pure (lo, (1 : Int), Builtin.Slice.slicePlaces lo hi 1)) _ _ s
  rw [adjust_gen lo hi n]
  show wpAny _ _ (pure (((sIx n 0 lo : Nat) : Int), (1 : Int), Builtin.Slice.slicePlaces ((sIx n 0 lo : Nat) : Int) ((sIx n n hi : Nat) : Int) 1)) _ _ s
  rw [places_gen]
  exact wpAny_pure h
theorem pick_gen (xs : Array Value) (i k : Nat) : ((List.range k).filterMap fun (m : Nat) => xs[((i : Int) + (m : Int) * 1).toNat]?).toArray = ((xs.toList.drop i).take k).toArray := by
  have e : (fun (m : Nat) => xs[((i : Int) + (m : Int) * 1).toNat]?) = fun m => xs[i + m]? := by
    funext m
    have : ((i : Int) + (m : Int) * 1).toNat = i + m := by omega
    rw [this]
  rw [e]
  have := pick_run xs i k
  rw [List.filterMap_map] at this
  have e2 : ((fun x => xs[x]?) ∘ fun x => i + x) = fun m => xs[i + m]? := rfl
  rw [e2] at this
  rw [this]

theorem getItem_tuple_cut {t sl : Addr} {items : Array Value} {vl vu : Value} {lo hi : Option Int} {Q : Value → Shared → Prop} (ht : IsTup s.heap t items) (hs : s.heap.IsSliceOf sl vl vu .none) (pl : IsPart vl lo) (pu : IsPart vu hi)
    (hw : ¬ (sIx items.size 0 lo = 0 ∧ sIx items.size items.size hi = items.size))
    (h : Q (.ref s.heap.objs.size) { s with heap := s.heap.push { cls := .type "tuple", data := .seq ((items.toList.drop (sIx items.size 0 lo)).take (sIx items.size items.size hi - sIx items.size 0 lo)).toArray } })
    (hsz : items.size ≤ sizeLine) : wpAny (model prog w) A (getItem (.ref t) (.ref sl)) Q E s := by
  have htake : sizeOk (.seq ((items.toList.drop (sIx items.size 0 lo)).take (sIx items.size items.size hi - sIx items.size 0 lo)).toArray) := by
    show ((items.toList.drop (sIx items.size 0 lo)).take (sIx items.size items.size hi - sIx items.size 0 lo)).toArray.size ≤ sizeLine
    rw [List.size_toArray, List.length_take, List.length_drop, Array.length_toList]
    omega
  have hj : sIx items.size items.size hi ≤ items.size := sIx_le _ _ (Nat.le_refl _) hi
  obtain ⟨os, hos, hcs, hds⟩ := id hs
  have hTs : s.TypeIs (.ref sl) "slice" := ⟨os, hos, hcs⟩
  unfold getItem
  try with_reducible refine wpAny_holding ?_
  first | refine wpAny_bind (wpAny_pure ?_) | skip
  refine wpAny_bind (wpAny_sequenceKey ht.typeIs (by decide) ?_)
  refine wpAny_bind (wpAny_callSpecial?_slot (name := Str.ofString "__getitem__") ht.typeIs PyProof.Rows.slot_tuple_getitem
    (wpAny_call_entry PyProof.Rows.slot_tuple_getitem ht.typeIs entry_tuple_getitem ?_ (args_tuple_getitem _ _)))
  show wpAny _ _ (Builtin.Tuple.tupleItemsOf (.ref t) >>= _) _ _ s
  refine wpAny_bind (tupleItemsOf_ ht ?_)
  refine wpAny_bind (wpAny_typeOf hTs ?_)
  rw [if_pos (by decide)]
  refine wpAny_bind (sliceApplied_gen hs pl pu ?_)
  have hno : ¬ ((((sIx items.size 0 lo : Nat) : Int) == 0 && (1 : Int) == 1 && (sIx items.size items.size hi - sIx items.size 0 lo) == items.size) = true) := by
    intro q
    rw [Bool.and_eq_true, Bool.and_eq_true] at q
    have q1 : ((sIx items.size 0 lo : Nat) : Int) = 0 := eq_of_beq q.1.1
    have q2 : sIx items.size items.size hi - sIx items.size 0 lo = items.size := eq_of_beq q.2
    exact hw ⟨by omega, by omega⟩
  show wpAny _ _ (if (((sIx items.size 0 lo : Nat) : Int) == 0 && (1 : Int) == 1 && (sIx items.size items.size hi - sIx items.size 0 lo) == items.size) = true then _ else _) _ _ s
  rw [if_neg hno, pick_gen]
  first
    | exact wpAny_bind (m := Builtin.Tuple.tupleExact _) (wpAny_newObj_type (wpAny_pure ⟨_, rfl, wpAny_pure h⟩) htake)
    | exact wpAny_bind (m := Builtin.Tuple.tupleExact _) (wpAny_newObj_type (wpAny_bind (wpAny_pure (wpAny_pure ⟨_, rfl, wpAny_pure h⟩))) htake)
    | exact wpAny_bind (wpAny_bind (m := Builtin.Tuple.tupleExact _) (wpAny_newObj_type (wpAny_pure (wpAny_pure ⟨_, rfl, wpAny_pure h⟩)) htake))
    | exact wpAny_bind (wpAny_bind (m := Builtin.Tuple.tupleExact _) (wpAny_newObj_type (wpAny_pure ⟨_, rfl, wpAny_pure h⟩) htake))
end
end HT

namespace L2
open PySem PySem.Spec PyProof.Rows

/-! ### the parts of a slice -/
abbrev TO := St → Hp → (Option Int → Hp → Prop) → Prop
/-- a slice's part (left out, or an int) -/
def PO (X : Cx) (e : Option Expr) (t : TO) : Prop :=
  ∀ (pins : List (Addr × Obj)) (s : Shared) (σ : St) (H : Hp) (Q : Option Int → Hp → Prop), Inv X pins σ H s → t σ H Q →
    wpAny (model X.prog X.w) X.A (evalPart e X.env) (fun u s' => ∃ o H', Inv X pins σ H' s' ∧ IsPart u o ∧ Q o H') X.xe s
def tNoPart : TO := fun _ H Q => Q none H
def tPart (t : TE) : TO := fun σ H Q => t σ H fun x H1 => ∃ i, x = .int i ∧ Q (some i) H1

theorem intsAre_of {ns : List Int} : ∀ {us : List Value}, Vals (ns.map V.int) us → IntsAre us ns := by
  induction ns with
  | nil => intro us r; rw [List.map_nil] at r; cases r; exact .nil
  | cons n ns ih =>
    intro us r
    rw [List.map_cons] at r
    cases r with
    | cons r1 r2 =>
      obtain ⟨t, e⟩ := r1
      subst e
      exact .cons n t (ih r2)

section
variable {X : Cx} {e : Expr} {te : TE} {lo hi : Option Expr} {tl th : TO} {pos p2 : Pos}

theorem po_none : PO X none tNoPart := by
  intro pins s σ H Q I h
  rw [evalPart_none]
  exact wpAny_pure ⟨none, H, I, .none, h⟩
theorem po_some (h : PE X e te) : PO X (some e) (tPart te) := by
  intro pins s σ H Q I hw
  rw [evalPart_some]
  refine thn (h pins s σ H _ I hw) fun u s1 ⟨x, H1, I1, r1, q1⟩ => ?_
  obtain ⟨i, rfl, q⟩ := q1
  obtain ⟨t, rfl⟩ := r1
  exact ⟨some i, H1, I1, .int i t, q⟩

/-- what a slice of a value is, by values: the slice object stands at sl -/
def SlR (X : Cx) (r : V → Option Int → Option Int → Hp → VK → Prop) : Prop :=
  ∀ (pins : List (Addr × Obj)) (s : Shared) (σ : St) (H : Hp) (x : V) (v vl vu : Value) (lo hi : Option Int) (sl : Addr) (Q : VK), Inv X pins σ H s → RelV x v → s.heap.IsSliceOf sl vl vu .none → IsPart vl lo → IsPart vu hi → r x lo hi H Q →
    ∃ T id, typeLookup (.type T) "__getitem__" = pure (some (.builtin id)) ∧ s.TypeIs v T ∧ wpAny (model X.prog X.w) X.A (getItem v (.ref sl)) (EP X pins σ Q) X.xe s
theorem SlR.or {r r' : V → Option Int → Option Int → Hp → VK → Prop} (h : SlR X r) (h' : SlR X r') : SlR X (fun x lo hi H Q => r x lo hi H Q ∨ r' x lo hi H Q) := by
  intro pins s σ H x v vl vu lo hi sl Q I rx hs pl pu q
  rcases q with q | q
  · exact h pins s σ H x v vl vu lo hi sl Q I rx hs pl pu q
  · exact h' pins s σ H x v vl vu lo hi sl Q I rx hs pl pu q
def tSl (r : V → Option Int → Option Int → Hp → VK → Prop) (te : TE) (tl th : TO) : TE := fun σ H Q => te σ H fun x H1 => tl σ H1 fun l H2 => th σ H2 fun u H3 => r x l u H3 Q
/-- a[lo:hi], any a -/
theorem pe_slice {r : V → Option Int → Option Int → Hp → VK → Prop} (hr : SlR X r) (he : PE X e te) (hl : PO X lo tl) (hu : PO X hi th) : PE X (.Subscript e (.Slice lo hi none p2) pos) (tSl r te tl th) := by
  intro pins s σ H Q I h
  refine Subscript_ (thn (he pins s σ H _ I h) fun v s1 ⟨x, H1, I1, r1, q1⟩ => ?_)
  refine wpAny_Slice (thn (hl pins s1 σ H1 _ I1 q1) fun vl s2 ⟨l, H2, I2, pl, q2⟩ => thn (hu pins s2 σ H2 _ I2 q2) fun vu s3 ⟨u, H3, I3, pu, q3⟩ => ?_)
  rw [evalPart_none]
  refine wpAny_pure ?_
  have I4 : Inv X pins σ H3 { s3 with heap := s3.heap.push { cls := .type "slice", data := .fields #[vl, vu, .none] } } := I3.kept (t' := s3.toks) fun b ob q => Heap.get?_push_of_some _ q
  obtain ⟨T, id, hT, ht, hg⟩ := hr pins { s3 with heap := s3.heap.push { cls := .type "slice", data := .fields #[vl, vu, .none] } } σ H3 x v vl vu l u s3.heap.objs.size Q I4 r1 (Heap.IsSliceOf.new ..) pl pu q3
  show wpAny (model X.prog X.w) X.A (subscriptTail e (.Slice lo hi none p2) v (.ref s3.heap.objs.size)) (EP X pins σ Q) X.xe { s3 with heap := s3.heap.push { cls := .type "slice", data := .fields #[vl, vu, .none] } }
  exact tail_any (ops := [.ref s3.heap.objs.size, v]) ht hT hg (by with_unfolding_all rfl)

/-- the items of xs[lo:hi] -/
def cutV (xs : List V) (lo hi : Option Int) : List V := (xs.drop (HT.sIx xs.length 0 lo)).take (HT.sIx xs.length xs.length hi - HT.sIx xs.length 0 lo)
theorem cutV_length (xs : List V) (lo hi : Option Int) : (cutV xs lo hi).length ≤ xs.length := by
  unfold cutV
  rw [List.length_take, List.length_drop]
  omega
/-- t[lo:hi], not the whole of it (the whole would be t itself) -/
def rSlT (K : PySem.W.Frag) : V → Option Int → Option Int → Hp → VK → Prop := fun x lo hi H Q => ∃ a xs, x = .ref a ∧ SqT K H a xs ∧
  ¬ (HT.sIx xs.length 0 lo = 0 ∧ HT.sIx xs.length xs.length hi = xs.length) ∧ ∀ p, H p = none → Q (.ref p) (upd H p (.tup (cutV xs lo hi)))
theorem sl_tup : SlR X (rSlT X.K) := by
  intro pins s σ H x v vl vu lo hi sl Q I rx hs pl pu h
  obtain ⟨a, xs, rfl, hx, hw, q⟩ := h
  cases rx
  obtain ⟨its, r, ht, hz⟩ := I.tuple hx
  have hlen : its.toArray.size = xs.length := by rw [List.size_toArray]; exact r.length.symm
  refine ⟨"tuple", _, PyProof.Rows.slot_tuple_getitem.lookup, ht.typeIs, ?_⟩
  refine HT.getItem_tuple_cut ht hs pl pu (by rw [hlen]; exact hw) ?_ (by rw [hlen]; exact hz)
  rw [hlen]
  refine ⟨.ref s.heap.objs.size, _, I.laid (t' := s.toks) (o := .tup (cutV xs lo hi)) (fun b ob q => Heap.get?_push_of_some _ q) (Nat.le_refl _) ?_, rfl, q _ (I.hok.fresh (Nat.le_refl _))⟩
  exact ⟨Nat.le_trans (cutV_length xs lo hi) hz, _, (r.drop (HT.sIx xs.length 0 lo)).take (HT.sIx xs.length xs.length hi - HT.sIx xs.length 0 lo), IsTup.new _ _⟩

/-! ### t < u, t + u -/
def rLtT (K : PySem.W.Frag) : R2 := fun x y H Q => ∃ a b ns ms, x = .ref a ∧ y = .ref b ∧ SqT K H a (ns.map V.int) ∧ SqT K H b (ms.map V.int) ∧ Q (.bl (HT.lexLt ns ms)) H
theorem op_ltT (hu : X.A.units < cLine) : OpR X (compareOp .Lt) (rLtT X.K) := by
  intro pins s σ H x y v u Q I rx ry h
  obtain ⟨a, b, ns, ms, rfl, rfl, ha, hb, q⟩ := h
  cases rx
  cases ry
  obtain ⟨its, r1, p1, _⟩ := I.tuple ha
  obtain ⟨its2, r2, p2, _⟩ := I.tuple hb
  have i1 : IntsAre its.toArray.toList ns := intsAre_of r1
  have i2 : IntsAre its2.toArray.toList ms := intsAre_of r2
  exact HT.lt_tupInts p1 p2 i1 i2 hu ⟨.bl (HT.lexLt ns ms), H, I, rfl, q⟩
/-- t + u, t not empty: u empty gives t itself -/
def rCatT (K : PySem.W.Frag) : R2 := fun x y H Q => ∃ a b xs ys, x = .ref a ∧ y = .ref b ∧ SqT K H a xs ∧ SqT K H b ys ∧ xs ≠ [] ∧ xs.length + ys.length ≤ sizeLine ∧
  (ys = [] → Q (.ref a) H) ∧ (ys ≠ [] → ∀ p, H p = none → Q (.ref p) (upd H p (.tup (xs ++ ys))))
theorem Vals.nil_iff {xs : List V} {us : List Value} (r : Vals xs us) : us = [] ↔ xs = [] := by
  cases r with
  | nil => simp
  | cons _ _ => simp
theorem op_catT : OpR X (binaryOp .Add) (rCatT X.K) := by
  intro pins s σ H x y v u Q I rx ry h
  obtain ⟨a, b, xs, ys, rfl, rfl, ha, hb, hx, hz, q1, q2⟩ := h
  cases rx
  cases ry
  obtain ⟨its, r1, p1, _⟩ := I.tuple ha
  obtain ⟨its2, r2, p2, _⟩ := I.tuple hb
  refine HT.cat_tup p1 p2 (fun z => hx (r1.nil_iff.mp z)) (fun z => ⟨.ref a, H, I, rfl, q1 (r2.nil_iff.mp z)⟩) (fun z => ?_) (by rw [← r1.length, ← r2.length]; exact hz)
  refine ⟨.ref s.heap.objs.size, _, I.laid (t' := s.toks) (o := .tup (xs ++ ys)) (fun b ob q => Heap.get?_push_of_some _ q) (Nat.le_refl _) ?_, rfl, q2 (fun w => z (r2.nil_iff.mpr w)) _ (I.hok.fresh (Nat.le_refl _))⟩
  exact ⟨by rw [List.length_append]; exact hz, _, r1.append r2, IsTup.new _ _⟩
/-- tuple(t) -/
theorem call_tupleT : CallR X (.type "tuple") (fun xs H Q => ∃ a ys, xs = [.ref a] ∧ SqT X.K H a ys ∧ Q (.ref a) H) := by
  intro pins s σ H xs us Q I r h
  obtain ⟨a, ys, rfl, ha, q⟩ := h
  obtain ⟨u, rfl, ru⟩ := vals1 r
  cases ru
  obtain ⟨its, _, p1, _⟩ := I.tuple ha
  exact call_tuple_same (items := its.toArray) p1 ⟨.ref a, H, I, rfl, q⟩
end
end L2

namespace L2
open PySem PySem.Spec PyProof.Rows

/-! ### places -/
/-- the place that an index of any sign means -/
def ixN (n : Nat) (i : Int) : Option Nat := if 0 ≤ i then (if i < n then some i.toNat else none) else if -(n : Int) ≤ i then some (i + n).toNat else none
def atI {α : Type} (xs : List α) (i : Int) : Option α := (ixN xs.length i).bind fun j => xs[j]?
theorem ixN_seq {n : Nat} {i : Int} {j : Nat} (h : ixN n i = some j) : seqIndex? i n = some j ∧ j < n ∧ -(n : Int) ≤ i ∧ i < n := by
  unfold ixN at h
  by_cases h0 : 0 ≤ i
  · rw [if_pos h0] at h
    by_cases h1 : i < n
    · rw [if_pos h1] at h
      have e : i.toNat = j := Option.some.inj h
      exact ⟨by rw [seqIndex_of h0 h1, e], by omega, by omega, h1⟩
    · rw [if_neg h1] at h; cases h
  · rw [if_neg h0] at h
    by_cases h1 : -(n : Int) ≤ i
    · rw [if_pos h1] at h
      have e : (i + n).toNat = j := Option.some.inj h
      exact ⟨by rw [seqIndex_neg (by omega) h1, e], by omega, h1, by omega⟩
    · rw [if_neg h1] at h; cases h
theorem atI_get {α : Type} {xs : List α} {i : Int} {v : α} (h : atI xs i = some v) : ∃ j, seqIndex? i xs.length = some j ∧ xs[j]? = some v ∧ j < xs.length ∧ -(xs.length : Int) ≤ i ∧ i < xs.length := by
  unfold atI at h
  cases e : ixN xs.length i with
  | none => rw [e] at h; cases h
  | some j =>
    rw [e] at h
    obtain ⟨h1, h2, h3, h4⟩ := ixN_seq e
    exact ⟨j, h1, h, h2, h3, h4⟩
theorem atI_nat {α : Type} {xs : List α} {j : Nat} {v : α} (h : xs[j]? = some v) : atI xs (j : Int) = some v := by
  have hj : j < xs.length := (List.getElem?_eq_some_iff.mp h).1
  have e : ixN xs.length (j : Int) = some j := by
    unfold ixN
    rw [if_pos (by omega), if_pos (by omega)]; simp
  unfold atI; rw [e]; exact h
theorem atI_last {α : Type} (xs : List α) (v : α) : atI (xs ++ [v]) (-1) = some v := by
  have hl : (xs ++ [v]).length = xs.length + 1 := by simp
  have e : ixN (xs ++ [v]).length (-1) = some xs.length := by
    unfold ixN
    rw [hl, if_neg (by decide), if_pos (by omega)]
    congr 1
    omega
  unfold atI
  rw [e]
  show (xs ++ [v])[xs.length]? = some v
  simp

/-! ### what may be subscripted -/
/-- what stands as an index of a plain subscript -/
def PlainIx (b : Expr) : Prop := ∀ o i, subscripted b false o i = operate [o, i] (getItem o i)
/-- a subscript by values -/
def IxR (X : Cx) (r : R2) : Prop :=
  ∀ (value slice : Expr) (pins : List (Addr × Obj)) (s : Shared) (σ : St) (H : Hp) (x y : V) (v u : Value) (Q : VK), Inv X pins σ H s → RelV x v → RelV y u → r x y H Q →
    subscripted slice false v u = operate [v, u] (getItem v u) → wpAny (model X.prog X.w) X.A (subscriptTail value slice v u) (EP X pins σ Q) X.xe s
/-- a call of a builtin's method by values: the receiver, the arguments -/
def MtR (X : Cx) (id : String) (r : V → List V → Hp → VK → Prop) : Prop :=
  ∀ (pins : List (Addr × Obj)) (s : Shared) (σ : St) (H : Hp) (x : V) (xs : List V) (v : Value) (us : List Value) (Q : VK), Inv X pins σ H s → RelV x v → Vals xs us → r x xs H Q →
    wpAny (model X.prog X.w) X.A (call (.builtin id) (v :: us)) (EP X pins σ Q) X.xe s
section
variable {X : Cx} {a b : Expr} {ta tb : TE} {pos : Pos}
theorem IxR.or {r r' : R2} (h : IxR X r) (h' : IxR X r') : IxR X (fun x y H Q => r x y H Q ∨ r' x y H Q) := by
  intro value slice pins s σ H x y v u Q I rx ry q hs
  rcases q with q | q
  · exact h value slice pins s σ H x y v u Q I rx ry q hs
  · exact h' value slice pins s σ H x y v u Q I rx ry q hs
theorem MtR.or {id : String} {r r' : V → List V → Hp → VK → Prop} (h : MtR X id r) (h' : MtR X id r') : MtR X id (fun x xs H Q => r x xs H Q ∨ r' x xs H Q) := by
  intro pins s σ H x xs v us Q I rx rs q
  rcases q with q | q
  · exact h pins s σ H x xs v us Q I rx rs q
  · exact h' pins s σ H x xs v us Q I rx rs q
/-- a[b] -/
theorem pe_ix {r : R2} (hr : IxR X r) (ha : PE X a ta) (hb : PE X b tb) (hs : PlainIx b) : PE X (.Subscript a b pos) (tOp r ta tb) := by
  intro pins s σ H Q I h
  exact Subscript_ (binT ha hb I h fun v u s2 x y H2 I2 rx ry q => hr a b pins s2 σ H2 x y v u Q I2 rx ry q (hs _ _))

def rIxL (K : PySem.W.Frag) : R2 := fun x y H Q => ∃ p xs i v, x = .ref p ∧ y = .int i ∧ SqL K H p xs ∧ atI xs i = some v ∧ Q v H
def rIxT (K : PySem.W.Frag) : R2 := fun x y H Q => ∃ p xs i v, x = .ref p ∧ y = .int i ∧ SqT K H p xs ∧ atI xs i = some v ∧ Q v H
def rIxS : R2 := fun x y H Q => ∃ z i c, x = .str z ∧ y = .int i ∧ z.length ≤ sizeLine ∧ atI z.cps.toList i = some c ∧ Q (.str ⟨#[c]⟩) H
theorem ix_list : IxR X (rIxL X.K) := by
  intro value slice pins s σ H x y v u Q I rx ry h hs
  obtain ⟨p, xs, i, z, rfl, rfl, hq, he, q⟩ := h
  cases rx
  obtain ⟨t, rfl⟩ := ry
  obtain ⟨its, r, pl, hz⟩ := I.list hq
  obtain ⟨j, h1, h2, h3, h4, h5⟩ := atI_get he
  obtain ⟨w, ew, rw'⟩ := r.get h2
  have hl := r.length
  have hn := line63
  have fin : EP X pins σ Q w s := ⟨z, H, I, rw', q⟩
  by_cases h0 : 0 ≤ i
  · have hj : i.toNat = j := by
      rw [seqIndex_of h0 h5] at h1
      exact Option.some.inj h1
    exact item_listR pl.isList h0 (by omega) (by rw [hj]; simpa using ew) fin hs
  · have hj : (i + (its.toArray.size : Int)).toNat = j := by
      rw [seqIndex_neg (by omega) h4] at h1
      rw [List.size_toArray, ← hl]
      exact Option.some.inj h1
    exact subscriptTail_builtinR (x := w) pl.isList.typeIs slot_list_getitem.lookup
      (wpAny_getItem_list_neg (Q := fun r s' => r = w ∧ EP X pins σ Q r s') pl.isList (by omega) (by rw [List.size_toArray] <;> omega) (by omega) (by rw [hj]; simpa using ew) ⟨rfl, fin⟩) hs
theorem ix_tup : IxR X (rIxT X.K) := by
  intro value slice pins s σ H x y v u Q I rx ry h hs
  obtain ⟨p, xs, i, z, rfl, rfl, hq, he, q⟩ := h
  cases rx
  obtain ⟨t, rfl⟩ := ry
  obtain ⟨its, r, pl, hz⟩ := I.tuple hq
  obtain ⟨j, h1, h2, h3, h4, h5⟩ := atI_get he
  obtain ⟨w, ew, rw'⟩ := r.get h2
  have hl := r.length
  have hn := line63
  have fin : EP X pins σ Q w s := ⟨z, H, I, rw', q⟩
  exact subscriptTail_builtinR (x := w) pl.typeIs slot_tuple_getitem.lookup
    (getItem_tuple (j := j) (Q := fun r s' => r = w ∧ EP X pins σ Q r s') pl (by omega) (by omega) (by rw [List.size_toArray, ← hl]; exact h1) (by simpa using ew) ⟨rfl, fin⟩) hs
theorem ix_str : IxR X rIxS := by
  intro value slice pins s σ H x y v u Q I rx ry h hs
  obtain ⟨z, i, c, rfl, rfl, hz, he, q⟩ := h
  obtain ⟨t, rfl⟩ := rx
  obtain ⟨t', rfl⟩ := ry
  obtain ⟨j, h1, h2, h3, h4, h5⟩ := atI_get he
  have hl : z.cps.toList.length = z.length := by simp [Str.length]
  rw [hl] at h1 h4 h5
  have hn := line63
  exact tail_any (typeIs_str s z t) slot_str_getitem.lookup (getItem_str (c := c) (by
    have e1 : decide (i < -(2 ^ 63 : Int)) = false := decide_eq_false (by omega)
    have e2 : decide (i ≥ 2 ^ 63) = false := decide_eq_false (by omega)
    rw [e1, e2, Bool.or_false]) (by rw [h1]; simpa using h2) ⟨.str ⟨#[c]⟩, H, I.tok _, ⟨_, rfl⟩, q⟩) hs
/-- list, tuple or str -/
def rIx (K : PySem.W.Frag) : R2 := fun x y H Q => rIxL K x y H Q ∨ rIxT K x y H Q ∨ rIxS x y H Q
theorem ix_seq : IxR X (rIx X.K) := ix_list.or (ix_tup.or ix_str)

/-! ### xs[i] = v, any sign -/
/-- the list's object behind a store -/
theorem mapSeq_set (its : List Value) (n j : Nat) (u : Value) : Obj.mapSeq (·.setIfInBounds j u) { cls := .type "list", data := .seq its.toArray n } = { cls := .type "list", data := .seq (its.set j u).toArray n } := by
  simp [Obj.mapSeq]
theorem Inv.lst {pins : List (Addr × Obj)} {σ : St} {H : Hp} {s : Shared} {p : Addr} {xs : List V} (I : Inv X pins σ H s) (h : H p = some (.lst xs)) :
    ∃ (its : List Value) (n : Nat), Vals xs its ∧ s.heap.get? p = some { cls := .type "list", data := .seq its.toArray n } ∧ xs.length ≤ sizeLine := by
  obtain ⟨z, its, n, r, e⟩ := I.hok p _ h
  exact ⟨its, n, r, e, z⟩
/-- the list at p is written by an update of its object -/
theorem Inv.lstUpd {pins : List (Addr × Obj)} {σ : St} {H : Hp} {s : Shared} {p : Addr} {xs ys : List V} {its its' : List Value} {n n' : Nat} {f : Obj → Obj} (I : Inv X pins σ H s) (h : H p = some (.lst xs))
    (ho : s.heap.get? p = some { cls := .type "list", data := .seq its.toArray n }) (hf : f { cls := .type "list", data := .seq its.toArray n } = { cls := .type "list", data := .seq its'.toArray n' }) (r : Vals ys its') (hz : ys.length ≤ sizeLine) (t : Nat) :
    Inv X pins σ (upd H p (.lst ys)) { s with heap := s.heap.update p f, toks := t } := by
  have e : (s.heap.update p f).get? p = some { cls := .type "list", data := .seq its'.toArray n' } := by
    rw [Heap.get?_update_self f ho (by rw [hf] <;> rfl), hf]
  refine I.write (x := p) (e := p) (by rw [h]; trivial) (.inl rfl) (fun b u hb q => (Heap.get?_update_other _ _ (Ne.symm hb)).trans q) ⟨_, e⟩ ?_
  exact ⟨hz, its', n', r, e⟩
def rSetL : V → V → V → Hp → (Hp → Prop) → Prop := fun o i v H Q => ∃ p xs k j, o = .ref p ∧ i = .int k ∧ H p = some (.lst xs) ∧ ixN xs.length k = some j ∧ Q (upd H p (.lst (xs.set j v)))
theorem set_list : PSet X rSetL := by
  intro pins s σ H o i v ov iv u Q I ro ri rv h
  obtain ⟨p, xs, k, j, rfl, rfl, hp, hj, q⟩ := h
  cases ro
  obtain ⟨t, rfl⟩ := ri
  obtain ⟨its, n, r, ho, hz⟩ := I.lst hp
  obtain ⟨h1, h2, h3, h4⟩ := ixN_seq hj
  have hl := r.length
  have hn := line63
  have I' : Inv X pins σ (upd H p (.lst (xs.set j v))) { s with heap := s.heap.update p (Obj.mapSeq (·.setIfInBounds j u)) } :=
    I.lstUpd hp ho (mapSeq_set its n j u) (r.set rv j) (by rw [List.length_set]; exact hz) s.toks
  by_cases h0 : 0 ≤ k
  · have hk : k.toNat = j := by
      rw [seqIndex_of h0 h4] at h1
      exact Option.some.inj h1
    exact PySem.W.ki_setAt ho h0 (by omega) (by rw [List.size_toArray, ← hl]; exact h4) (by rw [hk]; exact ⟨_, I', q⟩)
  · have hk : (k + (its.toArray.size : Int)).toNat = j := by
      rw [seqIndex_neg (by omega) h3] at h1
      rw [List.size_toArray, ← hl]
      exact Option.some.inj h1
    exact PySem.W.ki_setBack ho (by omega) (by rw [List.size_toArray, ← hl]; exact h3) (by omega) (by rw [hk]; exact ⟨_, I', q⟩)

/-! ### slices -/
theorem slice_bounds (lo hi : Option Int) (n : Nat) : (sliceBounds lo hi none n).1 = ((HT.sIx n 0 lo : Nat) : Int) ∧ (sliceBounds lo hi none n).2.1 = ((HT.sIx n n hi : Nat) : Int) ∧ (sliceBounds lo hi none n).2.2 = 1 := by
  refine ⟨?_, ?_, rfl⟩
  · cases lo with
    | none => simp [sliceBounds, HT.sIx]
    | some i =>
      simp only [sliceBounds, HT.sIx, Option.getD_none, show (1 : Int) > 0 by decide, if_true]
      by_cases h : i < 0
      · simp only [h, if_true] <;> omega
      · simp only [h, if_false] <;> omega
  · cases hi with
    | none => simp [sliceBounds, HT.sIx]
    | some i =>
      simp only [sliceBounds, HT.sIx, Option.getD_none, show (1 : Int) > 0 by decide, if_true]
      by_cases h : i < 0
      · simp only [h, if_true] <;> omega
      · simp only [h, if_false] <;> omega
theorem slicePick_cut (its : List Value) (lo hi : Option Int) : slicePick its.toArray lo hi none = ((its.drop (HT.sIx its.length 0 lo)).take (HT.sIx its.length its.length hi - HT.sIx its.length 0 lo)).toArray := by
  obtain ⟨h1, h2, h3⟩ := slice_bounds lo hi its.toArray.size
  unfold slicePick
  rw [h1, h2, h3]
  simp only [sliceRange_one, pick_run, List.size_toArray] <;> rfl
/-- xs[lo:hi] of a list: a new list -/
def rSlL (K : PySem.W.Frag) : V → Option Int → Option Int → Hp → VK → Prop := fun x lo hi H Q => ∃ a xs, x = .ref a ∧ SqL K H a xs ∧ ∀ p, H p = none → Q (.ref p) (upd H p (.lst (cutV xs lo hi)))
theorem sl_list : SlR X (rSlL X.K) := by
  intro pins s σ H x v vl vu lo hi sl Q I rx hs pl pu h
  obtain ⟨a, xs, rfl, hx, q⟩ := h
  cases rx
  obtain ⟨its, r, ht, hz⟩ := I.list hx
  have hlen := r.length
  refine ⟨"list", _, slot_list_getitem.lookup, ht.isList.typeIs, ?_⟩
  refine wpAny_getItem_list_slice ht.isList hs pl pu .none (by simp) ?_ (by rw [List.size_toArray] <;> omega)
  rw [slicePick_cut, ← hlen]
  refine ⟨.ref s.heap.objs.size, _, I.laid (t' := s.toks) (o := .lst (cutV xs lo hi)) (fun b ob q => Heap.get?_push_of_some _ q) (Nat.le_refl _) ?_, rfl, q _ (I.hok.fresh (Nat.le_refl _))⟩
  exact ⟨Nat.le_trans (cutV_length xs lo hi) hz, _, 0, (r.drop (HT.sIx xs.length 0 lo)).take (HT.sIx xs.length xs.length hi - HT.sIx xs.length 0 lo), Heap.get?_push_size _ rfl⟩

/-! ### in, not in: flat items -/
def flatV : V → Bool
  | .non => true
  | .bl _ => true
  | .int _ => true
  | .str _ => true
  | _ => false
/-- == of flat values -/
def eqV : V → V → Bool
  | .non, .non => true
  | .bl a, .bl b => a == b
  | .bl a, .int b => (if a then 1 else 0) == b
  | .int a, .bl b => a == (if b then 1 else 0)
  | .int a, .int b => a == b
  | .str a, .str b => a == b
  | _, _ => false
theorem eqAt_V {A : Around} {s : Shared} {y x : V} {u v : Value} (ry : RelV y u) (rx : RelV x v) (fy : flatV y = true) (fx : flatV x = true) : SeqAt.EqAt A s u v (eqV y x) := by
  cases y with
  | non =>
    cases ry
    cases x with
    | non => cases rx; exact SeqAt.EqAt.same _
    | bl b => cases rx; exact SeqAt.EqAt.none_bool b
    | int b => obtain ⟨t, rfl⟩ := rx; exact SeqAt.EqAt.none_int b t
    | str b => obtain ⟨t, rfl⟩ := rx; exact SeqAt.EqAt.none_str b t
    | _ => exact absurd (show false = true from fx) Bool.false_ne_true
  | bl a =>
    cases ry
    cases x with
    | non => cases rx; exact SeqAt.EqAt.bool_none a
    | bl b => cases rx; exact SeqAt.EqAt.bool_bool a b
    | int b => obtain ⟨t, rfl⟩ := rx; exact SeqAt.EqAt.bool_int a b t
    | str b => obtain ⟨t, rfl⟩ := rx; exact SeqAt.EqAt.bool_str a b t
    | _ => exact absurd (show false = true from fx) Bool.false_ne_true
  | int a =>
    obtain ⟨t', rfl⟩ := ry
    cases x with
    | non => cases rx; exact SeqAt.EqAt.int_none a t'
    | bl b => cases rx; exact SeqAt.EqAt.int_bool a t' b
    | int b => obtain ⟨t, rfl⟩ := rx; exact SeqAt.EqAt.int_int a t' b t
    | str b => obtain ⟨t, rfl⟩ := rx; exact SeqAt.EqAt.int_str a t' b t
    | _ => exact absurd (show false = true from fx) Bool.false_ne_true
  | str a =>
    obtain ⟨t', rfl⟩ := ry
    cases x with
    | non => cases rx; exact SeqAt.EqAt.str_none a t'
    | bl b => cases rx; exact SeqAt.EqAt.str_bool a t' b
    | int b => obtain ⟨t, rfl⟩ := rx; exact SeqAt.EqAt.str_int a t' b t
    | str b => obtain ⟨t, rfl⟩ := rx; exact SeqAt.EqAt.str_str a t' b t
    | _ => exact absurd (show false = true from fx) Bool.false_ne_true
  | _ => exact absurd (show false = true from fy) Bool.false_ne_true
/-- the items' answers, read off the values (a value's own answer does not lean on its token) -/
def eqU (x : V) (u : Value) : Bool := match u with
  | .none => eqV .non x
  | .bool b => eqV (.bl b) x
  | .int i _ => eqV (.int i) x
  | .str z _ => eqV (.str z) x
  | _ => false
theorem eqU_of {x y : V} {u : Value} (r : RelV y u) (f : flatV y = true) : eqU x u = eqV y x := by
  cases y with
  | non => cases r; rfl
  | bl b => cases r; rfl
  | int i => obtain ⟨t, rfl⟩ := r; rfl
  | str z => obtain ⟨t, rfl⟩ := r; rfl
  | _ => exact absurd (show false = true from f) Bool.false_ne_true
theorem any_eqU {x : V} : ∀ {xs : List V} {us : List Value}, Vals xs us → xs.all flatV = true → us.any (eqU x) = xs.any fun y => eqV y x
  | _, _, .nil, _ => rfl
  | y :: xs, u :: us, .cons r t, f => by
    rw [List.all_cons, Bool.and_eq_true] at f
    rw [List.any_cons, List.any_cons, eqU_of r f.1, any_eqU t f.2]
theorem mem_eqAt {A : Around} {s : Shared} {x : V} {v : Value} (rx : RelV x v) (fx : flatV x = true) : ∀ {xs : List V} {us : List Value}, Vals xs us → xs.all flatV = true → ∀ u ∈ us, SeqAt.EqAt A s u v (eqU x u)
  | _, _, .nil, _ => fun u hu => by cases hu
  | y :: xs, u :: us, .cons r t, f => fun u' hu => by
    rw [List.all_cons, Bool.and_eq_true] at f
    rcases List.mem_cons.mp hu with rfl | hu
    · rw [eqU_of r f.1]; exact eqAt_V r rx f.1 fx
    · exact mem_eqAt rx fx t f.2 u' hu
def inV (x : V) (xs : List V) : Bool := xs.any fun y => eqV y x
/-- x in a list or tuple of flat items -/
def rIn (K : PySem.W.Frag) (neg : Bool) : R2 := fun x y H Q => ∃ p xs, y = .ref p ∧ (SqL K H p xs ∨ SqT K H p xs) ∧ flatV x = true ∧ xs.all flatV = true ∧ Q (.bl (if neg then !inV x xs else inV x xs)) H
theorem op_in_seq : OpR X (compareOp .In) (rIn X.K false) := by
  intro pins s σ H x y v u Q I rx ry h
  obtain ⟨p, xs, rfl, hq, fx, fs, q⟩ := h
  cases ry
  rcases hq with hq | hq
  · obtain ⟨its, r, pl, hz⟩ := I.list hq
    refine SeqAt.in_listAt (eqU x) pl.isList (fun w hw => mem_eqAt rx fx r fs w (by simpa using hw)) ⟨.bl _, H, I, rfl, ?_⟩
    rw [show its.toArray.any (eqU x) = its.any (eqU x) by simp, any_eqU r fs]
    exact q
  · obtain ⟨its, r, pl, hz⟩ := I.tuple hq
    refine SeqAt.in_tupleAt (eqU x) pl (fun w hw => mem_eqAt rx fx r fs w (by simpa using hw)) ⟨.bl _, H, I, rfl, ?_⟩
    rw [show its.toArray.any (eqU x) = its.any (eqU x) by simp, any_eqU r fs]
    exact q
theorem op_notIn_seq : OpR X (compareOp .NotIn) (rIn X.K true) := by
  intro pins s σ H x y v u Q I rx ry h
  obtain ⟨p, xs, rfl, hq, fx, fs, q⟩ := h
  cases ry
  rcases hq with hq | hq
  · obtain ⟨its, r, pl, hz⟩ := I.list hq
    refine SeqAt.notIn_listAt (eqU x) pl.isList (fun w hw => mem_eqAt rx fx r fs w (by simpa using hw)) ⟨.bl _, H, I, rfl, ?_⟩
    rw [show its.toArray.any (eqU x) = its.any (eqU x) by simp, any_eqU r fs]
    exact q
  · obtain ⟨its, r, pl, hz⟩ := I.tuple hq
    refine SeqAt.notIn_tupleAt (eqU x) pl (fun w hw => mem_eqAt rx fx r fs w (by simpa using hw)) ⟨.bl _, H, I, rfl, ?_⟩
    rw [show its.toArray.any (eqU x) = its.any (eqU x) by simp, any_eqU r fs]
    exact q
theorem op_notIn_str : OpR X (compareOp .NotIn) (fun x y H Q => ∃ i j, x = .str i ∧ y = .str j ∧ Q (.bl (!(!(Builtin.Str.occurrences j i 0 j.length 1).isEmpty))) H) := by
  intro pins s σ H x y v u Q I rx ry h
  obtain ⟨i, j, rfl, rfl, q⟩ := h
  obtain ⟨t, rfl⟩ := rx
  obtain ⟨t', rfl⟩ := ry
  exact notIn_str ⟨.bl _, H, I, rfl, q⟩

/-! ### len, list(x), tuple(x) of any list or tuple that is read -/
theorem call_len_seq : CallR X (.builtin "len") (fun xs H Q => ∃ p ys, xs = [.ref p] ∧ (SqL X.K H p ys ∨ SqT X.K H p ys) ∧ Q (.int ys.length) H) := by
  intro pins s σ H xs us Q I r h
  obtain ⟨p, ys, rfl, hq, q⟩ := h
  obtain ⟨u, rfl, rx⟩ := vals1 r
  cases rx
  have hn := line63
  rcases hq with hq | hq
  · obtain ⟨its, r', pl, hz⟩ := I.list hq
    have hlen := r'.length
    exact Calls.call_len_list pl.isList (by simp only [List.size_toArray] <;> omega) ⟨.int ys.length, H, I.tok _, ⟨s.toks + 1, by rw [List.size_toArray, hlen]⟩, q⟩
  · obtain ⟨its, r', pl, hz⟩ := I.tuple hq
    have hlen := r'.length
    exact len_tuple pl (by simp only [List.size_toArray] <;> omega) ⟨.int ys.length, H, I.tok _, ⟨s.toks + 1, by rw [List.size_toArray, hlen]⟩, q⟩
theorem call_len_str : CallR X (.builtin "len") (fun xs H Q => ∃ z, xs = [.str z] ∧ z.length ≤ sizeLine ∧ Q (.int z.length) H) := by
  intro pins s σ H xs us Q I r h
  obtain ⟨z, rfl, hz, q⟩ := h
  obtain ⟨u, rfl, t, rfl⟩ := vals1 r
  have hn := line63
  exact len_str (by omega) ⟨.int z.length, H, I.tok _, ⟨_, rfl⟩, q⟩
theorem CallR.or {f : Value} {r r' : List V → Hp → VK → Prop} (h : CallR X f r) (h' : CallR X f r') : CallR X f (fun xs H Q => r xs H Q ∨ r' xs H Q) := by
  intro pins s σ H xs us Q I rs q
  rcases q with q | q
  · exact h pins s σ H xs us Q I rs q
  · exact h' pins s σ H xs us Q I rs q
theorem call_list_of : CallR X (.type "list") (fun xs H Q => ∃ p ys, xs = [.ref p] ∧ (SqL X.K H p ys ∨ SqT X.K H p ys) ∧ ∀ l, H l = none → Q (.ref l) (upd H l (.lst ys))) := by
  intro pins s σ H xs us Q I r h
  obtain ⟨p, ys, rfl, hq, q⟩ := h
  obtain ⟨u, rfl, rx⟩ := vals1 r
  cases rx
  have fin : ∀ (its : List Value), Vals ys its → ys.length ≤ sizeLine → ∀ (h' : Heap) (c' : Nat), (∀ b o', s.heap.get? b = some o' → h'.get? b = some o') →
      h'.get? s.heap.objs.size = some { cls := .type "list", dict := none, data := .seq its.toArray c', slots := #[] } → EP X pins σ Q (.ref s.heap.objs.size) { s with heap := h' } := fun its r' hz h' c' kp e =>
    ⟨.ref s.heap.objs.size, _, I.laid (t' := s.toks) kp (Nat.le_refl _) (show ObjOk X.prog X.w _ h' _ (.lst ys) from ⟨hz, its, c', r', e⟩), rfl, q _ (I.hok.fresh (Nat.le_refl _))⟩
  rcases hq with hq | hq
  · obtain ⟨its, r', pl, hz⟩ := I.list hq
    have hlen := r'.length
    obtain ⟨o, ho, hc, n, hd⟩ := pl.isList
    exact call_list_seq p (.inl rfl) ho hc hd (fun h' c' kp e => fin its r' hz h' c' kp e) (by simp only [List.size_toArray] <;> omega)
  · obtain ⟨its, r', pl, hz⟩ := I.tuple hq
    have hlen := r'.length
    obtain ⟨o, ho, hc, n, hd⟩ := pl
    exact call_list_seq p (.inr rfl) ho hc hd (fun h' c' kp e => fin its r' hz h' c' kp e) (by simp only [List.size_toArray] <;> omega)
theorem call_tuple_of : CallR X (.type "tuple") (fun xs H Q => ∃ p ys, xs = [.ref p] ∧ ((SqL X.K H p ys ∧ ∀ l, H l = none → Q (.ref l) (upd H l (.tup ys))) ∨ (SqT X.K H p ys ∧ Q (.ref p) H))) := by
  intro pins s σ H xs us Q I r h
  obtain ⟨p, ys, rfl, h⟩ := h
  obtain ⟨u, rfl, rx⟩ := vals1 r
  cases rx
  rcases h with ⟨hq, q⟩ | ⟨hq, q⟩
  · obtain ⟨its, r', pl, hz⟩ := I.list hq
    have hlen := r'.length
    refine call_tuple_list pl.isList (fun h' kp => ?_) (by simp only [List.size_toArray] <;> omega)
    have I1 : Inv X pins σ H { s with heap := h' } := I.kept (t' := s.toks) kp
    have I2 : Inv X pins σ (upd H h'.objs.size (.tup ys)) { s with heap := h'.push { cls := .type "tuple", data := .seq its.toArray } } :=
      I1.laid (t' := s.toks) (fun b o e => Heap.get?_push_of_some _ e) (Nat.le_refl _) (show ObjOk X.prog X.w _ _ _ (.tup ys) from ⟨hz, its, r', IsTup.new _ _⟩)
    exact ⟨.ref h'.objs.size, _, I2, rfl, q _ (I1.hok.fresh (Nat.le_refl _))⟩
  · obtain ⟨its, r', pl, hz⟩ := I.tuple hq
    exact call_tuple_same pl ⟨.ref p, H, I, rfl, q⟩

/-! ### the call of a builtin's method: o.m(..) -/
/-- the value is of that builtin type -/
def tyV (K : PySem.W.Frag) (T : String) (x : V) (H : Hp) : Prop := match x with
  | .str _ => T = "str"
  | .int _ => T = "int"
  | .ref p => (T = "list" ∧ ∃ xs, SqL K H p xs) ∨ (T = "tuple" ∧ ∃ o, K.lookup p = some o ∧ o.cls = .type "tuple" ∧ o.dict = none) ∨
      (T = "dict" ∧ ((∃ kvs, H p = some (.dK kvs)) ∨ ∃ kvs, H p = some (.dT kvs))) ∨ (T = "set" ∧ ∃ S n, H p = some (.set S n))
  | _ => False
theorem tyV_is {pins : List (Addr × Obj)} {σ : St} {H : Hp} {s : Shared} {T : String} {x : V} {v : Value} (I : Inv X pins σ H s) (r : RelV x v) (ty : tyV X.K T x H) :
    s.TypeIs v T ∧ ∀ a, v = .ref a → ∃ ob, s.heap.get? a = some ob ∧ ob.dict = none := by
  cases x with
  | str z =>
    obtain ⟨t, rfl⟩ := r
    cases (show T = "str" from ty)
    exact ⟨typeIs_str s z t, fun _ e => nomatch e⟩
  | int i =>
    obtain ⟨t, rfl⟩ := r
    cases (show T = "int" from ty)
    exact ⟨typeIs_int s i t, fun _ e => nomatch e⟩
  | ref p =>
    cases r
    rcases ty with ⟨rfl, xs, hq⟩ | ⟨rfl, o, hk, hc, hd⟩ | ⟨rfl, hk⟩ | ⟨rfl, S, n, hk⟩
    · obtain ⟨its, _, pl, _⟩ := I.list hq
      refine ⟨pl.isList.typeIs, fun a e => ?_⟩
      cases e
      obtain ⟨o, n, e, c, hd, _⟩ := pl
      exact ⟨o, e, hd⟩
    · refine ⟨⟨o, I.kIn p o hk, hc⟩, fun a e => ?_⟩
      cases e
      exact ⟨o, I.kIn _ o hk, hd⟩
    · have z : ∃ o, s.heap.get? p = some o ∧ o.ExactDict := by
        rcases hk with ⟨kvs, hk⟩ | ⟨kvs, hk⟩
        · obtain ⟨_, _, _, _, o, _, _, e, ex, _⟩ := I.hok p _ hk
          exact ⟨o, e, ex⟩
        · obtain ⟨_, _, _, _, o, _, _, e, ex, _⟩ := I.hok p _ hk
          exact ⟨o, e, ex⟩
      obtain ⟨o, e, ex⟩ := z
      refine ⟨⟨o, e, ex.1⟩, fun a e2 => ?_⟩
      cases e2
      exact ⟨o, e, ex.2.1⟩
    · obtain ⟨o, _, _, _, e, ex, _⟩ := I.hok p _ hk
      refine ⟨⟨o, e, ex.1⟩, fun a e2 => ?_⟩
      cases e2
      exact ⟨o, e, ex.2.1⟩
  | _ => exact False.elim ty
def tBM0 (K : PySem.W.Frag) (T : String) (r : V → List V → Hp → VK → Prop) (to : TE) : TE := fun σ H Q => to σ H fun x H1 => tyV K T x H1 ∧ r x [] H1 Q
def tBM (K : PySem.W.Frag) (T : String) (r : V → List V → Hp → VK → Prop) (to : TE) (t : TA) : TE := fun σ H Q => to σ H fun x H1 => tyV K T x H1 ∧ t σ H1 fun xs H2 => r x xs H2 Q
variable {o e : Expr} {es : List Expr} {to : TE} {t : TA} {name : Str} {apos cpos : Pos} {T id : String} {r : V → List V → Hp → VK → Prop}
theorem pe_bm0 (pa : PlainAttrs T) (slot : Slot T name id) (hty : typeOf (.builtin id) = pure (.type "method_descriptor")) (hm : MtR X id r) (ho : PE X o to)
    (hbase : attributeBase o name X.env (eval o X.env) = eval o X.env := by rfl) (hline : (apos.endLine == cpos.line) = true := by rfl) : PE X (.Call (.Attribute o name apos) [] [] cpos) (tBM0 X.K T r to) := by
  intro pins s σ H Q I h
  refine wpAny_Call_method0_late hbase hline (thn (ho pins s σ H _ I h) fun v s1 ⟨x, H1, I1, r1, ty, q1⟩ => ?_)
  obtain ⟨h1, h2⟩ := tyV_is I1 r1 ty
  exact ⟨T, id, pa, slot, hty, h1, h2, Calls.callWith_builtin rfl (PySem.evalArgs_none (hm pins s1 σ H1 x [] v [] Q I1 r1 .nil q1))⟩
theorem pe_bm (pa : PlainAttrs T) (slot : Slot T name id) (hty : typeOf (.builtin id) = pure (.type "method_descriptor")) (hm : MtR X id r) (ho : PE X o to) (ha : PA X (e :: es) t)
    (hbase : attributeBase o name X.env (eval o X.env) = eval o X.env := by rfl)
    (hfew : ((backTo cpos (starEach (e :: es) X.env)).all (fun x => !x.1) && (backToKw cpos (keywordEach [] X.env)).all (fun x => x.1.isSome)
      && decide ((e :: es).length + ([] : List Keyword).length + (if ([] : List Keyword).isEmpty then 0 else 1) < 30)) = true := by rfl)
    (hline : (apos.endLine == cpos.line) = true := by rfl) (hs : starEach (e :: es) X.env = (false, eval e X.env) :: starEach es X.env := by rfl) (hplain : (backTo cpos (starEach es X.env)).any (·.1) = false := by rfl) :
    PE X (.Call (.Attribute o name apos) (e :: es) [] cpos) (tBM X.K T r to t) := by
  intro pins s σ H Q I h
  refine wpAny_Call_method_late hbase hfew hline rfl (thn (ho pins s σ H _ I h) fun v s1 ⟨x, H1, I1, r1, ty, q1⟩ => ?_)
  obtain ⟨h1, h2⟩ := tyV_is I1 r1 ty
  refine ⟨T, id, pa, slot, hty, h1, h2, ?_⟩
  have hA := ha cpos pins s1 σ H1 _ I1 q1
  rw [hs] at hA ⊢
  refine Calls.callWith_builtin (by show (false || (backTo cpos (starEach es X.env)).any (·.1)) = false; rw [hplain] <;> rfl) (Calls.evalArgs_plain ?_)
  exact thn hA fun us s2 ⟨vs, H2, I2, r2, q2⟩ => hm pins s2 σ H2 x vs v us Q I2 r1 r2 q2
/- xs.append(e), list.index on a module's tuple .. are MtR facts of 06m -/
end
end L2

namespace L2
open PySem PySem.Spec PyProof.Rows

def MtM (X : Cx) (id : String) (r : V → List V → Hp → VK → Prop) : Prop :=
  ∀ (pins : List (Addr × Obj)) (s : Shared) (σ : St) (H : Hp) (x : V) (xs : List V) (v : Value) (us : List Value) (Q : VK), Inv X pins σ H s → RelV x v → Vals xs us → r x xs H Q →
    wpAny (model X.prog X.w) X.A (call (.builtin id) (v :: us)) (EP X pins σ Q) X.xe s

/-! ### lists of values -/
theorem Vals.one : ∀ {x : V} {us : List Value}, Vals [x] us → ∃ u, us = [u] ∧ RelV x u
  | _, _, .cons r .nil => ⟨_, rfl, r⟩
theorem Vals.two : ∀ {x y : V} {us : List Value}, Vals [x, y] us → ∃ u v, us = [u, v] ∧ RelV x u ∧ RelV y v
  | _, _, _, .cons r (.cons q .nil) => ⟨_, _, rfl, r, q⟩
theorem Vals.zero : ∀ {us : List Value}, Vals [] us → us = []
  | _, .nil => rfl
theorem Vals.dropLast {xs : List V} {us : List Value} (h : Vals xs us) : Vals xs.dropLast us.dropLast := by
  induction h with
  | nil => exact .nil
  | cons r t ih =>
    cases t with
    | nil => exact .nil
    | cons q t' => exact .cons r ih
theorem Vals.eraseIdx : ∀ {xs : List V} {us : List Value} (i : Nat), Vals xs us → Vals (xs.eraseIdx i) (us.eraseIdx i)
  | _, _, _, .nil => .nil
  | _, _, 0, .cons _ t => t
  | _, _, i + 1, .cons r t => .cons r (Vals.eraseIdx i t)
theorem Vals.reverse {xs : List V} {us : List Value} (h : Vals xs us) : Vals xs.reverse us.reverse := by
  induction h with
  | nil => exact .nil
  | cons r t ih => rw [List.reverse_cons, List.reverse_cons]; exact Vals.append ih (.cons r .nil)
theorem Vals.rep {xs : List V} {us : List Value} (h : Vals xs us) : ∀ k : Nat, Vals (List.replicate k xs).flatten (List.replicate k us).flatten
  | 0 => .nil
  | k + 1 => by
    rw [List.replicate_succ, List.replicate_succ, List.flatten_cons, List.flatten_cons]
    exact Vals.append h (Vals.rep h k)
theorem erase_last {α : Type} (l : List α) : l.eraseIdx (l.length - 1) = l.dropLast := by
  induction l with
  | nil => rfl
  | cons a r ih =>
    cases r with
    | nil => rfl
    | cons b r =>
      have e : (a :: b :: r).length - 1 = ((b :: r).length - 1) + 1 := by
        have h1 : (a :: b :: r).length = r.length + 2 := rfl
        have h2 : (b :: r).length = r.length + 1 := rfl
        omega
      rw [e, List.eraseIdx_cons_succ, ih]
      all_goals rfl
theorem len_erase {α : Type} : ∀ (l : List α) (i : Nat), (l.eraseIdx i).length ≤ l.length
  | [], _ => Nat.le_refl _
  | _ :: _, 0 => Nat.le_succ _
  | _ :: r, i + 1 => Nat.succ_le_succ (len_erase r i)
theorem foldl_rep (its : List Value) : ∀ (k : Nat) (acc : List Value),
    List.foldl (fun x1 x2 => x1 ++ x2) acc.toArray (List.replicate k its.toArray) = (acc ++ (List.replicate k its).flatten).toArray
  | 0, acc => by simp
  | k + 1, acc => by
    have e : acc.toArray ++ its.toArray = (acc ++ its).toArray := by simp
    have e2 : (acc ++ its) ++ (List.replicate k its).flatten = acc ++ (List.replicate (k + 1) its).flatten := by
      rw [List.replicate_succ, List.flatten_cons, List.append_assoc]
    rw [← e2, ← foldl_rep its k (acc ++ its), ← e, List.replicate_succ, List.foldl_cons]

section
variable {X : Cx} {pins : List (Addr × Obj)} {σ : St} {H : Hp} {s : Shared} {l b : Addr} {xs ys zs : List V}

/-! ### the two steps: a tracked list is rewritten, a new list is laid -/
theorem Inv.lset {its its' : List Value} {n : Nat} {f : Array Value → Array Value} {t' : Nat} (I : Inv X pins σ H s) (hH : H l = some (.lst xs))
    (e : s.heap.get? l = some { cls := .type "list", data := .seq its.toArray n }) (hf : f its.toArray = its'.toArray) (hv : Vals ys its') (hz : ys.length ≤ sizeLine) :
    Inv X pins σ (upd H l (.lst ys)) { s with heap := s.heap.update l (Obj.mapSeq f), toks := t' } := by
  have q := PySem.IsL.update e f
  rw [hf] at q
  refine I.write (x := l) (e := l) (by rw [hH]; exact trivial) (.inl rfl) (fun b' u hb hu => (Heap.get?_update_other s.heap (Obj.mapSeq f) (Ne.symm hb)).trans hu) ⟨_, q⟩ ?_
  exact ⟨hz, its', _, hv, q⟩
theorem Inv.lnew {its : List Value} {t' : Nat} (I : Inv X pins σ H s) (hv : Vals ys its) (hz : ys.length ≤ sizeLine) :
    Inv X pins σ (upd H s.heap.objs.size (.lst ys)) { s with heap := s.heap.push { cls := .type "list", data := .seq its.toArray }, toks := t' } :=
  I.laid (fun _ _ q => Heap.get?_push_of_some _ q) (Nat.le_refl _) ⟨hz, its, 0, hv, Heap.get?_push_size _ rfl⟩
theorem Inv.fresh (I : Inv X pins σ H s) : H s.heap.objs.size = none := I.hok.fresh (Nat.le_refl _)
theorem Inv.lstM (I : Inv X pins σ H s) (hH : H l = some (.lst xs)) : xs.length ≤ sizeLine ∧ ∃ (its : List Value) (n : Nat), Vals xs its ∧ xs.length = its.length ∧ s.heap.get? l = some { cls := .type "list", data := .seq its.toArray n } := by
  obtain ⟨z, its, n, r, e⟩ := I.hok l _ hH
  exact ⟨z, its, n, r, r.length, e⟩

theorem notLongL {n : Nat} (h : n ≤ sizeLine) : Builtin.List.listTooLong n = false := by
  unfold Builtin.List.listTooLong
  exact decide_eq_false (by omega)
end

section
variable {X : Cx}

/-! ### methods -/
def rAppend : V → List V → Hp → VK → Prop := fun x vs H Q => ∃ l xs y, x = .ref l ∧ vs = [y] ∧ H l = some (.lst xs) ∧ xs.length < sizeLine ∧ Q .non (upd H l (.lst (xs ++ [y])))
theorem mt_append : MtM X "list.append" rAppend := by
  intro pins s σ H x vs v us Q I rx rv h
  obtain ⟨l, xs, y, rfl, rfl, hH, hz, q⟩ := h
  cases rx
  obtain ⟨u, rfl, ru⟩ := rv.one
  obtain ⟨z, its, n, r, hl, e⟩ := I.lstM hH
  refine call_meets F.slot_list_append ⟨_, e, rfl⟩ F.entry_list_append (F.args_list_append_2 _ _) (PySem.list_append l its.toArray n u (by rw [List.size_toArray]; omega)) ⟨e, ?_⟩
  refine ⟨.non, _, I.lset (its' := its ++ [u]) hH e (by simp) (r.append (.cons ru .nil)) ?_, rfl, q⟩
  rw [List.length_append, List.length_singleton]
  omega

def rExtend : V → List V → Hp → VK → Prop := fun x vs H Q => ∃ l b xs zs, x = .ref l ∧ vs = [.ref b] ∧ H l = some (.lst xs) ∧ H b = some (.lst zs) ∧ xs.length + zs.length ≤ sizeLine ∧ Q .non (upd H l (.lst (xs ++ zs)))
theorem mt_extend : MtM X "list.extend" rExtend := by
  intro pins s σ H x vs v us Q I rx rv h
  obtain ⟨l, b, xs, zs, rfl, rfl, hH, hB, hz, q⟩ := h
  cases rx
  obtain ⟨u, rfl, ru⟩ := rv.one
  cases ru
  obtain ⟨z, its, n, r, hl, e⟩ := I.lstM hH
  obtain ⟨z2, its2, n2, r2, hl2, e2⟩ := I.lstM hB
  have hsz : its.toArray.size + its2.toArray.size ≤ sizeLine := by rw [List.size_toArray, List.size_toArray]; omega
  have hlong : ¬ (!its.toArray.isEmpty && Builtin.List.listTooLong (its.toArray.size + its2.toArray.size)) = true := by
    rw [notLongL hsz, Bool.and_false]
    exact Bool.false_ne_true
  refine call_meets F.slot_list_extend ⟨_, e, rfl⟩ F.entry_list_extend (F.args_list_extend_2 _ _)
    (AutoSeq1.list_extend_list_list_0 l its.toArray n b its2.toArray n2 hlong (by rw [List.size_toArray]; omega) (by omega)) ⟨e, e2, ?_⟩
  refine ⟨.non, _, I.lset (its' := its ++ its2) hH e (by simp) (r.append r2) ?_, rfl, q⟩
  rw [List.length_append]
  omega

def rPop : V → List V → Hp → VK → Prop := fun x vs H Q => ∃ l xs y, x = .ref l ∧ vs = [] ∧ H l = some (.lst xs) ∧ xs[xs.length - 1]? = some y ∧ Q y (upd H l (.lst xs.dropLast))
theorem mt_pop : MtM X "list.pop" rPop := by
  intro pins s σ H x vs v us Q I rx rv h
  obtain ⟨l, xs, y, rfl, rfl, hH, hy, q⟩ := h
  cases rx
  have hus := rv.zero
  subst hus
  obtain ⟨z, its, n, r, hl, e⟩ := I.lstM hH
  obtain ⟨u, hu, ru⟩ := r.get hy
  have hy' : its.toArray[its.toArray.size - 1]? = some u := by
    show its.toArray[its.length - 1]? = some u
    rw [← Array.getElem?_toList, ← hl]
    exact hu
  refine call_meets F.slot_list_pop ⟨_, e, rfl⟩ F.entry_list_pop (F.args_list_pop_1 _) (MeetsSeq.list_pop_last l its.toArray n u hy' (by rw [List.size_toArray]; omega)) ⟨e, ?_⟩
  refine ⟨y, _, I.lset (its' := its.dropLast) hH e ?_ r.dropLast ?_, ru, q⟩
  · show its.toArray.eraseIdxIfInBounds (its.toArray.size - 1) = its.dropLast.toArray
    rw [List.size_toArray, List.eraseIdxIfInBounds_toArray, erase_last]
  · rw [List.length_dropLast]
    omega

def rPopAt : V → List V → Hp → VK → Prop := fun x vs H Q => ∃ l xs i k y, x = .ref l ∧ vs = [.int i] ∧ H l = some (.lst xs) ∧ -(2 ^ 63) ≤ i ∧ i < 2 ^ 63 ∧ seqIndex? i xs.length = some k ∧ xs[k]? = some y ∧ Q y (upd H l (.lst (xs.eraseIdx k)))
theorem mt_popAt : MtM X "list.pop" rPopAt := by
  intro pins s σ H x vs v us Q I rx rv h
  obtain ⟨l, xs, i, k, y, rfl, rfl, hH, h1, h2, hk, hy, q⟩ := h
  cases rx
  obtain ⟨u, rfl, ru⟩ := rv.one
  obtain ⟨t, rfl⟩ := ru
  obtain ⟨z, its, n, r, hl, e⟩ := I.lstM hH
  obtain ⟨w, hw, rw'⟩ := r.get hy
  refine call_meets F.slot_list_pop ⟨_, e, rfl⟩ F.entry_list_pop (F.args_list_pop_2 _ _)
    (MeetsSeq.list_pop_at l its.toArray n i t k w (fitsIndex_both h1 h2) (by rw [List.size_toArray, ← hl]; exact hk) (by rw [← Array.getElem?_toList]; exact hw) (by rw [List.size_toArray]; omega)) ⟨e, ?_⟩
  refine ⟨y, _, I.lset (its' := its.eraseIdx k) hH e ?_ (r.eraseIdx k) ?_, rw', q⟩
  · show its.toArray.eraseIdxIfInBounds k = (its.eraseIdx k).toArray
    rw [List.eraseIdxIfInBounds_toArray]
  · have := len_erase xs k
    omega

def rReverse : V → List V → Hp → VK → Prop := fun x vs H Q => ∃ l xs, x = .ref l ∧ vs = [] ∧ H l = some (.lst xs) ∧ Q .non (upd H l (.lst xs.reverse))
theorem mt_reverse : MtM X "list.reverse" rReverse := by
  intro pins s σ H x vs v us Q I rx rv h
  obtain ⟨l, xs, rfl, rfl, hH, q⟩ := h
  cases rx
  have hus := rv.zero
  subst hus
  obtain ⟨z, its, n, r, hl, e⟩ := I.lstM hH
  refine call_meets F.slot_list_reverse ⟨_, e, rfl⟩ F.entry_list_reverse (F.args_list_reverse_1 _) (AutoSeq1.list_reverse_list_0 l its.toArray n (by rw [List.size_toArray]; omega)) ⟨e, ?_⟩
  refine ⟨.non, _, I.lset (its' := its.reverse) hH e (by simp) r.reverse ?_, rfl, q⟩
  rw [List.length_reverse]
  omega

def rClear : V → List V → Hp → VK → Prop := fun x vs H Q => ∃ l xs, x = .ref l ∧ vs = [] ∧ H l = some (.lst xs) ∧ Q .non (upd H l (.lst []))
theorem mt_clear : MtM X "list.clear" rClear := by
  intro pins s σ H x vs v us Q I rx rv h
  obtain ⟨l, xs, rfl, rfl, hH, q⟩ := h
  cases rx
  have hus := rv.zero
  subst hus
  obtain ⟨z, its, n, r, hl, e⟩ := I.lstM hH
  refine call_meets F.slot_list_clear ⟨_, e, rfl⟩ F.entry_list_clear (F.args_list_clear_1 _) (AutoSeq1.list_clear_list_0 l its.toArray n (by rw [List.size_toArray]; omega)) ⟨e, ?_⟩
  exact ⟨.non, _, I.lset (its' := []) (ys := []) hH e rfl .nil (Nat.zero_le _), rfl, q⟩

/-! ### list + list, list += list, list * int -/
def rCat : R2 := fun x y H Q => ∃ l b xs zs, x = .ref l ∧ y = .ref b ∧ H l = some (.lst xs) ∧ H b = some (.lst zs) ∧ xs.length + zs.length ≤ sizeLine ∧ ∀ p, H p = none → Q (.ref p) (upd H p (.lst (xs ++ zs)))
theorem op_cat : OpR X (binaryOp .Add) rCat := by
  intro pins s σ H x y v u Q I rx ry h
  obtain ⟨l, b, xs, zs, rfl, rfl, hH, hB, hz, q⟩ := h
  cases rx
  cases ry
  obtain ⟨z, its, n, r, hl, e⟩ := I.lstM hH
  obtain ⟨z2, its2, n2, r2, hl2, e2⟩ := I.lstM hB
  refine PySem.P.add_list e e2 ?_ (by rw [List.size_toArray, List.size_toArray]; omega)
  have ea : its.toArray ++ its2.toArray = (its ++ its2).toArray := by simp
  rw [ea]
  exact ⟨.ref _, _, I.lnew (t' := s.toks) (r.append r2) (by rw [List.length_append]; omega), rfl, q _ I.fresh⟩
/-- a list times an int (a negative one is nothing) -/
def rRep : R2 := fun x y H Q => ∃ l k xs, x = .ref l ∧ y = .int k ∧ H l = some (.lst xs) ∧ -(2 ^ 63) ≤ k ∧ k < 2 ^ 63 ∧ xs.length * k.toNat ≤ sizeLine ∧
  ∀ p, H p = none → Q (.ref p) (upd H p (.lst (List.replicate k.toNat xs).flatten))
theorem len_rep {α : Type} (xs : List α) (k : Nat) : (List.replicate k xs).flatten.length = k * xs.length := by
  induction k with
  | zero => simp
  | succ k ih => rw [List.replicate_succ, List.flatten_cons, List.length_append, ih, Nat.succ_mul, Nat.add_comm]
theorem op_rep : OpR X (binaryOp .Mult) rRep := by
  intro pins s σ H x y v u Q I rx ry h
  obtain ⟨l, k, xs, rfl, rfl, hH, h1, h2, hz, q⟩ := h
  cases rx
  obtain ⟨t, rfl⟩ := ry
  obtain ⟨z, its, n, r, hl, e⟩ := I.lstM hH
  have hlen : its.toArray.size * k.toNat ≤ sizeLine := by rw [List.size_toArray, ← hl]; exact hz
  have hcap : ¬ its.toArray.size * k.toNat > (2 ^ 63 - 1) / 8 := by
    have : (sizeLine : Nat) ≤ (2 ^ 63 - 1) / 8 := by decide
    omega
  have hfit : ¬ (!Builtin.List.listFitsIndex k) = true := by
    rw [fitsIndex_both h1 h2]
    exact Bool.false_ne_true
  have hlong : ¬ Builtin.List.listTooLong (its.toArray.size * k.toNat) = true := by
    rw [notLongL hlen]
    exact Bool.false_ne_true
  have hnew : List.foldl (fun x1 x2 => x1 ++ x2) #[] (List.replicate (if its.toArray.isEmpty = true then 0 else k.toNat) its.toArray) = (List.replicate k.toNat its).flatten.toArray := by
    have f0 : ∀ m : Nat, List.foldl (fun x1 x2 => x1 ++ x2) #[] (List.replicate m its.toArray) = (List.replicate m its).flatten.toArray := fun m => by
      have := foldl_rep its m []
      rw [List.nil_append] at this
      exact this
    rw [f0]
    cases its with
    | nil => simp
    | cons a r' => rw [if_neg (by simp)]
  refine wpAny_binaryOp_repeat_ref (T := "list") (U := "int") (by decide) ⟨_, e, rfl⟩ (fun s' => typeIs_int s' k t) noFill_list_mul F.fills_int_mul F.slot_int_rmul repeat_list F.slot_int_index.lookup
    (call_meets F.slot_int_rmul (typeIs_int s k t) F.entry_int_rmul (F.args_int_rmul_2 _ _) (int___rmul___int_list k t l its.toArray n)
      ⟨e, rfl, ⟨_, e, rfl⟩, call_meets F.slot_list_mul ⟨_, e, rfl⟩ F.entry_list_mul (F.args_list_mul_2 _ _) (AutoListH.list___mul___list_int_3 l its.toArray n k t hfit hcap hlong) ⟨e, ?_⟩⟩)
  rw [hnew]
  exact ⟨.ref _, _, I.lnew (t' := s.toks) (r.rep k.toNat) (by rw [len_rep, Nat.mul_comm]; exact hz), rfl, q _ I.fresh⟩

/-! ### del xs[i] -/
theorem del_list {pins : List (Addr × Obj)} {s : Shared} {σ : St} {H : Hp} {l : Addr} {xs : List V} {i : Int} {t : Tok} {k : Nat} {Q : Unit → Shared → Prop} (I : Inv X pins σ H s) (hH : H l = some (.lst xs))
    (h1 : -(2 ^ 63) ≤ i) (h2 : i < 2 ^ 63) (hk : seqIndex? i xs.length = some k) (h : ∀ s', Inv X pins σ (upd H l (.lst (xs.eraseIdx k))) s' → Q () s') :
    wpAny (model X.prog X.w) X.A (delItem (.ref l) (.int i t)) Q X.xe s := by
  obtain ⟨z, its, n, r, hl, e⟩ := I.lstM hH
  refine PySem.P.delItem_list (k := k) e (fitsIndex_both h1 h2) (by rw [List.size_toArray, ← hl]; exact hk) (h _ ?_) (by rw [List.size_toArray]; omega)
  refine I.lset (its' := its.eraseIdx k) (t' := s.toks) hH e ?_ (r.eraseIdx k) ?_
  · show its.toArray.eraseIdxIfInBounds k = (its.eraseIdx k).toArray
    rw [List.eraseIdxIfInBounds_toArray]
  · have := len_erase xs k
    omega
end

/-! ### xs[a:b] = ys -/
section
variable {prog : Program} {w : World} {A : Around} {E : Value → Shared → Prop} {s : Shared}
theorem splice_eq (its its2 : List Value) (a c : Nat) : its.toArray.extract 0 a ++ its2.toArray ++ its.toArray.extract c its.toArray.size = (its.take a ++ its2 ++ its.drop c).toArray := by
  apply Array.toList_inj.mp
  first
    | (simp
       exact List.take_of_length_le (by simp))
    | simp [List.take_of_length_le]
    | simp
theorem bounds_run {a c n : Nat} (hac : a ≤ c) (hc : c ≤ n) : sliceBounds (some (a : Int)) (some (c : Int)) none n = ((a : Int), (c : Int), 1) := by
  simp only [sliceBounds, Option.getD_none]
  have h1 : ¬ ((a : Int) < 0) := by omega
  have h2 : ¬ ((c : Int) < 0) := by omega
  simp only [h1, h2, if_false, show (1 : Int) > 0 by decide, if_true]
  congr 1
  · omega
  · congr 1; omega
set_option maxRecDepth 100000 in
/-- list.__setitem__ with a slice of step one and another list -/
theorem setItem_slice {l b sl : Addr} {items new : Array Value} {n n2 : Nat} {vl vu : Value} {a c : Nat} {Q : Unit → Shared → Prop}
    (e : s.heap.get? l = some { cls := .type "list", data := .seq items n }) (e2 : s.heap.get? b = some { cls := .type "list", data := .seq new n2 }) (hne : l ≠ b)
    (hs : s.heap.IsSliceOf sl vl vu .none) (pl : IsPart vl (some (a : Int))) (pu : IsPart vu (some (c : Int))) (hac : a ≤ c) (hc : c ≤ items.size)
    (hsz : items.size + new.size ≤ sizeLine) (h : Q () { s with heap := s.heap.update l (Obj.mapSeq fun xs => xs.extract 0 a ++ new ++ xs.extract c xs.size) }) :
    wpAny (model prog w) A (setItem (.ref l) (.ref sl) (.ref b)) Q E s := by
  have hl : s.heap.IsList l items := PySem.IsL.isList e
  have hb : s.heap.IsList b new := PySem.IsL.isList e2
  obtain ⟨os, hos, hcs, hds⟩ := id hs
  have hTs : s.TypeIs (.ref sl) "slice" := ⟨os, hos, hcs⟩
  have hstep : ¬ ((rawPart none == rawInt 0) = true) := Bool.false_ne_true
  have hsame : Builtin.List.listSameRef (.ref l) (.ref b) = false := by
    unfold Builtin.List.listSameRef
    exact beq_eq_false_iff_ne.mpr hne
  have hmax : (max (a : Int) (c : Int)).toNat = c := by omega
  have hz' : ((fun xs : Array Value => xs.extract 0 a ++ new ++ xs.extract c xs.size) items).size ≤ sizeLine + 1 := by
    simp only [Array.size_append, Array.size_extract]
    omega
  unfold setItem
  try with_reducible refine wpAny_holding ?_
  first | refine wpAny_bind (wpAny_pure ?_) | skip
  refine wpAny_bind (wpAny_sequenceKey hl.typeIs (by decide) ?_)
  refine wpAny_bind (wpAny_callSpecial?_slot (name := Str.ofString "__setitem__") hl.typeIs slot_list_setitem
    (wpAny_call_entry slot_list_setitem hl.typeIs entry_list_setitem ?_ (args_list_setitem _ _ _)))
  show wpAny _ _ (Builtin.List.listSubscript? (.ref sl) >>= _) _ _ s
  refine wpAny_bind ?_
  unfold Builtin.List.listSubscript?
  refine wpAny_bind (wpAny_specialOf hTs slice_no_index ?_)
  simp only [Option.isNone_none, if_true]
  refine wpAny_pure ?_
  show wpAny _ _ (typeOf (.ref sl) >>= _) _ _ s
  refine wpAny_bind (wpAny_typeOf hTs ?_)
  first
    | rw [if_neg (by decide)]
    | refine PySem.W.KFB.if_not (by decide) ?_
  rw [listSliceParts_eq]
  refine wpAny_bind (wpAny_bind (wpAny_field hos hds (x := .none) rfl (wpAny_bind (wpAny_listPart .none ?_))))
  rw [if_neg hstep]
  refine wpAny_bind (wpAny_field hos hds (x := vl) rfl (wpAny_bind (wpAny_listPart pl ?_)))
  refine wpAny_bind (wpAny_field hos hds (x := vu) rfl (wpAny_bind (wpAny_listPart pu (wpAny_pure ?_))))
  first
    | simp only [hsame, Bool.false_eq_true, if_false]
    | refine PySem.W.KFB.if_not hsame ?_
    | (dsimp only
       rw [if_neg (by rw [hsame]; exact Bool.false_ne_true)])
  refine wpAny_bind (m := Builtin.List.listAllItems (.ref b) "must assign iterable to extended slice") ?_
  unfold Builtin.List.listAllItems
  refine wpAny_bind (wpAny_typeOf hb.typeIs ?_)
  first
    | refine PySem.W.KFB.if_so (by decide) ?_
    | rw [if_pos (by decide)]
    | simp only [beq_self_eq_true, Bool.true_or, if_true]
  unfold Builtin.List.listItems
  refine wpAny_bind (wpAny_seqItems e2 rfl (wpAny_pure ?_))
  refine wpAny_bind (wpAny_bind (wpAny_seqItems e rfl (wpAny_pure ?_)))
  refine wpAny_bind (wpAny_of_eq ((sliceIndices_raw (some (a : Int)) (some (c : Int)) none items.size (by simp)).trans (congrArg (pure : Int × Int × Int → Sem (Int × Int × Int)) (bounds_run hac hc))) ?_)
  show wpAny _ _ (if ((1 : Int) == 1) = true then _ else _) _ _ s
  rw [if_pos (by decide)]
  refine wpAny_bind (wpAny_rule ?_)
  first
    | simp only [notLongL hsz, Bool.false_eq_true, if_false]
    | refine PySem.W.KFB.if_not (notLongL hsz) ?_
  first | refine wpAny_bind (wpAny_pure ?_) | skip
  show wpAny _ _ (updateSeq l (fun xs => xs.extract 0 ((a : Int)).toNat ++ new ++ xs.extract (max (a : Int) (c : Int)).toNat xs.size) >>= _) _ _ s
  rw [hmax, Int.toNat_natCast]
  refine wpAny_bind (wpAny_updateSeq (hz := Nat.le_trans (Nat.le_add_right _ _) hsz) (_hz' := hz') e rfl ?_)
  refine wpAny_bind (wpAny_letGo ?_)
  first
    | exact wpAny_bind (wpAny_pure (wpAny_pure ⟨.none, rfl, wpAny_pure h⟩))
    | exact wpAny_pure ⟨.none, rfl, wpAny_pure h⟩
end

section
variable {X : Cx}
/-- xs[a:c] = ys of another list, at the value level: sl is the slice object that was just made -/
theorem set_slice {pins : List (Addr × Obj)} {s : Shared} {σ : St} {H : Hp} {l b sl : Addr} {xs ys : List V} {a c : Int} {vl vu : Value} {Q : Unit → Shared → Prop} (I : Inv X pins σ H s)
    (hH : H l = some (.lst xs)) (hB : H b = some (.lst ys)) (hne : l ≠ b) (hs : s.heap.IsSliceOf sl vl vu .none) (ra : RelV (.int a) vl) (rc : RelV (.int c) vu) (h0 : 0 ≤ a) (hac : a ≤ c) (hc : c ≤ xs.length)
    (hz : xs.length + ys.length ≤ sizeLine) (h : ∀ s', Inv X pins σ (upd H l (.lst (xs.take a.toNat ++ ys ++ xs.drop c.toNat))) s' → Q () s') :
    wpAny (model X.prog X.w) X.A (setItem (.ref l) (.ref sl) (.ref b)) Q X.xe s := by
  obtain ⟨ta, rfl⟩ := ra
  obtain ⟨tc, rfl⟩ := rc
  obtain ⟨z, its, n, r, hl, e⟩ := I.lstM hH
  obtain ⟨z2, its2, n2, r2, hl2, e2⟩ := I.lstM hB
  obtain ⟨a', rfl⟩ := Int.eq_ofNat_of_zero_le h0
  obtain ⟨c', rfl⟩ := Int.eq_ofNat_of_zero_le (Int.le_trans h0 hac)
  simp only [Int.toNat_natCast] at h
  refine setItem_slice (a := a') (c := c') e e2 hne hs (.int _ _) (.int _ _) (by omega) (by rw [List.size_toArray]; omega) (by rw [List.size_toArray, List.size_toArray]; omega) (h _ ?_)
  refine I.lset (its' := its.take a' ++ its2 ++ its.drop c') (t' := s.toks) hH e ?_ (Vals.append (Vals.append (r.take _) r2) (r.drop _)) ?_
  · exact splice_eq its its2 a' c'
  · rw [List.length_append, List.length_append, List.length_take, List.length_drop]
    omega
end
end L2

namespace Att
open PySem PySem.W PySem.Calls PyProof.Rows

/-! ### the script -/
theorem ints_of_wellAll {P : Params} {h : Heap} : ∀ (ns : List Int) (vs : List Value), WellAll P h vs (ns.map WData.int) → IntsAre vs ns := by
  intro ns
  induction ns with
  | nil =>
    intro vs w
    rw [List.map_nil] at w
    cases w
    exact .nil
  | cons n ns ih =>
    intro vs w
    rw [List.map_cons] at w
    cases w with
    | cons a b =>
      cases a
      exact .cons _ _ (ih _ b)

theorem script_of {l : OpenLaw} {n : Nat} (hn : l.most = some n) {P : Params} {h : Heap} {args : List WData} {vals : List Value}
    (hpre : l.row.toRowW.claim.pre args = true) (hwl : WellAll P h vals args) :
    ∃ a vs ns, vals = [Value.ref a] ∧ args = [WData.list (ns.map WData.int)] ∧ h.get? a = some { cls := .type "list", data := .seq vs.toArray } ∧ IntsAre vs ns ∧ ns.length ≤ n := by
  have hsh : WShape.hasAll [] args [.list .int] = true := (pre_splitW hpre).1
  have hc : l.pre.holds [] { args := args } = true := (pre_splitW hpre).2
  obtain ⟨d, r, rfl, h1, h2⟩ := hasAllW_cons hsh
  obtain rfl := hasAllW_nil h2
  obtain ⟨xs, rfl, h3⟩ := hasW_list h1
  obtain ⟨ns, rfl⟩ := items_int h3
  have hlen : ns.length ≤ n := by
    unfold OpenLaw.pre at hc
    have h4 : (WTm.not (.lt (.lit (.int (n : Int))) (.len (.arg 0)))).holds [] { args := [.list (ns.map .int)] } = true := by
      have h4 := (holds_andW hc).1
      rw [hn] at h4
      exact h4
    have h5 := condW_of h4 (w_not (w_lt w_lit (w_len_list (w_arg rfl))))
    rw [List.length_map] at h5
    refine Nat.le_of_not_lt fun q => ?_
    have q' : (n : Int) < ((ns.length : Nat) : Int) := by omega
    first
      | (rw [decide_eq_true q'] at h5; exact absurd h5 (by decide))
      | (simp at h5; omega)
  cases hwl with
  | cons w1 w2 =>
    cases w2
    cases w1 with
    | list ho hall => exact ⟨_, _, ns, rfl, rfl, ho, ints_of_wellAll ns _ hall, hlen⟩

theorem post_true (l : OpenLaw) (args : List WData) : l.row.toRowW.claim.post args (.bool true) args = true :=
  postW_of (r := l.row.toRowW) (X := (true == true))
    (show WShape.has [] (.bool true) .bool = true by first | rfl | decide | simp [WShape.has, WShape.arms, WShape.armsAll])
    (show (WTm.eq .res (.lit (.bool true))).value [] { args := args, res := some (.bool true), after := args } = some (.bool (true == true)) from w_eq_bool (w_res rfl) w_lit) rfl

/-! ### the attachment: holds_open's last premise (the goal 'hc' behind k_head) from a wpAny of the law's body -/
theorem attach {l : OpenLaw} {n : Nat} {q : Program} {loose : List Str} {XP : (Str → Option Value) → Heap → Prop} {YP : World → Heap → Prop} {d : DefRec} {x : Str}
    (hn : l.most = some n) (hdf : d.params.defaults = [])
    (hbind : ∀ pm cd doc v : Value, bindArgs (docDef d.name d.params d.body d.scope pm cd doc) ⟨[v], []⟩ = pure [(x, v)])
    (hx : d.scope.names.lookup x = some .local ∨ d.scope.names.lookup x = some .cell)
    (hk : d.scope.kind = .function) (hco : d.scope.isCoroutine = false) (hgen : d.scope.isGenerator = false)
    (body : ∀ (w : World) (s₀ s₁ s : Shared) (mg mb : Str → Option Value) (fa : Addr) (o : Obj) (pm cd doc : Value) (a : Addr) (vs : List Value) (ns : List Int),
      Ground q loose [] XP w s₀ mg mb s₁.heap → YP w s₁.heap →
      s₁.heap.get? fa = some o → o.data = .func (docDef d.name d.params d.body d.scope pm cd doc) → s₁.heap.CodeRec cd d.name → mg d.name = some (.ref fa) →
      s₁.heap.get? a = some { cls := .type "list", data := .seq vs.toArray } → IntsAre vs ns → ns.length ≤ n →
      s.gens = #[] → s.os = s₁.os →
      Fr s₁.heap s₁.heap.objs.size s.heap (bindL (envOfC d.name d.scope s₁.heap.objs.size fa cd).kindOf [(x, .ref a)] fun _ => none) →
      Cl s₁.heap.objs.size (cellsFrom (s₁.heap.objs.size + 1) d.scope.names []) s.heap (bindC (envOfC d.name d.scope s₁.heap.objs.size fa cd).kindOf [(x, .ref a)] fun _ => none) →
      wpAny (model l.prog w) (callerA.deeper (envOfC d.name d.scope s₁.heap.objs.size fa cd)) (execs d.body (envOfC d.name d.scope s₁.heap.objs.size fa cd))
        (fun f s' => f = .ret (.bool true) ∧ OldK s₁.heap s'.heap ∧ s'.os = s₁.os ∧ AllBare s'.gens) (fun _ _ => False) s) :
    WalkO q loose XP YP l.row.toRowW d [] (fun f vs => PySem.call f vs) := by
  intro w s₀ s₁ mg mb G Y fa o pm cd doc dV kV ho hd hcd hD hmg hg args vals as hpre hlay hrd hwl hlo
  obtain rfl : dV = .none := Dflts.none hD hdf
  obtain rfl : kV = .none := Dflts.noKw hD
  obtain ⟨a, vs, ns, rfl, rfl, hobj, hints, hlen⟩ := script_of hn hpre hwl
  refine enter_call ?_
  refine call_cells_ret (o := o) (by rw [depth_caller]; decide) ho (fd_plain hd) G.T.nolimit hcd (hbind pm cd doc (.ref a)) (fun y hy => ?_) (fun h₁ tk F X => ?_) hco hgen hk
  · obtain rfl : y = (x, Value.ref a) := List.mem_singleton.mp hy
    rcases hx with e | e
    · exact .inl e
    · exact .inr ⟨e, cellsFrom_some _ _ _ (.inl e)⟩
  · refine wpAny_mono (body w s₀ s₁ { s₁ with heap := h₁, toks := tk } mg mb fa o pm cd doc a vs ns G Y ho (fd_plain hd) hcd hmg hobj hints hlen hg rfl F X) (fun f s' hq => ?_) (fun _ _ hq => hq)
    obtain ⟨rfl, h2, h3, h4⟩ := hq
    exact ⟨.inl ⟨.bool true, .bool true, [], rfl, fun _ => rfl, .bool true, post_true l _, fun _ => ⟨List.Pairwise.nil, fun _ hm => (nomatch hm)⟩⟩, h2, h3, h4⟩

/-- the same from a codeAny of the CALL (for a layer whose function contracts speak of calls) -/
theorem attach_call {l : OpenLaw} {n : Nat} {q : Program} {loose : List Str} {XP : (Str → Option Value) → Heap → Prop} {YP : World → Heap → Prop} {d : DefRec}
    (hn : l.most = some n) (hdf : d.params.defaults = [])
    (call : ∀ (w : World) (s₀ s₁ : Shared) (mg mb : Str → Option Value) (fa : Addr) (o : Obj) (pm cd doc : Value) (a : Addr) (vs : List Value) (ns : List Int),
      Ground q loose [] XP w s₀ mg mb s₁.heap → YP w s₁.heap →
      s₁.heap.get? fa = some o → o.data = .func (docDef d.name d.params d.body d.scope pm cd doc) → s₁.heap.CodeRec cd d.name → mg d.name = some (.ref fa) →
      s₁.heap.get? a = some { cls := .type "list", data := .seq vs.toArray } → IntsAre vs ns → ns.length ≤ n → s₁.gens = #[] →
      codeAny (model l.prog w) callerA (.call (.ref fa) ⟨[.ref a], []⟩) (fun r s' => r = .ok (.ret (.bool true)) ∧ OldK s₁.heap s'.heap ∧ s'.os = s₁.os ∧ AllBare s'.gens) s₁) :
    WalkO q loose XP YP l.row.toRowW d [] (fun f vs => PySem.call f vs) := by
  intro w s₀ s₁ mg mb G Y fa o pm cd doc dV kV ho hd hcd hD hmg hg args vals as hpre hlay hrd hwl hlo
  obtain rfl : dV = .none := Dflts.none hD hdf
  obtain rfl : kV = .none := Dflts.noKw hD
  obtain ⟨a, vs, ns, rfl, rfl, hobj, hints, hlen⟩ := script_of hn hpre hwl
  refine enter_call (codeAny_mono (call w s₀ s₁ mg mb fa o pm cd doc a vs ns G Y ho (fd_plain hd) hcd hmg hobj hints hlen hg) fun r s' hq => ?_)
  obtain ⟨rfl, h2, h3, h4⟩ := hq
  exact ⟨.inl ⟨.bool true, .bool true, [], rfl, fun _ => rfl, .bool true, post_true l _, fun _ => ⟨List.Pairwise.nil, fun _ hm => (nomatch hm)⟩⟩, h2, h3, h4⟩

/-- the same where the top left finished generators (o_head chose holds_openN): nothing may have changed at all and no generator may be left -/
theorem attachN {l : OpenLaw} {n : Nat} {q : Program} {loose : List Str} {XP : (Str → Option Value) → Heap → Prop} {YP : World → Heap → Prop} {d : DefRec} {x : Str}
    (hn : l.most = some n) (hdf : d.params.defaults = [])
    (hbind : ∀ pm cd doc v : Value, bindArgs (docDef d.name d.params d.body d.scope pm cd doc) ⟨[v], []⟩ = pure [(x, v)])
    (hx : d.scope.names.lookup x = some .local ∨ d.scope.names.lookup x = some .cell)
    (hk : d.scope.kind = .function) (hco : d.scope.isCoroutine = false) (hgen : d.scope.isGenerator = false)
    (body : ∀ (w : World) (s₀ s₁ s : Shared) (mg mb : Str → Option Value) (fa : Addr) (o : Obj) (pm cd doc : Value) (a : Addr) (vs : List Value) (ns : List Int),
      Ground q loose [] XP w s₀ mg mb s₁.heap → YP w s₁.heap →
      s₁.heap.get? fa = some o → o.data = .func (docDef d.name d.params d.body d.scope pm cd doc) → s₁.heap.CodeRec cd d.name → mg d.name = some (.ref fa) →
      s₁.heap.get? a = some { cls := .type "list", data := .seq vs.toArray } → IntsAre vs ns → ns.length ≤ n →
      s.gens = #[] → s.os = s₁.os →
      Fr s₁.heap s₁.heap.objs.size s.heap (bindL (envOfC d.name d.scope s₁.heap.objs.size fa cd).kindOf [(x, .ref a)] fun _ => none) →
      Cl s₁.heap.objs.size (cellsFrom (s₁.heap.objs.size + 1) d.scope.names []) s.heap (bindC (envOfC d.name d.scope s₁.heap.objs.size fa cd).kindOf [(x, .ref a)] fun _ => none) →
      wpAny (model l.prog w) (callerA.deeper (envOfC d.name d.scope s₁.heap.objs.size fa cd)) (execs d.body (envOfC d.name d.scope s₁.heap.objs.size fa cd))
        (fun f s' => f = .ret (.bool true) ∧ (∀ b o, s₁.heap.get? b = some o → s'.heap.get? b = some o) ∧ s'.os = s₁.os ∧ s'.gens = #[]) (fun _ _ => False) s) :
    WalkN q loose XP YP l.row.toRowW d [] (fun f vs => PySem.call f vs) := by
  intro w s₀ s₁ mg mb G Y fa o pm cd doc dV kV ho hd hcd hD hmg hg args vals as hpre hlay hrd hwl hlo
  obtain rfl : dV = .none := Dflts.none hD hdf
  obtain rfl : kV = .none := Dflts.noKw hD
  obtain ⟨a, vs, ns, rfl, rfl, hobj, hints, hlen⟩ := script_of hn hpre hwl
  refine enter_callW ?_
  refine call_cells_ret (o := o) (by rw [depth_caller]; decide) ho (fd_plain hd) G.T.nolimit hcd (hbind pm cd doc (.ref a)) (fun y hy => ?_) (fun h₁ tk F X => ?_) hco hgen hk
  · obtain rfl : y = (x, Value.ref a) := List.mem_singleton.mp hy
    rcases hx with e | e
    · exact .inl e
    · exact .inr ⟨e, cellsFrom_some _ _ _ (.inl e)⟩
  · refine wpAny_mono (body w s₀ s₁ { s₁ with heap := h₁, toks := tk } mg mb fa o pm cd doc a vs ns G Y ho (fd_plain hd) hcd hmg hobj hints hlen hg rfl F X) (fun f s' hq => ?_) (fun _ _ hq => hq)
    obtain ⟨rfl, h2, h3, h4⟩ := hq
    exact ⟨.inl ⟨.bool true, .bool true, [], rfl, fun _ => rfl, .bool true, post_true l _, fun _ => ⟨List.Pairwise.nil, fun _ hm => (nomatch hm)⟩⟩, h2, h3, h4⟩

/-! ### rules over ANY heap (no ledger) from facts about the written part K: the library's own take a ledger (News) for what they write -/
section
variable {prog : Program} {w : World} {A : Around} {E : Value → Shared → Prop} {s : Shared} {K : Frag}

/-- a def of the module, or a method (qual 'C.m'), entered: the frame is the next address; cells behind it -/
theorem call_fn {R : Result → Shared → Prop} {name qual : Str} {params : Arguments} {body : List Stmt} {scope : Scope} {dV kV doc pm cdv ct oc : Value} {an od : Option Addr} {osl : Array (Option Value)} {f : Addr} {args : Args} {binds : List (Str × Value)}
    (X : K.In s.heap) (hlim : s.heap.NoLimit) (ho : K.lookup f = some ⟨oc, od, .func (fnOf name qual params body scope dV kV doc pm an cdv ct), osl⟩) (hcd : codeIn K cdv qual = true) (hroom : A.depth < recursionLimit)
    (hbind : BindsTo s (fnOf name qual params body scope dV kV doc pm an cdv ct) args binds)
    (hkind : (binds.all fun y => scope.names.lookup y.1 == some .local || scope.names.lookup y.1 == some .cell) = true)
    (h : ∀ s₁, InCallC s s.heap.objs.size (bindL (envOfC qual scope s.heap.objs.size f cdv).kindOf binds fun _ => none) (cellsFrom (s.heap.objs.size + 1) scope.names [])
        (bindC (envOfC qual scope s.heap.objs.size f cdv).kindOf binds fun _ => none) s₁ →
      wpAny (model prog w) (A.deeper (envOfC qual scope s.heap.objs.size f cdv)) (execs body (envOfC qual scope s.heap.objs.size f cdv))
        (fun fl s' => R (.ok (.ret (match fl with | .ret v => v | _ => .none))) s')
        (fun e s' => wpAny (model prog w) (A.deeper (envOfC qual scope s.heap.objs.size f cdv)) (leaving (envOfC qual scope s.heap.objs.size f cdv) e) (fun _ s'' => R (.error e) s'') (fun e' s'' => R (.error e') s'') s') s₁)
    (hco : scope.isCoroutine = false) (hgen : scope.isGenerator = false) (hk : scope.kind = .function) : codeAny (model prog w) A (.call (.ref f) args) R s := by
  refine codeAny_call_function hroom (X _ _ ho) rfl hco hgen rfl (codeRec_of X hcd) (hbind _ _ _ _ ?_)
  refine wpAny_newFunctionEnv_cells hk (kindsX hkind _) fun env he s₁ x => ?_
  subst he
  exact ⟨hlim.keeps x.toInCall.keep, codeAny_func (h s₁ x)⟩

/-- C(..): dict at size, instance at size + 1, then __init__ -/
theorem make_obj {R : Result → Shared → Prop} {C fI : Addr} {rest : List Value} {kw : List (Str × Value)}
    (X : K.In s.heap) (hm : makesIn K C = true) (hi : findIn K (.ref C) "__init__" = some (some (.ref fI))) (hf : isFn K (.ref fI) = true)
    (h : codeAny (model prog w) (A.under (.builtin "type.__call__" ⟨.ref C :: rest, kw⟩)) (.call (.ref fI) ⟨.ref (s.heap.objs.size + 1) :: rest, kw⟩) (InitBack (s.heap.objs.size + 1) R)
      { s with heap := (s.heap.push emptyDict).push (instObj C s.heap.objs.size) }) : codeAny (model prog w) A (.call (.ref C) ⟨rest, kw⟩) R s := by
  obtain ⟨hh, g, d, t, os⟩ := s
  exact make_core (makes_of X hm) (looks_findIn X hi) (fun self => bind_fn X self (beq_iff_eq.mp hf)) (.inl rfl) h

/-- x.name where the instance's dict holds the name and the class does not -/
theorem get_field {x C : Addr} {ox : Obj} {es : List DictEntry} {n : Nat} {name : Str} {expr : Bool} {v : Value} {Q : Value → Shared → Prop}
    (X : K.In s.heap) (I : PySem.W.InstAt s.heap x ox C (some (dictOf es n))) (hg : plainGet K C name = true) (hh : hasDictIn K C = true) (ha : findIn K (.ref C) name = some none)
    (hl : getL name es = some (some v)) (hv : handedIn v = true) (h : Q v { s with toks := s.toks + 1 }) : wpAny (model prog w) A (getAttr (.ref x) name expr) Q E s :=
  get_value X I (plainGet_of hg).1 (findObj_own hh ha rfl hl) hv h

/-- x.m(..): the method found in the class -/
theorem get_method {x C f : Addr} {ox : Obj} {es : List DictEntry} {n : Nat} {name : Str} {pl : Sem Bool} {Q : Value × List Value → Shared → Prop}
    (X : K.In s.heap) (I : PySem.W.InstAt s.heap x ox C (some (dictOf es n))) (hg : plainGet K C name = true) (hf : findIn K (.ref C) name = some (some (.ref f))) (ht : isFn K (.ref f) = true)
    (hl : getL name es = some none) (h : Q (.ref f, [.ref x]) s) : wpAny (model prog w) A (getMethod (.ref x) name pl) Q E s :=
  method_fn X I (plainGet_of hg).1 (plainGet_of hg).2 hf (beq_iff_eq.mp ht) (by show (lookIn name (dictOf es n)).map _ = _; rw [lookIn_dict, hl]; rfl) h

/-! the whole heap as the ledger: makes every rule that writes through a ledger a rule over any heap -/
def noObjs (h : Heap) : Heap := { h with objs := #[] }
theorem noObjs_get (h : Heap) (b : Addr) : (noObjs h).get? b = none := by
  cases e : (noObjs h).get? b with
  | none => rfl
  | some o => exact absurd (Heap.lt_size e) (Nat.not_lt_zero _)
def ledger (h : Heap) (L d : Addr) : List (Addr × Obj) := (List.range h.objs.size).filterMap fun a => if a = L ∨ a = d then none else (h.get? a).map fun o => (a, o)
theorem mem_ledger {h : Heap} {L d a : Addr} {o : Obj} : (a, o) ∈ ledger h L d ↔ a ≠ L ∧ a ≠ d ∧ h.get? a = some o := by
  unfold ledger
  rw [List.mem_filterMap]
  constructor
  · rintro ⟨b, _, e⟩
    split at e
    · cases e
    · rename_i hb
      obtain ⟨o', ho, e'⟩ := Option.map_eq_some_iff.mp e
      cases e'
      exact ⟨fun q => hb (.inl q), fun q => hb (.inr q), ho⟩
  · rintro ⟨n1, n2, ho⟩
    refine ⟨a, List.mem_range.mpr (Heap.lt_size ho), ?_⟩
    rw [if_neg (show ¬ (a = L ∨ a = d) from fun q => q.elim n1 n2), ho] <;> rfl
theorem news_ledger {h : Heap} {L d : Addr} {od : Obj} (hne : d ≠ L) (ho : h.get? d = some od) : News (noObjs h) L h ([] ++ (d, od) :: ledger h L d) := by
  rintro ⟨a, o⟩ hp
  rcases List.mem_cons.mp hp with e | hp
  · cases e
    exact ⟨ho, hne, noObjs_get _ _⟩
  · obtain ⟨n1, n2, e⟩ := mem_ledger.mp hp
    exact ⟨e, n1, noObjs_get _ _⟩
theorem fr_all {h : Heap} {L : Addr} {m : Str → Option Value} (n : h.Ns L m) : Fr (noObjs h) L h m :=
  ⟨n, fun b o e => (by rw [noObjs_get] at e; cases e), Nat.zero_le _⟩
/-- Upd of the head entry (for append_K, setItem_K ..) -/
theorem upd_ledger {h : Heap} {L d : Addr} {o o' : Obj} : Upd d o o' ((d, o) :: ledger h L d) ((d, o') :: ledger h L d) :=
  .head fun ⟨_, _⟩ hp => (mem_ledger.mp hp).2.1

/-- x.name = v over any heap: L is any namespace of the heap (the frame's, say): its map stays, its object is not told; all else but the dict stays -/
theorem set_field {x C dx L : Addr} {ox : Obj} {m : Str → Option Value} {es es' : List DictEntry} {n n' : Nat} {name : Str} {v : Value} {Q : Unit → Shared → Prop}
    (X : K.In s.heap) (I : PySem.W.InstAt s.heap x ox C (some (dictOf es n))) (hd : ox.dict = some dx) (hL : s.heap.Ns L m) (hne : dx ≠ L)
    (hs : findIn K (.ref C) "__setattr__" = some (some (.builtin "object.__setattr__"))) (hp : plainOver K C = true) (ht : takerIn K C name = some none) (hh : hasDictIn K C = true) (hl : (getL name es).isSome = true)
    (e : (putL name (PyData.keyHash w.params name) (.str name (s.toks + 1)) v es, putN name es n) = (es', n')) (hz : es'.length ≤ 1000)
    (h : ∀ h' : Heap, h'.Ns L m → h'.get? dx = some (dictOf es' n') → (∀ b o, b ≠ dx → b ≠ L → s.heap.get? b = some o → h'.get? b = some o) → Q () { s with heap := h', toks := s.toks + 2 }) :
    wpAny (model prog w) A (setAttr (.ref x) name v) Q E s := by
  obtain ⟨e1, e2⟩ := Prod.mk.inj e
  have hdx : s.heap.get? dx = some (dictOf es n) := by
    have := I.dict
    rw [hd] at this
    exact this
  refine set_plain X I hs (osa_dict (s := { s with toks := s.toks + 1 }) (h₀ := noObjs s.heap) (L := L) (m := m) (od := dictOf es n) (od' := dictOf es' n') (es := es') (n := n') (pre := []) (post := ledger s.heap L dx)
    (fr_all hL) (news_ledger hne hdx) X I hd hp ht hh hl (fun _ q => nomatch q) (fun ⟨_, _⟩ q => (mem_ledger.mp q).2.1) (by rw [putName_dict, e1, e2]) rfl hz fun h' F' N' => ?_)
  exact h h' F'.ns (N'.get (List.Mem.head _)) fun b o n1 n2 ho => N'.get (List.Mem.tail _ (mem_ledger.mpr ⟨n2, n1, ho⟩))
end
end Att

namespace L2
open PySem PySem.Spec PyProof.Rows

theorem vals_ints : ∀ {vs : List Value} {ns : List Int}, IntsAre vs ns → Vals (ns.map V.int) vs
  | _, _, .nil => .nil
  | _, _, .cons n t h => .cons ⟨t, rfl⟩ (vals_ints h)

/-- nothing is tracked but the script, known to the object (or it is an object of the module) -/
def Only (H : Hp) : Prop := ∀ b, H b = none ∨ ∃ o xs, H b = some (.frz o (.lst xs))

/-- THE HEAD: the law's promise, at the heap behind the top. F, the promise of the law's def, may use that base is part of the heap (so K.In base, base.Ns mainGlobals mg stand in Mod) -/
theorem law_call {P : Program} {w : World} {K : PySem.W.Frag} {mg mb : Str → Option Value} {CX : CXT} {k : Nat} {fa a : Addr} {fd : FuncData} {x : Str} {sp : Sp} {s₁ : Shared} {vs : List Value} {ns : List Int}
    (KX : K.In s₁.heap) (hns : s₁.heap.Ns mainGlobals mg) (hb : s₁.heap.Ns builtinsNs mb) (hbb : ∀ x : Str, x ≠ "__name__" → mb x = bootBuiltins x) (hlim : s₁.heap.NoLimit) (hg : s₁.gens = #[])
    (ha : s₁.heap.get? a = some { cls := .type "list", data := .seq vs.toArray }) (hi : IntsAre vs ns) (hl : ns.length ≤ sizeLine) (hr : Room k callerA)
    (F : ∀ base : Heap, K.In base → base.Ns mainGlobals mg → FnOk P w K mg base CX k fa fd [x] sp) (hbind : ∀ (s : Shared) (u : Value), BindsTo s fd ⟨[u], []⟩ [(x, u)])
    (hsp : ∀ H : Hp, Only H → SqL K H a (ns.map V.int) → sp [.ref a] H (fun v _ => v = .bl true) fun _ _ _ => False)
    (hCX : ∀ H e s', CX [] H s₁ (fun _ _ _ => False) e s' → False) :
    codeAny (model P w) callerA (.call (.ref fa) ⟨[.ref a], []⟩) (fun r s' => r = .ok (.ret (.bool true)) ∧ OldK s₁.heap s'.heap ∧ s'.os = s₁.os ∧ AllBare s'.gens) s₁ := by
  have rv := vals_ints hi
  have lenV := hi.length
  -- from an abstract heap in which nothing but the script may be tracked
  have core : ∀ H : Hp, Only H → SqL K H a (ns.map V.int) → HOk P w H s₁.heap → (∀ b, H b ≠ none → b = a) → (H a ≠ none → K.lookup a = none) →
      codeAny (model P w) callerA (.call (.ref fa) ⟨[.ref a], []⟩) (fun r s' => r = .ok (.ret (.bool true)) ∧ OldK s₁.heap s'.heap ∧ s'.os = s₁.os ∧ AllBare s'.gens) s₁ := by
    intro H hO hS hok hA hK
    have base_of : ∀ {b : Addr} {o : Obj}, s₁.heap.get? b = some o → H b = none → (hidT s₁.heap H).get? b = some o := fun e n => hidT_get e n
    have noA : ∀ {b : Addr} {o : Obj} {es : Array DictEntry} {ep : Nat}, s₁.heap.get? b = some o → o.data = .dict es ep → H b = none := fun {b o es ep} e d => by
      cases q : H b with
      | none => rfl
      | some u =>
        have e' : b = a := hA b (by rw [q]; simp)
        subst e'
        rw [ha] at e; cases e
        have d' : Data.seq vs.toArray _ = Data.dict es ep := d
        cases d'
    have nsK : ∀ {b : Addr} {m : Str → Option Value}, s₁.heap.Ns b m → (hidT s₁.heap H).Ns b m := fun {b m} ⟨o, es, ep, e, d, r⟩ => ⟨o, es, ep, base_of e (noA e d), d, r⟩
    have hKb : K.In (hidT s₁.heap H) := fun b o e => base_of (KX b o e) (by
      cases q : H b with
      | none => rfl
      | some u =>
        have e' : b = a := hA b (by rw [q]; simp)
        subst e'
        rw [hK (by rw [q]; simp)] at e; cases e)
    have hM : Mod K mg (hidT s₁.heap H) := ⟨hKb, nsK hns, ⟨mb, nsK hb, hbb⟩, let ⟨mc, h1, h2⟩ := hlim; ⟨mc, nsK h1, h2⟩⟩
    have e0 : Env0 P w K mg (hidT s₁.heap H) callerA [] s₁ H := ⟨rfl, hM, fun b o e => of_hidT e, Nat.le_of_eq (hidT_size _ _), trivial, fun b hb => absurd (show b ∈ ([] : List Addr) from hb) (by simp), hok, .of_eq hg⟩
    refine codeAny_mono ((F _ hKb (nsK hns)).run callerA [] s₁ H ⟨[.ref a], []⟩ [.ref a] [.ref a] _ _ hr e0 (hbind s₁ (.ref a)) (.cons rfl .nil) (hsp H hO hS)) fun r s' h => ?_
    cases r with
    | error e => exact (hCX H e s' h).elim
    | ok fl =>
      cases fl with
      | next => exact False.elim h
      | brk => exact False.elim h
      | cont => exact False.elim h
      | ret u =>
        obtain ⟨v, H', os, bare, un, hok', r', q⟩ := h
        have q' : v = .bl true := q
        subst q'
        obtain rfl : u = Value.bool true := r'
        refine ⟨rfl, OldK.of_keep fun b o e => ?_, os, bare⟩
        cases q : H b with
        | none => exact un.keep b o e q (by intro z; exact absurd (show b ∈ ([] : List Addr) from z) (by simp)) (by simp)
        | some u =>
          rcases hO b with z | ⟨ob, xs, z⟩
          · rw [q] at z; cases z
          · have z2 := un.frzs b ob _ z
            obtain ⟨e1, _⟩ := hok b _ z
            obtain ⟨e2, _⟩ := hok' b _ z2
            rw [e] at e1; cases e1
            exact e2
  cases hk : K.lookup a with
  | some o =>
    -- the script is one of the module's own objects
    have e := KX a o hk
    rw [ha] at e
    cases e
    refine core (fun _ => none) (fun _ => .inl rfl) (.inr ⟨_, vs.toArray, _, hk, rfl, rfl, rfl, by rw [List.size_toArray, lenV]; exact hl, by simpa using rv⟩) (fun b u z => by have z' : (none : Option HO) = some u := z; cases z') (fun b z => absurd rfl z) fun z => absurd rfl z
  | none =>
    refine core (fun b => if b = a then some (.frz { cls := .type "list", data := .seq vs.toArray } (.lst (ns.map V.int))) else none) (fun b => ?_) (.inl (.inr ⟨{ cls := .type "list", data := .seq vs.toArray }, if_pos rfl⟩)) (fun b u z => ?_) (fun b z => ?_) fun _ => hk
    · by_cases hb : b = a
      · exact .inr ⟨_, _, if_pos hb⟩
      · exact .inl (if_neg hb)
    · by_cases hb : b = a
      · have z' := (if_pos hb).symm.trans z
        cases z'
        subst hb
        exact ⟨ha, by rw [List.length_map]; exact hl, vs, _, rv, ha⟩
      · have z' := (if_neg hb).symm.trans z
        cases z'
    · by_cases hb : b = a
      · exact hb
      · exact absurd (if_neg hb) z
end L2

namespace L2
open PySem PySem.Spec PyProof.Rows

abbrev KOf {K : PySem.W.Frag} {h : Heap} (_ : K.In h) : PySem.W.Frag := K

/-- the goal that k_head leaves (case hc), from the law's promise. F gives the function object fd (K's own) once, then the promise over every base -/
theorem walk_of {l : PySem.W.OpenLaw} {n k : Nat} {q : Program} {loose : List Str} {XP : (Str → Option Value) → Heap → Prop} {YP : World → Heap → Prop} {d : DefRec} {K : Params → PySem.W.Frag} {CX : World → CXT} {sp : World → Sp} {x : Str}
    (hn : l.most = some n) (hn2 : n ≤ sizeLine) (hdf : d.params.defaults = []) (hr : Room k callerA)
    (hY : ∀ (w : World) (h : Heap), YP w h → (K w.params).In h)
    (F : ∀ (w : World) (mg : Str → Option Value) (fa : Addr) (h : Heap), (K w.params).In h → h.Ns mainGlobals mg → mg d.name = some (.ref fa) →
      ∃ fd : FuncData, (∀ (s : Shared) (u : Value), BindsTo s fd ⟨[u], []⟩ [(x, u)]) ∧
        ∀ base : Heap, (K w.params).In base → base.Ns mainGlobals mg → FnOk l.prog w (K w.params) mg base (CX w) k fa fd [x] (sp w))
    (hsp : ∀ (w : World) (H : Hp) (a : Addr) (ns : List Int), ns.length ≤ n → Only H → SqL (K w.params) H a (ns.map V.int) → sp w [.ref a] H (fun v _ => v = .bl true) fun _ _ _ => False)
    (hCX : ∀ (w : World) (H : Hp) (s : Shared) (e : Value) (s' : Shared), CX w [] H s (fun _ _ _ => False) e s' → False) :
    PySem.W.WalkO q loose XP YP l.row.toRowW d [] (fun f vs => PySem.call f vs) := by
  refine Att.attach_call hn hdf fun w s₀ s₁ mg mb fa o pm cd doc a vs ns G Y ho hd hcd hmg hobj hints hlen hg => ?_
  have KX := hY w _ Y
  obtain ⟨fd, hb, hF⟩ := F w mg fa _ KX G.T.g hmg
  exact law_call KX G.T.g G.T.b G.T.builtins G.T.nolimit hg hobj hints (Nat.le_trans hlen hn2) hr hF hb (fun H hO hS => hsp w H a ns hlen hO hS) fun H e s' => hCX w H s₁ e s'
/-- the same where the promise hangs on the written part alone: (sp := My.sp_law), no hole under a binder -/
theorem walk_ofK {l : PySem.W.OpenLaw} {n k : Nat} {q : Program} {loose : List Str} {XP : (Str → Option Value) → Heap → Prop} {YP : World → Heap → Prop} {d : DefRec} {K : Params → PySem.W.Frag} {CX : CXT} {sp : PySem.W.Frag → Sp} {x : Str}
    (hn : l.most = some n) (hn2 : n ≤ sizeLine) (hdf : d.params.defaults = []) (hr : Room k callerA)
    (hY : ∀ (w : World) (h : Heap), YP w h → (K w.params).In h)
    (F : ∀ (w : World) (mg : Str → Option Value) (fa : Addr) (h : Heap), (K w.params).In h → h.Ns mainGlobals mg → mg d.name = some (.ref fa) →
      ∃ fd : FuncData, (∀ (s : Shared) (u : Value), BindsTo s fd ⟨[u], []⟩ [(x, u)]) ∧
        ∀ base : Heap, (K w.params).In base → base.Ns mainGlobals mg → FnOk l.prog w (K w.params) mg base CX k fa fd [x] (sp (K w.params)))
    (hsp : ∀ (K : PySem.W.Frag) (H : Hp) (a : Addr) (ns : List Int), ns.length ≤ n → Only H → SqL K H a (ns.map V.int) → sp K [.ref a] H (fun v _ => v = .bl true) fun _ _ _ => False)
    (hCX : ∀ (H : Hp) (s : Shared) (e : Value) (s' : Shared), CX [] H s (fun _ _ _ => False) e s' → False) :
    PySem.W.WalkO q loose XP YP l.row.toRowW d [] (fun f vs => PySem.call f vs) :=
  walk_of (K := K) (CX := fun _ => CX) (sp := fun w => sp (K w.params)) hn hn2 hdf hr hY F (fun w H a ns h1 h2 h3 => hsp (K w.params) H a ns h1 h2 h3) fun _ H s e s' => hCX H s e s'
end L2

/- THE LAST THEOREM (shape; LID, My.* are yours):
   My.Adr: a structure of the addresses that your layer names (classes, functions); My.Txt K t: a structure (Prop) of the equations over K;
   My.txt_mk : {K} {implicit addresses ..} (e1 : nsIn K mainGlobals "law" = some (some (.ref f))) (e2 : K.lookup f = some ⟨oc, od, .func (fnOf "law" "law" params body scope dV kV doc pm an cdv ct), sl⟩) (e3 : codeIn K cdv "law" = true) .. : ∃ t, My.Txt K t

set_option maxRecDepth 100000 in
set_option maxHeartbeats 0 in
theorem PySem.Challenge.cw_LID_holds : PySem.Challenge.rw_LID.Holds := by
  w_on; o_law; k_head; (case hw => w_witness2)
  k_fill
  refine L2.walk_of (l := PySem.Challenge.rw_LID) (n := 63) (k := 40) (x := "script") (CX := fun w => ..) (sp := fun _ => My.sp_law) rfl (by decide) rfl ⟨rfl, by decide, by decide⟩ (fun w h Y => PySem.W.kIn_of Y) ?F ?S ?C
  case F =>
    intro w mg fa h KX G hmg
    have T : ∃ t, My.Txt (L2.KOf KX) t := by
      dsimp only [L2.KOf]                          -- K must stand as «<heap const> w.params» for k_is
      refine' My.txt_mk ?e1 ?e2 ?e3 ..
      (case e1 => PySem.W.k_is)                    -- in the order: a name -> its address -> its object -> its parts
      (case e2 => PySem.W.k_is)
      ..
    obtain ⟨t, T⟩ := T
    have e0 := hmg.symm.trans (PySem.W.mg_of KX G T.law)
    cases e0                                       -- fa is the law's own address
    exact ⟨_, fun s u => .of_eq rfl, fun base kb nb => My.law_fn T kb nb⟩     -- if «.of_eq rfl» comes too early: refine' ⟨_, ?b, fun base kb nb => My.law_fn T kb nb⟩; exact fun s u => .of_eq rfl
  case S => exact fun w H a ns hl hO hS => ..
  case C => exact ..
(the tactic k_is has no namespace: write k_is) -/

/-! SHORT WORDS over the layer: a def of the text, its body, what a loop and a test want. -/
namespace L2
open PySem PySem.Spec PyProof.Rows

/-! ### the text by places -/
/-- the j-th statement of a class's body -/
def inClass (s : Stmt) (j : Nat) : Stmt := match s with
  | .ClassDef _ _ _ body _ _ _ _ _ _ _ => body.getD j (.Pass ⟨0, 0, 0, 0⟩)
  | _ => .Pass ⟨0, 0, 0, 0⟩
def defArgs (s : Stmt) : Arguments := match s with
  | .FunctionDef _ a _ _ _ _ _ _ _ _ => a
  | _ => { posonlyargs := [], args := [], vararg := none, kwonlyargs := [], kw_defaults := [], kwarg := none, defaults := [] }
def defBody (s : Stmt) : List Stmt := match s with
  | .FunctionDef _ _ b _ _ _ _ _ _ _ => b
  | _ => []
def defScope (s : Stmt) : Scope := match s with
  | .FunctionDef _ _ _ _ _ _ sc _ _ _ => sc
  | _ => { kind := .function, names := [], isGenerator := false, isCoroutine := false }

/-! ### no exception leaves a def -/
abbrev CX0 : CXT := fun _ _ _ _ _ _ => False
abbrev E0 : XK := fun _ _ _ => False
theorem pass0 {X : Cx} : Passes CX0 X E0 := fun _ _ _ _ _ _ _ h => h.elim

/-! ### a def (or method) of the text as it stands behind the top -/
structure Fun (K : PySem.W.Frag) (x qual : Str) (st : Stmt) (f : Addr) (fd : FuncData) : Prop where
  ex : ∃ (oc : Value) (od : Option Addr) (kV doc pm : Value) (an : Option Addr) (cdv ct : Value) (osl : Array (Option Value)),
    fd = PySem.W.fnOf x qual (defArgs st) (defBody st) (defScope st) .none kV doc pm an cdv ct ∧ K.lookup f = some ⟨oc, od, .func fd, osl⟩ ∧ PySem.W.codeIn K cdv qual = true
  kp : PySem.W.keepIn K (.ref f) = true
section
variable {P : Program} {w : World} {K : PySem.W.Frag} {mg : Str → Option Value} {base : Heap}
/-- THE RULE for a def: its body as a term of rules, and the reading of that term -/
theorem Fun.ok {x qual : Str} {st : Stmt} {f : Addr} {fd : FuncData} {N ps : List Str} {k : Nat} {sp : Sp} (F : Fun K x qual st f fd) (S : FnScope N ps (defScope st)) (len : ∀ vs H Q E, sp vs H Q E → vs.length = ps.length)
    (hbody : ∀ (cdv : Value) (A : Around) (outer : List Env) (s : Shared) (H : Hp) (vs : List V) (Q : VK) (E : XK), Room k (A.deeper (envOfC qual (defScope st) s.heap.objs.size f cdv)) → sp vs H Q E →
      ∃ t, PSs (cxOf CX0 P w K mg base N qual (defScope st) f cdv A outer s H E).nox (defBody st) t ∧ t { nx := fun _ H' => Q .non H', rt := Q } (start N vs) H) : FnOk P w K mg base CX0 (k + 1) f fd ps sp := by
  obtain ⟨oc, od, kV, doc, pm, an, cdv, ct, osl, rfl, lk, hcd⟩ := F.ex
  refine fn_of lk hcd S len fun A outer s H vs Q E hr hsp => ?_
  obtain ⟨t, h, q⟩ := hbody cdv A outer s H vs Q E hr hsp
  exact ⟨t, h.nox, q⟩
/-- how its arguments bind (no defaults): h is «fun _ _ _ _ _ _ us hl => match us, hl with | [_, _], _ => rfl», one _ a parameter -/
theorem Fun.binds {x qual : Str} {st : Stmt} {f : Addr} {fd : FuncData} {ps : List Str} (F : Fun K x qual st f fd)
    (h : ∀ (kV doc pm : Value) (an : Option Addr) (cdv ct : Value) (us : List Value), us.length = ps.length → bindArgs (PySem.W.fnOf x qual (defArgs st) (defBody st) (defScope st) .none kV doc pm an cdv ct) ⟨us, []⟩ = pure (ps.zip us)) : Binds K fd ps [] := by
  obtain ⟨oc, od, kV, doc, pm, an, cdv, ct, osl, rfl, lk, hcd⟩ := F.ex
  exact .all (h kV doc pm an cdv ct)
theorem fun_mk {x qual : Str} {st : Stmt} {f : Addr} {oc : Value} {od an : Option Addr} {osl : Array (Option Value)} {kV doc pm cdv ct : Value} (l : K.lookup f = some ⟨oc, od, .func (PySem.W.fnOf x qual (defArgs st) (defBody st) (defScope st) .none kV doc pm an cdv ct), osl⟩)
    (c : PySem.W.codeIn K cdv qual = true) (k : PySem.W.keepIn K (.ref f) = true) : Fun K x qual st f (PySem.W.fnOf x qual (defArgs st) (defBody st) (defScope st) .none kV doc pm an cdv ct) := ⟨⟨oc, od, kV, doc, pm, an, cdv, ct, osl, rfl, l, c⟩, k⟩
end
theorem hu_of {A : Around} {k : Nat} (hr : Room k A) : A.units + 1 < cLine := Nat.lt_of_le_of_lt (Nat.add_le_add_left (by decide : 1 ≤ 64) _) hr.units
theorem small1000 {n : Nat} (h : n ≤ 1000) : n < sizeLine := Nat.lt_of_le_of_lt h (by decide)

/-! ### expressions in short: the name that stands in the i-th slot -/
section
variable {X : Cx}
theorem pv (i : Nat) {x : Str} {pos : Pos} (hN : X.N[i]? = some x := by rfl) (hv : Vis X.env.scope x := by first | exact Or.inl rfl | exact Or.inr (Or.inl rfl) | exact Or.inr (Or.inr rfl)) (hd : (x == ("__debug__" : Str)) = false := by decide)
    (hcd : (x == ("__classdict__" : Str)) = false := by decide) : PE X (.Name x pos) (tVar i) := pe_var hN hv hd hcd
end

/-! ### tests -/
theorem iteF {A B : Prop} (h : B) : if false = true then A else B := by
  rw [if_neg Bool.false_ne_true]
  exact h
theorem iteT {A B : Prop} (h : A) : if true = true then A else B := by
  rw [if_pos rfl]
  exact h
theorem ite2 {c A B : Prop} [Decidable c] (h1 : c → A) (h2 : ¬ c → B) : if c then A else B := by
  by_cases h : c
  · rw [if_pos h]
    exact h1 h
  · rw [if_neg h]
    exact h2 h
theorem iteNS {c A B : Prop} [Decidable c] (hc : c) (h : B) : if (!decide c) = true then A else B := by
  rw [decide_eq_true hc]
  exact iteF h

/-! ### heaps -/
/-- all that was tracked is as it was -/
def Same (H H' : Hp) : Prop := ∀ b o, H b = some o → H' b = some o
theorem Same.refl (H : Hp) : Same H H := fun _ _ h => h
theorem Same.trans {H H1 H2 : Hp} (a : Same H H1) (b : Same H1 H2) : Same H H2 := fun c o h => b c o (a c o h)
theorem Same.free {H H' : Hp} (e : Same H H') {l : Addr} (h : H' l = Option.none) : H l = Option.none := by
  cases q : H l with
  | none => rfl
  | some o =>
    rw [e l o q] at h
    cases h
theorem Same.seq {K : PySem.W.Frag} {H H' : Hp} {a : Addr} {xs : List V} (e : Same H H') (h : SqL K H a xs) : SqL K H' a xs := by
  rcases h with (h | ⟨o, h⟩) | h
  · exact .inl (.inl (e _ _ h))
  · exact .inl (.inr ⟨o, e _ _ h⟩)
  · exact .inr h

end L2
namespace L2
open PySem PySem.Spec PyProof.Rows

/-! ### list comprehensions -/
/-- several tests, one after another -/
def PTs (X : Cx) (ifs : List Expr) (t : TT) : Prop :=
  ∀ (pins : List (Addr × Obj)) (s : Shared) (σ : St) (H : Hp) (Q : Bool → Hp → Prop), Inv X pins σ H s → t σ H Q →
    wpAny (model X.prog X.w) X.A (forIn ifs true fun c r => if r = true then do let ok ← isTrue c X.env (eval c X.env); pure (ForInStep.yield ok) else pure (ForInStep.yield r)) (TP X pins σ Q) X.xe s
def tTrue : TT := fun _ H Q => Q true H
theorem pts_nil {X : Cx} : PTs X [] tTrue := fun _ _ _ H _ I h => wpAny_tests_nil ⟨H, I, h⟩
theorem pts_one {X : Cx} {c : Expr} {t : TT} (h : PT X c t) : PTs X [c] t := fun pins s σ H Q I q => wpAny_tests_one (h pins s σ H Q I q)

theorem compLoop_go {prog : Program} {w : World} {A : Around} {R : Result → Shared → Prop} {s : Shared} {elt target iter : Expr} {ifs : List Expr} {scope : Scope} {pos : Pos} {it acc : Value} {env : Env} (I : Nat → Shared → Prop)
    (turn : ∀ n s, I n s → wpAny (model prog w) A (pyNext it) (fun r s₁ => match r with
      | none => R (.ok .next) s₁
      | some v => wpAny (model prog w) A (letOwnedTupleGo target it v) (fun _ s₁ => wpAny (model prog w) A (assign target env v) (fun _ s₂ =>
          wpAny (model prog w) A (forIn ifs true fun c r => if r = true then do let ok ← isTrue c env (eval c env); pure (ForInStep.yield ok) else pure (ForInStep.yield r)) (fun ok s₃ =>
            if ok = true then wpAny (model prog w) A (eval elt env) (fun x s₄ =>
              wpAny (model prog w) A (call (.builtin "list.append") [acc, x]) (fun _ s₅ => ∃ m, m < n ∧ I m s₅) (fun _ _ => False) s₄) (fun _ _ => False) s₃
            else ∃ m, m < n ∧ I m s₃) (fun _ _ => False) s₂) (fun _ _ => False) s₁) (fun _ _ => False) s₁) (fun _ _ => False) s)
    (n : Nat) (h : I n s) :
    codeAny (model prog w) A (.compLoop (.ListComp elt [⟨target, iter, ifs, 0⟩] scope pos) 0 it acc env) R s := by
  refine codeAny_loop rfl I (fun n s hI => ?_) n h
  show wpAny _ A ((compTurn (.ListComp elt [⟨target, iter, ifs, 0⟩] scope pos) 0 it acc env).onRaise (fun x => do noteFrame x env; theTreesLotGoes x)) _ _ s
  refine wpAny_noted ?_
  rw [compTurn_list]
  refine wpAny_noRaise ?_
  refine wpAny_bind (wpAny_standAt (wpAny_bind (wpAny_mono (turn n s hI) (fun r s₁ h₁ => ?_) fun _ _ h' => h')))
  cases r with
  | none => exact wpAny_pure h₁
  | some v =>
    refine wpAny_bind (wpAny_mono h₁ (fun _ s₁' h₁' => ?_) fun _ _ h' => h')
    refine wpAny_bind (wpAny_mono h₁' (fun _ s₂ h₂ => wpAny_bind (wpAny_mono h₂ (fun ok s₃ h₃ => ?_) fun _ _ h' => h')) fun _ _ h' => h')
    cases ok with
    | false => exact wpAny_pure ⟨rfl, h₃⟩
    | true =>
      exact wpAny_bind (wpAny_bind (wpAny_mono h₃ (fun x s₄ h₄ => wpAny_bind (wpAny_mono h₄ (fun _ s₅ h₅ => wpAny_pure (wpAny_pure ⟨rfl, h₅⟩)) fun _ _ h' => h')) fun _ _ h' => h'))

/-- the block of a comprehension -/
def cxComp (X : Cx) (scope : Scope) (cl : List (Str × Addr)) (C : Addr) (s₀ : Shared) (H₀ : Hp) (fp : List Addr) (N' : List Str) : Cx :=
  { X with N := N', s₀ := s₀, H₀ := H₀, env := compEnvC scope cl C X.env, outer := X.stack, ex := fp, fn := fun _ => false, pn := [] }

theorem closure_of {env : Env} : ∀ (names : List (Str × NameKind)) (cs : List (Str × Addr)), (∀ y ∈ names, y.2 = .free → ∃ a, env.cells.lookup y.1 = some a) → (∀ x c, cs.lookup x = some c → env.cells.lookup x = some c) →
    ∃ cl : List (Str × Addr), (forIn names cs fun (y : Str × NameKind) (r : List (Str × Addr)) => if (y.2 == NameKind.free) = true then do let a ← cellOf env y.1; pure (ForInStep.yield ((y.1, a) :: r)) else pure (ForInStep.yield r) : Sem (List (Str × Addr))) = pure cl ∧
      (∀ x c, cl.lookup x = some c → env.cells.lookup x = some c) ∧ (∀ x, ((x, NameKind.free) ∈ names ∨ ∃ c, cs.lookup x = some c) → ∃ c, cl.lookup x = some c)
  | [], cs, _, h => ⟨cs, rfl, h, fun x hx => by
      rcases hx with z | z
      · cases z
      · exact z⟩
  | (n, k) :: r, cs, hf, h => by
    by_cases hk : k = .free
    · subst hk
      obtain ⟨a, ha⟩ := hf (n, .free) (by simp) rfl
      obtain ⟨cl, e, h1, h2⟩ := closure_of r ((n, a) :: cs) (fun y hy => hf y (List.mem_cons_of_mem _ hy)) (fun x c q => by
        rw [List.lookup_cons] at q
        cases hx : x == n with
        | true =>
          rw [hx] at q
          have : x = n := by simpa using hx
          subst this
          cases q; exact ha
        | false => rw [hx] at q; exact h x c q)
      refine ⟨cl, ?_, h1, fun x hx => ?_⟩
      · rw [List.forIn_cons]
        have e0 : cellOf env n = pure a := by unfold cellOf; rw [ha]
        simp only [beq_self_eq_true, if_true, e0]
        exact e
      · have hc : ∀ z c, cs.lookup z = some c → ∃ c, ((n, a) :: cs).lookup z = some c := fun z c q => by
          rw [List.lookup_cons]
          cases z == n with
          | true => exact ⟨a, rfl⟩
          | false => exact ⟨c, q⟩
        rcases hx with z | ⟨c, z⟩
        · rcases List.mem_cons.mp z with q | q
          · cases q
            exact h2 n (.inr ⟨a, by simp [List.lookup_cons]⟩)
          · exact h2 x (.inl q)
        · exact h2 x (.inr (hc x c z))
    · obtain ⟨cl, e, h1, h2⟩ := closure_of r cs (fun y hy => hf y (List.mem_cons_of_mem _ hy)) h
      have hb : (k == NameKind.free) = false := by simpa using hk
      refine ⟨cl, ?_, h1, fun x hx => ?_⟩
      · rw [List.forIn_cons]
        simp only [hb, Bool.false_eq_true, if_false]
        exact e
      · rcases hx with z | z
        · rcases List.mem_cons.mp z with q | q
          · cases q; exact absurd rfl hk
          · exact h2 x (.inl q)
        · exact h2 x (.inr z)

theorem closureFor_of {env : Env} {scope : Scope} (h : ∀ y ∈ scope.names, y.2 = .free → ∃ a, env.cells.lookup y.1 = some a) :
    ∃ cl : List (Str × Addr), closureFor scope env = pure cl ∧ (∀ x c, cl.lookup x = some c → env.cells.lookup x = some c) ∧ (∀ x, (x, NameKind.free) ∈ scope.names → ∃ c, cl.lookup x = some c) := by
  obtain ⟨cl, e, h1, h2⟩ := closure_of (env := env) scope.names [] h (fun x c q => by cases q)
  refine ⟨cl, ?_, h1, fun x hx => h2 x (.inl hx)⟩
  exact Eq.trans (congrArg (fun t : Sem (List (Str × Addr)) => t >>= fun cs => pure cs) e) rfl

theorem lookup_mem {x : Str} {k : NameKind} : ∀ {names : List (Str × NameKind)}, names.lookup x = some k → (x, k) ∈ names
  | [], h => by cases h
  | (n, j) :: r, h => by
    rw [List.lookup_cons] at h
    cases hx : x == n with
    | true =>
      rw [hx] at h
      have : x = n := by simpa using hx
      subst this
      cases h; simp
    | false => rw [hx] at h; exact List.mem_cons_of_mem _ (lookup_mem h)

theorem lookup_relabel_free {env : Env} (hf : env.scope.kind = .function) : ∀ {names : List (Str × NameKind)} {x : Str}, names.lookup x = some .free → env.kindOf x = some .cell →
    (names.map fun (n, k) => if (k == NameKind.free && env.scope.kind == .function && env.kindOf n == some .cell) then (n, NameKind.cell) else (n, k)).lookup x = some .cell
  | [], _, h, _ => by cases h
  | (n, k) :: r, x, h, hc => by
    have ih := @lookup_relabel_free env hf r x
    show List.lookup x ((if (k == NameKind.free && env.scope.kind == .function && env.kindOf n == some .cell) = true then (n, NameKind.cell) else (n, k)) :: _) = _
    cases hx : x == n with
    | true =>
      have : x = n := by simpa using hx
      subst this
      simp only [List.lookup_cons, hx] at h
      cases h
      rw [if_pos (by simp [hf, hc])]
      simp [List.lookup_cons]
    | false =>
      simp only [List.lookup_cons, hx] at h
      by_cases hq : (k == NameKind.free && env.scope.kind == .function && env.kindOf n == some .cell) = true
      · rw [if_pos hq]; simp only [List.lookup_cons, hx]; exact ih h hc
      · rw [if_neg hq]; simp only [List.lookup_cons, hx]; exact ih h hc
theorem relabel_kind {env : Env} : ∀ {names : List (Str × NameKind)} {x : Str} {k : NameKind}, (names.map fun (n, k) => if (k == NameKind.free && env.scope.kind == .function && env.kindOf n == some .cell) then (n, NameKind.cell) else (n, k)).lookup x = some k →
    names.lookup x = some k ∨ (names.lookup x = some .free ∧ k = .cell)
  | [], _, _, h => by cases h
  | (n, j) :: r, x, k, h => by
    have ih := @relabel_kind env r x k
    have h' : List.lookup x ((if (j == NameKind.free && env.scope.kind == .function && env.kindOf n == some .cell) = true then (n, NameKind.cell) else (n, j)) :: (r.map fun (n, k) => if (k == NameKind.free && env.scope.kind == .function && env.kindOf n == some .cell) then (n, NameKind.cell) else (n, k))) = some k := h
    by_cases hq : (j == NameKind.free && env.scope.kind == .function && env.kindOf n == some .cell) = true
    · rw [if_pos hq] at h'
      have hj : j = .free := by
        have := Bool.and_eq_true_iff.mp (Bool.and_eq_true_iff.mp hq).1
        simpa using this.1
      simp only [List.lookup_cons] at h' ⊢
      cases hx : x == n with
      | true => rw [hx] at h'; cases h'; exact .inr ⟨by rw [hj], rfl⟩
      | false => rw [hx] at h'; exact ih h'
    · rw [if_neg hq] at h'
      simp only [List.lookup_cons] at h' ⊢
      cases hx : x == n with
      | true => rw [hx] at h'; cases h'; exact .inl rfl
      | false => rw [hx] at h'; exact ih h'

/-- the values that a comprehension's block sees: its own name (none yet), then the captured slots -/
def capσ (ix : List Nat) (σ : St) : St := none :: ix.map fun i => (σ[i]?).join

/-- W: by the turn, a measure, the items so far -/
abbrev CompW (J : It) (tt : TT) (te : TE) (σ' : V → St) (acc : Addr) (H1 : Hp) (Q : VK) : Prop :=
  ∃ W : Nat → Nat → List V → Hp → Prop, (∃ m, W 0 m [] (upd H1 acc (.lst []))) ∧ ∀ i m ys H, W i m ys H →
    (J.stop i H ∧ Q (.ref acc) H) ∨ (J.go i H ∧ ∀ x H', J.yld i H x H' → tt (σ' x) H' fun b H2 => if b = true then te (σ' x) H2 fun y H3 =>
        H3 acc = some (.lst ys) ∧ ys.length < sizeLine ∧ ∃ m', m' < m ∧ W (i + 1) m' (ys ++ [y]) (upd H3 acc (.lst (ys ++ [y])))
      else ∃ m', m' < m ∧ W (i + 1) m' ys H2)
def tComp (wi : TI) (ix : List Nat) (tt : TT) (te : TE) : TE := fun σ H Q => wi σ H fun J H1 => ∀ acc, H1 acc = none → CompW J tt te (fun x => (capσ ix σ).set 0 (some x)) acc H1 Q

theorem HOk.sameBut {P : Program} {w : World} {H : Hp} {h h' : Heap} {C : Addr} (x : HOk P w H h) (hn : H C = none) (k : ∀ b u, b ≠ C → h.get? b = some u → h'.get? b = some u) : HOk P w H h' := fun b u e => by
  have nC : ∀ b u, H b = some u → b ≠ C := fun b u e z => by rw [z, hn] at e; cases e
  refine (x b u e).stay (fun c v hc q => k c v ?_ q) (fun _ q => q) fun _ _ q => q
  rcases hc with z | z
  · rw [z]; exact nC b u e
  · exact nC c _ z

theorem pe_comp {X : Cx} {elt iter : Expr} {x : Str} {px : Pos} {ifs : List Expr} {scope osc : Scope} {pos : Pos} {wi : TI} {tt : TT} {te : TE} (ix : List Nat) (N' : List Str)
    (hxe : X.xe = fun _ _ => False) (hc : X.calm = true) (ho : X.env.scope = osc) (hN : N' = x :: ix.map fun i => (X.N[i]?).getD x) (hnd : N'.Nodup)
    (hall : (∀ y ∈ scope.names, y.2 = .free → osc.names.lookup y.1 = some .cell) ∧ (∀ y ∈ scope.names, y.2 ≠ .cell) ∧ scope.kind = .function ∧ (∀ y ∈ scope.names, y.2 = .local → scope.names.lookup y.1 = some .local) ∧ scope.names.lookup x = some .local ∧ (∀ y ∈ N'.tail, scope.names.lookup y = some .free))
    (hi : PI X (.Name x px) iter wi)
    (ht : ∀ cl C s₀ H₀ fp, PTs (cxComp X scope cl C s₀ H₀ fp N') ifs tt)
    (he : ∀ cl C s₀ H₀ fp, PE (cxComp X scope cl C s₀ H₀ fp N') elt te)
    (hs : ∀ x, foldedSetIterable iter X.env x = pure x := by intro _; rfl) :
    PE X (.ListComp elt [⟨.Name x px, iter, ifs, 0⟩] scope pos) (tComp wi ix tt te) := by
  intro pins s σ H Q I h
  obtain ⟨hfr, hcell, hkind, hnames, hx, hcap⟩ := hall
  subst ho
  have outc : ∀ y ∈ scope.names, y.2 = .free → X.env.kindOf y.1 = some .cell := fun y hy q => hfr y hy q
  obtain ⟨cl, hclos, hcl1, hcl2⟩ := closureFor_of (env := X.env) (scope := scope) fun y hy q => I.ok.has y.1 (.inl (outc y hy q))
  rw [eval_ListComp]
  refine wpAny_comprehension_free (use := none) rfl hs hclos hkind hnames (thn (hi pins s σ H _ I h) fun v s1 h1 => thn h1 fun itv s2 h2 => ?_)
  obtain ⟨it, fp, tn, J, H2, e, I2, T, st2, f2, rest⟩ := h2
  subst e
  have hf2 : H2 s2.heap.objs.size = none := I2.hok.fresh (Nat.le_refl _)
  obtain ⟨W, ⟨m0, w0⟩, turn⟩ := rest s2.heap.objs.size hf2
  -- the list
  refine wpAny_newObj_type ?_
  have I3 : Inv X pins σ (upd H2 s2.heap.objs.size (.lst [])) { s2 with heap := s2.heap.push { cls := .type "list", dict := none, data := .seq ([] : List Value).toArray } } := I2.lnew (its := []) (t' := s2.toks) .nil (Nat.zero_le _)
  have keep3 : ∀ b o, s2.heap.get? b = some o → (s2.heap.push { cls := .type "list", dict := none, data := .seq ([] : List Value).toArray }).get? b = some o := fun b o q => Heap.get?_push_of_some _ q
  have fp3 : ∀ b ∈ fp, ∃ o, s2.heap.get? b = some o ∧ ∀ v, o.data ≠ .cell v := T.obj _ _ st2
  have st3 : tn 0 (s2.heap.push { cls := .type "list", dict := none, data := .seq ([] : List Value).toArray }) := T.keep _ _ _ st2 fun b _ o q => keep3 b o q
  have fpn : ∀ b ∈ fp, (upd H2 s2.heap.objs.size (HO.lst [])) b = none := fun b hb => by
    obtain ⟨o, q, _⟩ := fp3 b hb
    rw [upd_ne (Nat.ne_of_lt (Heap.lt_size q))]
    exact (f2 b hb).1
  revert I3 keep3 st3 fpn w0
  generalize hS3 : ({ s2 with heap := s2.heap.push { cls := .type "list", dict := none, data := .seq ([] : List Value).toArray } } : Shared) = s3
  generalize hH3 : upd H2 s2.heap.objs.size (HO.lst []) = H3
  intro w0 I3 keep3 st3 fpn
  have acc3 : H3 s2.heap.objs.size = some (.lst []) := by rw [← hH3]; exact upd_same
  generalize s2.heap.objs.size = acc at *
  have e3 : s2.heap.push { cls := .type "list", dict := none, data := .seq ([] : List Value).toArray } = s3.heap := by rw [← hS3]
  have keep3' : ∀ b o, s2.heap.get? b = some o → s3.heap.get? b = some o := fun b o q => by rw [← e3]; exact keep3 b o q
  have st3' : tn 0 s3.heap := by rw [← e3]; exact st3
  refine wpAny_newFunctionEnv hcell (by intro y hy; simp at hy) (fun h₁ hns₁ hsb₁ => ?_) hkind
  have hC : s3.heap.objs.size = s3.heap.objs.size := rfl
  have keep4 : ∀ b o, s3.heap.get? b = some o → h₁.get? b = some o := fun b o q => hsb₁.extBut b o (Nat.ne_of_lt (Heap.lt_size q)) (Heap.get?_push_of_some _ q)
  have fpC : ∀ b ∈ fp, b ≠ s3.heap.objs.size := fun b hb => by
    obtain ⟨o, q, _⟩ := fp3 b hb
    exact Nat.ne_of_lt (Heap.lt_size (keep3' b o q))
  -- the block's context
  generalize hX' : cxComp X scope cl s3.heap.objs.size s3 H3 fp N' = X'
  have hXp : X'.prog = X.prog := by rw [← hX']; rfl
  have hXw : X'.w = X.w := by rw [← hX']; rfl
  have hXK : X'.K = X.K := by rw [← hX']; rfl
  have hXA : X'.A = X.A := by rw [← hX']; rfl
  have hXe : X'.env = compEnvC scope cl s3.heap.objs.size X.env := by rw [← hX']; rfl
  have hXc : X'.calm = true := by rw [← hX']; exact hc
  have hXx : X'.xe = fun _ _ => False := by rw [← hX']; exact hxe
  have hXf : X'.fs = frs X.stack := by rw [← hX']; rfl
  have hXex : X'.ex = fp := by rw [← hX']; rfl
  have hXN : X'.N = N' := by rw [← hX']; rfl
  have hXs : X'.s₀ = s3 := by rw [← hX']; rfl
  have hXH : X'.H₀ = H3 := by rw [← hX']; rfl
  have hXpn : X'.pn = [] := by rw [← hX']; rfl
  have okX : X'.Ok := by
    rw [← hX']
    refine ⟨I3.ok.mod, hkind, I3.ok.glob, I3.ok.blt, Nat.le_refl _, fun a b c p q => I3.ok.inj a b c (hcl1 a c p) (hcl1 b c q), fun y hy => ?_, fun _ _ z => (by cases z), I3.ok.hd, I3.ok.frames, .inl rfl, fun b hb => ⟨fpC b hb, fun y c p => (f2 b hb).2.2.2.2.1 y c (hcl1 y c p)⟩,
      I3.bs, Nat.le_trans I3.ok.bsz I3.sz, fun b o p hb => ?_, fun b hb z => ?_, I3.stack, I3.stkFree⟩
    · have hy' : (relabel scope X.env).names.lookup y = some .cell ∨ (relabel scope X.env).names.lookup y = some .free := hy
      have free : scope.names.lookup y = some .free → ∃ c, cl.lookup y = some c := fun q => hcl2 y (lookup_mem q)
      rcases hy' with q | q
      · rcases relabel_kind q with z | ⟨z, _⟩
        · exact absurd rfl (hcell _ (lookup_mem z))
        · exact free z
      · rcases relabel_kind q with z | ⟨_, z⟩
        · exact free z
        · cases z
    · rcases (f2 b hb).2.2.2.1 with z | z
      · exact I3.ok.noex b o p z
      · exact absurd (Nat.lt_of_lt_of_le (Heap.lt_size p) (Nat.le_trans I3.ok.bsz z)) (Nat.lt_irrefl _)
    · rcases List.mem_cons.mp (I3.stkSub b z) with q | q
      · exact (f2 b hb).2.1 q
      · exact (f2 b hb).2.2.1 q
  have I4 : ∀ tk, Inv X' [] (capσ ix σ) H3 { s3 with heap := h₁, toks := tk } := fun tk => by
    have hloc := I3.loc
    refine ⟨okX, by rw [hXs], I3.bare, ?_, ⟨fun y => ([] : List (Str × Value)).reverse.lookup y, by rw [hXe]; exact hns₁, fun i y v e1 e2 e3 => ?_⟩, fun y c p => ?_, ?_, fun y c p => ?_, fun p hp => ?_, ?_, ?_⟩
    · rw [hXf, hXex, hXH, hXs]; exact Un.kept keep4
    · rw [hXN, hN] at e1
      cases i with
      | zero => simp [capσ] at e2
      | succ j =>
        have e1' : (ix.map fun i => (X.N[i]?).getD x)[j]? = some y := by simpa using e1
        have e2' : (ix.map fun i => (σ[i]?).join)[j]? = some (some v) := by simpa [capσ] using e2
        rw [List.getElem?_map] at e1' e2'
        cases hj : ix[j]? with
        | none => rw [hj] at e1'; cases e1'
        | some i0 =>
          rw [hj] at e1' e2'
          have e1'' : (X.N[i0]?).getD x = y := by simpa using e1'
          have e2'' : (σ[i0]?).join = some v := by simpa using e2'
          have hsv : σ[i0]? = some (some v) := by
            cases q : σ[i0]? with
            | none => rw [q] at e2''; cases e2''
            | some z => rw [q] at e2''; have : z = some v := by simpa using e2''
                        rw [this]
          have hlt : i0 < X.N.length := by
            have := (List.getElem?_eq_some_iff.mp hsv).1
            rw [I3.len] at this; exact this
          have hNy : X.N[i0]? = some y := by
            rw [List.getElem?_eq_getElem hlt] at e1'' ⊢
            simpa using e1''
          have hyt : y ∈ N'.tail := by
            rw [hN]
            exact List.mem_of_getElem? (by simpa using e1)
          have hyf := hcap y hyt
          have hyc := outc (y, .free) (lookup_mem hyf) rfl
          obtain ⟨m, hn, hl⟩ := hloc
          obtain ⟨u, r, l⟩ := hl i0 y v hNy hsv (.inr (.inl hyc))
          refine ⟨u, r, ?_⟩
          rcases l with ⟨k1, _⟩ | ⟨_, c, p, z⟩
          · have hyc' : X.env.kindOf y = some .cell := hyc
            rw [k1] at hyc'; cases hyc'
          · obtain ⟨c', p'⟩ := hcl2 y (lookup_mem hyf)
            have pc : c' = c := by
              have := hcl1 y c' p'
              rw [p] at this; cases this; rfl
            subst pc
            refine .inr ⟨.inl ?_, c', by rw [hXe]; exact p', ?_⟩
            · rw [hXe]; exact lookup_relabel_free I3.ok.kind hyf hyc
            · obtain ⟨o, q1, q2⟩ := z
              exact ⟨o, keep4 c' o q1, q2⟩
    · rw [hXe] at p
      obtain ⟨v, o, q1, q2⟩ := I3.cell y c (hcl1 y c p)
      exact ⟨v, o, keep4 c o q1, q2⟩
    · rw [hXe]; exact I3.hok.fresh (Nat.le_refl _)
    · rw [hXe] at p; exact I3.freeC y c (hcl1 y c p)
    · rw [hXpn] at hp; cases hp
    · rw [hXp, hXw]; exact I3.hok.kept keep4
    · rw [hXN, hN]; simp [capσ]
  -- the loop
  have stat : ∀ {H' : Hp}, (∀ b ∈ fp, H' b = none) → ∀ b ∈ fp, FpOk X' [] H' b := fun hn b hb => by
    refine ⟨hn b hb, by rw [hXe]; exact fpC b hb, ?_, .inl (by rw [hXex]; exact hb), fun y c p => ?_, fun p hp => by rw [hXpn] at hp; cases hp⟩
    · rw [hXf]; intro z
      rcases List.mem_cons.mp (I3.stkSub b z) with q | q
      · exact (f2 b hb).2.1 q
      · exact (f2 b hb).2.2.1 q
    · rw [hXe] at p; exact (f2 b hb).2.2.2.2.1 y c (hcl1 y c p)
  have fin : ∀ {H5 : Hp} {s5 : Shared} {σ5 : St}, Inv X' [] σ5 H5 s5 → Q (.ref acc) H5 → compPost (model X.prog X.w) X.A X.xe none (EP X pins σ Q) (.ref acc) s3.heap.objs.size (.ok .next) s5 := fun {H5 s5 σ5} I5 q => by
    obtain ⟨m, hn, _⟩ := I5.loc
    rw [hXe] at hn
    refine ⟨m, hn, fun h' sb => ?_⟩
    have kb : ∀ b o, b ≠ s3.heap.objs.size → s5.heap.get? b = some o → h'.get? b = some o := fun b o hb z => sb.extBut b o hb z
    have u5 := I5.base
    rw [hXf, hXex, hXH, hXs] at u5
    have nC : ∀ b o, s3.heap.get? b = some o → b ≠ s3.heap.objs.size := fun b o z => Nat.ne_of_lt (Heap.lt_size z)
    have un : Un (frs X.stack) fp H3 H5 s3.heap h' := ⟨fun b o z n a c => kb b o (nC b o z) (u5.keep b o z n a c), fun b o z n a c => by
      obtain ⟨sl, y⟩ := u5.slot b o z n a c
      exact ⟨sl, kb b _ (nC b o z) y⟩, u5.free, fun b o z c => by
      obtain ⟨o', y⟩ := u5.there b o z c
      exact ⟨o', kb b _ (nC b o z) y⟩, u5.tups, u5.frzs, u5.tbls⟩
    have fr : H5 s3.heap.objs.size = none := by have := I5.free; rw [hXe] at this; exact this
    have hok5 := I5.hok
    rw [hXp, hXw] at hok5
    have hos : s5.os = s3.os := by have := I5.os; rw [hXs] at this; exact this
    refine ⟨.ref acc, H5, I3.call' (s' := { s5 with heap := h' }) (ch := fp) hos un (hok5.sameBut fr kb) I5.bare (fun b hb => ?_), rfl, q⟩
    obtain ⟨g0, g1, g2, g3, g4, g5⟩ := f2 b hb
    exact ⟨g3, g1, g4, g5⟩
  have loop : ∀ tk, codeAny (model X.prog X.w) X.A (.compLoop (.ListComp elt [⟨.Name x px, iter, ifs, 0⟩] scope pos) 0 (.ref it) (.ref acc) (compEnvC scope cl s3.heap.objs.size X.env))
      (compPost (model X.prog X.w) X.A X.xe none (EP X pins σ Q) (.ref acc) s3.heap.objs.size) { s3 with heap := h₁, toks := tk } := fun tk => by
    refine compLoop_go (fun n s' => ∃ i ys σ' H', Inv X' [] σ' H' s' ∧ (∃ v, σ' = (capσ ix σ).set 0 v) ∧ tn i s'.heap ∧ (∀ b ∈ fp, H' b = none) ∧ W i n ys H') (fun n s5 h5 => ?_) m0
      ⟨0, [], capσ ix σ, H3, I4 tk, ⟨none, rfl⟩, T.keep _ _ _ st3' fun b _ o q => keep4 b o q, fpn, w0⟩
    obtain ⟨i, ys, σ5, H5, I5, ⟨v5, hσ⟩, st5, fr5, w5⟩ := h5
    rcases turn i n ys H5 w5 with ⟨stop, q⟩ | ⟨go, step⟩
    · have d := T.done X' hXp hXw hXK hXc i [] s5 σ5 H5 (fun _ _ => False) I5 (stat fr5) st5 stop
      rw [hXA] at d
      refine thn d fun r s6 ⟨hr, I6⟩ => ?_
      subst hr
      exact fin I6 q
    · have d := T.item X' hXp hXw hXK hXc i [] s5 σ5 H5 (fun _ _ => False) I5 (stat fr5) st5 go
      rw [hXA] at d
      refine thn d fun r s6 ⟨u, hr, h6⟩ => ?_
      subst hr
      refine thn h6 fun _ s7 ⟨z, H7, I7, r7, y7, st7, fr7⟩ => ?_
      have I7' := I7.pinned (stat fr7) (T.obj _ _ st7)
      have again : ∀ {H9 : Hp} {s9 : Shared} {ys9 : List V} {v9 : Option V}, Inv X' ([] ++ pinsAt fp s7.heap) ((capσ ix σ).set 0 v9) H9 s9 → (∃ m', m' < n ∧ W (i + 1) m' ys9 H9) → ∃ m', m' < n ∧ ∃ i ys σ' H', Inv X' [] σ' H' s9 ∧ (∃ v, σ' = (capσ ix σ).set 0 v) ∧ tn i s9.heap ∧ (∀ b ∈ fp, H' b = none) ∧ W i m' ys H' := fun {H9 s9 ys9 v9} I9 ⟨m', hm, w9⟩ => by
        refine ⟨m', hm, i + 1, ys9, _, H9, I9.unpinned, ⟨v9, rfl⟩, T.keep _ _ _ st7 fun b hb o e => (I9.pin (b, o) (List.mem_append_right _ (List.mem_append_right _ (mem_pinsAt hb e)))).1, fun b hb => ?_, w9⟩
        obtain ⟨o, e, _⟩ := T.obj _ _ st7 b hb
        exact (I9.pin (b, o) (List.mem_append_right _ (List.mem_append_right _ (mem_pinsAt hb e)))).2.1
      have es : σ5.set 0 (some z) = (capσ ix σ).set 0 (some z) := by rw [hσ]; simp [List.set_set]
      have ht' := ht cl s3.heap.objs.size s3 H3 fp
      have he' := he cl s3.heap.objs.size s3 H3 fp
      rw [hX'] at ht' he'
      rw [← hXe]
      refine wpAny_assign_Name (store_ok (X := X') (i := 0) I7' (by rw [hXN]; exact hnd) (by rw [hXN, hN]; rfl) (.inl ?_) r7 (fun s8 I8 => ?_) (.inr ?_))
      · rw [hXe]; exact lookup_relabel_local hx
      · rw [es] at I8
        have a1 := ht' _ s8 _ H7 _ I8 (step z H7 y7)
        rw [hXp, hXw, hXA, hXx] at a1
        refine thn a1 fun b s9 ⟨H9, I9, q9⟩ => ?_
        cases b with
        | false => exact again I9 q9
        | true =>
          have a2 := he' _ s9 _ H9 _ I9 q9
          rw [hXp, hXw, hXA, hXx] at a2
          refine thn a2 fun yv s10 ⟨y, H10, I10, r10, q1, q2, q3⟩ => ?_
          have a3 := mt_append (X := X') _ s10 _ H10 (.ref acc) [y] (.ref acc) [yv] (fun _ Hq => ∃ m', m' < n ∧ W (i + 1) m' (ys ++ [y]) Hq) I10 rfl (.cons r10 .nil) ⟨acc, ys, y, rfl, rfl, q1, q2, q3⟩
          rw [hXp, hXw, hXA, hXx] at a3
          exact thn a3 fun _ s11 ⟨_, H11, I11, _, q11⟩ => again I11 q11
      · rw [hXe]; exact lookup_relabel_local hx
  refine codeAny_compStart_list (loop _) ?_
  exact T.self _ 0 _ _ _ (T.keep _ _ _ st3' fun b _ o q => keep4 b o q) (loop _)
end L2
namespace L2
open PySem PySem.Spec PyProof.Rows

/-! ### set(t) of a tuple of ints -/
theorem sub_tup_set : isSubtype (.type "tuple") (.type "set") = pure false := by rw [isSubtype_type]; kernel_rfl
theorem sub_tup_fset : isSubtype (.type "tuple") (.type "frozenset") = pure false := by rw [isSubtype_type]; kernel_rfl
abbrev newSetO (led : Bool) : Obj := { cls := .type "set", dict := none, data := .set #[] 0 (.fresh 0 0 led) }
set_option maxHeartbeats 3200000 in
theorem set_tuple {prog : Program} {w : World} {B : Around} {Er : Value → Shared → Prop} {z : Shared} {a : Addr} {its : Array Value} {zs : List Int} {Q : Value → Shared → Prop}
    (hh : B.handled = none) (ht : z.heap.IsTuple a its) (hi : IntsAre its.toList zs) (hb : its.size + 1 < scanBound)
    (fin : ∀ (g' : Heap) (tk : Nat), g'.SetOf (intKind prog w) z.heap.objs.size (fun k' => (firstMet (fun i => zs.getD i 0) its.size).any (· == k')) (firstMet (fun i => zs.getD i 0) its.size).length →
      (∀ b o, b < z.heap.objs.size → z.heap.get? b = some o → g'.get? b = some o) → Q (.ref z.heap.objs.size) { z with heap := g', toks := tk }) :
    wpAny (model prog w) B (call (.type "set") [.ref a]) Q Er z := by
  obtain ⟨_, _, _⟩ := F.called_set.mro
  have := F.called_set.made
  have := F.called_set.sub
  refine wpAny_call (codeAny_of_tree ?_)
  show wpAny _ _ (callAny (.type "set") _) _ _ _
  refine wpAny_pure ⟨Code.quiet_builtin _ (by decide +kernel), codeAny_builtin F.entry_type_call ?_⟩
  rw [Around.under_plain (weight_type_call_type "set" [.ref a] []) rfl]
  have := F.called_set.notType
  have := F.called_set.canCreate
  have := F.typeCall_set_1 (.ref a)
  repeat (any_goals (first | assumption | wp_step))
  refine codeAny_mono (code_set_new_1 (.ref a) (E := Er) (Q₁ := fun v y => ∃ led : Bool, v = .ref z.heap.objs.size ∧ y = { z with heap := z.heap.push (newSetO led) }) fun led => ⟨led, rfl, rfl⟩) fun r y hr => ?_
  cases r with
  | error e => exact hr
  | ok fl =>
    cases fl with
    | ret v =>
      obtain ⟨led, rfl, rfl⟩ := hr
      have hS : (z.heap.push (newSetO led)).get? z.heap.objs.size = some (newSetO led) := Heap.get?_push_size _ rfl
      have hT : Shared.TypeIs { z with heap := z.heap.push (newSetO led) } (.ref z.heap.objs.size) "set" := ⟨_, hS, rfl⟩
      have := F.called_set.init.lookup
      have := F.called_set.init.bind (.ref z.heap.objs.size)
      repeat (any_goals (first | assumption | wp_step))
      refine codeAny_mono (codeAny_call_builtin (R := wants (fun r y => r = .none ∧ ∃ g' tk, y = { z with heap := g', toks := tk } ∧
          g'.SetOf (intKind prog w) z.heap.objs.size (fun k' => (firstMet (fun i => zs.getD i 0) its.size).any (· == k')) (firstMet (fun i => zs.getD i 0) its.size).length ∧
          (∀ b o, b < z.heap.objs.size → z.heap.get? b = some o → g'.get? b = some o)) Er) F.called_set.init.plain F.entry_set_init (check_set_init_1 hT ?_)) fun r₂ y₂ hr₂ => ?_
      · obtain ⟨ol, hol, hcl, nl, hdl⟩ := id ht
        obtain ⟨oc, od, oda, osl⟩ := ol
        simp only at hcl hdl
        subst hcl; subst hdl
        have hol' : (z.heap.push (newSetO led)).get? a = some { cls := .type "tuple", dict := od, data := .seq its nl, slots := osl } := Heap.get?_push_of_some _ hol
        have := sub_tup_set
        have := sub_tup_fset
        have : (Value.type "tuple" == Value.type "dict") = false := by decide
        have ht1 : (z.heap.push (newSetO led)).IsTuple a its := ⟨_, hol', rfl, nl, rfl⟩
        unfold Builtin.«set.__init__» noKeywords Builtin.Frozenset.updateFrom
        generalize hPI : pyIter = PI
        wp_walk
        subst hPI
        refine wpAny_pyIter_tuple ht1 ?_
        refine wpAny_bind (wpAny_runValue ?_)
        have hlS : a < z.heap.objs.size := Heap.lt_size hol
        have hneI : a ≠ (z.heap.push (newSetO led)).objs.size := by
          rw [Heap.size_push]; exact Nat.ne_of_lt (Nat.lt_succ_of_lt hlS)
        have hSf : z.heap.objs.size ∉ [(z.heap.push (newSetO led)).objs.size, a] := by
          rw [Heap.size_push]; simp only [List.mem_cons, List.mem_singleton, List.not_mem_nil, or_false, not_or]
          exact ⟨Nat.ne_of_lt (Nat.lt_succ_self _), Nat.ne_of_gt hlS⟩
        have hval : ∀ (i : Nat) (v : Value), its[i]? = some v → ∃ t, v = .int ((fun i => zs.getD i 0) i) t := fun i v hv => IntsAre.int_at hi i v (by rw [Array.getElem?_toList]; exact hv)
        refine codeAny_set_update_loopS ((Walks.tuple (by simp [hh]) _ a hneI its).toS) z.heap.objs.size
          hSf (fun i => zs.getD i 0) hval hb (its.size - 0) 0 _ (by omega) (Nat.zero_le _)
          ⟨⟨_, Heap.get?_push_size _ rfl, rfl, rfl⟩, ?hP⟩ ?hS0 ?hR
        case hP => exact ⟨_, Heap.get?_push_of_some _ hol', rfl, nl, rfl⟩
        case hS0 =>
          exact SetOf_congr ((setObjOf_fresh (knd := intKind prog w) led).setOf (Heap.get?_push_of_some _ hS) (by unfold scanBound; omega)) (fun _ => rfl) rfl
        case hR =>
          intro s' hm hS'
          obtain ⟨h', g', d', tk', os'⟩ := s'
          obtain rfl : g' = z.gens := hm.gens
          obtain rfl : d' = z.drawn := hm.drawn
          obtain rfl : os' = z.os := hm.os
          show wpAny _ _ _ _ _ _
          refine wpAny_pure ?_
          show wpAny _ _ (ret Value.none) _ _ _
          refine wpAny_pure ⟨rfl, h', tk', rfl, hS', fun b o hb e => ?_⟩
          refine hm.heap b o ?_ (Heap.get?_push_of_some _ (Heap.get?_push_of_some _ e))
          simp only [List.mem_cons, List.mem_singleton, List.not_mem_nil, or_false, not_or]
          refine ⟨Nat.ne_of_lt hb, ?_⟩
          show b ≠ (z.heap.push (newSetO led)).objs.size
          rw [Heap.size_push]; exact Nat.ne_of_lt (Nat.lt_succ_of_lt hb)
      · cases r₂ with
        | error e => exact hr₂
        | ok fl₂ =>
          cases fl₂ with
          | ret r =>
            obtain ⟨rfl, g', tk, rfl, hS', hk'⟩ := hr₂
            repeat (any_goals (first | assumption | wp_step))
            exact fin _ _ hS' hk'
          | _ => exact hr₂.elim
    | _ => exact hr.elim

end L2
namespace L2
open PySem PySem.Spec PyProof.Rows

section
variable {X : Cx}
/-- isinstance(x, T), T a built-in type -/
theorem call_isinst : CallR X (.builtin "isinstance") (fun vs H Q => ∃ x t n b, vs = [x, .ty n] ∧ TyOf X.K H x t ∧ PySem.W.kitOne X.K t (.type n) = some b ∧ Q (.bl b) H) := by
  intro pins s σ H xs us Q I r h
  obtain ⟨x, t, n, b, rfl, ty, e, q⟩ := h
  obtain ⟨u, w', rfl, r1, r2⟩ := vals2 r
  cases r2
  exact isinst_ok I r1 ty e fun tk => ⟨.bl b, H, I.tok tk, rfl, q⟩

/-- the unlike ones of ints, as set() meets them -/
def unl (ns : List Int) : List Int := firstMet (fun i => ns.getD i 0) ns.length
theorem unl_le (ns : List Int) : (unl ns).length ≤ ns.length := firstMet_length_le _ _
theorem call_set_tup (hc : X.calm = true) : CallR X (.type "set") (fun vs H Q => ∃ p ns, vs = [.ref p] ∧ SqT X.K H p (ns.map V.int) ∧ ns.length + 1 < scanBound ∧ ∀ l, H l = none → Q (.ref l) (upd H l (.set (fun k => (unl ns).any (· == k)) (unl ns).length))) := by
  intro pins s σ H xs us Q I r h
  obtain ⟨p, ns, rfl, hq, hb, q⟩ := h
  obtain ⟨u, rfl, rx⟩ := vals1 r
  cases rx
  obtain ⟨its, r', pl, hz⟩ := I.tuple hq
  have hlen := r'.length
  rw [List.length_map] at hlen
  have e0 : its.toArray.size = ns.length := by rw [List.size_toArray, hlen]
  refine set_tuple (I.ok.hd hc) (show s.heap.IsTuple p its.toArray from pl) (zs := ns) (by simpa using intsAre_of r') (by rw [e0]; exact hb) fun g' tk hS hk => ?_
  rw [e0] at hS
  exact ⟨.ref s.heap.objs.size, _, I.laid (t' := tk) (fun b o e => hk b o (Heap.lt_size e) e) (Nat.le_refl _) (show ObjOk X.prog X.w _ g' _ (.set _ _) from hS), rfl, q _ (I.hok.fresh (Nat.le_refl _))⟩
theorem call_len_setO : CallR X (.builtin "len") (fun vs H Q => ∃ p S n, vs = [.ref p] ∧ H p = some (.set S n) ∧ Q (.int n) H) := by
  intro pins s σ H xs us Q I r h
  obtain ⟨p, S, n, rfl, hH, q⟩ := h
  obtain ⟨u, rfl, rx⟩ := vals1 r
  cases rx
  obtain ⟨o, es, ep, tb, ho, hex, hd, hel, hmem, hsz, hfit, rfl⟩ := (show s.heap.SetOf (intKind X.prog X.w) p S n from I.hok p _ hH)
  have hb : (es.size : Int) < 2 ^ 63 := by unfold scanBound at hsz; omega
  exact PySem.call_len_set ho hex hd hfit hb ⟨.int es.size, H, I.tok _, ⟨_, rfl⟩, q⟩

/-! ### slices of tuples: the whole, and backwards -/
theorem getItem_tuple_whole {prog : Program} {w : World} {A : Around} {E : Value → Shared → Prop} {s : Shared} {t sl : Addr} {items : Array Value} {vl vu : Value} {lo hi : Option Int} {Q : Value → Shared → Prop} (ht : IsTup s.heap t items) (hs : s.heap.IsSliceOf sl vl vu .none) (pl : IsPart vl lo) (pu : IsPart vu hi)
    (h1 : HT.sIx items.size 0 lo = 0) (h2 : HT.sIx items.size items.size hi = items.size) (h : Q (.ref t) s) : wpAny (model prog w) A (getItem (.ref t) (.ref sl)) Q E s := by
  obtain ⟨os, hos, hcs, hds⟩ := id hs
  have hTs : s.TypeIs (.ref sl) "slice" := ⟨os, hos, hcs⟩
  unfold getItem
  try with_reducible refine wpAny_holding ?_
  first | refine wpAny_bind (wpAny_pure ?_) | skip
  refine wpAny_bind (wpAny_sequenceKey ht.typeIs (by decide) ?_)
  refine wpAny_bind (wpAny_callSpecial?_slot (name := Str.ofString "__getitem__") ht.typeIs PyProof.Rows.slot_tuple_getitem (wpAny_call_entry PyProof.Rows.slot_tuple_getitem ht.typeIs entry_tuple_getitem ?_ (args_tuple_getitem _ _)))
  show wpAny _ _ (Builtin.Tuple.tupleItemsOf (.ref t) >>= _) _ _ s
  refine wpAny_bind (tupleItemsOf_ ht (wpAny_bind (wpAny_typeOf hTs ?_)))
  rw [if_pos (by decide)]
  refine wpAny_bind (HT.sliceApplied_gen hs pl pu ?_)
  rw [h1, h2]
  show wpAny _ _ (if (((0 : Nat) : Int) == 0 && (1 : Int) == 1 && (items.size - 0) == items.size) = true then _ else _) _ _ s
  rw [if_pos (by simp)]
  show wpAny _ _ (Builtin.Tuple.tupleIsExact (.ref t) >>= _) _ _ s
  unfold Builtin.Tuple.tupleIsExact
  refine wpAny_bind (wpAny_bind (wpAny_typeOf ht.typeIs (wpAny_pure ?_)))
  show wpAny _ _ (if (Value.type "tuple" == Value.type "tuple") = true then _ else _) _ _ s
  rw [if_pos (by decide)]
  refine wpAny_bind (wpAny_rule ?_)
  first
    | exact wpAny_pure ⟨_, rfl, wpAny_pure h⟩
    | exact wpAny_bind (wpAny_pure (wpAny_pure ⟨_, rfl, wpAny_pure h⟩))
/-- t[lo:hi], the whole of it -/
def rSlTW (K : PySem.W.Frag) : V → Option Int → Option Int → Hp → VK → Prop := fun x lo hi H Q => ∃ a xs, x = .ref a ∧ SqT K H a xs ∧ HT.sIx xs.length 0 lo = 0 ∧ HT.sIx xs.length xs.length hi = xs.length ∧ Q (.ref a) H
theorem sl_tupW : SlR X (rSlTW X.K) := by
  intro pins s σ H x v vl vu lo hi sl Q I rx hs pl pu h
  obtain ⟨a, xs, rfl, hx, h1, h2, q⟩ := h
  cases rx
  obtain ⟨its, r, ht, hz⟩ := I.tuple hx
  have hlen : its.toArray.size = xs.length := by rw [List.size_toArray]; exact r.length.symm
  refine ⟨"tuple", _, PyProof.Rows.slot_tuple_getitem.lookup, ht.typeIs, ?_⟩
  exact getItem_tuple_whole ht hs pl pu (by rw [hlen]; exact h1) (by rw [hlen]; exact h2) ⟨.ref a, H, I, rfl, q⟩
/-- t[lo:hi] as a value: either way a tuple of the cut -/
theorem cut_any {K : PySem.W.Frag} {x : V} {lo hi : Option Int} {H : Hp} {Q : VK} {a : Addr} {xs : List V} (e : x = .ref a) (h : SqT K H a xs)
    (q : ∀ p H', (∀ b o, H b = some o → H' b = some o) → SqT K H' p (cutV xs lo hi) → Q (.ref p) H') : rSlT K x lo hi H Q ∨ rSlTW K x lo hi H Q := by
  by_cases hw : HT.sIx xs.length 0 lo = 0 ∧ HT.sIx xs.length xs.length hi = xs.length
  · refine .inr ⟨a, xs, e, h, hw.1, hw.2, q a H (fun _ _ z => z) ?_⟩
    have : cutV xs lo hi = xs := by unfold cutV; rw [hw.1, hw.2]; simp
    rw [this]; exact h
  · refine .inl ⟨a, xs, e, h, hw, fun p hp => q p _ (fun b o z => by rw [upd_ne (ne_of_none z hp)]; exact z) (SqT.of upd_same)⟩

theorem rev_pick (xs : Array Value) : ((List.range xs.size).filterMap fun (k : Nat) => xs[((xs.size : Int) - 1 + (k : Int) * (-1)).toNat]?).toArray = xs.toList.reverse.toArray := by
  have e : ((List.range xs.size).filterMap fun (k : Nat) => xs[((xs.size : Int) - 1 + (k : Int) * (-1)).toNat]?) = ((List.range xs.size).map fun k => xs.size - 1 - k).filterMap (xs[·]?) := by
    rw [List.filterMap_map]
    have cg : ∀ (l : List Nat) (f g : Nat → Option Value), (∀ k ∈ l, f k = g k) → l.filterMap f = l.filterMap g := by
      intro l
      induction l with
      | nil => intro _ _ _; rfl
      | cons a r ih =>
        intro f g h
        rw [List.filterMap_cons, List.filterMap_cons, h a (by simp), ih f g fun k hk => h k (List.mem_cons_of_mem _ hk)]
    refine cg _ _ _ fun k hk => ?_
    have := List.mem_range.mp hk
    have e1 : ((xs.size : Int) - 1 + (k : Int) * (-1)).toNat = xs.size - 1 - k := by omega
    show xs[((xs.size : Int) - 1 + (k : Int) * (-1)).toNat]? = xs[xs.size - 1 - k]?
    rw [e1]
  rw [e, PySem.W.krv_range, List.filterMap_reverse, PySem.W.krv_all]
theorem sliceApplied_rev {prog : Program} {w : World} {A : Around} {E : Value → Shared → Prop} {s : Shared} {sl : Addr} {u : Tok} {n : Nat} {Q : Int × Int × Nat → Shared → Prop} (hs : s.heap.IsSliceOf sl .none .none (.int (-1) u))
    (h : Q ((n : Int) - 1, -1, n) s) : wpAny (model prog w) A (Builtin.Slice.sliceApplied (.ref sl) (pure (n : Int))) Q E s := by
  obtain ⟨os, hos, hcs, hds⟩ := id hs
  unfold Builtin.Slice.sliceApplied Builtin.Slice.sliceFields
  refine wpAny_bind (wpAny_bind (wpAny_field hos hds (x := .none) rfl (wpAny_bind (wpAny_field hos hds (x := .none) rfl (wpAny_bind (wpAny_field hos hds (x := .int (-1) u) rfl (wpAny_pure ?_)))))))
  refine wpAny_bind (slicePart_int ?_)
  show wpAny _ _ (if ((-1 : Int) == 0) = true then _ else _) _ _ s
  rw [if_neg (by decide)]
  refine wpAny_bind (slicePart_none (wpAny_bind (slicePart_none (wpAny_bind (wpAny_pure ?_)))))
  show wpAny _ _ (match Builtin.Slice.sliceAdjust none none (-1) (n : Int) with | (lo, hi) => pure (lo, (-1 : Int), Builtin.Slice.slicePlaces lo hi (-1))) _ _ s
  rw [show Builtin.Slice.sliceAdjust none none (-1) (n : Int) = ((n : Int) - 1, -1) from rfl]
  have hp : Builtin.Slice.slicePlaces ((n : Int) - 1) (-1) (-1) = n := by
    unfold Builtin.Slice.slicePlaces
    rw [if_neg (by decide)]
    by_cases hz : (n : Int) - 1 > -1
    · rw [if_pos hz, show (- -1 : Int) = 1 by decide, Int.ediv_one]; omega
    · rw [if_neg hz]; omega
  show wpAny _ _ (pure ((n : Int) - 1, (-1 : Int), Builtin.Slice.slicePlaces ((n : Int) - 1) (-1) (-1))) _ _ s
  rw [hp]
  exact wpAny_pure h
theorem getItem_tuple_rev {prog : Program} {w : World} {A : Around} {E : Value → Shared → Prop} {s : Shared} {t sl : Addr} {items : Array Value} {u : Tok} {Q : Value → Shared → Prop} (ht : IsTup s.heap t items) (hs : s.heap.IsSliceOf sl .none .none (.int (-1) u))
    (h : Q (.ref s.heap.objs.size) { s with heap := s.heap.push { cls := .type "tuple", data := .seq items.toList.reverse.toArray } }) (hsz : items.size ≤ sizeLine) : wpAny (model prog w) A (getItem (.ref t) (.ref sl)) Q E s := by
  obtain ⟨os, hos, hcs, hds⟩ := id hs
  have hTs : s.TypeIs (.ref sl) "slice" := ⟨os, hos, hcs⟩
  unfold getItem
  try with_reducible refine wpAny_holding ?_
  first | refine wpAny_bind (wpAny_pure ?_) | skip
  refine wpAny_bind (wpAny_sequenceKey ht.typeIs (by decide) ?_)
  refine wpAny_bind (wpAny_callSpecial?_slot (name := Str.ofString "__getitem__") ht.typeIs PyProof.Rows.slot_tuple_getitem (wpAny_call_entry PyProof.Rows.slot_tuple_getitem ht.typeIs entry_tuple_getitem ?_ (args_tuple_getitem _ _)))
  show wpAny _ _ (Builtin.Tuple.tupleItemsOf (.ref t) >>= _) _ _ s
  refine wpAny_bind (tupleItemsOf_ ht (wpAny_bind (wpAny_typeOf hTs ?_)))
  rw [if_pos (by decide)]
  refine wpAny_bind (sliceApplied_rev hs ?_)
  show wpAny _ _ (if (((items.size : Int) - 1) == 0 && (-1 : Int) == 1 && items.size == items.size) = true then _ else _) _ _ s
  rw [if_neg (by simp)]
  show wpAny _ _ (Builtin.Tuple.tupleExact ((List.range items.size).filterMap fun (k : Nat) => items[((items.size : Int) - 1 + (k : Int) * (-1)).toNat]?).toArray >>= _) _ _ s
  rw [rev_pick]
  have hz : sizeOk (.seq items.toList.reverse.toArray) := by
    show items.toList.reverse.toArray.size ≤ sizeLine
    simpa using hsz
  first
    | exact wpAny_bind (m := Builtin.Tuple.tupleExact _) (wpAny_newObj_type (wpAny_pure ⟨_, rfl, wpAny_pure h⟩) hz)
    | exact wpAny_bind (m := Builtin.Tuple.tupleExact _) (wpAny_newObj_type (wpAny_bind (wpAny_pure (wpAny_pure ⟨_, rfl, wpAny_pure h⟩))) hz)
/-- t[::-1] -/
def tRev (K : PySem.W.Frag) (te : TE) : TE := fun σ H Q => te σ H fun x H1 => ∃ a xs, x = .ref a ∧ SqT K H1 a xs ∧ ∀ p, H1 p = none → Q (.ref p) (upd H1 p (.tup xs.reverse))
theorem pe_rev {e : Expr} {te : TE} {j p1 p2 p3 pos} (he : PE X e te) : PE X (.Subscript e (.Slice none none (some (.UnaryOp .USub (.Constant (.int 1) j p1) p3)) p2) pos) (tRev X.K te) := by
  intro pins s σ H Q I h
  refine Subscript_ (thn (he pins s σ H _ I h) fun v s1 ⟨x, H1, I1, r1, q1⟩ => ?_)
  obtain ⟨a, xs, rfl, hx, q⟩ := q1
  cases r1
  refine wpAny_Slice (evalPart_none_step (evalPart_none_step (evalPart_some_step ?_)))
  refine thn (pe_un (X := X) un_neg pe_int pins s1 σ H1 (fun v H' => v = .int (-1) ∧ H' = H1) I1 ⟨1, rfl, rfl, rfl⟩) fun u s2 ⟨v2, H2, I2, r2, e1, e2⟩ => ?_
  subst e1 e2
  obtain ⟨tk, rfl⟩ := r2
  have I4 : Inv X pins σ H2 { s2 with heap := s2.heap.push { cls := .type "slice", data := .fields #[.none, .none, .int (-1) tk] } } := I2.kept (t' := s2.toks) fun b ob q => Heap.get?_push_of_some _ q
  obtain ⟨its, r, ht, hz⟩ := I4.tuple hx
  have hlen : its.toArray.size = xs.length := by rw [List.size_toArray]; exact r.length.symm
  refine tail_any (ops := [.ref a, .ref s2.heap.objs.size]) ht.typeIs PyProof.Rows.slot_tuple_getitem.lookup (getItem_tuple_rev ht (Heap.IsSliceOf.new ..) ?_ (by rw [hlen]; exact hz)) (by with_unfolding_all rfl)
  refine ⟨.ref _, _, I4.laid (t' := s2.toks) (o := .tup xs.reverse) (fun b ob q => Heap.get?_push_of_some _ q) (Nat.le_refl _) ?_, rfl, q _ (I4.hok.fresh (Nat.le_refl _))⟩
  exact ⟨by rw [List.length_reverse]; exact hz, its.reverse, r.reverse, IsTup.new _ _⟩

/-- () + u gives u itself -/
def rCatT0 (K : PySem.W.Frag) : R2 := fun x y H Q => ∃ a b ys, x = .ref a ∧ y = .ref b ∧ SqT K H a [] ∧ SqT K H b ys ∧ Q (.ref b) H
theorem op_catT0 : OpR X (binaryOp .Add) (rCatT0 X.K) := by
  intro pins s σ H x y v u Q I rx ry h
  obtain ⟨a, b, ys, rfl, rfl, ha, hb, q⟩ := h
  cases rx
  cases ry
  obtain ⟨its, r1, p1, _⟩ := I.tuple ha
  obtain ⟨its2, r2, p2, _⟩ := I.tuple hb
  cases r1
  obtain ⟨⟨cls, dd, data, sl⟩, ho, hc, n, hd⟩ := id p1
  obtain ⟨⟨cls2, dd2, data2, sl2⟩, ho2, hc2, n2, hd2⟩ := id p2
  simp only at hc hd hc2 hd2
  subst hc hd hc2 hd2
  exact concat_meets ⟨_, ho, rfl⟩ ⟨_, ho2, rfl⟩ noFill_tuple_add seq_tuple_add PySem.F.slot_tuple_add PySem.F.entry_tuple_add (PySem.F.args_tuple_add_2 _ _)
    (tuple_addW0 a b _ _ n n2 dd dd2 sl sl2 (by simp)) ⟨ho, ho2, ⟨.ref b, H, I, rfl, q⟩⟩
/-- t + u as a value -/
theorem cat_any {K : PySem.W.Frag} {x y : V} {H : Hp} {Q : VK} {a b : Addr} {xs ys : List V} (e : x = .ref a) (e' : y = .ref b) (h : SqT K H a xs) (h' : SqT K H b ys) (hz : xs.length + ys.length ≤ sizeLine)
    (q : ∀ p H', (∀ b o, H b = some o → H' b = some o) → SqT K H' p (xs ++ ys) → Q (.ref p) H') : rCatT K x y H Q ∨ rCatT0 K x y H Q := by
  cases xs with
  | nil => exact .inr ⟨a, b, ys, e, e', h, h', q b H (fun _ _ z => z) h'⟩
  | cons z zs =>
    refine .inl ⟨a, b, _, ys, e, e', h, h', by simp, hz, fun z' => q a H (fun _ _ z => z) (by rw [z', List.append_nil]; exact h), fun _ p hp => q p _ (fun b o z => by rw [upd_ne (ne_of_none z hp)]; exact z) (SqT.of upd_same)⟩
end
end L2
namespace L2
open PySem PySem.Spec PyProof.Rows
open AutoSeq1 (wpAny_loadPart')

/-! ### ranges as values -/
def RngO (a : Addr) (lo hi st : Int) : HO := .ext fun h => ∃ t u v, h.get? a = some { cls := .type "range", data := .fields #[.int lo t, .int hi u, .int st v] }
def rngL (lo st : Int) (n : Nat) : List Int := (List.range n).map fun (i : Nat) => lo + (i : Int) * st
theorem rngL_length (lo st : Int) (n : Nat) : (rngL lo st n).length = n := by simp [rngL]
theorem vals_items {lo st : Int} {n : Nat} {acc : Array Value} (h : ItemsOf (fun i v => ∃ t, v = .int (lo + i * st) t) acc n) : Vals ((rngL lo st n).map V.int) acc.toList := by
  obtain ⟨hs, hv⟩ := h
  have key : ∀ (l : List Value) (k : Nat), (∀ j v, l[j]? = some v → ∃ t, v = Value.int (lo + ((k + j : Nat) : Int) * st) t) → Vals (((List.range' k l.length).map fun (i : Nat) => lo + (i : Int) * st).map V.int) l := by
    intro l
    induction l with
    | nil => intro k _; exact .nil
    | cons a r ih =>
      intro k hk
      rw [List.length_cons, List.range'_succ, List.map_cons, List.map_cons]
      refine .cons ?_ (ih (k + 1) fun j v e => ?_)
      · obtain ⟨t, q⟩ := hk 0 a rfl
        exact ⟨t, by rw [q]; simp⟩
      · obtain ⟨t, q⟩ := hk (j + 1) v (by simpa using e)
        exact ⟨t, by rw [q]; congr 3; omega⟩
  have := key acc.toList 0 fun j v e => by
    obtain ⟨t, q⟩ := hv j v (by simpa using e)
    exact ⟨t, by rw [q]; simp⟩
  unfold rngL
  rw [List.range_eq_range', ← hs]
  simpa using this

section
variable {X : Cx}
theorem Inv.rng {pins : List (Addr × Obj)} {σ : St} {H : Hp} {s : Shared} {lo hi st : Int} {t u v : Tok} {tk : Nat} (I : Inv X pins σ H s) :
    Inv X pins σ (upd H s.heap.objs.size (RngO s.heap.objs.size lo hi st)) { s with heap := s.heap.push { cls := .type "range", data := .fields #[.int lo t, .int hi u, .int st v] }, toks := tk } := by
  refine I.laid (fun b o e => Heap.get?_push_of_some _ e) (Nat.le_refl _) ?_
  refine ⟨⟨t, u, v, Heap.get?_push_size _ rfl⟩, ⟨_, Heap.get?_push_size _ rfl⟩, fun h1 h2 ⟨a, b, c, e⟩ k => ⟨a, b, c, k _ e⟩⟩
theorem call_rng1 : CallR X (.type "range") (fun vs H Q => ∃ j, vs = [.int j] ∧ ∀ p, H p = none → Q (.ref p) (upd H p (RngO p 0 j 1))) := by
  intro pins s σ H xs us Q I r h
  obtain ⟨j, rfl, q⟩ := h
  obtain ⟨u, rfl, t, rfl⟩ := vals1 r
  exact call_range_1 ⟨.ref _, _, I.rng, rfl, q _ (I.hok.fresh (Nat.le_refl _))⟩
theorem call_rng2 : CallR X (.type "range") (fun vs H Q => ∃ i j, vs = [.int i, .int j] ∧ ∀ p, H p = none → Q (.ref p) (upd H p (RngO p i j 1))) := by
  intro pins s σ H xs us Q I r h
  obtain ⟨i, j, rfl, q⟩ := h
  obtain ⟨u, w', rfl, ⟨t, rfl⟩, ⟨t', rfl⟩⟩ := vals2 r
  exact call_range_2 ⟨.ref _, _, I.rng, rfl, q _ (I.hok.fresh (Nat.le_refl _))⟩
theorem call_rng3 : CallR X (.type "range") (fun vs H Q => ∃ i j k, vs = [.int i, .int j, .int k] ∧ k ≠ 0 ∧ (k.natAbs < 1073741824) ∧ ∀ p, H p = none → Q (.ref p) (upd H p (RngO p i j k))) := by
  intro pins s σ H xs us Q I r h
  obtain ⟨i, j, k, rfl, hk, hb, q⟩ := h
  cases r with
  | cons r1 r =>
    obtain ⟨t1, rfl⟩ := r1
    cases r with
    | cons r2 r =>
      obtain ⟨t2, rfl⟩ := r2
      cases r with
      | cons r3 r =>
        obtain ⟨t3, rfl⟩ := r3
        cases r
        exact call_range_3 hk ⟨.ref _, _, I.rng, rfl, q _ (I.hok.fresh (Nat.le_refl _))⟩ (.inl (PyProof.noPylong_small (by omega)))

/-- what is asked of a range that is made into a list or a tuple -/
structure RngOk (lo hi st : Int) (n : Nat) : Prop where
  sm : Builtin.Range.small lo hi st = true
  sz : Builtin.Range.rangeSize lo hi st = n
  le : n ≤ 2 ^ 20
theorem Inv.rngIs {pins : List (Addr × Obj)} {σ : St} {H : Hp} {s : Shared} {p : Addr} {lo hi st : Int} (I : Inv X pins σ H s) (h : H p = some (RngO p lo hi st)) : ∃ t u v, IsRange s.heap p lo hi st t u v := by
  obtain ⟨⟨t, u, v, e⟩, _⟩ := I.hok p _ h
  exact ⟨t, u, v, e⟩
theorem call_list_rng (hc : X.calm = true) : CallR X (.type "list") (fun vs H Q => ∃ p lo hi st n, vs = [.ref p] ∧ H p = some (RngO p lo hi st) ∧ RngOk lo hi st n ∧ ∀ l, H l = none → Q (.ref l) (upd H l (.lst ((rngL lo st n).map V.int)))) := by
  intro pins s σ H xs us Q I r h
  obtain ⟨p, lo, hi, st, n, rfl, hp, ok, q⟩ := h
  obtain ⟨u, rfl, rx⟩ := vals1 r
  cases rx
  obtain ⟨t, u, v, hr⟩ := I.rngIs hp
  have hn := ok.le
  refine call_list_range (I.ok.hd hc) hr ok.sm ok.sz (by omega) fun h' tk acc c kp e hi => ?_
  have hv := vals_items hi
  refine ⟨.ref s.heap.objs.size, _, I.laid (t' := tk) kp (Nat.le_refl _) (show ObjOk X.prog X.w _ h' _ (.lst _) from ⟨?_, acc.toList, c, hv, by simpa using e⟩), rfl, q _ (I.hok.fresh (Nat.le_refl _))⟩
  rw [List.length_map, rngL_length, sizeLine_eq]; omega
end

section
variable {prog : Program} {w : World} {A : Around} {E : Value → Shared → Prop} {s : Shared}
theorem collect_rng {Q : List Value → Shared → Prop} {r : Addr} {a b c : Int} {t u v : Tok} {n : Nat} (hh : A.handled = none) (hr : IsRange s.heap r a b c t u v) (ok : RngOk a b c n)
    (hQ : ∀ h' tk (acc : Array Value), (∀ b o, s.heap.get? b = some o → h'.get? b = some o) → ItemsOf (fun i v => ∃ t, v = .int (a + i * c) t) acc n → Q acc.toList { s with heap := h', toks := tk }) :
    wpAny (model prog w) A (collect (.ref r)) Q E s := by
  unfold collect
  refine wpAny_bind (wpAny_runValue (codeAny_builtin F.entry_proto_collect ?_))
  rw [Around.under_plainId F.plain_proto_collect _]
  show wpAny _ A.in1 (newList [] >>= fun l => again (.builtin "list.__iadd__" ⟨[l, .ref r], []⟩)) _ _ s
  refine wpAny_bind (wpAny_newObj_type (wpAny_pure ⟨plainId_quiet F.plain_list_iadd _, codeAny_builtin F.entry_list_iadd ?_⟩))
  rw [Around.under_plainId F.plain_list_iadd _]
  show wpAny _ A.in1 (Builtin.List.listExtendWith (.ref s.heap.objs.size) (.ref r) (.ref s.heap.objs.size)) _ _ _
  have hn := ok.le
  refine wpAny_mono (wpAny_extend_range (A := A) (R := fun z y => z = .ok (.ret (.ref s.heap.objs.size)) ∧ ∃ h' tk acc c', y = { s with heap := h', toks := tk } ∧ (∀ b o, s.heap.get? b = some o → h'.get? b = some o) ∧
      h'.get? s.heap.objs.size = some { cls := .type "list", dict := none, data := .seq acc c', slots := #[] } ∧ ItemsOf (fun i v => ∃ t, v = .int (a + i * c) t) acc n)
    (s := { s with heap := s.heap.push { cls := .type "list", data := .seq ([] : List Value).toArray } }) hh (Heap.get?_push_of_some _ hr) ok.sm ok.sz (by omega) _ _ 0 (Heap.get?_push_size _ rfl)
    (fun h' tk acc c' kp e hi => ⟨rfl, h', tk, acc, c', rfl, fun b o q => kp b o (Nat.ne_of_lt (Heap.lt_size q)) (Heap.get?_push_of_some _ q), e, hi⟩)) (fun fin y h => ?_) (fun e y h => ?_)
  · have last : ∀ y, (∃ h' tk acc c', y = { s with heap := h', toks := tk } ∧ (∀ b o, s.heap.get? b = some o → h'.get? b = some o) ∧
        h'.get? s.heap.objs.size = some { cls := .type "list", dict := none, data := .seq acc c', slots := #[] } ∧ ItemsOf (fun i v => ∃ t, v = .int (a + i * c) t) acc n) → wpAny (model prog w) A (match Value.ref s.heap.objs.size with
      | Value.ref a => do
        match (← load a).data with
          | Data.seq xs _ => pure xs.toList
          | _ => unsupported "internal:collect"
      | _ => unsupported "internal:collect") Q E y := by
      rintro y ⟨h', tk, acc, c', rfl, kp, e, hi⟩
      show wpAny _ A (load s.heap.objs.size >>= _) _ _ _
      refine wpAny_bind (wpAny_load e ?_)
      exact wpAny_pure (hQ h' tk acc kp hi)
    cases fin with
    | done f =>
      obtain ⟨e, h⟩ := h
      cases e
      exact last _ h
    | again c' => exact ⟨h.1, codeAny_mono h.2 fun r y hr => by obtain ⟨rfl, h⟩ := hr; exact last _ h⟩
  · exact absurd h.1 (by simp)

theorem tuple_rng {Q : Value → Shared → Prop} {r : Addr} {a b c : Int} {t u v : Tok} {n : Nat} (hh : A.handled = none) (hr : IsRange s.heap r a b c t u v) (ok : RngOk a b c n)
    (hQ : ∀ (h' : Heap) (tk : Nat) (acc : Array Value), (∀ b o, s.heap.get? b = some o → h'.get? b = some o) → ItemsOf (fun i v => ∃ t, v = .int (a + i * c) t) acc n → Q (.ref h'.objs.size) { s with heap := h'.push { cls := .type "tuple", data := .seq acc }, toks := tk }) :
    wpAny (model prog w) A (call (.type "tuple") [.ref r]) Q E s := by
  refine callType_codes (Q₁ := fun obj s₁ => s₁.TypeIs obj "tuple" ∧ Q obj s₁) F.called_tuple (F.typeCall_tuple_1 _) F.entry_object_init ?_ fun obj s₁ h₁ =>
    ⟨h₁.1, F.args_object_init_2 obj _, object_init_meets F.called_tuple.init.lookup F.called_tuple.made (by decide) prog w A.in1 _ s₁ ⟨h₁.1, rfl, h₁.2⟩⟩
  refine codeAny_of_tree ?_
  show wpAny _ A.in1.in1 (do checkBuiltinCall "tuple.__new__" ⟨[.type "tuple", .ref r], []⟩; again (.builtin "tuple.__new__" ⟨[.type "tuple", .ref r], []⟩)) _ _ s
  refine wpAny_bind (wpAny_of_eq (F.newCall_tuple_1 _) (wpAny_pure ⟨plainId_quiet F.plain_tuple_new _, codeAny_builtin F.entry_tuple_new ?_⟩))
  rw [Around.under_plainId F.plain_tuple_new _]
  have hsub := sub_tuple_self
  have hinit := init_tuple_lookup
  have hmh := madeHere_tuple
  have hT : s.TypeIs (.ref r) "range" := ⟨_, hr, rfl⟩
  have hh' : A.in1.in1.handled = none := by simp [hh]
  wp_walk using wpAny_typeOf hT, collect_rng hh' hr ok
  intro h' tk acc kp hi
  show wpAny _ _ (Builtin.Tuple.tupleExact acc.toList.toArray >>= fun v => ret v) _ _ _
  unfold Builtin.Tuple.tupleExact
  have hn := ok.le
  refine wpAny_bind (wpAny_newObj_type ?_ (by show acc.toList.toArray.size ≤ sizeLine; simp only [Array.toArray_toList]; rw [hi.1, sizeLine_eq]; omega))
  rw [show acc.toList.toArray = acc by simp]
  exact wpAny_pure ⟨⟨_, Heap.get?_push_size _ rfl, rfl⟩, hQ h' tk acc kp hi⟩
end
section
variable {X : Cx}
theorem call_tuple_rng (hc : X.calm = true) : CallR X (.type "tuple") (fun vs H Q => ∃ p lo hi st n, vs = [.ref p] ∧ H p = some (RngO p lo hi st) ∧ RngOk lo hi st n ∧ ∀ l, H l = none → Q (.ref l) (upd H l (.tup ((rngL lo st n).map V.int)))) := by
  intro pins s σ H xs us Q I r h
  obtain ⟨p, lo, hi, st, n, rfl, hp, ok, q⟩ := h
  obtain ⟨u, rfl, rx⟩ := vals1 r
  cases rx
  obtain ⟨t, u, v, hr⟩ := I.rngIs hp
  have hn := ok.le
  refine tuple_rng (I.ok.hd hc) hr ok fun h' tk acc kp hi => ?_
  have hv := vals_items hi
  have I1 : Inv X pins σ H { s with heap := h', toks := tk } := I.kept kp
  refine ⟨.ref h'.objs.size, _, I1.laid (t' := tk) (o := .tup _) (fun b ob q => Heap.get?_push_of_some _ q) (Nat.le_refl _) ⟨?_, acc.toList, hv, by simpa using IsTup.new h' acc⟩, rfl, q _ (I1.hok.fresh (Nat.le_refl _))⟩
  rw [List.length_map, rngL_length, sizeLine_eq]; omega
theorem rng_ok {a b : Int} (h1 : -1000000 ≤ a) (h2 : a ≤ 1000000) (h3 : -1000000 ≤ b) (h4 : b ≤ 1000000) (h : b - a ≤ 1000000) : RngOk a b 1 (b - a).toNat :=
  ⟨small_one (by omega) (by omega) (by omega) (by omega), by rw [rangeSize_one]; split <;> omega, by omega⟩

/-! ### repr -/
/-- the data at a value -/
inductive RdD (K : PySem.W.Frag) (H : Hp) : V → PyData → Prop
  | non : RdD K H .non .none
  | bl (b : Bool) : RdD K H (.bl b) (.bool b)
  | int (i : Int) : RdD K H (.int i) (.int i)
  | str (x : Str) : RdD K H (.str x) (.str x)
  | tup {a : Addr} {xs : List V} {ds : List PyData} (h : SqT K H a xs) (hl : xs.length = ds.length) (hx : ∀ (i : Nat) x d, xs[i]? = some x → ds[i]? = some d → RdD K H x d) : RdD K H (.ref a) (.tuple ds)
  | lst {a : Addr} {xs : List V} {ds : List PyData} (h : SqL K H a xs) (hl : xs.length = ds.length) (hx : ∀ (i : Nat) x d, xs[i]? = some x → ds[i]? = some d → RdD K H x d) : RdD K H (.ref a) (.list ds)
theorem readsAll_of {h : Heap} : ∀ {us : List Value} {ds : List PyData}, us.length = ds.length → (∀ (i : Nat) u d, us[i]? = some u → ds[i]? = some d → ∃ as, Reads h u d as) → ∃ as, ReadsAll h us ds as
  | [], [], _, _ => ⟨_, .nil⟩
  | [], _ :: _, hl, _ => by simp at hl
  | _ :: _, [], hl, _ => by simp at hl
  | u :: us, d :: ds, hl, hx => by
    obtain ⟨as, h1⟩ := hx 0 u d rfl rfl
    obtain ⟨bs, h2⟩ := readsAll_of (us := us) (ds := ds) (by simpa using hl) fun i u d e1 e2 => hx (i + 1) u d (by simpa using e1) (by simpa using e2)
    exact ⟨_, .cons h1 h2⟩
theorem Vals.get' {xs : List V} {us : List Value} {i : Nat} {u : Value} (r : Vals xs us) (h : us[i]? = some u) : ∃ x, xs[i]? = some x ∧ RelV x u := by
  have hl := r.length
  have hi : i < xs.length := by rw [hl]; exact (List.getElem?_eq_some_iff.mp h).1
  obtain ⟨u', e1, e2⟩ := r.get (List.getElem?_eq_getElem hi)
  rw [h] at e1; cases e1
  exact ⟨_, List.getElem?_eq_getElem hi, e2⟩
theorem Inv.reads {pins : List (Addr × Obj)} {σ : St} {H : Hp} {s : Shared} (I : Inv X pins σ H s) {x : V} {d : PyData} (r : RdD X.K H x d) : ∀ u, RelV x u → ∃ as, Reads s.heap u d as := by
  induction r with
  | non => intro u ru; cases (show u = Value.none from ru); exact ⟨_, .none⟩
  | bl b => intro u ru; cases (show u = Value.bool b from ru); exact ⟨_, .bool b⟩
  | int i => intro u ru; obtain ⟨t, q⟩ := (show ∃ t, u = Value.int i t from ru); cases q; exact ⟨_, .int i t⟩
  | str y => intro u ru; obtain ⟨t, q⟩ := (show ∃ t, u = Value.str y t from ru); cases q; exact ⟨_, .str y t⟩
  | @tup a xs ds h hl hx ih =>
    intro u ru
    cases (show u = Value.ref a from ru)
    obtain ⟨its, rv, p, hz⟩ := I.tuple h
    obtain ⟨o, ho, hc, n, hd⟩ := p
    obtain ⟨as, ra⟩ := readsAll_of (h := s.heap) (us := its) (ds := ds) (by rw [← rv.length, hl]) fun i u d e1 e2 => by
      obtain ⟨y, e3, ry⟩ := rv.get' e1
      exact ih i y d e3 e2 u ry
    exact ⟨_, .tuple ho hc hd (by simpa using ra)⟩
  | @lst a xs ds h hl hx ih =>
    intro u ru
    cases (show u = Value.ref a from ru)
    obtain ⟨its, rv, p, hz⟩ := I.list h
    obtain ⟨o, ho, hc, n, hd⟩ := p.isList
    obtain ⟨as, ra⟩ := readsAll_of (h := s.heap) (us := its) (ds := ds) (by rw [← rv.length, hl]) fun i u d e1 e2 => by
      obtain ⟨y, e3, ry⟩ := rv.get' e1
      exact ih i y d e3 e2 u ry
    exact ⟨_, .list ho hc hd (by simpa using ra)⟩
/-- repr of a list or a tuple -/
theorem call_repr (hg : X.A.guards = some []) (hu : X.A.units + 64 < cLine) : CallR X (.builtin "repr") (fun vs H Q => ∃ p d, vs = [.ref p] ∧ RdD X.K H (.ref p) d ∧ d.showable = true ∧ d.hasDict = false ∧ d.depth ≤ 60 ∧ d.shown.length ≤ sizeLine ∧ Q (.str d.shown) H) := by
  intro pins s σ H xs us Q I r h
  obtain ⟨p, d, rfl, rd, hs, hd, hdp, hz, q⟩ := h
  obtain ⟨u, rfl, rx⟩ := vals1 r
  cases rx
  obtain ⟨as, ra⟩ := I.reads rd (.ref p) rfl
  exact repr_of_reads' ra hs (PyData.noDict_hsm hd) hg (by omega) (fun _ _ e => e) (fun h' u tk kp => ⟨.str d.shown, H, I.kept kp, ⟨_, rfl⟩, q⟩) hz
theorem call_reprI : CallR X (.builtin "repr") (fun vs H Q => ∃ i, vs = [.int i] ∧ i.natAbs.log2 < 1920 ∧ Q (.str (toString i)) H) := by
  intro pins s σ H xs us Q I r h
  obtain ⟨i, rfl, hi, q⟩ := h
  obtain ⟨u, rfl, t, rfl⟩ := vals1 r
  exact PySem.P.repr_of_int hi ⟨.str (toString i), H, I.tok _, ⟨_, rfl⟩, q⟩
end
end L2
namespace L2
open PySem PySem.Spec PyProof.Rows

/-! ### comprehensions in the forms one uses -/
theorem filt_succ {α : Type} (p : Nat → Bool) (f : Nat → α) (i : Nat) : ((List.range (i + 1)).filter p).map f = ((List.range i).filter p).map f ++ (if p i then [f i] else []) := by
  rw [List.range_succ, List.filter_append, List.map_append]
  congr 1
  cases h : p i <;> simp [h]
theorem filt_len {α : Type} (p : Nat → Bool) (f : Nat → α) (i : Nat) : (((List.range i).filter p).map f).length ≤ i := by
  rw [List.length_map]
  exact Nat.le_trans (List.length_filter_le _ _) (by simp)
/-- over a range, nothing changed by test and element -/
theorem comp_rng {lo : Int} {n : Nat} {tt : TT} {te : TE} {σ' : V → St} {H1 : Hp} {acc : Addr} {Q : VK} (p : Nat → Bool) (f : Nat → V) (hn : n ≤ 1000000)
    (ht : ∀ i ys R, i < n → R (p i) (upd H1 acc (.lst ys)) → tt (σ' (.int (lo + i))) (upd H1 acc (.lst ys)) R)
    (he : ∀ i ys R, i < n → p i = true → R (f i) (upd H1 acc (.lst ys)) → te (σ' (.int (lo + i))) (upd H1 acc (.lst ys)) R)
    (q : Q (.ref acc) (upd H1 acc (.lst (((List.range n).filter p).map f)))) : CompW (Itr lo n) tt te σ' acc H1 Q := by
  refine ⟨fun i m ys H => m = n - i ∧ i ≤ n ∧ ys = ((List.range i).filter p).map f ∧ H = upd H1 acc (.lst ys), ⟨n, by simp, Nat.zero_le _, rfl, rfl⟩, ?_⟩
  rintro i m ys H ⟨rfl, hi, hy, rfl⟩
  by_cases hlt : i < n
  · refine .inr ⟨hlt, fun x H' y => ?_⟩
    obtain ⟨e, y⟩ := y
    subst e y
    refine ht i ys _ hlt ?_
    cases hp : p i with
    | true =>
      refine iteT (he i ys _ hlt hp ⟨upd_same, ?_, n - (i + 1), by omega, rfl, hlt, ?_, by rw [upd_upd]⟩)
      · have := filt_len p f i
        rw [hy, sizeLine_eq]; omega
      · rw [filt_succ, hp, if_pos rfl, hy]
    | false => exact iteF ⟨n - (i + 1), by omega, rfl, hlt, by rw [filt_succ, hp, hy]; simp, rfl⟩
  · have e : i = n := by omega
    subst e
    exact .inl ⟨Nat.le_refl _, by rw [hy]; exact q⟩
/-- over a range, no test, by an invariant of the items so far and the heap (without the list) -/
theorem comp_rngI {lo : Int} {n : Nat} {te : TE} {σ' : V → St} {H1 : Hp} {acc : Addr} {Q : VK} (Pv : Nat → List V → Hp → Prop) (hn : n ≤ 1000000)
    (h0 : Pv 0 [] (upd H1 acc (.lst [])))
    (hs : ∀ i ys H (R : VK), i < n → ys.length = i → H acc = some (.lst ys) → Pv i ys H → (∀ y H3, H3 acc = some (.lst ys) → Pv (i + 1) (ys ++ [y]) (upd H3 acc (.lst (ys ++ [y]))) → R y H3) → te (σ' (.int (lo + i))) H R)
    (hd : ∀ ys H, ys.length = n → H acc = some (.lst ys) → Pv n ys H → Q (.ref acc) H) : CompW (Itr lo n) tTrue te σ' acc H1 Q := by
  refine ⟨fun i m ys H => m = n - i ∧ i ≤ n ∧ ys.length = i ∧ H acc = some (.lst ys) ∧ Pv i ys H, ⟨n, by simp, Nat.zero_le _, rfl, upd_same, h0⟩, ?_⟩
  rintro i m ys H ⟨rfl, hi, hy, ha, pv⟩
  by_cases hlt : i < n
  · refine .inr ⟨hlt, fun x H' y => ?_⟩
    obtain ⟨e, y⟩ := y
    subst e y
    dsimp only [tTrue]
    rw [if_pos rfl]
    refine (hs i ys _ _ hlt hy ha pv fun y H3 q1 q2 => ⟨q1, ?_, n - (i + 1), by omega, rfl, hlt, by rw [List.length_append, hy]; rfl, upd_same, q2⟩)
    rw [hy, sizeLine_eq]; omega
  · have e : i = n := by omega
    subst e
    exact .inl ⟨Nat.le_refl _, hd ys H hy ha pv⟩
/-- over a list that stays, no test -/
theorem comp_lstI {K : PySem.W.Frag} {a : Addr} {xs : List V} {te : TE} {σ' : V → St} {H1 : Hp} {acc : Addr} {Q : VK} (Pv : Nat → List V → Hp → Prop) (hn : xs.length ≤ 1000000)
    (h0 : Pv 0 [] (upd H1 acc (.lst []))) (hl : ∀ i ys H, Pv i ys H → SqL K H a xs)
    (hs : ∀ i x ys H (R : VK), xs[i]? = some x → ys.length = i → H acc = some (.lst ys) → Pv i ys H → (∀ y H3, H3 acc = some (.lst ys) → Pv (i + 1) (ys ++ [y]) (upd H3 acc (.lst (ys ++ [y]))) → R y H3) → te (σ' x) H R)
    (hd : ∀ ys H, ys.length = xs.length → H acc = some (.lst ys) → Pv xs.length ys H → Q (.ref acc) H) : CompW (Itl K a) tTrue te σ' acc H1 Q := by
  refine ⟨fun i m ys H => m = xs.length - i ∧ i ≤ xs.length ∧ ys.length = i ∧ H acc = some (.lst ys) ∧ Pv i ys H, ⟨xs.length, by simp, Nat.zero_le _, rfl, upd_same, h0⟩, ?_⟩
  rintro i m ys H ⟨rfl, hi, hy, ha, pv⟩
  have hq := hl i ys H pv
  by_cases hlt : i < xs.length
  · refine .inr ⟨⟨xs, xs[i], hq, by simp [hlt]⟩, fun x H' y => ?_⟩
    obtain ⟨e, y⟩ := y
    subst e
    dsimp only [tTrue]
    rw [if_pos rfl]
    refine (hs i x ys _ _ (y xs hq) hy ha pv fun y H3 q1 q2 => ⟨q1, ?_, xs.length - (i + 1), by omega, rfl, hlt, by rw [List.length_append, hy]; rfl, upd_same, q2⟩)
    rw [hy, sizeLine_eq]; omega
  · have e : i = xs.length := by omega
    subst e
    exact .inl ⟨⟨xs, hq, Nat.le_refl _⟩, hd ys H hy ha pv⟩
theorem unl_nodup {ns : List Int} (h : ns.Nodup) : (unl ns).length = ns.length := by
  have key : ∀ (l acc : List Int), (acc ++ l).Nodup → l.foldl step_dedup acc = acc ++ l := by
    intro l
    induction l with
    | nil => intro acc _; simp
    | cons a r ih =>
      intro acc hn
      have h1 : a ∉ acc := by
        have := List.nodup_append.mp hn
        exact fun hm => this.2.2 a hm a (by simp) rfl
      have e : step_dedup acc a = acc ++ [a] := by
        unfold step_dedup
        have : acc.any (· == a) = false := by
          rw [Bool.eq_false_iff]
          intro z
          obtain ⟨x, hx, e⟩ := List.any_eq_true.mp z
          have : x = a := by simpa using e
          exact h1 (this ▸ hx)
        simp [this]
      rw [List.foldl_cons, e, ih (acc ++ [a]) (by rw [List.append_assoc]; exact hn), List.append_assoc]
      rfl
  have e : (List.range ns.length).map (fun i => ns.getD i 0) = ns := by
    apply List.ext_getElem
    · simp
    · intro i h1 h2
      simp [List.getD_eq_getElem?_getD, List.getElem?_eq_getElem h2]
  unfold unl firstMet
  rw [e, key ns [] (by simpa using h)]
  rfl
end L2
namespace L2
open PySem PySem.Spec PyProof.Rows
theorem comp_gen {X : Cx} {use : Option (Value → Sem Unit)} {Q2 : Value → Shared → Prop} {pins : List (Addr × Obj)} {s : Shared} {σ : St} {H : Hp} {Q : VK} {elt iter : Expr} {x : Str} {px : Pos} {ifs : List Expr} {scope osc : Scope} {pos : Pos} {wi : TI} {tt : TT} {te : TE} (ix : List Nat) (N' : List Str)
    (hxe : X.xe = fun _ _ => False) (hc : X.calm = true) (ho : X.env.scope = osc) (hN : N' = x :: ix.map fun i => (X.N[i]?).getD x) (hnd : N'.Nodup)
    (hall : (∀ y ∈ scope.names, y.2 = .free → osc.names.lookup y.1 = some .cell) ∧ (∀ y ∈ scope.names, y.2 ≠ .cell) ∧ scope.kind = .function ∧ (∀ y ∈ scope.names, y.2 = .local → scope.names.lookup y.1 = some .local) ∧ scope.names.lookup x = some .local ∧ (∀ y ∈ N'.tail, scope.names.lookup y = some .free))
    (hi : PI X (.Name x px) iter wi)
    (ht : ∀ cl C s₀ H₀ fp, PTs (cxComp X scope cl C s₀ H₀ fp N') ifs tt)
    (he : ∀ cl C s₀ H₀ fp, PE (cxComp X scope cl C s₀ H₀ fp N') elt te)
    (hs : ∀ x, foldedSetIterable iter X.env x = pure x) (I : Inv X pins σ H s) (h : tComp wi ix tt te σ H Q)
    (hfin : ∀ (acc C : Addr) (H5 : Hp) (s5 : Shared) (o : Obj), Inv X (pins ++ [(C, o)]) σ H5 s5 → (∀ x c, X.env.cells.lookup x = some c → c ≠ C) → X.s₀.heap.objs.size ≤ C → (∀ p ∈ X.pn ++ pins, p.1 ≠ C) → (∃ m, ∀ h' : Heap, h'.get? C = some o → h'.Ns C m) → Q (.ref acc) H5 → compPost (model X.prog X.w) X.A X.xe use Q2 (.ref acc) C (.ok .next) s5) :
    wpAny (model X.prog X.w) X.A (comprehension (.ListComp elt [⟨.Name x px, iter, ifs, 0⟩] scope pos) scope X.env (firstIterPos [⟨.Name x px, iter, ifs, 0⟩] pos) (newList []) false (eval iter X.env) use) Q2 X.xe s := by
  obtain ⟨hfr, hcell, hkind, hnames, hx, hcap⟩ := hall
  subst ho
  have outc : ∀ y ∈ scope.names, y.2 = .free → X.env.kindOf y.1 = some .cell := fun y hy q => hfr y hy q
  obtain ⟨cl, hclos, hcl1, hcl2⟩ := closureFor_of (env := X.env) (scope := scope) fun y hy q => I.ok.has y.1 (.inl (outc y hy q))
  refine wpAny_comprehension_free (use := use) rfl hs hclos hkind hnames (thn (hi pins s σ H _ I h) fun v s1 h1 => thn h1 fun itv s2 h2 => ?_)
  obtain ⟨it, fp, tn, J, H2, e, I2, T, st2, f2, rest⟩ := h2
  subst e
  have hf2 : H2 s2.heap.objs.size = none := I2.hok.fresh (Nat.le_refl _)
  obtain ⟨W, ⟨m0, w0⟩, turn⟩ := rest s2.heap.objs.size hf2
  -- the list
  refine wpAny_newObj_type ?_
  have I3 : Inv X pins σ (upd H2 s2.heap.objs.size (.lst [])) { s2 with heap := s2.heap.push { cls := .type "list", dict := none, data := .seq ([] : List Value).toArray } } := I2.lnew (its := []) (t' := s2.toks) .nil (Nat.zero_le _)
  have keep3 : ∀ b o, s2.heap.get? b = some o → (s2.heap.push { cls := .type "list", dict := none, data := .seq ([] : List Value).toArray }).get? b = some o := fun b o q => Heap.get?_push_of_some _ q
  have fp3 : ∀ b ∈ fp, ∃ o, s2.heap.get? b = some o ∧ ∀ v, o.data ≠ .cell v := T.obj _ _ st2
  have st3 : tn 0 (s2.heap.push { cls := .type "list", dict := none, data := .seq ([] : List Value).toArray }) := T.keep _ _ _ st2 fun b _ o q => keep3 b o q
  have fpn : ∀ b ∈ fp, (upd H2 s2.heap.objs.size (HO.lst [])) b = none := fun b hb => by
    obtain ⟨o, q, _⟩ := fp3 b hb
    rw [upd_ne (Nat.ne_of_lt (Heap.lt_size q))]
    exact (f2 b hb).1
  revert I3 keep3 st3 fpn w0
  generalize hS3 : ({ s2 with heap := s2.heap.push { cls := .type "list", dict := none, data := .seq ([] : List Value).toArray } } : Shared) = s3
  generalize hH3 : upd H2 s2.heap.objs.size (HO.lst []) = H3
  intro w0 I3 keep3 st3 fpn
  have acc3 : H3 s2.heap.objs.size = some (.lst []) := by rw [← hH3]; exact upd_same
  generalize s2.heap.objs.size = acc at *
  have e3 : s2.heap.push { cls := .type "list", dict := none, data := .seq ([] : List Value).toArray } = s3.heap := by rw [← hS3]
  have keep3' : ∀ b o, s2.heap.get? b = some o → s3.heap.get? b = some o := fun b o q => by rw [← e3]; exact keep3 b o q
  have st3' : tn 0 s3.heap := by rw [← e3]; exact st3
  refine wpAny_newFunctionEnv hcell (by intro y hy; simp at hy) (fun h₁ hns₁ hsb₁ => ?_) hkind
  have hC : s3.heap.objs.size = s3.heap.objs.size := rfl
  have keep4 : ∀ b o, s3.heap.get? b = some o → h₁.get? b = some o := fun b o q => hsb₁.extBut b o (Nat.ne_of_lt (Heap.lt_size q)) (Heap.get?_push_of_some _ q)
  have fpC : ∀ b ∈ fp, b ≠ s3.heap.objs.size := fun b hb => by
    obtain ⟨o, q, _⟩ := fp3 b hb
    exact Nat.ne_of_lt (Heap.lt_size (keep3' b o q))
  -- the block's context
  generalize hX' : cxComp X scope cl s3.heap.objs.size s3 H3 fp N' = X'
  have hXp : X'.prog = X.prog := by rw [← hX']; rfl
  have hXw : X'.w = X.w := by rw [← hX']; rfl
  have hXK : X'.K = X.K := by rw [← hX']; rfl
  have hXA : X'.A = X.A := by rw [← hX']; rfl
  have hXe : X'.env = compEnvC scope cl s3.heap.objs.size X.env := by rw [← hX']; rfl
  have hXc : X'.calm = true := by rw [← hX']; exact hc
  have hXx : X'.xe = fun _ _ => False := by rw [← hX']; exact hxe
  have hXf : X'.fs = frs X.stack := by rw [← hX']; rfl
  have hXex : X'.ex = fp := by rw [← hX']; rfl
  have hXN : X'.N = N' := by rw [← hX']; rfl
  have hXs : X'.s₀ = s3 := by rw [← hX']; rfl
  have hXH : X'.H₀ = H3 := by rw [← hX']; rfl
  have hXpn : X'.pn = [] := by rw [← hX']; rfl
  have okX : X'.Ok := by
    rw [← hX']
    refine ⟨I3.ok.mod, hkind, I3.ok.glob, I3.ok.blt, Nat.le_refl _, fun a b c p q => I3.ok.inj a b c (hcl1 a c p) (hcl1 b c q), fun y hy => ?_, fun _ _ z => (by cases z), I3.ok.hd, I3.ok.frames, .inl rfl, fun b hb => ⟨fpC b hb, fun y c p => (f2 b hb).2.2.2.2.1 y c (hcl1 y c p)⟩,
      I3.bs, Nat.le_trans I3.ok.bsz I3.sz, fun b o p hb => ?_, fun b hb z => ?_, I3.stack, I3.stkFree⟩
    · have hy' : (relabel scope X.env).names.lookup y = some .cell ∨ (relabel scope X.env).names.lookup y = some .free := hy
      have free : scope.names.lookup y = some .free → ∃ c, cl.lookup y = some c := fun q => hcl2 y (lookup_mem q)
      rcases hy' with q | q
      · rcases relabel_kind q with z | ⟨z, _⟩
        · exact absurd rfl (hcell _ (lookup_mem z))
        · exact free z
      · rcases relabel_kind q with z | ⟨_, z⟩
        · exact free z
        · cases z
    · rcases (f2 b hb).2.2.2.1 with z | z
      · exact I3.ok.noex b o p z
      · exact absurd (Nat.lt_of_lt_of_le (Heap.lt_size p) (Nat.le_trans I3.ok.bsz z)) (Nat.lt_irrefl _)
    · rcases List.mem_cons.mp (I3.stkSub b z) with q | q
      · exact (f2 b hb).2.1 q
      · exact (f2 b hb).2.2.1 q
  have I4 : ∀ tk, Inv X' [] (capσ ix σ) H3 { s3 with heap := h₁, toks := tk } := fun tk => by
    have hloc := I3.loc
    refine ⟨okX, by rw [hXs], I3.bare, ?_, ⟨fun y => ([] : List (Str × Value)).reverse.lookup y, by rw [hXe]; exact hns₁, fun i y v e1 e2 e3 => ?_⟩, fun y c p => ?_, ?_, fun y c p => ?_, fun p hp => ?_, ?_, ?_⟩
    · rw [hXf, hXex, hXH, hXs]; exact Un.kept keep4
    · rw [hXN, hN] at e1
      cases i with
      | zero => simp [capσ] at e2
      | succ j =>
        have e1' : (ix.map fun i => (X.N[i]?).getD x)[j]? = some y := by simpa using e1
        have e2' : (ix.map fun i => (σ[i]?).join)[j]? = some (some v) := by simpa [capσ] using e2
        rw [List.getElem?_map] at e1' e2'
        cases hj : ix[j]? with
        | none => rw [hj] at e1'; cases e1'
        | some i0 =>
          rw [hj] at e1' e2'
          have e1'' : (X.N[i0]?).getD x = y := by simpa using e1'
          have e2'' : (σ[i0]?).join = some v := by simpa using e2'
          have hsv : σ[i0]? = some (some v) := by
            cases q : σ[i0]? with
            | none => rw [q] at e2''; cases e2''
            | some z => rw [q] at e2''; have : z = some v := by simpa using e2''
                        rw [this]
          have hlt : i0 < X.N.length := by
            have := (List.getElem?_eq_some_iff.mp hsv).1
            rw [I3.len] at this; exact this
          have hNy : X.N[i0]? = some y := by
            rw [List.getElem?_eq_getElem hlt] at e1'' ⊢
            simpa using e1''
          have hyt : y ∈ N'.tail := by
            rw [hN]
            exact List.mem_of_getElem? (by simpa using e1)
          have hyf := hcap y hyt
          have hyc := outc (y, .free) (lookup_mem hyf) rfl
          obtain ⟨m, hn, hl⟩ := hloc
          obtain ⟨u, r, l⟩ := hl i0 y v hNy hsv (.inr (.inl hyc))
          refine ⟨u, r, ?_⟩
          rcases l with ⟨k1, _⟩ | ⟨_, c, p, z⟩
          · have hyc' : X.env.kindOf y = some .cell := hyc
            rw [k1] at hyc'; cases hyc'
          · obtain ⟨c', p'⟩ := hcl2 y (lookup_mem hyf)
            have pc : c' = c := by
              have := hcl1 y c' p'
              rw [p] at this; cases this; rfl
            subst pc
            refine .inr ⟨.inl ?_, c', by rw [hXe]; exact p', ?_⟩
            · rw [hXe]; exact lookup_relabel_free I3.ok.kind hyf hyc
            · obtain ⟨o, q1, q2⟩ := z
              exact ⟨o, keep4 c' o q1, q2⟩
    · rw [hXe] at p
      obtain ⟨v, o, q1, q2⟩ := I3.cell y c (hcl1 y c p)
      exact ⟨v, o, keep4 c o q1, q2⟩
    · rw [hXe]; exact I3.hok.fresh (Nat.le_refl _)
    · rw [hXe] at p; exact I3.freeC y c (hcl1 y c p)
    · rw [hXpn] at hp; cases hp
    · rw [hXp, hXw]; exact I3.hok.kept keep4
    · rw [hXN, hN]; simp [capσ]
  -- the loop
  have stat : ∀ {H' : Hp}, (∀ b ∈ fp, H' b = none) → ∀ b ∈ fp, FpOk X' [] H' b := fun hn b hb => by
    refine ⟨hn b hb, by rw [hXe]; exact fpC b hb, ?_, .inl (by rw [hXex]; exact hb), fun y c p => ?_, fun p hp => by rw [hXpn] at hp; cases hp⟩
    · rw [hXf]; intro z
      rcases List.mem_cons.mp (I3.stkSub b z) with q | q
      · exact (f2 b hb).2.1 q
      · exact (f2 b hb).2.2.1 q
    · rw [hXe] at p; exact (f2 b hb).2.2.2.2.1 y c (hcl1 y c p)
  have fin : ∀ {H5 : Hp} {s5 : Shared} {σ5 : St}, Inv X' [] σ5 H5 s5 → Q (.ref acc) H5 → compPost (model X.prog X.w) X.A X.xe use Q2 (.ref acc) s3.heap.objs.size (.ok .next) s5 := fun {H5 s5 σ5} I5 q => by
    obtain ⟨m, hn, _⟩ := I5.loc
    rw [hXe] at hn
    have hn' : s5.heap.Ns s3.heap.objs.size m := hn
    obtain ⟨oC, esC, epC, hC1, hC2, hC3⟩ := hn'
    have u5 := I5.base
    rw [hXf, hXex, hXH, hXs] at u5
    have fr : H5 s3.heap.objs.size = none := by have := I5.free; rw [hXe] at this; exact this
    have hok5 := I5.hok
    rw [hXp, hXw] at hok5
    have hos : s5.os = s3.os := by have := I5.os; rw [hXs] at this; exact this
    have IX : Inv X pins σ H5 s5 := I3.call' (s' := s5) (ch := fp) hos u5 hok5 I5.bare (fun b hb => by
      obtain ⟨g0, g1, g2, g3, g4, g5⟩ := f2 b hb
      exact ⟨g3, g1, g4, g5⟩)
    have cC : ∀ x c, X.env.cells.lookup x = some c → c ≠ s3.heap.objs.size := fun x c z e => by
      obtain ⟨v, q⟩ := I3.cell x c z
      exact absurd q.lt (by rw [e]; exact Nat.lt_irrefl _)
    have pC : ∀ p ∈ X.pn ++ pins, p.1 ≠ s3.heap.objs.size := fun p hp e => by
      have := Heap.lt_size (I3.pin p hp).1
      rw [e] at this
      exact Nat.lt_irrefl _ this
    refine hfin acc s3.heap.objs.size H5 s5 oC (IX.pins_of fun p hp => ?_) cC I3.sz pC ⟨m, fun h' z => ⟨oC, esC, epC, z, hC2, hC3⟩⟩ q
    rcases List.mem_append.mp hp with z | z
    · exact IX.pin p (List.mem_append_right _ z)
    · have e := List.mem_singleton.mp z
      subst e
      refine ⟨hC1, fr, Nat.ne_of_gt I3.lt, I3.nofs (Nat.le_refl _), fun v e => ?_⟩
      have e' : oC.data = .cell v := e
      rw [hC2] at e'; cases e'
  have loop : ∀ tk, codeAny (model X.prog X.w) X.A (.compLoop (.ListComp elt [⟨.Name x px, iter, ifs, 0⟩] scope pos) 0 (.ref it) (.ref acc) (compEnvC scope cl s3.heap.objs.size X.env))
      (compPost (model X.prog X.w) X.A X.xe use Q2 (.ref acc) s3.heap.objs.size) { s3 with heap := h₁, toks := tk } := fun tk => by
    refine compLoop_go (fun n s' => ∃ i ys σ' H', Inv X' [] σ' H' s' ∧ (∃ v, σ' = (capσ ix σ).set 0 v) ∧ tn i s'.heap ∧ (∀ b ∈ fp, H' b = none) ∧ W i n ys H') (fun n s5 h5 => ?_) m0
      ⟨0, [], capσ ix σ, H3, I4 tk, ⟨none, rfl⟩, T.keep _ _ _ st3' fun b _ o q => keep4 b o q, fpn, w0⟩
    obtain ⟨i, ys, σ5, H5, I5, ⟨v5, hσ⟩, st5, fr5, w5⟩ := h5
    rcases turn i n ys H5 w5 with ⟨stop, q⟩ | ⟨go, step⟩
    · have d := T.done X' hXp hXw hXK hXc i [] s5 σ5 H5 (fun _ _ => False) I5 (stat fr5) st5 stop
      rw [hXA] at d
      refine thn d fun r s6 ⟨hr, I6⟩ => ?_
      subst hr
      exact fin I6 q
    · have d := T.item X' hXp hXw hXK hXc i [] s5 σ5 H5 (fun _ _ => False) I5 (stat fr5) st5 go
      rw [hXA] at d
      refine thn d fun r s6 ⟨u, hr, h6⟩ => ?_
      subst hr
      refine thn h6 fun _ s7 ⟨z, H7, I7, r7, y7, st7, fr7⟩ => ?_
      have I7' := I7.pinned (stat fr7) (T.obj _ _ st7)
      have again : ∀ {H9 : Hp} {s9 : Shared} {ys9 : List V} {v9 : Option V}, Inv X' ([] ++ pinsAt fp s7.heap) ((capσ ix σ).set 0 v9) H9 s9 → (∃ m', m' < n ∧ W (i + 1) m' ys9 H9) → ∃ m', m' < n ∧ ∃ i ys σ' H', Inv X' [] σ' H' s9 ∧ (∃ v, σ' = (capσ ix σ).set 0 v) ∧ tn i s9.heap ∧ (∀ b ∈ fp, H' b = none) ∧ W i m' ys H' := fun {H9 s9 ys9 v9} I9 ⟨m', hm, w9⟩ => by
        refine ⟨m', hm, i + 1, ys9, _, H9, I9.unpinned, ⟨v9, rfl⟩, T.keep _ _ _ st7 fun b hb o e => (I9.pin (b, o) (List.mem_append_right _ (List.mem_append_right _ (mem_pinsAt hb e)))).1, fun b hb => ?_, w9⟩
        obtain ⟨o, e, _⟩ := T.obj _ _ st7 b hb
        exact (I9.pin (b, o) (List.mem_append_right _ (List.mem_append_right _ (mem_pinsAt hb e)))).2.1
      have es : σ5.set 0 (some z) = (capσ ix σ).set 0 (some z) := by rw [hσ]; simp [List.set_set]
      have ht' := ht cl s3.heap.objs.size s3 H3 fp
      have he' := he cl s3.heap.objs.size s3 H3 fp
      rw [hX'] at ht' he'
      rw [← hXe]
      refine wpAny_assign_Name (store_ok (X := X') (i := 0) I7' (by rw [hXN]; exact hnd) (by rw [hXN, hN]; rfl) (.inl ?_) r7 (fun s8 I8 => ?_) (.inr ?_))
      · rw [hXe]; exact lookup_relabel_local hx
      · rw [es] at I8
        have a1 := ht' _ s8 _ H7 _ I8 (step z H7 y7)
        rw [hXp, hXw, hXA, hXx] at a1
        refine thn a1 fun b s9 ⟨H9, I9, q9⟩ => ?_
        cases b with
        | false => exact again I9 q9
        | true =>
          have a2 := he' _ s9 _ H9 _ I9 q9
          rw [hXp, hXw, hXA, hXx] at a2
          refine thn a2 fun yv s10 ⟨y, H10, I10, r10, q1, q2, q3⟩ => ?_
          have a3 := mt_append (X := X') _ s10 _ H10 (.ref acc) [y] (.ref acc) [yv] (fun _ Hq => ∃ m', m' < n ∧ W (i + 1) m' (ys ++ [y]) Hq) I10 rfl (.cons r10 .nil) ⟨acc, ys, y, rfl, rfl, q1, q2, q3⟩
          rw [hXp, hXw, hXA, hXx] at a3
          exact thn a3 fun _ s11 ⟨_, H11, I11, _, q11⟩ => again I11 q11
      · rw [hXe]; exact lookup_relabel_local hx
  refine codeAny_compStart_list (loop _) ?_
  exact T.self _ 0 _ _ _ (T.keep _ _ _ st3' fun b _ o q => keep4 b o q) (loop _)

/-- the block's frame is let go -/
theorem Inv.butC {X : Cx} {pins : List (Addr × Obj)} {σ : St} {H : Hp} {s : Shared} {C : Addr} {o : Obj} {h' : Heap} (I : Inv X (pins ++ [(C, o)]) σ H s) (cC : ∀ x c, X.env.cells.lookup x = some c → c ≠ C) (hC : X.s₀.heap.objs.size ≤ C) (pC : ∀ p ∈ X.pn ++ pins, p.1 ≠ C) (hs : Heap.SameBut C s.heap h') : Inv X pins σ H { s with heap := h' } := by
  have kb : ∀ b u, b ≠ C → s.heap.get? b = some u → h'.get? b = some u := fun b u hb z => hs.extBut b u hb z
  obtain ⟨q0, q1, q2, q3, q4⟩ := I.pin (C, o) (List.mem_append_right _ (List.mem_append_right _ (List.mem_singleton.mpr rfl)))
  have J : Inv X pins σ H s := I.pins_of fun p hp => I.pin p (List.mem_append_right _ (List.mem_append_left _ hp))
  refine J.call' (s' := { s with heap := h' }) (ch := [C]) rfl ⟨fun b u z n a c => kb b u (fun e => c (by rw [e]; exact List.mem_singleton.mpr rfl)) z, fun b u z n a c => ⟨u.slots, kb b _ (fun e => c (by rw [e]; exact List.mem_singleton.mpr rfl)) z⟩, fun b u z n c => n, fun b u z c => ⟨u, kb b u (fun e => c (by rw [e]; exact List.mem_singleton.mpr rfl)) z⟩, fun b xs z => z, fun b ob u z => z, fun b ps z => ⟨#[], by simpa using z⟩⟩ (J.hok.sameBut q1 kb) J.bare fun b hb => ?_
  have e := List.mem_singleton.mp hb
  subst e
  exact ⟨.inr hC, q2, fun x c z => cC x c z, pC⟩
theorem eval_LC {X : Cx} {elt iter : Expr} {x : Str} {px : Pos} {ifs : List Expr} {scope : Scope} {pos : Pos} : eval (.ListComp elt [⟨.Name x px, iter, ifs, 0⟩] scope pos) X.env = comprehension (.ListComp elt [⟨.Name x px, iter, ifs, 0⟩] scope pos) scope X.env (firstIterPos [⟨.Name x px, iter, ifs, 0⟩] pos) (newList []) false (eval iter X.env) none := by
  rw [eval_ListComp]
  rfl
theorem ps_compSet {X : Cx} {elt iter : Expr} {x y : Str} {px py : Pos} {ifs : List Expr} {scope osc : Scope} {pos spos : Pos} {wi : TI} {tt : TT} {te : TE} {i : Nat} (ix : List Nat) (N' : List Str)
    (hxe : X.xe = fun _ _ => False) (hc : X.calm = true) (ho : X.env.scope = osc) (hN : N' = x :: ix.map fun i => (X.N[i]?).getD x) (hnd : N'.Nodup)
    (hall : (∀ y ∈ scope.names, y.2 = .free → osc.names.lookup y.1 = some .cell) ∧ (∀ y ∈ scope.names, y.2 ≠ .cell) ∧ scope.kind = .function ∧ (∀ y ∈ scope.names, y.2 = .local → scope.names.lookup y.1 = some .local) ∧ scope.names.lookup x = some .local ∧ (∀ y ∈ N'.tail, scope.names.lookup y = some .free))
    (hi : PI X (.Name x px) iter wi)
    (ht : ∀ cl C s₀ H₀ fp, PTs (cxComp X scope cl C s₀ H₀ fp N') ifs tt)
    (he : ∀ cl C s₀ H₀ fp, PE (cxComp X scope cl C s₀ H₀ fp N') elt te)
    (hNN : X.N.Nodup) (hy : X.N[i]? = some y) (hl : X.env.scope.names.lookup y = some .local)
    (hsw : swapsWith (.ListComp elt [⟨.Name x px, iter, ifs, 0⟩] scope pos) (some (.Name y py)) spos.line X.env = pure true := by rfl)
    (hs : ∀ x, foldedSetIterable iter X.env x = pure x := by intro _; rfl) :
    PS X (.Assign [.Name y py] (.ListComp elt [⟨.Name x px, iter, ifs, 0⟩] scope pos) spos) (tAsg (tComp wi ix tt te) (gName i)) := by
  intro pins s σ H D I h
  rw [exec_Assign_Name_used _ _ _ _ hsw]
  refine wpAny_bind (wpAny_standAt ?_)
  show wpAny _ _ (evalThenUse (.ListComp elt [⟨.Name x px, iter, ifs, 0⟩] scope pos) X.env (assign (.Name y py) X.env) >>= fun _ => pure Flow.next) _ _ _
  refine wpAny_bind ?_
  show wpAny _ _ (comprehension (.ListComp elt [⟨.Name x px, iter, ifs, 0⟩] scope pos) scope X.env (firstIterPos [⟨.Name x px, iter, ifs, 0⟩] pos) (newList []) false (eval iter X.env) (some (assign (.Name y py) X.env)) >>= fun _ => pure ()) _ _ _
  refine wpAny_bind (comp_gen (use := some (assign (.Name y py) X.env)) ix N' hxe hc ho hN hnd hall hi ht he hs I h fun acc C H5 s5 o I5 cC hC pC hm q => ?_)
  obtain ⟨m, hm⟩ := hm
  refine wpAny_assign_Name (store_ok (i := i) (v := .ref acc) I5 hNN hy (.inl hl) rfl (fun s6 I6 => ?_) (.inr hl))
  refine ⟨m, hm _ (I6.pin (C, o) (List.mem_append_right _ (List.mem_append_right _ (List.mem_singleton.mpr rfl)))).1, fun h' hs' => ?_⟩
  exact wpAny_pure (wpAny_pure ⟨_, H5, I6.butC cC hC pC hs', q⟩)
end L2
namespace L2
open PySem PySem.Spec PyProof.Rows
section
variable {prog : Program} {w : World} {A : Around} {E : Value → Shared → Prop} {s : Shared}
theorem nextT_item {it t : Addr} {i : Nat} {its : Array Value} {x : Value} {Q : Value → Shared → Prop} (hi : s.heap.IsTupleIter it t i) (ht : s.heap.IsTuple t its) (hx : its[i]? = some x) (hQ : ∀ h', h'.IsTupleIter it t (i + 1) → Heap.SameBut it s.heap h' → Q x { s with heap := h' }) :
    wpAny (model prog w) A (Builtin.SmallTypes.nextOf (.ref it)) Q E s := by
  obtain ⟨oi, h1, h2, h3⟩ := id hi
  obtain ⟨ot, k1, _, nt, k2⟩ := ht
  unfold Builtin.SmallTypes.nextOf
  refine wpAny_bind (wpAny_callSpecial?_slot (name := Str.ofString "__next__") hi.typeIs F.slot_tuple_iterator_next (wpAny_call_entry F.slot_tuple_iterator_next hi.typeIs F.entry_tuple_iterator_next ?_ (F.args_tuple_iterator_next_1 _)))
  refine wpAny_bind (m := field (.ref it) 0) (wpAny_field h1 h3 (x := .ref t) rfl ?_)
  show wpAny _ _ (if (Value.ref t == Value.none) = true then _ else field (.ref it) 1 >>= _) _ _ s
  rw [if_neg (show ¬ ((Value.ref t == Value.none) = true) from Bool.false_ne_true)]
  refine wpAny_bind (wpAny_field h1 h3 (x := .int i 0) rfl (wpAny_bind (m := seqItems? (.ref t)) (wpAny_seqItems k1 k2 ?_)))
  simp only [Int.toNat_natCast, hx]
  exact wpAny_bind (wpAny_setField h1 h3 (by simp) (wpAny_pure ⟨x, rfl, wpAny_pure (hQ _ ⟨_, Heap.get?_update_self _ h1 (Obj.isFreed_of_fields (Obj.data_mapFields h3 _)), (Obj.cls_mapFields ..).trans h2, by rw [Obj.data_mapFields h3]; simp [rawInt]⟩ (Heap.SameBut.update ..))⟩))
theorem nextT_end {it t : Addr} {i : Nat} {its : Array Value} {Q : Value → Shared → Prop} (hh : A.handled = none) (hi : s.heap.IsTupleIter it t i) (ht : s.heap.IsTuple t its) (hx : its[i]? = none)
    (hE : ∀ h' e, Heap.ExtBut it s.heap h' → (∃ o, h'.get? e = some o ∧ o.cls = .type "StopIteration") → E (.ref e) { s with heap := h' }) : wpAny (model prog w) A (Builtin.SmallTypes.nextOf (.ref it)) Q E s := by
  obtain ⟨oi, h1, h2, h3⟩ := id hi
  obtain ⟨ot, k1, _, nt, k2⟩ := ht
  unfold Builtin.SmallTypes.nextOf
  refine wpAny_bind (wpAny_callSpecial?_slot (name := Str.ofString "__next__") hi.typeIs F.slot_tuple_iterator_next (wpAny_call_entry F.slot_tuple_iterator_next hi.typeIs F.entry_tuple_iterator_next ?_ (F.args_tuple_iterator_next_1 _)))
  refine wpAny_bind (m := field (.ref it) 0) (wpAny_field h1 h3 (x := .ref t) rfl ?_)
  show wpAny _ _ (if (Value.ref t == Value.none) = true then _ else field (.ref it) 1 >>= _) _ _ s
  rw [if_neg (show ¬ ((Value.ref t == Value.none) = true) from Bool.false_ne_true)]
  refine wpAny_bind (wpAny_field h1 h3 (x := .int i 0) rfl (wpAny_bind (m := seqItems? (.ref t)) (wpAny_seqItems k1 k2 ?_)))
  simp only [Int.toNat_natCast, hx]
  refine wpAny_bind (wpAny_rule (wpAny_bind (wpAny_setField h1 h3 (by simp) (wpAny_bind (m := newExc (.type "StopIteration") []) ?_))))
  simp only [newExc, newTuple]
  refine wpAny_bind (wpAny_newObj_type (wpAny_bind (m := firstArgMember _ _) (wpAny_of_eq (a := Value.none) (by first | rfl | (simp only [firstArgMember]; rfl)) (wpAny_newObj_type ?_ (by size_fits)))) (by size_fits))
  simp only [raiseNew]
  refine wpAny_bind (wpAny_handled ?_)
  first | rw [show A.in1.handled = none from hh] | rw [hh]
  exact wpAny_bind (wpAny_pure (wpAny_throw (hE _ _ (((Heap.SameBut.update ..).extBut.push _).push _) ⟨_, Heap.get?_push_size _ rfl, rfl⟩)))
end
theorem Draws.tup {prog : Program} {w : World} {A : Around} (hh : A.handled = none) (it t : Addr) (hne : t ≠ it) (its : Array Value) : Draws prog w A it [it, t] its.size (fun i v => its[i]? = some v) (fun i h => h.IsTupleIter it t i ∧ h.IsTuple t its) where
  live := fun _ _ z => let ⟨o, ho, _⟩ := z.1; ⟨o, ho⟩
  frame := fun _ _ _ z hk => ⟨z.1.at fun o e => hk it (by simp) o e, z.2.at fun o e => hk t (by simp) o e⟩
  item := fun i s Q E hi z hQ => nextT_item z.1 z.2 (x := its[i]) (by simp [hi]) fun h' a b => hQ _ h' s.toks (by simp [hi]) ⟨a, z.2.extBut b.extBut hne⟩ b
  done := fun s Q E z hE => nextT_end hh z.1 z.2 (by simp) hE
section
open AutoSeq1 (wpAny_loadPart')
theorem newT_meets (t : Addr) (its : Array Value) (n : Nat) (dct : Option Addr) (sl : Array (Option Value)) :
    Meets (Builtin.«enumerate.__new__» ⟨[.type "enumerate", .ref t], []⟩) (fun _ R s => s.heap.get? t = some { cls := .type "tuple", dict := dct, data := .seq its n, slots := sl } ∧
      R (.ok (.ret (.ref (s.heap.push { cls := .type "tuple_iterator", data := .fields #[.ref t, .int 0 0] }).objs.size))) { s with heap := (s.heap.push { cls := .type "tuple_iterator", data := .fields #[.ref t, .int 0 0] }).push { cls := .type "enumerate", data := .fields #[.none, .bool false, .ref s.heap.objs.size, rawInt 0, .none, .none] } }) :=
  .of_wp fun prog w A R s z => by
    obtain ⟨hp, gs, dr, tk, os⟩ := s; obtain ⟨ht, z⟩ := z
    have su := sub_enumerate
    have hT : Heap.IsTuple (Shared.heap ⟨hp, gs, dr, tk, os⟩) t its := ⟨_, ht, rfl, n, rfl⟩
    wp_walk using wpAny_loadPart' ht
    refine wpAny_stack_any fun st => wpAny_pure ?_
    split
    · rename_i c _ _ _ _ _
      cases (c == Value.type "enumerate") <;> (wp_walk using wpAny_loadPart' ht, wpAny_pyIter_tuple hT; exact ⟨_, rfl, z⟩)
    · (wp_walk using wpAny_loadPart' ht, wpAny_pyIter_tuple hT); exact ⟨_, rfl, z⟩
end
section
variable {prog : Program} {w : World} {A : Around} {E : Value → Shared → Prop} {s : Shared}
theorem enumT {t : Addr} {its : Array Value} {Q : Value → Shared → Prop} (hT : s.heap.IsTuple t its)
    (q : ∀ h', IsEnum h' (s.heap.objs.size + 1) s.heap.objs.size 0 .none → h'.IsTupleIter s.heap.objs.size t 0 → h'.objs.size = s.heap.objs.size + 2 → (∀ b o, s.heap.get? b = some o → h'.get? b = some o) → Q (.ref (s.heap.objs.size + 1)) { s with heap := h' }) :
    wpAny (model prog w) A (call (.type "enumerate") [.ref t]) Q E s := by
  obtain ⟨⟨c, dct, dt, sl⟩, ht, hc, n, hd⟩ := hT
  replace hc : c = .type "tuple" := hc
  replace hd : dt = .seq its n := hd
  subst hc hd
  refine callType_new F.called_enumerate (by decide) (F.typeCall_enumerate_1 _) (F.newCall_enumerate_1 _) (fun obj => F.args_object_init_2 obj _) F.entry_enumerate_new (newT_meets t its n dct sl) ⟨ht, ?_⟩
  have hz : (s.heap.push { cls := .type "tuple_iterator", data := .fields #[.ref t, .int 0 0] }).objs.size = s.heap.objs.size + 1 := Heap.size_push ..
  show _ ∧ _
  rw [hz]
  have he : IsEnum ((s.heap.push { cls := .type "tuple_iterator", data := .fields #[.ref t, .int 0 0] }).push { cls := .type "enumerate", data := .fields #[.none, .bool false, .ref s.heap.objs.size, rawInt 0, .none, .none] }) (s.heap.objs.size + 1) s.heap.objs.size 0 .none := by
    have y := Heap.get?_push_size (s.heap.push { cls := .type "tuple_iterator", data := .fields #[.ref t, .int 0 0] }) (o := { cls := .type "enumerate", data := .fields #[.none, .bool false, .ref s.heap.objs.size, rawInt 0, .none, .none] }) rfl
    rw [hz] at y; exact y
  exact ⟨⟨_, he, rfl⟩, q _ he ⟨_, Heap.get?_push_of_some _ (Heap.get?_push_size _ rfl), rfl, rfl⟩ (by rw [Heap.size_push, hz]) fun b o x => Heap.get?_push_of_some _ (Heap.get?_push_of_some _ x)⟩
end

/-! ### enumerate as what is walked -/
/-- the iterator's own objects have turned, and something new was laid -/
theorem Inv.yielded {X : Cx} {pins : List (Addr × Obj)} {σ : St} {H : Hp} {s : Shared} {fp : List Addr} {T : Addr} {o : HO} {h' : Heap} {t' : Nat} (I : Inv X pins σ H s) (hf : ∀ b ∈ fp, FpOk X pins H b) (k : ∀ b u, b ∉ fp → s.heap.get? b = some u → h'.get? b = some u)
    (hT : s.heap.objs.size ≤ T) (new : ObjOk X.prog X.w (upd H T o) h' T o) : Inv X pins σ (upd H T o) { s with heap := h', toks := t' } := by
  have nT : ∀ b u, s.heap.get? b = some u → b ≠ T := fun b u e z => absurd (Heap.lt_size e) (by rw [z]; exact Nat.not_lt.mpr hT)
  have nH : ∀ b u, H b = some u → b ≠ T := fun b u e z => absurd (I.hok.lt e) (by rw [z]; exact Nat.not_lt.mpr hT)
  have nf : ∀ b u, H b = some u → b ∉ fp := fun b u e z => by rw [(hf b z).1] at e; cases e
  refine I.call' (s' := { s with heap := h', toks := t' }) (ch := fp) rfl ⟨fun b u e n _ c => k b u c e, fun b u e n _ c => ⟨u.slots, k b u c e⟩, fun b u e n c => by rw [upd_ne (nT b u e)]; exact n, fun b u e c => ⟨u, k b u c e⟩, fun b xs e => by rw [upd_ne (nH b _ e)]; exact e, fun b ob u e => by rw [upd_ne (nH b _ e)]; exact e, fun b ps e => ⟨#[], by rw [upd_ne (nH b _ e), e]; simp⟩⟩ (fun b u e => ?_) I.bare (fun b hb => ?_)
  · by_cases hb : b = T
    · subst hb
      rw [upd_same] at e
      cases e
      exact new
    · rw [upd_ne hb] at e
      refine (I.hok b u e).stay (fun c v hc q => k c v ?_ q) (fun c q => by rw [upd_ne (nH c _ q)]; exact q) fun c xs q => by rw [upd_ne (nH c _ q)]; exact q
      rcases hc with z | z
      · rw [z]; exact nf b u e
      · exact nf c _ z
  · obtain ⟨_, g1, _, g3, g4, g5⟩ := hf b hb
    exact ⟨g3, g1, g4, g5⟩
theorem Inv.turnedL {X : Cx} {pins : List (Addr × Obj)} {σ : St} {H : Hp} {s : Shared} {fp : List Addr} {h' : Heap} {t' : Nat} (I : Inv X pins σ H s) (hf : ∀ b ∈ fp, FpOk X pins H b) (k : ∀ b u, b ∉ fp → s.heap.get? b = some u → h'.get? b = some u) : Inv X pins σ H { s with heap := h', toks := t' } := by
  have nf : ∀ b u, H b = some u → b ∉ fp := fun b u e z => by rw [(hf b z).1] at e; cases e
  refine I.call' (s' := { s with heap := h', toks := t' }) (ch := fp) rfl ⟨fun b u e n _ c => k b u c e, fun b u e n _ c => ⟨u.slots, k b u c e⟩, fun b u e n c => n, fun b u e c => ⟨u, k b u c e⟩, fun b xs e => e, fun b ob u e => e, fun b ps e => ⟨#[], by rw [e]; simp⟩⟩ (fun b u e => ?_) I.bare (fun b hb => ?_)
  · refine (I.hok b u e).stay (fun c v hc q => k c v ?_ q) (fun c q => q) fun c xs q => q
    rcases hc with z | z
    · rw [z]; exact nf b u e
    · exact nf c _ z
  · obtain ⟨_, g1, _, g3, g4, g5⟩ := hf b hb
    exact ⟨g3, g1, g4, g5⟩
def Iel (K : PySem.W.Frag) (a : Addr) : It :=
  ⟨fun i H => ∃ xs x, SqL K H a xs ∧ xs[i]? = some x, fun i H x H' => ∃ p v, x = .ref p ∧ H p = none ∧ (∀ xs, SqL K H a xs → xs[i]? = some v) ∧ H' = upd H p (.tup [.int i, v]), fun i H => ∃ xs, SqL K H a xs ∧ xs.length ≤ i⟩
def Iet (K : PySem.W.Frag) (a : Addr) : It :=
  ⟨fun i H => ∃ xs x, SqT K H a xs ∧ xs[i]? = some x, fun i H x H' => ∃ p v, x = .ref p ∧ H p = none ∧ (∀ xs, SqT K H a xs → xs[i]? = some v) ∧ H' = upd H p (.tup [.int i, v]), fun i H => ∃ xs, SqT K H a xs ∧ xs.length ≤ i⟩
theorem enum_obj {h : Heap} {e it : Addr} {i : Int} {old : Value} (z : IsEnum h e it i old) : ∃ o, h.get? e = some o ∧ ∀ v, o.data ≠ .cell v := ⟨_, z, fun v q => nomatch q⟩
theorem turn_enumL {P : Program} {w : World} {K : PySem.W.Frag} {elts : List Expr} {k : Nat} {pos : Pos} {a it e : Addr} (hei : e ≠ it) : Turn P w K (.Tuple elts k pos) (Iel K a) [e, it] e (fun i h => (∃ old, IsEnum h e it i old) ∧ h.IsListIter it a i) where
  mem := by simp
  obj := fun i h z b hb => by
    obtain ⟨⟨old, z1⟩, z2⟩ := z
    rcases List.mem_cons.mp hb with rfl | hb
    · exact enum_obj z1
    · rw [List.mem_singleton.mp hb]
      obtain ⟨o, q, _, d⟩ := z2
      exact ⟨o, q, fun v y => by rw [d] at y; cases y⟩
  keep := fun i h h' z kk => ⟨let ⟨old, z1⟩ := z.1; ⟨old, kk e (by simp) _ z1⟩, z.2.at fun o q => kk it (by simp) o q⟩
  item := by
    intro X hP hw hK hc i pins s σ H E I hf st hg
    subst hP hw hK
    obtain ⟨xs, x, hq, hx⟩ := hg
    obtain ⟨its, rv, p, hz⟩ := I.list hq
    obtain ⟨u, hu, ru⟩ := rv.get hx
    have hl := rv.length
    have plt : a < s.heap.objs.size := by obtain ⟨o, q, _⟩ := p.isList; exact Heap.lt_size q
    have hai : a ≠ it ∧ a ≠ e := by
      obtain ⟨oa, qa, ca, _⟩ := p.isList
      obtain ⟨⟨old, z1⟩, oi, qi, ci, _⟩ := st
      exact ⟨(fun q => by rw [q, qi] at qa; cases qa; rw [ci] at ca; injection ca with y; exact absurd y (by decide)), (fun q => by rw [q, z1] at qa; cases qa; injection ca with y; exact absurd y (by decide))⟩
    have W := WalksT.enumerateD (prog := X.prog) (w := X.w) (A := X.A) (Draws.list (A := X.A.in1) (I.ok.hd hc) it a hai.1 its.toArray) e hei (by simp; exact ⟨hei, fun q => hai.2 q.symm⟩) (by simp)
    refine W.item i s _ _ (by rw [List.size_toArray, ← hl]; exact (List.getElem?_eq_some_iff.mp hx).1) ⟨st.1, st.2, p.isList⟩ fun T vals h1 tk hv hT ht hm k1 => ?_
    obtain ⟨t, v, hv1, hv2⟩ := hv
    have ev : v = u := by
      have : its[i]? = some v := by simpa using hv1
      rw [hu] at this; exact (Option.some.inj this).symm
    subst ev
    refine ⟨.ref T, rfl, W.go elts k pos i T { s with heap := h1, toks := tk } _ _ hm fun h2 st2 k2 => ?_⟩
    have kk : ∀ b o, b ∉ [e, it] → s.heap.get? b = some o → h2.get? b = some o := fun b o hb q => k2 b o hb (k1 b o hb q)
    have hT2 : h2.IsTuple T vals := by
      obtain ⟨o, q, c, d⟩ := ht
      exact ⟨o, k2 T o (fun z => W.apart _ _ _ hm z) q, c, d⟩
    have hn : H T = none := I.hok.fresh hT
    have nTf : ∀ b ∈ [e, it], b ≠ T := fun b hb z => by
      have hlt : b < s.heap.objs.size := by
        rcases List.mem_cons.mp hb with rfl | hb
        · obtain ⟨old, z1⟩ := st.1; exact Heap.lt_size z1
        · rw [List.mem_singleton.mp hb]; obtain ⟨o, q, _⟩ := st.2; exact Heap.lt_size q
      rw [z] at hlt; exact absurd hlt (Nat.not_lt.mpr hT)
    refine ⟨.ref T, upd H T (.tup [.int i, x]), I.yielded (t' := tk) hf kk hT ⟨by show 2 ≤ sizeLine; decide, [.int i t, v], .cons ⟨t, rfl⟩ (.cons ru .nil), ?_⟩, rfl, ⟨T, x, rfl, hn, fun ys hy => by rw [I.list_inj hy hq]; exact hx, rfl⟩, ⟨st2.1, st2.2.1⟩, fun b hb => by rw [upd_ne (nTf b hb)]; exact (hf b hb).1⟩
    rw [hv2] at hT2; exact hT2
  done := by
    intro X hP hw hK hc i pins s σ H E I hf st hg
    subst hP hw hK
    obtain ⟨xs, hq, hx⟩ := hg
    obtain ⟨its, rv, p, hz⟩ := I.list hq
    obtain ⟨⟨old, z1⟩, z2⟩ := st
    have hl := rv.length
    exact wpAny_pyNext_enum_end (I.ok.hd hc) z1 z2 p.isList (Array.getElem?_eq_none (by rw [List.size_toArray]; omega)) fun h' eb => ⟨rfl, I.turnedL (t' := s.toks) hf fun b u hb q => eb b u (fun z => hb (by simp [z])) q⟩
  self := fun A i s Q E z q => by
    obtain ⟨⟨old, z1⟩, z2⟩ := z
    exact wpAny_pyIter_enum z1 q
theorem turn_enumT {P : Program} {w : World} {K : PySem.W.Frag} {elts : List Expr} {k : Nat} {pos : Pos} {a it e : Addr} (hei : e ≠ it) : Turn P w K (.Tuple elts k pos) (Iet K a) [e, it] e (fun i h => (∃ old, IsEnum h e it i old) ∧ h.IsTupleIter it a i) where
  mem := by simp
  obj := fun i h z b hb => by
    obtain ⟨⟨old, z1⟩, z2⟩ := z
    rcases List.mem_cons.mp hb with rfl | hb
    · exact enum_obj z1
    · rw [List.mem_singleton.mp hb]
      obtain ⟨o, q, _, d⟩ := z2
      exact ⟨o, q, fun v y => by rw [d] at y; cases y⟩
  keep := fun i h h' z kk => ⟨let ⟨old, z1⟩ := z.1; ⟨old, kk e (by simp) _ z1⟩, z.2.at fun o q => kk it (by simp) o q⟩
  item := by
    intro X hP hw hK hc i pins s σ H E I hf st hg
    subst hP hw hK
    obtain ⟨xs, x, hq, hx⟩ := hg
    obtain ⟨its, rv, p, hz⟩ := I.tuple hq
    obtain ⟨u, hu, ru⟩ := rv.get hx
    have hl := rv.length
    have plt : a < s.heap.objs.size := by obtain ⟨o, q, _⟩ := (show s.heap.IsTuple a its.toArray from p); exact Heap.lt_size q
    have hai : a ≠ it ∧ a ≠ e := by
      obtain ⟨oa, qa, ca, _⟩ := (show s.heap.IsTuple a its.toArray from p)
      obtain ⟨⟨old, z1⟩, oi, qi, ci, _⟩ := st
      exact ⟨(fun q => by rw [q, qi] at qa; cases qa; rw [ci] at ca; injection ca with y; exact absurd y (by decide)), (fun q => by rw [q, z1] at qa; cases qa; injection ca with y; exact absurd y (by decide))⟩
    have W := WalksT.enumerateD (prog := X.prog) (w := X.w) (A := X.A) (Draws.tup (A := X.A.in1) (I.ok.hd hc) it a hai.1 its.toArray) e hei (by simp; exact ⟨hei, fun q => hai.2 q.symm⟩) (by simp)
    refine W.item i s _ _ (by rw [List.size_toArray, ← hl]; exact (List.getElem?_eq_some_iff.mp hx).1) ⟨st.1, st.2, (show s.heap.IsTuple a its.toArray from p)⟩ fun T vals h1 tk hv hT ht hm k1 => ?_
    obtain ⟨t, v, hv1, hv2⟩ := hv
    have ev : v = u := by
      have : its[i]? = some v := by simpa using hv1
      rw [hu] at this; exact (Option.some.inj this).symm
    subst ev
    refine ⟨.ref T, rfl, W.go elts k pos i T { s with heap := h1, toks := tk } _ _ hm fun h2 st2 k2 => ?_⟩
    have kk : ∀ b o, b ∉ [e, it] → s.heap.get? b = some o → h2.get? b = some o := fun b o hb q => k2 b o hb (k1 b o hb q)
    have hT2 : h2.IsTuple T vals := by
      obtain ⟨o, q, c, d⟩ := ht
      exact ⟨o, k2 T o (fun z => W.apart _ _ _ hm z) q, c, d⟩
    have hn : H T = none := I.hok.fresh hT
    have nTf : ∀ b ∈ [e, it], b ≠ T := fun b hb z => by
      have hlt : b < s.heap.objs.size := by
        rcases List.mem_cons.mp hb with rfl | hb
        · obtain ⟨old, z1⟩ := st.1; exact Heap.lt_size z1
        · rw [List.mem_singleton.mp hb]; obtain ⟨o, q, _⟩ := st.2; exact Heap.lt_size q
      rw [z] at hlt; exact absurd hlt (Nat.not_lt.mpr hT)
    refine ⟨.ref T, upd H T (.tup [.int i, x]), I.yielded (t' := tk) hf kk hT ⟨by show 2 ≤ sizeLine; decide, [.int i t, v], .cons ⟨t, rfl⟩ (.cons ru .nil), ?_⟩, rfl, ⟨T, x, rfl, hn, fun ys hy => by rw [I.tuple_inj hy hq]; exact hx, rfl⟩, ⟨st2.1, st2.2.1⟩, fun b hb => by rw [upd_ne (nTf b hb)]; exact (hf b hb).1⟩
    rw [hv2] at hT2; exact hT2
  done := by
    intro X hP hw hK hc i pins s σ H E I hf st hg
    subst hP hw hK
    obtain ⟨xs, hq, hx⟩ := hg
    obtain ⟨its, rv, p, hz⟩ := I.tuple hq
    obtain ⟨⟨old, z1⟩, z2⟩ := st
    have hl := rv.length
    have pt : s.heap.IsTuple a its.toArray := p
    have DD : Draws X.prog X.w X.A.in1 it [it, a] i (fun _ _ => True) (fun j h => j = i ∧ h.IsTupleIter it a j ∧ h.IsTuple a its.toArray) := {
      live := fun _ _ z => let ⟨o, ho, _⟩ := z.2.1; ⟨o, ho⟩
      frame := fun _ _ _ z hk => ⟨z.1, z.2.1.at fun o e => hk it (by simp) o e, z.2.2.at fun o e => hk a (by simp) o e⟩
      item := fun j s Q E hj z hQ => absurd z.1 (Nat.ne_of_lt hj)
      done := fun s Q E z hE => nextT_end (I.ok.hd hc) z.2.1 z.2.2 (Array.getElem?_eq_none (by rw [List.size_toArray]; omega)) hE }
    exact wpAny_pyNext_enum_endD DD z1 ⟨rfl, z2, pt⟩ fun h' eb => ⟨rfl, I.turnedL (t' := s.toks) hf fun b u hb q => eb b u (fun z => hb (by simp [z])) q⟩
  self := fun A i s Q E z q => by
    obtain ⟨⟨old, z1⟩, z2⟩ := z
    exact wpAny_pyIter_enum z1 q

/-- enumerate(e), walked -/
def iEnum (K : PySem.W.Frag) (tl : TE) : TI := fun σ H R => tl σ H fun x H1 => ∃ a, x = .ref a ∧ (((∃ xs, SqL K H1 a xs) ∧ R (Iel K a) H1) ∨ ((∃ xs, SqT K H1 a xs) ∧ R (Iet K a) H1))
theorem pi_enum {X : Cx} {elts : List Expr} {kt : Nat} {tp p pos : Pos} {l : Expr} {tl : TE} (hg : Gl X "enumerate") (hm : X.mg "enumerate" = none) (hl : PE X l tl) (hs : starEach [l] X.env = [(false, eval l X.env)] := by rfl) :
    PI X (.Tuple elts kt tp) (.Call (.Name "enumerate" p) [l] [] pos) (iEnum X.K tl) := by
  intro pins s σ H R I h
  have h' : tCons tl tNil σ H (fun vs H1 => match vs with
    | [x] => ∃ a, x = .ref a ∧ (((∃ xs, SqL X.K H1 a xs) ∧ R (Iel X.K a) H1) ∨ ((∃ xs, SqT X.K H1 a xs) ∧ R (Iet X.K a) H1))
    | _ => False) := h
  refine Call_ (ld_blt I hg hm PyProof.Rows.boot_enumerate (PyProof.Rows.callWith_type1 (thn (pa_cons hl pa_nil hs pos pins s σ H _ I h') fun us s1 ⟨vs, H1, I1, r1, q1⟩ => ?_) hs rfl))
  cases r1 with
  | nil => exact q1.elim
  | cons r rr =>
    cases rr with
    | cons _ _ => exact q1.elim
    | nil =>
      obtain ⟨a, rfl, q⟩ := q1
      cases r
      have fp : ∀ {h' : Heap}, ∀ b ∈ [s1.heap.objs.size + 1, s1.heap.objs.size], FpOk X pins H1 b := fun {h'} b hb => by
        have hb' : s1.heap.objs.size ≤ b := by
          rcases List.mem_cons.mp hb with z | hb
          · omega
          · have := List.mem_singleton.mp hb; omega
        exact I1.fpOk hb' (I1.hok.fresh hb')
      rcases q with ⟨⟨xs, hq⟩, q⟩ | ⟨⟨xs, hq⟩, q⟩
      · obtain ⟨its, rv, pl, hz⟩ := I1.list hq
        refine call_enumerate_list pl.isList fun h2 z1 z2 hsz kp => wpAny_pyIter_enum (s := { s1 with heap := h2 }) z1 ?_
        exact ⟨s1.heap.objs.size + 1, [s1.heap.objs.size + 1, s1.heap.objs.size], _, _, H1, rfl, I1.kept (t' := s1.toks) kp, turn_enumL (a := a) (Nat.succ_ne_self _), ⟨⟨_, z1⟩, z2⟩, fp (h' := h2), q⟩
      · obtain ⟨its, rv, pl, hz⟩ := I1.tuple hq
        refine enumT (show s1.heap.IsTuple a its.toArray from pl) fun h2 z1 z2 hsz kp => wpAny_pyIter_enum (s := { s1 with heap := h2 }) z1 ?_
        exact ⟨s1.heap.objs.size + 1, [s1.heap.objs.size + 1, s1.heap.objs.size], _, _, H1, rfl, I1.kept (t' := s1.toks) kp, turn_enumT (a := a) (Nat.succ_ne_self _), ⟨⟨_, z1⟩, z2⟩, fp (h' := h2), q⟩
end L2
namespace L2
open PySem PySem.Spec PyProof.Rows
/-! ### a comprehension with any target -/
def capT (nt : Nat) (ix : List Nat) (σ : St) : St := List.replicate nt none ++ ix.map fun i => (σ[i]?).join
/-- a state of the block: any values of the target's names, then the names taken along -/
def IsCap (nt : Nat) (ix : List Nat) (σ σ' : St) : Prop := ∃ ts : St, ts.length = nt ∧ σ' = ts ++ ix.map fun i => (σ[i]?).join
abbrev CompWT (J : It) (nt : Nat) (ix : List Nat) (σ : St) (tg : TG) (tt : TT) (te : TE) (acc : Addr) (H1 : Hp) (Q : VK) : Prop :=
  ∃ W : Nat → Nat → List V → Hp → Prop, (∃ m, W 0 m [] (upd H1 acc (.lst []))) ∧ ∀ i m ys H, W i m ys H →
    (J.stop i H ∧ Q (.ref acc) H) ∨ (J.go i H ∧ ∀ σ0 x H', IsCap nt ix σ σ0 → J.yld i H x H' → tg x σ0 H' fun σ2 Hn => IsCap nt ix σ σ2 ∧ tt σ2 Hn fun b H2 => if b = true then te σ2 H2 fun y H3 =>
        H3 acc = some (.lst ys) ∧ ys.length < sizeLine ∧ ∃ m', m' < m ∧ W (i + 1) m' (ys ++ [y]) (upd H3 acc (.lst (ys ++ [y])))
      else ∃ m', m' < m ∧ W (i + 1) m' ys H2)
def tCompT (wi : TI) (nt : Nat) (ix : List Nat) (tg : TG) (tt : TT) (te : TE) : TE := fun σ H Q => wi σ H fun J H1 => ∀ acc, H1 acc = none → CompWT J nt ix σ tg tt te acc H1 Q
theorem comp_genT {X : Cx} {use : Option (Value → Sem Unit)} {Q2 : Value → Shared → Prop} {pins : List (Addr × Obj)} {s : Shared} {σ : St} {H : Hp} {Q : VK} {elt iter tg : Expr} {tn' : List Str} {tgr : TG} {ifs : List Expr} {scope osc : Scope} {pos : Pos} {wi : TI} {tt : TT} {te : TE} (ix : List Nat) (N' : List Str)
    (hxe : X.xe = fun _ _ => False) (hc : X.calm = true) (ho : X.env.scope = osc) (hN : N' = tn' ++ ix.map fun i => (X.N[i]?).getD ("" : Str)) (hnd : N'.Nodup)
    (hall : (∀ y ∈ scope.names, y.2 = .free → osc.names.lookup y.1 = some .cell) ∧ (∀ y ∈ scope.names, y.2 ≠ .cell) ∧ scope.kind = .function ∧ (∀ y ∈ scope.names, y.2 = .local → scope.names.lookup y.1 = some .local) ∧ (∀ y ∈ N'.drop tn'.length, scope.names.lookup y = some .free))
    (hi : PI X tg iter wi) (hg : ∀ cl C s₀ H₀ fp, PG (cxComp X scope cl C s₀ H₀ fp N') tg tgr)
    (ht : ∀ cl C s₀ H₀ fp, PTs (cxComp X scope cl C s₀ H₀ fp N') ifs tt)
    (he : ∀ cl C s₀ H₀ fp, PE (cxComp X scope cl C s₀ H₀ fp N') elt te)
    (hs : ∀ x, foldedSetIterable iter X.env x = pure x) (I : Inv X pins σ H s) (h : tCompT wi tn'.length ix tgr tt te σ H Q)
    (hfin : ∀ (acc C : Addr) (H5 : Hp) (s5 : Shared) (o : Obj), Inv X (pins ++ [(C, o)]) σ H5 s5 → (∀ x c, X.env.cells.lookup x = some c → c ≠ C) → X.s₀.heap.objs.size ≤ C → (∀ p ∈ X.pn ++ pins, p.1 ≠ C) → (∃ m, ∀ h' : Heap, h'.get? C = some o → h'.Ns C m) → Q (.ref acc) H5 → compPost (model X.prog X.w) X.A X.xe use Q2 (.ref acc) C (.ok .next) s5) :
    wpAny (model X.prog X.w) X.A (comprehension (.ListComp elt [⟨tg, iter, ifs, 0⟩] scope pos) scope X.env (firstIterPos [⟨tg, iter, ifs, 0⟩] pos) (newList []) false (eval iter X.env) use) Q2 X.xe s := by
  obtain ⟨hfr, hcell, hkind, hnames, hcap⟩ := hall
  subst ho
  have outc : ∀ y ∈ scope.names, y.2 = .free → X.env.kindOf y.1 = some .cell := fun y hy q => hfr y hy q
  obtain ⟨cl, hclos, hcl1, hcl2⟩ := closureFor_of (env := X.env) (scope := scope) fun y hy q => I.ok.has y.1 (.inl (outc y hy q))
  refine wpAny_comprehension_free (use := use) rfl hs hclos hkind hnames (thn (hi pins s σ H _ I h) fun v s1 h1 => thn h1 fun itv s2 h2 => ?_)
  obtain ⟨it, fp, tn, J, H2, e, I2, T, st2, f2, rest⟩ := h2
  subst e
  have hf2 : H2 s2.heap.objs.size = none := I2.hok.fresh (Nat.le_refl _)
  obtain ⟨W, ⟨m0, w0⟩, turn⟩ := rest s2.heap.objs.size hf2
  -- the list
  refine wpAny_newObj_type ?_
  have I3 : Inv X pins σ (upd H2 s2.heap.objs.size (.lst [])) { s2 with heap := s2.heap.push { cls := .type "list", dict := none, data := .seq ([] : List Value).toArray } } := I2.lnew (its := []) (t' := s2.toks) .nil (Nat.zero_le _)
  have keep3 : ∀ b o, s2.heap.get? b = some o → (s2.heap.push { cls := .type "list", dict := none, data := .seq ([] : List Value).toArray }).get? b = some o := fun b o q => Heap.get?_push_of_some _ q
  have fp3 : ∀ b ∈ fp, ∃ o, s2.heap.get? b = some o ∧ ∀ v, o.data ≠ .cell v := T.obj _ _ st2
  have st3 : tn 0 (s2.heap.push { cls := .type "list", dict := none, data := .seq ([] : List Value).toArray }) := T.keep _ _ _ st2 fun b _ o q => keep3 b o q
  have fpn : ∀ b ∈ fp, (upd H2 s2.heap.objs.size (HO.lst [])) b = none := fun b hb => by
    obtain ⟨o, q, _⟩ := fp3 b hb
    rw [upd_ne (Nat.ne_of_lt (Heap.lt_size q))]
    exact (f2 b hb).1
  revert I3 keep3 st3 fpn w0
  generalize hS3 : ({ s2 with heap := s2.heap.push { cls := .type "list", dict := none, data := .seq ([] : List Value).toArray } } : Shared) = s3
  generalize hH3 : upd H2 s2.heap.objs.size (HO.lst []) = H3
  intro w0 I3 keep3 st3 fpn
  have acc3 : H3 s2.heap.objs.size = some (.lst []) := by rw [← hH3]; exact upd_same
  generalize s2.heap.objs.size = acc at *
  have e3 : s2.heap.push { cls := .type "list", dict := none, data := .seq ([] : List Value).toArray } = s3.heap := by rw [← hS3]
  have keep3' : ∀ b o, s2.heap.get? b = some o → s3.heap.get? b = some o := fun b o q => by rw [← e3]; exact keep3 b o q
  have st3' : tn 0 s3.heap := by rw [← e3]; exact st3
  refine wpAny_newFunctionEnv hcell (by intro y hy; simp at hy) (fun h₁ hns₁ hsb₁ => ?_) hkind
  have hC : s3.heap.objs.size = s3.heap.objs.size := rfl
  have keep4 : ∀ b o, s3.heap.get? b = some o → h₁.get? b = some o := fun b o q => hsb₁.extBut b o (Nat.ne_of_lt (Heap.lt_size q)) (Heap.get?_push_of_some _ q)
  have fpC : ∀ b ∈ fp, b ≠ s3.heap.objs.size := fun b hb => by
    obtain ⟨o, q, _⟩ := fp3 b hb
    exact Nat.ne_of_lt (Heap.lt_size (keep3' b o q))
  -- the block's context
  generalize hX' : cxComp X scope cl s3.heap.objs.size s3 H3 fp N' = X'
  have hXp : X'.prog = X.prog := by rw [← hX']; rfl
  have hXw : X'.w = X.w := by rw [← hX']; rfl
  have hXK : X'.K = X.K := by rw [← hX']; rfl
  have hXA : X'.A = X.A := by rw [← hX']; rfl
  have hXe : X'.env = compEnvC scope cl s3.heap.objs.size X.env := by rw [← hX']; rfl
  have hXc : X'.calm = true := by rw [← hX']; exact hc
  have hXx : X'.xe = fun _ _ => False := by rw [← hX']; exact hxe
  have hXf : X'.fs = frs X.stack := by rw [← hX']; rfl
  have hXex : X'.ex = fp := by rw [← hX']; rfl
  have hXN : X'.N = N' := by rw [← hX']; rfl
  have hXs : X'.s₀ = s3 := by rw [← hX']; rfl
  have hXH : X'.H₀ = H3 := by rw [← hX']; rfl
  have hXpn : X'.pn = [] := by rw [← hX']; rfl
  have okX : X'.Ok := by
    rw [← hX']
    refine ⟨I3.ok.mod, hkind, I3.ok.glob, I3.ok.blt, Nat.le_refl _, fun a b c p q => I3.ok.inj a b c (hcl1 a c p) (hcl1 b c q), fun y hy => ?_, fun _ _ z => (by cases z), I3.ok.hd, I3.ok.frames, .inl rfl, fun b hb => ⟨fpC b hb, fun y c p => (f2 b hb).2.2.2.2.1 y c (hcl1 y c p)⟩,
      I3.bs, Nat.le_trans I3.ok.bsz I3.sz, fun b o p hb => ?_, fun b hb z => ?_, I3.stack, I3.stkFree⟩
    · have hy' : (relabel scope X.env).names.lookup y = some .cell ∨ (relabel scope X.env).names.lookup y = some .free := hy
      have free : scope.names.lookup y = some .free → ∃ c, cl.lookup y = some c := fun q => hcl2 y (lookup_mem q)
      rcases hy' with q | q
      · rcases relabel_kind q with z | ⟨z, _⟩
        · exact absurd rfl (hcell _ (lookup_mem z))
        · exact free z
      · rcases relabel_kind q with z | ⟨_, z⟩
        · exact free z
        · cases z
    · rcases (f2 b hb).2.2.2.1 with z | z
      · exact I3.ok.noex b o p z
      · exact absurd (Nat.lt_of_lt_of_le (Heap.lt_size p) (Nat.le_trans I3.ok.bsz z)) (Nat.lt_irrefl _)
    · rcases List.mem_cons.mp (I3.stkSub b z) with q | q
      · exact (f2 b hb).2.1 q
      · exact (f2 b hb).2.2.1 q
  have I4 : ∀ tk, Inv X' [] (capT tn'.length ix σ) H3 { s3 with heap := h₁, toks := tk } := fun tk => by
    have hloc := I3.loc
    refine ⟨okX, by rw [hXs], I3.bare, ?_, ⟨fun y => ([] : List (Str × Value)).reverse.lookup y, by rw [hXe]; exact hns₁, fun i y v e1 e2 e3 => ?_⟩, fun y c p => ?_, ?_, fun y c p => ?_, fun p hp => ?_, ?_, ?_⟩
    · rw [hXf, hXex, hXH, hXs]; exact Un.kept keep4
    · rw [hXN, hN] at e1
      by_cases hit' : i < tn'.length
      · exfalso
        unfold capT at e2
        rw [List.getElem?_append_left (by simpa using hit'), List.getElem?_replicate, if_pos hit'] at e2
        cases e2
      · have e10 : N'[i]? = some y := by rw [hN]; exact e1
        obtain ⟨j, rfl⟩ : ∃ j, i = tn'.length + j := ⟨i - tn'.length, by omega⟩
        have e1' : (ix.map fun i => (X.N[i]?).getD ("" : Str))[j]? = some y := by
          rw [List.getElem?_append_right (by omega)] at e1
          rw [show tn'.length + j - tn'.length = j by omega] at e1
          exact e1
        have e2' : (ix.map fun i => (σ[i]?).join)[j]? = some (some v) := by
          unfold capT at e2
          rw [List.getElem?_append_right (by simp)] at e2
          simpa using e2
        rw [List.getElem?_map] at e1' e2'
        cases hj : ix[j]? with
        | none => rw [hj] at e1'; cases e1'
        | some i0 =>
          rw [hj] at e1' e2'
          have e1'' : (X.N[i0]?).getD ("" : Str) = y := by simpa using e1'
          have e2'' : (σ[i0]?).join = some v := by simpa using e2'
          have hsv : σ[i0]? = some (some v) := by
            cases q : σ[i0]? with
            | none => rw [q] at e2''; cases e2''
            | some z => rw [q] at e2''; have : z = some v := by simpa using e2''
                        rw [this]
          have hlt : i0 < X.N.length := by
            have := (List.getElem?_eq_some_iff.mp hsv).1
            rw [I3.len] at this; exact this
          have hNy : X.N[i0]? = some y := by
            rw [List.getElem?_eq_getElem hlt] at e1'' ⊢
            simpa using e1''
          have hyt : y ∈ N'.drop tn'.length := by
            refine List.mem_of_getElem? (i := j) ?_
            rw [List.getElem?_drop]; exact e10
          have hyf := hcap y hyt
          have hyc := outc (y, .free) (lookup_mem hyf) rfl
          obtain ⟨m, hn, hl⟩ := hloc
          obtain ⟨u, r, l⟩ := hl i0 y v hNy hsv (.inr (.inl hyc))
          refine ⟨u, r, ?_⟩
          rcases l with ⟨k1, _⟩ | ⟨_, c, p, z⟩
          · have hyc' : X.env.kindOf y = some .cell := hyc
            rw [k1] at hyc'; cases hyc'
          · obtain ⟨c', p'⟩ := hcl2 y (lookup_mem hyf)
            have pc : c' = c := by
              have := hcl1 y c' p'
              rw [p] at this; cases this; rfl
            subst pc
            refine .inr ⟨.inl ?_, c', by rw [hXe]; exact p', ?_⟩
            · rw [hXe]; exact lookup_relabel_free I3.ok.kind hyf hyc
            · obtain ⟨o, q1, q2⟩ := z
              exact ⟨o, keep4 c' o q1, q2⟩
    · rw [hXe] at p
      obtain ⟨v, o, q1, q2⟩ := I3.cell y c (hcl1 y c p)
      exact ⟨v, o, keep4 c o q1, q2⟩
    · rw [hXe]; exact I3.hok.fresh (Nat.le_refl _)
    · rw [hXe] at p; exact I3.freeC y c (hcl1 y c p)
    · rw [hXpn] at hp; cases hp
    · rw [hXp, hXw]; exact I3.hok.kept keep4
    · rw [hXN, hN]; simp [capT]
  -- the loop
  have stat : ∀ {H' : Hp}, (∀ b ∈ fp, H' b = none) → ∀ b ∈ fp, FpOk X' [] H' b := fun hn b hb => by
    refine ⟨hn b hb, by rw [hXe]; exact fpC b hb, ?_, .inl (by rw [hXex]; exact hb), fun y c p => ?_, fun p hp => by rw [hXpn] at hp; cases hp⟩
    · rw [hXf]; intro z
      rcases List.mem_cons.mp (I3.stkSub b z) with q | q
      · exact (f2 b hb).2.1 q
      · exact (f2 b hb).2.2.1 q
    · rw [hXe] at p; exact (f2 b hb).2.2.2.2.1 y c (hcl1 y c p)
  have fin : ∀ {H5 : Hp} {s5 : Shared} {σ5 : St}, Inv X' [] σ5 H5 s5 → Q (.ref acc) H5 → compPost (model X.prog X.w) X.A X.xe use Q2 (.ref acc) s3.heap.objs.size (.ok .next) s5 := fun {H5 s5 σ5} I5 q => by
    obtain ⟨m, hn, _⟩ := I5.loc
    rw [hXe] at hn
    have hn' : s5.heap.Ns s3.heap.objs.size m := hn
    obtain ⟨oC, esC, epC, hC1, hC2, hC3⟩ := hn'
    have u5 := I5.base
    rw [hXf, hXex, hXH, hXs] at u5
    have fr : H5 s3.heap.objs.size = none := by have := I5.free; rw [hXe] at this; exact this
    have hok5 := I5.hok
    rw [hXp, hXw] at hok5
    have hos : s5.os = s3.os := by have := I5.os; rw [hXs] at this; exact this
    have IX : Inv X pins σ H5 s5 := I3.call' (s' := s5) (ch := fp) hos u5 hok5 I5.bare (fun b hb => by
      obtain ⟨g0, g1, g2, g3, g4, g5⟩ := f2 b hb
      exact ⟨g3, g1, g4, g5⟩)
    have cC : ∀ x c, X.env.cells.lookup x = some c → c ≠ s3.heap.objs.size := fun x c z e => by
      obtain ⟨v, q⟩ := I3.cell x c z
      exact absurd q.lt (by rw [e]; exact Nat.lt_irrefl _)
    have pC : ∀ p ∈ X.pn ++ pins, p.1 ≠ s3.heap.objs.size := fun p hp e => by
      have := Heap.lt_size (I3.pin p hp).1
      rw [e] at this
      exact Nat.lt_irrefl _ this
    refine hfin acc s3.heap.objs.size H5 s5 oC (IX.pins_of fun p hp => ?_) cC I3.sz pC ⟨m, fun h' z => ⟨oC, esC, epC, z, hC2, hC3⟩⟩ q
    rcases List.mem_append.mp hp with z | z
    · exact IX.pin p (List.mem_append_right _ z)
    · have e := List.mem_singleton.mp z
      subst e
      refine ⟨hC1, fr, Nat.ne_of_gt I3.lt, I3.nofs (Nat.le_refl _), fun v e => ?_⟩
      have e' : oC.data = .cell v := e
      rw [hC2] at e'; cases e'
  have loop : ∀ tk, codeAny (model X.prog X.w) X.A (.compLoop (.ListComp elt [⟨tg, iter, ifs, 0⟩] scope pos) 0 (.ref it) (.ref acc) (compEnvC scope cl s3.heap.objs.size X.env))
      (compPost (model X.prog X.w) X.A X.xe use Q2 (.ref acc) s3.heap.objs.size) { s3 with heap := h₁, toks := tk } := fun tk => by
    refine compLoop_go (fun n s' => ∃ i ys σ' H', Inv X' [] σ' H' s' ∧ IsCap tn'.length ix σ σ' ∧ tn i s'.heap ∧ (∀ b ∈ fp, H' b = none) ∧ W i n ys H') (fun n s5 h5 => ?_) m0
      ⟨0, [], capT tn'.length ix σ, H3, I4 tk, ⟨_, List.length_replicate, rfl⟩, T.keep _ _ _ st3' fun b _ o q => keep4 b o q, fpn, w0⟩
    obtain ⟨i, ys, σ5, H5, I5, hσ, st5, fr5, w5⟩ := h5
    rcases turn i n ys H5 w5 with ⟨stop, q⟩ | ⟨go, step⟩
    · have d := T.done X' hXp hXw hXK hXc i [] s5 σ5 H5 (fun _ _ => False) I5 (stat fr5) st5 stop
      rw [hXA] at d
      refine thn d fun r s6 ⟨hr, I6⟩ => ?_
      subst hr
      exact fin I6 q
    · have d := T.item X' hXp hXw hXK hXc i [] s5 σ5 H5 (fun _ _ => False) I5 (stat fr5) st5 go
      rw [hXA] at d
      refine thn d fun r s6 ⟨u, hr, h6⟩ => ?_
      subst hr
      refine thn h6 fun _ s7 ⟨z, H7, I7, r7, y7, st7, fr7⟩ => ?_
      have I7' := I7.pinned (stat fr7) (T.obj _ _ st7)
      have again : ∀ {H9 : Hp} {s9 : Shared} {ys9 : List V} {σ9 : St}, Inv X' ([] ++ pinsAt fp s7.heap) σ9 H9 s9 → IsCap tn'.length ix σ σ9 → (∃ m', m' < n ∧ W (i + 1) m' ys9 H9) → ∃ m', m' < n ∧ ∃ i ys σ' H', Inv X' [] σ' H' s9 ∧ IsCap tn'.length ix σ σ' ∧ tn i s9.heap ∧ (∀ b ∈ fp, H' b = none) ∧ W i m' ys H' := fun {H9 s9 ys9 σ9} I9 c9 ⟨m', hm, w9⟩ => by
        refine ⟨m', hm, i + 1, ys9, _, H9, I9.unpinned, c9, T.keep _ _ _ st7 fun b hb o e => (I9.pin (b, o) (List.mem_append_right _ (List.mem_append_right _ (mem_pinsAt hb e)))).1, fun b hb => ?_, w9⟩
        obtain ⟨o, e, _⟩ := T.obj _ _ st7 b hb
        exact (I9.pin (b, o) (List.mem_append_right _ (List.mem_append_right _ (mem_pinsAt hb e)))).2.1
      have ht' := ht cl s3.heap.objs.size s3 H3 fp
      have he' := he cl s3.heap.objs.size s3 H3 fp
      have hg' := hg cl s3.heap.objs.size s3 H3 fp
      rw [hX'] at ht' he' hg'
      rw [← hXe]
      have a0 := hg' _ s7 σ5 H7 z u _ I7' r7 (step σ5 z H7 hσ y7)
      rw [hXp, hXw, hXA, hXx] at a0
      refine thn a0 fun _ s8 ⟨σ8, H8, I8, c8, q8⟩ => ?_
      have a1 := ht' _ s8 _ H8 _ I8 q8
      rw [hXp, hXw, hXA, hXx] at a1
      refine thn a1 fun b s9 ⟨H9, I9, q9⟩ => ?_
      cases b with
      | false => exact again I9 c8 q9
      | true =>
        have a2 := he' _ s9 _ H9 _ I9 q9
        rw [hXp, hXw, hXA, hXx] at a2
        refine thn a2 fun yv s10 ⟨y, H10, I10, r10, q1, q2, q3⟩ => ?_
        have a3 := mt_append (X := X') _ s10 _ H10 (.ref acc) [y] (.ref acc) [yv] (fun _ Hq => ∃ m', m' < n ∧ W (i + 1) m' (ys ++ [y]) Hq) I10 rfl (.cons r10 .nil) ⟨acc, ys, y, rfl, rfl, q1, q2, q3⟩
        rw [hXp, hXw, hXA, hXx] at a3
        exact thn a3 fun _ s11 ⟨_, H11, I11, _, q11⟩ => again I11 c8 q11
  refine codeAny_compStart_list (loop _) ?_
  exact T.self _ 0 _ _ _ (T.keep _ _ _ st3' fun b _ o q => keep4 b o q) (loop _)

section
variable {X : Cx} {elt iter tg : Expr} {tn' : List Str} {tgr : TG} {ifs : List Expr} {scope osc : Scope} {pos : Pos} {wi : TI} {tt : TT} {te : TE}
theorem pe_compT (ix : List Nat) (tn' N' : List Str)
    (hxe : X.xe = fun _ _ => False) (hc : X.calm = true) (ho : X.env.scope = osc) (hN : N' = tn' ++ ix.map fun i => (X.N[i]?).getD ("" : Str)) (hnd : N'.Nodup)
    (hall : (∀ y ∈ scope.names, y.2 = .free → osc.names.lookup y.1 = some .cell) ∧ (∀ y ∈ scope.names, y.2 ≠ .cell) ∧ scope.kind = .function ∧ (∀ y ∈ scope.names, y.2 = .local → scope.names.lookup y.1 = some .local) ∧ (∀ y ∈ N'.drop tn'.length, scope.names.lookup y = some .free))
    (hi : PI X tg iter wi) (hg : ∀ cl C s₀ H₀ fp, PG (cxComp X scope cl C s₀ H₀ fp N') tg tgr)
    (ht : ∀ cl C s₀ H₀ fp, PTs (cxComp X scope cl C s₀ H₀ fp N') ifs tt)
    (he : ∀ cl C s₀ H₀ fp, PE (cxComp X scope cl C s₀ H₀ fp N') elt te)
    (hs : ∀ x, foldedSetIterable iter X.env x = pure x := by intro _; rfl) :
    PE X (.ListComp elt [⟨tg, iter, ifs, 0⟩] scope pos) (tCompT wi tn'.length ix tgr tt te) := by
  intro pins s σ H Q I h
  have e : eval (.ListComp elt [⟨tg, iter, ifs, 0⟩] scope pos) X.env = comprehension (.ListComp elt [⟨tg, iter, ifs, 0⟩] scope pos) scope X.env (firstIterPos [⟨tg, iter, ifs, 0⟩] pos) (newList []) false (eval iter X.env) none := by
    rw [eval_ListComp]; rfl
  rw [e]
  refine comp_genT (use := none) (Q2 := EP X pins σ Q) ix N' hxe hc ho hN hnd hall hi hg ht he hs I h fun acc C H5 s5 o I5 cC hC pC hm q => ?_
  obtain ⟨m, hm⟩ := hm
  exact ⟨m, hm _ (I5.pin (C, o) (List.mem_append_right _ (List.mem_append_right _ (List.mem_singleton.mpr rfl)))).1, fun h' hs' => ⟨.ref acc, H5, I5.butC cC hC pC hs', rfl, q⟩⟩
theorem ps_compSetT {y : Str} {py spos : Pos} {i : Nat} (ix : List Nat) (tn' N' : List Str)
    (hxe : X.xe = fun _ _ => False) (hc : X.calm = true) (ho : X.env.scope = osc) (hN : N' = tn' ++ ix.map fun i => (X.N[i]?).getD ("" : Str)) (hnd : N'.Nodup)
    (hall : (∀ y ∈ scope.names, y.2 = .free → osc.names.lookup y.1 = some .cell) ∧ (∀ y ∈ scope.names, y.2 ≠ .cell) ∧ scope.kind = .function ∧ (∀ y ∈ scope.names, y.2 = .local → scope.names.lookup y.1 = some .local) ∧ (∀ y ∈ N'.drop tn'.length, scope.names.lookup y = some .free))
    (hi : PI X tg iter wi) (hg : ∀ cl C s₀ H₀ fp, PG (cxComp X scope cl C s₀ H₀ fp N') tg tgr)
    (ht : ∀ cl C s₀ H₀ fp, PTs (cxComp X scope cl C s₀ H₀ fp N') ifs tt)
    (he : ∀ cl C s₀ H₀ fp, PE (cxComp X scope cl C s₀ H₀ fp N') elt te)
    (hNN : X.N.Nodup) (hy : X.N[i]? = some y) (hl : X.env.scope.names.lookup y = some .local)
    (hsw : swapsWith (.ListComp elt [⟨tg, iter, ifs, 0⟩] scope pos) (some (.Name y py)) spos.line X.env = pure true := by rfl)
    (hs : ∀ x, foldedSetIterable iter X.env x = pure x := by intro _; rfl) :
    PS X (.Assign [.Name y py] (.ListComp elt [⟨tg, iter, ifs, 0⟩] scope pos) spos) (tAsg (tCompT wi tn'.length ix tgr tt te) (gName i)) := by
  intro pins s σ H D I h
  rw [exec_Assign_Name_used _ _ _ _ hsw]
  refine wpAny_bind (wpAny_standAt ?_)
  show wpAny _ _ (evalThenUse (.ListComp elt [⟨tg, iter, ifs, 0⟩] scope pos) X.env (assign (.Name y py) X.env) >>= fun _ => pure Flow.next) _ _ _
  refine wpAny_bind ?_
  show wpAny _ _ (comprehension (.ListComp elt [⟨tg, iter, ifs, 0⟩] scope pos) scope X.env (firstIterPos [⟨tg, iter, ifs, 0⟩] pos) (newList []) false (eval iter X.env) (some (assign (.Name y py) X.env)) >>= fun _ => pure ()) _ _ _
  refine wpAny_bind (comp_genT (use := some (assign (.Name y py) X.env)) ix N' hxe hc ho hN hnd hall hi hg ht he hs I h fun acc C H5 s5 o I5 cC hC pC hm q => ?_)
  obtain ⟨m, hm⟩ := hm
  refine wpAny_assign_Name (store_ok (i := i) (v := .ref acc) I5 hNN hy (.inl hl) rfl (fun s6 I6 => ?_) (.inr hl))
  refine ⟨m, hm _ (I6.pin (C, o) (List.mem_append_right _ (List.mem_append_right _ (List.mem_singleton.mpr rfl)))).1, fun h' hs' => ?_⟩
  exact wpAny_pure (wpAny_pure ⟨_, H5, I6.butC cC hC pC hs', q⟩)
end
end L2
namespace L2.FD
open PySem PySem.Spec PyProof.Rows

/-! ### values by depth, a heap of what can change -/
inductive D where
  | non | bl (b : Bool) | int (i : Int) | str (x : Str) | tup (ds : List D) | frl (ds : List D) | ref (n : Nat) | fn (x : Str)
inductive O where
  | lst (ds : List D) | set (n : Nat) | dic (kvs : List (Key × D))
abbrev Hh := List O
abbrev En := List (Option D)
/-- an exception: its class's name, its fields -/
structure Xc where
  cls : Str
  fs : List (Str × D)
inductive R (β : Type) where
  | ok (b : β) (h : Hh)
  | err (x : Xc) (h : Hh)
  | bad
def R.bind {β γ : Type} (r : R β) (f : β → Hh → R γ) : R γ := match r with
  | .ok b h => f b h
  | .err x h => .err x h
  | .bad => .bad
inductive Fl where
  | nx (e : En) | bk (e : En) | ct (e : En) | rt (d : D)

abbrev ME := En → Hh → R D
abbrev MT := En → Hh → R Bool
abbrev MA := En → Hh → R (List D)
abbrev MS := En → Hh → R Fl

/-! ### how they stand in the layer's heap -/
/-- a list that is read alone: the script -/
def Fro (K : PySem.W.Frag) (H : Hp) (p : Addr) (vs : List V) : Prop :=
  (∃ o, H p = some (.frz o (.lst vs))) ∨ ∃ (o : Obj) (its : Array Value) (n : Nat), K.lookup p = some o ∧ o.cls = .type "list" ∧ o.dict = none ∧ o.data = .seq its n ∧ its.size ≤ sizeLine ∧ Vals vs its.toList
theorem Fro.sq {K : PySem.W.Frag} {H : Hp} {p : Addr} {vs : List V} (h : Fro K H p vs) : SqL K H p vs := by
  rcases h with ⟨o, h⟩ | h
  · exact .inl (.inr ⟨o, h⟩)
  · exact .inr h
mutual
inductive RelD (K : PySem.W.Frag) (g : Str → Option Addr) (α : List Addr) (H : Hp) : D → V → Prop where
  | non : RelD K g α H .non .non
  | bl (b) : RelD K g α H (.bl b) (.bl b)
  | int (i) : RelD K g α H (.int i) (.int i)
  | str (x) : RelD K g α H (.str x) (.str x)
  | ref {n p} : α[n]? = some p → RelD K g α H (.ref n) (.ref p)
  | tup {ds p vs} : H p = some (.tup vs) → RelDs K g α H ds vs → RelD K g α H (.tup ds) (.ref p)
  | frl {ds p vs} : Fro K H p vs → RelDs K g α H ds vs → RelD K g α H (.frl ds) (.ref p)
  | fn {x f} : g x = some f → RelD K g α H (.fn x) (.ref f)
inductive RelDs (K : PySem.W.Frag) (g : Str → Option Addr) (α : List Addr) (H : Hp) : List D → List V → Prop where
  | nil : RelDs K g α H [] []
  | cons {d v ds vs} : RelD K g α H d v → RelDs K g α H ds vs → RelDs K g α H (d :: ds) (v :: vs)
end

/-- what is written stays: the tuples, the script; our objects keep their names -/
structure Ex0 (K : PySem.W.Frag) (α : List Addr) (H : Hp) (α' : List Addr) (H' : Hp) : Prop where
  pre : α <+: α'
  tup : ∀ (p : Addr) (xs : List V), H p = some (.tup xs) → H' p = some (.tup xs)
  fro : ∀ p xs, Fro K H p xs → Fro K H' p xs
/-- .. and what is not ours stays -/
structure Ext (K : PySem.W.Frag) (α : List Addr) (H : Hp) (α' : List Addr) (H' : Hp) : Prop extends Ex0 K α H α' H' where
  keep : ∀ p o, H p = some o → p ∉ α → H' p = some o
  new : ∀ p, p ∈ α' → p ∉ α → H p = none

section
variable {K : PySem.W.Frag} {g : Str → Option Addr} {α α' α'' : List Addr} {H H' H'' : Hp}
theorem Ex0.refl : Ex0 K α H α H := ⟨List.prefix_refl _, fun _ _ h => h, fun _ _ h => h⟩
theorem Ex0.trans (a : Ex0 K α H α' H') (b : Ex0 K α' H' α'' H'') : Ex0 K α H α'' H'' := ⟨a.pre.trans b.pre, fun p xs h => b.tup p xs (a.tup p xs h), fun p xs h => b.fro p xs (a.fro p xs h)⟩
theorem Ext.refl : Ext K α H α H := ⟨.refl, fun _ _ h _ => h, fun _ h n => absurd h n⟩
theorem Ext.trans (a : Ext K α H α' H') (b : Ext K α' H' α'' H'') : Ext K α H α'' H'' := ⟨a.toEx0.trans b.toEx0, fun p o h n => b.keep p o (a.keep p o h n) (fun z => by rw [a.new p z n] at h; cases h), fun p z n => by
    by_cases q : p ∈ α'
    · exact a.new p q n
    · have := b.new p z q
      cases e : H p with
      | none => rfl
      | some o => rw [a.keep p o e n] at this; cases this⟩
theorem Ex0.get (e : Ex0 K α H α' H') {n : Nat} {p : Addr} (h : α[n]? = some p) : α'[n]? = some p := by
  obtain ⟨t, rfl⟩ := e.pre
  have hl : n < α.length := by
    by_cases hl : n < α.length
    · exact hl
    · rw [List.getElem?_eq_none (by omega)] at h; cases h
  rw [List.getElem?_append_left hl]; exact h
mutual
theorem RelD.ex0 (e : Ex0 K α H α' H') : ∀ {d : D} {v : V}, RelD K g α H d v → RelD K g α' H' d v
  | _, _, .non => .non
  | _, _, .bl b => .bl b
  | _, _, .int i => .int i
  | _, _, .str x => .str x
  | _, _, .ref h => .ref (e.get h)
  | _, _, .tup h r => .tup (e.tup _ _ h) (RelDs.ex0 e r)
  | _, _, .frl h r => .frl (e.fro _ _ h) (RelDs.ex0 e r)
  | _, _, .fn h => .fn h
theorem RelDs.ex0 (e : Ex0 K α H α' H') : ∀ {ds : List D} {vs : List V}, RelDs K g α H ds vs → RelDs K g α' H' ds vs
  | _, _, .nil => .nil
  | _, _, .cons r t => .cons (RelD.ex0 e r) (RelDs.ex0 e t)
end
theorem RelD.ext (e : Ext K α H α' H') {d : D} {v : V} (r : RelD K g α H d v) : RelD K g α' H' d v := r.ex0 e.toEx0
theorem RelDs.ext (e : Ext K α H α' H') {d : List D} {v : List V} (r : RelDs K g α H d v) : RelDs K g α' H' d v := r.ex0 e.toEx0
theorem RelDs.length : ∀ {ds : List D} {vs : List V}, RelDs K g α H ds vs → ds.length = vs.length
  | _, _, .nil => rfl
  | _, _, .cons _ t => by simp [RelDs.length t]
theorem RelDs.append : ∀ {ds es : List D} {vs us : List V}, RelDs K g α H ds vs → RelDs K g α H es us → RelDs K g α H (ds ++ es) (vs ++ us)
  | _, _, _, _, .nil, s => s
  | _, _, _, _, .cons r t, s => .cons r (RelDs.append t s)
theorem RelDs.get : ∀ {ds : List D} {vs : List V} {i : Nat} {d : D}, RelDs K g α H ds vs → ds[i]? = some d → ∃ v, vs[i]? = some v ∧ RelD K g α H d v
  | _, _, _, _, .nil, e => by simp at e
  | _, _, 0, _, .cons r _, e => by simp at e; subst e; exact ⟨_, rfl, r⟩
  | _, _, i + 1, d, .cons _ t, e => by
    obtain ⟨u, h1, h2⟩ := RelDs.get (i := i) (d := d) t (by simpa using e)
    exact ⟨u, by simpa using h1, h2⟩
theorem RelDs.getV : ∀ {ds : List D} {vs : List V} {i : Nat} {v : V}, RelDs K g α H ds vs → vs[i]? = some v → ∃ d, ds[i]? = some d ∧ RelD K g α H d v
  | _, _, _, _, .nil, e => by simp at e
  | _, _, 0, _, .cons r _, e => by simp at e; subst e; exact ⟨_, rfl, r⟩
  | _, _, i + 1, d, .cons _ t, e => by
    obtain ⟨u, h1, h2⟩ := RelDs.getV (i := i) (v := d) t (by simpa using e)
    exact ⟨u, by simpa using h1, h2⟩
theorem RelDs.set {d : D} {v : V} (r : RelD K g α H d v) : ∀ {ds : List D} {vs : List V} (i : Nat), RelDs K g α H ds vs → RelDs K g α H (ds.set i d) (vs.set i v)
  | _, _, _, .nil => .nil
  | _, _, 0, .cons _ t => .cons r t
  | _, _, i + 1, .cons q t => .cons q (RelDs.set r i t)
theorem RelDs.take : ∀ {ds : List D} {vs : List V} (n : Nat), RelDs K g α H ds vs → RelDs K g α H (ds.take n) (vs.take n)
  | _, _, 0, _ => .nil
  | _, _, _ + 1, .nil => .nil
  | _, _, n + 1, .cons r t => .cons r (RelDs.take n t)
theorem RelDs.drop : ∀ {ds : List D} {vs : List V} (n : Nat), RelDs K g α H ds vs → RelDs K g α H (ds.drop n) (vs.drop n)
  | _, _, 0, r => r
  | _, _, _ + 1, .nil => .nil
  | _, _, n + 1, .cons _ t => RelDs.drop n t
theorem RelDs.rev : ∀ {ds : List D} {vs : List V}, RelDs K g α H ds vs → RelDs K g α H ds.reverse vs.reverse
  | _, _, .nil => .nil
  | _, _, .cons r t => by simp only [List.reverse_cons]; exact (RelDs.rev t).append (.cons r .nil)
theorem RelDs.erase : ∀ {ds : List D} {vs : List V} (i : Nat), RelDs K g α H ds vs → RelDs K g α H (ds.eraseIdx i) (vs.eraseIdx i)
  | _, _, _, .nil => .nil
  | _, _, 0, .cons _ t => t
  | _, _, i + 1, .cons q t => .cons q (RelDs.erase i t)
theorem RelDs.ints (ns : List Int) : RelDs K g α H (ns.map D.int) (ns.map V.int) := by
  induction ns with
  | nil => exact .nil
  | cons n r ih => exact .cons (.int n) ih
theorem RelDs.intsV : ∀ {ns : List Int} {vs : List V}, RelDs K g α H (ns.map D.int) vs → vs = ns.map V.int
  | [], _, .nil => rfl
  | n :: r, _, .cons (.int _) t => by rw [RelDs.intsV t]; rfl
theorem RelDs.flat {ds : List D} {vs : List V} (r : RelDs K g α H ds vs) : ∀ k, RelDs K g α H (List.replicate k ds).flatten (List.replicate k vs).flatten
  | 0 => .nil
  | k + 1 => by rw [List.replicate_succ, List.replicate_succ, List.flatten_cons, List.flatten_cons]; exact r.append (RelDs.flat r k)
end

/-- what stands at an address -/
def OAt (K : PySem.W.Frag) (g : Str → Option Addr) (α : List Addr) (H : Hp) (p : Addr) : O → Prop
  | .lst ds => ∃ vs, H p = some (.lst vs) ∧ RelDs K g α H ds vs
  | .set n => ∃ S, H p = some (.set S n)
  | .dic kvs => ∃ kws, H p = some (.dK kws) ∧ Paired (fun (a : Key × D) (b : Key × V) => a.1 = b.1 ∧ RelD K g α H a.2 b.2) kvs kws
structure HRel (K : PySem.W.Frag) (g : Str → Option Addr) (α : List Addr) (H : Hp) (h : Hh) : Prop where
  len : α.length = h.length
  inj : ∀ (n m : Nat) (p : Addr), α[n]? = some p → α[m]? = some p → n = m
  here : ∀ (n : Nat) (p : Addr) (o : O), α[n]? = some p → h[n]? = some o → OAt K g α H p o

section
variable {K : PySem.W.Frag} {g : Str → Option Addr} {α α' : List Addr} {H H' : Hp} {h : Hh}
theorem Paired.mapD {kvs : List (Key × D)} {kws : List (Key × V)} (e : Ex0 K α H α' H') (r : Paired (fun (a : Key × D) (b : Key × V) => a.1 = b.1 ∧ RelD K g α H a.2 b.2) kvs kws) :
    Paired (fun (a : Key × D) (b : Key × V) => a.1 = b.1 ∧ RelD K g α' H' a.2 b.2) kvs kws := L2.Paired.mapP r fun _ _ q => ⟨q.1, q.2.ex0 e⟩
theorem HRel.addr (r : HRel K g α H h) {n : Nat} {o : O} (e : h[n]? = some o) : ∃ p, α[n]? = some p ∧ OAt K g α H p o := by
  have hl : n < h.length := by
    by_cases hl : n < h.length
    · exact hl
    · rw [List.getElem?_eq_none (by omega)] at e; cases e
  have hl' : n < α.length := by rw [r.len]; exact hl
  exact ⟨α[n], List.getElem?_eq_getElem hl', r.here n _ o (List.getElem?_eq_getElem hl') e⟩
theorem OAt.isS {p : Addr} {o : O} (h : OAt K g α H p o) : ∃ u, H p = some u ∧ (∀ ys, u ≠ .tup ys) ∧ ∀ w ys, u ≠ .frz w ys := by
  cases o with
  | lst ds => obtain ⟨vs, e, _⟩ := h; exact ⟨_, e, fun _ z => (nomatch z), fun _ _ z => nomatch z⟩
  | set n => obtain ⟨vs, e⟩ := h; exact ⟨_, e, fun _ z => (nomatch z), fun _ _ z => nomatch z⟩
  | dic kvs => obtain ⟨vs, e, _⟩ := h; exact ⟨_, e, fun _ z => (nomatch z), fun _ _ z => nomatch z⟩
theorem HRel.mem (r : HRel K g α H h) {p : Addr} (hp : p ∈ α) : ∃ u, H p = some u ∧ (∀ ys, u ≠ .tup ys) ∧ ∀ w ys, u ≠ .frz w ys := by
  obtain ⟨n, hn, e⟩ := List.getElem_of_mem hp
  have hn' : n < h.length := by rw [← r.len]; exact hn
  exact (r.here n p _ (by rw [List.getElem?_eq_getElem hn, e]) (List.getElem?_eq_getElem hn')).isS
/-- an object as it stands, where its address is not written -/
theorem OAt.ex0 {p : Addr} {o : O} (e : Ex0 K α H α' H') (h : OAt K g α H p o) (k : ∀ u, H p = some u → H' p = some u) : OAt K g α' H' p o := by
  cases o with
  | lst ds => obtain ⟨vs, a, r⟩ := h; exact ⟨vs, k _ a, r.ex0 e⟩
  | set n => obtain ⟨S, a⟩ := h; exact ⟨S, k _ a⟩
  | dic kvs => obtain ⟨kws, a, r⟩ := h; exact ⟨kws, k _ a, Paired.mapD e r⟩
/-- a place that bears nothing written -/
def Soft (H : Hp) (p : Addr) : Prop := H p = none ∨ ∃ u, H p = some u ∧ (∀ ys, u ≠ .tup ys) ∧ ∀ w ys, u ≠ .frz w ys
theorem Ex0.upd {p : Addr} {o : HO} (n : Soft H p) : Ex0 K α H α (upd H p o) := by
  have ne : ∀ q u, H q = some u → ((∃ ys, u = .tup ys) ∨ ∃ w ys, u = .frz w ys) → q ≠ p := by
    rintro q u e z rfl
    rcases n with n | ⟨u', e', n1, n2⟩
    · rw [e] at n; cases n
    · rw [e] at e'; cases e'
      rcases z with ⟨ys, z⟩ | ⟨w, ys, z⟩
      · exact n1 _ z
      · exact n2 _ _ z
  refine ⟨List.prefix_refl _, fun q xs h => ?_, fun q xs h => ?_⟩
  · rw [upd_ne (ne q _ h (.inl ⟨_, rfl⟩))]; exact h
  · rcases h with ⟨w, h⟩ | h
    · exact .inl ⟨w, by rw [upd_ne (ne q _ h (.inr ⟨_, _, rfl⟩))]; exact h⟩
    · exact .inr h
theorem Ex0.more (e : Ex0 K α H α H') (l : List Addr) : Ex0 K α H (α ++ l) H' := ⟨List.prefix_append _ _, e.tup, e.fro⟩
theorem Ext.fresh {p : Addr} {o : HO} (n : H p = none) : Ext K α H α (upd H p o) := ⟨Ex0.upd (.inl n), fun q u h _ => by rw [upd_ne (ne_of_none h n)]; exact h, fun _ z m => absurd z m⟩
theorem Ext.push {p : Addr} {o : HO} (n : H p = none) : Ext K α H (α ++ [p]) (upd H p o) := ⟨(Ex0.upd (.inl n)).more _, fun q u h _ => by rw [upd_ne (ne_of_none h n)]; exact h, fun q z m => by
  rcases List.mem_append.mp z with z | z
  · exact absurd z m
  · rw [List.mem_singleton.mp z]; exact n⟩
/-- the abstract heap is written at a place that is not ours -/
theorem HRel.off {p : Addr} {o : HO} (r : HRel K g α H h) (n : Soft H p) (m : p ∉ α) : HRel K g α (upd H p o) h := by
  refine ⟨r.len, r.inj, fun k q u a b => (r.here k q u a b).ex0 (Ex0.upd n) fun w e => ?_⟩
  rw [upd_ne]; exact e
  rintro rfl; exact m (List.mem_of_getElem? a)
theorem HRel.free (r : HRel K g α H h) {p : Addr} (n : H p = none) : p ∉ α := fun z => by
  obtain ⟨u, e, _⟩ := r.mem z
  rw [n] at e; cases e
theorem HRel.grow {p : Addr} {o : HO} (r : HRel K g α H h) (n : H p = none) : HRel K g α (upd H p o) h := r.off (.inl n) (r.free n)
/-- an object becomes ours -/
theorem HRel.adopt {p : Addr} {u : O} (r : HRel K g α H h) (n : p ∉ α) (a : OAt K g (α ++ [p]) H p u) : HRel K g (α ++ [p]) H (h ++ [u]) := by
  have old : ∀ {m : Nat} {q : Addr}, (α ++ [p])[m]? = some q → (α[m]? = some q) ∨ (m = α.length ∧ q = p) := by
    intro m q h1
    by_cases hm : m < α.length
    · rw [List.getElem?_append_left hm] at h1
      exact .inl h1
    · have hl : m < (α ++ [p]).length := by
        by_cases hl : m < (α ++ [p]).length
        · exact hl
        · rw [List.getElem?_eq_none (by omega)] at h1; cases h1
      have e : m = α.length := by simp at hl; omega
      subst e
      rw [List.getElem?_append_right (Nat.le_refl _)] at h1
      simp at h1
      exact .inr ⟨rfl, h1.symm⟩
  refine ⟨by simp [r.len], fun m k q h1 h2 => ?_, fun m q w h1 h2 => ?_⟩
  · rcases old h1 with a1 | ⟨e1, e2⟩
    · rcases old h2 with a2 | ⟨e3, e4⟩
      · exact r.inj m k q a1 a2
      · rw [e4] at a1; exact absurd (List.mem_of_getElem? a1) n
    · rcases old h2 with a2 | ⟨e3, e4⟩
      · rw [e2] at a2; exact absurd (List.mem_of_getElem? a2) n
      · rw [e1, e3]
  · rcases old h1 with a1 | ⟨e1, e2⟩
    · have hm : m < α.length := by
        by_cases hl : m < α.length
        · exact hl
        · rw [List.getElem?_eq_none (by omega)] at a1; cases a1
      rw [List.getElem?_append_left (by rw [← r.len]; exact hm)] at h2
      exact (r.here m q w a1 h2).ex0 (Ex0.refl.more _) fun _ z => z
    · subst e1 e2
      rw [r.len, List.getElem?_append_right (Nat.le_refl _)] at h2
      simp at h2
      subst h2
      exact a
/-- a new object of ours -/
theorem HRel.push {p : Addr} {o : HO} {u : O} (r : HRel K g α H h) (n : H p = none) (a : OAt K g (α ++ [p]) (upd H p o) p u) : HRel K g (α ++ [p]) (upd H p o) (h ++ [u]) := (r.grow n).adopt (r.free n) a
/-- an object of ours is written -/
theorem Ext.write {p : Addr} {o : HO} {k : Nat} (r : HRel K g α H h) (hk : α[k]? = some p) : Ext K α H α (upd H p o) :=
  ⟨Ex0.upd (.inr (r.mem (List.mem_of_getElem? hk))), fun q u h m => by
    rw [upd_ne]; exact h
    rintro rfl; exact m (List.mem_of_getElem? hk), fun _ z m => absurd z m⟩
theorem HRel.write {p : Addr} {o : HO} {u' : O} {k : Nat} (r : HRel K g α H h) (hk : α[k]? = some p) (a : OAt K g α (upd H p o) p u') : HRel K g α (upd H p o) (h.set k u') := by
  have x : Ext K α H α (upd H p o) := Ext.write r hk
  refine ⟨by simp [r.len], r.inj, fun m q w h1 h2 => ?_⟩
  rw [List.getElem?_set] at h2
  by_cases hm : k = m
  · subst hm
    rw [if_pos rfl] at h2
    split at h2
    · cases h2; rw [h1] at hk; cases hk; exact a
    · cases h2
  · rw [if_neg hm] at h2
    refine (r.here m q w h1 h2).ex0 x.toEx0 fun z e => ?_
    rw [upd_ne]; exact e
    rintro rfl; exact hm (r.inj _ _ _ hk h1)
end
end L2.FD
namespace L2.FD
open PySem PySem.Spec PyProof.Rows

abbrev GG := Str → Option Addr
abbrev EE := List Addr → Hp → Xc → Prop

structure VRel (K : PySem.W.Frag) (g : GG) (α : List Addr) (H : Hp) (env : En) (σ : St) : Prop where
  len : env.length = σ.length
  vars : ∀ (i : Nat) (d : D), env[i]? = some (some d) → ∃ v, σ[i]? = some (some v) ∧ RelD K g α H d v
structure SRel (K : PySem.W.Frag) (g : GG) (α : List Addr) (H : Hp) (env : En) (σ : St) (h : Hh) : Prop where
  heap : HRel K g α H h
  vs : VRel K g α H env σ

def WQ (K : PySem.W.Frag) (g : GG) (ε : EE) (α : List Addr) (H : Hp) {β : Type} (r : R β) (k : β → Hh → Prop) : Prop := match r with
  | .ok b h => k b h
  | .err x h => ∀ α' H', Ext K α H α' H' → HRel K g α' H' h → ε α' H' x
  | .bad => False

section
variable {K : PySem.W.Frag} {g : GG} {ε : EE} {α α' : List Addr} {H H' : Hp} {β γ : Type}
theorem WQ.bind {r : R β} {f : β → Hh → R γ} {k : γ → Hh → Prop} (w : WQ K g ε α H (r.bind f) k) : WQ K g ε α H r fun b h => WQ K g ε α H (f b h) k := by
  cases r <;> exact w
theorem WQ.ext {r : R β} {k : β → Hh → Prop} (e : Ext K α H α' H') (w : WQ K g ε α H r k) : WQ K g ε α' H' r k := by
  cases r with
  | ok b h => exact w
  | err x h => exact fun a b c d => w a b (e.trans c) d
  | bad => exact w
theorem WQ.mono {r : R β} {k k' : β → Hh → Prop} (w : WQ K g ε α H r k) (m : ∀ b h, r = .ok b h → k b h → k' b h) : WQ K g ε α H r k' := by
  cases r with
  | ok b h => exact m b h rfl w
  | err x h => exact w
  | bad => exact w
theorem VRel.ext {env : En} {σ : St} (v : VRel K g α H env σ) (e : Ext K α H α' H') : VRel K g α' H' env σ :=
  ⟨v.len, fun i d h => let ⟨x, a, b⟩ := v.vars i d h; ⟨x, a, b.ext e⟩⟩
theorem SRel.ext {env : En} {σ : St} {h h' : Hh} (v : SRel K g α H env σ h) (e : Ext K α H α' H') (r : HRel K g α' H' h') : SRel K g α' H' env σ h' := ⟨r, v.vs.ext e⟩
theorem VRel.set {env : En} {σ : St} {i : Nat} {d : D} {x : V} (v : VRel K g α H env σ) (r : RelD K g α H d x) : VRel K g α H (env.set i (some d)) (σ.set i (some x)) := by
  refine ⟨by simp [v.len], fun j e h => ?_⟩
  rw [List.getElem?_set] at h ⊢
  by_cases hj : i = j
  · subst hj
    rw [if_pos rfl] at h ⊢
    have hl := v.len
    split at h
    · rw [if_pos (by omega)]
      cases h
      exact ⟨x, rfl, r⟩
    · cases h
  · rw [if_neg hj] at h ⊢
    exact v.vars j e h
end

def Post (K : PySem.W.Frag) (g : GG) (α : List Addr) (H : Hp) (Q : VK) : D → Hh → Prop := fun d h => ∀ v H' α', Ext K α H α' H' → HRel K g α' H' h → RelD K g α' H' d v → Q v H'
def PostT (K : PySem.W.Frag) (g : GG) (α : List Addr) (H : Hp) (Q : Bool → Hp → Prop) : Bool → Hh → Prop := fun b h => ∀ H' α', Ext K α H α' H' → HRel K g α' H' h → Q b H'
def PostA (K : PySem.W.Frag) (g : GG) (α : List Addr) (H : Hp) (Q : List V → Hp → Prop) : List D → Hh → Prop := fun ds h => ∀ vs H' α', Ext K α H α' H' → HRel K g α' H' h → RelDs K g α' H' ds vs → Q vs H'
def PostS (K : PySem.W.Frag) (g : GG) (α : List Addr) (H : Hp) (E : Ends) : Fl → Hh → Prop := fun fl h => ∀ H' α', Ext K α H α' H' → HRel K g α' H' h → match fl with
  | .nx e => ∀ σ, VRel K g α' H' e σ → E.nx σ H'
  | .bk e => ∀ σ, VRel K g α' H' e σ → E.bk σ H'
  | .ct e => ∀ σ, VRel K g α' H' e σ → E.ct σ H'
  | .rt d => ∀ v, RelD K g α' H' d v → E.rt v H'

def tM (K : PySem.W.Frag) (g : GG) (ε : EE) (m : ME) : TE := fun σ H Q => ∃ α env h, SRel K g α H env σ h ∧ WQ K g ε α H (m env h) (Post K g α H Q)
def tMT (K : PySem.W.Frag) (g : GG) (ε : EE) (m : MT) : TT := fun σ H Q => ∃ α env h, SRel K g α H env σ h ∧ WQ K g ε α H (m env h) (PostT K g α H Q)
def tMA (K : PySem.W.Frag) (g : GG) (ε : EE) (m : MA) : TA := fun σ H Q => ∃ α env h, SRel K g α H env σ h ∧ WQ K g ε α H (m env h) (PostA K g α H Q)
def tMS (K : PySem.W.Frag) (g : GG) (ε : EE) (m : MS) : TS := fun E σ H => ∃ α env h, SRel K g α H env σ h ∧ WQ K g ε α H (m env h) (PostS K g α H E)

section
variable {K : PySem.W.Frag} {g : GG} {ε : EE} {α α' : List Addr} {H H' : Hp} {env : En} {σ : St} {h : Hh}
theorem Post.ext {Q : VK} {d : D} (e : Ext K α H α' H') (p : Post K g α H Q d h) : Post K g α' H' Q d h := fun v H2 α2 e2 r rd => p v H2 α2 (e.trans e2) r rd
theorem PostT.ext {Q : Bool → Hp → Prop} {d : Bool} (e : Ext K α H α' H') (p : PostT K g α H Q d h) : PostT K g α' H' Q d h := fun H2 α2 e2 r => p H2 α2 (e.trans e2) r
theorem PostA.ext {Q : List V → Hp → Prop} {d : List D} (e : Ext K α H α' H') (p : PostA K g α H Q d h) : PostA K g α' H' Q d h := fun v H2 α2 e2 r rd => p v H2 α2 (e.trans e2) r rd
theorem PostS.ext {E : Ends} {d : Fl} (e : Ext K α H α' H') (p : PostS K g α H E d h) : PostS K g α' H' E d h := fun H2 α2 e2 r => p H2 α2 (e.trans e2) r
theorem WQ.post {Q : VK} {r : R D} (e : Ext K α H α' H') (w : WQ K g ε α H r (Post K g α H Q)) : WQ K g ε α' H' r (Post K g α' H' Q) := (w.ext e).mono fun _ _ _ p => p.ext e
theorem WQ.postT {Q : Bool → Hp → Prop} {r : R Bool} (e : Ext K α H α' H') (w : WQ K g ε α H r (PostT K g α H Q)) : WQ K g ε α' H' r (PostT K g α' H' Q) := (w.ext e).mono fun _ _ _ p => p.ext e
theorem WQ.postA {Q : List V → Hp → Prop} {r : R (List D)} (e : Ext K α H α' H') (w : WQ K g ε α H r (PostA K g α H Q)) : WQ K g ε α' H' r (PostA K g α' H' Q) := (w.ext e).mono fun _ _ _ p => p.ext e
theorem WQ.postS {E : Ends} {r : R Fl} (e : Ext K α H α' H') (w : WQ K g ε α H r (PostS K g α H E)) : WQ K g ε α' H' r (PostS K g α' H' E) := (w.ext e).mono fun _ _ _ p => p.ext e
/-- use a part: what is known of its end, carried on -/
theorem tM.use {m : ME} {Q : VK} {k : D → Hh → Prop} (s : SRel K g α H env σ h) (w : WQ K g ε α H (m env h) k)
    (q : ∀ d h' v H' α', Ext K α H α' H' → SRel K g α' H' env σ h' → RelD K g α' H' d v → k d h' → Q v H') : tM K g ε m σ H Q :=
  ⟨α, env, h, s, w.mono fun d h' _ kk v H' α' e r rd => q d h' v H' α' e (s.ext e r) rd kk⟩
theorem tMT.use {m : MT} {Q : Bool → Hp → Prop} {k : Bool → Hh → Prop} (s : SRel K g α H env σ h) (w : WQ K g ε α H (m env h) k)
    (q : ∀ d h' H' α', Ext K α H α' H' → SRel K g α' H' env σ h' → k d h' → Q d H') : tMT K g ε m σ H Q :=
  ⟨α, env, h, s, w.mono fun d h' _ kk H' α' e r => q d h' H' α' e (s.ext e r) kk⟩
theorem tMA.use {m : MA} {Q : List V → Hp → Prop} {k : List D → Hh → Prop} (s : SRel K g α H env σ h) (w : WQ K g ε α H (m env h) k)
    (q : ∀ d h' v H' α', Ext K α H α' H' → SRel K g α' H' env σ h' → RelDs K g α' H' d v → k d h' → Q v H') : tMA K g ε m σ H Q :=
  ⟨α, env, h, s, w.mono fun d h' _ kk v H' α' e r rd => q d h' v H' α' e (s.ext e r) rd kk⟩
theorem Post.now {Q : VK} {d : D} {v : V} (p : Post K g α H Q d h) (r : HRel K g α H h) (rd : RelD K g α H d v) : Q v H := p v H α Ext.refl r rd
end

theorem PE.imp {X : Cx} {e : Expr} {t t' : TE} (h : PE X e t) (i : ∀ σ H Q, t' σ H Q → t σ H Q) : PE X e t' := fun pins s σ H Q I w => h pins s σ H Q I (i σ H Q w)
theorem PT.imp {X : Cx} {e : Expr} {t t' : TT} (h : PT X e t) (i : ∀ σ H Q, t' σ H Q → t σ H Q) : PT X e t' := fun pins s σ H Q I w => h pins s σ H Q I (i σ H Q w)
theorem PW.imp {X : Cx} {e : Expr} {t t' : TT} (h : PW X e t) (i : ∀ σ H Q, t' σ H Q → t σ H Q) : PW X e t' := fun wh pins s σ H Q I w => h wh pins s σ H Q I (i σ H Q w)
theorem PA.imp {X : Cx} {e : List Expr} {t t' : TA} (h : PA X e t) (i : ∀ σ H Q, t' σ H Q → t σ H Q) : PA X e t' := fun p pins s σ H Q I w => h p pins s σ H Q I (i σ H Q w)
theorem PS.imp {X : Cx} {e : Stmt} {t t' : TS} (h : PS X e t) (i : ∀ σ H Q, t' σ H Q → t σ H Q) : PS X e t' := fun pins s σ H Q I w => h pins s σ H Q I (i Q σ H w)
theorem PSs.imp {X : Cx} {e : List Stmt} {t t' : TS} (h : PSs X e t) (i : ∀ σ H Q, t' σ H Q → t σ H Q) : PSs X e t' := fun pins s σ H Q I w => h pins s σ H Q I (i Q σ H w)

/-! ### the words -/
def cVar (i : Nat) : ME := fun env h => match env[i]? with
  | some (some d) => .ok d h
  | _ => .bad
def cC (d : D) : ME := fun _ h => .ok d h
def cBin (f : D → D → Hh → R D) (a b : ME) : ME := fun env h => (a env h).bind fun x h1 => (b env h1).bind fun y h2 => f x y h2
def cUn (f : D → Hh → R D) (a : ME) : ME := fun env h => (a env h).bind fun x h1 => f x h1
def cNil : MA := fun _ h => .ok [] h
def cCons (a : ME) (r : MA) : MA := fun env h => (a env h).bind fun x h1 => (r env h1).bind fun xs h2 => .ok (x :: xs) h2
def cCall (f : List D → Hh → R D) (a : MA) : ME := fun env h => (a env h).bind fun xs h1 => f xs h1
def cMeth (f : D → List D → Hh → R D) (o : ME) (a : MA) : ME := fun env h => (o env h).bind fun x h1 => (a env h1).bind fun xs h2 => f x xs h2
def cTest (f : D → Hh → R Bool) (a : ME) : MT := fun env h => (a env h).bind fun x h1 => f x h1
def cNotT (a : MT) : MT := fun env h => (a env h).bind fun b h1 => .ok (!b) h1
def cAndT (a b : MT) : MT := fun env h => (a env h).bind fun x h1 => if x = true then b env h1 else .ok false h1
def cOrT (a b : MT) : MT := fun env h => (a env h).bind fun x h1 => if x = true then .ok true h1 else b env h1
def cIf (c : MT) (a b : ME) : ME := fun env h => (c env h).bind fun x h1 => if x = true then a env h1 else b env h1
def asB : D → Hh → R Bool
  | .bl b, h => .ok b h
  | _, _ => .bad
def cAndV (a b : ME) : ME := fun env h => (a env h).bind fun x h1 => (asB x h1).bind fun k h2 => if k = true then b env h2 else .ok (.bl false) h2
def cOrV (a b : ME) : ME := fun env h => (a env h).bind fun x h1 => (asB x h1).bind fun k h2 => if k = true then .ok (.bl true) h2 else b env h2
def cNotV (a : ME) : ME := fun env h => (a env h).bind fun x h1 => (asB x h1).bind fun k h2 => .ok (.bl (!k)) h2
def cChain (f f' : D → D → Hh → R D) (a b c : ME) : ME := fun env h => (a env h).bind fun x h1 => (b env h1).bind fun y h2 => (f x y h2).bind fun z h3 => (asB z h3).bind fun k h4 =>
  if k = true then (c env h4).bind fun w h5 => f' y w h5 else .ok (.bl false) h4

def Imp2 (K : PySem.W.Frag) (g : GG) (ε : EE) (f : D → D → Hh → R D) (r : R2) : Prop :=
  ∀ (α : List Addr) (H : Hp) (h : Hh) (a b : D) (x y : V) (Q : VK), HRel K g α H h → RelD K g α H a x → RelD K g α H b y → WQ K g ε α H (f a b h) (Post K g α H Q) → r x y H Q
def Imp1 (K : PySem.W.Frag) (g : GG) (ε : EE) (f : D → Hh → R D) (r : V → Hp → VK → Prop) : Prop :=
  ∀ (α : List Addr) (H : Hp) (h : Hh) (a : D) (x : V) (Q : VK), HRel K g α H h → RelD K g α H a x → WQ K g ε α H (f a h) (Post K g α H Q) → r x H Q
def ImpT (K : PySem.W.Frag) (g : GG) (ε : EE) (f : D → Hh → R Bool) (r : V → Hp → (Bool → Hp → Prop) → Prop) : Prop :=
  ∀ (α : List Addr) (H : Hp) (h : Hh) (a : D) (x : V) (Q : Bool → Hp → Prop), HRel K g α H h → RelD K g α H a x → WQ K g ε α H (f a h) (PostT K g α H Q) → r x H Q
def ImpL (K : PySem.W.Frag) (g : GG) (ε : EE) (f : List D → Hh → R D) (r : List V → Hp → VK → Prop) : Prop :=
  ∀ (α : List Addr) (H : Hp) (h : Hh) (a : List D) (x : List V) (Q : VK), HRel K g α H h → RelDs K g α H a x → WQ K g ε α H (f a h) (Post K g α H Q) → r x H Q
def ImpM (K : PySem.W.Frag) (g : GG) (ε : EE) (f : D → List D → Hh → R D) (r : V → List V → Hp → VK → Prop) : Prop :=
  ∀ (α : List Addr) (H : Hp) (h : Hh) (o : D) (a : List D) (y : V) (x : List V) (Q : VK), HRel K g α H h → RelD K g α H o y → RelDs K g α H a x → WQ K g ε α H (f o a h) (Post K g α H Q) → r y x H Q

section
variable {X : Cx} {g : GG} {ε : EE} {a b c : Expr} {ma mb mc : ME} {pos : Pos}
theorem se_var (i : Nat) {x : Str} {pos : Pos} (hN : X.N[i]? = some x := by rfl) (hv : Vis X.env.scope x := by first | exact Or.inl rfl | exact Or.inr (Or.inl rfl) | exact Or.inr (Or.inr rfl)) (hd : (x == ("__debug__" : Str)) = false := by decide)
    (hcd : (x == ("__classdict__" : Str)) = false := by decide) : PE X (.Name x pos) (tM X.K g ε (cVar i)) := by
  refine PE.imp (pe_var hN hv hd hcd) fun σ H Q ⟨α, env, h, s, w⟩ => ?_
  unfold cVar at w
  cases e : env[i]? with
  | none => rw [e] at w; exact w.elim
  | some d =>
    cases d with
    | none => rw [e] at w; exact w.elim
    | some d =>
      rw [e] at w
      obtain ⟨v, hv, rd⟩ := s.vs.vars i d e
      exact ⟨v, hv, Post.now w s.heap rd⟩
theorem tC_of {v : V} {d : D} {Q : VK} {σ : St} {H : Hp} (rd : ∀ α, RelD X.K g α H d v) (t : tM X.K g ε (cC d) σ H Q) : tC v σ H Q := by
  obtain ⟨α, env, h, s, w⟩ := t
  exact Post.now w s.heap (rd α)
theorem se_int {i j pos} : PE X (.Constant (.int i) j pos) (tM X.K g ε (cC (.int i))) := PE.imp pe_int fun _ _ _ t => tC_of (fun _ => .int i) t
theorem se_bl {i j pos} : PE X (.Constant (.bool i) j pos) (tM X.K g ε (cC (.bl i))) := PE.imp pe_bl fun _ _ _ t => tC_of (fun _ => .bl i) t
theorem se_str {i j pos} : PE X (.Constant (.str i) j pos) (tM X.K g ε (cC (.str i))) := PE.imp pe_str fun _ _ _ t => tC_of (fun _ => .str i) t
theorem se_non {j pos} : PE X (.Constant .none j pos) (tM X.K g ε (cC .non)) := PE.imp pe_non fun _ _ _ t => tC_of (fun _ => .non) t
/-- a def of the text as a value -/
theorem se_fn {x : Str} {f : Addr} {pos : Pos} (hg : Gl X x) (hm : X.mg x = some (.ref f)) (hf : g x = some f) (hd : (x == ("__debug__" : Str)) = false := by decide) : PE X (.Name x pos) (tM X.K g ε (cC (.fn x))) :=
  PE.imp (pe_glob (v := .ref f) hg hm rfl hd) fun _ _ _ t => tC_of (fun _ => .fn hf) t
theorem se_globI {x : Str} {i : Int} {t : Tok} {pos : Pos} (hg : Gl X x) (hm : X.mg x = some (.int i t)) (hd : (x == ("__debug__" : Str)) = false := by decide) : PE X (.Name x pos) (tM X.K g ε (cC (.int i))) :=
  PE.imp (pe_glob (v := .int i) hg hm ⟨t, rfl⟩ hd) fun _ _ _ t => tC_of (fun _ => .int i) t

theorem tOp_of {f : D → D → Hh → R D} {r : R2} {K : PySem.W.Frag} (im : Imp2 K g ε f r) {σ : St} {H : Hp} {Q : VK} (t : tM K g ε (cBin f ma mb) σ H Q) : tOp r (tM K g ε ma) (tM K g ε mb) σ H Q := by
  obtain ⟨α, env, h, s, w⟩ := t
  refine tM.use s w.bind fun d1 h1 v1 H1 α1 e1 s1 r1 w1 => ?_
  refine tM.use s1 (w1.ext e1).bind fun d2 h2 v2 H2 α2 e2 s2 r2 w2 => ?_
  exact im α2 H2 h2 d1 d2 v1 v2 Q s2.heap (r1.ext e2) r2 ((w2.ext e2).mono fun _ _ _ p => p.ext (e1.trans e2))
theorem se_bin {op : Operator} {r : R2} {f : D → D → Hh → R D} (ho : OpR X (binaryOp op) r) (im : Imp2 X.K g ε f r) (ha : PE X a (tM X.K g ε ma)) (hb : PE X b (tM X.K g ε mb)) : PE X (.BinOp a op b pos) (tM X.K g ε (cBin f ma mb)) :=
  PE.imp (pe_op ho ha hb) fun _ _ _ t => tOp_of im t
theorem se_cmp {op : CmpOp} {r : R2} {f : D → D → Hh → R D} (ho : OpR X (compareOp op) r) (im : Imp2 X.K g ε f r) (ha : PE X a (tM X.K g ε ma)) (hb : PE X b (tM X.K g ε mb)) (hm : behindInMarks op b = false) : PE X (.Compare a [op] [b] pos) (tM X.K g ε (cBin f ma mb)) :=
  PE.imp (pe_cmpR ho ha hb hm) fun _ _ _ t => tOp_of im t
theorem tTest_of {K : PySem.W.Frag} {m : ME} {t : TE} (ht : ∀ σ H Q, tM K g ε m σ H Q → t σ H Q) {σ : St} {H : Hp} {Q : Bool → Hp → Prop} (w : tMT K g ε (cTest asB m) σ H Q) : tTest t σ H Q := by
  obtain ⟨α, env, h, s, w⟩ := w
  refine ht _ _ _ (tM.use s w.bind fun d1 h1 v1 H1 α1 e1 s1 r1 w1 => ?_)
  unfold asB at w1
  cases r1 with
  | bl k => exact ⟨k, rfl, w1 H1 α1 e1 s1.heap⟩
  | _ => exact w1.elim
theorem st_cmp {op : CmpOp} {r : R2} {f : D → D → Hh → R D} (ho : OpR X (compareOp op) r) (im : Imp2 X.K g ε f r) (ha : PE X a (tM X.K g ε ma)) (hb : PE X b (tM X.K g ε mb)) (hm : behindInMarks op b = false) : PT X (.Compare a [op] [b] pos) (tMT X.K g ε (cTest asB (cBin f ma mb))) :=
  PT.imp (pt_cmpR ho ha hb hm) fun _ _ _ t => tTest_of (fun _ _ _ u => tOp_of im u) t
theorem tChain_of {f f' : D → D → Hh → R D} {r r' : R2} {K : PySem.W.Frag} (im : Imp2 K g ε f r) (im' : Imp2 K g ε f' r') {σ : St} {H : Hp} {Q : VK} (t : tM K g ε (cChain f f' ma mb mc) σ H Q) : tChain r r' (tM K g ε ma) (tM K g ε mb) (tM K g ε mc) σ H Q := by
  obtain ⟨α, env, h, s, w⟩ := t
  refine tM.use s w.bind fun d1 h1 v1 H1 α1 e1 s1 r1 w1 => ?_
  refine tM.use s1 (w1.ext e1).bind fun d2 h2 v2 H2 α2 e2 s2 r2 w2 => ?_
  refine im α2 H2 h2 d1 d2 v1 v2 _ s2.heap (r1.ext e2) r2 ((w2.ext e2).bind.mono fun z h3 _ w3 v3 H3 α3 e3 hr3 r3 => ?_)
  have w4 := w3.bind
  unfold asB at w4
  cases r3 with
  | bl k =>
    refine ⟨k, rfl, ?_⟩
    have s3 := s2.ext e3 hr3
    cases k with
    | true =>
      have w5 : WQ K g ε α2 H2 ((mc env h3).bind fun w h5 => f' d2 w h5) _ := w4
      rw [if_pos rfl]
      refine tM.use s3 (w5.ext e3).bind fun d4 h4 v4 H4 α4 e4 s4 r4 w6 => ?_
      exact im' α4 H4 h4 d2 d4 v2 v4 Q s4.heap (r2.ext (e3.trans e4)) r4 ((w6.ext e4).mono fun _ _ _ p => p.ext (e1.trans (e2.trans (e3.trans e4))))
    | false =>
      rw [if_neg Bool.false_ne_true]
      have w5 : Post K g α H Q (.bl false) h3 := w4
      exact w5 _ H3 α3 (e1.trans (e2.trans e3)) s3.heap (.bl false)
  | _ => exact w4.elim
theorem se_chain {op op' : CmpOp} {r r' : R2} {f f' : D → D → Hh → R D} (ho : OpR X (compareOp op) r) (ho' : OpR X (compareOp op') r') (im : Imp2 X.K g ε f r) (im' : Imp2 X.K g ε f' r') (ha : PE X a (tM X.K g ε ma)) (hb : PE X b (tM X.K g ε mb)) (hc : PE X c (tM X.K g ε mc))
    (hm : lastMarks [op, op'] [b, c] = false := by with_unfolding_all rfl) : PE X (.Compare a [op, op'] [b, c] pos) (tM X.K g ε (cChain f f' ma mb mc)) := PE.imp (pe_chain ho ho' ha hb hc hm) fun _ _ _ t => tChain_of im im' t
theorem st_chain {op op' : CmpOp} {r r' : R2} {f f' : D → D → Hh → R D} (ho : OpR X (compareOp op) r) (ho' : OpR X (compareOp op') r') (im : Imp2 X.K g ε f r) (im' : Imp2 X.K g ε f' r') (ha : PE X a (tM X.K g ε ma)) (hb : PE X b (tM X.K g ε mb)) (hc : PE X c (tM X.K g ε mc))
    (hm : lastMarks [op, op'] [b, c] = false := by with_unfolding_all rfl) : PT X (.Compare a [op, op'] [b, c] pos) (tMT X.K g ε (cTest asB (cChain f f' ma mb mc))) := PT.imp (pt_chain ho ho' ha hb hc hm) fun _ _ _ t => tTest_of (fun _ _ _ u => tChain_of im im' u) t
theorem se_un {op : UnaryOp} {r : V → Hp → VK → Prop} {f : D → Hh → R D} (ho : UnR X (unaryOp op) r) (im : Imp1 X.K g ε f r) (ha : PE X a (tM X.K g ε ma)) : PE X (.UnaryOp op a pos) (tM X.K g ε (cUn f ma)) :=
  PE.imp (pe_un ho ha) fun σ H Q ⟨α, env, h, s, w⟩ => tM.use s w.bind fun d1 h1 v1 H1 α1 e1 s1 r1 w1 => im α1 H1 h1 d1 v1 Q s1.heap r1 (w1.post e1)
theorem se_ix {r : R2} {f : D → D → Hh → R D} (hr : IxR X r) (im : Imp2 X.K g ε f r) (ha : PE X a (tM X.K g ε ma)) (hb : PE X b (tM X.K g ε mb)) (hs : PlainIx b) : PE X (.Subscript a b pos) (tM X.K g ε (cBin f ma mb)) :=
  PE.imp (pe_ix hr ha hb hs) fun _ _ _ t => tOp_of im t

/-! tests -/
theorem st_truth {f : D → Hh → R Bool} (im : ImpT X.K g ε f (fun x H Q => ∃ k, TruV X.K x H k ∧ Q k H)) (ha : PE X a (tM X.K g ε ma)) (he : ∀ whole, isTrue a X.env whole = (do let v ← whole; standAt a.pos; holding [v] (truthy v))) : PT X a (tMT X.K g ε (cTest f ma)) :=
  PT.imp (pt_truth ha he) fun σ H Q ⟨α, env, h, s, w⟩ => tM.use s w.bind fun d1 h1 v1 H1 α1 e1 s1 r1 w1 => im α1 H1 h1 d1 v1 Q s1.heap r1 (w1.postT e1)
theorem st_not {mt : MT} (ha : PT X a (tMT X.K g ε mt)) : PT X (.UnaryOp .Not a pos) (tMT X.K g ε (cNotT mt)) :=
  PT.imp (pt_not ha) fun σ H Q ⟨α, env, h, s, w⟩ => tMT.use s w.bind fun d1 h1 H1 α1 e1 s1 w1 => w1 H1 α1 e1 s1.heap
end
end L2.FD
namespace L2.FD
open PySem PySem.Spec PyProof.Rows

section
variable {X : Cx} {g : GG} {ε : EE} {a b c e : Expr} {es : List Expr} {rest : List Expr} {ma mb mc me : ME} {mt mu : MT} {pos : Pos}
/-! and, or, not; if-else -/
theorem sw_and1 (ha : PT X a (tMT X.K g ε mt)) : PW X (.BoolOp .And [a] pos) (tMT X.K g ε mt) := pw_and1 ha
theorem sw_or1 (ha : PT X a (tMT X.K g ε mt)) : PW X (.BoolOp .Or [a] pos) (tMT X.K g ε mt) := pw_or1 ha
theorem sw_and (ha : PT X a (tMT X.K g ε mt)) (hb : PW X (.BoolOp .And (b :: rest) pos) (tMT X.K g ε mu)) : PW X (.BoolOp .And (a :: b :: rest) pos) (tMT X.K g ε (cAndT mt mu)) :=
  PW.imp (pw_and ha hb) fun σ H Q ⟨α, env, h, s, w⟩ => tMT.use s w.bind fun d1 h1 H1 α1 e1 s1 w1 => by
    cases d1 with
    | true => rw [if_pos rfl] at w1 ⊢; exact tMT.use s1 (w1.ext e1) fun d2 h2 H2 α2 e2 s2 w2 => w2 H2 α2 (e1.trans e2) s2.heap
    | false => rw [if_neg Bool.false_ne_true] at w1 ⊢; exact w1 H1 α1 e1 s1.heap
theorem sw_or (ha : PT X a (tMT X.K g ε mt)) (hb : PW X (.BoolOp .Or (b :: rest) pos) (tMT X.K g ε mu)) : PW X (.BoolOp .Or (a :: b :: rest) pos) (tMT X.K g ε (cOrT mt mu)) :=
  PW.imp (pw_or ha hb) fun σ H Q ⟨α, env, h, s, w⟩ => tMT.use s w.bind fun d1 h1 H1 α1 e1 s1 w1 => by
    cases d1 with
    | true => rw [if_pos rfl] at w1 ⊢; exact w1 H1 α1 e1 s1.heap
    | false => rw [if_neg Bool.false_ne_true] at w1 ⊢; exact tMT.use s1 (w1.ext e1) fun d2 h2 H2 α2 e2 s2 w2 => w2 H2 α2 (e1.trans e2) s2.heap
theorem se_ifExp (hc : PT X c (tMT X.K g ε mt)) (ha : PE X a (tM X.K g ε ma)) (hb : PE X b (tM X.K g ε mb)) : PE X (.IfExp c a b pos) (tM X.K g ε (cIf mt ma mb)) :=
  PE.imp (pe_ifExp hc ha hb) fun σ H Q ⟨α, env, h, s, w⟩ => tMT.use s w.bind fun d1 h1 H1 α1 e1 s1 w1 => by
    cases d1 with
    | true => rw [if_pos rfl] at w1 ⊢; exact tM.use s1 (w1.ext e1) fun d2 h2 v2 H2 α2 e2 s2 r2 w2 => w2 v2 H2 α2 (e1.trans e2) s2.heap r2
    | false => rw [if_neg Bool.false_ne_true] at w1 ⊢; exact tM.use s1 (w1.ext e1) fun d2 h2 v2 H2 α2 e2 s2 r2 w2 => w2 v2 H2 α2 (e1.trans e2) s2.heap r2
theorem se_one {op} (h : PE X a (tM X.K g ε ma)) : PE X (.BoolOp op [a] pos) (tM X.K g ε ma) := pe_one h
theorem asB_of {K : PySem.W.Frag} {α : List Addr} {H H1 : Hp} {α1 : List Addr} {d : D} {v : V} {h : Hh} {β : Type} {f : Bool → Hh → R β} {k : β → Hh → Prop} (r : RelD K g α1 H1 d v) (w : WQ K g ε α H ((asB d h).bind f) k) : ∃ b, v = .bl b ∧ d = .bl b ∧ WQ K g ε α H (f b h) k := by
  cases r with
  | bl b => exact ⟨b, rfl, rfl, w⟩
  | _ => exact w.elim
theorem se_and (ha : PE X a (tM X.K g ε ma)) (hb : PE X (.BoolOp .And (b :: rest) pos) (tM X.K g ε mb)) : PE X (.BoolOp .And (a :: b :: rest) pos) (tM X.K g ε (cAndV ma mb)) :=
  PE.imp (pe_and ha hb) fun σ H Q ⟨α, env, h, s, w⟩ => tM.use s w.bind fun d1 h1 v1 H1 α1 e1 s1 r1 w1 => by
    obtain ⟨k, rfl, rfl, w2⟩ := asB_of r1 w1
    refine ⟨k, rfl, ?_⟩
    cases k with
    | true => rw [if_pos rfl] at w2 ⊢; exact tM.use s1 (w2.ext e1) fun d2 h2 v2 H2 α2 e2 s2 r2 w2 => w2 v2 H2 α2 (e1.trans e2) s2.heap r2
    | false => rw [if_neg Bool.false_ne_true] at w2 ⊢; exact w2 _ H1 α1 e1 s1.heap (.bl false)
theorem se_or (ha : PE X a (tM X.K g ε ma)) (hb : PE X (.BoolOp .Or (b :: rest) pos) (tM X.K g ε mb)) : PE X (.BoolOp .Or (a :: b :: rest) pos) (tM X.K g ε (cOrV ma mb)) :=
  PE.imp (pe_or ha hb) fun σ H Q ⟨α, env, h, s, w⟩ => tM.use s w.bind fun d1 h1 v1 H1 α1 e1 s1 r1 w1 => by
    obtain ⟨k, rfl, rfl, w2⟩ := asB_of r1 w1
    refine ⟨k, rfl, ?_⟩
    cases k with
    | true => rw [if_pos rfl] at w2 ⊢; exact w2 _ H1 α1 e1 s1.heap (.bl true)
    | false => rw [if_neg Bool.false_ne_true] at w2 ⊢; exact tM.use s1 (w2.ext e1) fun d2 h2 v2 H2 α2 e2 s2 r2 w2 => w2 v2 H2 α2 (e1.trans e2) s2.heap r2
theorem se_not (ha : PE X a (tM X.K g ε ma)) : PE X (.UnaryOp .Not a pos) (tM X.K g ε (cNotV ma)) :=
  PE.imp (pe_not ha) fun σ H Q ⟨α, env, h, s, w⟩ => tM.use s w.bind fun d1 h1 v1 H1 α1 e1 s1 r1 w1 => by
    obtain ⟨k, rfl, rfl, w2⟩ := asB_of r1 w1
    exact ⟨k, rfl, w2 _ H1 α1 e1 s1.heap (.bl _)⟩

/-! argument lists, displays -/
variable {mr : MA}
theorem sa_nil : PA X [] (tMA X.K g ε cNil) := PA.imp pa_nil fun σ H Q ⟨α, env, h, s, w⟩ => w [] H α Ext.refl s.heap .nil
theorem sa_cons (ha : PE X e (tM X.K g ε ma)) (hr : PA X es (tMA X.K g ε mr)) (hs : starEach (e :: es) X.env = (false, eval e X.env) :: starEach es X.env := by rfl) : PA X (e :: es) (tMA X.K g ε (cCons ma mr)) :=
  PA.imp (pa_cons ha hr hs) fun σ H Q ⟨α, env, h, s, w⟩ => tM.use s w.bind fun d1 h1 v1 H1 α1 e1 s1 r1 w1 => tMA.use s1 (w1.ext e1).bind fun d2 h2 v2 H2 α2 e2 s2 r2 w2 => w2 _ H2 α2 (e1.trans e2) s2.heap (.cons (r1.ext e2) r2)
def dTup : List D → Hh → R D := fun ds h => if ds.length ≤ 1000000 then .ok (.tup ds) h else .bad
def dLst : List D → Hh → R D := fun ds h => if ds.length ≤ 1000000 then .ok (.ref h.length) (h ++ [.lst ds]) else .bad
theorem Post.lst {K : PySem.W.Frag} {α : List Addr} {H : Hp} {h : Hh} {ds : List D} {vs : List V} {Q : VK} {p : Addr} (w : Post K g α H Q (.ref h.length) (h ++ [.lst ds])) (r : HRel K g α H h) (rd : RelDs K g α H ds vs) (n : H p = none) : Q (.ref p) (upd H p (.lst vs)) := by
  refine w _ _ (α ++ [p]) (Ext.push n) (r.push n ⟨vs, upd_same, rd.ext (Ext.push n)⟩) (.ref ?_)
  rw [← r.len, List.getElem?_append_right (Nat.le_refl _)]; simp
theorem Post.tup {K : PySem.W.Frag} {α : List Addr} {H : Hp} {h : Hh} {ds : List D} {vs : List V} {Q : VK} {p : Addr} (w : Post K g α H Q (.tup ds) h) (r : HRel K g α H h) (rd : RelDs K g α H ds vs) (n : H p = none) : Q (.ref p) (upd H p (.tup vs)) :=
  w _ _ α (Ext.fresh n) (r.grow n) (.tup upd_same (rd.ext (Ext.fresh n)))
theorem WQ.iteP {K : PySem.W.Frag} {α : List Addr} {H : Hp} {β : Type} {c : Prop} [Decidable c] {r : R β} {k : β → Hh → Prop} (w : WQ K g ε α H (if c then r else .bad) k) : c ∧ WQ K g ε α H r k := by
  by_cases h : c
  · rw [if_pos h] at w; exact ⟨h, w⟩
  · rw [if_neg h] at w; exact w.elim
theorem line_of {n : Nat} (h : n ≤ 1000000) : n ≤ sizeLine := by rw [sizeLine_eq]; omega
theorem se_tup {x1} (ha : PA X es (tMA X.K g ε mr)) : PE X (.Tuple es x1 pos) (tM X.K g ε (cCall dTup mr)) :=
  PE.imp (pe_tup ha) fun σ H Q ⟨α, env, h, s, w⟩ => tMA.use s w.bind fun d1 h1 v1 H1 α1 e1 s1 r1 w1 => by
    obtain ⟨hl, w2⟩ := WQ.iteP w1
    exact ⟨line_of (by rw [← r1.length]; exact hl), fun p hp => Post.tup (Post.ext e1 w2) s1.heap r1 hp⟩
theorem se_lst (ha : PA X es (tMA X.K g ε mr)) : PE X (.List es pos) (tM X.K g ε (cCall dLst mr)) :=
  PE.imp (pe_lst ha) fun σ H Q ⟨α, env, h, s, w⟩ => tMA.use s w.bind fun d1 h1 v1 H1 α1 e1 s1 r1 w1 => by
    obtain ⟨hl, w2⟩ := WQ.iteP w1
    exact ⟨line_of (by rw [← r1.length]; exact hl), fun p hp => Post.lst (Post.ext e1 w2) s1.heap r1 hp⟩

/-! calls of built-in things -/
theorem tCB_of {f : List D → Hh → R D} {r : List V → Hp → VK → Prop} {K : PySem.W.Frag} (im : ImpL K g ε f r) {σ : St} {H : Hp} {Q : VK} (t : tM K g ε (cCall f mr) σ H Q) : tCB r (tMA K g ε mr) σ H Q := by
  obtain ⟨α, env, h, s, w⟩ := t
  exact tMA.use s w.bind fun d1 h1 v1 H1 α1 e1 s1 r1 w1 => im α1 H1 h1 d1 v1 Q s1.heap r1 (w1.post e1)
theorem se_callB {id : String} {x : Str} {p : Pos} {f : List D → Hh → R D} {r : List V → Hp → VK → Prop} (hc : CallR X (.builtin id) r) (im : ImpL X.K g ε f r) (hg : Gl X x) (hm : X.mg x = none) (hv : bootBuiltins x = some (.builtin id)) (ha : PA X (e :: es) (tMA X.K g ε mr)) (hn : x ≠ "__name__" := by decide) (hdb : (x == ("__debug__" : Str)) = false := by decide)
    (he : starEach (e :: es) X.env = (false, eval e X.env) :: starEach es X.env := by rfl) (hpl : (backTo pos (starEach es X.env)).any (·.1) = false := by rfl) : PE X (.Call (.Name x p) (e :: es) [] pos) (tM X.K g ε (cCall f mr)) :=
  PE.imp (pe_callB hc hg hm hv ha hn hdb he hpl) fun _ _ _ t => tCB_of im t
theorem se_callTy {id : String} {x : Str} {p : Pos} {f : List D → Hh → R D} {r : List V → Hp → VK → Prop} (hc : CallR X (.type id) r) (im : ImpL X.K g ε f r) (hg : Gl X x) (hm : X.mg x = none) (hv : bootBuiltins x = some (.type id)) (ha : PA X (e :: es) (tMA X.K g ε mr)) (hn : x ≠ "__name__" := by decide) (hdb : (x == ("__debug__" : Str)) = false := by decide)
    (he : starEach (e :: es) X.env = (false, eval e X.env) :: starEach es X.env := by rfl) (hpl : (backTo pos (starEach es X.env)).any (·.1) = false := by rfl) : PE X (.Call (.Name x p) (e :: es) [] pos) (tM X.K g ε (cCall f mr)) :=
  PE.imp (pe_callTy hc hg hm hv ha hn hdb he hpl) fun _ _ _ t => tCB_of im t
end

/-! ### statements -/
def cSkip : MS := fun env h => .ok (.nx env) h
def cBrk : MS := fun env h => .ok (.bk env) h
def cCnt : MS := fun env h => .ok (.ct env) h
def cSeq (a b : MS) : MS := fun env h => (a env h).bind fun fl h1 => match fl with
  | .nx e => b e h1
  | fl => .ok fl h1
def cExpr (a : ME) : MS := fun env h => (a env h).bind fun _ h1 => .ok (.nx env) h1
def cRet (a : ME) : MS := fun env h => (a env h).bind fun d h1 => .ok (.rt d) h1
def cRetN : MS := fun env h => .ok (.rt .non) h
def cIfS (c : MT) (a b : MS) : MS := fun env h => (c env h).bind fun x h1 => if x = true then a env h1 else b env h1
def cSet (i : Nat) (a : ME) : MS := fun env h => (a env h).bind fun d h1 => .ok (.nx (env.set i (some d))) h1
def cPar (i j : Nat) (a : MA) : MS := fun env h => (a env h).bind fun ds h1 => match ds with
  | [x, y] => .ok (.nx ((env.set i (some x)).set j (some y))) h1
  | _ => .bad
def cAug (i : Nat) (f : D → D → Hh → R D) (a : ME) : MS := fun env h => (cVar i env h).bind fun x h0 => (a env h0).bind fun y h1 => (f x y h1).bind fun z h2 => .ok (.nx (env.set i (some z))) h2
def cSetIx (f : D → D → D → Hh → R Unit) (o i v : ME) : MS := fun env h => (v env h).bind fun x h1 => (o env h1).bind fun y h2 => (i env h2).bind fun z h3 => (f y z x h3).bind fun _ h4 => .ok (.nx env) h4
def cNoS : MS := fun _ _ => .bad

section
variable {X : Cx} {g : GG} {ε : EE} {e : Expr} {me : ME} {ms mu : MS} {mt : MT} {st : Stmt} {rest : List Stmt} {pos : Pos}
theorem SRel.nx {K : PySem.W.Frag} {α α' : List Addr} {H H' : Hp} {env : En} {σ : St} {h' : Hh} {E : Ends} (s : SRel K g α' H' env σ h') (e : Ext K α H α' H') (w : PostS K g α H E (.nx env) h') : E.nx σ H' := w H' α' e s.heap σ s.vs
theorem ss_skip : PSs X [] (tMS X.K g ε cSkip) := PSs.imp pss_nil fun E σ H ⟨α, env, h, s, w⟩ => s.nx Ext.refl w
theorem s_pass : PS X (.Pass pos) (tMS X.K g ε cSkip) := PS.imp ps_pass fun E σ H ⟨α, env, h, s, w⟩ => s.nx Ext.refl w
theorem s_brk : PS X (.Break pos) (tMS X.K g ε cBrk) := PS.imp ps_break fun E σ H ⟨α, env, h, s, w⟩ => (show PostS X.K g α H E (.bk env) h from w) H α Ext.refl s.heap σ s.vs
theorem s_cnt : PS X (.Continue pos) (tMS X.K g ε cCnt) := PS.imp ps_continue fun E σ H ⟨α, env, h, s, w⟩ => (show PostS X.K g α H E (.ct env) h from w) H α Ext.refl s.heap σ s.vs
/-- a statement's reading used: the rest by the ways it ends -/
theorem tMS.use {K : PySem.W.Frag} {α : List Addr} {H : Hp} {env : En} {σ : St} {h : Hh} {m : MS} {E : Ends} {k : Fl → Hh → Prop} (s : SRel K g α H env σ h) (w : WQ K g ε α H (m env h) k)
    (q : ∀ fl h' H' α', Ext K α H α' H' → HRel K g α' H' h' → k fl h' → match fl with
      | .nx e => ∀ σ', SRel K g α' H' e σ' h' → E.nx σ' H'
      | .bk e => ∀ σ', SRel K g α' H' e σ' h' → E.bk σ' H'
      | .ct e => ∀ σ', SRel K g α' H' e σ' h' → E.ct σ' H'
      | .rt d => ∀ v, RelD K g α' H' d v → E.rt v H') : tMS K g ε m E σ H :=
  ⟨α, env, h, s, w.mono fun fl h' _ kk H' α' e r => by
    have := q fl h' H' α' e r kk
    cases fl with
    | nx e => exact fun σ' v => this σ' ⟨r, v⟩
    | bk e => exact fun σ' v => this σ' ⟨r, v⟩
    | ct e => exact fun σ' v => this σ' ⟨r, v⟩
    | rt d => exact this⟩
theorem ss_cons (h1 : PS X st (tMS X.K g ε ms)) (h2 : PSs X rest (tMS X.K g ε mu)) : PSs X (st :: rest) (tMS X.K g ε (cSeq ms mu)) :=
  PSs.imp (pss_cons h1 h2) fun E σ H ⟨α, env, h, s, w⟩ => tMS.use s w.bind fun fl h' H' α' e r kk => by
    cases fl with
    | nx env' => exact fun σ' s' => ⟨α', env', h', s', WQ.postS e kk⟩
    | bk env' => exact fun σ' s' => (show PostS X.K g α H E (.bk env') h' from kk) H' α' e r σ' s'.vs
    | ct env' => exact fun σ' s' => (show PostS X.K g α H E (.ct env') h' from kk) H' α' e r σ' s'.vs
    | rt d => exact fun v rv => (show PostS X.K g α H E (.rt d) h' from kk) H' α' e r v rv
theorem ss_one (h1 : PS X st (tMS X.K g ε ms)) : PSs X [st] (tMS X.K g ε ms) := pss_one h1
theorem s_expr (he : PE X e (tM X.K g ε me)) (hs : swapsWith e none pos.line X.env = pure false := by rfl) : PS X (.Expr e pos) (tMS X.K g ε (cExpr me)) :=
  PS.imp (ps_expr he hs) fun E σ H ⟨α, env, h, s, w⟩ => tM.use s w.bind fun d1 h1 v1 H1 α1 e1 s1 r1 w1 => s1.nx e1 w1
theorem s_doc {x j pos pos'} : PS X (.Expr (.Constant (.str x) j pos) pos') (tMS X.K g ε cSkip) := PS.imp ps_doc fun E σ H ⟨α, env, h, s, w⟩ => s.nx Ext.refl w
theorem s_ret (he : PE X e (tM X.K g ε me)) : PS X (.Return (some e) pos) (tMS X.K g ε (cRet me)) :=
  PS.imp (ps_ret he) fun E σ H ⟨α, env, h, s, w⟩ => tM.use s w.bind fun d1 h1 v1 H1 α1 e1 s1 r1 w1 => (show PostS X.K g α H E (.rt d1) h1 from w1) H1 α1 e1 s1.heap v1 r1
theorem s_retN : PS X (.Return none pos) (tMS X.K g ε cRetN) := PS.imp ps_retN fun E σ H ⟨α, env, h, s, w⟩ => (show PostS X.K g α H E (.rt .non) h from w) H α Ext.refl s.heap .non .non
theorem s_if {c : Expr} {A B : List Stmt} (hc : PT X c (tMT X.K g ε mt)) (ha : PSs X A (tMS X.K g ε ms)) (hb : PSs X B (tMS X.K g ε mu)) : PS X (.If c A B pos) (tMS X.K g ε (cIfS mt ms mu)) :=
  PS.imp (ps_if hc ha hb) fun E σ H ⟨α, env, h, s, w⟩ => tMT.use s w.bind fun d1 h1 H1 α1 e1 s1 w1 => by
    cases d1 with
    | true => rw [if_pos rfl] at w1 ⊢; exact ⟨α1, env, h1, s1, WQ.postS e1 w1⟩
    | false => rw [if_neg Bool.false_ne_true] at w1 ⊢; exact ⟨α1, env, h1, s1, WQ.postS e1 w1⟩
theorem ss_never {sts : List Stmt} : PSs X sts (tMS X.K g ε cNoS) := PSs.imp pss_never fun E σ H ⟨α, env, h, s, w⟩ => w.elim
theorem s_set {i : Nat} {x : Str} {pos' : Pos} (hN : X.N.Nodup) (hi : X.N[i]? = some x) (hx : Loc X.env.scope x) (he : PE X e (tM X.K g ε me)) (hs : swapsWith e (some (.Name x pos')) pos.line X.env = pure false := by rfl) (hf : X.fn x = true ∨ X.env.scope.names.lookup x = some .local := by first | exact .inl rfl | exact .inr rfl | assumption) :
    PS X (.Assign [.Name x pos'] e pos) (tMS X.K g ε (cSet i me)) :=
  PS.imp (ps_set hN hi hx he hs hf) fun E σ H ⟨α, env, h, s, w⟩ => tM.use s w.bind fun d1 h1 v1 H1 α1 e1 s1 r1 w1 => (show PostS X.K g α H E (.nx (env.set i (some d1))) h1 from w1) H1 α1 e1 s1.heap _ (s1.vs.set r1)
theorem s_par {i j : Nat} {x y : Str} {a b : Expr} {ma : MA} {px py pt : Pos} {kt k2 pt2} (hc : X.calm = true) (hN : X.N.Nodup) (hi : X.N[i]? = some x) (hj : X.N[j]? = some y) (hij : i ≠ j)
    (hx : X.env.scope.names.lookup x = some .local) (hy : X.env.scope.names.lookup y = some .local) (ha : PA X [a, b] (tMA X.K g ε ma))
    (hw : swappedStores [.Tuple [.Name x px, .Name y py] kt pt] (.Tuple [a, b] k2 pt2) X.env = pure (some [x, y]))
    (hs : swapsWithSole [.Tuple [.Name x px, .Name y py] kt pt] (.Tuple [a, b] k2 pt2) pos.line X.env = pure false := by rfl) :
    PS X (.Assign [.Tuple [.Name x px, .Name y py] kt pt] (.Tuple [a, b] k2 pt2) pos) (tMS X.K g ε (cPar i j ma)) :=
  PS.imp (ps_par hc hN hi hj hij hx hy ha hw hs) fun E σ H ⟨α, env, h, s, w⟩ => tMA.use s w.bind fun d1 h1 v1 H1 α1 e1 s1 r1 w1 => by
    cases r1 with
    | nil => exact w1.elim
    | cons ra rr =>
      cases rr with
      | nil => exact w1.elim
      | cons rb rr =>
        cases rr with
        | nil => exact ⟨_, _, rfl, (show PostS X.K g α H E (.nx _) h1 from w1) H1 α1 e1 s1.heap _ ((s1.vs.set ra).set rb)⟩
        | cons _ _ => exact w1.elim
theorem s_aug {i : Nat} {x : Str} {op : Operator} {ti : TIp} {f : D → D → Hh → R D} {pos' : Pos} (hN : X.N.Nodup) (hi : X.N[i]? = some x) (hx : Loc X.env.scope x) (he : PE X e (tM X.K g ε me)) (ho : PIp X op ti) (im : Imp2 X.K g ε f ti) (hf : X.fn x = true ∨ X.env.scope.names.lookup x = some .local := by first | exact .inl rfl | exact .inr rfl | assumption) :
    PS X (.AugAssign (.Name x pos') op e pos) (tMS X.K g ε (cAug i f me)) :=
  PS.imp (ps_aug hN hi hx he ho hf) fun E σ H ⟨α, env, h, s, w⟩ => by
    have w0 := w.bind
    unfold cVar at w0
    cases ei : env[i]? with
    | none => rw [ei] at w0; exact w0.elim
    | some d =>
      cases d with
      | none => rw [ei] at w0; exact w0.elim
      | some d =>
        rw [ei] at w0
        have w1 : WQ X.K g ε α H ((me env h).bind _) _ := w0
        obtain ⟨v, hv, rd⟩ := s.vs.vars i d ei
        refine ⟨v, hv, tM.use s w1.bind fun d1 h1 v1 H1 α1 e1 s1 r1 w2 => ?_⟩
        refine im α1 H1 h1 d d1 v v1 _ s1.heap (rd.ext e1) r1 ((w2.ext e1).bind.mono fun z h2 _ w3 v3 H3 α3 e3 hr3 r3 => ?_)
        exact (show PostS X.K g α H E (.nx _) h2 from w3) H3 α3 (e1.trans e3) hr3 _ ((s1.vs.ext e3).set r3)
def ImpS (K : PySem.W.Frag) (g : GG) (ε : EE) (f : D → D → D → Hh → R Unit) (t : TSet) : Prop :=
  ∀ (α : List Addr) (H : Hp) (h : Hh) (o i v : D) (x y z : V) (Q : Hp → Prop), HRel K g α H h → RelD K g α H o x → RelD K g α H i y → RelD K g α H v z → WQ K g ε α H (f o i v h) (fun _ h' => ∀ H' α', Ext K α H α' H' → HRel K g α' H' h' → Q H') → t x y z H Q
theorem s_setIx {o i : Expr} {mo mi : ME} {t : TSet} {f : D → D → D → Hh → R Unit} {p : Pos} (he : PE X e (tM X.K g ε me)) (ho : PE X o (tM X.K g ε mo)) (hi : PE X i (tM X.K g ε mi)) (hp : PSet X t) (im : ImpS X.K g ε f t)
    (ha : ∀ v, assign (.Subscript o i p) X.env v = (do
      let ov ← holding [v] (eval o X.env)
      let iv ← holding [v, ov] (eval i X.env)
      standAt p
      holding [v, ov, iv] (setItem ov iv v)
      release [v, ov, iv] []) := by intro _; rfl)
    (hs : swapsWithSole [.Subscript o i p] e pos.line X.env = pure false := by rfl) (hw : swappedStores [.Subscript o i p] e X.env = pure none := by rfl)
    (h1 : (assignEach [.Subscript o i p] X.env).map (·.2) = [assign (.Subscript o i p) X.env] := by rfl) : PS X (.Assign [.Subscript o i p] e pos) (tMS X.K g ε (cSetIx f mo mi me)) :=
  PS.imp (ps_asg he (pg_sub ho hi hp ha) hs hw h1) fun E σ H ⟨α, env, h, s, w⟩ => tM.use s w.bind fun d1 h1 v1 H1 α1 e1 s1 r1 w1 => tM.use s1 (w1.ext e1).bind fun d2 h2 v2 H2 α2 e2 s2 r2 w2 => tM.use s2 (w2.ext e2).bind fun d3 h3 v3 H3 α3 e3 s3 r3 w3 => by
    refine im α3 H3 h3 d2 d3 d1 v2 v3 v1 _ s3.heap (r2.ext e3) r3 ((r1.ext e2).ext e3) ((w3.ext e3).bind.mono fun _ h4 _ w4 H4 α4 e4 hr4 => ?_)
    exact (show PostS X.K g α H E (.nx env) h4 from w4) H4 α4 (e1.trans (e2.trans (e3.trans e4))) hr4 _ (s3.vs.ext e4)
end
end L2.FD
namespace L2.FD
open PySem PySem.Spec PyProof.Rows

/-! ### what a loop walks -/
def lstOf (h : Hh) (n : Nat) : Option (List D) := match h[n]? with
  | some (.lst ds) => some ds
  | _ => none
inductive Src where
  | snap (ds : List D)
  | live (n : Nat)
  | liveE (n : Nat)
abbrev MI := En → Hh → R Src
abbrev Rdr := Hh → Nat → Option (Option D)
def Src.rdr : Src → Rdr
  | .snap ds => fun _ i => some ds[i]?
  | .live n => fun h i => (lstOf h n).map fun ds => ds[i]?
  | .liveE n => fun h i => (lstOf h n).map fun ds => (ds[i]?).map fun d => D.tup [.int i, d]
def Src.fuel (s : Src) (h : Hh) : Nat := match s with
  | .snap ds => ds.length
  | .live n => ((lstOf h n).getD []).length
  | .liveE n => ((lstOf h n).getD []).length
def Reads (K : PySem.W.Frag) (g : GG) (J : It) (rd : Rdr) (α₀ : List Addr) (H₀ : Hp) : Prop :=
  ∀ (α : List Addr) (H : Hp) (h : Hh), Ext K α₀ H₀ α H → HRel K g α H h → ∀ i, match rd h i with
    | none => True
    | some none => J.stop i H
    | some (some d) => J.go i H ∧ ∀ x H', J.yld i H x H' → ∃ α', Ext K α H α' H' ∧ HRel K g α' H' h ∧ RelD K g α' H' d x
def tMI (K : PySem.W.Frag) (g : GG) (ε : EE) (m : MI) : TI := fun σ H T => ∃ α env h, SRel K g α H env σ h ∧ WQ K g ε α H (m env h) fun sr h' => ∀ J H' α', Ext K α H α' H' → HRel K g α' H' h' → Reads K g J sr.rdr α' H' → T J H'
theorem PI.imp {X : Cx} {tg e : Expr} {t t' : TI} (h : PI X tg e t) (i : ∀ σ H Q, t' σ H Q → t σ H Q) : PI X tg e t' := fun pins s σ H Q I w => h pins s σ H Q I (i σ H Q w)

def forG (rd : Rdr) (tg : D → En → Hh → R En) (body : MS) : Nat → Nat → En → Hh → R Fl
  | k, i, env, h => match rd h i with
    | none => .bad
    | some none => .ok (.nx env) h
    | some (some d) => match k with
      | 0 => .bad
      | k + 1 => (tg d env h).bind fun e1 h1 => (body e1 h1).bind fun fl h2 => match fl with
        | .nx e => forG rd tg body k (i + 1) e h2
        | .ct e => forG rd tg body k (i + 1) e h2
        | .bk e => .ok (.nx e) h2
        | .rt d => .ok (.rt d) h2
def forS (tg : D → En → Hh → R En) (body : MS) : List D → En → Hh → R Fl
  | [], env, h => .ok (.nx env) h
  | d :: ds, env, h => (tg d env h).bind fun e1 h1 => (body e1 h1).bind fun fl h2 => match fl with
    | .nx e => forS tg body ds e h2
    | .ct e => forS tg body ds e h2
    | .bk e => .ok (.nx e) h2
    | .rt d => .ok (.rt d) h2
theorem forS_eq (tg : D → En → Hh → R En) (body : MS) (all : List D) : ∀ (ds : List D) (i : Nat) (env : En) (h : Hh), all.drop i = ds → forG (Src.snap all).rdr tg body ds.length i env h = forS tg body ds env h := by
  intro ds
  induction ds with
  | nil =>
    intro i env h e
    have : all[i]? = none := by
      have := congrArg List.length e
      simp at this
      exact List.getElem?_eq_none (by omega)
    unfold forG forS Src.rdr
    simp [this]
  | cons d ds ih =>
    intro i env h e
    have h0 : all[i]? = some d := by
      have := congrArg (fun l => l[0]?) e
      simpa using this
    have h1 : all.drop (i + 1) = ds := by
      have := congrArg List.tail e
      simpa using this
    unfold forG forS
    have : (Src.snap all).rdr h i = some (some d) := by unfold Src.rdr; simp [h0]
    rw [this]
    show ((tg d env h).bind _) = _
    congr 1
    funext e1 h2
    congr 1
    funext fl h3
    cases fl with
    | nx e => exact ih (i + 1) e h3 h1
    | ct e => exact ih (i + 1) e h3 h1
    | bk e => rfl
    | rt d => rfl
def cFor (mi : MI) (tg : D → En → Hh → R En) (body : MS) : MS := fun env h => (mi env h).bind fun sr h1 => match sr with
  | .snap ds => forS tg body ds env h1
  | .live n => forG (Src.live n).rdr tg body ((lstOf h1 n).getD []).length 0 env h1
  | .liveE n => forG (Src.liveE n).rdr tg body ((lstOf h1 n).getD []).length 0 env h1
theorem cFor_eq {mi : MI} {tg : D → En → Hh → R En} {body : MS} {env : En} {h : Hh} : cFor mi tg body env h = (mi env h).bind fun sr h1 => forG sr.rdr tg body (sr.fuel h1) 0 env h1 := by
  unfold cFor
  congr 1
  funext sr h1
  cases sr with
  | snap ds => exact (forS_eq tg body ds ds 0 env h1 rfl).symm
  | live n => rfl
  | liveE n => rfl

def gN (i : Nat) : D → En → Hh → R En := fun d env h => .ok (env.set i (some d)) h
def gT2 (i j : Nat) : D → En → Hh → R En := fun d env h => match d with
  | .tup [x, y] => .ok ((env.set i (some x)).set j (some y)) h
  | _ => .bad
/-- a target, by values -/
def ImpG (K : PySem.W.Frag) (g : GG) (ε : EE) (tg : D → En → Hh → R En) (t : TG) : Prop :=
  ∀ (α : List Addr) (H : Hp) (h : Hh) (env : En) (σ : St) (d : D) (x : V) (Q : St → Hp → Prop), SRel K g α H env σ h → RelD K g α H d x →
    WQ K g ε α H (tg d env h) (fun e1 h1 => ∀ σ' H' α', Ext K α H α' H' → SRel K g α' H' e1 σ' h1 → Q σ' H') → t x σ H Q
theorem ig_name {K : PySem.W.Frag} {g : GG} {ε : EE} {i : Nat} : ImpG K g ε (gN i) (gName i) := fun α H h env σ d x Q s r w => w _ H α Ext.refl ⟨s.heap, s.vs.set r⟩
theorem ig_two {K : PySem.W.Frag} {g : GG} {ε : EE} {i j : Nat} : ImpG K g ε (gT2 i j) (gTup K 2 (gCons (gName i) (gCons (gName j) gNil))) := fun α H h env σ d x Q s r w => by
  unfold gT2 at w
  cases r with
  | tup hq rs =>
    cases rs with
    | nil => exact w.elim
    | cons ra rr =>
      cases rr with
      | nil => exact w.elim
      | cons rb rr =>
        cases rr with
        | nil => exact ⟨_, _, rfl, SqT.of hq, rfl, _, _, rfl, _, _, rfl, rfl, w _ H α Ext.refl ⟨s.heap, (s.vs.set ra).set rb⟩⟩
        | cons _ _ => exact w.elim
  | _ => exact w.elim
section
variable {X : Cx} {g : GG} {ε : EE}
theorem s_for {tg iter : Expr} {body : List Stmt} {mi : MI} {t : TG} {fg : D → En → Hh → R En} {mb : MS} {pos : Pos} (hp : PassesOwn (model X.prog X.w) X.A X.env X.xe) (hc : X.calm = true) (hi : PI X tg iter (tMI X.K g ε mi)) (hg : PG X tg t) (ig : ImpG X.K g ε fg t) (hb : PSs X body (tMS X.K g ε mb))
    (hs : ∀ x, foldedSetIterable iter X.env x = pure x := by intro _; rfl) : PS X (.For tg iter body [] pos) (tMS X.K g ε (cFor mi fg mb)) := by
  refine PS.imp (ps_for hp hc hi hg hb hs) fun E σ H ⟨α, env, h, s, w⟩ => ?_
  rw [cFor_eq] at w
  refine ⟨α, env, h, s, w.bind.mono fun sr h1 _ w1 J H1 α1 e1 hr1 rd => ?_⟩
  refine ⟨fun i m σ H => ∃ α env h, Ext X.K α1 H1 α H ∧ SRel X.K g α H env σ h ∧ WQ X.K g ε α H (forG sr.rdr fg mb m i env h) (PostS X.K g α H E), ⟨sr.fuel h1, α1, env, h1, Ext.refl, s.ext e1 hr1, w1.postS e1⟩, ?_⟩
  rintro i m σ2 H2 ⟨α2, env2, h2, x2, s2, w2⟩
  have q := rd α2 H2 h2 x2 s2.heap i
  unfold forG at w2
  cases e : sr.rdr h2 i with
  | none => rw [e] at w2; exact w2.elim
  | some od =>
    rw [e] at w2 q
    cases od with
    | none => exact .inl ⟨q, s2.nx Ext.refl w2⟩
    | some d =>
      cases m with
      | zero => exact w2.elim
      | succ m =>
        have w3 := WQ.bind (show WQ X.K g ε α2 H2 ((fg d env2 h2).bind _) _ from w2)
        refine .inr ⟨q.1, fun σ' H' => ∃ α env h, Ext X.K α1 H1 α H' ∧ SRel X.K g α H' env σ' h ∧ WQ X.K g ε α H' (forG sr.rdr fg mb m (i + 1) env h) (PostS X.K g α H' E), fun σ' H' z => ⟨m, Nat.lt_succ_self _, z⟩, fun x H3 y => ?_⟩
        obtain ⟨α3, x3, hr3, rx⟩ := q.2 x H3 y
        refine ig α3 H3 h2 env2 σ2 d x _ (s2.ext x3 hr3) rx ((w3.ext x3).mono fun e4 h4 _ w4 σ4 H4 α4 x4 s4 => ?_)
        refine tMS.use s4 ((w4.ext x3).ext x4).bind fun fl h5 H5 α5 x5 hr5 w5 => ?_
        have tr : Ext X.K α2 H2 α5 H5 := x3.trans (x4.trans x5)
        cases fl with
        | nx e => exact fun σ' s' => ⟨α5, e, h5, x2.trans tr, s', ((w5.ext x5)).mono fun _ _ _ p => p.ext tr⟩
        | ct e => exact fun σ' s' => ⟨α5, e, h5, x2.trans tr, s', ((w5.ext x5)).mono fun _ _ _ p => p.ext tr⟩
        | bk e => exact fun σ' s' => (show PostS X.K g α2 H2 E (.nx e) h5 from w5) H5 α5 tr hr5 σ' s'.vs
        | rt d => exact fun v rv => (show PostS X.K g α2 H2 E (.rt d) h5 from w5) H5 α5 tr hr5 v rv

/-! ### the things walked -/
theorem HRel.lst {K : PySem.W.Frag} {α : List Addr} {H : Hp} {h : Hh} {n : Nat} {ds : List D} (r : HRel K g α H h) (e : lstOf h n = some ds) {p : Addr} (hp : α[n]? = some p) : ∃ vs, H p = some (.lst vs) ∧ RelDs K g α H ds vs := by
  unfold lstOf at e
  cases o : h[n]? with
  | none => rw [o] at e; cases e
  | some o' =>
    rw [o] at e
    have q := r.here n p o' hp o
    cases o' with
    | lst ds' => cases e; obtain ⟨vs, a, b⟩ := q; exact ⟨vs, a, b⟩
    | set n => cases e
    | dic k => cases e
def seqI : D → Hh → R Src
  | .tup ds, h => .ok (.snap ds) h
  | .frl ds, h => .ok (.snap ds) h
  | .ref n, h => match lstOf h n with
    | some _ => .ok (.live n) h
    | none => .bad
  | _, _ => .bad
def cSeqI (a : ME) : MI := fun env h => (a env h).bind seqI
/-- a list or a tuple, as it comes -/
def iSeq (K : PySem.W.Frag) (tl : TE) : TI := fun σ H R => tl σ H fun x H1 => ∃ a, x = .ref a ∧ (((∃ xs, SqL K H1 a xs) ∧ R (Itl K a) H1) ∨ ((∃ xs, SqT K H1 a xs) ∧ R (Itt K a) H1))
theorem pi_seq {tg l : Expr} {tl : TE} (hl : PE X l tl) : PI X tg l (iSeq X.K tl) := by
  intro pins s σ H R I h
  refine thn (hl pins s σ H _ I h) fun v s1 ⟨x, H1, I1, r1, q1⟩ => ?_
  obtain ⟨a, e, q⟩ := q1
  subst e
  cases r1
  rcases q with ⟨⟨xs, hq⟩, q⟩ | ⟨⟨xs, hq⟩, q⟩
  · obtain ⟨its, rv, p, hz⟩ := I1.list hq
    refine wpAny_pyIter_list p.isList ?_
    refine ⟨s1.heap.objs.size, [s1.heap.objs.size], _, _, H1, rfl, I1.kept (t' := s1.toks) fun b o e => Heap.get?_push_of_some _ e, turn_list a _, ⟨_, Heap.get?_push_size _ rfl, rfl, rfl⟩, fun b hb => ?_, q⟩
    have e : b = s1.heap.objs.size := by simpa using hb
    subst e
    exact I1.fpOk (Nat.le_refl _) (I1.hok.fresh (Nat.le_refl _))
  · obtain ⟨its, rv, p, hz⟩ := I1.tuple hq
    refine wpAny_pyIter_tuple (show s1.heap.IsTuple a its.toArray from p) ?_
    refine ⟨s1.heap.objs.size, [s1.heap.objs.size], _, _, H1, rfl, I1.kept (t' := s1.toks) fun b o e => Heap.get?_push_of_some _ e, turn_tuple a _, ⟨_, Heap.get?_push_size _ rfl, rfl, rfl⟩, fun b hb => ?_, q⟩
    have e : b = s1.heap.objs.size := by simpa using hb
    subst e
    exact I1.fpOk (Nat.le_refl _) (I1.hok.fresh (Nat.le_refl _))
theorem reads_tup {K : PySem.W.Frag} {α : List Addr} {H : Hp} {a : Addr} {ds : List D} {vs : List V} (hq' : H a = some (.tup vs)) (rs : RelDs K g α H ds vs) : Reads K g (Itt K a) (Src.snap ds).rdr α H := by
  intro α2 H2 h2 x2 hr i
  have hq2 : SqT K H2 a vs := SqT.of (x2.tup _ _ hq')
  have rs2 := rs.ext x2
  show match some ds[i]? with | none => True | some none => _ | some (some d) => _
  cases e : ds[i]? with
  | none =>
    have : ds.length ≤ i := List.getElem?_eq_none_iff.mp e
    exact ⟨vs, hq2, by rw [← rs.length]; exact this⟩
  | some d =>
    obtain ⟨v, ev, rv⟩ := rs2.get e
    refine ⟨⟨vs, v, hq2, ev⟩, fun x H' y => ?_⟩
    obtain ⟨e1, e2⟩ := y
    subst e1
    have := e2 vs hq2
    rw [ev] at this
    cases this
    exact ⟨α2, Ext.refl, hr, rv⟩
theorem reads_frl {K : PySem.W.Frag} {α : List Addr} {H : Hp} {a : Addr} {ds : List D} {vs : List V} (hq : Fro K H a vs) (rs : RelDs K g α H ds vs) : Reads K g (Itl K a) (Src.snap ds).rdr α H := by
  intro α2 H2 h2 x2 hr i
  have hq2 := x2.fro _ _ hq
  have rs2 := rs.ext x2
  show match some ds[i]? with | none => True | some none => _ | some (some d) => _
  cases e : ds[i]? with
  | none =>
    have : ds.length ≤ i := List.getElem?_eq_none_iff.mp e
    exact ⟨vs, hq2.sq, by rw [← rs.length]; exact this⟩
  | some d =>
    obtain ⟨v, ev, rv⟩ := rs2.get e
    refine ⟨⟨vs, v, hq2.sq, ev⟩, fun x H' y => ?_⟩
    obtain ⟨e1, e2⟩ := y
    subst e1
    have := e2 vs hq2.sq
    rw [ev] at this
    cases this
    exact ⟨α2, Ext.refl, hr, rv⟩
theorem reads_lst {K : PySem.W.Frag} {α : List Addr} {H : Hp} {a : Addr} {n : Nat} (ha : α[n]? = some a) : Reads K g (Itl K a) (Src.live n).rdr α H := by
  intro α2 H2 h2 x2 hr i
  show match (lstOf h2 n).map fun ds => ds[i]? with | none => True | some none => _ | some (some d) => _
  cases e : lstOf h2 n with
  | none => trivial
  | some ds =>
    obtain ⟨vs, hq', rs⟩ := hr.lst e (x2.get ha)
    have hq : SqL K H2 a vs := SqL.of hq'
    show match some ds[i]? with | none => True | some none => _ | some (some d) => _
    cases ei : ds[i]? with
    | none =>
      have : ds.length ≤ i := List.getElem?_eq_none_iff.mp ei
      exact ⟨vs, hq, by rw [← rs.length]; exact this⟩
    | some d =>
      obtain ⟨v, ev, rv⟩ := rs.get ei
      refine ⟨⟨vs, v, hq, ev⟩, fun x H' y => ?_⟩
      obtain ⟨e1, e2⟩ := y
      subst e1
      have := e2 vs hq
      rw [ev] at this
      cases this
      exact ⟨α2, Ext.refl, hr, rv⟩
theorem si_seq {tg e : Expr} {me : ME} (he : PE X e (tM X.K g ε me)) : PI X tg e (tMI X.K g ε (cSeqI me)) :=
  PI.imp (pi_seq he) fun σ H T ⟨α, env, h, s, w⟩ => tM.use s w.bind fun d1 h1 v1 H1 α1 e1 s1 r1 w1 => by
    unfold seqI at w1
    cases r1 with
    | tup hq rs => exact ⟨_, rfl, .inr ⟨⟨_, SqT.of hq⟩, w1 _ H1 α1 e1 s1.heap (reads_tup hq rs)⟩⟩
    | frl hq rs => exact ⟨_, rfl, .inl ⟨⟨_, hq.sq⟩, w1 _ H1 α1 e1 s1.heap (reads_frl hq rs)⟩⟩
    | @ref n p hp =>
      cases el : lstOf h1 n with
      | none => simp only [el] at w1; exact w1.elim
      | some ds =>
        simp only [el] at w1
        obtain ⟨vs, hq, _⟩ := s1.heap.lst el hp
        exact ⟨p, rfl, .inl ⟨⟨_, SqL.of hq⟩, w1 _ H1 α1 e1 s1.heap (reads_lst hp)⟩⟩
    | _ => exact w1.elim
/-- enumerate(..) -/
def enumD (ds : List D) : List D := (List.range ds.length).map fun (i : Nat) => D.tup [.int i, ds.getD i .non]
def enumI : D → Hh → R Src
  | .tup ds, h => .ok (.snap (enumD ds)) h
  | .ref n, h => match lstOf h n with
    | some _ => .ok (.liveE n) h
    | none => .bad
  | _, _ => .bad
def cEnumI (a : ME) : MI := fun env h => (a env h).bind enumI
theorem enumD_get {ds : List D} {i : Nat} : (enumD ds)[i]? = (ds[i]?).map fun d => D.tup [.int i, d] := by
  unfold enumD
  rw [List.getElem?_map]
  by_cases hi : i < ds.length
  · have e : ds.getD i .non = ds[i] := by rw [List.getD_eq_getElem?_getD, List.getElem?_eq_getElem hi]; rfl
    rw [List.getElem?_range hi, List.getElem?_eq_getElem hi, Option.map_some, Option.map_some, e]
  · rw [List.getElem?_eq_none (by simpa using hi), List.getElem?_eq_none (by omega)]; rfl
theorem yld_pair {K : PySem.W.Frag} {α : List Addr} {H : Hp} {h : Hh} {i : Nat} {d : D} {v : V} {p : Addr} (hr : HRel K g α H h) (rv : RelD K g α H d v) (hp : H p = none) :
    ∃ α', Ext K α H α' (upd H p (.tup [.int i, v])) ∧ HRel K g α' (upd H p (.tup [.int i, v])) h ∧ RelD K g α' (upd H p (.tup [.int i, v])) (.tup [.int i, d]) (.ref p) :=
  ⟨α, Ext.fresh hp, hr.grow hp, .tup upd_same (.cons (.int _) (.cons (rv.ext (Ext.fresh hp)) .nil))⟩
theorem reads_enumT {K : PySem.W.Frag} {α : List Addr} {H : Hp} {a : Addr} {ds : List D} {vs : List V} (hq' : H a = some (.tup vs)) (rs : RelDs K g α H ds vs) : Reads K g (Iet K a) (Src.snap (enumD ds)).rdr α H := by
  intro α2 H2 h2 x2 hr i
  have hq2 : SqT K H2 a vs := SqT.of (x2.tup _ _ hq')
  have rs2 := rs.ext x2
  show match some (enumD ds)[i]? with | none => True | some none => _ | some (some d) => _
  rw [enumD_get]
  cases e : ds[i]? with
  | none =>
    have : ds.length ≤ i := List.getElem?_eq_none_iff.mp e
    exact ⟨vs, hq2, by rw [← rs.length]; exact this⟩
  | some d =>
    obtain ⟨v, ev, rv⟩ := rs2.get e
    refine ⟨⟨vs, v, hq2, ev⟩, fun x H' y => ?_⟩
    obtain ⟨p, v', e1, hp, e2, e3⟩ := y
    subst e1 e3
    have := e2 vs hq2
    rw [ev] at this
    cases this
    exact yld_pair hr rv hp
theorem reads_enumL {K : PySem.W.Frag} {α : List Addr} {H : Hp} {a : Addr} {n : Nat} (ha : α[n]? = some a) : Reads K g (Iel K a) (Src.liveE n).rdr α H := by
  intro α2 H2 h2 x2 hr i
  show match (lstOf h2 n).map fun ds => (ds[i]?).map fun d => D.tup [.int i, d] with | none => True | some none => _ | some (some d) => _
  cases e : lstOf h2 n with
  | none => trivial
  | some ds =>
    obtain ⟨vs, hq', rs⟩ := hr.lst e (x2.get ha)
    have hq : SqL K H2 a vs := SqL.of hq'
    show match some ((ds[i]?).map fun d => D.tup [.int i, d]) with | none => True | some none => _ | some (some d) => _
    cases ei : ds[i]? with
    | none =>
      have : ds.length ≤ i := List.getElem?_eq_none_iff.mp ei
      exact ⟨vs, hq, by rw [← rs.length]; exact this⟩
    | some d =>
      obtain ⟨v, ev, rv⟩ := rs.get ei
      refine ⟨⟨vs, v, hq, ev⟩, fun x H' y => ?_⟩
      obtain ⟨p, v', e1, hp, e2, e3⟩ := y
      subst e1 e3
      have := e2 vs hq
      rw [ev] at this
      cases this
      exact yld_pair hr rv hp
theorem si_enum {elts : List Expr} {kt : Nat} {tp p pos : Pos} {e : Expr} {me : ME} (hg : Gl X "enumerate") (hm : X.mg "enumerate" = none) (he : PE X e (tM X.K g ε me)) (hs : starEach [e] X.env = [(false, eval e X.env)] := by rfl) : PI X (.Tuple elts kt tp) (.Call (.Name "enumerate" p) [e] [] pos) (tMI X.K g ε (cEnumI me)) :=
  PI.imp (pi_enum hg hm he hs) fun σ H T ⟨α, env, h, s, w⟩ => tM.use s w.bind fun d1 h1 v1 H1 α1 e1 s1 r1 w1 => by
    unfold enumI at w1
    cases r1 with
    | tup hq rs => exact ⟨_, rfl, .inr ⟨⟨_, SqT.of hq⟩, w1 _ H1 α1 e1 s1.heap (reads_enumT hq rs)⟩⟩
    | @ref n p hp =>
      cases el : lstOf h1 n with
      | none => simp only [el] at w1; exact w1.elim
      | some ds =>
        simp only [el] at w1
        obtain ⟨vs, hq, _⟩ := s1.heap.lst el hp
        exact ⟨p, rfl, .inl ⟨⟨_, SqL.of hq⟩, w1 _ H1 α1 e1 s1.heap (reads_enumL hp)⟩⟩
    | _ => exact w1.elim
def intsD (lo : Int) (n : Nat) : List D := (List.range n).map fun (i : Nat) => D.int (lo + i)
def rng1 : List D → Hh → R Src
  | [.int j], h => if -1000000 ≤ j ∧ j ≤ 1000000 then .ok (.snap (intsD 0 j.toNat)) h else .bad
  | _, _ => .bad
def rng2 : List D → Hh → R Src
  | [.int i, .int j], h => if -1000000 ≤ i ∧ i ≤ 1000000 ∧ -1000000 ≤ j ∧ j ≤ 1000000 then .ok (.snap (intsD i (j - i).toNat)) h else .bad
  | _, _ => .bad
def cRng (f : List D → Hh → R Src) (a : MA) : MI := fun env h => (a env h).bind f
theorem reads_rng {K : PySem.W.Frag} {α : List Addr} {H : Hp} {lo : Int} {n : Nat} : Reads K g (Itr lo n) (Src.snap (intsD lo n)).rdr α H := by
  intro α2 H2 h2 x2 hr i
  show match some (intsD lo n)[i]? with | none => True | some none => _ | some (some d) => _
  unfold intsD
  rw [List.getElem?_map]
  by_cases hi : i < n
  · rw [List.getElem?_range hi]
    refine ⟨hi, fun x H' y => ?_⟩
    obtain ⟨e1, e2⟩ := y
    subst e1 e2
    exact ⟨α2, Ext.refl, hr, .int _⟩
  · rw [List.getElem?_eq_none (by simpa using hi)]
    exact Nat.le_of_not_lt hi
theorem si_rng1 {tg a : Expr} {ma : MA} {p pos : Pos} (hg : Gl X "range") (hm : X.mg "range" = none) (ha : PA X [a] (tMA X.K g ε ma)) (hs : starEach [a] X.env = [(false, eval a X.env)] := by rfl) : PI X tg (.Call (.Name "range" p) [a] [] pos) (tMI X.K g ε (cRng rng1 ma)) :=
  PI.imp (pi_range1 hg hm ha hs) fun σ H T ⟨α, env, h, s, w⟩ => tMA.use s w.bind fun d1 h1 v1 H1 α1 e1 s1 r1 w1 => by
    unfold rng1 at w1
    cases r1 with
    | nil => exact w1.elim
    | cons ra rr =>
      cases rr with
      | cons _ _ => cases ra <;> exact w1.elim
      | nil =>
        cases ra with
        | int j =>
          obtain ⟨hj, w2⟩ := WQ.iteP w1
          exact ⟨j, rfl, by omega, by omega, w2 _ H1 α1 e1 s1.heap reads_rng⟩
        | _ => exact w1.elim
theorem si_rng2 {tg a b : Expr} {ma : MA} {p pos : Pos} (hg : Gl X "range") (hm : X.mg "range" = none) (ha : PA X [a, b] (tMA X.K g ε ma)) (hs : starEach [a, b] X.env = [(false, eval a X.env), (false, eval b X.env)] := by rfl) (hs2 : starEach [b] X.env = [(false, eval b X.env)] := by rfl) : PI X tg (.Call (.Name "range" p) [a, b] [] pos) (tMI X.K g ε (cRng rng2 ma)) :=
  PI.imp (pi_range2 hg hm ha hs hs2) fun σ H T ⟨α, env, h, s, w⟩ => tMA.use s w.bind fun d1 h1 v1 H1 α1 e1 s1 r1 w1 => by
    unfold rng2 at w1
    cases r1 with
    | nil => exact w1.elim
    | cons ra rr =>
      cases rr with
      | nil => cases ra <;> exact w1.elim
      | cons rb rr =>
        cases rr with
        | cons _ _ => cases ra <;> cases rb <;> exact w1.elim
        | nil =>
          cases ra with
          | int i =>
            cases rb with
            | int j =>
              obtain ⟨hj, w2⟩ := WQ.iteP w1
              exact ⟨i, j, rfl, ⟨by omega, by omega, by omega, by omega⟩, w2 _ H1 α1 e1 s1.heap reads_rng⟩
            | _ => exact w1.elim
          | _ => exact w1.elim

/-! ### while -/
def whileF (c : MT) (b : MS) : Nat → En → Hh → R Fl
  | 0, _, _ => .bad
  | k + 1, env, h => (c env h).bind fun x h1 => if x = true then (b env h1).bind fun fl h2 => match fl with
      | .nx e => whileF c b k e h2
      | .ct e => whileF c b k e h2
      | .bk e => .ok (.nx e) h2
      | .rt d => .ok (.rt d) h2
    else .ok (.nx env) h1
def cWhile (fuel : Nat) (c : MT) (b : MS) : MS := fun env h => whileF c b fuel env h
theorem s_while {c : Expr} {body : List Stmt} {mc : MT} {mb : MS} {pos : Pos} (fuel : Nat) (hp : PassesOwn (model X.prog X.w) X.A X.env X.xe) (hc : PT X c (tMT X.K g ε mc)) (hb : PSs X body (tMS X.K g ε mb)) : PS X (.While c body [] pos) (tMS X.K g ε (cWhile fuel mc mb)) := by
  refine PS.imp (ps_while hp hc hb) fun E σ H ⟨α, env, h, s, w⟩ => ?_
  refine ⟨fun m σ H => ∃ α env h, SRel X.K g α H env σ h ∧ WQ X.K g ε α H (whileF mc mb m env h) (PostS X.K g α H E), ⟨fuel, α, env, h, s, w⟩, ?_⟩
  rintro m σ2 H2 ⟨α2, env2, h2, s2, w2⟩
  cases m with
  | zero => exact w2.elim
  | succ m =>
    refine tMT.use s2 (WQ.bind (show WQ X.K g ε α2 H2 ((mc env2 h2).bind _) _ from w2)) fun b h3 H3 α3 x3 s3 w3 => ?_
    cases b with
    | false => rw [if_neg Bool.false_ne_true] at w3 ⊢; exact s3.nx x3 w3
    | true =>
      rw [if_pos rfl] at w3 ⊢
      refine ⟨fun σ' H' => ∃ α env h, SRel X.K g α H' env σ' h ∧ WQ X.K g ε α H' (whileF mc mb m env h) (PostS X.K g α H' E), fun σ' H' z => ⟨m, Nat.lt_succ_self _, z⟩, ?_⟩
      refine tMS.use s3 (w3.ext x3).bind fun fl h5 H5 α5 x5 hr5 w5 => ?_
      have tr : Ext X.K α2 H2 α5 H5 := x3.trans x5
      cases fl with
      | nx e => exact fun σ' s' => ⟨α5, e, h5, s', (w5.ext x5).mono fun _ _ _ p => p.ext tr⟩
      | ct e => exact fun σ' s' => ⟨α5, e, h5, s', (w5.ext x5).mono fun _ _ _ p => p.ext tr⟩
      | bk e => exact fun σ' s' => (show PostS X.K g α2 H2 E (.nx e) h5 from w5) H5 α5 tr hr5 σ' s'.vs
      | rt d => exact fun v rv => (show PostS X.K g α2 H2 E (.rt d) h5 from w5) H5 α5 tr hr5 v rv
end

/-! ### defs -/
abbrev E00 : EE := fun _ _ _ => False
abbrev MF := List D → Hh → R D
def cFun (n : Nat) (m : MS) : MF := fun ds h => (m (ds.map some ++ List.replicate (n - ds.length) none) h).bind fun fl h1 => match fl with
  | .rt d => .ok d h1
  | .nx _ => .ok .non h1
  | _ => .bad
def spM (K : PySem.W.Frag) (g : GG) (np : Nat) (m : MF) : Sp := fun vs H Q _ => vs.length = np ∧ ∃ α ds h, RelDs K g α H ds vs ∧ HRel K g α H h ∧ WQ K g E00 α H (m ds h) (Post K g α H Q)
theorem start_rel {K : PySem.W.Frag} {g : GG} {α : List Addr} {H : Hp} {N : List Str} {ds : List D} {vs : List V} (r : RelDs K g α H ds vs) : VRel K g α H (ds.map some ++ List.replicate (N.length - ds.length) none) (start N vs) := by
  have hl := r.length
  refine ⟨by simp [start, hl], fun i d h => ?_⟩
  by_cases hi : i < ds.length
  · rw [List.getElem?_append_left (by simpa using hi), List.getElem?_map] at h
    cases e : ds[i]? with
    | none => rw [e] at h; cases h
    | some d' =>
      rw [e] at h
      cases h
      obtain ⟨v, ev, rv⟩ := r.get e
      refine ⟨v, ?_, rv⟩
      unfold start
      rw [List.getElem?_append_left (by simp; omega), List.getElem?_map, ev]
      rfl
  · rw [List.getElem?_append_right (by simpa using hi), List.getElem?_replicate] at h
    split at h <;> cases h
section
variable {P : Program} {w : World} {K : PySem.W.Frag} {mg : Str → Option Value} {base : Heap} {g : GG}
theorem fn_m {x qual : Str} {st : Stmt} {f : Addr} {fd : FuncData} {N ps : List Str} {k : Nat} {mb : MS} (F : Fun K x qual st f fd) (S : FnScope N ps (defScope st))
    (hb : ∀ (cdv : Value) (A : Around) (outer : List Env) (s : Shared) (H : Hp) (E : XK), Room k (A.deeper (envOfC qual (defScope st) s.heap.objs.size f cdv)) →
      PSs (cxOf CX0 P w K mg base N qual (defScope st) f cdv A outer s H E).nox (defBody st) (tMS K g E00 mb)) : FnOk P w K mg base CX0 (k + 1) f fd ps (spM K g ps.length (cFun N.length mb)) := by
  refine F.ok S (fun vs H Q E h => h.1) fun cdv A outer s H vs Q E hr h => ⟨_, hb cdv A outer s H E hr, ?_⟩
  obtain ⟨hl, α, ds, h, rs, hh, w⟩ := h
  refine tMS.use ⟨hh, start_rel rs⟩ w.bind fun fl h' H' α' e r kk => ?_
  cases fl with
  | nx e' => exact fun σ' s' => (show Post K g α H Q .non h' from kk) _ H' α' e r .non
  | bk e' => exact kk.elim
  | ct e' => exact kk.elim
  | rt d => exact fun v rv => (show Post K g α H Q d h' from kk) _ H' α' e r rv
end
section
variable {X : Cx} {g : GG}
theorem se_call {k : Nat} {f : Addr} {fd : FuncData} {ps : List Str} {m : MF} {np : Nat} {x : Str} {p pos : Pos} {e : Expr} {es : List Expr} {mr : MA} (F : FnOk X.prog X.w X.K X.mg X.base CX0 k f fd ps (spM X.K g np m)) (hr : Room k X.A) (hg : Gl X x) (hm : X.mg x = some (.ref f)) (hk : PySem.W.keepIn X.K (.ref f) = true) (hb : Binds X.K fd ps [])
    (ha : PA X (e :: es) (tMA X.K g E00 mr)) (hlen : ∀ env h ds h', mr env h = .ok ds h' → ds.length = np) (hdb : (x == ("__debug__" : Str)) = false := by decide) (he : starEach (e :: es) X.env = (false, eval e X.env) :: starEach es X.env := by rfl) (hpl : (backTo pos (starEach es X.env)).any (·.1) = false := by rfl) :
    PE X (.Call (.Name x p) (e :: es) [] pos) (tM X.K g E00 (cCall m mr)) :=
  PE.imp (pe_call F hr hg hm hk hb .nil pass0 ha hdb he hpl) fun σ H Q ⟨α, env, h, s, w⟩ => ⟨α, env, h, s, w.bind.mono fun d1 h1 eq w1 v1 H1 α1 e1 hr1 r1 => by
    show spM X.K g np m (v1 ++ []) H1 Q E0
    rw [List.append_nil]
    refine ⟨?_, α1, d1, h1, r1, hr1, w1.post e1⟩
    rw [← r1.length]
    exact hlen env h d1 h1 eq⟩
theorem len_nil : ∀ env h ds h', cNil env h = .ok ds h' → ds.length = 0 := fun env h ds h' e => by cases e; rfl
theorem len_cons {a : ME} {r : MA} {n : Nat} (q : ∀ env h ds h', r env h = .ok ds h' → ds.length = n) : ∀ env h ds h', cCons a r env h = .ok ds h' → ds.length = n + 1 := fun env h ds h' e => by
  unfold cCons at e
  cases e1 : a env h with
  | ok d h1 =>
    rw [e1] at e
    cases e2 : r env h1 with
    | ok ds2 h2 =>
      have e3 : (R.ok (d :: ds2) h2 : R (List D)) = .ok ds h' := by simpa [R.bind, e2] using e
      cases e3
      simp [q env h1 ds2 h' e2]
    | err x h2 => simp [R.bind, e2] at e
    | bad => simp [R.bind, e2] at e
  | err x h2 => rw [e1] at e; cases e
  | bad => rw [e1] at e; cases e
end
/-! ### comprehensions -/
def capE (ix : List Nat) (env : En) (d : D) : En := some d :: ix.map fun i => (env[i]?).join
def tt1 : MT := fun _ h => .ok true h
def compG (rd : Rdr) (tt : MT) (te : ME) (ee : D → En) : Nat → Nat → List D → Hh → R (List D)
  | k, i, acc, h => match rd h i with
    | none => .bad
    | some none => .ok acc h
    | some (some d) => match k with
      | 0 => .bad
      | k + 1 => (tt (ee d) h).bind fun b h1 => if b = true then (te (ee d) h1).bind fun y h2 => compG rd tt te ee k (i + 1) (acc ++ [y]) h2 else compG rd tt te ee k (i + 1) acc h1
def compS (tt : MT) (te : ME) (ee : D → En) : List D → Hh → R (List D)
  | [], h => .ok [] h
  | d :: ds, h => (tt (ee d) h).bind fun b h1 => if b = true then (te (ee d) h1).bind fun y h2 => (compS tt te ee ds h2).bind fun ys h3 => .ok (y :: ys) h3 else compS tt te ee ds h1
theorem bind_bind {β γ δ : Type} (r : R β) (f : β → Hh → R γ) (k : γ → Hh → R δ) : (r.bind f).bind k = r.bind fun b h => (f b h).bind k := by cases r <;> rfl
theorem compS_eq (tt : MT) (te : ME) (ee : D → En) (all : List D) : ∀ (ds : List D) (i : Nat) (acc : List D) (h : Hh), all.drop i = ds → compG (Src.snap all).rdr tt te ee ds.length i acc h = (compS tt te ee ds h).bind fun ys h' => .ok (acc ++ ys) h' := by
  intro ds
  induction ds with
  | nil =>
    intro i acc h e
    have : all[i]? = none := by
      have := congrArg List.length e
      simp at this
      exact List.getElem?_eq_none (by omega)
    unfold compG compS Src.rdr
    simp [this, R.bind]
  | cons d ds ih =>
    intro i acc h e
    have h0 : all[i]? = some d := by
      have := congrArg (fun l => l[0]?) e
      simpa using this
    have h1 : all.drop (i + 1) = ds := by
      have := congrArg List.tail e
      simpa using this
    unfold compG compS
    have : (Src.snap all).rdr h i = some (some d) := by unfold Src.rdr; simp [h0]
    rw [this]
    show ((tt (ee d) h).bind _) = _
    rw [bind_bind]
    congr 1
    funext b h2
    cases b with
    | false => rw [if_neg Bool.false_ne_true, if_neg Bool.false_ne_true]; exact ih (i + 1) acc h2 h1
    | true =>
      rw [if_pos rfl, if_pos rfl, bind_bind]
      congr 1
      funext y h3
      rw [bind_bind]
      have := ih (i + 1) (acc ++ [y]) h3 h1
      rw [this]
      congr 1
      funext ys h4
      show R.ok (acc ++ [y] ++ ys) h4 = R.ok (acc ++ (y :: ys)) h4
      simp
def newL : List D → Hh → R D := fun ys h2 => .ok (.ref h2.length) (h2 ++ [O.lst ys])
def cComp (mi : MI) (ix : List Nat) (tt : MT) (te : ME) : ME := fun env h => (mi env h).bind fun sr h1 => if sr.fuel h1 ≤ 1000000 then
  (match sr with
    | .snap ds => compS tt te (capE ix env) ds h1
    | .live n => compG (Src.live n).rdr tt te (capE ix env) ((lstOf h1 n).getD []).length 0 [] h1
    | .liveE n => compG (Src.liveE n).rdr tt te (capE ix env) ((lstOf h1 n).getD []).length 0 [] h1).bind newL else .bad
theorem cComp_eq {mi : MI} {ix : List Nat} {tt : MT} {te : ME} {env : En} {h : Hh} : cComp mi ix tt te env h = (mi env h).bind fun sr h1 => if sr.fuel h1 ≤ 1000000 then (compG sr.rdr tt te (capE ix env) (sr.fuel h1) 0 [] h1).bind newL else .bad := by
  unfold cComp
  congr 1
  funext sr h1
  cases sr with
  | snap ds =>
    have := compS_eq tt te (capE ix env) ds ds 0 [] h1 rfl
    simp only [List.nil_append] at this
    have e : (Src.snap ds).fuel h1 = ds.length := rfl
    rw [e, this, bind_bind]
    rfl
  | live n => rfl
  | liveE n => rfl
theorem cap_rel {K : PySem.W.Frag} {g : GG} {α : List Addr} {H : Hp} {env : En} {σ : St} {ix : List Nat} {d : D} {v : V} (s : VRel K g α H env σ) (r : RelD K g α H d v) : VRel K g α H (capE ix env d) ((capσ ix σ).set 0 (some v)) := by
  refine ⟨by simp [capE, capσ], fun i e h => ?_⟩
  cases i with
  | zero =>
    have : d = e := by simpa [capE] using h
    subst this
    exact ⟨v, by simp [capσ], r⟩
  | succ i =>
    have h' : (ix.map fun i => (env[i]?).join)[i]? = some (some e) := by simpa [capE] using h
    rw [List.getElem?_map] at h'
    cases ei : ix[i]? with
    | none => rw [ei] at h'; cases h'
    | some j =>
      rw [ei] at h'
      have h2 : (env[j]?).join = some e := by simpa using h'
      cases ej : env[j]? with
      | none => rw [ej] at h2; cases h2
      | some oe =>
        rw [ej] at h2
        have h3 : oe = some e := by simpa using h2
        subst h3
        obtain ⟨u, eu, ru⟩ := s.vars j e ej
        refine ⟨u, ?_, ru⟩
        simp only [capσ, List.set_cons_zero, List.getElem?_cons_succ, List.getElem?_map, ei, Option.map_some, eu]
        rfl
section
variable {X : Cx} {g : GG}
theorem ts_nil : PTs X [] (tMT X.K g E00 tt1) := fun pins s σ H Q I ⟨α, env, h, s', w⟩ => pts_nil pins s σ H Q I (w H α Ext.refl s'.heap)
theorem ts_one {c : Expr} {mt : MT} (h : PT X c (tMT X.K g E00 mt)) : PTs X [c] (tMT X.K g E00 mt) := pts_one h
theorem tComp_of {K : PySem.W.Frag} {mi : MI} {tt : MT} {te : ME} {ix : List Nat} {σ : St} {H : Hp} {Q : VK} (t : tM K g E00 (cComp mi ix tt te) σ H Q) : tComp (tMI K g E00 mi) ix (tMT K g E00 tt) (tM K g E00 te) σ H Q := by
  obtain ⟨α, env, h, s, w⟩ := t
  rw [cComp_eq] at w
  refine ⟨α, env, h, s, w.bind.mono fun sr h1 _ w1 J H1 α1 e1 hr1 rd => fun acc hacc => ?_⟩
  obtain ⟨hf, w1⟩ := WQ.iteP w1
  have s1 := s.ext e1 hr1
  refine ⟨fun i m ys H => ∃ α h as, Ext K α1 H1 α H ∧ HRel K g α H h ∧ RelDs K g α H as ys ∧ H acc = some (.lst ys) ∧ acc ∉ α ∧ as.length + m ≤ 1000000 ∧
    WQ K g E00 α1 H1 ((compG sr.rdr tt te (capE ix env) m i as h).bind newL) (Post K g α1 H1 Q),
    ⟨sr.fuel h1, α1, h1, [], Ext.fresh hacc, hr1.grow hacc, .nil, upd_same, hr1.free hacc, by simpa using hf, w1.post e1⟩, ?_⟩
  rintro i m ys H2 ⟨α2, h2, as, x2, hr2, ra, ha, hna, hm, w2⟩
  have q := rd α2 H2 h2 x2 hr2 i
  unfold compG at w2
  cases e : sr.rdr h2 i with
  | none => rw [e] at w2; exact w2.elim
  | some od =>
    rw [e] at w2 q
    cases od with
    | none =>
      refine .inl ⟨q, ?_⟩
      have w3 : Post K g α1 H1 Q (.ref h2.length) (h2 ++ [.lst as]) := w2
      have x3 : Ext K α1 H1 (α2 ++ [acc]) H2 := ⟨x2.toEx0.trans (Ex0.refl.more _), x2.keep, fun p z n => by
        rcases List.mem_append.mp z with z | z
        · exact x2.new p z n
        · rw [List.mem_singleton.mp z]; exact hacc⟩
      refine w3 _ H2 (α2 ++ [acc]) x3 (hr2.adopt hna ⟨ys, ha, ra.ex0 (Ex0.refl.more _)⟩) (.ref ?_)
      rw [← hr2.len, List.getElem?_append_right (Nat.le_refl _)]; simp
    | some d =>
      cases m with
      | zero => exact w2.elim
      | succ m =>
        rw [bind_bind] at w2
        have w3 := WQ.bind (show WQ K g E00 α1 H1 ((tt (capE ix env d) h2).bind _) _ from w2)
        refine .inr ⟨q.1, fun x H3 y => ?_⟩
        obtain ⟨α3, x3, hr3, rx⟩ := q.2 x H3 y
        have ha3 := x3.keep _ _ ha hna
        have hna3 : acc ∉ α3 := fun z => by have := x3.new _ z hna; rw [ha] at this; cases this
        have s3 : SRel K g α3 H3 (capE ix env d) ((capσ ix σ).set 0 (some x)) h2 := ⟨hr3, cap_rel (s1.vs.ext (x2.trans x3)) rx⟩
        refine tMT.use s3 ((w3.ext x2).ext x3) fun b h4 H4 α4 x4 s4 w4 => ?_
        have ha4 := x4.keep _ _ ha3 hna3
        have hna4 : acc ∉ α4 := fun z => by have := x4.new _ z hna3; rw [ha3] at this; cases this
        cases b with
        | false =>
          rw [if_neg Bool.false_ne_true] at w4 ⊢
          exact ⟨m, Nat.lt_succ_self _, α4, h4, as, x2.trans (x3.trans x4), s4.heap, ra.ext (x3.trans x4), ha4, hna4, by omega, w4⟩
        | true =>
          rw [if_pos rfl] at w4 ⊢
          rw [bind_bind] at w4
          refine tM.use s4 (((WQ.bind w4).ext x2).ext (x3.trans x4)) fun y h5 v5 H5 α5 x5 s5 r5 w5 => ?_
          have ha5 := x5.keep _ _ ha4 hna4
          have hna5 : acc ∉ α5 := fun z => by have := x5.new _ z hna4; rw [ha4] at this; cases this
          have soft : Soft H5 acc := .inr ⟨_, ha5, fun _ z => (nomatch z), fun _ _ z => nomatch z⟩
          have x6 : Ex0 K α5 H5 α5 (upd H5 acc (.lst (ys ++ [v5]))) := Ex0.upd soft
          have tr := x2.trans (x3.trans (x4.trans x5))
          refine ⟨ha5, ?_, m, Nat.lt_succ_self _, α5, h5, as ++ [y], ⟨tr.toEx0.trans x6, fun p o z n => ?_, tr.new⟩, s5.heap.off soft hna5, ((ra.ext (x3.trans (x4.trans x5))).append (.cons r5 .nil)).ex0 x6, upd_same, hna5, by rw [List.length_append]; simp; omega, w5⟩
          · rw [← ra.length, sizeLine_eq]; omega
          · rw [upd_ne (ne_of_none z hacc)]; exact tr.keep p o z n
def unp {β : Type} (m : En → Hh → R β) : En → Hh → R β := fun env h => match env with
  | some (.tup [x, y]) :: r => m (some x :: some y :: r) h
  | _ => .bad
theorem unp_of {K : PySem.W.Frag} {g : GG} {ε : EE} {α α' : List Addr} {H H' : Hp} {β : Type} {m : En → Hh → R β} {d : D} {x : V} {r : En} {h : Hh} {k : β → Hh → Prop} (rx : RelD K g α H d x) (w : WQ K g ε α' H' (unp m (some d :: r) h) k) :
    ∃ a b p va vb, d = .tup [a, b] ∧ x = .ref p ∧ H p = some (.tup [va, vb]) ∧ RelD K g α H a va ∧ RelD K g α H b vb ∧ WQ K g ε α' H' (m (some a :: some b :: r) h) k := by
  cases rx with
  | tup hp rs =>
    cases rs with
    | nil => exact w.elim
    | cons ra rr =>
      cases rr with
      | nil => exact w.elim
      | cons rb rr =>
        cases rr with
        | nil => exact ⟨_, _, _, _, _, rfl, rfl, hp, ra, rb, w⟩
        | cons _ _ => exact w.elim
  | _ => exact w.elim
theorem cap_rel2 {K : PySem.W.Frag} {g : GG} {α : List Addr} {H : Hp} {env : En} {σ : St} {ix : List Nat} {d e : D} {v u : V} (s : VRel K g α H env σ) (r : RelD K g α H d v) (q : RelD K g α H e u) : VRel K g α H (some d :: some e :: ix.map fun i => (env[i]?).join) (some v :: some u :: ix.map fun i => (σ[i]?).join) := by
  have z := cap_rel (ix := ix) s q
  have e1 : (capσ ix σ).set 0 (some u) = some u :: ix.map fun i => (σ[i]?).join := rfl
  rw [e1] at z
  refine ⟨by simp, fun i x h => ?_⟩
  cases i with
  | zero => have : d = x := by simpa using h
            subst this; exact ⟨v, rfl, r⟩
  | succ i =>
    obtain ⟨y, ey, ry⟩ := z.vars i x (by simpa [capE] using h)
    exact ⟨y, by simpa using ey, ry⟩
theorem tCompT_of {K : PySem.W.Frag} {mi : MI} {tt : MT} {te : ME} {ix : List Nat} {σ : St} {H : Hp} {Q : VK} (t : tM K g E00 (cComp mi ix (unp tt) (unp te)) σ H Q) : tCompT (tMI K g E00 mi) 2 ix (gTup K 2 (gCons (gName 0) (gCons (gName 1) gNil))) (tMT K g E00 tt) (tM K g E00 te) σ H Q := by
  obtain ⟨α, env, h, s, w⟩ := t
  rw [cComp_eq] at w
  refine ⟨α, env, h, s, w.bind.mono fun sr h1 _ w1 J H1 α1 e1 hr1 rd => fun acc hacc => ?_⟩
  obtain ⟨hf, w1⟩ := WQ.iteP w1
  have s1 := s.ext e1 hr1
  refine ⟨fun i m ys H => ∃ α h as, Ext K α1 H1 α H ∧ HRel K g α H h ∧ RelDs K g α H as ys ∧ H acc = some (.lst ys) ∧ acc ∉ α ∧ as.length + m ≤ 1000000 ∧
    WQ K g E00 α1 H1 ((compG sr.rdr (unp tt) (unp te) (capE ix env) m i as h).bind newL) (Post K g α1 H1 Q),
    ⟨sr.fuel h1, α1, h1, [], Ext.fresh hacc, hr1.grow hacc, .nil, upd_same, hr1.free hacc, by simpa using hf, w1.post e1⟩, ?_⟩
  rintro i m ys H2 ⟨α2, h2, as, x2, hr2, ra, ha, hna, hm, w2⟩
  have q := rd α2 H2 h2 x2 hr2 i
  unfold compG at w2
  cases e : sr.rdr h2 i with
  | none => rw [e] at w2; exact w2.elim
  | some od =>
    rw [e] at w2 q
    cases od with
    | none =>
      refine .inl ⟨q, ?_⟩
      have w3 : Post K g α1 H1 Q (.ref h2.length) (h2 ++ [.lst as]) := w2
      have x3 : Ext K α1 H1 (α2 ++ [acc]) H2 := ⟨x2.toEx0.trans (Ex0.refl.more _), x2.keep, fun p z n => by
        rcases List.mem_append.mp z with z | z
        · exact x2.new p z n
        · rw [List.mem_singleton.mp z]; exact hacc⟩
      refine w3 _ H2 (α2 ++ [acc]) x3 (hr2.adopt hna ⟨ys, ha, ra.ex0 (Ex0.refl.more _)⟩) (.ref ?_)
      rw [← hr2.len, List.getElem?_append_right (Nat.le_refl _)]; simp
    | some d =>
      cases m with
      | zero => exact w2.elim
      | succ m =>
        rw [bind_bind] at w2
        have w3 := WQ.bind (show WQ K g E00 α1 H1 ((unp tt (capE ix env d) h2).bind _) _ from w2)
        refine .inr ⟨q.1, fun σ0 x H3 ⟨ts, tl, e0⟩ y => ?_⟩
        obtain ⟨α3, x3, hr3, rx⟩ := q.2 x H3 y
        have ha3 := x3.keep _ _ ha hna
        have hna3 : acc ∉ α3 := fun z => by have := x3.new _ z hna; rw [ha] at this; cases this
        obtain ⟨da, db, pp, va, vb, rfl, rfl, hq, rda, rdb, w3'⟩ := unp_of rx ((w3.ext x2).ext x3)
        obtain ⟨t0, t1, rfl⟩ : ∃ t0 t1, ts = [t0, t1] := by
          match ts, tl with
          | [t0, t1], _ => exact ⟨t0, t1, rfl⟩
        subst e0
        refine ⟨_, _, rfl, SqT.of hq, rfl, _, _, rfl, _, _, rfl, rfl, ⟨[some va, some vb], rfl, rfl⟩, ?_⟩
        have s3 : SRel K g α3 H3 (some da :: some db :: ix.map fun i => (env[i]?).join) (some va :: some vb :: ix.map fun i => (σ[i]?).join) h2 := ⟨hr3, cap_rel2 (s1.vs.ext (x2.trans x3)) rda rdb⟩
        refine tMT.use s3 w3' fun b h4 H4 α4 x4 s4 w4 => ?_
        have ha4 := x4.keep _ _ ha3 hna3
        have hna4 : acc ∉ α4 := fun z => by have := x4.new _ z hna3; rw [ha3] at this; cases this
        cases b with
        | false =>
          rw [if_neg Bool.false_ne_true] at w4 ⊢
          exact ⟨m, Nat.lt_succ_self _, α4, h4, as, x2.trans (x3.trans x4), s4.heap, ra.ext (x3.trans x4), ha4, hna4, by omega, w4⟩
        | true =>
          rw [if_pos rfl] at w4 ⊢
          rw [bind_bind] at w4
          refine tM.use s4 (((WQ.bind w4).ext x2).ext (x3.trans x4)) fun y h5 v5 H5 α5 x5 s5 r5 w5 => ?_
          have ha5 := x5.keep _ _ ha4 hna4
          have hna5 : acc ∉ α5 := fun z => by have := x5.new _ z hna4; rw [ha4] at this; cases this
          have soft : Soft H5 acc := .inr ⟨_, ha5, fun _ z => (nomatch z), fun _ _ z => nomatch z⟩
          have x6 : Ex0 K α5 H5 α5 (upd H5 acc (.lst (ys ++ [v5]))) := Ex0.upd soft
          have tr := x2.trans (x3.trans (x4.trans x5))
          refine ⟨ha5, ?_, m, Nat.lt_succ_self _, α5, h5, as ++ [y], ⟨tr.toEx0.trans x6, fun p o z n => ?_, tr.new⟩, s5.heap.off soft hna5, ((ra.ext (x3.trans (x4.trans x5))).append (.cons r5 .nil)).ex0 x6, upd_same, hna5, by rw [List.length_append]; simp; omega, w5⟩
          · rw [← ra.length, sizeLine_eq]; omega
          · rw [upd_ne (ne_of_none z hacc)]; exact tr.keep p o z n
theorem se_comp {elt iter : Expr} {x : Str} {px : Pos} {ifs : List Expr} {scope osc : Scope} {pos : Pos} {mi : MI} {tt : MT} {te : ME} (ix : List Nat) (N' : List Str)
    (hxe : X.xe = fun _ _ => False) (hc : X.calm = true) (ho : X.env.scope = osc) (hN : N' = x :: ix.map fun i => (X.N[i]?).getD x) (hnd : N'.Nodup)
    (hall : (∀ y ∈ scope.names, y.2 = .free → osc.names.lookup y.1 = some .cell) ∧ (∀ y ∈ scope.names, y.2 ≠ .cell) ∧ scope.kind = .function ∧ (∀ y ∈ scope.names, y.2 = .local → scope.names.lookup y.1 = some .local) ∧ scope.names.lookup x = some .local ∧ (∀ y ∈ N'.tail, scope.names.lookup y = some .free))
    (hi : PI X (.Name x px) iter (tMI X.K g E00 mi))
    (ht : ∀ cl C s₀ H₀ fp, PTs (cxComp X scope cl C s₀ H₀ fp N') ifs (tMT X.K g E00 tt))
    (he : ∀ cl C s₀ H₀ fp, PE (cxComp X scope cl C s₀ H₀ fp N') elt (tM X.K g E00 te))
    (hs : ∀ x, foldedSetIterable iter X.env x = pure x := by intro _; rfl) :
    PE X (.ListComp elt [⟨.Name x px, iter, ifs, 0⟩] scope pos) (tM X.K g E00 (cComp mi ix tt te)) := by
  exact PE.imp (pe_comp ix N' hxe hc ho hN hnd hall hi ht he hs) fun σ H Q t => tComp_of t
theorem pg2 {X : Cx} {x y : Str} {px py pt : Pos} {kt : Nat} (hc : X.calm = true) (hn : X.N.Nodup) (h0 : X.N[0]? = some x) (h1 : X.N[1]? = some y) (hx : Loc X.env.scope x ∧ X.env.scope.names.lookup x = some .local) (hy : Loc X.env.scope y ∧ X.env.scope.names.lookup y = some .local) :
    PG X (.Tuple [.Name x px, .Name y py] kt pt) (gTup X.K 2 (gCons (gName 0) (gCons (gName 1) gNil))) := pg_tup hc (pgs_cons (pg_name hn h0 hx.1 (.inr hx.2)) (pgs_cons (pg_name hn h1 hy.1 (.inr hy.2)) pgs_nil))
/-- [.. for a, b in ..] -/
theorem se_compT {elt iter : Expr} {x y : Str} {px py pt : Pos} {kt : Nat} {ifs : List Expr} {scope osc : Scope} {pos : Pos} {mi : MI} {tt : MT} {te : ME} (ix : List Nat) (N' : List Str)
    (hxe : X.xe = fun _ _ => False) (hc : X.calm = true) (ho : X.env.scope = osc) (hN : N' = [x, y] ++ ix.map fun i => (X.N[i]?).getD ("" : Str)) (hnd : N'.Nodup)
    (hall : (∀ y ∈ scope.names, y.2 = .free → osc.names.lookup y.1 = some .cell) ∧ (∀ y ∈ scope.names, y.2 ≠ .cell) ∧ scope.kind = .function ∧ (∀ y ∈ scope.names, y.2 = .local → scope.names.lookup y.1 = some .local) ∧ (∀ z ∈ N'.drop [x, y].length, scope.names.lookup z = some .free))
    (hi : PI X (.Tuple [.Name x px, .Name y py] kt pt) iter (tMI X.K g E00 mi))
    (hx : ∀ cl C s₀ H₀ fp, Loc (cxComp X scope cl C s₀ H₀ fp N').env.scope x ∧ (cxComp X scope cl C s₀ H₀ fp N').env.scope.names.lookup x = some .local) (hy : ∀ cl C s₀ H₀ fp, Loc (cxComp X scope cl C s₀ H₀ fp N').env.scope y ∧ (cxComp X scope cl C s₀ H₀ fp N').env.scope.names.lookup y = some .local)
    (ht : ∀ cl C s₀ H₀ fp, PTs (cxComp X scope cl C s₀ H₀ fp N') ifs (tMT X.K g E00 tt))
    (he : ∀ cl C s₀ H₀ fp, PE (cxComp X scope cl C s₀ H₀ fp N') elt (tM X.K g E00 te))
    (hs : ∀ x, foldedSetIterable iter X.env x = pure x := by intro _; rfl) :
    PE X (.ListComp elt [⟨.Tuple [.Name x px, .Name y py] kt pt, iter, ifs, 0⟩] scope pos) (tM X.K g E00 (cComp mi ix (unp tt) (unp te))) := by
  refine PE.imp (pe_compT (tgr := gTup X.K 2 (gCons (gName 0) (gCons (gName 1) gNil))) ix [x, y] N' hxe hc ho hN hnd hall hi (fun cl C s₀ H₀ fp => pg2 (X := cxComp X scope cl C s₀ H₀ fp N') hc hnd (show N'[0]? = some x by rw [hN]; rfl) (show N'[1]? = some y by rw [hN]; rfl) (hx cl C s₀ H₀ fp) (hy cl C s₀ H₀ fp)) ht he hs) fun σ H Q t => ?_
  exact tCompT_of t
theorem s_compSetT {elt iter : Expr} {x y z : Str} {px py pz pt : Pos} {kt : Nat} {ifs : List Expr} {scope osc : Scope} {pos spos : Pos} {mi : MI} {tt : MT} {te : ME} {i : Nat} (ix : List Nat) (N' : List Str)
    (hxe : X.xe = fun _ _ => False) (hc : X.calm = true) (ho : X.env.scope = osc) (hN : N' = [x, y] ++ ix.map fun i => (X.N[i]?).getD ("" : Str)) (hnd : N'.Nodup)
    (hall : (∀ y ∈ scope.names, y.2 = .free → osc.names.lookup y.1 = some .cell) ∧ (∀ y ∈ scope.names, y.2 ≠ .cell) ∧ scope.kind = .function ∧ (∀ y ∈ scope.names, y.2 = .local → scope.names.lookup y.1 = some .local) ∧ (∀ z ∈ N'.drop [x, y].length, scope.names.lookup z = some .free))
    (hi : PI X (.Tuple [.Name x px, .Name y py] kt pt) iter (tMI X.K g E00 mi))
    (hx : ∀ cl C s₀ H₀ fp, Loc (cxComp X scope cl C s₀ H₀ fp N').env.scope x ∧ (cxComp X scope cl C s₀ H₀ fp N').env.scope.names.lookup x = some .local) (hy : ∀ cl C s₀ H₀ fp, Loc (cxComp X scope cl C s₀ H₀ fp N').env.scope y ∧ (cxComp X scope cl C s₀ H₀ fp N').env.scope.names.lookup y = some .local)
    (ht : ∀ cl C s₀ H₀ fp, PTs (cxComp X scope cl C s₀ H₀ fp N') ifs (tMT X.K g E00 tt))
    (he : ∀ cl C s₀ H₀ fp, PE (cxComp X scope cl C s₀ H₀ fp N') elt (tM X.K g E00 te))
    (hNN : X.N.Nodup) (hz : X.N[i]? = some z) (hl : X.env.scope.names.lookup z = some .local := by rfl)
    (hsw : swapsWith (.ListComp elt [⟨.Tuple [.Name x px, .Name y py] kt pt, iter, ifs, 0⟩] scope pos) (some (.Name z pz)) spos.line X.env = pure true := by rfl)
    (hs : ∀ x, foldedSetIterable iter X.env x = pure x := by intro _; rfl) :
    PS X (.Assign [.Name z pz] (.ListComp elt [⟨.Tuple [.Name x px, .Name y py] kt pt, iter, ifs, 0⟩] scope pos) spos) (tMS X.K g E00 (cSet i (cComp mi ix (unp tt) (unp te)))) :=
  PS.imp (ps_compSetT (tgr := gTup X.K 2 (gCons (gName 0) (gCons (gName 1) gNil))) ix [x, y] N' hxe hc ho hN hnd hall hi (fun cl C s₀ H₀ fp => pg2 (X := cxComp X scope cl C s₀ H₀ fp N') hc hnd (show N'[0]? = some x by rw [hN]; rfl) (show N'[1]? = some y by rw [hN]; rfl) (hx cl C s₀ H₀ fp) (hy cl C s₀ H₀ fp)) ht he hNN hz hl hsw hs) fun E σ H ⟨α, env, h, s, w⟩ => tCompT_of (tM.use s w.bind fun d1 h1 v1 H1 α1 e1 s1 r1 w1 => (show PostS X.K g α H E (.nx (env.set i (some d1))) h1 from w1) H1 α1 e1 s1.heap _ (s1.vs.set r1))
end

end L2.FD
namespace L2.FD
open PySem PySem.Spec PyProof.Rows

def sml (i : Int) : Bool := decide (i.natAbs < 2 ^ 1900)
theorem sml_bits {i : Int} (h : sml i = true) : Builtin.Int.intBits i ≤ 1900 := by
  have h' : i.natAbs < 2 ^ 1900 := of_decide_eq_true h
  unfold Builtin.Int.intBits
  split
  · omega
  · rename_i z
    have z' : i.natAbs ≠ 0 := by
      intro q
      apply z
      have : i = 0 := Int.natAbs_eq_zero.mp q
      rw [this]; rfl
    have := (Nat.log2_lt z').mpr h'
    omega
theorem sml_log {i : Int} (h : sml i = true) : i.natAbs.log2 < 1900 := by
  have h' : i.natAbs < 2 ^ 1900 := of_decide_eq_true h
  by_cases z : i.natAbs = 0
  · rw [z]; decide
  · exact (Nat.log2_lt z).mpr h'
theorem sml_of {i : Int} (h : i.natAbs ≤ 10 ^ 560) : sml i = true := by
  refine decide_eq_true (Nat.lt_of_le_of_lt h (by decide +kernel))

section
variable {X : Cx} {K : PySem.W.Frag} {g : GG} {ε : EE}
theorem OpR.or {f : Value → Value → Sem Value} {r r' : R2} (h : OpR X f r) (h' : OpR X f r') : OpR X f (fun x y H Q => r x y H Q ∨ r' x y H Q) := fun pins s σ H x y v u Q I rx ry q => q.elim (h pins s σ H x y v u Q I rx ry) (h' pins s σ H x y v u Q I rx ry)

/-! ### + - * // % ** -/
def dAdd : D → D → Hh → R D
  | .int i, .int j, h => .ok (.int (i + j)) h
  | .tup a, .tup b, h => if a.length + b.length ≤ 1000000 then .ok (.tup (a ++ b)) h else .bad
  | .str a, .str b, h => if a.length + b.length ≤ 1000000 then .ok (.str (a ++ b)) h else .bad
  | .ref n, .ref m, h => match lstOf h n, lstOf h m with
    | some a, some b => dLst (a ++ b) h
    | _, _ => .bad
  | _, _, _ => .bad
abbrev rrAdd (K : PySem.W.Frag) : R2 := fun x y H Q => (rI0 fun i j => .int (i + j)) x y H Q ∨ (rCatT K x y H Q ∨ rCatT0 K x y H Q) ∨ rCat x y H Q ∨ ∃ i j, x = .str i ∧ y = .str j ∧ i.length + j.length ≤ sizeLine ∧ Q (.str (i ++ j)) H
theorem or_add : OpR X (binaryOp .Add) (rrAdd X.K) := OpR.or op_add (OpR.or (OpR.or op_catT op_catT0) (OpR.or op_cat op_add_str))
theorem Ext.same {α : List Addr} {H H' : Hp} {h : Hh} (r : HRel K g α H h) (e : ∀ b o, H b = some o → H' b = some o) : Ext K α H α H' :=
  ⟨⟨List.prefix_refl _, fun p xs z => e _ _ z, fun p xs z => by
    rcases z with ⟨o, z⟩ | z
    · exact .inl ⟨o, e _ _ z⟩
    · exact .inr z⟩, fun p o z _ => e p o z, fun _ z n => absurd z n⟩
theorem HRel.same {α : List Addr} {H H' : Hp} {h : Hh} (r : HRel K g α H h) (e : ∀ b o, H b = some o → H' b = some o) : HRel K g α H' h :=
  ⟨r.len, r.inj, fun n p o a b => (r.here n p o a b).ex0 (Ext.same r e).toEx0 fun u z => e _ _ z⟩
theorem im_add : Imp2 K g ε dAdd (rrAdd K) := by
  intro α H h a b x y Q r ra rb w
  unfold dAdd at w
  cases ra with
  | int i =>
    cases rb with
    | int j => exact .inl ⟨i, j, rfl, rfl, Post.now w r (.int _)⟩
    | _ => exact w.elim
  | str i =>
    cases rb with
    | str j =>
      obtain ⟨hl, w⟩ := WQ.iteP w
      exact .inr (.inr (.inr ⟨i, j, rfl, rfl, line_of hl, Post.now w r (.str _)⟩))
    | _ => exact w.elim
  | @tup da pa va ha rsa =>
    cases rb with
    | @tup db pb vb hb rsb =>
      obtain ⟨hl, w⟩ := WQ.iteP w
      refine .inr (.inl ?_)
      cases va with
      | nil =>
        cases rsa
        exact .inr ⟨_, _, _, rfl, rfl, SqT.of ha, SqT.of hb, Post.now w r (.tup hb rsb)⟩
      | cons z zs =>
        refine .inl ⟨_, _, _, _, rfl, rfl, SqT.of ha, SqT.of hb, by simp, line_of (by rw [← rsa.length, ← rsb.length]; exact hl), fun e => ?_, fun _ p hp => Post.tup w r (rsa.append rsb) hp⟩
        subst e
        cases rsb
        refine Post.now w r (.tup ha ?_)
        rw [List.append_nil]; exact rsa
    | _ => exact w.elim
  | @ref n p hp =>
    cases rb with
    | @ref m q hq =>
      cases e1 : lstOf h n with
      | none => simp only [e1] at w; exact w.elim
      | some da =>
        cases e2 : lstOf h m with
        | none => simp only [e1, e2] at w; exact w.elim
        | some db =>
          simp only [e1, e2] at w
          obtain ⟨va, hva, rsa⟩ := r.lst e1 hp
          obtain ⟨vb, hvb, rsb⟩ := r.lst e2 hq
          obtain ⟨hl, w⟩ := WQ.iteP w
          refine .inr (.inr (.inl ⟨p, q, va, vb, rfl, rfl, hva, hvb, line_of (by rw [← rsa.length, ← rsb.length, ← List.length_append]; exact hl), fun l hl' => ?_⟩))
          exact Post.lst w r (rsa.append rsb) hl'
    | _ => exact w.elim
  | _ => exact w.elim
def dSub : D → D → Hh → R D
  | .int i, .int j, h => .ok (.int (i - j)) h
  | _, _, _ => .bad
theorem im_sub : Imp2 K g ε dSub (rI0 fun i j => .int (i - j)) := by
  intro α H h a b x y Q r ra rb w
  unfold dSub at w
  cases ra with
  | int i =>
    cases rb with
    | int j => exact ⟨i, j, rfl, rfl, Post.now w r (.int _)⟩
    | _ => exact w.elim
  | _ => exact w.elim
def dMul : D → D → Hh → R D
  | .int i, .int j, h => if sml i = true ∧ sml j = true then .ok (.int (i * j)) h else .bad
  | .ref n, .int k, h => match lstOf h n with
    | some ds => if k ≤ 1000000 ∧ -1000000 ≤ k ∧ ds.length * k.toNat ≤ 1000000 then .ok (.ref h.length) (h ++ [.lst (List.replicate k.toNat ds).flatten]) else .bad
    | none => .bad
  | _, _, _ => .bad
theorem op_mulS : OpR X (binaryOp .Mult) (rI (fun i j => sml i = true ∧ sml j = true) fun i j => .int (i * j)) := opI fun _ _ _ _ _ _ _ hc q => mul_int q (IntMulOk.of_bits (Nat.le_trans (sml_bits hc.1) (by decide)) (Nat.le_trans (sml_bits hc.2) (by decide)))
abbrev rrMul : R2 := fun x y H Q => (rI (fun i j => sml i = true ∧ sml j = true) fun i j => .int (i * j)) x y H Q ∨ rRep x y H Q
theorem or_mul : OpR X (binaryOp .Mult) rrMul := OpR.or op_mulS op_rep
theorem im_mul : Imp2 K g ε dMul rrMul := by
  intro α H h a b x y Q r ra rb w
  unfold dMul at w
  cases ra with
  | int i =>
    cases rb with
    | int j =>
      obtain ⟨hc, w⟩ := WQ.iteP w
      exact .inl ⟨i, j, rfl, rfl, hc, Post.now w r (.int _)⟩
    | _ => exact w.elim
  | @ref n p hp =>
    cases rb with
    | int k =>
      cases e1 : lstOf h n with
      | none => simp only [e1] at w; exact w.elim
      | some ds =>
        simp only [e1] at w
        obtain ⟨hl, w⟩ := WQ.iteP w
        obtain ⟨vs, hv, rs⟩ := r.lst e1 hp
        refine .inr ⟨p, k, vs, rfl, rfl, hv, by omega, by omega, line_of (by rw [← rs.length]; exact hl.2.2), fun l hl' => ?_⟩
        exact Post.lst w r (rs.flat k.toNat) hl'
    | _ => exact w.elim
  | _ => exact w.elim
def dDiv : D → D → Hh → R D
  | .int i, .int j, h => if 0 < j ∧ sml j = true then .ok (.int (i / j)) h else .bad
  | _, _, _ => .bad
theorem op_fdivS : OpR X (binaryOp .FloorDiv) (rI (fun i j => 0 < j ∧ sml j = true) fun i j => .int (i / j)) := opI fun i j _ _ _ _ _ hc q => by
  have e : i.fdiv j = i / j := Int.fdiv_eq_ediv_of_nonneg _ (by omega)
  refine floordiv_int (by omega) ?_ (.inl (PyProof.noPylong_of_log2 (Nat.lt_trans (sml_log hc.2) (by decide))))
  rw [e]; exact q
theorem im_div : Imp2 K g ε dDiv (rI (fun i j => 0 < j ∧ sml j = true) fun i j => .int (i / j)) := by
  intro α H h a b x y Q r ra rb w
  unfold dDiv at w
  cases ra with
  | int i =>
    cases rb with
    | int j =>
      obtain ⟨hc, w⟩ := WQ.iteP w
      exact ⟨i, j, rfl, rfl, hc, Post.now w r (.int _)⟩
    | _ => exact w.elim
  | _ => exact w.elim
def dMod : D → D → Hh → R D
  | .int i, .int j, h => if 0 < j then .ok (.int (i % j)) h else .bad
  | _, _, _ => .bad
theorem im_mod : Imp2 K g ε dMod (rI (fun _ j => 0 < j) fun i j => .int (i % j)) := by
  intro α H h a b x y Q r ra rb w
  unfold dMod at w
  cases ra with
  | int i =>
    cases rb with
    | int j =>
      obtain ⟨hc, w⟩ := WQ.iteP w
      exact ⟨i, j, rfl, rfl, hc, Post.now w r (.int _)⟩
    | _ => exact w.elim
  | _ => exact w.elim
def dPow : D → D → Hh → R D
  | .int i, .int j, h => if 0 ≤ j ∧ j ≤ 1000 ∧ sml i = true then .ok (.int (i ^ j.toNat)) h else .bad
  | _, _, _ => .bad
theorem op_powS : OpR X (binaryOp .Pow) (rI (fun i j => 0 ≤ j ∧ j ≤ 1000 ∧ sml i = true) fun i j => .int (i ^ j.toNat)) := opI fun i j _ _ _ _ _ hc q => pow_int hc.1 (by
  have := sml_bits hc.2.2
  have h1 : ((Builtin.Int.intBits i : Nat) : Int) ≤ 1900 := by exact_mod_cast this
  calc ((Builtin.Int.intBits i : Nat) : Int) * j ≤ 1900 * j := Int.mul_le_mul_of_nonneg_right h1 hc.1
    _ ≤ 1900 * 1000 := Int.mul_le_mul_of_nonneg_left hc.2.1 (by decide)
    _ ≤ 2 ^ 27 := by decide) q
theorem im_pow : Imp2 K g ε dPow (rI (fun i j => 0 ≤ j ∧ j ≤ 1000 ∧ sml i = true) fun i j => .int (i ^ j.toNat)) := by
  intro α H h a b x y Q r ra rb w
  unfold dPow at w
  cases ra with
  | int i =>
    cases rb with
    | int j =>
      obtain ⟨hc, w⟩ := WQ.iteP w
      exact ⟨i, j, rfl, rfl, hc, Post.now w r (.int _)⟩
    | _ => exact w.elim
  | _ => exact w.elim
def dNeg : D → Hh → R D
  | .int i, h => .ok (.int (-i)) h
  | _, _ => .bad
theorem im_neg : Imp1 K g ε dNeg (rU fun i => .int (-i)) := by
  intro α H h a x Q r ra w
  unfold dNeg at w
  cases ra with
  | int i => exact ⟨i, rfl, Post.now w r (.int _)⟩
  | _ => exact w.elim
/-! ### < <= > >= of ints -/
def dCmp (p : Int → Int → Bool) : D → D → Hh → R D
  | .int i, .int j, h => .ok (.bl (p i j)) h
  | _, _, _ => .bad
abbrev dLt := dCmp fun i j => decide (i < j)
abbrev dLe := dCmp fun i j => decide (i ≤ j)
abbrev dGt := dCmp fun i j => decide (j < i)
abbrev dGe := dCmp fun i j => decide (j ≤ i)
theorem im_cmp {p : Int → Int → Bool} : Imp2 K g ε (dCmp p) (rI0 fun i j => .bl (p i j)) := by
  intro α H h a b x y Q r ra rb w
  unfold dCmp at w
  cases ra with
  | int i =>
    cases rb with
    | int j => exact ⟨i, j, rfl, rfl, Post.now w r (.bl _)⟩
    | _ => exact w.elim
  | _ => exact w.elim
/-! ### items -/
def seqOf (d : D) (h : Hh) : Option (List D) := match d with
  | .tup ds => some ds
  | .frl ds => some ds
  | .ref n => lstOf h n
  | _ => none
theorem seq_rel {α : List Addr} {H : Hp} {h : Hh} {d : D} {x : V} {ds : List D} (r : HRel K g α H h) (rd : RelD K g α H d x) (e : seqOf d h = some ds) : ∃ p vs, x = .ref p ∧ (SqL K H p vs ∨ SqT K H p vs) ∧ RelDs K g α H ds vs := by
  unfold seqOf at e
  cases rd with
  | tup hq rs => cases e; exact ⟨_, _, rfl, .inr (SqT.of hq), rs⟩
  | frl hq rs => cases e; exact ⟨_, _, rfl, .inl hq.sq, rs⟩
  | ref hp => obtain ⟨vs, hv, rs⟩ := r.lst e hp; exact ⟨_, vs, rfl, .inl (SqL.of hv), rs⟩
  | _ => cases e
def dIx : D → D → Hh → R D := fun a b h => match seqOf a h, b with
  | some ds, .int i => match atI ds i with
    | some d => .ok d h
    | none => .bad
  | _, _ => .bad
theorem atI_rel {α : List Addr} {H : Hp} {ds : List D} {vs : List V} {i : Int} {d : D} (rs : RelDs K g α H ds vs) (e : atI ds i = some d) : ∃ v, atI vs i = some v ∧ RelD K g α H d v := by
  unfold atI at e ⊢
  rw [← rs.length]
  cases e1 : ixN ds.length i with
  | none => rw [e1] at e; cases e
  | some j =>
    rw [e1] at e
    exact rs.get e
theorem im_ix : Imp2 K g ε dIx (rIx K) := by
  intro α H h a b x y Q r ra rb w
  unfold dIx at w
  cases e1 : seqOf a h with
  | none => simp only [e1] at w; exact w.elim
  | some ds =>
    simp only [e1] at w
    obtain ⟨p, vs, rfl, hq, rs⟩ := seq_rel r ra e1
    cases rb with
    | int i =>
      cases e2 : atI ds i with
      | none => simp only [e2] at w; exact w.elim
      | some d =>
        simp only [e2] at w
        obtain ⟨v, ev, rv⟩ := atI_rel rs e2
        rcases hq with hq | hq
        · exact .inl ⟨p, vs, i, v, rfl, rfl, hq, ev, Post.now w r rv⟩
        · exact .inr (.inl ⟨p, vs, i, v, rfl, rfl, hq, ev, Post.now w r rv⟩)
    | _ => exact w.elim
/-- xs[i] = v -/
def dSetIx : D → D → D → Hh → R Unit := fun o i v h => match o, i with
  | .ref n, .int k => match lstOf h n with
    | some ds => match ixN ds.length k with
      | some j => .ok () (h.set n (.lst (ds.set j v)))
      | none => .bad
    | none => .bad
  | _, _ => .bad
theorem im_setIx : ImpS K g ε dSetIx rSetL := by
  intro α H h o i v x y z Q r ro ri rv w
  unfold dSetIx at w
  cases ro with
  | @ref n p hp =>
    cases ri with
    | int k =>
      cases e1 : lstOf h n with
      | none => simp only [e1] at w; exact w.elim
      | some ds =>
        simp only [e1] at w
        cases e2 : ixN ds.length k with
        | none => simp only [e2] at w; exact w.elim
        | some j =>
          simp only [e2] at w
          obtain ⟨vs, hv, rs⟩ := r.lst e1 hp
          refine ⟨p, vs, k, j, rfl, rfl, hv, by rw [← rs.length]; exact e2, ?_⟩
          have x := Ext.write (o := .lst (vs.set j z)) r hp
          exact w _ α x (r.write hp ⟨_, upd_same, (rs.set rv j).ext x⟩)
    | _ => exact w.elim
  | _ => exact w.elim
/-! ### slices -/
def cutD (xs : List D) (lo hi : Option Int) : List D := (xs.drop (HT.sIx xs.length 0 lo)).take (HT.sIx xs.length xs.length hi - HT.sIx xs.length 0 lo)
theorem cut_rel {α : List Addr} {H : Hp} {ds : List D} {vs : List V} (rs : RelDs K g α H ds vs) (lo hi : Option Int) : RelDs K g α H (cutD ds lo hi) (cutV vs lo hi) := by
  unfold cutD cutV
  rw [← rs.length]
  exact (rs.drop _).take _
abbrev MO := En → Hh → R (Option Int)
def cNoPart : MO := fun _ h => .ok none h
def cPart (a : ME) : MO := fun env h => (a env h).bind fun d h1 => match d with
  | .int i => .ok (some i) h1
  | _ => .bad
def tMO (K : PySem.W.Frag) (g : GG) (ε : EE) (m : MO) : TO := fun σ H Q => ∃ α env h, SRel K g α H env σ h ∧ WQ K g ε α H (m env h) fun o h' => ∀ H' α', Ext K α H α' H' → HRel K g α' H' h' → Q o H'
theorem PO.imp {e : Option Expr} {t t' : TO} (h : PO X e t) (i : ∀ σ H Q, t' σ H Q → t σ H Q) : PO X e t' := fun pins s σ H Q I w => h pins s σ H Q I (i σ H Q w)
theorem so_none : PO X none (tMO X.K g ε cNoPart) := PO.imp po_none fun σ H Q ⟨α, env, h, s, w⟩ => w H α Ext.refl s.heap
theorem so_some {e : Expr} {me : ME} (he : PE X e (tM X.K g ε me)) : PO X (some e) (tMO X.K g ε (cPart me)) := PO.imp (po_some he) fun σ H Q ⟨α, env, h, s, w⟩ => tM.use s w.bind fun d1 h1 v1 H1 α1 e1 s1 r1 w1 => by
  cases r1 with
  | int i => exact ⟨i, rfl, w1 H1 α1 e1 s1.heap⟩
  | _ => exact w1.elim
def dCut : D → Option Int → Option Int → Hh → R D := fun d lo hi h => match d with
  | .tup ds => .ok (.tup (cutD ds lo hi)) h
  | .frl ds => newL (cutD ds lo hi) h
  | .ref n => match lstOf h n with
    | some ds => newL (cutD ds lo hi) h
    | none => .bad
  | _ => .bad
def cSlice (a : ME) (l u : MO) : ME := fun env h => (a env h).bind fun x h1 => (l env h1).bind fun lo h2 => (u env h2).bind fun hi h3 => dCut x lo hi h3
theorem tMO.use {α : List Addr} {H : Hp} {env : En} {σ : St} {h : Hh} {m : MO} {Q : Option Int → Hp → Prop} {k : Option Int → Hh → Prop} (s : SRel K g α H env σ h) (w : WQ K g ε α H (m env h) k)
    (q : ∀ d h' H' α', Ext K α H α' H' → SRel K g α' H' env σ h' → k d h' → Q d H') : tMO K g ε m σ H Q :=
  ⟨α, env, h, s, w.mono fun d h' _ kk H' α' e r => q d h' H' α' e (s.ext e r) kk⟩
theorem se_slice {e : Expr} {me : ME} {lo hi : Option Expr} {ml mh : MO} {p2 pos : Pos} (he : PE X e (tM X.K g ε me)) (hl : PO X lo (tMO X.K g ε ml)) (hu : PO X hi (tMO X.K g ε mh)) : PE X (.Subscript e (.Slice lo hi none p2) pos) (tM X.K g ε (cSlice me ml mh)) :=
  PE.imp (pe_slice (SlR.or sl_list (SlR.or sl_tup sl_tupW)) he hl hu) fun σ H Q ⟨α, env, h, s, w⟩ => tM.use s w.bind fun d1 h1 v1 H1 α1 e1 s1 r1 w1 => tMO.use s1 (w1.ext e1).bind fun o2 h2 H2 α2 e2 s2 w2 => tMO.use s2 (w2.ext e2).bind fun o3 h3 H3 α3 e3 s3 w3 => by
    have tr := e1.trans (e2.trans e3)
    have r3 := r1.ext (e2.trans e3)
    have w4 := (w3.ext e3).mono fun _ _ _ p => Post.ext tr p
    unfold dCut at w4
    cases r3 with
    | @frl ds p vs hq rs => exact .inl ⟨_, _, rfl, hq.sq, fun l hl => Post.lst w4 s3.heap (cut_rel rs _ _) hl⟩
    | @ref n p hp =>
      cases e1 : lstOf h3 n with
      | none => simp only [e1] at w4; exact w4.elim
      | some ds =>
        simp only [e1] at w4
        obtain ⟨vs, hv, rs⟩ := s3.heap.lst e1 hp
        exact .inl ⟨_, _, rfl, SqL.of hv, fun l hl => Post.lst w4 s3.heap (cut_rel rs _ _) hl⟩
    | @tup ds p vs hq rs =>
      refine .inr ?_
      by_cases hw : HT.sIx vs.length 0 o2 = 0 ∧ HT.sIx vs.length vs.length o3 = vs.length
      · refine .inr ⟨_, _, rfl, SqT.of hq, hw.1, hw.2, ?_⟩
        refine Post.now w4 s3.heap (.tup hq ?_)
        have : cutV vs o2 o3 = vs := by unfold cutV; rw [hw.1, hw.2]; simp
        have q := cut_rel rs o2 o3
        rw [this] at q
        exact q
      · exact .inl ⟨_, _, rfl, SqT.of hq, hw, fun l hl => Post.tup w4 s3.heap (cut_rel rs _ _) hl⟩
    | _ => exact w4.elim
def dRev : D → Hh → R D
  | .tup ds, h => .ok (.tup ds.reverse) h
  | _, _ => .bad
theorem se_rev {e : Expr} {me : ME} {j p1 p2 p3 pos} (he : PE X e (tM X.K g ε me)) : PE X (.Subscript e (.Slice none none (some (.UnaryOp .USub (.Constant (.int 1) j p1) p3)) p2) pos) (tM X.K g ε (cUn dRev me)) :=
  PE.imp (pe_rev he) fun σ H Q ⟨α, env, h, s, w⟩ => tM.use s w.bind fun d1 h1 v1 H1 α1 e1 s1 r1 w1 => by
    have w4 := w1.post e1
    unfold dRev at w4
    cases r1 with
    | tup hq rs => exact ⟨_, _, rfl, SqT.of hq, fun l hl => Post.tup w4 s1.heap rs.rev hl⟩
    | _ => exact w4.elim
end
end L2.FD
namespace L2.FD
open PySem PySem.Spec PyProof.Rows

/-! ### == by depth -/
def flatD : D → Bool
  | .non => true | .bl _ => true | .int _ => true | .str _ => true
  | _ => false
def eqF : D → D → Bool
  | .non, .non => true
  | .bl a, .bl b => a == b
  | .bl a, .int b => (if a then 1 else 0) == b
  | .int a, .bl b => a == (if b then 1 else 0)
  | .int a, .int b => a == b
  | .str a, .str b => a == b
  | _, _ => false
def eqL (f : D → D → Option Bool) : List D → List D → Option Bool
  | x :: xs, y :: ys => match f x y, eqL f xs ys with
    | some b, some c => some (b && c)
    | _, _ => none
  | [], [] => some true
  | _, _ => some false
def eqD : Nat → Hh → D → D → Option Bool
  | 0, _, _, _ => none
  | k + 1, h, a, b => match a, b with
    | .tup xs, .tup ys => eqL (eqD k h) xs ys
    | .ref n, .ref m => match lstOf h n, lstOf h m with
      | some xs, some ys => if xs.length = ys.length then eqL (eqD k h) xs ys else some false
      | _, _ => none
    | .tup _, .ref m => if (lstOf h m).isSome then some false else none
    | .ref n, .tup _ => if (lstOf h n).isSome then some false else none
    | .tup _, b => if flatD b then some false else none
    | .ref n, b => if flatD b && (lstOf h n).isSome then some false else none
    | a, .tup _ => if flatD a then some false else none
    | a, .ref m => if flatD a && (lstOf h m).isSome then some false else none
    | a, b => if flatD a && flatD b then some (eqF a b) else none

section
variable {K : PySem.W.Frag} {g : GG} {α : List Addr} {H : Hp} {h : Hh}
theorem eqL_same {f : D → D → Option Bool} (hf : ∀ a b x c, RelD K g α H a x → RelD K g α H b x → f a b = some c → c = true) : ∀ {xs ys : List D} {vs : List V} {c : Bool}, RelDs K g α H xs vs → RelDs K g α H ys vs → eqL f xs ys = some c → c = true
  | _, _, _, _, .nil, .nil, e => by simp [eqL] at e; exact e
  | _, _, _, c, .cons r t, .cons r' t', e => by
    unfold eqL at e
    split at e
    · rename_i b c' h1 h2
      have e1 := hf _ _ _ _ r r' h1
      have e2 := eqL_same hf t t' h2
      subst e1 e2
      exact (Option.some.inj e).symm
    · cases e
theorem eqD_same (r : HRel K g α H h) : ∀ (k : Nat) (a b : D) (x : V) (c : Bool), RelD K g α H a x → RelD K g α H b x → eqD k h a b = some c → c = true
  | 0, _, _, _, _, _, _, e => by cases e
  | k + 1, a, b, x, c, ra, rb, e => by
    cases ra with
    | non => cases rb; simp [eqD, flatD, eqF] at e; exact e
    | bl z => cases rb; simp [eqD, flatD, eqF] at e; exact e
    | int z => cases rb; simp [eqD, flatD, eqF] at e; exact e
    | str z => cases rb; simp [eqD, flatD, eqF] at e; exact e
    | tup hp rs =>
      cases rb with
      | tup hp' rs' =>
        rw [hp] at hp'; cases hp'
        unfold eqD at e
        exact eqL_same (fun a b x c => eqD_same r k a b x c) rs rs' e
      | ref hp' => obtain ⟨u, hu, n1, _⟩ := r.mem (List.mem_of_getElem? hp'); rw [hp] at hu; cases hu; exact absurd rfl (n1 _)
      | frl _ _ => simp [eqD, flatD] at e
      | fn _ => simp [eqD, flatD] at e
    | @ref n p hp =>
      cases rb with
      | tup hp' rs' => obtain ⟨u, hu, n1, _⟩ := r.mem (List.mem_of_getElem? hp); rw [hp'] at hu; cases hu; exact absurd rfl (n1 _)
      | @ref m _ hp' =>
        have := r.inj _ _ _ hp hp'
        subst this
        unfold eqD at e
        cases el : lstOf h n with
        | none => simp [el] at e
        | some ds =>
          simp only [el, if_true] at e
          obtain ⟨vs, hv, rs⟩ := r.lst el hp
          exact eqL_same (fun a b x c => eqD_same r k a b x c) rs rs e
      | frl _ _ => simp [eqD, flatD] at e
      | fn _ => simp [eqD, flatD] at e
    | frl _ _ => cases rb <;> simp [eqD, flatD] at e
    | fn _ => cases rb <;> simp [eqD, flatD] at e
theorem eqL_all {f : D → D → Option Bool} : ∀ {xs ys : List D} {c : Bool}, eqL f xs ys = some c →
    (∀ (j : Nat) (x y : D), xs[j]? = some x → ys[j]? = some y → ∃ b, f x y = some b) ∧ c = ((List.range (min xs.length ys.length)).all (fun j => ((f (xs.getD j .non) (ys.getD j .non)).getD false)) && xs.length == ys.length)
  | [], [], c, e => by
    simp [eqL] at e
    refine ⟨fun j x y h => by simp at h, ?_⟩
    simp [← e]
  | [], _ :: _, c, e => by
    simp [eqL] at e
    exact ⟨fun j x y h => by simp at h, by simp [← e]⟩
  | _ :: _, [], c, e => by
    simp [eqL] at e
    exact ⟨fun j x y _ h => by simp at h, by simp [← e]⟩
  | x :: xs, y :: ys, c, e => by
    unfold eqL at e
    split at e
    · rename_i b c' h1 h2
      obtain ⟨q1, q2⟩ := eqL_all h2
      refine ⟨fun j x' y' hx hy => ?_, ?_⟩
      · cases j with
        | zero => simp at hx hy; subst hx hy; exact ⟨b, h1⟩
        | succ j => exact q1 j x' y' (by simpa using hx) (by simpa using hy)
      · have e' := (Option.some.inj e).symm
        rw [e', q2]
        have hm : min (x :: xs).length (y :: ys).length = min xs.length ys.length + 1 := by simp [Nat.succ_min_succ]
        rw [hm, List.range_succ_eq_map, List.all_cons, List.all_map]
        have h0 : (f ((x :: xs).getD 0 .non) ((y :: ys).getD 0 .non)).getD false = b := by
          show (f x y).getD false = b
          rw [h1]; rfl
        rw [h0]
        have hlen : ((x :: xs).length == (y :: ys).length) = (xs.length == ys.length) := by simp
        rw [hlen, Bool.and_assoc]
        rfl
    · cases e
end

section
variable {X : Cx} {g : GG} {pins : List (Addr × Obj)} {σ : St} {H : Hp} {s : Shared} {α : List Addr} {h : Hh}
open PySem.SeqAt
theorem flat_at {A : Around} {a b : D} {x y : V} {u v : Value} {K : PySem.W.Frag} (ra : RelD K g α H a x) (rb : RelD K g α H b y) (ru : RelV x u) (rv : RelV y v) (fa : flatD a = true) (fb : flatD b = true) :
    EqAt A s u v (eqF a b) ∧ RcAt A s u v (eqF a b) ∧ RcNeAt A s u v (!eqF a b) := by
  cases ra with
  | non =>
    cases ru
    cases rb with
    | non => cases rv; exact ⟨.same _, .none_none, .none_none⟩
    | bl z => cases rv; exact ⟨.none_bool z, .none_bool z, .none_bool z⟩
    | int z => obtain ⟨t, rfl⟩ := rv; exact ⟨.none_int z t, .none_int z t, .none_int z t⟩
    | str z => obtain ⟨t, rfl⟩ := rv; exact ⟨.none_str z t, .none_str z t, .none_str z t⟩
    | _ => cases fb
  | bl q =>
    cases ru
    cases rb with
    | non => cases rv; exact ⟨.bool_none q, .bool_none q, .bool_none q⟩
    | bl z => cases rv; exact ⟨.bool_bool q z, .bool_bool q z, .bool_bool q z⟩
    | int z => obtain ⟨t, rfl⟩ := rv; exact ⟨.bool_int q z t, .bool_int q z t, .bool_int q z t⟩
    | str z => obtain ⟨t, rfl⟩ := rv; exact ⟨.bool_str q z t, .bool_str q z t, .bool_str q z t⟩
    | _ => cases fb
  | int q =>
    obtain ⟨t', rfl⟩ := ru
    cases rb with
    | non => cases rv; exact ⟨.int_none q t', .int_none q t', .int_none q t'⟩
    | bl z => cases rv; exact ⟨.int_bool q t' z, .int_bool q t' z, .int_bool q t' z⟩
    | int z => obtain ⟨t, rfl⟩ := rv; exact ⟨.int_int q t' z t, .int_int q t' z t, .int_int q t' z t⟩
    | str z => obtain ⟨t, rfl⟩ := rv; exact ⟨.int_str q t' z t, .int_str q t' z t, .int_str q t' z t⟩
    | _ => cases fb
  | str q =>
    obtain ⟨t', rfl⟩ := ru
    cases rb with
    | non => cases rv; exact ⟨.str_none q t', .str_none q t', .str_none q t'⟩
    | bl z => cases rv; exact ⟨.str_bool q t' z, .str_bool q t' z, .str_bool q t' z⟩
    | int z => obtain ⟨t, rfl⟩ := rv; exact ⟨.str_int q t' z t, .str_int q t' z t, .str_int q t' z t⟩
    | str z => obtain ⟨t, rfl⟩ := rv; exact ⟨.str_str q t' z t, .str_str q t' z t, .str_str q t' z t⟩
    | _ => cases fb
  | _ => cases fa
theorem tup_flat {A : Around} {b : D} {y : V} {v : Value} {p : Addr} {its : Array Value} {K : PySem.W.Frag} (ht : s.heap.IsTuple p its) (hu : A.units < cLine) (rb : RelD K g α H b y) (rv : RelV y v) (fb : flatD b = true) :
    (EqAt A s (.ref p) v false ∧ RcAt A s (.ref p) v false ∧ RcNeAt A s (.ref p) v true) ∧ (EqAt A s v (.ref p) false ∧ RcAt A s v (.ref p) false ∧ RcNeAt A s v (.ref p) true) := by
  cases rb with
  | non => cases rv; exact ⟨⟨.tuple_none ht hu, .tuple_none ht hu, .tuple_none ht hu⟩, .none_tuple ht hu, .none_tuple ht hu, .none_tuple ht hu⟩
  | bl z => cases rv; exact ⟨⟨.tuple_bool z ht hu, .tuple_bool z ht hu, .tuple_bool z ht hu⟩, .bool_tuple z ht hu, .bool_tuple z ht hu, .bool_tuple z ht hu⟩
  | int z => obtain ⟨t, rfl⟩ := rv; exact ⟨⟨.tuple_int z t ht hu, .tuple_int z t ht hu, .tuple_int z t ht hu⟩, .int_tuple z t ht hu, .int_tuple z t ht hu, .int_tuple z t ht hu⟩
  | str z => obtain ⟨t, rfl⟩ := rv; exact ⟨⟨.tuple_str z t ht hu, .tuple_str z t ht hu, .tuple_str z t ht hu⟩, .str_tuple z t ht hu, .str_tuple z t ht hu, .str_tuple z t ht hu⟩
  | _ => cases fb
theorem lst_flat {A : Around} {b : D} {y : V} {v : Value} {p : Addr} {its : Array Value} {K : PySem.W.Frag} (ht : s.heap.IsList p its) (hu : A.units < cLine) (rb : RelD K g α H b y) (rv : RelV y v) (fb : flatD b = true) :
    (EqAt A s (.ref p) v false ∧ RcAt A s (.ref p) v false ∧ RcNeAt A s (.ref p) v true) ∧ (EqAt A s v (.ref p) false ∧ RcAt A s v (.ref p) false ∧ RcNeAt A s v (.ref p) true) := by
  cases rb with
  | non => cases rv; exact ⟨⟨.list_none ht hu, .list_none ht hu, .list_none ht hu⟩, .none_list ht hu, .none_list ht hu, .none_list ht hu⟩
  | bl z => cases rv; exact ⟨⟨.list_bool z ht hu, .list_bool z ht hu, .list_bool z ht hu⟩, .bool_list z ht hu, .bool_list z ht hu, .bool_list z ht hu⟩
  | int z => obtain ⟨t, rfl⟩ := rv; exact ⟨⟨.list_int z t ht hu, .list_int z t ht hu, .list_int z t ht hu⟩, .int_list z t ht hu, .int_list z t ht hu, .int_list z t ht hu⟩
  | str z => obtain ⟨t, rfl⟩ := rv; exact ⟨⟨.list_str z t ht hu, .list_str z t ht hu, .list_str z t ht hu⟩, .str_list z t ht hu, .str_list z t ht hu, .str_list z t ht hu⟩
  | _ => cases fb
theorem items_at {A : Around} {k : Nat} {ds es : List D} {vs us : List V} {its jts : List Value} {c : Bool} (r : HRel X.K g α H h)
    (ih : ∀ (a b : D) (x y : V) (u v : Value) (c : Bool), RelD X.K g α H a x → RelD X.K g α H b y → RelV x u → RelV y v → eqD k h a b = some c → EqAt A.in1 s u v c)
    (rs : RelDs X.K g α H ds vs) (rt : RelDs X.K g α H es us) (rv : Vals vs its) (ru : Vals us jts) (e : eqL (eqD k h) ds es = some c) :
    (∀ j (h1 : j < its.toArray.size) (h2 : j < jts.toArray.size), EqAt A.in1 s its.toArray[j] jts.toArray[j] ((fun (j : Nat) => (eqD k h (ds.getD j .non) (es.getD j .non)).getD false) j)) ∧
    c = ((List.range (min its.toArray.size jts.toArray.size)).all (fun (j : Nat) => (eqD k h (ds.getD j .non) (es.getD j .non)).getD false) && its.toArray.size == jts.toArray.size) := by
  obtain ⟨q1, q2⟩ := eqL_all e
  have l1 : its.toArray.size = ds.length := by rw [List.size_toArray, ← rv.length, rs.length]
  have l2 : jts.toArray.size = es.length := by rw [List.size_toArray, ← ru.length, rt.length]
  refine ⟨fun j h1 h2 => ?_, by rw [l1, l2]; exact q2⟩
  have hd : ds[j]? = some (ds.getD j .non) := by rw [List.getD_eq_getElem?_getD, List.getElem?_eq_getElem (by omega)]; rfl
  have he : es[j]? = some (es.getD j .non) := by rw [List.getD_eq_getElem?_getD, List.getElem?_eq_getElem (by omega)]; rfl
  obtain ⟨b, hb⟩ := q1 j _ _ hd he
  obtain ⟨x, hx, rx⟩ := rs.get hd
  obtain ⟨y, hy, ry⟩ := rt.get he
  obtain ⟨u, hu, rxu⟩ := rv.get hx
  obtain ⟨v, hv, ryv⟩ := ru.get hy
  have eu : its.toArray[j] = u := by
    have := List.getElem?_eq_getElem (l := its) (i := j) (by simpa using h1)
    rw [hu] at this
    simpa using (Option.some.inj this).symm
  have ev : jts.toArray[j] = v := by
    have := List.getElem?_eq_getElem (l := jts) (i := j) (by simpa using h2)
    rw [hv] at this
    simpa using (Option.some.inj this).symm
  rw [eu, ev]
  show EqAt A.in1 s u v ((eqD k h (ds.getD j .non) (es.getD j .non)).getD false)
  rw [hb]
  exact ih _ _ _ _ _ _ _ rx ry rxu ryv hb
theorem eqD_at (I : Inv X pins σ H s) (r : HRel X.K g α H h) : ∀ (k : Nat) (A : Around) (a b : D) (x y : V) (u v : Value) (c : Bool), A.units + k < cLine → RelD X.K g α H a x → RelD X.K g α H b y → RelV x u → RelV y v → eqD k h a b = some c →
    EqAt A s u v c ∧ RcAt A s u v c ∧ RcNeAt A s u v (!c)
  | 0, _, _, _, _, _, _, _, _, _, _, _, _, _, e => by cases e
  | k + 1, A, a, b, x, y, u, v, c, hu, ra, rb, ru, rv, e => by
    have hu0 : A.units < cLine := by omega
    have ih : ∀ (a b : D) (x y : V) (u v : Value) (c : Bool), RelD X.K g α H a x → RelD X.K g α H b y → RelV x u → RelV y v → eqD k h a b = some c → EqAt A.in1 s u v c :=
      fun a b x y u v c h1 h2 h3 h4 h5 => (eqD_at I r k A.in1 a b x y u v c (by show A.units + 1 + k < _; omega) h1 h2 h3 h4 h5).1
    have whole := eqD_same r (k + 1) a b
    by_cases fa : flatD a = true
    · by_cases fb : flatD b = true
      · have e' : eqF a b = c := by
          cases a <;> cases b <;> first | (cases fa; done) | (cases fb; done) | (simpa [eqD, flatD] using e)
        rw [← e']
        exact flat_at ra rb ru rv fa fb
      · cases rb with
        | tup hp rs =>
          cases rv
          obtain ⟨its, r1, ht, _⟩ := I.tuple (SqT.of hp)
          have e' : c = false := by cases a <;> first | (cases fa; done) | (simpa [eqD, flatD] using e.symm)
          rw [e']
          exact (tup_flat ht hu0 ra ru fa).2
        | @ref m p hp =>
          cases rv
          cases el : lstOf h m with
          | none => exfalso; cases a <;> first | (cases fa; done) | (simp [eqD, flatD, el] at e)
          | some ds =>
            obtain ⟨vs, hv, rs⟩ := r.lst el hp
            obtain ⟨its, r1, ht, _⟩ := I.list (SqL.of hv)
            have e' : c = false := by cases a <;> first | (cases fa; done) | (simpa [eqD, flatD, el] using e.symm)
            rw [e']
            exact (lst_flat ht.isList hu0 ra ru fa).2
        | frl _ _ => exfalso; cases a <;> first | (cases fa; done) | (simp [eqD, flatD] at e)
        | fn _ => exfalso; cases a <;> first | (cases fa; done) | (simp [eqD, flatD] at e)
        | _ => exact absurd rfl fb
    · cases ra with
      | @tup da p va hp rs =>
        cases ru
        obtain ⟨its, r1, ht, _⟩ := I.tuple (SqT.of hp)
        by_cases fb : flatD b = true
        · have e' : c = false := by cases b <;> first | (cases fb; done) | (simpa [eqD, flatD] using e.symm)
          rw [e']
          exact (tup_flat ht hu0 rb rv fb).1
        · cases rb with
          | @tup db q vb hq rt =>
            cases rv
            obtain ⟨jts, r2, ht2, _⟩ := I.tuple (SqT.of hq)
            obtain ⟨h1, h2⟩ := items_at r ih rs rt r1 r2 (show eqL (eqD k h) da db = some c from e)
            have rc : RcAt A s (.ref p) (.ref q) c := by rw [h2]; exact RcAt.tuples ht ht2 hu0 h1
            refine ⟨?_, rc, by rw [h2]; exact RcNeAt.tuples ht ht2 hu0 h1⟩
            by_cases hpq : p = q
            · subst hpq
              rw [whole _ c (.tup hp rs) (.tup hq rt) e]
              exact .same _
            · exact .of_refs hpq rc
          | @ref m q hq =>
            cases rv
            cases el : lstOf h m with
            | none => exfalso; simp [eqD, el] at e
            | some ds =>
              obtain ⟨vs, hv, rt⟩ := r.lst el hq
              obtain ⟨jts, r2, ht2, _⟩ := I.list (SqL.of hv)
              have e' : c = false := by simpa [eqD, el] using e.symm
              rw [e']
              exact ⟨.tuple_list ht ht2.isList hu0, .tuple_list ht ht2.isList hu0, .tuple_list ht ht2.isList hu0⟩
          | frl _ _ => exfalso; simp [eqD, flatD] at e
          | fn _ => exfalso; simp [eqD, flatD] at e
          | _ => exact absurd rfl fb
      | @ref n p hp =>
        cases ru
        cases eln : lstOf h n with
        | none =>
          exfalso
          cases b <;> simp [eqD, flatD, eln] at e
        | some da =>
          obtain ⟨va, hva, rs⟩ := r.lst eln hp
          obtain ⟨its, r1, ht', _⟩ := I.list (SqL.of hva)
          have ht := ht'.isList
          by_cases fb : flatD b = true
          · have e' : c = false := by cases b <;> first | (cases fb; done) | (simpa [eqD, flatD, eln] using e.symm)
            rw [e']
            exact (lst_flat ht hu0 rb rv fb).1
          · cases rb with
            | @tup db q vb hq rt =>
              cases rv
              obtain ⟨jts, r2, ht2, _⟩ := I.tuple (SqT.of hq)
              have e' : c = false := by simpa [eqD, eln] using e.symm
              rw [e']
              exact ⟨.list_tuple ht ht2 hu0, .list_tuple ht ht2 hu0, .list_tuple ht ht2 hu0⟩
            | @ref m q hq =>
              cases rv
              cases elm : lstOf h m with
              | none => exfalso; simp [eqD, eln, elm] at e
              | some db =>
                obtain ⟨vb, hvb, rt⟩ := r.lst elm hq
                obtain ⟨jts, r2, ht2', _⟩ := I.list (SqL.of hvb)
                have ht2 := ht2'.isList
                have l1 : its.toArray.size = da.length := by rw [List.size_toArray, ← r1.length, rs.length]
                have l2 : jts.toArray.size = db.length := by rw [List.size_toArray, ← r2.length, rt.length]
                have fin : RcAt A s (.ref p) (.ref q) c ∧ RcNeAt A s (.ref p) (.ref q) (!c) := by
                  by_cases hl : da.length = db.length
                  · have e2 : eqL (eqD k h) da db = some c := by
                      have e3 := e
                      simp only [eqD, eln, elm, if_pos hl] at e3
                      exact e3
                    obtain ⟨h1, h2⟩ := items_at r ih rs rt r1 r2 e2
                    have hsz : its.toArray.size = jts.toArray.size := by omega
                    have h2' : c = (List.range its.toArray.size).all (fun (j : Nat) => (eqD k h (da.getD j .non) (db.getD j .non)).getD false) := by
                      rw [h2, ← hsz, Nat.min_self]; simp
                    exact ⟨by rw [h2']; exact RcAt.lists ht ht2 hsz hu0 h1, by rw [h2']; exact RcNeAt.lists ht ht2 hsz hu0 h1⟩
                  · have e2 : c = false := by
                      have e3 := e
                      simp only [eqD, eln, elm, if_neg hl] at e3
                      exact (Option.some.inj e3).symm
                    have hsz : (its.toArray.size != jts.toArray.size) = true := by
                      rw [l1, l2]; simpa using hl
                    rw [e2]
                    exact ⟨RcAt.lists_lengths ht ht2 hsz hu0, RcNeAt.lists_lengths ht ht2 hsz hu0⟩
                refine ⟨?_, fin⟩
                by_cases hpq : p = q
                · subst hpq
                  rw [whole _ c (.ref hp) (.ref hq) e]
                  exact .same _
                · exact .of_refs hpq fin.1
            | frl _ _ => exfalso; simp [eqD, flatD, eln] at e
            | fn _ => exfalso; simp [eqD, flatD, eln] at e
            | _ => exact absurd rfl fb
      | frl _ _ => exfalso; cases b <;> simp [eqD, flatD] at e
      | fn _ => exfalso; cases b <;> simp [eqD, flatD] at e
      | _ => exact absurd rfl fa
/-- how deep == looks -/
abbrev eqN : Nat := 12
def dEq : D → D → Hh → R D := fun a b h => match eqD eqN h a b with
  | some c => .ok (.bl c) h
  | none => .bad
def dNe : D → D → Hh → R D := fun a b h => match eqD eqN h a b with
  | some c => .ok (.bl (!c)) h
  | none => .bad
def rEqG (K : PySem.W.Frag) (g : GG) (neg : Bool) : R2 := fun x y H Q => ∃ α h a b c, HRel K g α H h ∧ RelD K g α H a x ∧ RelD K g α H b y ∧ eqD eqN h a b = some c ∧ Q (.bl (if neg then !c else c)) H
theorem op_eqG (hu : X.A.units + 64 < cLine) : OpR X (compareOp .Eq) (rEqG X.K g false) := by
  intro pins s σ H x y v u Q I rx ry ⟨α, h, a, b, c, r, ra, rb, e, q⟩
  exact (eqD_at I r eqN X.A a b x y v u c (by show X.A.units + 12 < _; omega) ra rb rx ry e).2.1 _ _ _ _ ⟨.bl c, H, I, rfl, q⟩
theorem op_neG (hu : X.A.units + 64 < cLine) : OpR X (compareOp .NotEq) (rEqG X.K g true) := by
  intro pins s σ H x y v u Q I rx ry ⟨α, h, a, b, c, r, ra, rb, e, q⟩
  exact (eqD_at I r eqN X.A a b x y v u c (by show X.A.units + 12 < _; omega) ra rb rx ry e).2.2 _ _ _ _ ⟨.bl (!c), H, I, rfl, q⟩
theorem im_eq {ε : EE} {K : PySem.W.Frag} : Imp2 K g ε dEq (rEqG K g false) := by
  intro α H h a b x y Q r ra rb w
  unfold dEq at w
  cases e : eqD eqN h a b with
  | none => simp only [e] at w; exact w.elim
  | some c => simp only [e] at w; exact ⟨α, h, a, b, c, r, ra, rb, e, Post.now w r (.bl _)⟩
theorem im_ne {ε : EE} {K : PySem.W.Frag} : Imp2 K g ε dNe (rEqG K g true) := by
  intro α H h a b x y Q r ra rb w
  unfold dNe at w
  cases e : eqD eqN h a b with
  | none => simp only [e] at w; exact w.elim
  | some c => simp only [e] at w; exact ⟨α, h, a, b, c, r, ra, rb, e, Post.now w r (.bl _)⟩
end
end L2.FD
namespace L2.FD
open PySem PySem.Spec PyProof.Rows

/-! ### repr -/
def toPys (f : D → Option PyData) : List D → Option (List PyData)
  | [] => some []
  | d :: ds => match f d, toPys f ds with
    | some p, some ps => some (p :: ps)
    | _, _ => none
def toPy : Nat → Hh → D → Option PyData
  | 0, _, _ => none
  | k + 1, h, d => match d with
    | .non => some .none
    | .bl b => some (.bool b)
    | .int i => if sml i = true then some (.int i) else none
    | .str x => if x.cps.toList.all (fun c => decide (c < 16 ^ 8)) = true then some (.str x) else none
    | .tup ds => (toPys (toPy k h) ds).map .tuple
    | .ref n => match lstOf h n with
      | some ds => (toPys (toPy k h) ds).map .list
      | none => none
    | _ => none
structure PyOk (k : Nat) (d : PyData) : Prop where
  sh : d.showable = true
  nd : d.hasDict = false
  dp : d.depth ≤ k
  lv : d.leavesShort 1921 = true
structure PysOk (k : Nat) (ds : List PyData) : Prop where
  sh : PyData.showableAll ds = true
  nd : PyData.hasDictAll ds = false
  dp : PyData.depthAll ds ≤ k
  lv : PyData.leavesShortAll 1921 ds = true
section
variable {K : PySem.W.Frag} {g : GG} {α : List Addr} {H : Hp} {h : Hh}
theorem toPys_ok {f : D → Option PyData} {k : Nat} (hf : ∀ d x p, RelD K g α H d x → f d = some p → RdD K H x p ∧ PyOk k p) : ∀ {ds : List D} {vs : List V} {ps : List PyData}, RelDs K g α H ds vs → toPys f ds = some ps →
    PysOk k ps ∧ vs.length = ps.length ∧ ∀ (i : Nat) x d, vs[i]? = some x → ps[i]? = some d → RdD K H x d
  | _, _, _, .nil, e => by
    cases e
    exact ⟨⟨by simp [PyData.showableAll], by simp [PyData.hasDictAll], by simp [PyData.depthAll], by simp [PyData.leavesShortAll]⟩, rfl, fun i x d h => by simp at h⟩
  | _, _, _, .cons r t, e => by
    unfold toPys at e
    split at e
    · rename_i p ps h1 h2
      cases e
      obtain ⟨a1, a2⟩ := hf _ _ _ r h1
      obtain ⟨b1, b2, b3⟩ := toPys_ok hf t h2
      refine ⟨⟨by rw [PyData.showableAll, a2.sh, b1.sh]; rfl, by rw [PyData.hasDictAll, a2.nd, b1.nd]; rfl, by rw [PyData.depthAll]; exact Nat.max_le.mpr ⟨a2.dp, b1.dp⟩, by rw [PyData.leavesShortAll, a2.lv, b1.lv]; rfl⟩, by simp [b2], fun i x d hx hd => ?_⟩
      cases i with
      | zero => simp at hx hd; subst hx hd; exact a1
      | succ i => exact b3 i x d (by simpa using hx) (by simpa using hd)
    · cases e
theorem toPy_ok (r : HRel K g α H h) : ∀ (k : Nat) (d : D) (x : V) (p : PyData), RelD K g α H d x → toPy k h d = some p → RdD K H x p ∧ PyOk k p
  | 0, _, _, _, _, e => by cases e
  | k + 1, d, x, p, rd, e => by
    unfold toPy at e
    cases rd with
    | non => cases e; exact ⟨.non, by simp [PyData.showable], by simp [PyData.hasDict], by simp [PyData.depth], by simp [PyData.leavesShort]⟩
    | bl b => cases e; exact ⟨.bl b, by simp [PyData.showable], by simp [PyData.hasDict], by simp [PyData.depth], by simp [PyData.leavesShort]⟩
    | int i =>
      simp only at e
      split at e
      · rename_i hs
        cases e
        have hl : i.natAbs.log2 < 1920 := Nat.lt_trans (sml_log hs) (by decide)
        exact ⟨.int i, by simp [PyData.showable, hl], by simp [PyData.hasDict], by simp [PyData.depth], by simp only [PyData.leavesShort, decide_eq_true_eq]; exact int_text_len_1921 hl⟩
      · cases e
    | str z =>
      simp only at e
      split at e
      · rename_i hs
        cases e
        exact ⟨.str z, by simp [PyData.showable], by simp [PyData.hasDict], by simp [PyData.depth], by simpa only [PyData.leavesShort] using hs⟩
      · cases e
    | tup hp rs =>
      simp only at e
      cases e1 : toPys (toPy k h) _ with
      | none => rw [e1] at e; cases e
      | some ps =>
        rw [e1] at e
        cases e
        obtain ⟨b1, b2, b3⟩ := toPys_ok (fun d x p => toPy_ok r k d x p) rs e1
        exact ⟨.tup (SqT.of hp) b2 b3, by rw [PyData.showable]; exact b1.sh, by rw [PyData.hasDict]; exact b1.nd, by rw [PyData.depth]; exact Nat.succ_le_succ b1.dp, by rw [PyData.leavesShort]; exact b1.lv⟩
    | @ref n p hp =>
      simp only at e
      cases el : lstOf h n with
      | none => rw [el] at e; cases e
      | some ds =>
        rw [el] at e
        simp only at e
        obtain ⟨vs, hv, rs⟩ := r.lst el hp
        cases e1 : toPys (toPy k h) ds with
        | none => rw [e1] at e; cases e
        | some ps =>
          rw [e1] at e
          cases e
          obtain ⟨b1, b2, b3⟩ := toPys_ok (fun d x p => toPy_ok r k d x p) rs e1
          exact ⟨.lst (SqL.of hv) b2 b3, by rw [PyData.showable]; exact b1.sh, by rw [PyData.hasDict]; exact b1.nd, by rw [PyData.depth]; exact Nat.succ_le_succ b1.dp, by rw [PyData.leavesShort]; exact b1.lv⟩
    | frl _ _ => cases e
    | fn _ => cases e
end
def repD (d : D) (h : Hh) : R D := match toPy 12 h d with
  | some p => if p.bulk ≤ 8000 then .ok (.str p.shown) h else .bad
  | none => .bad
def dRepr : List D → Hh → R D := fun ds h => match ds with
  | [.int i] => if sml i = true then .ok (.str (toString i)) h else .bad
  | [.tup ds] => repD (.tup ds) h
  | [.ref n] => repD (.ref n) h
  | _ => .bad
section
variable {X : Cx} {K : PySem.W.Frag} {g : GG} {ε : EE}
abbrev rrRepr (K : PySem.W.Frag) : List V → Hp → VK → Prop := fun vs H Q => (∃ p d, vs = [.ref p] ∧ RdD K H (.ref p) d ∧ d.showable = true ∧ d.hasDict = false ∧ d.depth ≤ 60 ∧ d.shown.length ≤ sizeLine ∧ Q (.str d.shown) H) ∨ ∃ i, vs = [.int i] ∧ i.natAbs.log2 < 1920 ∧ Q (.str (toString i)) H
theorem or_repr (hg : X.A.guards = some []) (hu : X.A.units + 64 < cLine) : CallR X (.builtin "repr") (rrRepr X.K) := CallR.or (call_repr hg hu) call_reprI
theorem im_repr : ImpL K g ε dRepr (rrRepr K) := by
  intro α H h a x Q r ra w
  unfold dRepr at w
  cases ra with
  | nil => exact w.elim
  | cons rd rr =>
    cases rr with
    | cons _ _ => cases rd <;> exact w.elim
    | nil =>
      have gen : ∀ {d : D} {v : V}, RelD K g α H d v → (∃ p, v = .ref p) → WQ K g ε α H (repD d h) (Post K g α H Q) → rrRepr K [v] H Q := by
        intro d v rd ⟨p, hp⟩ w
        subst hp
        unfold repD at w
        cases e : toPy 12 h d with
        | none => simp only [e] at w; exact w.elim
        | some pd =>
          simp only [e] at w
          obtain ⟨hb, w⟩ := WQ.iteP w
          obtain ⟨q1, q2⟩ := toPy_ok r 12 d _ pd rd e
          have := PyData.shown_le_bulk 1921 (by decide) pd q2.lv
          exact .inl ⟨p, pd, rfl, q1, q2.sh, q2.nd, Nat.le_trans q2.dp (by decide), by rw [sizeLine_eq]; omega, Post.now w r (.str _)⟩
      cases rd with
      | int i =>
        obtain ⟨hs, w⟩ := WQ.iteP w
        exact .inr ⟨i, rfl, Nat.lt_trans (sml_log hs) (by decide), Post.now w r (.str _)⟩
      | tup hp rs => exact gen (.tup hp rs) ⟨_, rfl⟩ w
      | ref hp => exact gen (.ref hp) ⟨_, rfl⟩ w
      | _ => exact w.elim

/-! ### len, list, tuple, set, max, min, abs, int, isinstance -/
def dLen : List D → Hh → R D := fun ds h => match ds with
  | [.tup ds] => .ok (.int ds.length) h
  | [.frl ds] => .ok (.int ds.length) h
  | [.str x] => if x.length ≤ 1000000 then .ok (.int x.length) h else .bad
  | [.ref n] => match h[n]? with
    | some (.lst ds) => .ok (.int ds.length) h
    | some (.set k) => .ok (.int k) h
    | _ => .bad
  | _ => .bad
abbrev rrLen (K : PySem.W.Frag) : List V → Hp → VK → Prop := fun xs H Q => (∃ p ys, xs = [.ref p] ∧ (SqL K H p ys ∨ SqT K H p ys) ∧ Q (.int ys.length) H) ∨ (∃ p S n, xs = [.ref p] ∧ H p = some (.set S n) ∧ Q (.int n) H) ∨ ∃ z, xs = [.str z] ∧ z.length ≤ sizeLine ∧ Q (.int z.length) H
theorem or_len : CallR X (.builtin "len") (rrLen X.K) := CallR.or call_len_seq (CallR.or call_len_setO call_len_str)
/-- one argument -/
theorem one_of {α : List Addr} {H : Hp} {h : Hh} {ds : List D} {vs : List V} {f : List D → Hh → R D} {Q : VK} (hf : ∀ d e r h, f (d :: e :: r) h = .bad) (hf0 : ∀ h, f [] h = .bad) (rs : RelDs K g α H ds vs) (w : WQ K g ε α H (f ds h) (Post K g α H Q)) : ∃ d v, ds = [d] ∧ vs = [v] ∧ RelD K g α H d v := by
  cases rs with
  | nil => rw [hf0] at w; exact w.elim
  | cons r t =>
    cases t with
    | nil => exact ⟨_, _, rfl, rfl, r⟩
    | cons _ _ => rw [hf] at w; exact w.elim
theorem im_len : ImpL K g ε dLen (rrLen K) := by
  intro α H h a x Q r ra w
  obtain ⟨d, v, rfl, rfl, rd⟩ := one_of (f := dLen) (fun d _ _ _ => by cases d <;> rfl) (fun _ => rfl) ra w
  unfold dLen at w
  cases rd with
  | tup hp rs => exact .inl ⟨_, _, rfl, .inr (SqT.of hp), Post.now w r (by rw [← rs.length]; exact .int _)⟩
  | frl hp rs => exact .inl ⟨_, _, rfl, .inl hp.sq, Post.now w r (by rw [← rs.length]; exact .int _)⟩
  | str z =>
    obtain ⟨hl, w⟩ := WQ.iteP w
    exact .inr (.inr ⟨z, rfl, line_of hl, Post.now w r (.int _)⟩)
  | @ref n p hp =>
    simp only at w
    cases e : h[n]? with
    | none => rw [e] at w; exact w.elim
    | some o =>
      rw [e] at w
      have q := r.here n p o hp e
      cases o with
      | lst ds => obtain ⟨vs, hv, rs⟩ := q; exact .inl ⟨p, vs, rfl, .inl (SqL.of hv), Post.now w r (by rw [← rs.length]; exact .int _)⟩
      | set k => obtain ⟨S, hS⟩ := q; exact .inr (.inl ⟨p, S, k, rfl, hS, Post.now w r (.int _)⟩)
      | dic k => exact w.elim
  | _ => exact w.elim
def dList : List D → Hh → R D := fun ds h => match ds with
  | [d] => match seqOf d h with
    | some xs => newL xs h
    | none => .bad
  | _ => .bad
theorem im_list : ImpL K g ε dList (fun xs H Q => ∃ p ys, xs = [.ref p] ∧ (SqL K H p ys ∨ SqT K H p ys) ∧ ∀ l, H l = none → Q (.ref l) (upd H l (.lst ys))) := by
  intro α H h a x Q r ra w
  obtain ⟨d, v, rfl, rfl, rd⟩ := one_of (f := dList) (fun _ _ _ _ => rfl) (fun _ => rfl) ra w
  unfold dList at w
  simp only at w
  cases e : seqOf d h with
  | none => rw [e] at w; exact w.elim
  | some ds =>
    rw [e] at w
    obtain ⟨p, vs, rfl, hq, rs⟩ := seq_rel r rd e
    exact ⟨p, vs, rfl, hq, fun l hl => Post.lst w r rs hl⟩
def dTuple : List D → Hh → R D := fun ds h => match ds with
  | [.tup ds] => .ok (.tup ds) h
  | [.ref n] => match lstOf h n with
    | some ds => .ok (.tup ds) h
    | none => .bad
  | _ => .bad
theorem im_tuple : ImpL K g ε dTuple (fun xs H Q => ∃ p ys, xs = [.ref p] ∧ ((SqL K H p ys ∧ ∀ l, H l = none → Q (.ref l) (upd H l (.tup ys))) ∨ (SqT K H p ys ∧ Q (.ref p) H))) := by
  intro α H h a x Q r ra w
  obtain ⟨d, v, rfl, rfl, rd⟩ := one_of (f := dTuple) (fun d _ _ _ => by cases d <;> rfl) (fun _ => rfl) ra w
  unfold dTuple at w
  cases rd with
  | tup hp rs => exact ⟨_, _, rfl, .inr ⟨SqT.of hp, Post.now w r (.tup hp rs)⟩⟩
  | @ref n p hp =>
    simp only at w
    cases e : lstOf h n with
    | none => rw [e] at w; exact w.elim
    | some ds =>
      rw [e] at w
      obtain ⟨vs, hv, rs⟩ := r.lst e hp
      exact ⟨p, vs, rfl, .inl ⟨SqL.of hv, fun l hl => Post.tup w r rs hl⟩⟩
  | _ => exact w.elim
def intsOf : List D → Option (List Int)
  | [] => some []
  | .int i :: ds => (intsOf ds).map (i :: ·)
  | _ :: _ => none
theorem intsOf_some : ∀ {ds : List D} {ns : List Int}, intsOf ds = some ns → ds = ns.map D.int
  | [], ns, e => by cases e; rfl
  | .int i :: ds, ns, e => by
    unfold intsOf at e
    cases e1 : intsOf ds with
    | none => rw [e1] at e; cases e
    | some ms => rw [e1] at e; cases e; rw [intsOf_some e1]; rfl
  | .non :: _, _, e => by cases e
  | .bl _ :: _, _, e => by cases e
  | .str _ :: _, _, e => by cases e
  | .tup _ :: _, _, e => by cases e
  | .frl _ :: _, _, e => by cases e
  | .ref _ :: _, _, e => by cases e
  | .fn _ :: _, _, e => by cases e
theorem intsOf_map : ∀ (ns : List Int), intsOf (ns.map D.int) = some ns
  | [] => rfl
  | n :: r => by rw [List.map_cons, intsOf, intsOf_map r]; rfl
def dSet : List D → Hh → R D := fun ds h => match ds with
  | [.tup ds] => match intsOf ds with
    | some ns => if ns.length ≤ 4000 then .ok (.ref h.length) (h ++ [.set (unl ns).length]) else .bad
    | none => .bad
  | _ => .bad
theorem im_set : ImpL K g ε dSet (fun vs H Q => ∃ p ns, vs = [.ref p] ∧ SqT K H p (ns.map V.int) ∧ ns.length + 1 < scanBound ∧ ∀ l, H l = none → Q (.ref l) (upd H l (.set (fun k => (unl ns).any (· == k)) (unl ns).length))) := by
  intro α H h a x Q r ra w
  obtain ⟨d, v, rfl, rfl, rd⟩ := one_of (f := dSet) (fun d _ _ _ => by cases d <;> rfl) (fun _ => rfl) ra w
  unfold dSet at w
  cases rd with
  | tup hp rs =>
    simp only at w
    cases e : intsOf _ with
    | none => rw [e] at w; exact w.elim
    | some ns =>
      rw [e] at w
      obtain ⟨hl, w⟩ := WQ.iteP w
      have e2 := intsOf_some e
      subst e2
      have e3 := rs.intsV
      subst e3
      refine ⟨_, ns, rfl, SqT.of hp, by show ns.length + 1 < 4096; omega, fun l hn => ?_⟩
      refine (show Post K g α H Q _ _ from w) _ _ (α ++ [l]) (Ext.push hn) (r.push hn ⟨_, upd_same⟩) (.ref ?_)
      rw [← r.len, List.getElem?_append_right (Nat.le_refl _)]; simp
  | _ => exact w.elim
def dMax2 : List D → Hh → R D := fun ds h => match ds with
  | [.int i, .int j] => .ok (.int (if j > i then j else i)) h
  | _ => .bad
def dMin2 : List D → Hh → R D := fun ds h => match ds with
  | [.int i, .int j] => .ok (.int (if j < i then j else i)) h
  | _ => .bad
theorem two_ints {α : List Addr} {H : Hp} {h : Hh} {ds : List D} {vs : List V} {t : Int → Int → Int} {Q : VK} (r : HRel K g α H h) (rs : RelDs K g α H ds vs) (w : WQ K g ε α H (match ds with | [.int i, .int j] => .ok (.int (t i j)) h | _ => .bad) (Post K g α H Q)) : ∃ i j, vs = [.int i, .int j] ∧ Q (.int (t i j)) H := by
  cases rs with
  | nil => exact w.elim
  | cons r1 t1 =>
    cases t1 with
    | nil => cases r1 <;> exact w.elim
    | cons r2 t2 =>
      cases t2 with
      | cons _ _ => cases r1 <;> cases r2 <;> exact w.elim
      | nil =>
        cases r1 with
        | int i =>
          cases r2 with
          | int j => exact ⟨i, j, rfl, Post.now w r (.int _)⟩
          | _ => exact w.elim
        | _ => exact w.elim
theorem im_max2 : ImpL K g ε dMax2 (fun xs H Q => ∃ i j, xs = [.int i, .int j] ∧ Q (.int (if j > i then j else i)) H) := fun α H h a x Q r ra w => two_ints (t := fun i j => if j > i then j else i) r ra w
theorem im_min2 : ImpL K g ε dMin2 (fun xs H Q => ∃ i j, xs = [.int i, .int j] ∧ Q (.int (if j < i then j else i)) H) := fun α H h a x Q r ra w => two_ints (t := fun i j => if j < i then j else i) r ra w
def dInt : List D → Hh → R D := fun ds h => match ds with
  | [.int i] => .ok (.int i) h
  | [.bl b] => .ok (.int (if b then 1 else 0)) h
  | _ => .bad
theorem im_int : ImpL K g ε dInt (fun xs H Q => (∃ i, xs = [.int i] ∧ Q (.int i) H) ∨ ∃ k, xs = [.bl k] ∧ Q (.int (if k then 1 else 0)) H) := by
  intro α H h a x Q r ra w
  obtain ⟨d, v, rfl, rfl, rd⟩ := one_of (f := dInt) (fun d _ _ _ => by cases d <;> rfl) (fun _ => rfl) ra w
  unfold dInt at w
  cases rd with
  | int i => exact .inl ⟨i, rfl, Post.now w r (.int _)⟩
  | bl b => exact .inr ⟨b, rfl, Post.now w r (.int _)⟩
  | _ => exact w.elim
def dAbs : List D → Hh → R D := fun ds h => match ds with
  | [.int i] => .ok (.int (if i < 0 then -i else i)) h
  | _ => .bad
theorem im_abs : ImpL K g ε dAbs (fun xs H Q => ∃ i, xs = [.int i] ∧ Q (.int (if i < 0 then -i else i)) H) := by
  intro α H h a x Q r ra w
  obtain ⟨d, v, rfl, rfl, rd⟩ := one_of (f := dAbs) (fun d _ _ _ => by cases d <;> rfl) (fun _ => rfl) ra w
  unfold dAbs at w
  cases rd with
  | int i => exact ⟨i, rfl, Post.now w r (.int _)⟩
  | _ => exact w.elim

/-! ### isinstance(e, T), T a built-in type -/
def tyD (d : D) (h : Hh) : Option String := match d with
  | .non => some "NoneType"
  | .bl _ => some "bool"
  | .int _ => some "int"
  | .str _ => some "str"
  | .tup _ => some "tuple"
  | .ref n => match h[n]? with
    | some (.lst _) => some "list"
    | some (.dic _) => some "dict"
    | _ => none
  | _ => none
def subTy (t n : String) : Option Bool :=
  if n = "int" then (if t = "int" then some true else if t = "bool" then some true else if t = "NoneType" ∨ t = "str" ∨ t = "tuple" ∨ t = "list" ∨ t = "dict" then some false else none)
  else if n = "bool" ∨ n = "tuple" ∨ n = "list" ∨ n = "str" then (if t = n then some true else if t = "int" ∨ t = "bool" ∨ t = "NoneType" ∨ t = "str" ∨ t = "tuple" ∨ t = "list" ∨ t = "dict" then some false else none)
  else none
def dIsI (n : String) : D → Hh → R D := fun d h => match tyD d h with
  | some t => match subTy t n with
    | some b => .ok (.bl b) h
    | none => .bad
  | none => .bad
theorem ty_of {α : List Addr} {H : Hp} {h : Hh} {d : D} {v : V} {t : String} (r : HRel K g α H h) (rd : RelD K g α H d v) (e : tyD d h = some t) : TyOf K H v (.type t) := by
  unfold tyD at e
  cases rd with
  | non => cases e; exact .non
  | bl b => cases e; exact .bl b
  | int i => cases e; exact .int i
  | str i => cases e; exact .str i
  | tup hp rs => cases e; exact .tup hp
  | @ref n p hp =>
    simp only at e
    cases eo : h[n]? with
    | none => rw [eo] at e; cases e
    | some o =>
      rw [eo] at e
      have q := r.here n p o hp eo
      cases o with
      | lst ds => cases e; obtain ⟨vs, hv, _⟩ := q; exact .lst hv
      | set k => cases e
      | dic k => cases e; obtain ⟨vs, hv, _⟩ := q; exact .dK hv
  | _ => cases e
theorem kit_int (K : PySem.W.Frag) : PySem.W.kitOne K (.type "int") (.type "int") = some true ∧ PySem.W.kitOne K (.type "bool") (.type "int") = some true ∧ PySem.W.kitOne K (.type "NoneType") (.type "int") = some false ∧ PySem.W.kitOne K (.type "str") (.type "int") = some false
    ∧ PySem.W.kitOne K (.type "tuple") (.type "int") = some false ∧ PySem.W.kitOne K (.type "list") (.type "int") = some false ∧ PySem.W.kitOne K (.type "dict") (.type "int") = some false := ⟨rfl, rfl, rfl, rfl, rfl, rfl, rfl⟩
theorem kit_bool (K : PySem.W.Frag) : PySem.W.kitOne K (.type "int") (.type "bool") = some false ∧ PySem.W.kitOne K (.type "bool") (.type "bool") = some true ∧ PySem.W.kitOne K (.type "NoneType") (.type "bool") = some false ∧ PySem.W.kitOne K (.type "str") (.type "bool") = some false
    ∧ PySem.W.kitOne K (.type "tuple") (.type "bool") = some false ∧ PySem.W.kitOne K (.type "list") (.type "bool") = some false ∧ PySem.W.kitOne K (.type "dict") (.type "bool") = some false := ⟨rfl, rfl, rfl, rfl, rfl, rfl, rfl⟩
theorem kit_tuple (K : PySem.W.Frag) : PySem.W.kitOne K (.type "int") (.type "tuple") = some false ∧ PySem.W.kitOne K (.type "bool") (.type "tuple") = some false ∧ PySem.W.kitOne K (.type "NoneType") (.type "tuple") = some false ∧ PySem.W.kitOne K (.type "str") (.type "tuple") = some false
    ∧ PySem.W.kitOne K (.type "tuple") (.type "tuple") = some true ∧ PySem.W.kitOne K (.type "list") (.type "tuple") = some false ∧ PySem.W.kitOne K (.type "dict") (.type "tuple") = some false := ⟨rfl, rfl, rfl, rfl, rfl, rfl, rfl⟩
theorem kit_list (K : PySem.W.Frag) : PySem.W.kitOne K (.type "int") (.type "list") = some false ∧ PySem.W.kitOne K (.type "bool") (.type "list") = some false ∧ PySem.W.kitOne K (.type "NoneType") (.type "list") = some false ∧ PySem.W.kitOne K (.type "str") (.type "list") = some false
    ∧ PySem.W.kitOne K (.type "tuple") (.type "list") = some false ∧ PySem.W.kitOne K (.type "list") (.type "list") = some true ∧ PySem.W.kitOne K (.type "dict") (.type "list") = some false := ⟨rfl, rfl, rfl, rfl, rfl, rfl, rfl⟩
theorem kit_str (K : PySem.W.Frag) : PySem.W.kitOne K (.type "int") (.type "str") = some false ∧ PySem.W.kitOne K (.type "bool") (.type "str") = some false ∧ PySem.W.kitOne K (.type "NoneType") (.type "str") = some false ∧ PySem.W.kitOne K (.type "str") (.type "str") = some true
    ∧ PySem.W.kitOne K (.type "tuple") (.type "str") = some false ∧ PySem.W.kitOne K (.type "list") (.type "str") = some false ∧ PySem.W.kitOne K (.type "dict") (.type "str") = some false := ⟨rfl, rfl, rfl, rfl, rfl, rfl, rfl⟩
theorem kit_of {t n : String} {b : Bool} (e : subTy t n = some b) : PySem.W.kitOne K (.type t) (.type n) = some b := by
  unfold subTy at e
  obtain ⟨a1, a2, a3, a4, a5, a6, a7⟩ := kit_int K
  obtain ⟨b1, b2, b3, b4, b5, b6, b7⟩ := kit_bool K
  obtain ⟨c1, c2, c3, c4, c5, c6, c7⟩ := kit_tuple K
  obtain ⟨d1, d2, d3, d4, d5, d6, d7⟩ := kit_list K
  obtain ⟨e1, e2, e3, e4, e5, e6, e7⟩ := kit_str K
  split at e
  · rename_i hn; subst hn
    split at e
    · rename_i h; subst h; cases e; exact a1
    · split at e
      · rename_i h; subst h; cases e; exact a2
      · split at e
        · rename_i h; cases e; rcases h with rfl | rfl | rfl | rfl | rfl <;> assumption
        · cases e
  · split at e
    · rename_i hn
      split at e
      · rename_i h; subst h; cases e; rcases hn with rfl | rfl | rfl | rfl <;> assumption
      · rename_i hne
        split at e
        · rename_i h; cases e; rcases hn with rfl | rfl | rfl | rfl <;> rcases h with rfl | rfl | rfl | rfl | rfl | rfl | rfl <;> first | assumption | exact absurd rfl hne
        · cases e
    · cases e
theorem se_isi {e : Expr} {me : ME} {n : String} {x : Str} {p1 p2 pos : Pos} (he : PE X e (tM X.K g ε me)) (hg : Gl X "isinstance") (hm : X.mg "isinstance" = none) (hg2 : Gl X x) (hm2 : X.mg x = none) (hb : bootBuiltins x = some (.type n)) (hn : x ≠ "__name__" := by decide) (hd : (x == ("__debug__" : Str)) = false := by decide)
    (hs1 : starEach [e, .Name x p2] X.env = (false, eval e X.env) :: starEach [.Name x p2] X.env := by rfl) (hs2 : starEach [.Name x p2] X.env = [(false, eval (.Name x p2) X.env)] := by rfl) (hpl : (backTo pos (starEach [.Name x p2] X.env)).any (·.1) = false := by rfl) :
    PE X (.Call (.Name "isinstance" p1) [e, .Name x p2] [] pos) (tM X.K g ε (cUn (dIsI n) me)) :=
  PE.imp (pe_callB call_isinst hg hm PyProof.Rows.boot_isinstance (pa_cons he (pa_cons (pe_bltn (v := .ty n) hg2 hm2 hb rfl hn hd) pa_nil hs2) hs1) (by decide) (by decide) hs1 hpl) fun σ H Q ⟨α, env, h, s, w⟩ => tM.use s w.bind fun d1 h1 v1 H1 α1 e1 s1 r1 w1 => by
    unfold dIsI at w1
    cases et : tyD d1 h1 with
    | none => simp only [et] at w1; exact w1.elim
    | some t =>
      simp only [et] at w1
      cases es : subTy t n with
      | none => simp only [es] at w1; exact w1.elim
      | some b =>
        simp only [es] at w1
        exact ⟨v1, .type t, n, b, rfl, ty_of s1.heap r1 et, kit_of es, Post.now (Post.ext e1 w1) s1.heap (.bl b)⟩
end
end L2.FD
namespace L2.FD
open PySem PySem.Spec PyProof.Rows
section
variable {X : Cx} {K : PySem.W.Frag} {g : GG} {ε : EE}
/-! ### truth -/
def dTru : D → Hh → R Bool := fun d h => match d with
  | .non => .ok false h
  | .bl b => .ok b h
  | .int i => .ok (i != 0) h
  | .tup ds => .ok (!ds.isEmpty) h
  | .ref n => match lstOf h n with
    | some ds => .ok (!ds.isEmpty) h
    | none => .bad
  | _ => .bad
theorem RelDs.isEmpty {α : List Addr} {H : Hp} {ds : List D} {vs : List V} (r : RelDs K g α H ds vs) : ds.isEmpty = vs.isEmpty := by cases r <;> rfl
theorem im_tru : ImpT K g ε dTru (fun x H Q => ∃ k, TruV K x H k ∧ Q k H) := by
  intro α H h a x Q r ra w
  unfold dTru at w
  have now : ∀ {b : Bool}, PostT K g α H Q b h → Q b H := fun p => p H α Ext.refl r
  cases ra with
  | non => exact ⟨false, rfl, now w⟩
  | bl b => exact ⟨b, rfl, now w⟩
  | int i => exact ⟨_, rfl, now w⟩
  | tup hp rs => exact ⟨_, .inr (.inl ⟨_, SqT.of hp, rfl⟩), now (by rw [← rs.isEmpty]; exact w)⟩
  | @ref n p hp =>
    simp only at w
    cases e : lstOf h n with
    | none => rw [e] at w; exact w.elim
    | some ds =>
      rw [e] at w
      obtain ⟨vs, hv, rs⟩ := r.lst e hp
      exact ⟨_, .inl ⟨vs, SqL.of hv, rfl⟩, now (by rw [← rs.isEmpty]; exact w)⟩
  | _ => exact w.elim
/-! ### in -/
theorem flat_V {α : List Addr} {H : Hp} {d : D} {v : V} (r : RelD K g α H d v) (f : flatD d = true) : flatV v = true := by
  cases r <;> first | rfl | cases f
theorem eqF_V {α : List Addr} {H : Hp} {d e : D} {v u : V} (r : RelD K g α H d v) (q : RelD K g α H e u) (f : flatD d = true) (f' : flatD e = true) : eqF d e = eqV v u := by
  cases r <;> first | (cases f; done) | (cases q <;> first | rfl | cases f')
theorem all_V {α : List Addr} {H : Hp} : ∀ {ds : List D} {vs : List V}, RelDs K g α H ds vs → ds.all flatD = true → vs.all flatV = true
  | _, _, .nil, _ => rfl
  | _, _, .cons r t, f => by
    rw [List.all_cons, Bool.and_eq_true] at f ⊢
    exact ⟨flat_V r f.1, all_V t f.2⟩
theorem any_V {α : List Addr} {H : Hp} {e : D} {u : V} (q : RelD K g α H e u) (f' : flatD e = true) : ∀ {ds : List D} {vs : List V}, RelDs K g α H ds vs → ds.all flatD = true → (ds.any fun d => eqF d e) = vs.any fun y => eqV y u
  | _, _, .nil, _ => rfl
  | _, _, .cons r t, f => by
    rw [List.all_cons, Bool.and_eq_true] at f
    rw [List.any_cons, List.any_cons, eqF_V r q f.1 f', any_V q f' t f.2]
def dIn (neg : Bool) : D → D → Hh → R D := fun a b h => match seqOf b h with
  | some ds => if flatD a = true ∧ ds.all flatD = true then .ok (.bl (if neg then !(ds.any fun d => eqF d a) else ds.any fun d => eqF d a)) h else .bad
  | none => .bad
theorem im_in {neg : Bool} : Imp2 K g ε (dIn neg) (rIn K neg) := by
  intro α H h a b x y Q r ra rb w
  unfold dIn at w
  cases e : seqOf b h with
  | none => rw [e] at w; exact w.elim
  | some ds =>
    rw [e] at w
    obtain ⟨p, vs, rfl, hq, rs⟩ := seq_rel r rb e
    obtain ⟨⟨f1, f2⟩, w⟩ := WQ.iteP w
    refine ⟨p, vs, rfl, hq, flat_V ra f1, all_V rs f2, ?_⟩
    have e2 : (ds.any fun d => eqF d a) = inV x vs := any_V ra f1 rs f2
    rw [← e2]
    exact Post.now w r (.bl _)
/-! ### list(range(..)), tuple(range(..)) -/
def rngD : List D → Option (List D)
  | [.int j] => if -1000000 ≤ j ∧ j ≤ 1000000 then some (intsD 0 j.toNat) else none
  | [.int i, .int j] => if (-1000000 ≤ i ∧ i ≤ 1000000 ∧ -1000000 ≤ j ∧ j ≤ 1000000) ∧ j - i ≤ 1000000 then some (intsD i (j - i).toNat) else none
  | _ => none
def dListR : List D → Hh → R D := fun ds h => match rngD ds with
  | some xs => newL xs h
  | none => .bad
def dTupR : List D → Hh → R D := fun ds h => match rngD ds with
  | some xs => .ok (.tup xs) h
  | none => .bad
theorem rngL_D (lo : Int) (n : Nat) {α : List Addr} {H : Hp} : RelDs K g α H (intsD lo n) ((rngL lo 1 n).map V.int) := by
  have e : intsD lo n = (rngL lo 1 n).map D.int := by
    unfold intsD rngL
    rw [List.map_map]
    apply List.map_congr_left
    intro i _
    simp
  rw [e]
  exact RelDs.ints _
theorem rng_rel {α : List Addr} {H : Hp} {ds : List D} {vs : List V} {xs : List D} (r : RelDs K g α H ds vs) (e : rngD ds = some xs) :
    (∃ j, vs = [.int j] ∧ RngOk 0 j 1 j.toNat ∧ xs = intsD 0 j.toNat) ∨ ∃ i j, vs = [.int i, .int j] ∧ RngOk i j 1 (j - i).toNat ∧ xs = intsD i (j - i).toNat := by
  cases r with
  | nil => cases e
  | cons r1 t =>
    cases t with
    | nil =>
      cases r1 with
      | int j =>
        simp only [rngD] at e
        split at e
        · rename_i hj
          cases e
          refine .inl ⟨j, rfl, ?_, rfl⟩
          have := rng_ok (a := 0) (b := j) (by omega) (by omega) (by omega) (by omega) (by omega)
          rw [Int.sub_zero] at this
          exact this
        · cases e
      | _ => cases e
    | cons r2 t =>
      cases t with
      | cons _ _ => cases r1 <;> cases r2 <;> cases e
      | nil =>
        cases r1 with
        | int i =>
          cases r2 with
          | int j =>
            simp only [rngD] at e
            split at e
            · rename_i hj
              cases e
              exact .inr ⟨i, j, rfl, rng_ok (by omega) (by omega) (by omega) (by omega) (by omega), rfl⟩
            · cases e
          | _ => cases e
        | _ => cases e
theorem or_rng : CallR X (.type "range") (fun vs H Q => (∃ j, vs = [.int j] ∧ ∀ p, H p = none → Q (.ref p) (upd H p (RngO p 0 j 1))) ∨ ∃ i j, vs = [.int i, .int j] ∧ ∀ p, H p = none → Q (.ref p) (upd H p (RngO p i j 1))) := CallR.or call_rng1 call_rng2
section
variable {e : Expr} {es : List Expr} {mr : MA} {p1 p2 q1 q2 : Pos}
theorem se_listR (hc : X.calm = true) (hg : Gl X "list") (hm : X.mg "list" = none) (hg2 : Gl X "range") (hm2 : X.mg "range" = none) (ha : PA X (e :: es) (tMA X.K g ε mr))
    (he : starEach (e :: es) X.env = (false, eval e X.env) :: starEach es X.env := by rfl) (hpl : (backTo q2 (starEach es X.env)).any (·.1) = false := by rfl)
    (he1 : starEach [.Call (.Name "range" p2) (e :: es) [] q2] X.env = [(false, eval (.Call (.Name "range" p2) (e :: es) [] q2) X.env)] := by rfl) (hpl1 : (backTo q1 (starEach [] X.env)).any (·.1) = false := by rfl) :
    PE X (.Call (.Name "list" p1) [.Call (.Name "range" p2) (e :: es) [] q2] [] q1) (tM X.K g ε (cCall dListR mr)) :=
  PE.imp (pe_callTy (call_list_rng hc) hg hm PyProof.Rows.boot_list (pa_cons (pe_callTy or_rng hg2 hm2 PyProof.Rows.boot_range ha (by decide) (by decide) he hpl) pa_nil he1) (by decide) (by decide) he1 hpl1) fun σ H Q ⟨α, env, h, s, w⟩ => tMA.use s w.bind fun d1 h1 v1 H1 α1 e1 s1 r1 w1 => by
    unfold dListR at w1
    cases er : rngD d1 with
    | none => rw [er] at w1; exact w1.elim
    | some xs =>
      rw [er] at w1
      rcases rng_rel r1 er with ⟨j, rfl, ok, rfl⟩ | ⟨i, j, rfl, ok, rfl⟩
      · refine .inl ⟨j, rfl, fun p hp => ⟨p, 0, j, 1, j.toNat, rfl, upd_same, ok, fun l hl => ?_⟩⟩
        have x := Ext.fresh (K := X.K) (α := α1) (o := RngO p 0 j 1) hp
        exact Post.lst (Post.ext (e1.trans x) w1) (s1.heap.grow hp) (rngL_D 0 j.toNat) hl
      · refine .inr ⟨i, j, rfl, fun p hp => ⟨p, i, j, 1, (j - i).toNat, rfl, upd_same, ok, fun l hl => ?_⟩⟩
        have x := Ext.fresh (K := X.K) (α := α1) (o := RngO p i j 1) hp
        exact Post.lst (Post.ext (e1.trans x) w1) (s1.heap.grow hp) (rngL_D i (j - i).toNat) hl
theorem se_tupR (hc : X.calm = true) (hg : Gl X "tuple") (hm : X.mg "tuple" = none) (hg2 : Gl X "range") (hm2 : X.mg "range" = none) (ha : PA X (e :: es) (tMA X.K g ε mr))
    (he : starEach (e :: es) X.env = (false, eval e X.env) :: starEach es X.env := by rfl) (hpl : (backTo q2 (starEach es X.env)).any (·.1) = false := by rfl)
    (he1 : starEach [.Call (.Name "range" p2) (e :: es) [] q2] X.env = [(false, eval (.Call (.Name "range" p2) (e :: es) [] q2) X.env)] := by rfl) (hpl1 : (backTo q1 (starEach [] X.env)).any (·.1) = false := by rfl) :
    PE X (.Call (.Name "tuple" p1) [.Call (.Name "range" p2) (e :: es) [] q2] [] q1) (tM X.K g ε (cCall dTupR mr)) :=
  PE.imp (pe_callTy (call_tuple_rng hc) hg hm PyProof.Rows.boot_tuple (pa_cons (pe_callTy or_rng hg2 hm2 PyProof.Rows.boot_range ha (by decide) (by decide) he hpl) pa_nil he1) (by decide) (by decide) he1 hpl1) fun σ H Q ⟨α, env, h, s, w⟩ => tMA.use s w.bind fun d1 h1 v1 H1 α1 e1 s1 r1 w1 => by
    unfold dTupR at w1
    cases er : rngD d1 with
    | none => rw [er] at w1; exact w1.elim
    | some xs =>
      rw [er] at w1
      rcases rng_rel r1 er with ⟨j, rfl, ok, rfl⟩ | ⟨i, j, rfl, ok, rfl⟩
      · refine .inl ⟨j, rfl, fun p hp => ⟨p, 0, j, 1, j.toNat, rfl, upd_same, ok, fun l hl => ?_⟩⟩
        have x := Ext.fresh (K := X.K) (α := α1) (o := RngO p 0 j 1) hp
        exact Post.tup (Post.ext (e1.trans x) w1) (s1.heap.grow hp) (rngL_D 0 j.toNat) hl
      · refine .inr ⟨i, j, rfl, fun p hp => ⟨p, i, j, 1, (j - i).toNat, rfl, upd_same, ok, fun l hl => ?_⟩⟩
        have x := Ext.fresh (K := X.K) (α := α1) (o := RngO p i j 1) hp
        exact Post.tup (Post.ext (e1.trans x) w1) (s1.heap.grow hp) (rngL_D i (j - i).toNat) hl
end
/-! ### methods of lists -/
def isL (d : D) (h : Hh) : Bool := match d with
  | .ref n => (lstOf h n).isSome
  | _ => false
def cMethL (f : D → List D → Hh → R D) (o : ME) (a : MA) : ME := fun env h => (o env h).bind fun x h1 => if isL x h1 = true then (a env h1).bind fun xs h2 => f x xs h2 else .bad
theorem isL_rel {α : List Addr} {H : Hp} {h : Hh} {d : D} {x : V} (r : HRel K g α H h) (rd : RelD K g α H d x) (e : isL d h = true) : tyV K "list" x H := by
  unfold isL at e
  cases rd with
  | @ref n p hp =>
    simp only at e
    obtain ⟨ds, e⟩ := Option.isSome_iff_exists.mp e
    obtain ⟨vs, hv, _⟩ := r.lst e hp
    exact .inl ⟨rfl, vs, SqL.of hv⟩
  | _ => cases e
theorem se_bmL {o e : Expr} {es : List Expr} {mo : ME} {mr : MA} {name : Str} {apos cpos : Pos} {id : String} {r : V → List V → Hp → VK → Prop} {f : D → List D → Hh → R D} (slot : Slot "list" name id) (hty : typeOf (.builtin id) = pure (.type "method_descriptor")) (hm : MtM X id r) (im : ImpM X.K g ε f r) (ho : PE X o (tM X.K g ε mo)) (ha : PA X (e :: es) (tMA X.K g ε mr))
    (hbase : attributeBase o name X.env (eval o X.env) = eval o X.env := by rfl)
    (hfew : ((backTo cpos (starEach (e :: es) X.env)).all (fun x => !x.1) && (backToKw cpos (keywordEach [] X.env)).all (fun x => x.1.isSome)
      && decide ((e :: es).length + ([] : List Keyword).length + (if ([] : List Keyword).isEmpty then 0 else 1) < 30)) = true := by rfl)
    (hline : (apos.endLine == cpos.line) = true := by rfl) (hs : starEach (e :: es) X.env = (false, eval e X.env) :: starEach es X.env := by rfl) (hplain : (backTo cpos (starEach es X.env)).any (·.1) = false := by rfl) :
    PE X (.Call (.Attribute o name apos) (e :: es) [] cpos) (tM X.K g ε (cMethL f mo mr)) :=
  PE.imp (pe_bm PySem.F.plainAttrs_list slot hty hm ho ha hbase hfew hline hs hplain) fun σ H Q ⟨α, env, h, s, w⟩ => tM.use s w.bind fun d1 h1 v1 H1 α1 e1 s1 r1 w1 => by
    obtain ⟨hl, w1⟩ := WQ.iteP w1
    refine ⟨isL_rel s1.heap r1 hl, tMA.use s1 (w1.ext e1).bind fun d2 h2 v2 H2 α2 e2 s2 r2 w2 => ?_⟩
    exact im α2 H2 h2 d1 d2 v1 v2 Q s2.heap (r1.ext e2) r2 ((w2.ext e2).mono fun _ _ _ p => Post.ext (e1.trans e2) p)
def dAppend : D → List D → Hh → R D := fun o ds h => match o, ds with
  | .ref n, [d] => match lstOf h n with
    | some xs => if xs.length < 1000000 then .ok .non (h.set n (.lst (xs ++ [d]))) else .bad
    | none => .bad
  | _, _ => .bad
theorem im_append : ImpM K g ε dAppend rAppend := by
  intro α H h o a y x Q r ro ra w
  unfold dAppend at w
  cases ro with
  | @ref n p hp =>
    cases ra with
    | nil => exact w.elim
    | @cons d v _ _ rd rr =>
      cases rr with
      | cons _ _ => exact w.elim
      | nil =>
        simp only at w
        cases e : lstOf h n with
        | none => rw [e] at w; exact w.elim
        | some xs =>
          rw [e] at w
          obtain ⟨hl, w⟩ := WQ.iteP w
          obtain ⟨vs, hv, rs⟩ := r.lst e hp
          refine ⟨p, vs, _, rfl, rfl, hv, by rw [← rs.length, sizeLine_eq]; omega, ?_⟩
          have x := Ext.write (o := .lst (vs ++ [v])) r hp
          exact (show Post K g α H Q _ _ from w) _ _ α x (r.write hp ⟨_, upd_same, (rs.append (.cons rd .nil)).ext x⟩) .non
  | _ => exact w.elim
def dPop : D → List D → Hh → R D := fun o ds h => match o, ds with
  | .ref n, [.int i] => match lstOf h n with
    | some xs => match ixN xs.length i with
      | some k => match xs[k]? with
        | some d => if xs.length ≤ 1000000 then .ok d (h.set n (.lst (xs.eraseIdx k))) else .bad
        | none => .bad
      | none => .bad
    | none => .bad
  | _, _ => .bad
theorem im_pop : ImpM K g ε dPop rPopAt := by
  intro α H h o a y x Q r ro ra w
  unfold dPop at w
  cases ro with
  | @ref n p hp =>
    cases ra with
    | nil => exact w.elim
    | cons rd rr =>
      cases rr with
      | cons _ _ => cases rd <;> exact w.elim
      | nil =>
        cases rd with
        | int i =>
          simp only at w
          cases e : lstOf h n with
          | none => rw [e] at w; exact w.elim
          | some xs =>
            rw [e] at w
            simp only at w
            cases e2 : ixN xs.length i with
            | none => rw [e2] at w; exact w.elim
            | some k =>
              rw [e2] at w
              simp only at w
              cases e3 : xs[k]? with
              | none => rw [e3] at w; exact w.elim
              | some d =>
                rw [e3] at w
                obtain ⟨hl, w⟩ := WQ.iteP w
                obtain ⟨vs, hv, rs⟩ := r.lst e hp
                obtain ⟨v, ev, rv⟩ := rs.get e3
                obtain ⟨h1, h2, h3, h4⟩ := ixN_seq e2
                refine ⟨p, vs, i, k, v, rfl, rfl, hv, ?_, ?_, by rw [← rs.length]; exact h1, ev, ?_⟩
                · omega
                · omega
                · have x := Ext.write (o := .lst (vs.eraseIdx k)) r hp
                  exact (show Post K g α H Q _ _ from w) _ _ α x (r.write hp ⟨_, upd_same, (rs.erase k).ext x⟩) (rv.ext x)
        | _ => exact w.elim
  | _ => exact w.elim
def dExtend : D → List D → Hh → R D := fun o ds h => match o, ds with
  | .ref n, [.ref m] => match lstOf h n, lstOf h m with
    | some xs, some ys => if xs.length + ys.length ≤ 1000000 then .ok .non (h.set n (.lst (xs ++ ys))) else .bad
    | _, _ => .bad
  | _, _ => .bad
theorem im_extend : ImpM K g ε dExtend rExtend := by
  intro α H h o a y x Q r ro ra w
  unfold dExtend at w
  cases ro with
  | @ref n p hp =>
    cases ra with
    | nil => exact w.elim
    | cons rd rr =>
      cases rr with
      | cons _ _ => cases rd <;> exact w.elim
      | nil =>
        cases rd with
        | @ref m q hq =>
          simp only at w
          cases e : lstOf h n with
          | none => rw [e] at w; exact w.elim
          | some xs =>
            cases e2 : lstOf h m with
            | none => rw [e, e2] at w; exact w.elim
            | some ys =>
              rw [e, e2] at w
              obtain ⟨hl, w⟩ := WQ.iteP w
              obtain ⟨vs, hv, rs⟩ := r.lst e hp
              obtain ⟨us, hu, rt⟩ := r.lst e2 hq
              refine ⟨p, q, vs, us, rfl, rfl, hv, hu, line_of (by rw [← rs.length, ← rt.length]; exact hl), ?_⟩
              have x := Ext.write (o := .lst (vs ++ us)) r hp
              exact (show Post K g α H Q _ _ from w) _ _ α x (r.write hp ⟨_, upd_same, (rs.append rt).ext x⟩) .non
        | _ => exact w.elim
  | _ => exact w.elim
/-! ### sum of a list of ints -/
theorem preSum_list (ns : List Int) : ∀ k, k ≤ ns.length → preSum (fun i => ns.getD i 0) k = (ns.take k).sum
  | 0, _ => by simp [preSum]
  | k + 1, h => by
    rw [preSum, preSum_list ns k (by omega), List.take_succ, List.sum_append]
    rw [List.getD_eq_getElem?_getD, List.getElem?_eq_getElem (by omega)]
    simp
theorem call_sumL (hc : X.calm = true) : CallR X (.builtin "sum") (fun vs H Q => ∃ (p : Addr) (ns : List Int), vs = [.ref p] ∧ (SqL X.K H p (ns.map V.int) ∨ SqT X.K H p (ns.map V.int)) ∧ Q (.int ns.sum) H) := by
  intro pins s σ H xs us Q I r h
  obtain ⟨p, ns, rfl, hq, q⟩ := h
  obtain ⟨u, rfl, rx⟩ := vals1 r
  cases rx
  have hh : X.A.in1.handled = none := I.ok.hd hc
  have fin : ∀ {its : List Value} {o : Obj}, Vals (ns.map V.int) its → ∀ s', Moved [s.heap.objs.size] (fun a b => b = a) { s with heap := s.heap.push o } s' → ∀ t', EP X pins σ Q (.int (preSum (fun i => ns.getD i 0) its.toArray.size) t') s' := fun {its o} rv s' mv t' => by
    have hl : its.toArray.size = ns.length := by rw [List.size_toArray, ← rv.length, List.length_map]
    have keep : ∀ b u, s.heap.get? b = some u → s'.heap.get? b = some u := fun b u e => mv.heap b u (by simp; exact Nat.ne_of_lt (Heap.lt_size e)) (Heap.get?_push_of_some _ e)
    have I' : Inv X pins σ H s' := by
      obtain ⟨hp, gs, dr, tk, os⟩ := s'
      have e1 : gs = s.gens := mv.gens
      have e2 : dr = s.drawn := mv.drawn
      have e3 : os = s.os := mv.os
      subst e1 e2 e3
      exact I.kept (h' := hp) (t' := tk) keep
    refine ⟨.int ns.sum, H, I', ⟨t', ?_⟩, q⟩
    rw [hl, preSum_list ns _ (Nat.le_refl _), List.take_length]
  have val : ∀ {its : List Value}, Vals (ns.map V.int) its → ∀ i v, its.toArray[i]? = some v → ∃ t : Tok, v = Value.int (ns.getD i 0) t := fun {its} rv i v e => by
    obtain ⟨x, hx, rxv⟩ := rv.get' (show its[i]? = some v by simpa using e)
    rw [List.getElem?_map] at hx
    cases en : ns[i]? with
    | none => rw [en] at hx; cases hx
    | some z =>
      rw [en] at hx
      cases hx
      obtain ⟨t, e⟩ := rxv
      exact ⟨t, by rw [List.getD_eq_getElem?_getD, en]; exact e⟩
  rcases hq with hq | hq
  · obtain ⟨its, rv, pl, hz⟩ := I.list hq
    have plt : p < s.heap.objs.size := by obtain ⟨o, e, _⟩ := pl.isList; exact Heap.lt_size e
    have hne : p ≠ s.heap.objs.size := Nat.ne_of_lt plt
    refine call_sum_walkAnyS (wpAny_pyIter_list pl.isList ?_)
    refine ⟨s.heap.objs.size, _, _, _, its.toArray.size, _, _, fun i => ns.getD i 0, rfl, (Walks.list (prog := X.prog) (w := X.w) hh s.heap.objs.size p hne its.toArray).toS, ⟨⟨_, Heap.get?_push_size _ rfl, rfl, rfl⟩, ?_⟩, fun b hb => ?_, val rv, fun s' t' mv => fin rv s' mv t'⟩
    · exact pl.isList.at fun o e => Heap.get?_push_of_some _ e
    · simp at hb
      rcases hb with rfl | rfl
      · exact Heap.lt_size (Heap.get?_push_size _ rfl)
      · exact Nat.lt_trans plt (Heap.lt_size (Heap.get?_push_size _ rfl))
  · obtain ⟨its, rv, pl, hz⟩ := I.tuple hq
    have pt : s.heap.IsTuple p its.toArray := pl
    have hne : p ≠ s.heap.objs.size := Nat.ne_of_lt pl.lt
    refine call_sum_walkAnyS (wpAny_pyIter_tuple pt ?_)
    refine ⟨s.heap.objs.size, _, _, _, its.toArray.size, _, _, fun i => ns.getD i 0, rfl, (Walks.tuple (prog := X.prog) (w := X.w) hh s.heap.objs.size p hne its.toArray).toS, ⟨⟨_, Heap.get?_push_size _ rfl, rfl, rfl⟩, ?_⟩, fun b hb => ?_, val rv, fun s' t' mv => fin rv s' mv t'⟩
    · exact pt.at fun o e => Heap.get?_push_of_some _ e
    · simp at hb
      rcases hb with rfl | rfl
      · exact Heap.lt_size (Heap.get?_push_size _ rfl)
      · exact Nat.lt_trans pl.lt (Heap.lt_size (Heap.get?_push_size _ rfl))
def dSum : List D → Hh → R D := fun ds h => match ds with
  | [d] => match seqOf d h with
    | some xs => match intsOf xs with
      | some ns => .ok (.int ns.sum) h
      | none => .bad
    | none => .bad
  | _ => .bad
theorem im_sum : ImpL K g ε dSum (fun vs H Q => ∃ (p : Addr) (ns : List Int), vs = [.ref p] ∧ (SqL K H p (ns.map V.int) ∨ SqT K H p (ns.map V.int)) ∧ Q (.int ns.sum) H) := by
  intro α H h a x Q r ra w
  obtain ⟨d, v, rfl, rfl, rd⟩ := one_of (f := dSum) (fun _ _ _ _ => rfl) (fun _ => rfl) ra w
  unfold dSum at w
  simp only at w
  cases e : seqOf d h with
  | none => rw [e] at w; exact w.elim
  | some ds =>
    rw [e] at w
    simp only at w
    cases e2 : intsOf ds with
    | none => rw [e2] at w; exact w.elim
    | some ns =>
      rw [e2] at w
      obtain ⟨p, vs, rfl, hq, rs⟩ := seq_rel r rd e
      have e3 := intsOf_some e2
      subst e3
      have e4 := rs.intsV
      subst e4
      exact ⟨p, ns, rfl, hq, Post.now w r (.int _)⟩
/-! ### a op= b, ints -/
theorem ip_mulS : PIp X .Mult (fun x y H Q => ∃ i j, x = .int i ∧ y = .int j ∧ (sml i = true ∧ sml j = true) ∧ Q (.int (i * j)) H) := by
  intro pins s σ H x y v u Q I r1 r2 h
  obtain ⟨i, j, e1, e2, hc, q⟩ := h
  subst e1; subst e2
  obtain ⟨t, rfl⟩ := r1
  obtain ⟨t', rfl⟩ := r2
  exact imul_int ⟨.int _, H, I.tok _, ⟨_, rfl⟩, q⟩ (IntMulOk.of_bits (Nat.le_trans (sml_bits hc.1) (by decide)) (Nat.le_trans (sml_bits hc.2) (by decide)))
def dAddI : D → D → Hh → R D
  | .int i, .int j, h => .ok (.int (i + j)) h
  | _, _, _ => .bad
def dMulI : D → D → Hh → R D
  | .int i, .int j, h => if sml i = true ∧ sml j = true then .ok (.int (i * j)) h else .bad
  | _, _, _ => .bad
theorem ii_add : Imp2 K g ε dAddI (ipI fun i j => i + j) := by
  intro α H h a b x y Q r ra rb w
  unfold dAddI at w
  cases ra with
  | int i =>
    cases rb with
    | int j => exact ⟨i, j, rfl, rfl, Post.now w r (.int _)⟩
    | _ => exact w.elim
  | _ => exact w.elim
theorem ii_sub : Imp2 K g ε dSub (ipI fun i j => i - j) := by
  intro α H h a b x y Q r ra rb w
  unfold dSub at w
  cases ra with
  | int i =>
    cases rb with
    | int j => exact ⟨i, j, rfl, rfl, Post.now w r (.int _)⟩
    | _ => exact w.elim
  | _ => exact w.elim
theorem ii_mul : Imp2 K g ε dMulI (fun x y H Q => ∃ i j, x = .int i ∧ y = .int j ∧ (sml i = true ∧ sml j = true) ∧ Q (.int (i * j)) H) := by
  intro α H h a b x y Q r ra rb w
  unfold dMulI at w
  cases ra with
  | int i =>
    cases rb with
    | int j =>
      obtain ⟨hc, w⟩ := WQ.iteP w
      exact ⟨i, j, rfl, rfl, hc, Post.now w r (.int _)⟩
    | _ => exact w.elim
  | _ => exact w.elim
end
end L2.FD
namespace L2.FD
open PySem PySem.Spec PyProof.Rows
section
variable {P : Program} {w : World} {K : PySem.W.Frag} {mg : Str → Option Value} {base : Heap} {g : GG}
/-- a def of the text, where it stands -/
def DefAt (K : PySem.W.Frag) (mg : Str → Option Value) (x : Str) (st : Stmt) : Prop := ∃ f fd, mg x = some (.ref f) ∧ Fun K x x st f fd
def DefIs (K : PySem.W.Frag) (x : Str) (st : Stmt) : Prop := ∃ f fd, PySem.W.nsIn K mainGlobals x = some (some (.ref f)) ∧ Fun K x x st f fd
theorem def_mk {x : Str} {st : Stmt} {f : Addr} {oc : Value} {od an : Option Addr} {osl : Array (Option Value)} {kV doc pm cdv ct : Value} (a : PySem.W.nsIn K mainGlobals x = some (some (.ref f)))
    (l : K.lookup f = some ⟨oc, od, .func (PySem.W.fnOf x x (defArgs st) (defBody st) (defScope st) .none kV doc pm an cdv ct), osl⟩) (c : PySem.W.codeIn K cdv x = true) (k : PySem.W.keepIn K (.ref f) = true) : DefIs K x st := ⟨f, _, a, fun_mk l c k⟩
theorem DefAt.of {h : Heap} {x : Str} {st : Stmt} (X : K.In h) (G : h.Ns mainGlobals mg) (d : DefIs K x st) : DefAt K mg x st :=
  let ⟨f, fd, a, F⟩ := d; ⟨f, fd, PySem.W.mg_of X G a, F⟩
/-- a def that keeps its function -/
def Has (P : Program) (w : World) (K : PySem.W.Frag) (mg : Str → Option Value) (base : Heap) (g : GG) (x : Str) (k : Nat) (ps : List Str) (m : MF) : Prop :=
  ∃ f fd, FnOk P w K mg base CX0 k f fd ps (spM K g ps.length m) ∧ PySem.W.keepIn K (.ref f) = true ∧ Binds K fd ps [] ∧ mg x = some (.ref f) ∧ ∃ (oc : Value) (od : Option Addr) (osl : Array (Option Value)), K.lookup f = some ⟨oc, od, .func fd, osl⟩
def gOf (mg : Str → Option Value) : GG := fun x => match mg x with
  | some (.ref f) => some f
  | _ => none
theorem look_of {x : Str} {st : Stmt} {f : Addr} {fd : FuncData} (F : Fun K x x st f fd) : ∃ (oc : Value) (od : Option Addr) (osl : Array (Option Value)), K.lookup f = some ⟨oc, od, .func fd, osl⟩ := by
  obtain ⟨oc, od, kV, doc, pm, an, cdv, ct, osl, rfl, lk, hcd⟩ := F.ex
  exact ⟨oc, od, osl, lk⟩
theorem has_fn {x : Str} {st : Stmt} {f : Addr} {fd : FuncData} {k : Nat} {ps : List Str} {m : MF} (F : Fun K x x st f fd) (hm : mg x = some (.ref f)) (h : Has P w K mg base g x k ps m) : FnOk P w K mg base CX0 k f fd ps (spM K g ps.length m) := by
  obtain ⟨f2, fd2, G, _, _, hm2, oc, od, osl, l2⟩ := h
  obtain ⟨oc', od', osl', l1⟩ := look_of F
  rw [hm] at hm2
  cases hm2
  rw [l1] at l2
  cases l2
  exact G
end
section
variable {X : Cx} {g : GG} {ε : EE}
/-- name = [..] -/
theorem s_compSet {elt iter : Expr} {x y : Str} {px py : Pos} {ifs : List Expr} {scope osc : Scope} {pos spos : Pos} {mi : MI} {tt : MT} {te : ME} {i : Nat} (ix : List Nat) (N' : List Str)
    (hxe : X.xe = fun _ _ => False) (hc : X.calm = true) (ho : X.env.scope = osc) (hN : N' = x :: ix.map fun i => (X.N[i]?).getD x) (hnd : N'.Nodup)
    (hall : (∀ y ∈ scope.names, y.2 = .free → osc.names.lookup y.1 = some .cell) ∧ (∀ y ∈ scope.names, y.2 ≠ .cell) ∧ scope.kind = .function ∧ (∀ y ∈ scope.names, y.2 = .local → scope.names.lookup y.1 = some .local) ∧ scope.names.lookup x = some .local ∧ (∀ y ∈ N'.tail, scope.names.lookup y = some .free))
    (hi : PI X (.Name x px) iter (tMI X.K g E00 mi))
    (ht : ∀ cl C s₀ H₀ fp, PTs (cxComp X scope cl C s₀ H₀ fp N') ifs (tMT X.K g E00 tt))
    (he : ∀ cl C s₀ H₀ fp, PE (cxComp X scope cl C s₀ H₀ fp N') elt (tM X.K g E00 te))
    (hNN : X.N.Nodup) (hy : X.N[i]? = some y) (hl : X.env.scope.names.lookup y = some .local := by rfl)
    (hsw : swapsWith (.ListComp elt [⟨.Name x px, iter, ifs, 0⟩] scope pos) (some (.Name y py)) spos.line X.env = pure true := by rfl)
    (hs : ∀ x, foldedSetIterable iter X.env x = pure x := by intro _; rfl) :
    PS X (.Assign [.Name y py] (.ListComp elt [⟨.Name x px, iter, ifs, 0⟩] scope pos) spos) (tMS X.K g E00 (cSet i (cComp mi ix tt te))) :=
  PS.imp (ps_compSet ix N' hxe hc ho hN hnd hall hi ht he hNN hy hl hsw hs) fun E σ H ⟨α, env, h, s, w⟩ => tComp_of (tM.use s w.bind fun d1 h1 v1 H1 α1 e1 s1 r1 w1 => (show PostS X.K g α H E (.nx (env.set i (some d1))) h1 from w1) H1 α1 e1 s1.heap _ (s1.vs.set r1))
def cUn2 (i j : Nat) (m : ME) : MS := fun env h => (m env h).bind fun d h1 => (gT2 i j d env h1).bind fun e h2 => .ok (.nx e) h2
/-- a, b = e, unpacked -/
theorem s_un2 {i j : Nat} {x y : Str} {e : Expr} {me : ME} {px py pt pos : Pos} {kt} (hc : X.calm = true) (hN : X.N.Nodup) (hi : X.N[i]? = some x) (hj : X.N[j]? = some y) (he : PE X e (tM X.K g ε me))
    (hx : Loc X.env.scope x := by first | exact Or.inl rfl | exact Or.inr rfl) (hy : Loc X.env.scope y := by first | exact Or.inl rfl | exact Or.inr rfl)
    (fx : X.fn x = true ∨ X.env.scope.names.lookup x = some .local := by first | exact .inl rfl | exact .inr rfl) (fy : X.fn y = true ∨ X.env.scope.names.lookup y = some .local := by first | exact .inl rfl | exact .inr rfl)
    (hs : swapsWithSole [.Tuple [.Name x px, .Name y py] kt pt] e pos.line X.env = pure false := by rfl) (hw : swappedStores [.Tuple [.Name x px, .Name y py] kt pt] e X.env = pure none := by rfl) :
    PS X (.Assign [.Tuple [.Name x px, .Name y py] kt pt] e pos) (tMS X.K g ε (cUn2 i j me)) :=
  PS.imp (ps_asg he (pg_tup hc (pgs_cons (pg_name hN hi hx fx) (pgs_cons (pg_name hN hj hy fy) pgs_nil))) hs hw rfl) fun E σ H ⟨α, env, h, s, w⟩ => tM.use s w.bind fun d1 h1 v1 H1 α1 e1 s1 r1 w1 => by
    refine ig_two (ε := ε) α1 H1 h1 env σ d1 v1 _ s1 r1 ((w1.ext e1).bind.mono fun e' h2 _ w2 σ2 H2 α2 e2 s2 => ?_)
    exact (show PostS X.K g α H E (.nx e') h2 from w2) H2 α2 (e1.trans e2) s2.heap σ2 s2.vs
theorem s_parA {i j : Nat} {x y : Str} {a b : Expr} {ma : MA} {px py pt pos : Pos} {kt k2 pt2} (hc : X.calm = true) (hN : X.N.Nodup) (hi : X.N[i]? = some x) (hj : X.N[j]? = some y) (hij : i ≠ j) (ha : PA X [a, b] (tMA X.K g ε ma))
    (hx : X.env.scope.names.lookup x = some .local := by rfl) (hy : X.env.scope.names.lookup y = some .local := by rfl)
    (hw : swappedStores [.Tuple [.Name x px, .Name y py] kt pt] (.Tuple [a, b] k2 pt2) X.env = pure (some [x, y]) := by rfl)
    (hs : swapsWithSole [.Tuple [.Name x px, .Name y py] kt pt] (.Tuple [a, b] k2 pt2) pos.line X.env = pure false := by rfl) :
    PS X (.Assign [.Tuple [.Name x px, .Name y py] kt pt] (.Tuple [a, b] k2 pt2) pos) (tMS X.K g ε (cPar i j ma)) := s_par hc hN hi hj hij hx hy ha hw hs
end
theorem walk_m {k : Nat} {m : MF} {l : PySem.W.OpenLaw} {q : Program} {loose : List Str} {XP : (Str → Option Value) → Heap → Prop} {YP : World → Heap → Prop} {d : DefRec} {K : Params → PySem.W.Frag} (hn : l.most = some 63) (hdf : d.params.defaults = []) (hr : Room k callerA)
    (hY : ∀ (w : World) (h : Heap), YP w h → (K w.params).In h)
    (ok : ∀ ns : List Int, ns.length ≤ 63 → ∃ h, m [.frl (ns.map D.int)] [] = .ok (.bl true) h)
    (F : ∀ (w : World) (mg : Str → Option Value) (fa : Addr) (h : Heap), (K w.params).In h → h.Ns mainGlobals mg → mg d.name = some (.ref fa) →
      ∃ fd : FuncData, (∀ (s : Shared) (u : Value), BindsTo s fd ⟨[u], []⟩ [("_law_script", u)]) ∧ ∀ base : Heap, (K w.params).In base → base.Ns mainGlobals mg → FnOk l.prog w (K w.params) mg base CX0 k fa fd ["_law_script"] (spM (K w.params) (gOf mg) 1 m)) :
    PySem.W.WalkO q loose XP YP l.row.toRowW d [] (fun f vs => PySem.call f vs) := by
  refine L2.walk_of (n := 63) (k := k) (x := "_law_script") (CX := fun _ => CX0) (sp := fun w => fun vs H Q _ => ∃ a ns, vs = [V.ref a] ∧ ns.length ≤ 63 ∧ Only H ∧ SqL (K w.params) H a (ns.map V.int) ∧ ∀ v H', v = V.bl true → Q v H') hn (by decide) hdf hr hY (fun w mg fa h KX G hmg => ?_) (fun w H a ns hl hO hS => ⟨a, ns, rfl, hl, hO, hS, fun _ _ z => z⟩) fun _ _ _ _ _ z => z
  obtain ⟨fd, hb, hF⟩ := F w mg fa h KX G hmg
  refine ⟨fd, hb, fun base kb nb => (hF base kb nb).imp fun vs H Q E z => ?_⟩
  obtain ⟨a, ns, rfl, hl, hO, hS, hQ⟩ := z
  obtain ⟨hh, e⟩ := ok ns hl
  refine ⟨rfl, [], [.frl (ns.map D.int)], [], .cons (.frl ?_ (RelDs.ints ns)) .nil, ⟨rfl, fun n m p z => by simp at z, fun n p o z => by simp at z⟩, ?_⟩
  · rcases hS with (hS | ⟨o, hS⟩) | hS
    · rcases hO a with z | ⟨o, xs, z⟩
      · rw [hS] at z; cases z
      · rw [hS] at z; cases z
    · exact .inl ⟨o, hS⟩
    · exact .inr hS
  · rw [e]
    intro v H' α' _ _ rd
    cases rd
    exact hQ _ _ rfl
end L2.FD
namespace L2.FD
open PySem PySem.Spec PyProof.Rows
section
variable {X : Cx} {K : PySem.W.Frag} {g : GG} {ε : EE}
/-! ### is -/
def dIsT (neg : Bool) : D → D → Hh → R D := fun a b h => match a, b with
  | .bl x, .bl true => .ok (.bl (if neg then !x else x)) h
  | _, _ => .bad
def rIsT (neg : Bool) : R2 := fun x y H Q => ∃ b, x = .bl b ∧ y = .bl true ∧ Q (.bl (if neg then !b else b)) H
theorem op_isT : OpR X (compareOp .Is) (rIsT false) := by
  intro pins s σ H x y v u Q I rx ry ⟨b, e1, e2, q⟩
  subst e1 e2
  cases rx; cases ry
  exact is_bool ⟨.bl (b == true), H, I, rfl, by cases b <;> exact q⟩
theorem op_isTn : OpR X (compareOp .IsNot) (rIsT true) := by
  intro pins s σ H x y v u Q I rx ry ⟨b, e1, e2, q⟩
  subst e1 e2
  cases rx; cases ry
  exact isnot_bool ⟨.bl (b != true), H, I, rfl, by cases b <;> exact q⟩
theorem im_isG {neg : Bool} : Imp2 K g ε (dIsT neg) (rIsT neg) := by
  intro α H h a b x y Q r ra rb w
  unfold dIsT at w
  cases ra with
  | bl b1 =>
    cases rb with
    | bl b2 =>
      cases b2 with
      | true => exact ⟨b1, rfl, rfl, Post.now w r (.bl _)⟩
      | false => exact w.elim
    | _ => exact w.elim
  | _ => exact w.elim
theorem im_isT : Imp2 K g ε (dIsT false) (rIsT false) := im_isG
theorem im_isTn : Imp2 K g ε (dIsT true) (rIsT true) := im_isG
def isNon : D → Bool
  | .non => true
  | _ => false
def dIsN (neg : Bool) : D → D → Hh → R D := fun a b h => match b with
  | .non => .ok (.bl (if neg then !isNon a else isNon a)) h
  | _ => .bad
theorem isNon_of {α : List Addr} {H : Hp} {d : D} {v : V} (r : RelD K g α H d v) : decide (v = .non) = isNon d := by cases r <;> first | rfl | (simp [isNon])
theorem op_isNn : OpR X (compareOp .IsNot) (fun x y H Q => y = .non ∧ Q (.bl (!decide (x = .non))) H) := op_notN
theorem im_isN : Imp2 K g ε (dIsN false) (fun x y H Q => y = .non ∧ Q (.bl (decide (x = .non))) H) := by
  intro α H h a b x y Q r ra rb w
  unfold dIsN at w
  cases rb with
  | non => exact ⟨rfl, by rw [isNon_of ra]; exact Post.now w r (.bl _)⟩
  | _ => exact w.elim
theorem im_isNn : Imp2 K g ε (dIsN true) (fun x y H Q => y = .non ∧ Q (.bl (!decide (x = .non))) H) := by
  intro α H h a b x y Q r ra rb w
  unfold dIsN at w
  cases rb with
  | non => exact ⟨rfl, by rw [isNon_of ra]; exact Post.now w r (.bl _)⟩
  | _ => exact w.elim
/-! ### ranges with a step, made into lists and tuples -/
def intsS (lo st : Int) (n : Nat) : List D := (rngL lo st n).map D.int
def rng3 : List D → Option (List D)
  | [.int a, .int b, .int c] => if Builtin.Range.small a b c = true ∧ 0 ≤ Builtin.Range.rangeSize a b c ∧ Builtin.Range.rangeSize a b c ≤ 1000000 ∧ c ≠ 0 ∧ c.natAbs < 1073741824 then some (intsS a c (Builtin.Range.rangeSize a b c).toNat) else none
  | _ => none
def dListR3 : List D → Hh → R D := fun ds h => match rng3 ds with
  | some xs => newL xs h
  | none => .bad
def dTupR3 : List D → Hh → R D := fun ds h => match rng3 ds with
  | some xs => .ok (.tup xs) h
  | none => .bad
theorem rng3_rel {α : List Addr} {H : Hp} {ds : List D} {vs : List V} {xs : List D} (r : RelDs K g α H ds vs) (e : rng3 ds = some xs) :
    ∃ a b c n, vs = [.int a, .int b, .int c] ∧ c ≠ 0 ∧ c.natAbs < 1073741824 ∧ RngOk a b c n ∧ xs = intsS a c n := by
  unfold rng3 at e
  split at e
  · rename_i a b c
    split at e
    · rename_i hc
      cases e
      cases r with
      | cons r1 t =>
        cases t with
        | cons r2 t =>
          cases t with
          | cons r3 t =>
            cases t; cases r1; cases r2; cases r3
            exact ⟨a, b, c, _, rfl, hc.2.2.2.1, hc.2.2.2.2, ⟨hc.1, by omega, by omega⟩, rfl⟩
    · cases e
  · cases e
section
variable {e : Expr} {es : List Expr} {mr : MA} {p1 p2 q1 q2 : Pos}
theorem se_listR3 (hc : X.calm = true) (hg : Gl X "list") (hm : X.mg "list" = none) (hg2 : Gl X "range") (hm2 : X.mg "range" = none) (ha : PA X (e :: es) (tMA X.K g ε mr))
    (he : starEach (e :: es) X.env = (false, eval e X.env) :: starEach es X.env := by rfl) (hpl : (backTo q2 (starEach es X.env)).any (·.1) = false := by rfl)
    (he1 : starEach [.Call (.Name "range" p2) (e :: es) [] q2] X.env = [(false, eval (.Call (.Name "range" p2) (e :: es) [] q2) X.env)] := by rfl) (hpl1 : (backTo q1 (starEach [] X.env)).any (·.1) = false := by rfl) :
    PE X (.Call (.Name "list" p1) [.Call (.Name "range" p2) (e :: es) [] q2] [] q1) (tM X.K g ε (cCall dListR3 mr)) :=
  PE.imp (pe_callTy (call_list_rng hc) hg hm PyProof.Rows.boot_list (pa_cons (pe_callTy call_rng3 hg2 hm2 PyProof.Rows.boot_range ha (by decide) (by decide) he hpl) pa_nil he1) (by decide) (by decide) he1 hpl1) fun σ H Q ⟨α, env, h, s, w⟩ => tMA.use s w.bind fun d1 h1 v1 H1 α1 e1 s1 r1 w1 => by
    unfold dListR3 at w1
    cases er : rng3 d1 with
    | none => rw [er] at w1; exact w1.elim
    | some xs =>
      rw [er] at w1
      obtain ⟨a, b, c, n, rfl, c0, c1, ok, rfl⟩ := rng3_rel r1 er
      refine ⟨a, b, c, rfl, c0, c1, fun p hp => ⟨p, a, b, c, n, rfl, upd_same, ok, fun l hl => ?_⟩⟩
      have x := Ext.fresh (K := X.K) (α := α1) (o := RngO p a b c) hp
      exact Post.lst (Post.ext (e1.trans x) w1) (s1.heap.grow hp) (RelDs.ints _) hl
theorem se_tupR3 (hc : X.calm = true) (hg : Gl X "tuple") (hm : X.mg "tuple" = none) (hg2 : Gl X "range") (hm2 : X.mg "range" = none) (ha : PA X (e :: es) (tMA X.K g ε mr))
    (he : starEach (e :: es) X.env = (false, eval e X.env) :: starEach es X.env := by rfl) (hpl : (backTo q2 (starEach es X.env)).any (·.1) = false := by rfl)
    (he1 : starEach [.Call (.Name "range" p2) (e :: es) [] q2] X.env = [(false, eval (.Call (.Name "range" p2) (e :: es) [] q2) X.env)] := by rfl) (hpl1 : (backTo q1 (starEach [] X.env)).any (·.1) = false := by rfl) :
    PE X (.Call (.Name "tuple" p1) [.Call (.Name "range" p2) (e :: es) [] q2] [] q1) (tM X.K g ε (cCall dTupR3 mr)) :=
  PE.imp (pe_callTy (call_tuple_rng hc) hg hm PyProof.Rows.boot_tuple (pa_cons (pe_callTy call_rng3 hg2 hm2 PyProof.Rows.boot_range ha (by decide) (by decide) he hpl) pa_nil he1) (by decide) (by decide) he1 hpl1) fun σ H Q ⟨α, env, h, s, w⟩ => tMA.use s w.bind fun d1 h1 v1 H1 α1 e1 s1 r1 w1 => by
    unfold dTupR3 at w1
    cases er : rng3 d1 with
    | none => rw [er] at w1; exact w1.elim
    | some xs =>
      rw [er] at w1
      obtain ⟨a, b, c, n, rfl, c0, c1, ok, rfl⟩ := rng3_rel r1 er
      refine ⟨a, b, c, rfl, c0, c1, fun p hp => ⟨p, a, b, c, n, rfl, upd_same, ok, fun l hl => ?_⟩⟩
      have x := Ext.fresh (K := X.K) (α := α1) (o := RngO p a b c) hp
      exact Post.tup (Post.ext (e1.trans x) w1) (s1.heap.grow hp) (RelDs.ints _) hl
end
/-! ### o[i] += v of a list of ints -/
def dIxL : D → D → Hh → R D := fun a b h => match a with
  | .ref n => dIx (.ref n) b h
  | _ => .bad
def cAugIx (o i v : ME) : MS := fun env h => (o env h).bind fun x h1 => (i env h1).bind fun y h2 => (dIxL x y h2).bind fun z h3 => (v env h3).bind fun u h4 => (dAddI z u h4).bind fun t h5 => (dSetIx x y t h5).bind fun _ h6 => .ok (.nx env) h6
theorem get_seq : PGet X (fun x y H Q => rIxL X.K x y H Q) := by
  intro pins s σ H o i ov iv Q I ro ri h
  obtain ⟨p, xs, k, z, rfl, rfl, hq, he, q⟩ := h
  cases ro
  obtain ⟨t, rfl⟩ := ri
  obtain ⟨its, r, pl, hz⟩ := I.list hq
  obtain ⟨j, h1, h2, h3, h4, h5⟩ := atI_get he
  obtain ⟨w, ew, rw'⟩ := r.get h2
  have hl := r.length
  have hn := line63
  have fin : EP X pins σ Q w s := ⟨z, H, I, rw', q⟩
  by_cases h0 : 0 ≤ k
  · have hj : k.toNat = j := by
      rw [seqIndex_of h0 h5] at h1
      exact Option.some.inj h1
    exact wpAny_getItem_list pl.isList h0 (by omega) (by rw [hj]; simpa using ew) fin
  · have hj : (k + (its.toArray.size : Int)).toNat = j := by
      rw [seqIndex_neg (by omega) h4] at h1
      rw [List.size_toArray, ← hl]
      exact Option.some.inj h1
    exact wpAny_getItem_list_neg pl.isList (by omega) (by rw [List.size_toArray] <;> omega) (by omega) (by rw [hj]; simpa using ew) fin
theorem s_augIx {o i e : Expr} {mo mi me : ME} {tpos pos : Pos} (ho : PE X o (tM X.K g ε mo)) (hi : PE X i (tM X.K g ε mi)) (he : PE X e (tM X.K g ε me))
    (ha : ∀ ov iv new, augStore i ov iv new = (do holding [new, ov, iv] (setItem ov iv new); release [new, ov, iv] []; pure .next) := by intros; rfl) : PS X (.AugAssign (.Subscript o i tpos) .Add e pos) (tMS X.K g ε (cAugIx mo mi me)) :=
  PS.imp (ps_augS ho hi get_seq he ip_add set_list ha) fun E σ H ⟨α, env, h, s, w⟩ => tM.use s w.bind fun d1 h1 v1 H1 α1 e1 s1 r1 w1 => tM.use s1 (w1.ext e1).bind fun d2 h2 v2 H2 α2 e2 s2 r2 w2 => by
    have w3 := (w2.ext e2).bind
    have r1' := r1.ext e2
    unfold dIxL at w3
    cases r1' with
    | @ref n p hp =>
      simp only [dIx] at w3
      cases eq : seqOf (.ref n) h2 with
      | none => simp only [eq] at w3; exact w3.elim
      | some ds =>
        simp only [eq] at w3
        cases r2 with
        | int k =>
          cases ea : atI ds k with
          | none => simp only [ea] at w3; exact w3.elim
          | some z =>
            simp only [ea] at w3
            have w4 : WQ X.K g ε α2 H2 ((me env h2).bind _) _ := w3
            have eq' : lstOf h2 n = some ds := eq
            obtain ⟨vs', hv', rs'⟩ := s2.heap.lst eq' hp
            obtain ⟨v', ev', rv'⟩ := atI_rel rs' ea
            refine ⟨p, vs', k, v', rfl, rfl, SqL.of hv', ev', tM.use s2 w4.bind fun d3 h3 v3 H3 α3 e3 s3 r3 w5 => ?_⟩
            refine ii_add (K := X.K) (g := g) (ε := ε) α3 H3 h3 z d3 v' v3 _ s3.heap (rv'.ext e3) r3 ((w5.ext e3).bind.mono fun t h4 _ w6 v4 H4 α4 e4 hr4 r4 => ?_)
            refine im_setIx (K := X.K) (g := g) (ε := ε) α4 H4 h4 (.ref n) (.int k) t (.ref p) (.int k) v4 _ hr4 (.ref ((e3.trans e4).get hp)) (.int k) r4 (((w6.ext e4)).bind.mono fun _ h5 _ w7 H5 α5 e5 hr5 => ?_)
            exact (show PostS X.K g α H E (.nx env) h5 from w7) H5 α5 (e1.trans (e2.trans (e3.trans (e4.trans e5)))) hr5 _ (s3.vs.ext (e4.trans e5))
        | _ => exact w3.elim
    | _ => exact w3.elim
/-! ### a def as a value, called -/
def cCallV (tab : Str → Option MF) (f : ME) (a : MA) : ME := fun env h => (f env h).bind fun d h1 => match d with
  | .fn x => match tab x with
    | some m => (a env h1).bind m
    | none => .bad
  | _ => .bad
/-- what stands in the table is kept by the defs of these names -/
def TabOk (P : Program) (w : World) (K : PySem.W.Frag) (mg : Str → Option Value) (base : Heap) (g : GG) (k np : Nat) (tab : Str → Option MF) : Prop :=
  ∀ x m, tab x = some m → ∃ f fd ps, g x = some f ∧ FnOk P w K mg base CX0 k f fd ps (spM K g np m) ∧ PySem.W.keepIn K (.ref f) = true ∧ Binds K fd ps []
theorem se_callV {k np : Nat} {tab : Str → Option MF} {fe e : Expr} {es : List Expr} {pos : Pos} {mf : ME} {mr : MA} (T : TabOk X.prog X.w X.K X.mg X.base g k np tab) (hr : Room k X.A) (hf : PE X fe (tM X.K g E00 mf)) (ha : PA X (e :: es) (tMA X.K g E00 mr)) (hlen : ∀ env h ds h', mr env h = .ok ds h' → ds.length = np)
    (hc : eval (.Call fe (e :: es) [] pos) X.env = (do callWith pos (← eval fe X.env) [] (backTo pos (starEach (e :: es) X.env)) (backToKw pos (keywordEach [] X.env))) := by rfl)
    (he : starEach (e :: es) X.env = (false, eval e X.env) :: starEach es X.env := by rfl) (hpl : (backTo pos (starEach es X.env)).any (·.1) = false := by rfl) :
    PE X (.Call fe (e :: es) [] pos) (tM X.K g E00 (cCallV tab mf mr)) := by
  intro pins s σ H Q I ⟨α, env, h, s0, w⟩
  refine Call_ (thn (hf pins s σ H (fun v H1 => ∃ α1 h1 f fd ps m, v = .ref f ∧ FnOk X.prog X.w X.K X.mg X.base CX0 k f fd ps (spM X.K g np m) ∧ PySem.W.keepIn X.K (.ref f) = true ∧ Binds X.K fd ps [] ∧ SRel X.K g α1 H1 env σ h1 ∧ WQ X.K g E00 α1 H1 ((mr env h1).bind m) (Post X.K g α1 H1 Q)) I ?_) fun v s1 ⟨x, H1, I1, r1, q1⟩ => ?_) hc
  · refine tM.use s0 w.bind fun d1 h1 v1 H1 α1 e1 s1 r1 w1 => ?_
    cases r1 with
    | @fn x f hx =>
      simp only at w1
      cases et : tab x with
      | none => rw [et] at w1; exact w1.elim
      | some m =>
        rw [et] at w1
        obtain ⟨f', fd, ps, h1', h2', h3', h4'⟩ := T x m et
        rw [hx] at h1'
        cases h1'
        exact ⟨α1, h1, f, fd, ps, m, rfl, h2', h3', h4', s1, WQ.post e1 w1⟩
    | _ => exact w1.elim
  · obtain ⟨α1, h1, f, fd, ps, m, rfl, F, hk, hb, s2, w2⟩ := q1
    cases r1
    refine PySem.W.callWith_K (h₀ := X.base) I.ok.mod.kin hk (thn (ha pos pins s1 σ H1 (fun vs H2 => spM X.K g np m vs H2 Q E0) I1 ?_) fun us s3 ⟨vs, H2, I2, r, q⟩ => ⟨I2.kIn, ?_⟩) he hpl
    · exact ⟨α1, env, h1, s2, w2.bind.mono fun d3 h3 eq w3 v3 H3 α3 e3 hr3 r3 => ⟨by rw [← r3.length]; exact hlen env h1 d3 h3 eq, α3, d3, h3, r3, hr3, w3.post e3⟩⟩
    · exact run_fn F hr hb .nil pass0 I2 r (by rw [List.append_nil]; exact q)
/-! ### xs[::-1] of a list -/
theorem slice_rev (its : List Value) : slicePick its.toArray none none (some (-1)) = its.reverse.toArray := by
  have h := rev_pick its.toArray
  unfold slicePick
  have e1 : sliceBounds none none (some (-1)) its.toArray.size = ((its.toArray.size : Int) - 1, -1, -1) := rfl
  rw [e1]
  have e2 : sliceRange ((its.toArray.size : Int) - 1) (-1) (-1) = (List.range its.toArray.size).map fun (k : Nat) => ((its.toArray.size : Int) - 1 + (k : Int) * (-1)).toNat := by
    unfold sliceRange
    have e3 : (if (-1 : Int) > 0 then (if ((its.toArray.size : Int) - 1) < -1 then (-1 - ((its.toArray.size : Int) - 1) + -1 - 1) / -1 else 0) else (if ((its.toArray.size : Int) - 1) > -1 then (((its.toArray.size : Int) - 1) - -1 - -1 - 1) / (- -1) else 0)).toNat = its.toArray.size := by
      rw [if_neg (by decide), show (- -1 : Int) = 1 by decide, Int.ediv_one]
      split <;> omega
    simp only
    rw [e3]
    apply List.map_congr_left
    intro k _
    congr 1
    omega
  rw [e2, List.filterMap_map]
  exact h
def tRevG (K : PySem.W.Frag) (te : TE) : TE := fun σ H Q => te σ H fun x H1 => ∃ a xs, x = .ref a ∧ ((SqT K H1 a xs ∧ ∀ p, H1 p = none → Q (.ref p) (upd H1 p (.tup xs.reverse))) ∨ (SqL K H1 a xs ∧ ∀ p, H1 p = none → Q (.ref p) (upd H1 p (.lst xs.reverse))))
theorem pe_revG {e : Expr} {te : TE} {j p1 p2 p3 pos} (he : PE X e te) : PE X (.Subscript e (.Slice none none (some (.UnaryOp .USub (.Constant (.int 1) j p1) p3)) p2) pos) (tRevG X.K te) := by
  intro pins s σ H Q I h
  refine Subscript_ (thn (he pins s σ H _ I h) fun v s1 ⟨x, H1, I1, r1, q1⟩ => ?_)
  obtain ⟨a, xs, rfl, q⟩ := q1
  cases r1
  refine wpAny_Slice (evalPart_none_step (evalPart_none_step (evalPart_some_step ?_)))
  refine thn (pe_un (X := X) un_neg pe_int pins s1 σ H1 (fun v H' => v = .int (-1) ∧ H' = H1) I1 ⟨1, rfl, rfl, rfl⟩) fun u s2 ⟨v2, H2, I2, r2, e1, e2⟩ => ?_
  subst e1 e2
  obtain ⟨tk, rfl⟩ := r2
  have I4 : Inv X pins σ H2 { s2 with heap := s2.heap.push { cls := .type "slice", data := .fields #[.none, .none, .int (-1) tk] } } := I2.kept (t' := s2.toks) fun b ob q => Heap.get?_push_of_some _ q
  rcases q with ⟨hx, q⟩ | ⟨hx, q⟩
  · obtain ⟨its, r, ht, hz⟩ := I4.tuple hx
    have hlen : its.toArray.size = xs.length := by rw [List.size_toArray]; exact r.length.symm
    refine tail_any (ops := [.ref a, .ref s2.heap.objs.size]) ht.typeIs PyProof.Rows.slot_tuple_getitem.lookup (getItem_tuple_rev ht (Heap.IsSliceOf.new ..) ?_ (by rw [hlen]; exact hz)) (by with_unfolding_all rfl)
    refine ⟨.ref _, _, I4.laid (t' := s2.toks) (o := .tup xs.reverse) (fun b ob q => Heap.get?_push_of_some _ q) (Nat.le_refl _) ?_, rfl, q _ (I4.hok.fresh (Nat.le_refl _))⟩
    exact ⟨by rw [List.length_reverse]; exact hz, its.reverse, r.reverse, IsTup.new _ _⟩
  · obtain ⟨its, r, pl, hz⟩ := I4.list hx
    have hlen : its.toArray.size = xs.length := by rw [List.size_toArray]; exact r.length.symm
    refine tail_any (ops := [.ref a, .ref s2.heap.objs.size]) pl.isList.typeIs slot_list_getitem.lookup (wpAny_getItem_list_slice pl.isList (Heap.IsSliceOf.new ..) .none .none (.int (-1) tk) (by decide) ?_ (by rw [hlen]; exact hz)) (by with_unfolding_all rfl)
    rw [slice_rev]
    refine ⟨.ref _, _, I4.laid (t' := s2.toks) (o := .lst xs.reverse) (fun b ob q => Heap.get?_push_of_some _ q) (Nat.le_refl _) ?_, rfl, q _ (I4.hok.fresh (Nat.le_refl _))⟩
    exact ⟨by rw [List.length_reverse]; exact hz, its.reverse, 0, r.reverse, Heap.get?_push_size _ rfl⟩
def dRevG : D → Hh → R D := fun d h => match d with
  | .tup ds => .ok (.tup ds.reverse) h
  | .ref n => match lstOf h n with
    | some ds => newL ds.reverse h
    | none => .bad
  | _ => .bad
theorem se_revG {e : Expr} {me : ME} {j p1 p2 p3 pos} (he : PE X e (tM X.K g ε me)) : PE X (.Subscript e (.Slice none none (some (.UnaryOp .USub (.Constant (.int 1) j p1) p3)) p2) pos) (tM X.K g ε (cUn dRevG me)) :=
  PE.imp (pe_revG he) fun σ H Q ⟨α, env, h, s, w⟩ => tM.use s w.bind fun d1 h1 v1 H1 α1 e1 s1 r1 w1 => by
    have w4 := w1.post e1
    unfold dRevG at w4
    cases r1 with
    | tup hq rs => exact ⟨_, _, rfl, .inl ⟨SqT.of hq, fun l hl => Post.tup w4 s1.heap rs.rev hl⟩⟩
    | @ref n p hp =>
      simp only at w4
      cases e : lstOf h1 n with
      | none => rw [e] at w4; exact w4.elim
      | some ds =>
        rw [e] at w4
        obtain ⟨vs, hv, rs⟩ := s1.heap.lst e hp
        exact ⟨_, _, rfl, .inr ⟨SqL.of hv, fun l hl => Post.lst w4 s1.heap rs.rev hl⟩⟩
    | _ => exact w4.elim
end
end L2.FD
namespace L2.FD
open PySem

/-! ### it ends well, with Q of its end -/
def Ok {β : Type} (r : R β) (Q : β → Hh → Prop) : Prop := ∃ b h, r = .ok b h ∧ Q b h
section
variable {β γ : Type} {Q : β → Hh → Prop} {h h1 h2 : Hh}
@[simp] theorem ok_ok {b : β} : Ok (.ok b h) Q ↔ Q b h := ⟨fun ⟨_, _, e, q⟩ => by cases e; exact q, fun q => ⟨_, _, rfl, q⟩⟩
@[simp] theorem ok_bad : Ok (.bad : R β) Q ↔ False := ⟨fun ⟨_, _, e, _⟩ => (nomatch e), False.elim⟩
@[simp] theorem ok_bind {r : R γ} {f : γ → Hh → R β} : Ok (r.bind f) Q ↔ Ok r fun c h => Ok (f c h) Q := by
  cases r with
  | ok c h => simp [R.bind]
  | err x h => exact ⟨fun ⟨_, _, e, _⟩ => (nomatch e), fun ⟨_, _, e, _⟩ => nomatch e⟩
  | bad => exact ⟨fun ⟨_, _, e, _⟩ => (nomatch e), fun ⟨_, _, e, _⟩ => nomatch e⟩
theorem Ok.mono {r : R β} {Q' : β → Hh → Prop} (o : Ok r Q) (q : ∀ b h, Q b h → Q' b h) : Ok r Q' := let ⟨b, h, e, z⟩ := o; ⟨b, h, e, q b h z⟩
theorem Ok.eq {r : R β} {b : β} {h : Hh} (e : r = .ok b h) (q : Q b h) : Ok r Q := ⟨b, h, e, q⟩
end
/-- nothing of what was is changed -/
def Le (h h' : Hh) : Prop := ∀ (n : Nat) (o : O), h[n]? = some o → h'[n]? = some o
theorem Le.refl (h : Hh) : Le h h := fun _ _ e => e
theorem Le.trans {a b c : Hh} (x : Le a b) (y : Le b c) : Le a c := fun n o e => y n o (x n o e)
theorem Le.app (h j : Hh) : Le h (h ++ j) := fun n o e => by
  rw [List.getElem?_append_left (by
    by_cases hl : n < h.length
    · exact hl
    · rw [List.getElem?_eq_none (by omega)] at e; cases e)]
  exact e
theorem Le.lst {a b : Hh} (x : Le a b) {n : Nat} {ds : List D} (e : lstOf a n = some ds) : lstOf b n = some ds := by
  unfold lstOf at e ⊢
  cases q : a[n]? with
  | none => rw [q] at e; cases e
  | some o => rw [q] at e; rw [x n o q]; exact e
theorem Le.len {a b : Hh} (x : Le a b) : a.length ≤ b.length := by
  by_cases h : a.length ≤ b.length
  · exact h
  · have h0 : a.length - 1 < a.length := by omega
    have := x (a.length - 1) _ (List.getElem?_eq_getElem h0)
    have hl : a.length - 1 < b.length := by
      by_cases hl : a.length - 1 < b.length
      · exact hl
      · rw [List.getElem?_eq_none (by omega)] at this; cases this
    omega
theorem lst_get {h : Hh} {n : Nat} {ds : List D} (e : lstOf h n = some ds) : h[n]? = some (.lst ds) := by
  unfold lstOf at e
  split at e
  · rename_i z q; cases e; exact q
  · cases e
theorem lst_lt {h : Hh} {n : Nat} {ds : List D} (e : lstOf h n = some ds) : n < h.length := by
  have := lst_get e
  by_cases hl : n < h.length
  · exact hl
  · rw [List.getElem?_eq_none (by omega)] at this; cases this
@[simp] theorem lst_new (h : Hh) (ds : List D) : lstOf (h ++ [.lst ds]) h.length = some ds := by
  unfold lstOf; rw [List.getElem?_append_right (Nat.le_refl _)]; simp
@[simp] theorem set_new (h : Hh) (k : Nat) : (h ++ [.set k])[h.length]? = some (.set k) := by
  rw [List.getElem?_append_right (Nat.le_refl _)]; simp
/-- all but what stands at p is as it was -/
def LeB (p : Nat) (h h' : Hh) : Prop := ∀ (n : Nat) (o : O), n ≠ p → h[n]? = some o → h'[n]? = some o
theorem LeB.refl (p : Nat) (h : Hh) : LeB p h h := fun _ _ _ e => e
theorem Le.but {p : Nat} {h h' : Hh} (x : Le h h') : LeB p h h' := fun n o _ e => x n o e
theorem LeB.trans {p : Nat} {a b c : Hh} (x : LeB p a b) (y : LeB p b c) : LeB p a c := fun n o z e => y n o z (x n o z e)
theorem LeB.lst {p : Nat} {a b : Hh} (x : LeB p a b) {n : Nat} {ds : List D} (hn : n ≠ p) (e : lstOf a n = some ds) : lstOf b n = some ds := by
  have q := lst_get e
  unfold lstOf
  rw [x n _ hn q]
theorem LeB.set (p : Nat) (h : Hh) (o : O) : LeB p h (h.set p o) := fun n u hn e => by rw [List.getElem?_set_ne (Ne.symm hn)]; exact e
theorem lst_set {h : Hh} {p : Nat} {ds es : List D} (e : lstOf h p = some ds) : lstOf (h.set p (.lst es)) p = some es := by
  unfold lstOf; rw [List.getElem?_set_self (lst_lt e)]
theorem lst_set_ne {h : Hh} {p n : Nat} {es : List D} (hn : n ≠ p) : lstOf (h.set p (.lst es)) n = lstOf h n := by
  unfold lstOf; rw [List.getElem?_set_ne (Ne.symm hn)]
/-- from a heap that has p's list new: all older is kept -/
theorem LeB.le_old {p : Nat} {a b c : Hh} (x : Le a b) (hp : a.length ≤ p) (y : LeB p b c) : Le a c := fun n o e => y n o (by
  intro z; subst z; rw [List.getElem?_eq_none (by omega)] at e; cases e) (x n o e)

section
variable {Q : D → Hh → Prop} {QT : Bool → Hh → Prop} {QA : List D → Hh → Prop} {QS : Fl → Hh → Prop} {env : En} {h : Hh}
@[simp] theorem o_C {d : D} : Ok (cC d env h) Q ↔ Q d h := ok_ok
@[simp] theorem o_var0 {d : D} {r : En} : Ok (cVar 0 (some d :: r) h) Q ↔ Q d h := ok_ok
@[simp] theorem o_varS {i : Nat} {x : Option D} {r : En} : Ok (cVar (i + 1) (x :: r) h) Q ↔ Ok (cVar i r h) Q := Iff.rfl
@[simp] theorem o_bin {f : D → D → Hh → R D} {a b : ME} : Ok (cBin f a b env h) Q ↔ Ok (a env h) fun x h1 => Ok (b env h1) fun y h2 => Ok (f x y h2) Q := by simp [cBin]
@[simp] theorem o_un {f : D → Hh → R D} {a : ME} : Ok (cUn f a env h) Q ↔ Ok (a env h) fun x h1 => Ok (f x h1) Q := by simp [cUn]
@[simp] theorem o_nil : Ok (cNil env h) QA ↔ QA [] h := ok_ok
@[simp] theorem o_cons {a : ME} {r : MA} : Ok (cCons a r env h) QA ↔ Ok (a env h) fun x h1 => Ok (r env h1) fun xs h2 => QA (x :: xs) h2 := by simp [cCons]
@[simp] theorem o_call {f : List D → Hh → R D} {a : MA} : Ok (cCall f a env h) Q ↔ Ok (a env h) fun xs h1 => Ok (f xs h1) Q := by simp [cCall]
@[simp] theorem o_methL {f : D → List D → Hh → R D} {o : ME} {a : MA} : Ok (cMethL f o a env h) Q ↔ Ok (o env h) fun x h1 => isL x h1 = true ∧ Ok (a env h1) fun xs h2 => Ok (f x xs h2) Q := by
  simp only [cMethL, ok_bind]
  constructor
  · intro q
    refine q.mono fun b h1 z => ?_
    split at z
    · rename_i e; exact ⟨e, by simpa using z⟩
    · simp at z
  · intro q
    refine q.mono fun b h1 z => ?_
    rw [if_pos z.1]; simpa using z.2
@[simp] theorem o_test {f : D → Hh → R Bool} {a : ME} : Ok (cTest f a env h) QT ↔ Ok (a env h) fun x h1 => Ok (f x h1) QT := by simp [cTest]
@[simp] theorem o_notT {a : MT} : Ok (cNotT a env h) QT ↔ Ok (a env h) fun b h1 => QT (!b) h1 := by simp [cNotT]
@[simp] theorem o_andT {a b : MT} : Ok (cAndT a b env h) QT ↔ Ok (a env h) fun x h1 => if x = true then Ok (b env h1) QT else QT false h1 := by
  simp only [cAndT, ok_bind]
  constructor <;> intro q <;> refine q.mono fun x h1 z => ?_ <;> cases x <;> simpa using z
@[simp] theorem o_orT {a b : MT} : Ok (cOrT a b env h) QT ↔ Ok (a env h) fun x h1 => if x = true then QT true h1 else Ok (b env h1) QT := by
  simp only [cOrT, ok_bind]
  constructor <;> intro q <;> refine q.mono fun x h1 z => ?_ <;> cases x <;> simpa using z
@[simp] theorem o_if {c : MT} {a b : ME} : Ok (cIf c a b env h) Q ↔ Ok (c env h) fun x h1 => if x = true then Ok (a env h1) Q else Ok (b env h1) Q := by
  simp only [cIf, ok_bind]
  constructor <;> intro q <;> refine q.mono fun x h1 z => ?_ <;> cases x <;> simpa using z
@[simp] theorem o_asB {b : Bool} : Ok (asB (.bl b) h) QT ↔ QT b h := ok_ok
@[simp] theorem o_andV {a b : ME} : Ok (cAndV a b env h) Q ↔ Ok (a env h) fun x h1 => Ok (asB x h1) fun k h2 => if k = true then Ok (b env h2) Q else Q (.bl false) h2 := by
  simp only [cAndV, ok_bind]
  constructor <;> intro q <;> refine q.mono fun x h1 z => z.mono fun k h2 z => ?_ <;> cases k <;> simpa using z
@[simp] theorem o_orV {a b : ME} : Ok (cOrV a b env h) Q ↔ Ok (a env h) fun x h1 => Ok (asB x h1) fun k h2 => if k = true then Q (.bl true) h2 else Ok (b env h2) Q := by
  simp only [cOrV, ok_bind]
  constructor <;> intro q <;> refine q.mono fun x h1 z => z.mono fun k h2 z => ?_ <;> cases k <;> simpa using z
@[simp] theorem o_notV {a : ME} : Ok (cNotV a env h) Q ↔ Ok (a env h) fun x h1 => Ok (asB x h1) fun k h2 => Q (.bl (!k)) h2 := by simp [cNotV]
@[simp] theorem o_chain {f f' : D → D → Hh → R D} {a b c : ME} : Ok (cChain f f' a b c env h) Q ↔ Ok (a env h) fun x h1 => Ok (b env h1) fun y h2 => Ok (f x y h2) fun z h3 => Ok (asB z h3) fun k h4 => if k = true then Ok (c env h4) (fun w h5 => Ok (f' y w h5) Q) else Q (.bl false) h4 := by
  simp only [cChain, ok_bind]
  constructor <;> intro q <;> refine q.mono fun x h1 z => z.mono fun y h2 z => z.mono fun d h3 z => z.mono fun k h4 z => ?_ <;> cases k <;> simpa using z
@[simp] theorem o_noPart {q : Option Int → Hh → Prop} : Ok (cNoPart env h) q ↔ q none h := ok_ok
@[simp] theorem o_part {a : ME} {q : Option Int → Hh → Prop} : Ok (cPart a env h) q ↔ Ok (a env h) fun d h1 => ∃ i, d = .int i ∧ q (some i) h1 := by
  simp only [cPart, ok_bind]
  constructor <;> intro z <;> refine z.mono fun d h1 z => ?_
  · cases d <;> simp at z ⊢; exact z
  · obtain ⟨i, rfl, z⟩ := z; simpa using z
@[simp] theorem o_slice {a : ME} {l u : MO} : Ok (cSlice a l u env h) Q ↔ Ok (a env h) fun x h1 => Ok (l env h1) fun lo h2 => Ok (u env h2) fun hi h3 => Ok (dCut x lo hi h3) Q := by simp [cSlice]
@[simp] theorem o_skip : Ok (cSkip env h) QS ↔ QS (.nx env) h := ok_ok
@[simp] theorem o_brk : Ok (cBrk env h) QS ↔ QS (.bk env) h := ok_ok
@[simp] theorem o_cnt : Ok (cCnt env h) QS ↔ QS (.ct env) h := ok_ok
@[simp] theorem o_retN : Ok (cRetN env h) QS ↔ QS (.rt .non) h := ok_ok
/-- behind a statement -/
def aft (b : MS) (QS : Fl → Hh → Prop) : Fl → Hh → Prop := fun fl h1 => match fl with
  | .nx e => Ok (b e h1) QS
  | fl => QS fl h1
@[simp] theorem aft_nx {b : MS} {e : En} : aft b QS (.nx e) h ↔ Ok (b e h) QS := Iff.rfl
@[simp] theorem aft_bk {b : MS} {e : En} : aft b QS (.bk e) h ↔ QS (.bk e) h := Iff.rfl
@[simp] theorem aft_ct {b : MS} {e : En} : aft b QS (.ct e) h ↔ QS (.ct e) h := Iff.rfl
@[simp] theorem aft_rt {b : MS} {d : D} : aft b QS (.rt d) h ↔ QS (.rt d) h := Iff.rfl
@[simp] theorem o_seq {a b : MS} : Ok (cSeq a b env h) QS ↔ Ok (a env h) (aft b QS) := by
  simp only [cSeq, ok_bind]
  constructor <;> intro z <;> refine z.mono fun fl h1 z => ?_ <;> cases fl <;> first | exact z | (simpa using z)
@[simp] theorem o_expr {a : ME} : Ok (cExpr a env h) QS ↔ Ok (a env h) fun _ h1 => QS (.nx env) h1 := by simp [cExpr]
@[simp] theorem o_ret {a : ME} : Ok (cRet a env h) QS ↔ Ok (a env h) fun d h1 => QS (.rt d) h1 := by simp [cRet]
@[simp] theorem o_ifS {c : MT} {a b : MS} : Ok (cIfS c a b env h) QS ↔ Ok (c env h) fun x h1 => if x = true then Ok (a env h1) QS else Ok (b env h1) QS := by
  simp only [cIfS, ok_bind]
  constructor <;> intro q <;> refine q.mono fun x h1 z => ?_ <;> cases x <;> simpa using z
@[simp] theorem o_set {i : Nat} {a : ME} : Ok (cSet i a env h) QS ↔ Ok (a env h) fun d h1 => QS (.nx (env.set i (some d))) h1 := by simp [cSet]
@[simp] theorem o_par {i j : Nat} {a : MA} : Ok (cPar i j a env h) QS ↔ Ok (a env h) fun ds h1 => ∃ x y, ds = [x, y] ∧ QS (.nx ((env.set i (some x)).set j (some y))) h1 := by
  simp only [cPar, ok_bind]
  constructor <;> intro z <;> refine z.mono fun ds h1 z => ?_
  · split at z
    · exact ⟨_, _, rfl, by simpa using z⟩
    · simp at z
  · obtain ⟨x, y, rfl, z⟩ := z; simpa using z
@[simp] theorem o_un2 {i j : Nat} {a : ME} : Ok (cUn2 i j a env h) QS ↔ Ok (a env h) fun d h1 => ∃ x y, d = .tup [x, y] ∧ QS (.nx ((env.set i (some x)).set j (some y))) h1 := by
  simp only [cUn2, ok_bind]
  constructor <;> intro z <;> refine z.mono fun d h1 z => ?_
  · unfold gT2 at z
    split at z
    · exact ⟨_, _, rfl, by simpa using z⟩
    · simp at z
  · obtain ⟨x, y, rfl, z⟩ := z; simpa [gT2] using z
@[simp] theorem o_aug {i : Nat} {f : D → D → Hh → R D} {a : ME} : Ok (cAug i f a env h) QS ↔ Ok (cVar i env h) fun x h0 => Ok (a env h0) fun y h1 => Ok (f x y h1) fun z h2 => QS (.nx (env.set i (some z))) h2 := by simp [cAug]
@[simp] theorem o_setIx {f : D → D → D → Hh → R Unit} {o i v : ME} : Ok (cSetIx f o i v env h) QS ↔ Ok (v env h) fun x h1 => Ok (o env h1) fun y h2 => Ok (i env h2) fun z h3 => Ok (f y z x h3) fun _ h4 => QS (.nx env) h4 := by simp [cSetIx]
def fin (Q : D → Hh → Prop) : Fl → Hh → Prop := fun fl h1 => match fl with
  | .rt d => Q d h1
  | .nx _ => Q .non h1
  | _ => False
@[simp] theorem fin_rt {d : D} : fin Q (.rt d) h ↔ Q d h := Iff.rfl
@[simp] theorem fin_nx {e : En} : fin Q (.nx e) h ↔ Q .non h := Iff.rfl
theorem o_fun {n : Nat} {m : MS} {ds : List D} : Ok (cFun n m ds h) Q ↔ Ok (m (ds.map some ++ List.replicate (n - ds.length) none) h) (fin Q) := by
  simp only [cFun, ok_bind]
  constructor <;> intro z <;> refine z.mono fun fl h1 z => ?_ <;> cases fl <;> first | exact z | (simpa [fin] using z)
/-! the built-in things -/
@[simp] theorem d_addI {i j : Int} : Ok (dAdd (.int i) (.int j) h) Q ↔ Q (.int (i + j)) h := ok_ok
@[simp] theorem d_addII {i j : Int} : Ok (dAddI (.int i) (.int j) h) Q ↔ Q (.int (i + j)) h := ok_ok
@[simp] theorem d_subI {i j : Int} : Ok (dSub (.int i) (.int j) h) Q ↔ Q (.int (i - j)) h := ok_ok
@[simp] theorem d_negI {i : Int} : Ok (dNeg (.int i) h) Q ↔ Q (.int (-i)) h := ok_ok
@[simp] theorem d_cmpI {p : Int → Int → Bool} {i j : Int} : Ok (dCmp p (.int i) (.int j) h) Q ↔ Q (.bl (p i j)) h := ok_ok
theorem ok_ite {β : Type} {c : Prop} [Decidable c] {r : R β} {q : β → Hh → Prop} : Ok (if c then r else .bad) q ↔ c ∧ Ok r q := by
  by_cases z : c <;> simp [z]
@[simp] theorem d_mulI {i j : Int} : Ok (dMul (.int i) (.int j) h) Q ↔ (sml i = true ∧ sml j = true) ∧ Q (.int (i * j)) h := by simp only [dMul, ok_ite, ok_ok]
@[simp] theorem d_mulII {i j : Int} : Ok (dMulI (.int i) (.int j) h) Q ↔ (sml i = true ∧ sml j = true) ∧ Q (.int (i * j)) h := by simp only [dMulI, ok_ite, ok_ok]
@[simp] theorem d_divI {i j : Int} : Ok (dDiv (.int i) (.int j) h) Q ↔ (0 < j ∧ sml j = true) ∧ Q (.int (i / j)) h := by simp only [dDiv, ok_ite, ok_ok]
@[simp] theorem d_modI {i j : Int} : Ok (dMod (.int i) (.int j) h) Q ↔ 0 < j ∧ Q (.int (i % j)) h := by simp only [dMod, ok_ite, ok_ok]
@[simp] theorem d_powI {i j : Int} : Ok (dPow (.int i) (.int j) h) Q ↔ (0 ≤ j ∧ j ≤ 1000 ∧ sml i = true) ∧ Q (.int (i ^ j.toNat)) h := by simp only [dPow, ok_ite, ok_ok]
@[simp] theorem d_max2 {i j : Int} : Ok (dMax2 [.int i, .int j] h) Q ↔ Q (.int (if j > i then j else i)) h := ok_ok
@[simp] theorem d_min2 {i j : Int} : Ok (dMin2 [.int i, .int j] h) Q ↔ Q (.int (if j < i then j else i)) h := ok_ok
@[simp] theorem d_intI {i : Int} : Ok (dInt [.int i] h) Q ↔ Q (.int i) h := ok_ok
@[simp] theorem d_intB {b : Bool} : Ok (dInt [.bl b] h) Q ↔ Q (.int (if b then 1 else 0)) h := ok_ok
@[simp] theorem d_tup {ds : List D} : Ok (dTup ds h) Q ↔ ds.length ≤ 1000000 ∧ Q (.tup ds) h := by simp only [dTup, ok_ite, ok_ok]
@[simp] theorem d_lst {ds : List D} : Ok (dLst ds h) Q ↔ ds.length ≤ 1000000 ∧ Q (.ref h.length) (h ++ [.lst ds]) := by simp only [dLst, ok_ite, ok_ok]
@[simp] theorem d_newL {ds : List D} : Ok (newL ds h) Q ↔ Q (.ref h.length) (h ++ [.lst ds]) := ok_ok
@[simp] theorem d_lenT {ds : List D} : Ok (dLen [.tup ds] h) Q ↔ Q (.int ds.length) h := ok_ok
@[simp] theorem d_lenF {ds : List D} : Ok (dLen [.frl ds] h) Q ↔ Q (.int ds.length) h := ok_ok
theorem d_lenL {n : Nat} {ds : List D} (e : lstOf h n = some ds) : Ok (dLen [.ref n] h) Q ↔ Q (.int ds.length) h := by simp only [dLen, lst_get e, ok_ok]
theorem d_lenS {n k : Nat} (e : h[n]? = some (.set k)) : Ok (dLen [.ref n] h) Q ↔ Q (.int k) h := by simp only [dLen, e, ok_ok]
theorem d_ix {a : D} {ds : List D} {i : Int} {d : D} (e : seqOf a h = some ds) (e2 : atI ds i = some d) : Ok (dIx a (.int i) h) Q ↔ Q d h := by simp only [dIx, e, e2, ok_ok]
theorem d_ixL {n : Nat} {ds : List D} {i : Int} {d : D} (e : lstOf h n = some ds) (e2 : atI ds i = some d) : Ok (dIx (.ref n) (.int i) h) Q ↔ Q d h := d_ix (a := .ref n) e e2
theorem d_ixT {ds : List D} {i : Int} {d : D} (e2 : atI ds i = some d) : Ok (dIx (.tup ds) (.int i) h) Q ↔ Q d h := d_ix (a := .tup ds) rfl e2
theorem d_setIx {n : Nat} {ds : List D} {i : Int} {j : Nat} {v : D} {q : Unit → Hh → Prop} (e : lstOf h n = some ds) (e2 : ixN ds.length i = some j) : Ok (dSetIx (.ref n) (.int i) v h) q ↔ q () (h.set n (.lst (ds.set j v))) := by simp only [dSetIx, e, e2, ok_ok]
@[simp] theorem d_cutF {ds : List D} {lo hi : Option Int} : Ok (dCut (.frl ds) lo hi h) Q ↔ Q (.ref h.length) (h ++ [.lst (cutD ds lo hi)]) := ok_ok
@[simp] theorem d_cutT {ds : List D} {lo hi : Option Int} : Ok (dCut (.tup ds) lo hi h) Q ↔ Q (.tup (cutD ds lo hi)) h := ok_ok
theorem d_cutL {n : Nat} {ds : List D} {lo hi : Option Int} (e : lstOf h n = some ds) : Ok (dCut (.ref n) lo hi h) Q ↔ Q (.ref h.length) (h ++ [.lst (cutD ds lo hi)]) := by simp only [dCut, e, d_newL]
theorem d_addL {n m : Nat} {a b : List D} (e : lstOf h n = some a) (e2 : lstOf h m = some b) : Ok (dAdd (.ref n) (.ref m) h) Q ↔ (a ++ b).length ≤ 1000000 ∧ Q (.ref h.length) (h ++ [.lst (a ++ b)]) := by simp only [dAdd, e, e2, d_lst]
@[simp] theorem d_addT {a b : List D} : Ok (dAdd (.tup a) (.tup b) h) Q ↔ a.length + b.length ≤ 1000000 ∧ Q (.tup (a ++ b)) h := by simp only [dAdd, ok_ite, ok_ok]
theorem d_append {n : Nat} {ds : List D} {d : D} (e : lstOf h n = some ds) : Ok (dAppend (.ref n) [d] h) Q ↔ ds.length < 1000000 ∧ Q .non (h.set n (.lst (ds ++ [d]))) := by simp only [dAppend, e, ok_ite, ok_ok]
theorem isL_of {n : Nat} {ds : List D} (e : lstOf h n = some ds) : isL (.ref n) h = true := by simp [isL, e]
theorem d_sumL {n : Nat} {ns : List Int} (e : lstOf h n = some (ns.map D.int)) : Ok (dSum [.ref n] h) Q ↔ Q (.int ns.sum) h := by simp only [dSum, seqOf, e, intsOf_map, ok_ok]
@[simp] theorem d_truB {b : Bool} : Ok (dTru (.bl b) h) QT ↔ QT b h := ok_ok
@[simp] theorem d_truI {i : Int} : Ok (dTru (.int i) h) QT ↔ QT (i != 0) h := ok_ok
@[simp] theorem d_eqI {i j : Int} : Ok (dEq (.int i) (.int j) h) Q ↔ Q (.bl (i == j)) h := by simp [dEq, eqD, flatD, eqF]
@[simp] theorem d_neI {i j : Int} : Ok (dNe (.int i) (.int j) h) Q ↔ Q (.bl (!(i == j))) h := by simp [dNe, eqD, flatD, eqF]
@[simp] theorem d_eqS {i j : Str} : Ok (dEq (.str i) (.str j) h) Q ↔ Q (.bl (i == j)) h := by simp [dEq, eqD, flatD, eqF]
@[simp] theorem d_neS {i j : Str} : Ok (dNe (.str i) (.str j) h) Q ↔ Q (.bl (!(i == j))) h := by simp [dNe, eqD, flatD, eqF]
@[simp] theorem d_reprI {i : Int} : Ok (dRepr [.int i] h) Q ↔ sml i = true ∧ Q (.str (toString i)) h := by simp only [dRepr, ok_ite, ok_ok]
@[simp] theorem d_isI_int {i : Int} : Ok (dIsI "int" (.int i) h) Q ↔ Q (.bl true) h := by simp [dIsI, tyD, subTy]
@[simp] theorem d_isB_int {i : Int} : Ok (dIsI "bool" (.int i) h) Q ↔ Q (.bl false) h := by simp [dIsI, tyD, subTy]
@[simp] theorem d_isT_tup {ds : List D} : Ok (dIsI "tuple" (.tup ds) h) Q ↔ Q (.bl true) h := by simp [dIsI, tyD, subTy]
@[simp] theorem d_listR1 {j : Int} : Ok (dListR [.int j] h) Q ↔ (-1000000 ≤ j ∧ j ≤ 1000000) ∧ Q (.ref h.length) (h ++ [.lst (intsD 0 j.toNat)]) := by
  by_cases z : -1000000 ≤ j ∧ j ≤ 1000000
  · simp only [dListR, rngD, if_pos z, d_newL]
    exact ⟨fun q => ⟨z, q⟩, fun q => q.2⟩
  · simp only [dListR, rngD, if_neg z, ok_bad]
    exact ⟨False.elim, fun q => z q.1⟩
end

/-! ### loops -/
section
variable {QS : Fl → Hh → Prop}
theorem forS_ok {tg : D → En → Hh → R En} {body : MS} {ds : List D} {env : En} {h : Hh} (P : Nat → En → Hh → Prop) (h0 : P 0 env h)
    (step : ∀ i d e h, ds[i]? = some d → P i e h → Ok (tg d e h) fun e1 h1 => Ok (body e1 h1) fun fl h2 => match fl with
      | .nx e => P (i + 1) e h2
      | .ct e => P (i + 1) e h2
      | .bk e => QS (.nx e) h2
      | .rt d => QS (.rt d) h2)
    (hd : ∀ e h, P ds.length e h → QS (.nx e) h) : Ok (forS tg body ds env h) QS := by
  have key : ∀ (r : List D) (i : Nat) (e : En) (h : Hh), ds.drop i = r → i ≤ ds.length → P i e h → Ok (forS tg body r e h) QS := by
    intro r
    induction r with
    | nil =>
      intro i e h hr hi p
      have : ds.length ≤ i := by have := congrArg List.length hr; simp at this; omega
      have : i = ds.length := by omega
      subst this
      simpa [forS] using hd e h p
    | cons d r ih =>
      intro i e h hr hi p
      have h0 : ds[i]? = some d := by have := congrArg (fun l => l[0]?) hr; simpa using this
      have h1 : ds.drop (i + 1) = r := by have := congrArg List.tail hr; simpa using this
      have hlt : i < ds.length := (List.getElem?_eq_some_iff.mp h0).1
      simp only [forS, ok_bind]
      refine (step i d e h h0 p).mono fun e1 h2 z => z.mono fun fl h3 z => ?_
      cases fl with
      | nx e => exact ih (i + 1) e h3 h1 hlt z
      | ct e => exact ih (i + 1) e h3 h1 hlt z
      | bk e => simpa using z
      | rt d => simpa using z
  exact key ds 0 env h rfl (Nat.zero_le _) h0
theorem forL_ok {n : Nat} {tg : D → En → Hh → R En} {body : MS} {ds : List D} {env : En} {h : Hh} (P : Nat → En → Hh → Prop) (h0 : P 0 env h) (hl : ∀ i e h, P i e h → lstOf h n = some ds)
    (step : ∀ i d e h, ds[i]? = some d → P i e h → Ok (tg d e h) fun e1 h1 => Ok (body e1 h1) fun fl h2 => match fl with
      | .nx e => P (i + 1) e h2
      | .ct e => P (i + 1) e h2
      | .bk e => QS (.nx e) h2
      | .rt d => QS (.rt d) h2)
    (hd : ∀ e h, P ds.length e h → QS (.nx e) h) : Ok (forG (Src.live n).rdr tg body ds.length 0 env h) QS := by
  have key : ∀ (k i : Nat) (e : En) (h : Hh), i + k = ds.length → P i e h → Ok (forG (Src.live n).rdr tg body k i e h) QS := by
    intro k
    induction k with
    | zero =>
      intro i e h hk p
      have hi : i = ds.length := by omega
      subst hi
      unfold forG
      have : (Src.live n).rdr h ds.length = some none := by simp [Src.rdr, hl _ _ _ p]
      rw [this]
      simpa using hd e h p
    | succ k ih =>
      intro i e h hk p
      have hlt : i < ds.length := by omega
      unfold forG
      have : (Src.live n).rdr h i = some (some ds[i]) := by simp [Src.rdr, hl _ _ _ p, hlt]
      rw [this]
      simp only [ok_bind]
      refine (step i _ e h (List.getElem?_eq_getElem hlt) p).mono fun e1 h2 z => z.mono fun fl h3 z => ?_
      cases fl with
      | nx e => exact ih (i + 1) e h3 (by omega) z
      | ct e => exact ih (i + 1) e h3 (by omega) z
      | bk e => simpa using z
      | rt d => simpa using z
  exact key ds.length 0 env h (by omega) h0
theorem forE_ok {n : Nat} {tg : D → En → Hh → R En} {body : MS} {ds : List D} {env : En} {h : Hh} (P : Nat → En → Hh → Prop) (h0 : P 0 env h) (hl : ∀ i e h, P i e h → lstOf h n = some ds)
    (step : ∀ i d e h, ds[i]? = some d → P i e h → Ok (tg (.tup [.int i, d]) e h) fun e1 h1 => Ok (body e1 h1) fun fl h2 => match fl with
      | .nx e => P (i + 1) e h2
      | .ct e => P (i + 1) e h2
      | .bk e => QS (.nx e) h2
      | .rt d => QS (.rt d) h2)
    (hd : ∀ e h, P ds.length e h → QS (.nx e) h) : Ok (forG (Src.liveE n).rdr tg body ds.length 0 env h) QS := by
  have key : ∀ (k i : Nat) (e : En) (h : Hh), i + k = ds.length → P i e h → Ok (forG (Src.liveE n).rdr tg body k i e h) QS := by
    intro k
    induction k with
    | zero =>
      intro i e h hk p
      have hi : i = ds.length := by omega
      subst hi
      unfold forG
      have : (Src.liveE n).rdr h ds.length = some none := by simp [Src.rdr, hl _ _ _ p]
      rw [this]
      simpa using hd e h p
    | succ k ih =>
      intro i e h hk p
      have hlt : i < ds.length := by omega
      unfold forG
      have : (Src.liveE n).rdr h i = some (some (.tup [.int i, ds[i]])) := by simp [Src.rdr, hl _ _ _ p, hlt]
      rw [this]
      simp only [ok_bind]
      refine (step i _ e h (List.getElem?_eq_getElem hlt) p).mono fun e1 h2 z => z.mono fun fl h3 z => ?_
      cases fl with
      | nx e => exact ih (i + 1) e h3 (by omega) z
      | ct e => exact ih (i + 1) e h3 (by omega) z
      | bk e => simpa using z
      | rt d => simpa using z
  exact key ds.length 0 env h (by omega) h0
@[simp] theorem i_enum {a : ME} {env : En} {h : Hh} {q : Src → Hh → Prop} : Ok (cEnumI a env h) q ↔ Ok (a env h) fun d h1 => Ok (enumI d h1) q := by simp [cEnumI]
theorem q_enumL {n : Nat} {ds : List D} {h : Hh} {q : Src → Hh → Prop} (e : lstOf h n = some ds) : Ok (enumI (.ref n) h) q ↔ q (.liveE n) h := by simp only [enumI, e, ok_ok]
@[simp] theorem q_enumT {ds : List D} {h : Hh} {q : Src → Hh → Prop} : Ok (enumI (.tup ds) h) q ↔ q (.snap (enumD ds)) h := ok_ok
theorem d_extend {n m : Nat} {xs ys : List D} {h : Hh} {Q : D → Hh → Prop} (e : lstOf h n = some xs) (e2 : lstOf h m = some ys) : Ok (dExtend (.ref n) [.ref m] h) Q ↔ xs.length + ys.length ≤ 1000000 ∧ Q .non (h.set n (.lst (xs ++ ys))) := by simp only [dExtend, e, e2, ok_ite, ok_ok]
@[simp] theorem d_isTn {b : Bool} {h : Hh} {Q : D → Hh → Prop} : Ok (dIsT true (.bl b) (.bl true) h) Q ↔ Q (.bl (!b)) h := ok_ok
@[simp] theorem d_isTp {b : Bool} {h : Hh} {Q : D → Hh → Prop} : Ok (dIsT false (.bl b) (.bl true) h) Q ↔ Q (.bl b) h := ok_ok
theorem d_revL {n : Nat} {ds : List D} {h : Hh} {Q : D → Hh → Prop} (e : lstOf h n = some ds) : Ok (dRevG (.ref n) h) Q ↔ Q (.ref h.length) (h ++ [.lst ds.reverse]) := by simp only [dRevG, e, d_newL]
@[simp] theorem d_revT {ds : List D} {h : Hh} {Q : D → Hh → Prop} : Ok (dRevG (.tup ds) h) Q ↔ Q (.tup ds.reverse) h := ok_ok
theorem d_mulL {n : Nat} {ds : List D} {k : Int} {h : Hh} {Q : D → Hh → Prop} (e : lstOf h n = some ds) : Ok (dMul (.ref n) (.int k) h) Q ↔ (k ≤ 1000000 ∧ -1000000 ≤ k ∧ ds.length * k.toNat ≤ 1000000) ∧ Q (.ref h.length) (h ++ [.lst (List.replicate k.toNat ds).flatten]) := by simp only [dMul, e, ok_ite, ok_ok]
theorem d_in {neg : Bool} {a b : D} {ds : List D} {h : Hh} {Q : D → Hh → Prop} (e : seqOf b h = some ds) (fa : flatD a = true) (fs : ds.all flatD = true) : Ok (dIn neg a b h) Q ↔ Q (.bl (if neg then !(ds.any fun d => eqF d a) else ds.any fun d => eqF d a)) h := by simp only [dIn, e, fa, fs, and_self, if_true, ok_ok]
theorem o_forS {mi : MI} {tg : D → En → Hh → R En} {body : MS} {env : En} {h : Hh} : Ok (cFor mi tg body env h) QS ↔ Ok (mi env h) fun sr h1 => match sr with
    | .snap ds => Ok (forS tg body ds env h1) QS
    | .live n => Ok (forG (Src.live n).rdr tg body ((lstOf h1 n).getD []).length 0 env h1) QS
    | .liveE n => Ok (forG (Src.liveE n).rdr tg body ((lstOf h1 n).getD []).length 0 env h1) QS := by
  simp only [cFor, ok_bind]
  constructor <;> intro z <;> refine z.mono fun sr h1 z => ?_ <;> cases sr <;> exact z
@[simp] theorem i_rng1 {j : Int} {env : En} {h : Hh} {a : MA} {q : Src → Hh → Prop} : Ok (cRng rng1 a env h) q ↔ Ok (a env h) fun ds h1 => Ok (rng1 ds h1) q := by simp [cRng]
@[simp] theorem i_rng2 {env : En} {h : Hh} {a : MA} {q : Src → Hh → Prop} : Ok (cRng rng2 a env h) q ↔ Ok (a env h) fun ds h1 => Ok (rng2 ds h1) q := by simp [cRng]
@[simp] theorem r_rng1 {j : Int} {h : Hh} {q : Src → Hh → Prop} : Ok (rng1 [.int j] h) q ↔ (-1000000 ≤ j ∧ j ≤ 1000000) ∧ q (.snap (intsD 0 j.toNat)) h := by simp only [rng1, ok_ite, ok_ok]
@[simp] theorem r_rng2 {i j : Int} {h : Hh} {q : Src → Hh → Prop} : Ok (rng2 [.int i, .int j] h) q ↔ (-1000000 ≤ i ∧ i ≤ 1000000 ∧ -1000000 ≤ j ∧ j ≤ 1000000) ∧ q (.snap (intsD i (j - i).toNat)) h := by simp only [rng2, ok_ite, ok_ok]
@[simp] theorem i_seq {a : ME} {env : En} {h : Hh} {q : Src → Hh → Prop} : Ok (cSeqI a env h) q ↔ Ok (a env h) fun d h1 => Ok (seqI d h1) q := by simp [cSeqI]
@[simp] theorem q_tup {ds : List D} {h : Hh} {q : Src → Hh → Prop} : Ok (seqI (.tup ds) h) q ↔ q (.snap ds) h := ok_ok
theorem q_lst {n : Nat} {ds : List D} {h : Hh} {q : Src → Hh → Prop} (e : lstOf h n = some ds) : Ok (seqI (.ref n) h) q ↔ q (.live n) h := by simp only [seqI, e, ok_ok]
theorem intsD_get {lo : Int} {n i : Nat} {d : D} (h : (intsD lo n)[i]? = some d) : i < n ∧ d = .int (lo + i) := by
  unfold intsD at h
  rw [List.getElem?_map] at h
  by_cases hi : i < n
  · rw [List.getElem?_range hi] at h; cases h; exact ⟨hi, rfl⟩
  · rw [List.getElem?_eq_none (by simpa using hi)] at h; cases h
@[simp] theorem intsD_len {lo : Int} {n : Nat} : (intsD lo n).length = n := by simp [intsD]
@[simp] theorem g_N {i : Nat} {d : D} {env : En} {h : Hh} {q : En → Hh → Prop} : Ok (gN i d env h) q ↔ q (env.set i (some d)) h := ok_ok
@[simp] theorem g_T2 {i j : Nat} {x y : D} {env : En} {h : Hh} {q : En → Hh → Prop} : Ok (gT2 i j (.tup [x, y]) env h) q ↔ q ((env.set i (some x)).set j (some y)) h := ok_ok
/-- a comprehension, no test or one: by an invariant of the items so far -/
theorem compS_ok {tt : MT} {te : ME} {ee : D → En} {ds : List D} {h : Hh} {Q : List D → Hh → Prop} (P : Nat → List D → Hh → Prop) (h0 : P 0 [] h)
    (step : ∀ i d ys h, ds[i]? = some d → P i ys h → Ok (tt (ee d) h) fun b h1 => if b = true then Ok (te (ee d) h1) fun y h2 => P (i + 1) (ys ++ [y]) h2 else P (i + 1) ys h1)
    (hd : ∀ ys h, P ds.length ys h → Q ys h) : Ok (compS tt te ee ds h) Q := by
  have key : ∀ (r : List D) (i : Nat) (ys : List D) (h : Hh), ds.drop i = r → i ≤ ds.length → P i ys h → Ok (compS tt te ee r h) fun zs h' => Q (ys ++ zs) h' := by
    intro r
    induction r with
    | nil =>
      intro i ys h hr hi p
      have : ds.length ≤ i := by have := congrArg List.length hr; simp at this; omega
      have : i = ds.length := by omega
      subst this
      simpa [compS] using hd ys h p
    | cons d r ih =>
      intro i ys h hr hi p
      have h0 : ds[i]? = some d := by have := congrArg (fun l => l[0]?) hr; simpa using this
      have h1 : ds.drop (i + 1) = r := by have := congrArg List.tail hr; simpa using this
      have hlt : i < ds.length := (List.getElem?_eq_some_iff.mp h0).1
      simp only [compS, ok_bind]
      refine (step i d ys h h0 p).mono fun b h2 z => ?_
      cases b with
      | false => simpa using ih (i + 1) ys h2 h1 hlt (by simpa using z)
      | true =>
        simp only [if_true, ok_bind, ok_ok] at z ⊢
        refine z.mono fun y h3 z => ?_
        refine (ih (i + 1) (ys ++ [y]) h3 h1 hlt z).mono fun zs h4 z => ?_
        simpa using z
  simpa using key ds 0 [] h rfl (Nat.zero_le _) h0
theorem o_compS {mi : MI} {ix : List Nat} {tt : MT} {te : ME} {env : En} {h : Hh} {Q : D → Hh → Prop} : Ok (mi env h) (fun sr h1 => ∃ ds, sr = .snap ds ∧ ds.length ≤ 1000000 ∧ Ok (compS tt te (capE ix env) ds h1) fun ys h2 => Q (.ref h2.length) (h2 ++ [.lst ys])) → Ok (cComp mi ix tt te env h) Q := by
  intro z
  simp only [cComp, ok_bind]
  refine z.mono fun sr h1 ⟨ds, e, hl, z⟩ => ?_
  subst e
  rw [if_pos (show (Src.snap ds).fuel h1 ≤ 1000000 from hl)]
  simp only [ok_bind, d_newL]
  exact z
end
@[simp] theorem join_ss {β : Type} (x : Option β) : Option.join (some x) = x := by cases x <;> rfl
theorem map_succ {β : Type} (f : Nat → β) (i : Nat) : (List.range (i + 1)).map f = (List.range i).map f ++ [f i] := by rw [List.range_succ, List.map_append]; rfl
/-- a comprehension without a test: the i-th item is f i -/
theorem comp_map {te : ME} {ee : D → En} {ds : List D} {h : Hh} {Q : List D → Hh → Prop} (f : Nat → D) (I : Hh → Prop) (h0 : I h) (step : ∀ i d h, ds[i]? = some d → I h → Ok (te (ee d) h) fun y h' => y = f i ∧ I h')
    (hd : ∀ h', I h' → Q ((List.range ds.length).map f) h') : Ok (compS tt1 te ee ds h) Q := by
  refine compS_ok (fun i ys h => ys = (List.range i).map f ∧ I h) ⟨rfl, h0⟩ (fun i d ys h hd ⟨e, hi⟩ => ?_) fun ys h ⟨e, hi⟩ => e ▸ hd h hi
  simp only [tt1, ok_ok, if_true]
  refine (step i d h hd hi).mono fun y h' ⟨e2, hi'⟩ => ⟨?_, hi'⟩
  rw [map_succ, e, e2]
theorem atI_nat' {xs : List D} {j : Nat} {v : D} {i : Int} (h : xs[j]? = some v) (e : i = (j : Int)) : atI xs i = some v := by rw [e]; exact atI_nat h
theorem atI_ints {ns : List Int} {j : Nat} {i : Int} (e : i = (j : Int)) (h : j < ns.length) : atI (ns.map D.int) i = some (.int (ns.getD j 0)) := by
  refine atI_nat' (j := j) ?_ e
  rw [List.getElem?_map, List.getElem?_eq_getElem h, List.getD_eq_getElem?_getD, List.getElem?_eq_getElem h]
  rfl
theorem le_new {a h : Hh} (x : Le a h) (j : Hh) : Le a (h ++ j) := x.trans (Le.app _ _)
/-- repr of a list of ints -/
theorem toPys_ints {k : Nat} {h : Hh} : ∀ {ns : List Int}, (∀ x ∈ ns, sml x = true) → toPys (toPy (k + 1) h) (ns.map D.int) = some (ns.map PyData.int)
  | [], _ => rfl
  | n :: r, hs => by
    have h1 : sml n = true := hs n List.mem_cons_self
    rw [List.map_cons, toPys, toPys_ints (ns := r) fun x hx => hs x (List.mem_cons_of_mem _ hx)]
    simp [toPy, h1]
theorem bulk_ints : ∀ ns : List Int, PyData.bulkAll (ns.map PyData.int) = ns.length
  | [] => rfl
  | n :: r => by rw [List.map_cons, PyData.bulkAll, bulk_ints r, PyData.bulk, List.length_cons]; omega
theorem repr_ints {n : Nat} {h : Hh} {ns : List Int} {Q : D → Hh → Prop} (e : lstOf h n = some (ns.map D.int)) (hs : ∀ x ∈ ns, sml x = true) (hl : ns.length ≤ 8000) : Ok (dRepr [.ref n] h) Q ↔ Q (.str (PyData.shown (.list (ns.map PyData.int)))) h := by
  have e1 : toPy 12 h (.ref n) = some (.list (ns.map PyData.int)) := by
    show (match lstOf h n with | some ds => (toPys (toPy (10 + 1) h) ds).map PyData.list | none => none) = _
    rw [e]
    show (toPys (toPy (10 + 1) h) (ns.map D.int)).map PyData.list = _
    rw [toPys_ints hs]; rfl
  have e2 : PyData.bulk (.list (ns.map PyData.int)) ≤ 8000 := by rw [PyData.bulk, bulk_ints]; exact hl
  simp only [dRepr, repD, e1, if_pos e2, ok_ok]
theorem repr_intsT {h : Hh} {ns : List Int} {Q : D → Hh → Prop} (hs : ∀ x ∈ ns, sml x = true) (hl : ns.length ≤ 8000) : Ok (dRepr [.tup (ns.map D.int)] h) Q ↔ Q (.str (PyData.shown (.tuple (ns.map PyData.int)))) h := by
  have e1 : toPy 12 h (.tup (ns.map D.int)) = some (.tuple (ns.map PyData.int)) := by
    show (toPys (toPy (10 + 1) h) (ns.map D.int)).map PyData.tuple = _
    rw [toPys_ints hs]; rfl
  have e2 : PyData.bulk (.tuple (ns.map PyData.int)) ≤ 8000 := by rw [PyData.bulk, bulk_ints]; exact hl
  simp only [dRepr, repD, e1, if_pos e2, ok_ok]
end L2.FD
namespace FC
open PySem L2 L2.FD
def m__law_pen_of : MF := cFun 2 (cSeq (cSet 1 (cCall dMax2 (cCons (cVar 0) (cCons (cBin dSub (cC (.int 0)) (cVar 0)) cNil))))
    (cRet (cCall dLst (cCons (cVar 1) (cCons (cCall dInt (cCons (cBin dGe (cVar 1) (cBin dPow (cC (.int 10)) (cC (.int 18)))) cNil)) (cCons (cBin dMod (cVar 1) (cC (.int 1000003))) cNil))))))
def m_is_whole : MF := cFun 1 (cRet (cAndV (cUn (dIsI "int") (cVar 0)) (cNotV (cUn (dIsI "bool") (cVar 0)))))
def m_is_within : MF := cFun 3 (cRet (cAndV (cCall m_is_whole (cCons (cVar 0) cNil)) (cChain dLe dLe (cVar 1) (cVar 0) (cVar 2))))
def m_number_needed : MF := cFun 3 (cIfS (cNotT (cTest dTru (cCall m_is_within (cCons (cVar 0) (cCons (cVar 1) (cCons (cVar 2) cNil)))))) cNoS cSkip)
def m_longer_row : MF := cFun 3 (cSeq (cSet 1 (cBin dAdd (cCall dLen (cCons (cVar 0) cNil)) (cC (.int 1))))
    (cSeq (cSet 2 (cBin dAdd (cBin dAdd (cCall dLst (cCons (cC (.int 0)) cNil)) (cVar 0)) (cCall dLst (cCons (cC (.int 0)) cNil))))
    (cRet (cComp (cRng rng1 (cCons (cVar 1) cNil)) [2, 1] tt1 (cBin dAdd (cBin dMul (cBin dAdd (cVar 0) (cC (.int 1))) (cBin dIx (cVar 1) (cBin dAdd (cVar 0) (cC (.int 1))))) (cBin dMul (cBin dSub (cVar 2) (cVar 0)) (cBin dIx (cVar 1) (cVar 0))))))))
def m_row_of : MF := cFun 2 (cSeq (cExpr (cCall m_number_needed (cCons (cVar 0) (cCons (cC (.int 1)) (cCons (cC (.int 30)) cNil)))))
    (cSeq (cSet 1 (cCall dLst (cCons (cC (.int 1)) cNil)))
    (cSeq (cWhile 64 (cTest asB (cBin dLt (cCall dLen (cCons (cVar 1) cNil)) (cVar 0))) (cSet 1 (cCall m_longer_row (cCons (cVar 1) cNil))))
    (cRet (cVar 1)))))
def m__law_next : MF := cFun 1 (cSeq (cSet 0 (cBin dMod (cBin dAdd (cVar 0) (cC (.int 7919))) (cC (.int 2147483647))))
    (cRet (cBin dMod (cBin dAdd (cBin dAdd (cBin dMul (cVar 0) (cVar 0)) (cBin dMul (cC (.int 48271)) (cVar 0))) (cC (.int 12345))) (cC (.int 2147483629)))))
def m__law_draw : MF := cFun 3 (cSeq (cIfS (cAndT (cTest asB (cBin dEq (cBin dIx (cVar 0) (cC (.int 1))) (cC (.int 1)))) (cTest asB (cBin dGt (cBin dIx (cVar 0) (cC (.int 0))) (cC (.int 0))))) (cSeq (cSet 2 (cBin dMod (cBin dIx (cVar 0) (cC (.int 0))) (cVar 1)))
    (cSeq (cSetIx dSetIx (cVar 0) (cC (.int 0)) (cBin dDiv (cBin dIx (cVar 0) (cC (.int 0))) (cVar 1)))
    (cRet (cVar 2)))) cSkip)
    (cSeq (cSetIx dSetIx (cVar 0) (cC (.int 2)) (cCall m__law_next (cCons (cBin dAdd (cCall m__law_next (cCons (cBin dIx (cVar 0) (cC (.int 2))) cNil)) (cC (.int 7))) cNil)))
    (cRet (cBin dMod (cBin dDiv (cBin dIx (cVar 0) (cC (.int 2))) (cC (.int 64))) (cVar 1)))))
def m_row_good : MF := cFun 2 (cSeq (cIfS (cOrT (cNotT (cTest dTru (cUn (dIsI "list") (cVar 0)))) (cNotT (cTest asB (cChain dLe dLe (cC (.int 1)) (cCall dLen (cCons (cVar 0) cNil)) (cC (.int 30)))))) (cRet (cC (.bl false))) cSkip)
    (cSeq (cFor (cSeqI (cVar 0)) (gN 1) (cIfS (cNotT (cTest dTru (cCall m_is_whole (cCons (cVar 1) cNil)))) (cRet (cC (.bl false))) cSkip))
    (cRet (cBin dEq (cVar 0) (cCall m_row_of (cCons (cCall dLen (cCons (cVar 0) cNil)) cNil))))))
def m_row_needed : MF := cFun 1 (cIfS (cNotT (cTest dTru (cCall m_row_good (cCons (cVar 0) cNil)))) cNoS cSkip)
def m_row_before : MF := cFun 1 (cSeq (cExpr (cCall m_row_needed (cCons (cVar 0) cNil)))
    (cSeq (cIfS (cTest asB (cBin dEq (cCall dLen (cCons (cVar 0) cNil)) (cC (.int 1)))) cNoS cSkip)
    (cRet (cCall m_row_of (cCons (cBin dSub (cCall dLen (cCons (cVar 0) cNil)) (cC (.int 1))) cNil)))))
def m__law_all : MF := cFun 5 (cSeq (cSet 1 (cCall dLst (cCons (cCall dTup cNil) cNil)))
    (cSeq (cFor (cRng rng1 (cCons (cVar 0) cNil)) (gN 2) (cSeq (cSet 3 (cCall dLst cNil))
    (cSeq (cFor (cSeqI (cVar 1)) (gN 4) (cExpr (cMethL dExtend (cVar 3) (cCons (cComp (cRng rng1 (cCons (cVar 0) cNil)) [4] (cTest asB (cBin (dIn true) (cVar 0) (cVar 1))) (cBin dAdd (cVar 1) (cCall dTup (cCons (cVar 0) cNil)))) cNil))))
    (cSet 1 (cVar 3)))))
    (cRet (cVar 1))))
def m__law_cell_at : MF := cFun 2 (cSeq (cIfS (cTest asB (cBin dLt (cVar 1) (cCall dLen (cCons (cVar 0) cNil)))) (cRet (cBin dIx (cVar 0) (cVar 1))) cSkip)
    (cRet (cC (.int 0))))
def m__law_product : MF := cFun 3 (cSeq (cSet 1 (cC (.int 1)))
    (cSeq (cFor (cRng rng2 (cCons (cC (.int 2)) (cCons (cBin dAdd (cVar 0) (cC (.int 1))) cNil))) (gN 2) (cSet 1 (cBin dMul (cVar 1) (cVar 2))))
    (cRet (cVar 1))))
def m_numbers_needed : MF := cFun 2 (cSeq (cExpr (cCall m_number_needed (cCons (cVar 0) (cCons (cC (.int 1)) (cCons (cC (.int 30)) cNil)))))
    (cExpr (cCall m_number_needed (cCons (cVar 1) (cCons (cC (.int 0)) (cCons (cC (.int 30)) cNil))))))
def m_upto_count : MF := cFun 2 (cSeq (cExpr (cCall m_numbers_needed (cCons (cVar 0) (cCons (cVar 1) cNil))))
    (cRet (cCall dSum (cCons (cSlice (cCall m_row_of (cCons (cVar 0) cNil)) cNoPart (cPart (cBin dAdd (cVar 1) (cC (.int 1))))) cNil))))
def m_order_good : MF := cFun 2 (cSeq (cIfS (cOrT (cNotT (cTest dTru (cUn (dIsI "tuple") (cVar 0)))) (cNotT (cTest asB (cChain dLe dLe (cC (.int 1)) (cCall dLen (cCons (cVar 0) cNil)) (cC (.int 20)))))) (cRet (cC (.bl false))) cSkip)
    (cSeq (cFor (cSeqI (cVar 0)) (gN 1) (cIfS (cNotT (cTest dTru (cCall m_is_within (cCons (cVar 1) (cCons (cC (.int 0)) (cCons (cBin dSub (cCall dLen (cCons (cVar 0) cNil)) (cC (.int 1))) cNil)))))) (cRet (cC (.bl false))) cSkip))
    (cRet (cBin dEq (cCall dLen (cCons (cCall dSet (cCons (cVar 0) cNil)) cNil)) (cCall dLen (cCons (cVar 0) cNil))))))
def m_order_needed : MF := cFun 1 (cIfS (cNotT (cTest dTru (cCall m_order_good (cCons (cVar 0) cNil)))) cNoS cSkip)
def m_falls_in : MF := cFun 1 (cRet (cCall dTuple (cCons (cComp (cRng rng1 (cCons (cBin dSub (cCall dLen (cCons (cVar 0) cNil)) (cC (.int 1))) cNil)) [0] (cTest asB (cBin dGt (cBin dIx (cVar 1) (cVar 0)) (cBin dIx (cVar 1) (cBin dAdd (cVar 0) (cC (.int 1)))))) (cVar 0)) cNil)))
def m_falls_of : MF := cFun 1 (cSeq (cExpr (cCall m_order_needed (cCons (cVar 0) cNil)))
    (cRet (cCall m_falls_in (cCons (cVar 0) cNil))))
def m_falls_many : MF := cFun 1 (cRet (cCall dLen (cCons (cCall m_falls_of (cCons (cVar 0) cNil)) cNil)))
def m_row_next : MF := cFun 1 (cSeq (cExpr (cCall m_row_needed (cCons (cVar 0) cNil)))
    (cSeq (cIfS (cTest asB (cBin dEq (cCall dLen (cCons (cVar 0) cNil)) (cC (.int 30)))) cNoS cSkip)
    (cRet (cCall m_longer_row (cCons (cVar 0) cNil)))))
def m_count_of : MF := cFun 2 (cSeq (cExpr (cCall m_numbers_needed (cCons (cVar 0) (cCons (cVar 1) cNil))))
    (cRet (cCall dSum (cCons (cSlice (cCall m_row_of (cCons (cVar 0) cNil)) (cPart (cVar 1)) (cPart (cBin dAdd (cVar 1) (cC (.int 1))))) cNil))))
def m_law : MF := cFun 14 (cSeq (cFor (cEnumI (cBin dAdd (cCall dLst (cCons (cCall m__law_cell_at (cCons (cVar 0) (cCons (cC (.int 0)) cNil))) cNil)) (cSlice (cVar 0) (cPart (cC (.int 1))) (cPart (cC (.int 3)))))) (gT2 1 2) (cSeq (cSet 3 (cCall m__law_pen_of (cCons (cVar 2) cNil)))
    (cSeq (cSet 4 (cBin dAdd (cC (.int 1)) (cCall m__law_draw (cCons (cVar 3) (cCons (cC (.int 30)) cNil)))))
    (cSeq (cSet 5 (cCall m_row_of (cCons (cVar 4) cNil)))
    (cSeq (cIfS (cOrT (cTest asB (cBin dNe (cVar 5) (cUn dRevG (cVar 5)))) (cOrT (cTest asB (cBin dNe (cCall dSum (cCons (cVar 5) cNil)) (cCall m__law_product (cCons (cVar 4) cNil)))) (cTest asB (cBin (dIsT true) (cCall m_row_good (cCons (cVar 5) cNil)) (cC (.bl true)))))) (cRet (cC (.bl false))) cSkip)
    (cSeq (cIfS (cOrT (cTest asB (cBin dNe (cCall m_upto_count (cCons (cVar 4) (cCons (cBin dSub (cVar 4) (cC (.int 1))) cNil))) (cCall dSum (cCons (cVar 5) cNil)))) (cTest asB (cBin dNe (cCall m_upto_count (cCons (cVar 4) (cCons (cC (.int 0)) cNil))) (cC (.int 1))))) (cRet (cC (.bl false))) cSkip)
    (cSeq (cIfS (cTest asB (cBin dGt (cVar 4) (cC (.int 1)))) (cSeq (cSet 6 (cCall m_row_before (cCons (cVar 5) cNil)))
    (cSeq (cIfS (cOrT (cTest asB (cBin dNe (cCall m_row_next (cCons (cVar 6) cNil)) (cVar 5))) (cTest asB (cBin (dIsT true) (cCall m_row_good (cCons (cVar 6) cNil)) (cC (.bl true))))) (cRet (cC (.bl false))) cSkip)
    (cFor (cRng rng1 (cCons (cVar 4) cNil)) (gN 7) (cSeq (cSet 8 (cIf (cTest asB (cBin dLt (cVar 7) (cBin dSub (cVar 4) (cC (.int 1))))) (cBin dIx (cVar 6) (cVar 7)) (cC (.int 0))))
    (cSeq (cSet 9 (cIf (cTest asB (cBin dGt (cVar 7) (cC (.int 0)))) (cBin dIx (cVar 6) (cBin dSub (cVar 7) (cC (.int 1)))) (cC (.int 0))))
    (cIfS (cTest asB (cBin dNe (cCall m_count_of (cCons (cVar 4) (cCons (cVar 7) cNil))) (cBin dAdd (cBin dMul (cBin dAdd (cVar 7) (cC (.int 1))) (cVar 8)) (cBin dMul (cBin dSub (cVar 4) (cVar 7)) (cVar 9))))) (cRet (cC (.bl false))) cSkip)))))) cSkip)
    (cIfS (cTest asB (cBin dEq (cVar 1) (cC (.int 0)))) (cSeq (cSet 10 (cBin dAdd (cC (.int 1)) (cCall m__law_draw (cCons (cVar 3) (cCons (cC (.int 7)) cNil)))))
    (cSeq (cSet 11 (cBin dMul (cCall dLst (cCons (cC (.int 0)) cNil)) (cVar 10)))
    (cSeq (cFor (cSeqI (cCall m__law_all (cCons (cVar 10) cNil))) (gN 12) (cSeq (cSet 13 (cCall m_falls_many (cCons (cVar 12) cNil)))
    (cSetIx dSetIx (cVar 11) (cVar 13) (cBin dAdd (cBin dIx (cVar 11) (cVar 13)) (cC (.int 1))))))
    (cIfS (cTest asB (cBin dNe (cCall m_row_of (cCons (cVar 10) cNil)) (cVar 11))) (cRet (cC (.bl false))) cSkip)))) cSkip))))))))
    (cRet (cC (.bl true))))
end FC
namespace FC
open PySem L2 L2.FD
def topS (i : Nat) : Stmt := PySem.Challenge.pw_fallcounts_k16_whole_triangle.main.body.getD i (.Pass ⟨0, 0, 0, 0⟩)
/-- the names of Python's own that no row of the text has taken -/
structure Blt (mg : Str → Option Value) : Prop where
  bool : mg "bool" = none
  enumerate : mg "enumerate" = none
  int : mg "int" = none
  isinstance : mg "isinstance" = none
  len : mg "len" = none
  list : mg "list" = none
  max : mg "max" = none
  range : mg "range" = none
  set : mg "set" = none
  sum : mg "sum" = none
  tuple : mg "tuple" = none
section
variable {P : Program} {w : World} {K : PySem.W.Frag} {mg : Str → Option Value} {base : Heap} {g : GG}
theorem sc__law_pen_of : FnScope ["_law_cell", "_law_left"] ["_law_cell"] (defScope (topS 31)) := ⟨rfl, rfl, rfl, by decide +kernel, rfl, by decide +kernel, by decide +kernel⟩
theorem h__law_pen_of (D : DefAt K mg "_law_pen_of" (topS 31)) (T : Blt mg) : Has P w K mg base g "_law_pen_of" 1 ["_law_cell"] m__law_pen_of := by
  obtain ⟨f, fd, hm, F⟩ := D
  refine ⟨f, fd, fn_m F sc__law_pen_of (fun cdv A outer s H E hr => ?_), F.kp, F.binds (fun _ _ _ _ _ _ us hl => match us, hl with | [_], _ => rfl), hm, look_of F⟩
  exact (ss_cons (s_set (i := 1) sc__law_pen_of.nd rfl (by first | exact Or.inl rfl | exact Or.inr rfl) (se_callB (call_max2 rfl) im_max2 rfl T.max PyProof.Rows.boot_max (sa_cons (se_var 0) (sa_cons (se_bin op_sub im_sub se_int (se_var 0)) sa_nil))))
      (ss_one (s_ret (se_lst (sa_cons (se_var 1) (sa_cons (se_callTy call_int1 im_int rfl T.int PyProof.Rows.boot_int (sa_cons (se_cmp op_ge im_cmp (se_var 1) (se_bin op_powS im_pow se_int se_int) (nomark _)) sa_nil)) (sa_cons (se_bin op_mod im_mod (se_var 1) se_int) sa_nil)))))))
theorem sc_is_whole : FnScope ["thing"] ["thing"] (defScope (topS 7)) := ⟨rfl, rfl, rfl, by decide +kernel, rfl, by decide +kernel, by decide +kernel⟩
theorem h_is_whole (D : DefAt K mg "is_whole" (topS 7)) (T : Blt mg) : Has P w K mg base g "is_whole" 1 ["thing"] m_is_whole := by
  obtain ⟨f, fd, hm, F⟩ := D
  refine ⟨f, fd, fn_m F sc_is_whole (fun cdv A outer s H E hr => ?_), F.kp, F.binds (fun _ _ _ _ _ _ us hl => match us, hl with | [_], _ => rfl), hm, look_of F⟩
  exact (ss_one (s_ret (se_and (se_isi (se_var 0) rfl T.isinstance rfl T.int PyProof.Rows.boot_int) (se_one (se_not (se_isi (se_var 0) rfl T.isinstance rfl T.bool PyProof.Rows.boot_bool))))))
theorem sc_is_within : FnScope ["thing", "least", "most"] ["thing", "least", "most"] (defScope (topS 8)) := ⟨rfl, rfl, rfl, by decide +kernel, rfl, by decide +kernel, by decide +kernel⟩
theorem h_is_within (D : DefAt K mg "is_within" (topS 8)) (T : Blt mg) (H_is_whole : Has P w K mg base g "is_whole" 1 ["thing"] m_is_whole) : Has P w K mg base g "is_within" 2 ["thing", "least", "most"] m_is_within := by
  obtain ⟨f, fd, hm, F⟩ := D
  obtain ⟨f_is_whole, fd_is_whole, G_is_whole, K_is_whole, B_is_whole, M_is_whole, _⟩ := H_is_whole
  refine ⟨f, fd, fn_m F sc_is_within (fun cdv A outer s H E hr => ?_), F.kp, F.binds (fun _ _ _ _ _ _ us hl => match us, hl with | [_, _, _], _ => rfl), hm, look_of F⟩
  exact (ss_one (s_ret (se_and (se_call (G_is_whole.mono (by decide)) hr rfl M_is_whole K_is_whole B_is_whole (sa_cons (se_var 0) sa_nil) (len_cons len_nil)) (se_one (se_chain op_le op_le im_cmp im_cmp (se_var 1) (se_var 0) (se_var 2))))))
theorem sc_number_needed : FnScope ["thing", "least", "most"] ["thing", "least", "most"] (defScope (topS 9)) := ⟨rfl, rfl, rfl, by decide +kernel, rfl, by decide +kernel, by decide +kernel⟩
theorem h_number_needed (D : DefAt K mg "number_needed" (topS 9)) (T : Blt mg) (H_is_within : Has P w K mg base g "is_within" 2 ["thing", "least", "most"] m_is_within) : Has P w K mg base g "number_needed" 3 ["thing", "least", "most"] m_number_needed := by
  obtain ⟨f, fd, hm, F⟩ := D
  obtain ⟨f_is_within, fd_is_within, G_is_within, K_is_within, B_is_within, M_is_within, _⟩ := H_is_within
  refine ⟨f, fd, fn_m F sc_number_needed (fun cdv A outer s H E hr => ?_), F.kp, F.binds (fun _ _ _ _ _ _ us hl => match us, hl with | [_, _, _], _ => rfl), hm, look_of F⟩
  exact (ss_one (s_if (st_not (st_truth im_tru (se_call (G_is_within.mono (by decide)) hr rfl M_is_within K_is_within B_is_within (sa_cons (se_var 0) (sa_cons (se_var 1) (sa_cons (se_var 2) sa_nil))) (len_cons (len_cons (len_cons len_nil)))) (fun _ => rfl))) (ss_one (PS.imp ps_never fun E σ H ⟨α, env, h, s, w⟩ => w.elim)) ss_skip))
theorem sc_longer_row : FnScope ["row", "n", "edged"] ["row"] (defScope (topS 12)) := ⟨rfl, rfl, rfl, by decide +kernel, rfl, by decide +kernel, by decide +kernel⟩
theorem h_longer_row (D : DefAt K mg "longer_row" (topS 12)) (T : Blt mg) : Has P w K mg base g "longer_row" 1 ["row"] m_longer_row := by
  obtain ⟨f, fd, hm, F⟩ := D
  refine ⟨f, fd, fn_m F sc_longer_row (fun cdv A outer s H E hr => ?_), F.kp, F.binds (fun _ _ _ _ _ _ us hl => match us, hl with | [_], _ => rfl), hm, look_of F⟩
  exact (ss_cons (s_set (i := 1) sc_longer_row.nd rfl (by first | exact Or.inl rfl | exact Or.inr rfl) (se_bin or_add im_add (se_callB or_len im_len rfl T.len PySem.boot_len (sa_cons (se_var 0) sa_nil)) se_int))
      (ss_cons (s_set (i := 2) sc_longer_row.nd rfl (by first | exact Or.inl rfl | exact Or.inr rfl) (se_bin or_add im_add (se_bin or_add im_add (se_lst (sa_cons se_int sa_nil)) (se_var 0)) (se_lst (sa_cons se_int sa_nil))))
      (ss_one (s_ret (se_comp (osc := defScope (topS 12)) [2, 1] ["k", "edged", "n"] rfl rfl rfl rfl (by decide +kernel) ⟨by decide +kernel, by decide +kernel, rfl, by decide +kernel, rfl, by decide +kernel⟩ (si_rng1 rfl T.range (sa_cons (se_var 1) sa_nil))
        (fun cl C s₀ H₀ fp => ts_nil) (fun cl C s₀ H₀ fp => (se_bin or_add im_add (se_bin or_mul im_mul (se_bin or_add im_add (se_var 0) se_int) (se_ix ix_seq im_ix (se_var 1) (se_bin or_add im_add (se_var 0) se_int) (fun _ _ => rfl))) (se_bin or_mul im_mul (se_bin op_sub im_sub (se_var 2) (se_var 0)) (se_ix ix_seq im_ix (se_var 1) (se_var 0) (fun _ _ => rfl))))))))))
theorem sc_row_of : FnScope ["n", "row"] ["n"] (defScope (topS 13)) := ⟨rfl, rfl, rfl, by decide +kernel, rfl, by decide +kernel, by decide +kernel⟩
theorem h_row_of (D : DefAt K mg "row_of" (topS 13)) (T : Blt mg) {t_MOST_ROWS : Tok} (c_MOST_ROWS : mg "MOST_ROWS" = some (.int 30 t_MOST_ROWS)) (H_number_needed : Has P w K mg base g "number_needed" 3 ["thing", "least", "most"] m_number_needed) (H_longer_row : Has P w K mg base g "longer_row" 1 ["row"] m_longer_row) : Has P w K mg base g "row_of" 4 ["n"] m_row_of := by
  obtain ⟨f, fd, hm, F⟩ := D
  obtain ⟨f_number_needed, fd_number_needed, G_number_needed, K_number_needed, B_number_needed, M_number_needed, _⟩ := H_number_needed
  obtain ⟨f_longer_row, fd_longer_row, G_longer_row, K_longer_row, B_longer_row, M_longer_row, _⟩ := H_longer_row
  refine ⟨f, fd, fn_m F sc_row_of (fun cdv A outer s H E hr => ?_), F.kp, F.binds (fun _ _ _ _ _ _ us hl => match us, hl with | [_], _ => rfl), hm, look_of F⟩
  exact (ss_cons (s_expr (se_call (G_number_needed.mono (by decide)) hr rfl M_number_needed K_number_needed B_number_needed (sa_cons (se_var 0) (sa_cons se_int (sa_cons (se_globI rfl c_MOST_ROWS) sa_nil))) (len_cons (len_cons (len_cons len_nil)))))
      (ss_cons (s_set (i := 1) sc_row_of.nd rfl (by first | exact Or.inl rfl | exact Or.inr rfl) (se_lst (sa_cons se_int sa_nil)))
      (ss_cons (s_while 64 PassesOwn.never (st_cmp op_lt im_cmp (se_callB or_len im_len rfl T.len PySem.boot_len (sa_cons (se_var 1) sa_nil)) (se_var 0) (nomark _)) (ss_one (s_set (i := 1) sc_row_of.nd rfl (by first | exact Or.inl rfl | exact Or.inr rfl) (se_call (G_longer_row.mono (by decide)) hr rfl M_longer_row K_longer_row B_longer_row (sa_cons (se_var 1) sa_nil) (len_cons len_nil)))))
      (ss_one (s_ret (se_var 1))))))
theorem sc__law_next : FnScope ["_law_seed"] ["_law_seed"] (defScope (topS 30)) := ⟨rfl, rfl, rfl, by decide +kernel, rfl, by decide +kernel, by decide +kernel⟩
theorem h__law_next (D : DefAt K mg "_law_next" (topS 30)) (T : Blt mg) : Has P w K mg base g "_law_next" 1 ["_law_seed"] m__law_next := by
  obtain ⟨f, fd, hm, F⟩ := D
  refine ⟨f, fd, fn_m F sc__law_next (fun cdv A outer s H E hr => ?_), F.kp, F.binds (fun _ _ _ _ _ _ us hl => match us, hl with | [_], _ => rfl), hm, look_of F⟩
  exact (ss_cons (s_set (i := 0) sc__law_next.nd rfl (by first | exact Or.inl rfl | exact Or.inr rfl) (se_bin op_mod im_mod (se_bin or_add im_add (se_var 0) se_int) se_int))
      (ss_one (s_ret (se_bin op_mod im_mod (se_bin or_add im_add (se_bin or_add im_add (se_bin or_mul im_mul (se_var 0) (se_var 0)) (se_bin or_mul im_mul se_int (se_var 0))) se_int) se_int))))
theorem sc__law_draw : FnScope ["_law_pen", "_law_many", "_law_found"] ["_law_pen", "_law_many"] (defScope (topS 32)) := ⟨rfl, rfl, rfl, by decide +kernel, rfl, by decide +kernel, by decide +kernel⟩
theorem h__law_draw (D : DefAt K mg "_law_draw" (topS 32)) (T : Blt mg) (H__law_next : Has P w K mg base g "_law_next" 1 ["_law_seed"] m__law_next) : Has P w K mg base g "_law_draw" 2 ["_law_pen", "_law_many"] m__law_draw := by
  obtain ⟨f, fd, hm, F⟩ := D
  obtain ⟨f__law_next, fd__law_next, G__law_next, K__law_next, B__law_next, M__law_next, _⟩ := H__law_next
  refine ⟨f, fd, fn_m F sc__law_draw (fun cdv A outer s H E hr => ?_), F.kp, F.binds (fun _ _ _ _ _ _ us hl => match us, hl with | [_, _], _ => rfl), hm, look_of F⟩
  exact (ss_cons (s_if (PW.pt (sw_and (st_cmp (op_eqG hr.units) im_eq (se_ix ix_seq im_ix (se_var 0) se_int (fun _ _ => rfl)) se_int (nomark _)) (sw_and1 (st_cmp op_gt im_cmp (se_ix ix_seq im_ix (se_var 0) se_int (fun _ _ => rfl)) se_int (nomark _))))) (ss_cons (s_set (i := 2) sc__law_draw.nd rfl (by first | exact Or.inl rfl | exact Or.inr rfl) (se_bin op_mod im_mod (se_ix ix_seq im_ix (se_var 0) se_int (fun _ _ => rfl)) (se_var 1)))
      (ss_cons (s_setIx (se_bin op_fdivS im_div (se_ix ix_seq im_ix (se_var 0) se_int (fun _ _ => rfl)) (se_var 1)) (se_var 0) se_int set_list im_setIx)
      (ss_one (s_ret (se_var 2))))) ss_skip)
      (ss_cons (s_setIx (se_call (G__law_next.mono (by decide)) hr rfl M__law_next K__law_next B__law_next (sa_cons (se_bin or_add im_add (se_call (G__law_next.mono (by decide)) hr rfl M__law_next K__law_next B__law_next (sa_cons (se_ix ix_seq im_ix (se_var 0) se_int (fun _ _ => rfl)) sa_nil) (len_cons len_nil)) se_int) sa_nil) (len_cons len_nil)) (se_var 0) se_int set_list im_setIx)
      (ss_one (s_ret (se_bin op_mod im_mod (se_bin op_fdivS im_div (se_ix ix_seq im_ix (se_var 0) se_int (fun _ _ => rfl)) se_int) (se_var 1))))))
theorem sc_row_good : FnScope ["thing", "number"] ["thing"] (defScope (topS 17)) := ⟨rfl, rfl, rfl, by decide +kernel, rfl, by decide +kernel, by decide +kernel⟩
theorem h_row_good (D : DefAt K mg "row_good" (topS 17)) (T : Blt mg) {t_MOST_ROWS : Tok} (c_MOST_ROWS : mg "MOST_ROWS" = some (.int 30 t_MOST_ROWS)) (H_is_whole : Has P w K mg base g "is_whole" 1 ["thing"] m_is_whole) (H_row_of : Has P w K mg base g "row_of" 4 ["n"] m_row_of) : Has P w K mg base g "row_good" 5 ["thing"] m_row_good := by
  obtain ⟨f, fd, hm, F⟩ := D
  obtain ⟨f_is_whole, fd_is_whole, G_is_whole, K_is_whole, B_is_whole, M_is_whole, _⟩ := H_is_whole
  obtain ⟨f_row_of, fd_row_of, G_row_of, K_row_of, B_row_of, M_row_of, _⟩ := H_row_of
  refine ⟨f, fd, fn_m F sc_row_good (fun cdv A outer s H E hr => ?_), F.kp, F.binds (fun _ _ _ _ _ _ us hl => match us, hl with | [_], _ => rfl), hm, look_of F⟩
  exact (ss_cons (s_if (PW.pt (sw_or (st_not (st_truth im_tru (se_isi (se_var 0) rfl T.isinstance rfl T.list PyProof.Rows.boot_list) (fun _ => rfl))) (sw_or1 (st_not (st_chain op_le op_le im_cmp im_cmp se_int (se_callB or_len im_len rfl T.len PySem.boot_len (sa_cons (se_var 0) sa_nil)) (se_globI rfl c_MOST_ROWS)))))) (ss_one (s_ret se_bl)) ss_skip)
      (ss_cons (s_for PassesOwn.never rfl (si_seq (se_var 0)) (pg_name (i := 1) sc_row_good.nd rfl (by first | exact Or.inl rfl | exact Or.inr rfl)) ig_name (ss_one (s_if (st_not (st_truth im_tru (se_call (G_is_whole.mono (by decide)) hr rfl M_is_whole K_is_whole B_is_whole (sa_cons (se_var 1) sa_nil) (len_cons len_nil)) (fun _ => rfl))) (ss_one (s_ret se_bl)) ss_skip)))
      (ss_one (s_ret (se_cmp (op_eqG hr.units) im_eq (se_var 0) (se_call (G_row_of.mono (by decide)) hr rfl M_row_of K_row_of B_row_of (sa_cons (se_callB or_len im_len rfl T.len PySem.boot_len (sa_cons (se_var 0) sa_nil)) sa_nil) (len_cons len_nil)) (nomark _))))))
theorem sc_row_needed : FnScope ["thing"] ["thing"] (defScope (topS 18)) := ⟨rfl, rfl, rfl, by decide +kernel, rfl, by decide +kernel, by decide +kernel⟩
theorem h_row_needed (D : DefAt K mg "row_needed" (topS 18)) (T : Blt mg) (H_row_good : Has P w K mg base g "row_good" 5 ["thing"] m_row_good) : Has P w K mg base g "row_needed" 6 ["thing"] m_row_needed := by
  obtain ⟨f, fd, hm, F⟩ := D
  obtain ⟨f_row_good, fd_row_good, G_row_good, K_row_good, B_row_good, M_row_good, _⟩ := H_row_good
  refine ⟨f, fd, fn_m F sc_row_needed (fun cdv A outer s H E hr => ?_), F.kp, F.binds (fun _ _ _ _ _ _ us hl => match us, hl with | [_], _ => rfl), hm, look_of F⟩
  exact (ss_one (s_if (st_not (st_truth im_tru (se_call (G_row_good.mono (by decide)) hr rfl M_row_good K_row_good B_row_good (sa_cons (se_var 0) sa_nil) (len_cons len_nil)) (fun _ => rfl))) (ss_one (PS.imp ps_never fun E σ H ⟨α, env, h, s, w⟩ => w.elim)) ss_skip))
theorem sc_row_before : FnScope ["row"] ["row"] (defScope (topS 20)) := ⟨rfl, rfl, rfl, by decide +kernel, rfl, by decide +kernel, by decide +kernel⟩
theorem h_row_before (D : DefAt K mg "row_before" (topS 20)) (T : Blt mg) (H_row_needed : Has P w K mg base g "row_needed" 6 ["thing"] m_row_needed) (H_row_of : Has P w K mg base g "row_of" 4 ["n"] m_row_of) : Has P w K mg base g "row_before" 7 ["row"] m_row_before := by
  obtain ⟨f, fd, hm, F⟩ := D
  obtain ⟨f_row_needed, fd_row_needed, G_row_needed, K_row_needed, B_row_needed, M_row_needed, _⟩ := H_row_needed
  obtain ⟨f_row_of, fd_row_of, G_row_of, K_row_of, B_row_of, M_row_of, _⟩ := H_row_of
  refine ⟨f, fd, fn_m F sc_row_before (fun cdv A outer s H E hr => ?_), F.kp, F.binds (fun _ _ _ _ _ _ us hl => match us, hl with | [_], _ => rfl), hm, look_of F⟩
  exact (ss_cons (s_expr (se_call (G_row_needed.mono (by decide)) hr rfl M_row_needed K_row_needed B_row_needed (sa_cons (se_var 0) sa_nil) (len_cons len_nil)))
      (ss_cons (s_if (st_cmp (op_eqG hr.units) im_eq (se_callB or_len im_len rfl T.len PySem.boot_len (sa_cons (se_var 0) sa_nil)) se_int (nomark _)) (ss_one (PS.imp ps_never fun E σ H ⟨α, env, h, s, w⟩ => w.elim)) ss_skip)
      (ss_one (s_ret (se_call (G_row_of.mono (by decide)) hr rfl M_row_of K_row_of B_row_of (sa_cons (se_bin op_sub im_sub (se_callB or_len im_len rfl T.len PySem.boot_len (sa_cons (se_var 0) sa_nil)) se_int) sa_nil) (len_cons len_nil))))))
theorem sc__law_all : FnScope ["_law_n", "_law_found", "_law_turn", "_law_longer", "_law_begun"] ["_law_n"] (defScope (topS 33)) := ⟨rfl, rfl, rfl, by decide +kernel, rfl, by decide +kernel, by decide +kernel⟩
theorem h__law_all (D : DefAt K mg "_law_all" (topS 33)) (T : Blt mg) : Has P w K mg base g "_law_all" 1 ["_law_n"] m__law_all := by
  obtain ⟨f, fd, hm, F⟩ := D
  refine ⟨f, fd, fn_m F sc__law_all (fun cdv A outer s H E hr => ?_), F.kp, F.binds (fun _ _ _ _ _ _ us hl => match us, hl with | [_], _ => rfl), hm, look_of F⟩
  exact (ss_cons (s_set (i := 1) sc__law_all.nd rfl (by first | exact Or.inl rfl | exact Or.inr rfl) (se_lst (sa_cons (se_tup sa_nil) sa_nil)))
      (ss_cons (s_for PassesOwn.never rfl (si_rng1 rfl T.range (sa_cons (se_var 0) sa_nil)) (pg_name (i := 2) sc__law_all.nd rfl (by first | exact Or.inl rfl | exact Or.inr rfl)) ig_name (ss_cons (s_set (i := 3) sc__law_all.nd rfl (by first | exact Or.inl rfl | exact Or.inr rfl) (se_lst sa_nil))
      (ss_cons (s_for PassesOwn.never rfl (si_seq (se_var 1)) (pg_name (i := 4) sc__law_all.nd rfl (by first | exact Or.inl rfl | exact Or.inr rfl)) ig_name (ss_one (s_expr (se_bmL PySem.F.slot_list_extend PySem.F.type_list_extend mt_extend im_extend (se_var 3) (sa_cons (se_comp (osc := defScope (topS 33)) [4] ["_law_number", "_law_begun"] rfl rfl rfl rfl (by decide +kernel) ⟨by decide +kernel, by decide +kernel, rfl, by decide +kernel, rfl, by decide +kernel⟩ (si_rng1 rfl T.range (sa_cons (se_var 0) sa_nil))
        (fun cl C s₀ H₀ fp => (ts_one (st_cmp op_notIn_seq im_in (se_var 0) (se_var 1) (by rfl)))) (fun cl C s₀ H₀ fp => (se_bin or_add im_add (se_var 1) (se_tup (sa_cons (se_var 0) sa_nil))))) sa_nil)))))
      (ss_one (s_set (i := 1) sc__law_all.nd rfl (by first | exact Or.inl rfl | exact Or.inr rfl) (se_var 3))))))
      (ss_one (s_ret (se_var 1)))))
theorem sc__law_cell_at : FnScope ["_law_script", "_law_k"] ["_law_script", "_law_k"] (defScope (topS 29)) := ⟨rfl, rfl, rfl, by decide +kernel, rfl, by decide +kernel, by decide +kernel⟩
theorem h__law_cell_at (D : DefAt K mg "_law_cell_at" (topS 29)) (T : Blt mg) : Has P w K mg base g "_law_cell_at" 1 ["_law_script", "_law_k"] m__law_cell_at := by
  obtain ⟨f, fd, hm, F⟩ := D
  refine ⟨f, fd, fn_m F sc__law_cell_at (fun cdv A outer s H E hr => ?_), F.kp, F.binds (fun _ _ _ _ _ _ us hl => match us, hl with | [_, _], _ => rfl), hm, look_of F⟩
  exact (ss_cons (s_if (st_cmp op_lt im_cmp (se_var 1) (se_callB or_len im_len rfl T.len PySem.boot_len (sa_cons (se_var 0) sa_nil)) (nomark _)) (ss_one (s_ret (se_ix ix_seq im_ix (se_var 0) (se_var 1) (fun _ _ => rfl)))) ss_skip)
      (ss_one (s_ret se_int)))
theorem sc__law_product : FnScope ["_law_n", "_law_found", "_law_number"] ["_law_n"] (defScope (topS 34)) := ⟨rfl, rfl, rfl, by decide +kernel, rfl, by decide +kernel, by decide +kernel⟩
theorem h__law_product (D : DefAt K mg "_law_product" (topS 34)) (T : Blt mg) : Has P w K mg base g "_law_product" 1 ["_law_n"] m__law_product := by
  obtain ⟨f, fd, hm, F⟩ := D
  refine ⟨f, fd, fn_m F sc__law_product (fun cdv A outer s H E hr => ?_), F.kp, F.binds (fun _ _ _ _ _ _ us hl => match us, hl with | [_], _ => rfl), hm, look_of F⟩
  exact (ss_cons (s_set (i := 1) sc__law_product.nd rfl (by first | exact Or.inl rfl | exact Or.inr rfl) se_int)
      (ss_cons (s_for PassesOwn.never rfl (si_rng2 rfl T.range (sa_cons se_int (sa_cons (se_bin or_add im_add (se_var 0) se_int) sa_nil))) (pg_name (i := 2) sc__law_product.nd rfl (by first | exact Or.inl rfl | exact Or.inr rfl)) ig_name (ss_one (s_set (i := 1) sc__law_product.nd rfl (by first | exact Or.inl rfl | exact Or.inr rfl) (se_bin or_mul im_mul (se_var 1) (se_var 2)))))
      (ss_one (s_ret (se_var 1)))))
theorem sc_numbers_needed : FnScope ["n", "k"] ["n", "k"] (defScope (topS 16)) := ⟨rfl, rfl, rfl, by decide +kernel, rfl, by decide +kernel, by decide +kernel⟩
theorem h_numbers_needed (D : DefAt K mg "numbers_needed" (topS 16)) (T : Blt mg) {t_MOST_ROWS : Tok} (c_MOST_ROWS : mg "MOST_ROWS" = some (.int 30 t_MOST_ROWS)) (H_number_needed : Has P w K mg base g "number_needed" 3 ["thing", "least", "most"] m_number_needed) : Has P w K mg base g "numbers_needed" 4 ["n", "k"] m_numbers_needed := by
  obtain ⟨f, fd, hm, F⟩ := D
  obtain ⟨f_number_needed, fd_number_needed, G_number_needed, K_number_needed, B_number_needed, M_number_needed, _⟩ := H_number_needed
  refine ⟨f, fd, fn_m F sc_numbers_needed (fun cdv A outer s H E hr => ?_), F.kp, F.binds (fun _ _ _ _ _ _ us hl => match us, hl with | [_, _], _ => rfl), hm, look_of F⟩
  exact (ss_cons (s_expr (se_call (G_number_needed.mono (by decide)) hr rfl M_number_needed K_number_needed B_number_needed (sa_cons (se_var 0) (sa_cons se_int (sa_cons (se_globI rfl c_MOST_ROWS) sa_nil))) (len_cons (len_cons (len_cons len_nil)))))
      (ss_one (s_expr (se_call (G_number_needed.mono (by decide)) hr rfl M_number_needed K_number_needed B_number_needed (sa_cons (se_var 1) (sa_cons se_int (sa_cons (se_globI rfl c_MOST_ROWS) sa_nil))) (len_cons (len_cons (len_cons len_nil)))))))
theorem sc_upto_count : FnScope ["n", "k"] ["n", "k"] (defScope (topS 15)) := ⟨rfl, rfl, rfl, by decide +kernel, rfl, by decide +kernel, by decide +kernel⟩
theorem h_upto_count (D : DefAt K mg "upto_count" (topS 15)) (T : Blt mg) (H_numbers_needed : Has P w K mg base g "numbers_needed" 4 ["n", "k"] m_numbers_needed) (H_row_of : Has P w K mg base g "row_of" 4 ["n"] m_row_of) : Has P w K mg base g "upto_count" 5 ["n", "k"] m_upto_count := by
  obtain ⟨f, fd, hm, F⟩ := D
  obtain ⟨f_numbers_needed, fd_numbers_needed, G_numbers_needed, K_numbers_needed, B_numbers_needed, M_numbers_needed, _⟩ := H_numbers_needed
  obtain ⟨f_row_of, fd_row_of, G_row_of, K_row_of, B_row_of, M_row_of, _⟩ := H_row_of
  refine ⟨f, fd, fn_m F sc_upto_count (fun cdv A outer s H E hr => ?_), F.kp, F.binds (fun _ _ _ _ _ _ us hl => match us, hl with | [_, _], _ => rfl), hm, look_of F⟩
  exact (ss_cons (s_expr (se_call (G_numbers_needed.mono (by decide)) hr rfl M_numbers_needed K_numbers_needed B_numbers_needed (sa_cons (se_var 0) (sa_cons (se_var 1) sa_nil)) (len_cons (len_cons len_nil))))
      (ss_one (s_ret (se_callB (call_sumL rfl) im_sum rfl T.sum PyProof.Rows.boot_sum (sa_cons (se_slice (se_call (G_row_of.mono (by decide)) hr rfl M_row_of K_row_of B_row_of (sa_cons (se_var 0) sa_nil) (len_cons len_nil)) so_none (so_some (se_bin or_add im_add (se_var 1) se_int))) sa_nil)))))
theorem sc_order_good : FnScope ["thing", "number"] ["thing"] (defScope (topS 23)) := ⟨rfl, rfl, rfl, by decide +kernel, rfl, by decide +kernel, by decide +kernel⟩
theorem h_order_good (D : DefAt K mg "order_good" (topS 23)) (T : Blt mg) {t_MOST_NUMBERS : Tok} (c_MOST_NUMBERS : mg "MOST_NUMBERS" = some (.int 20 t_MOST_NUMBERS)) (H_is_within : Has P w K mg base g "is_within" 2 ["thing", "least", "most"] m_is_within) : Has P w K mg base g "order_good" 3 ["thing"] m_order_good := by
  obtain ⟨f, fd, hm, F⟩ := D
  obtain ⟨f_is_within, fd_is_within, G_is_within, K_is_within, B_is_within, M_is_within, _⟩ := H_is_within
  refine ⟨f, fd, fn_m F sc_order_good (fun cdv A outer s H E hr => ?_), F.kp, F.binds (fun _ _ _ _ _ _ us hl => match us, hl with | [_], _ => rfl), hm, look_of F⟩
  exact (ss_cons (s_if (PW.pt (sw_or (st_not (st_truth im_tru (se_isi (se_var 0) rfl T.isinstance rfl T.tuple PyProof.Rows.boot_tuple) (fun _ => rfl))) (sw_or1 (st_not (st_chain op_le op_le im_cmp im_cmp se_int (se_callB or_len im_len rfl T.len PySem.boot_len (sa_cons (se_var 0) sa_nil)) (se_globI rfl c_MOST_NUMBERS)))))) (ss_one (s_ret se_bl)) ss_skip)
      (ss_cons (s_for PassesOwn.never rfl (si_seq (se_var 0)) (pg_name (i := 1) sc_order_good.nd rfl (by first | exact Or.inl rfl | exact Or.inr rfl)) ig_name (ss_one (s_if (st_not (st_truth im_tru (se_call (G_is_within.mono (by decide)) hr rfl M_is_within K_is_within B_is_within (sa_cons (se_var 1) (sa_cons se_int (sa_cons (se_bin op_sub im_sub (se_callB or_len im_len rfl T.len PySem.boot_len (sa_cons (se_var 0) sa_nil)) se_int) sa_nil))) (len_cons (len_cons (len_cons len_nil)))) (fun _ => rfl))) (ss_one (s_ret se_bl)) ss_skip)))
      (ss_one (s_ret (se_cmp (op_eqG hr.units) im_eq (se_callB or_len im_len rfl T.len PySem.boot_len (sa_cons (se_callTy (call_set_tup rfl) im_set rfl T.set PyProof.Rows.boot_set (sa_cons (se_var 0) sa_nil)) sa_nil)) (se_callB or_len im_len rfl T.len PySem.boot_len (sa_cons (se_var 0) sa_nil)) (nomark _))))))
theorem sc_order_needed : FnScope ["thing"] ["thing"] (defScope (topS 24)) := ⟨rfl, rfl, rfl, by decide +kernel, rfl, by decide +kernel, by decide +kernel⟩
theorem h_order_needed (D : DefAt K mg "order_needed" (topS 24)) (T : Blt mg) (H_order_good : Has P w K mg base g "order_good" 3 ["thing"] m_order_good) : Has P w K mg base g "order_needed" 4 ["thing"] m_order_needed := by
  obtain ⟨f, fd, hm, F⟩ := D
  obtain ⟨f_order_good, fd_order_good, G_order_good, K_order_good, B_order_good, M_order_good, _⟩ := H_order_good
  refine ⟨f, fd, fn_m F sc_order_needed (fun cdv A outer s H E hr => ?_), F.kp, F.binds (fun _ _ _ _ _ _ us hl => match us, hl with | [_], _ => rfl), hm, look_of F⟩
  exact (ss_one (s_if (st_not (st_truth im_tru (se_call (G_order_good.mono (by decide)) hr rfl M_order_good K_order_good B_order_good (sa_cons (se_var 0) sa_nil) (len_cons len_nil)) (fun _ => rfl))) (ss_one (PS.imp ps_never fun E σ H ⟨α, env, h, s, w⟩ => w.elim)) ss_skip))
theorem sc_falls_in : FnScope ["numbers"] ["numbers"] (defScope (topS 25)) := ⟨rfl, rfl, rfl, by decide +kernel, rfl, by decide +kernel, by decide +kernel⟩
theorem h_falls_in (D : DefAt K mg "falls_in" (topS 25)) (T : Blt mg) : Has P w K mg base g "falls_in" 1 ["numbers"] m_falls_in := by
  obtain ⟨f, fd, hm, F⟩ := D
  refine ⟨f, fd, fn_m F sc_falls_in (fun cdv A outer s H E hr => ?_), F.kp, F.binds (fun _ _ _ _ _ _ us hl => match us, hl with | [_], _ => rfl), hm, look_of F⟩
  exact (ss_one (s_ret (se_callTy call_tuple_of im_tuple rfl T.tuple PyProof.Rows.boot_tuple (sa_cons (se_comp (osc := defScope (topS 25)) [0] ["place", "numbers"] rfl rfl rfl rfl (by decide +kernel) ⟨by decide +kernel, by decide +kernel, rfl, by decide +kernel, rfl, by decide +kernel⟩ (si_rng1 rfl T.range (sa_cons (se_bin op_sub im_sub (se_callB or_len im_len rfl T.len PySem.boot_len (sa_cons (se_var 0) sa_nil)) se_int) sa_nil))
        (fun cl C s₀ H₀ fp => (ts_one (st_cmp op_gt im_cmp (se_ix ix_seq im_ix (se_var 1) (se_var 0) (fun _ _ => rfl)) (se_ix ix_seq im_ix (se_var 1) (se_bin or_add im_add (se_var 0) se_int) (fun _ _ => rfl)) (nomark _)))) (fun cl C s₀ H₀ fp => (se_var 0))) sa_nil))))
theorem sc_falls_of : FnScope ["order"] ["order"] (defScope (topS 26)) := ⟨rfl, rfl, rfl, by decide +kernel, rfl, by decide +kernel, by decide +kernel⟩
theorem h_falls_of (D : DefAt K mg "falls_of" (topS 26)) (T : Blt mg) (H_order_needed : Has P w K mg base g "order_needed" 4 ["thing"] m_order_needed) (H_falls_in : Has P w K mg base g "falls_in" 1 ["numbers"] m_falls_in) : Has P w K mg base g "falls_of" 5 ["order"] m_falls_of := by
  obtain ⟨f, fd, hm, F⟩ := D
  obtain ⟨f_order_needed, fd_order_needed, G_order_needed, K_order_needed, B_order_needed, M_order_needed, _⟩ := H_order_needed
  obtain ⟨f_falls_in, fd_falls_in, G_falls_in, K_falls_in, B_falls_in, M_falls_in, _⟩ := H_falls_in
  refine ⟨f, fd, fn_m F sc_falls_of (fun cdv A outer s H E hr => ?_), F.kp, F.binds (fun _ _ _ _ _ _ us hl => match us, hl with | [_], _ => rfl), hm, look_of F⟩
  exact (ss_cons (s_expr (se_call (G_order_needed.mono (by decide)) hr rfl M_order_needed K_order_needed B_order_needed (sa_cons (se_var 0) sa_nil) (len_cons len_nil)))
      (ss_one (s_ret (se_call (G_falls_in.mono (by decide)) hr rfl M_falls_in K_falls_in B_falls_in (sa_cons (se_var 0) sa_nil) (len_cons len_nil)))))
theorem sc_falls_many : FnScope ["order"] ["order"] (defScope (topS 27)) := ⟨rfl, rfl, rfl, by decide +kernel, rfl, by decide +kernel, by decide +kernel⟩
theorem h_falls_many (D : DefAt K mg "falls_many" (topS 27)) (T : Blt mg) (H_falls_of : Has P w K mg base g "falls_of" 5 ["order"] m_falls_of) : Has P w K mg base g "falls_many" 6 ["order"] m_falls_many := by
  obtain ⟨f, fd, hm, F⟩ := D
  obtain ⟨f_falls_of, fd_falls_of, G_falls_of, K_falls_of, B_falls_of, M_falls_of, _⟩ := H_falls_of
  refine ⟨f, fd, fn_m F sc_falls_many (fun cdv A outer s H E hr => ?_), F.kp, F.binds (fun _ _ _ _ _ _ us hl => match us, hl with | [_], _ => rfl), hm, look_of F⟩
  exact (ss_one (s_ret (se_callB or_len im_len rfl T.len PySem.boot_len (sa_cons (se_call (G_falls_of.mono (by decide)) hr rfl M_falls_of K_falls_of B_falls_of (sa_cons (se_var 0) sa_nil) (len_cons len_nil)) sa_nil))))
theorem sc_row_next : FnScope ["row"] ["row"] (defScope (topS 19)) := ⟨rfl, rfl, rfl, by decide +kernel, rfl, by decide +kernel, by decide +kernel⟩
theorem h_row_next (D : DefAt K mg "row_next" (topS 19)) (T : Blt mg) {t_MOST_ROWS : Tok} (c_MOST_ROWS : mg "MOST_ROWS" = some (.int 30 t_MOST_ROWS)) (H_row_needed : Has P w K mg base g "row_needed" 6 ["thing"] m_row_needed) (H_longer_row : Has P w K mg base g "longer_row" 1 ["row"] m_longer_row) : Has P w K mg base g "row_next" 7 ["row"] m_row_next := by
  obtain ⟨f, fd, hm, F⟩ := D
  obtain ⟨f_row_needed, fd_row_needed, G_row_needed, K_row_needed, B_row_needed, M_row_needed, _⟩ := H_row_needed
  obtain ⟨f_longer_row, fd_longer_row, G_longer_row, K_longer_row, B_longer_row, M_longer_row, _⟩ := H_longer_row
  refine ⟨f, fd, fn_m F sc_row_next (fun cdv A outer s H E hr => ?_), F.kp, F.binds (fun _ _ _ _ _ _ us hl => match us, hl with | [_], _ => rfl), hm, look_of F⟩
  exact (ss_cons (s_expr (se_call (G_row_needed.mono (by decide)) hr rfl M_row_needed K_row_needed B_row_needed (sa_cons (se_var 0) sa_nil) (len_cons len_nil)))
      (ss_cons (s_if (st_cmp (op_eqG hr.units) im_eq (se_callB or_len im_len rfl T.len PySem.boot_len (sa_cons (se_var 0) sa_nil)) (se_globI rfl c_MOST_ROWS) (nomark _)) (ss_one (PS.imp ps_never fun E σ H ⟨α, env, h, s, w⟩ => w.elim)) ss_skip)
      (ss_one (s_ret (se_call (G_longer_row.mono (by decide)) hr rfl M_longer_row K_longer_row B_longer_row (sa_cons (se_var 0) sa_nil) (len_cons len_nil))))))
theorem sc_count_of : FnScope ["n", "k"] ["n", "k"] (defScope (topS 14)) := ⟨rfl, rfl, rfl, by decide +kernel, rfl, by decide +kernel, by decide +kernel⟩
theorem h_count_of (D : DefAt K mg "count_of" (topS 14)) (T : Blt mg) (H_numbers_needed : Has P w K mg base g "numbers_needed" 4 ["n", "k"] m_numbers_needed) (H_row_of : Has P w K mg base g "row_of" 4 ["n"] m_row_of) : Has P w K mg base g "count_of" 5 ["n", "k"] m_count_of := by
  obtain ⟨f, fd, hm, F⟩ := D
  obtain ⟨f_numbers_needed, fd_numbers_needed, G_numbers_needed, K_numbers_needed, B_numbers_needed, M_numbers_needed, _⟩ := H_numbers_needed
  obtain ⟨f_row_of, fd_row_of, G_row_of, K_row_of, B_row_of, M_row_of, _⟩ := H_row_of
  refine ⟨f, fd, fn_m F sc_count_of (fun cdv A outer s H E hr => ?_), F.kp, F.binds (fun _ _ _ _ _ _ us hl => match us, hl with | [_, _], _ => rfl), hm, look_of F⟩
  exact (ss_cons (s_expr (se_call (G_numbers_needed.mono (by decide)) hr rfl M_numbers_needed K_numbers_needed B_numbers_needed (sa_cons (se_var 0) (sa_cons (se_var 1) sa_nil)) (len_cons (len_cons len_nil))))
      (ss_one (s_ret (se_callB (call_sumL rfl) im_sum rfl T.sum PyProof.Rows.boot_sum (sa_cons (se_slice (se_call (G_row_of.mono (by decide)) hr rfl M_row_of K_row_of B_row_of (sa_cons (se_var 0) sa_nil) (len_cons len_nil)) (so_some (se_var 1)) (so_some (se_bin or_add im_add (se_var 1) se_int))) sa_nil)))))
theorem sc_law : FnScope ["_law_script", "_law_at", "_law_cell", "_law_pen", "_law_n", "_law_row", "_law_ahead", "_law_k", "_law_still", "_law_new", "_law_few", "_law_counts", "_law_one", "_law_falls"] ["_law_script"] (defScope (topS 35)) := ⟨rfl, rfl, rfl, by decide +kernel, rfl, by decide +kernel, by decide +kernel⟩
theorem h_law (D : DefAt K mg "law" (topS 35)) (T : Blt mg) (H__law_cell_at : Has P w K mg base g "_law_cell_at" 1 ["_law_script", "_law_k"] m__law_cell_at) (H__law_pen_of : Has P w K mg base g "_law_pen_of" 1 ["_law_cell"] m__law_pen_of) (H__law_draw : Has P w K mg base g "_law_draw" 2 ["_law_pen", "_law_many"] m__law_draw) (H_row_of : Has P w K mg base g "row_of" 4 ["n"] m_row_of) (H__law_product : Has P w K mg base g "_law_product" 1 ["_law_n"] m__law_product) (H_row_good : Has P w K mg base g "row_good" 5 ["thing"] m_row_good) (H_upto_count : Has P w K mg base g "upto_count" 5 ["n", "k"] m_upto_count) (H_row_before : Has P w K mg base g "row_before" 7 ["row"] m_row_before) (H_row_next : Has P w K mg base g "row_next" 7 ["row"] m_row_next) (H_count_of : Has P w K mg base g "count_of" 5 ["n", "k"] m_count_of) (H__law_all : Has P w K mg base g "_law_all" 1 ["_law_n"] m__law_all) (H_falls_many : Has P w K mg base g "falls_many" 6 ["order"] m_falls_many) : Has P w K mg base g "law" 8 ["_law_script"] m_law := by
  obtain ⟨f, fd, hm, F⟩ := D
  obtain ⟨f__law_cell_at, fd__law_cell_at, G__law_cell_at, K__law_cell_at, B__law_cell_at, M__law_cell_at, _⟩ := H__law_cell_at
  obtain ⟨f__law_pen_of, fd__law_pen_of, G__law_pen_of, K__law_pen_of, B__law_pen_of, M__law_pen_of, _⟩ := H__law_pen_of
  obtain ⟨f__law_draw, fd__law_draw, G__law_draw, K__law_draw, B__law_draw, M__law_draw, _⟩ := H__law_draw
  obtain ⟨f_row_of, fd_row_of, G_row_of, K_row_of, B_row_of, M_row_of, _⟩ := H_row_of
  obtain ⟨f__law_product, fd__law_product, G__law_product, K__law_product, B__law_product, M__law_product, _⟩ := H__law_product
  obtain ⟨f_row_good, fd_row_good, G_row_good, K_row_good, B_row_good, M_row_good, _⟩ := H_row_good
  obtain ⟨f_upto_count, fd_upto_count, G_upto_count, K_upto_count, B_upto_count, M_upto_count, _⟩ := H_upto_count
  obtain ⟨f_row_before, fd_row_before, G_row_before, K_row_before, B_row_before, M_row_before, _⟩ := H_row_before
  obtain ⟨f_row_next, fd_row_next, G_row_next, K_row_next, B_row_next, M_row_next, _⟩ := H_row_next
  obtain ⟨f_count_of, fd_count_of, G_count_of, K_count_of, B_count_of, M_count_of, _⟩ := H_count_of
  obtain ⟨f__law_all, fd__law_all, G__law_all, K__law_all, B__law_all, M__law_all, _⟩ := H__law_all
  obtain ⟨f_falls_many, fd_falls_many, G_falls_many, K_falls_many, B_falls_many, M_falls_many, _⟩ := H_falls_many
  refine ⟨f, fd, fn_m F sc_law (fun cdv A outer s H E hr => ?_), F.kp, F.binds (fun _ _ _ _ _ _ us hl => match us, hl with | [_], _ => rfl), hm, look_of F⟩
  exact (ss_cons (s_for PassesOwn.never rfl (si_enum rfl T.enumerate (se_bin or_add im_add (se_lst (sa_cons (se_call (G__law_cell_at.mono (by decide)) hr rfl M__law_cell_at K__law_cell_at B__law_cell_at (sa_cons (se_var 0) (sa_cons se_int sa_nil)) (len_cons (len_cons len_nil))) sa_nil)) (se_slice (se_var 0) (so_some se_int) (so_some se_int)))) (pg_tup rfl (pgs_cons (pg_name (i := 1) sc_law.nd rfl (by first | exact Or.inl rfl | exact Or.inr rfl)) (pgs_cons (pg_name (i := 2) sc_law.nd rfl (by first | exact Or.inl rfl | exact Or.inr rfl)) pgs_nil))) ig_two (ss_cons (s_set (i := 3) sc_law.nd rfl (by first | exact Or.inl rfl | exact Or.inr rfl) (se_call (G__law_pen_of.mono (by decide)) hr rfl M__law_pen_of K__law_pen_of B__law_pen_of (sa_cons (se_var 2) sa_nil) (len_cons len_nil)))
      (ss_cons (s_set (i := 4) sc_law.nd rfl (by first | exact Or.inl rfl | exact Or.inr rfl) (se_bin or_add im_add se_int (se_call (G__law_draw.mono (by decide)) hr rfl M__law_draw K__law_draw B__law_draw (sa_cons (se_var 3) (sa_cons se_int sa_nil)) (len_cons (len_cons len_nil)))))
      (ss_cons (s_set (i := 5) sc_law.nd rfl (by first | exact Or.inl rfl | exact Or.inr rfl) (se_call (G_row_of.mono (by decide)) hr rfl M_row_of K_row_of B_row_of (sa_cons (se_var 4) sa_nil) (len_cons len_nil)))
      (ss_cons (s_if (PW.pt (sw_or (st_cmp (op_neG hr.units) im_ne (se_var 5) (se_revG (se_var 5)) (nomark _)) (sw_or (st_cmp (op_neG hr.units) im_ne (se_callB (call_sumL rfl) im_sum rfl T.sum PyProof.Rows.boot_sum (sa_cons (se_var 5) sa_nil)) (se_call (G__law_product.mono (by decide)) hr rfl M__law_product K__law_product B__law_product (sa_cons (se_var 4) sa_nil) (len_cons len_nil)) (nomark _)) (sw_or1 (st_cmp op_isTn im_isTn (se_call (G_row_good.mono (by decide)) hr rfl M_row_good K_row_good B_row_good (sa_cons (se_var 5) sa_nil) (len_cons len_nil)) se_bl (nomark _)))))) (ss_one (s_ret se_bl)) ss_skip)
      (ss_cons (s_if (PW.pt (sw_or (st_cmp (op_neG hr.units) im_ne (se_call (G_upto_count.mono (by decide)) hr rfl M_upto_count K_upto_count B_upto_count (sa_cons (se_var 4) (sa_cons (se_bin op_sub im_sub (se_var 4) se_int) sa_nil)) (len_cons (len_cons len_nil))) (se_callB (call_sumL rfl) im_sum rfl T.sum PyProof.Rows.boot_sum (sa_cons (se_var 5) sa_nil)) (nomark _)) (sw_or1 (st_cmp (op_neG hr.units) im_ne (se_call (G_upto_count.mono (by decide)) hr rfl M_upto_count K_upto_count B_upto_count (sa_cons (se_var 4) (sa_cons se_int sa_nil)) (len_cons (len_cons len_nil))) se_int (nomark _))))) (ss_one (s_ret se_bl)) ss_skip)
      (ss_cons (s_if (st_cmp op_gt im_cmp (se_var 4) se_int (nomark _)) (ss_cons (s_set (i := 6) sc_law.nd rfl (by first | exact Or.inl rfl | exact Or.inr rfl) (se_call (G_row_before.mono (by decide)) hr rfl M_row_before K_row_before B_row_before (sa_cons (se_var 5) sa_nil) (len_cons len_nil)))
      (ss_cons (s_if (PW.pt (sw_or (st_cmp (op_neG hr.units) im_ne (se_call (G_row_next.mono (by decide)) hr rfl M_row_next K_row_next B_row_next (sa_cons (se_var 6) sa_nil) (len_cons len_nil)) (se_var 5) (nomark _)) (sw_or1 (st_cmp op_isTn im_isTn (se_call (G_row_good.mono (by decide)) hr rfl M_row_good K_row_good B_row_good (sa_cons (se_var 6) sa_nil) (len_cons len_nil)) se_bl (nomark _))))) (ss_one (s_ret se_bl)) ss_skip)
      (ss_one (s_for PassesOwn.never rfl (si_rng1 rfl T.range (sa_cons (se_var 4) sa_nil)) (pg_name (i := 7) sc_law.nd rfl (by first | exact Or.inl rfl | exact Or.inr rfl)) ig_name (ss_cons (s_set (i := 8) sc_law.nd rfl (by first | exact Or.inl rfl | exact Or.inr rfl) (se_ifExp (st_cmp op_lt im_cmp (se_var 7) (se_bin op_sub im_sub (se_var 4) se_int) (nomark _)) (se_ix ix_seq im_ix (se_var 6) (se_var 7) (fun _ _ => rfl)) se_int))
      (ss_cons (s_set (i := 9) sc_law.nd rfl (by first | exact Or.inl rfl | exact Or.inr rfl) (se_ifExp (st_cmp op_gt im_cmp (se_var 7) se_int (nomark _)) (se_ix ix_seq im_ix (se_var 6) (se_bin op_sub im_sub (se_var 7) se_int) (fun _ _ => rfl)) se_int))
      (ss_one (s_if (st_cmp (op_neG hr.units) im_ne (se_call (G_count_of.mono (by decide)) hr rfl M_count_of K_count_of B_count_of (sa_cons (se_var 4) (sa_cons (se_var 7) sa_nil)) (len_cons (len_cons len_nil))) (se_bin or_add im_add (se_bin or_mul im_mul (se_bin or_add im_add (se_var 7) se_int) (se_var 8)) (se_bin or_mul im_mul (se_bin op_sub im_sub (se_var 4) (se_var 7)) (se_var 9))) (nomark _)) (ss_one (s_ret se_bl)) ss_skip)))))))) ss_skip)
      (ss_one (s_if (st_cmp (op_eqG hr.units) im_eq (se_var 1) se_int (nomark _)) (ss_cons (s_set (i := 10) sc_law.nd rfl (by first | exact Or.inl rfl | exact Or.inr rfl) (se_bin or_add im_add se_int (se_call (G__law_draw.mono (by decide)) hr rfl M__law_draw K__law_draw B__law_draw (sa_cons (se_var 3) (sa_cons se_int sa_nil)) (len_cons (len_cons len_nil)))))
      (ss_cons (s_set (i := 11) sc_law.nd rfl (by first | exact Or.inl rfl | exact Or.inr rfl) (se_bin or_mul im_mul (se_lst (sa_cons se_int sa_nil)) (se_var 10)))
      (ss_cons (s_for PassesOwn.never rfl (si_seq (se_call (G__law_all.mono (by decide)) hr rfl M__law_all K__law_all B__law_all (sa_cons (se_var 10) sa_nil) (len_cons len_nil))) (pg_name (i := 12) sc_law.nd rfl (by first | exact Or.inl rfl | exact Or.inr rfl)) ig_name (ss_cons (s_set (i := 13) sc_law.nd rfl (by first | exact Or.inl rfl | exact Or.inr rfl) (se_call (G_falls_many.mono (by decide)) hr rfl M_falls_many K_falls_many B_falls_many (sa_cons (se_var 12) sa_nil) (len_cons len_nil)))
      (ss_one (s_setIx (se_bin or_add im_add (se_ix ix_seq im_ix (se_var 11) (se_var 13) (fun _ _ => rfl)) se_int) (se_var 11) (se_var 13) set_list im_setIx))))
      (ss_one (s_if (st_cmp (op_neG hr.units) im_ne (se_call (G_row_of.mono (by decide)) hr rfl M_row_of K_row_of B_row_of (sa_cons (se_var 10) sa_nil) (len_cons len_nil)) (se_var 11) (nomark _)) (ss_one (s_ret se_bl)) ss_skip))))) ss_skip)))))))))
      (ss_one (s_ret se_bl)))
end
structure Text (K : PySem.W.Frag) : Prop where
  d__law_pen_of : DefIs K "_law_pen_of" (topS 31)
  d_is_whole : DefIs K "is_whole" (topS 7)
  d_is_within : DefIs K "is_within" (topS 8)
  d_number_needed : DefIs K "number_needed" (topS 9)
  d_longer_row : DefIs K "longer_row" (topS 12)
  d_row_of : DefIs K "row_of" (topS 13)
  d__law_next : DefIs K "_law_next" (topS 30)
  d__law_draw : DefIs K "_law_draw" (topS 32)
  d_row_good : DefIs K "row_good" (topS 17)
  d_row_needed : DefIs K "row_needed" (topS 18)
  d_row_before : DefIs K "row_before" (topS 20)
  d__law_all : DefIs K "_law_all" (topS 33)
  d__law_cell_at : DefIs K "_law_cell_at" (topS 29)
  d__law_product : DefIs K "_law_product" (topS 34)
  d_numbers_needed : DefIs K "numbers_needed" (topS 16)
  d_upto_count : DefIs K "upto_count" (topS 15)
  d_order_good : DefIs K "order_good" (topS 23)
  d_order_needed : DefIs K "order_needed" (topS 24)
  d_falls_in : DefIs K "falls_in" (topS 25)
  d_falls_of : DefIs K "falls_of" (topS 26)
  d_falls_many : DefIs K "falls_many" (topS 27)
  d_row_next : DefIs K "row_next" (topS 19)
  d_count_of : DefIs K "count_of" (topS 14)
  d_law : DefIs K "law" (topS 35)
  z_bool : PySem.W.nsIn K mainGlobals "bool" = some none
  z_enumerate : PySem.W.nsIn K mainGlobals "enumerate" = some none
  z_int : PySem.W.nsIn K mainGlobals "int" = some none
  z_isinstance : PySem.W.nsIn K mainGlobals "isinstance" = some none
  z_len : PySem.W.nsIn K mainGlobals "len" = some none
  z_list : PySem.W.nsIn K mainGlobals "list" = some none
  z_max : PySem.W.nsIn K mainGlobals "max" = some none
  z_range : PySem.W.nsIn K mainGlobals "range" = some none
  z_set : PySem.W.nsIn K mainGlobals "set" = some none
  z_sum : PySem.W.nsIn K mainGlobals "sum" = some none
  z_tuple : PySem.W.nsIn K mainGlobals "tuple" = some none
  y_MOST_NUMBERS : ∃ t, PySem.W.nsIn K mainGlobals "MOST_NUMBERS" = some (some (Value.int 20 t))
  y_MOST_ROWS : ∃ t, PySem.W.nsIn K mainGlobals "MOST_ROWS" = some (some (Value.int 30 t))
theorem all_mk {P : Program} {w : World} {K : PySem.W.Frag} {h : Heap} {mg : Str → Option Value} {fa : Addr} (X : K.In h) (G : h.Ns mainGlobals mg) (hfa : mg "law" = some (.ref fa)) (t : Text K) :
    ∃ fd : FuncData, (∀ (s : Shared) (v : Value), BindsTo s fd ⟨[v], []⟩ [("_law_script", v)]) ∧ ∀ base : Heap, K.In base → base.Ns mainGlobals mg → FnOk P w K mg base CX0 8 fa fd ["_law_script"] (spM K (gOf mg) 1 m_law) := by
  have T : Blt mg := ⟨PySem.W.mg_none_of X G t.z_bool, PySem.W.mg_none_of X G t.z_enumerate, PySem.W.mg_none_of X G t.z_int, PySem.W.mg_none_of X G t.z_isinstance, PySem.W.mg_none_of X G t.z_len, PySem.W.mg_none_of X G t.z_list, PySem.W.mg_none_of X G t.z_max, PySem.W.mg_none_of X G t.z_range, PySem.W.mg_none_of X G t.z_set, PySem.W.mg_none_of X G t.z_sum, PySem.W.mg_none_of X G t.z_tuple⟩
  obtain ⟨t_MOST_NUMBERS, y_MOST_NUMBERS⟩ := t.y_MOST_NUMBERS
  have c_MOST_NUMBERS := PySem.W.mg_of X G y_MOST_NUMBERS
  obtain ⟨t_MOST_ROWS, y_MOST_ROWS⟩ := t.y_MOST_ROWS
  have c_MOST_ROWS := PySem.W.mg_of X G y_MOST_ROWS
  have D__law_pen_of := DefAt.of X G t.d__law_pen_of
  have D_is_whole := DefAt.of X G t.d_is_whole
  have D_is_within := DefAt.of X G t.d_is_within
  have D_number_needed := DefAt.of X G t.d_number_needed
  have D_longer_row := DefAt.of X G t.d_longer_row
  have D_row_of := DefAt.of X G t.d_row_of
  have D__law_next := DefAt.of X G t.d__law_next
  have D__law_draw := DefAt.of X G t.d__law_draw
  have D_row_good := DefAt.of X G t.d_row_good
  have D_row_needed := DefAt.of X G t.d_row_needed
  have D_row_before := DefAt.of X G t.d_row_before
  have D__law_all := DefAt.of X G t.d__law_all
  have D__law_cell_at := DefAt.of X G t.d__law_cell_at
  have D__law_product := DefAt.of X G t.d__law_product
  have D_numbers_needed := DefAt.of X G t.d_numbers_needed
  have D_upto_count := DefAt.of X G t.d_upto_count
  have D_order_good := DefAt.of X G t.d_order_good
  have D_order_needed := DefAt.of X G t.d_order_needed
  have D_falls_in := DefAt.of X G t.d_falls_in
  have D_falls_of := DefAt.of X G t.d_falls_of
  have D_falls_many := DefAt.of X G t.d_falls_many
  have D_row_next := DefAt.of X G t.d_row_next
  have D_count_of := DefAt.of X G t.d_count_of
  have D_law := DefAt.of X G t.d_law
  obtain ⟨f, fd, hm, F⟩ := D_law
  have e := hfa.symm.trans hm
  cases e
  refine ⟨fd, ?_, fun base _ _ => ?_⟩
  · obtain ⟨oc, od, kV, doc, pm, an, cdv, ct, osl, rfl, lk, hcd⟩ := F.ex
    exact fun s v => .of_eq rfl
  · have H__law_pen_of := h__law_pen_of (P := P) (w := w) (base := base) (g := gOf mg) D__law_pen_of T
    have H_is_whole := h_is_whole (P := P) (w := w) (base := base) (g := gOf mg) D_is_whole T
    have H_is_within := h_is_within (P := P) (w := w) (base := base) (g := gOf mg) D_is_within T H_is_whole
    have H_number_needed := h_number_needed (P := P) (w := w) (base := base) (g := gOf mg) D_number_needed T H_is_within
    have H_longer_row := h_longer_row (P := P) (w := w) (base := base) (g := gOf mg) D_longer_row T
    have H_row_of := h_row_of (P := P) (w := w) (base := base) (g := gOf mg) D_row_of T c_MOST_ROWS H_number_needed H_longer_row
    have H__law_next := h__law_next (P := P) (w := w) (base := base) (g := gOf mg) D__law_next T
    have H__law_draw := h__law_draw (P := P) (w := w) (base := base) (g := gOf mg) D__law_draw T H__law_next
    have H_row_good := h_row_good (P := P) (w := w) (base := base) (g := gOf mg) D_row_good T c_MOST_ROWS H_is_whole H_row_of
    have H_row_needed := h_row_needed (P := P) (w := w) (base := base) (g := gOf mg) D_row_needed T H_row_good
    have H_row_before := h_row_before (P := P) (w := w) (base := base) (g := gOf mg) D_row_before T H_row_needed H_row_of
    have H__law_all := h__law_all (P := P) (w := w) (base := base) (g := gOf mg) D__law_all T
    have H__law_cell_at := h__law_cell_at (P := P) (w := w) (base := base) (g := gOf mg) D__law_cell_at T
    have H__law_product := h__law_product (P := P) (w := w) (base := base) (g := gOf mg) D__law_product T
    have H_numbers_needed := h_numbers_needed (P := P) (w := w) (base := base) (g := gOf mg) D_numbers_needed T c_MOST_ROWS H_number_needed
    have H_upto_count := h_upto_count (P := P) (w := w) (base := base) (g := gOf mg) D_upto_count T H_numbers_needed H_row_of
    have H_order_good := h_order_good (P := P) (w := w) (base := base) (g := gOf mg) D_order_good T c_MOST_NUMBERS H_is_within
    have H_order_needed := h_order_needed (P := P) (w := w) (base := base) (g := gOf mg) D_order_needed T H_order_good
    have H_falls_in := h_falls_in (P := P) (w := w) (base := base) (g := gOf mg) D_falls_in T
    have H_falls_of := h_falls_of (P := P) (w := w) (base := base) (g := gOf mg) D_falls_of T H_order_needed H_falls_in
    have H_falls_many := h_falls_many (P := P) (w := w) (base := base) (g := gOf mg) D_falls_many T H_falls_of
    have H_row_next := h_row_next (P := P) (w := w) (base := base) (g := gOf mg) D_row_next T c_MOST_ROWS H_row_needed H_longer_row
    have H_count_of := h_count_of (P := P) (w := w) (base := base) (g := gOf mg) D_count_of T H_numbers_needed H_row_of
    have H_law := h_law (P := P) (w := w) (base := base) (g := gOf mg) ⟨_, _, hm, F⟩ T H__law_cell_at H__law_pen_of H__law_draw H_row_of H__law_product H_row_good H_upto_count H_row_before H_row_next H_count_of H__law_all H_falls_many
    exact has_fn F hm H_law
theorem walk {l : PySem.W.OpenLaw} {q : Program} {loose : List Str} {XP : (Str → Option Value) → Heap → Prop} {YP : World → Heap → Prop} {d : DefRec} {K : Params → PySem.W.Frag} (hn : l.most = some 63) (hdf : d.params.defaults = [])
    (hY : ∀ (w : World) (h : Heap), YP w h → (K w.params).In h)
    (ok : ∀ ns : List Int, ns.length ≤ 63 → ∃ h, m_law [.frl (ns.map D.int)] [] = .ok (.bl true) h)
    (F : ∀ (w : World) (mg : Str → Option Value) (fa : Addr) (h : Heap), (K w.params).In h → h.Ns mainGlobals mg → mg d.name = some (.ref fa) →
      ∃ fd : FuncData, (∀ (s : Shared) (u : Value), BindsTo s fd ⟨[u], []⟩ [("_law_script", u)]) ∧ ∀ base : Heap, (K w.params).In base → base.Ns mainGlobals mg → FnOk l.prog w (K w.params) mg base CX0 8 fa fd ["_law_script"] (spM (K w.params) (gOf mg) 1 m_law)) :
    PySem.W.WalkO q loose XP YP l.row.toRowW d [] (fun f vs => PySem.call f vs) :=
  walk_m (k := 8) hn hdf ⟨rfl, by decide, by decide, rfl⟩ hY ok F
end FC
namespace FC
open PySem L2 L2.FD
/-! ### the law's pen -/
theorem sml_small {i : Int} (h1 : -(10 ^ 30) ≤ i) (h2 : i ≤ 10 ^ 30) : sml i = true := sml_of (Nat.le_trans (show i.natAbs ≤ 10 ^ 30 by omega) (by decide +kernel))
theorem ok_next (x : Int) (h : Hh) : Ok (m__law_next [.int x] h) fun d h' => h' = h ∧ ∃ r, d = .int r ∧ 0 ≤ r ∧ r < 2147483629 := by
  have h1 : 0 ≤ (x + 7919) % 2147483647 := Int.emod_nonneg _ (by decide)
  have h2 : (x + 7919) % 2147483647 < 2147483647 := Int.emod_lt_of_pos _ (by decide)
  have s1 : sml ((x + 7919) % 2147483647) = true := sml_small (by omega) (by omega)
  have s2 : sml 48271 = true := by decide +kernel
  rw [m__law_next, o_fun]
  simp [s1, s2]
  exact ⟨Int.emod_nonneg _ (by decide), Int.emod_lt_of_pos _ (by decide)⟩
structure IsPen (h : Hh) (p : Nat) : Prop where
  ex : ∃ a b s, lstOf h p = some [.int a, .int b, .int s] ∧ 0 ≤ a
theorem ok_pen (c : Int) (h : Hh) : Ok (m__law_pen_of [.int c] h) fun d h' => d = .ref h.length ∧ Le h h' ∧ IsPen h' h.length ∧ h'.length = h.length + 1 := by
  have s1 : sml 10 = true := by decide +kernel
  rw [m__law_pen_of, o_fun]
  simp [s1]
  refine ⟨Le.app _ _, ⟨_, _, _, lst_new _ _, ?_⟩⟩
  split <;> omega
theorem ok_draw (p : Nat) (m : Int) (h : Hh) (hp : IsPen h p) (h0 : 0 < m) (h1 : m ≤ 1000000) : Ok (m__law_draw [.ref p, .int m] h) fun d h' => ∃ r, d = .int r ∧ 0 ≤ r ∧ r < m ∧ LeB p h h' ∧ IsPen h' p ∧ h'.length = h.length := by
  obtain ⟨a, b, s, e, ha⟩ := hp
  have sm : sml m = true := sml_small (by omega) (by omega)
  have s64 : sml 64 = true := by decide +kernel
  have e0 : atI [D.int a, D.int b, D.int s] 0 = some (.int a) := rfl
  have e1 : atI [D.int a, D.int b, D.int s] 1 = some (.int b) := rfl
  have e2 : atI [D.int a, D.int b, D.int s] 2 = some (.int s) := rfl
  rw [m__law_draw, o_fun]
  have tail : Ok (cSeq (cSetIx dSetIx (cVar 0) (cC (.int 2)) (cCall m__law_next (cCons (cBin dAdd (cCall m__law_next (cCons (cBin dIx (cVar 0) (cC (.int 2))) cNil)) (cC (.int 7))) cNil)))
    (cRet (cBin dMod (cBin dDiv (cBin dIx (cVar 0) (cC (.int 2))) (cC (.int 64))) (cVar 1))) [some (.ref p), some (.int m), none] h) (fin fun d h' => ∃ r, d = .int r ∧ 0 ≤ r ∧ r < m ∧ LeB p h h' ∧ IsPen h' p ∧ h'.length = h.length) := by
    simp only [o_seq, o_setIx, o_call, o_cons, o_bin, o_nil, o_var0, o_varS, o_C, d_ixL e e2]
    refine (ok_next s h).mono fun d h' ⟨e', r, er, r0, r1⟩ => ?_
    subst e' er
    simp only [d_addI]
    refine (ok_next _ h').mono fun d h2 ⟨e', r', er, r0', r1'⟩ => ?_
    subst e' er
    rw [d_setIx e (j := 2) rfl]
    have e' := lst_set (es := [D.int a, D.int b, D.int r']) e
    have e2' : atI [D.int a, D.int b, D.int r'] 2 = some (.int r') := rfl
    simp only [List.set, aft_nx, o_ret, o_bin, o_var0, o_varS, o_C, d_ixL e' e2', d_divI, d_modI, s64, sm, fin_rt]
    refine ⟨⟨by decide, trivial⟩, h0, _, rfl, Int.emod_nonneg _ (by omega), Int.emod_lt_of_pos _ h0, LeB.set _ _ _, ⟨_, _, _, e', ha⟩, by simp⟩
  simp only [List.map, List.length, List.replicate, List.append, List.cons_append, List.nil_append, o_seq, o_ifS, o_andT, o_test, o_bin, o_var0, o_varS, o_C, d_ixL e e1, d_ixL e e0, d_eqI, d_cmpI, o_asB]
  by_cases hb : (b == 1) = true
  · rw [if_pos hb]
    by_cases hg : decide (0 < a) = true
    · rw [if_pos hg]
      simp only [o_seq, o_set, o_bin, o_var0, o_varS, o_C, d_ixL e e0, d_modI, aft_nx, o_setIx, d_divI]
      refine ⟨h0, ?_⟩
      rw [show List.set [some (D.ref p), some (D.int m), none] 2 (some (D.int (a % m))) = [some (D.ref p), some (D.int m), some (D.int (a % m))] from rfl]
      simp only [o_var0, o_varS, d_ixL e e0]
      rw [d_divI]
      refine ⟨⟨h0, sm⟩, ?_⟩
      rw [d_setIx e (j := 0) rfl]
      have e' := lst_set (es := [D.int (a / m), D.int b, D.int s]) e
      simp only [aft_nx, o_ret, o_var0, o_varS, aft_rt, fin_rt, List.set]
      exact ⟨_, rfl, Int.emod_nonneg _ (by omega), Int.emod_lt_of_pos _ h0, LeB.set _ _ _, ⟨_, _, _, e', Int.ediv_nonneg ha (by omega)⟩, by simp⟩
    · rw [if_neg hg]
      simpa using tail
  · rw [if_neg hb]
    simpa using tail
theorem ok_cell (ns : List Int) (h : Hh) : Ok (m__law_cell_at [.frl (ns.map D.int), .int 0] h) fun d h' => h' = h ∧ ∃ c, d = .int c := by
  rw [m__law_cell_at, o_fun]
  simp
  cases ns with
  | nil => simp
  | cons c r =>
    intro _
    rw [d_ix (a := .frl ((c :: r).map D.int)) (ds := (c :: r).map D.int) (i := 0) (d := .int c) rfl (atI_nat' (j := 0) rfl rfl)]
    simp
end FC
namespace FC
open PySem L2 L2.FD
theorem ok_whole (i : Int) (h : Hh) : Ok (m_is_whole [.int i] h) fun d h' => d = .bl true ∧ h' = h := by
  rw [m_is_whole, o_fun]; simp
theorem ok_within (i a b : Int) (h : Hh) : Ok (m_is_within [.int i, .int a, .int b] h) fun d h' => d = .bl (decide (a ≤ i ∧ i ≤ b)) ∧ h' = h := by
  rw [m_is_within, o_fun]
  simp only [List.map, List.length, List.replicate, List.cons_append, List.nil_append, o_ret, o_andV, o_call, o_cons, o_nil, o_var0, o_varS]
  refine (ok_whole i h).mono fun d h' ⟨e, e'⟩ => ?_
  subst e e'
  simp
  by_cases z : a ≤ i <;> simp [z]
end FC
namespace FC
open PySem L2 L2.FD
theorem ok_needed (i a b : Int) (h : Hh) (h1 : a ≤ i) (h2 : i ≤ b) : Ok (m_number_needed [.int i, .int a, .int b] h) fun d h' => h' = h := by
  rw [m_number_needed, o_fun]
  simp only [List.map, List.length, List.replicate, List.cons_append, List.nil_append, o_ifS, o_notT, o_test, o_call, o_cons, o_nil, o_var0, o_varS]
  refine (ok_within i a b h).mono fun d h' ⟨e, e'⟩ => ?_
  subst e e'
  simp [h1, h2]
/-! ### rows -/
def longL (xs : List Int) : List Int := (List.range (xs.length + 1)).map fun (k : Nat) => ((k : Int) + 1) * (0 :: xs ++ [0]).getD (k + 1) 0 + ((xs.length : Int) + 1 - (k : Int)) * (0 :: xs ++ [0]).getD k 0
def rowL : Nat → List Int
  | 0 => [1]
  | n + 1 => longL (rowL n)
theorem row_bound : ∀ n, n < 31 → (rowL n).length = n + 1 ∧ ∀ x ∈ rowL n, x.natAbs ≤ 10 ^ 40 := by decide +kernel
theorem longL_len (xs : List Int) : (longL xs).length = xs.length + 1 := by simp [longL]
theorem ok_longer (r : Nat) (xs : List Int) (h : Hh) (e : lstOf h r = some (xs.map D.int)) (hl : xs.length ≤ 100) (hb : ∀ x ∈ xs, x.natAbs ≤ 10 ^ 40) :
    Ok (m_longer_row [.ref r] h) fun d h' => Le h h' ∧ ∃ i, d = .ref i ∧ h.length ≤ i ∧ lstOf h' i = some ((longL xs).map D.int) := by
  have hb' : ∀ k, sml ((0 :: xs ++ [0]).getD k 0) = true := fun k => by
    refine sml_of ?_
    by_cases hk : k < (0 :: xs ++ [0]).length
    · have hm : (0 :: xs ++ [0]).getD k 0 ∈ (0 :: xs ++ [0]) := by
        rw [List.getD_eq_getElem?_getD, List.getElem?_eq_getElem hk]; exact List.getElem_mem hk
      have : ∀ y ∈ (0 :: xs ++ [0]), y.natAbs ≤ 10 ^ 40 := by
        intro y hy
        simp at hy
        rcases hy with rfl | hy | rfl
        · decide
        · exact hb y hy
        · decide
      exact Nat.le_trans (this _ hm) (by decide +kernel)
    · rw [List.getD_eq_getElem?_getD, List.getElem?_eq_none (by omega)]; decide +kernel
  rw [m_longer_row, o_fun]
  simp only [List.map, List.length, List.replicate, List.cons_append, List.nil_append, o_seq, o_set, o_bin, o_call, o_cons, o_nil, o_var0, o_varS, o_C, d_lenL e, d_addI, aft_nx, List.set, d_lst]
  refine ⟨by decide, ?_⟩
  have x1 := Le.app h [O.lst [D.int 0]]
  rw [d_addL (lst_new _ _) (x1.lst e)]
  refine ⟨by simp; omega, by decide, ?_⟩
  generalize hH : (h ++ [O.lst [D.int 0]]) = h1 at *
  have a1 := lst_new h1 ([D.int 0] ++ List.map D.int xs)
  have x2 := Le.app h1 [O.lst ([D.int 0] ++ List.map D.int xs)]
  generalize h1 ++ [O.lst ([D.int 0] ++ List.map D.int xs)] = h2 at *
  have a2 := lst_new h2 [D.int 0]
  have x3 := Le.app h2 [O.lst [D.int 0]]
  rw [d_addL (x3.lst a1) a2]
  refine ⟨by simp; omega, ?_⟩
  have a3 : lstOf (h2 ++ [O.lst [D.int 0]] ++ [O.lst ([D.int 0] ++ List.map D.int xs ++ [D.int 0])]) (h2 ++ [O.lst [D.int 0]]).length = some ((0 :: xs ++ [0]).map D.int) := by rw [lst_new]; simp
  have x4 : Le h (h2 ++ [O.lst [D.int 0]] ++ [O.lst ([D.int 0] ++ List.map D.int xs ++ [D.int 0])]) := x1.trans (x2.trans (x3.trans (Le.app _ _)))
  generalize (h2 ++ [O.lst [D.int 0]]).length = q at *
  generalize h2 ++ [O.lst [D.int 0]] ++ [O.lst ([D.int 0] ++ List.map D.int xs ++ [D.int 0])] = h3 at *
  simp only [aft_nx, o_ret]
  refine o_compS ?_
  simp only [i_rng1 (j := 0), o_cons, o_nil, o_var0, o_varS, r_rng1]
  refine ⟨by rw [List.length_map]; omega, _, rfl, by simp; omega, ?_⟩
  refine comp_map (fun (k : Nat) => D.int (((k : Int) + 1) * (0 :: xs ++ [0]).getD (k + 1) 0 + ((xs.length : Int) + 1 - (k : Int)) * (0 :: xs ++ [0]).getD k 0)) (fun h' => h' = h3) rfl (fun i d h' hd e' => ?_) (fun h' e' => ?_)
  · subst e'
    obtain ⟨hi, rfl⟩ := intsD_get hd
    have hi' : i < xs.length + 1 := by rw [List.length_map] at hi; omega
    have t1 : atI ((0 :: xs ++ [0]).map D.int) (0 + (i : Int) + 1) = some (.int ((0 :: xs ++ [0]).getD (i + 1) 0)) := atI_ints (by omega) (by simp; omega)
    have t2 : atI ((0 :: xs ++ [0]).map D.int) (0 + (i : Int)) = some (.int ((0 :: xs ++ [0]).getD i 0)) := atI_ints (by omega) (by simp; omega)
    simp only [capE, List.map, List.set, List.getElem?_cons_zero, List.getElem?_cons_succ, join_ss, o_bin, o_var0, o_varS, o_C, d_addI, d_subI, d_ixL a3 t1, d_ixL a3 t2, d_mulI, hb']
    have s1 : sml (0 + (i : Int) + 1) = true := sml_small (by omega) (by omega)
    have s2 : sml ((List.map D.int xs).length + 1 - (0 + (i : Int))) = true := sml_small (by rw [List.length_map]; omega) (by rw [List.length_map]; omega)
    refine ⟨⟨s1, trivial⟩, ⟨s2, trivial⟩, ?_, trivial⟩
    rw [List.length_map, Int.zero_add]
  · subst e'
    simp only [aft_rt, fin_rt]
    refine ⟨le_new x4 _, _, rfl, Le.len x4, ?_⟩
    rw [lst_new]
    congr 1
    unfold longL
    rw [List.map_map, intsD_len, List.length_map]
    rw [show ((xs.length : Int) + 1).toNat = xs.length + 1 by omega]
    rfl
theorem ok_row (n : Nat) (hn : n < 30) (h : Hh) : Ok (m_row_of [.int (n + 1 : Nat)] h) fun d h' => Le h h' ∧ ∃ i, d = .ref i ∧ h.length ≤ i ∧ lstOf h' i = some ((rowL n).map D.int) := by
  rw [m_row_of, o_fun]
  simp only [List.map, List.length, List.replicate, List.cons_append, List.nil_append, o_seq, o_expr, o_call, o_cons, o_nil, o_var0, o_varS, o_C]
  refine (ok_needed _ 1 30 h (by omega) (by omega)).mono fun d h' e => ?_
  subst e
  simp only [aft_nx, o_seq, o_set, o_call, o_cons, o_C, o_nil, d_lst, List.set, List.length]
  refine ⟨by decide, ?_⟩
  have x1 := Le.app h' [O.lst [D.int 1]]
  have a1 : lstOf (h' ++ [O.lst [D.int 1]]) h'.length = some ((rowL 0).map D.int) := lst_new _ _
  have key : ∀ (k m f : Nat) (h : Hh) (r : Nat), k + m = n → k < f → Le h' h → h'.length ≤ r → lstOf h r = some ((rowL m).map D.int) →
      Ok (whileF (cTest asB (cBin dLt (cCall dLen (cCons (cVar 1) cNil)) (cVar 0))) (cSet 1 (cCall m_longer_row (cCons (cVar 1) cNil))) f [some (.int (n + 1 : Nat)), some (.ref r)] h)
        (aft (cRet (cVar 1)) (fin fun d h2 => Le h' h2 ∧ ∃ i, d = .ref i ∧ h'.length ≤ i ∧ lstOf h2 i = some ((rowL n).map D.int))) := by
    intro k
    induction k with
    | zero =>
      intro m f h r hk hf x hr a
      have : m = n := by omega
      subst this
      obtain ⟨f, rfl⟩ : ∃ g, f = g + 1 := ⟨f - 1, by omega⟩
      have hl := (row_bound m (by omega)).1
      simp only [whileF, ok_bind, o_test, o_bin, o_call, o_cons, o_nil, o_var0, o_varS, d_lenL a, d_cmpI, o_asB, List.length_map, hl]
      rw [decide_eq_false (by omega)]
      simp
      exact ⟨x, hr, a⟩
    | succ k ih =>
      intro m f h r hk hf x hr a
      obtain ⟨f, rfl⟩ : ∃ g, f = g + 1 := ⟨f - 1, by omega⟩
      obtain ⟨hl, hb⟩ := row_bound m (by omega)
      simp only [whileF, ok_bind, o_test, o_bin, o_call, o_cons, o_nil, o_var0, o_varS, d_lenL a, d_cmpI, o_asB, List.length_map, hl]
      rw [decide_eq_true (by omega)]
      simp only [if_true, ok_bind, o_set, o_call, o_cons, o_nil, o_var0, o_varS]
      refine (ok_longer r (rowL m) h a (by omega) hb).mono fun d h2 ⟨x2, i, e, hi, a2⟩ => ?_
      subst e
      exact ih (m + 1) f h2 i (by omega) (by omega) (x.trans x2) (by have := x.len; omega) a2
  exact key n 0 64 _ _ (by omega) (by omega) x1 (Nat.le_refl _) a1
end FC
namespace FC
open PySem L2 L2.FD
/-! ### slices of ints -/
def cutG {β : Type} (xs : List β) (lo hi : Option Int) : List β := (xs.drop (HT.sIx xs.length 0 lo)).take (HT.sIx xs.length xs.length hi - HT.sIx xs.length 0 lo)
theorem cut_ints (ns : List Int) (lo hi : Option Int) : cutD (ns.map D.int) lo hi = (cutG ns lo hi).map D.int := by
  unfold cutD cutG
  rw [List.length_map, List.map_take, List.map_drop]
theorem cutG_len {β : Type} (xs : List β) (lo hi : Option Int) : (cutG xs lo hi).length ≤ xs.length := by
  unfold cutG
  rw [List.length_take, List.length_drop]; omega
theorem cutG_mem {β : Type} {xs : List β} {lo hi : Option Int} {x : β} (h : x ∈ cutG xs lo hi) : x ∈ xs := List.mem_of_mem_drop (List.mem_of_mem_take h)
theorem ok_both (n k : Nat) (hn : n < 30) (hk : k < 31) (h : Hh) : Ok (m_numbers_needed [.int (n + 1 : Nat), .int k] h) fun d h' => h' = h := by
  rw [m_numbers_needed, o_fun]
  simp only [List.map, List.length, List.replicate, List.cons_append, List.nil_append, o_seq, o_expr, o_call, o_cons, o_nil, o_var0, o_varS, o_C]
  refine (ok_needed _ 1 30 h (by omega) (by omega)).mono fun d h' e => ?_
  subst e
  simp only [aft_nx, o_expr, o_call, o_cons, o_nil, o_var0, o_varS, o_C]
  exact (ok_needed _ 0 30 h' (by omega) (by omega)).mono fun d h2 e => by subst e; rfl
theorem ok_count_of (n k : Nat) (hn : n < 30) (hk : k < 31) (h : Hh) : Ok (m_count_of [.int (n + 1 : Nat), .int k] h) fun d h' => d = .int (cutG (rowL n) (some k) (some ((k : Int) + 1))).sum ∧ Le h h' := by
  rw [m_count_of, o_fun]
  simp only [List.map, List.length, List.replicate, List.cons_append, List.nil_append, o_seq, o_expr, o_call, o_cons, o_nil, o_var0, o_varS, o_C]
  refine (ok_both n k hn hk h).mono fun d h' e => ?_
  subst e
  simp only [aft_nx, o_ret, o_call, o_cons, o_nil, o_slice, o_var0, o_varS, o_C, o_part, o_bin]
  refine (ok_row n hn h').mono fun d h2 ⟨x, i, e, hi, a⟩ => ?_
  subst e
  refine ⟨_, rfl, ?_⟩
  simp only [d_addI]
  refine ⟨_, rfl, ?_⟩
  rw [d_cutL a, cut_ints, d_sumL (lst_new _ _)]
  exact ⟨rfl, le_new x _⟩
theorem ok_upto (n k : Nat) (hn : n < 30) (hk : k < 31) (h : Hh) : Ok (m_upto_count [.int (n + 1 : Nat), .int k] h) fun d h' => d = .int (cutG (rowL n) none (some ((k : Int) + 1))).sum ∧ Le h h' := by
  rw [m_upto_count, o_fun]
  simp only [List.map, List.length, List.replicate, List.cons_append, List.nil_append, o_seq, o_expr, o_call, o_cons, o_nil, o_var0, o_varS, o_C]
  refine (ok_both n k hn hk h).mono fun d h' e => ?_
  subst e
  simp only [aft_nx, o_ret, o_call, o_cons, o_nil, o_slice, o_var0, o_varS, o_C, o_part, o_noPart, o_bin]
  refine (ok_row n hn h').mono fun d h2 ⟨x, i, e, hi, a⟩ => ?_
  subst e
  simp only [d_addI]
  refine ⟨_, rfl, ?_⟩
  rw [d_cutL a, cut_ints, d_sumL (lst_new _ _)]
  exact ⟨rfl, le_new x _⟩
end FC
namespace FC
open PySem L2 L2.FD
/-! ### orders -/
structure Ord (ns : List Int) : Prop where
  one : 1 ≤ ns.length
  twenty : ns.length ≤ 20
  rng : ∀ x ∈ ns, 0 ≤ x ∧ x < (ns.length : Int)
  nd : ns.Nodup
abbrev tupI (ns : List Int) : D := .tup (ns.map D.int)
theorem ints_get {ns : List Int} {i : Nat} {d : D} (h : (ns.map D.int)[i]? = some d) : ∃ x, ns[i]? = some x ∧ d = .int x := by
  rw [List.getElem?_map] at h
  cases e : ns[i]? with
  | none => rw [e] at h; cases h
  | some x => rw [e] at h; cases h; exact ⟨x, rfl, rfl⟩
theorem ok_good {ns : List Int} (o : Ord ns) (h : Hh) : Ok (m_order_good [tupI ns] h) fun d h' => d = .bl true ∧ Le h h' := by
  have h1 := o.one
  have h20 := o.twenty
  rw [m_order_good, o_fun]
  simp only [List.map_cons, List.map_nil, List.length_cons, List.length_nil, List.replicate, Nat.reduceSub, Nat.reduceAdd, List.cons_append, List.nil_append, o_seq, o_ifS, o_orT, o_notT, o_test, o_un, o_var0, d_isT_tup, d_truB, Bool.not_true, Bool.false_eq_true, if_false, o_chain, o_C, o_call, o_cons, o_nil, d_lenT, d_cmpI, o_asB, List.length_map]
  rw [decide_eq_true (show (1 : Int) ≤ (ns.length : Int) by omega)]
  simp only [if_true, d_cmpI, o_asB, o_C]
  rw [decide_eq_true (show (ns.length : Int) ≤ 20 by omega)]
  simp only [Bool.not_true, Bool.false_eq_true, if_false, o_skip, aft_nx, o_seq, o_forS, i_seq, o_var0, q_tup, o_asB]
  refine forS_ok (fun _ e h' => h' = h ∧ ∃ y, e = [some (tupI ns), y]) ⟨rfl, _, rfl⟩ (fun i d e h' hd ⟨e1, y, e2⟩ => ?_) (fun e h' ⟨e1, y, e2⟩ => ?_)
  · subst e1 e2
    obtain ⟨x, hx, rfl⟩ := ints_get hd
    obtain ⟨x0, x1⟩ := o.rng x (List.mem_of_getElem? hx)
    simp only [g_N, List.set, o_ifS, o_notT, o_test, o_call, o_cons, o_nil, o_var0, o_varS, o_C, o_bin, d_lenT, d_subI, List.length_map]
    refine (ok_within x 0 ((ns.length : Int) - 1) h').mono fun d h2 ⟨e3, e4⟩ => ?_
    subst e3 e4
    rw [decide_eq_true (show 0 ≤ x ∧ x ≤ (ns.length : Int) - 1 by omega)]
    simp
  · subst e1 e2
    simp only [aft_nx, o_ret, o_bin, o_call, o_cons, o_nil, o_var0, dSet, intsOf_map]
    rw [if_pos (by omega)]
    simp only [ok_ok]
    rw [d_lenS (set_new _ _), d_lenT, d_eqI, unl_nodup o.nd, List.length_map]
    simp
    exact Le.app _ _
theorem ok_oneeded {ns : List Int} (o : Ord ns) (h : Hh) : Ok (m_order_needed [tupI ns] h) fun d h' => Le h h' := by
  rw [m_order_needed, o_fun]
  simp only [List.map_cons, List.map_nil, List.length_cons, List.length_nil, List.replicate, Nat.reduceSub, Nat.reduceAdd, List.cons_append, List.nil_append, List.append_nil, o_ifS, o_notT, o_test, o_call, o_cons, o_nil, o_var0]
  refine (ok_good o h).mono fun d h' ⟨e1, e2⟩ => ?_
  subst e1
  simpa using e2
def isFall (ns : List Int) (i : Nat) : Bool := decide (ns.getD (i + 1) 0 < ns.getD i 0)
def isRise (ns : List Int) (i : Nat) : Bool := decide (ns.getD i 0 < ns.getD (i + 1) 0)
def places (n : Nat) (p : Nat → Bool) : List Int := ((List.range n).filter p).map fun (i : Nat) => (i : Int)
def fallsL (ns : List Int) : List Int := places (ns.length - 1) (isFall ns)
def risesL (ns : List Int) : List Int := places (ns.length - 1) (isRise ns)
theorem places_succ (n : Nat) (p : Nat → Bool) : places (n + 1) p = places n p ++ (if p n = true then [(n : Int)] else []) := by
  unfold places
  rw [List.range_succ, List.filter_append, List.map_append]
  congr 1
  cases h : p n <;> simp [h]
theorem places_len (n : Nat) (p : Nat → Bool) : (places n p).length ≤ n := by
  unfold places
  rw [List.length_map]
  exact Nat.le_trans (List.length_filter_le _ _) (by simp)
/-- [place for place in range(..) if test]: the places where the test is true -/
theorem comp_places {tt : MT} {ee : D → En} {n : Nat} {h : Hh} {Q : List D → Hh → Prop} (p : Nat → Bool) (I : Hh → Prop) (h0 : I h)
    (he : ∀ d, ∃ r, ee d = some d :: r)
    (step : ∀ i h, i < n → I h → Ok (tt (ee (.int (i : Int))) h) fun b h' => b = p i ∧ I h') (hd : ∀ h', I h' → Q ((places n p).map D.int) h') : Ok (compS tt (cVar 0) ee (intsD 0 n) h) Q := by
  refine compS_ok (fun i ys h => ys = (places i p).map D.int ∧ I h) ⟨by simp [places], h0⟩ (fun i d ys h hd' ⟨e, hi⟩ => ?_) (fun ys h ⟨e, hi⟩ => ?_)
  · obtain ⟨hin, rfl⟩ := intsD_get hd'
    rw [Int.zero_add]
    refine (step i h hin hi).mono fun b h' ⟨e2, hi'⟩ => ?_
    obtain ⟨r, er⟩ := he (.int (i : Int))
    rw [places_succ, ← e2, e, er]
    cases b <;> simp [hi']
  · rw [intsD_len] at e
    rw [e]; exact hd h hi
theorem ok_falls_in {ns : List Int} (h1 : 1 ≤ ns.length) (h20 : ns.length ≤ 1000) (h : Hh) : Ok (m_falls_in [tupI ns] h) fun d h' => d = tupI (fallsL ns) ∧ Le h h' := by
  rw [m_falls_in, o_fun]
  simp only [List.map_cons, List.map_nil, List.length_cons, List.length_nil, List.replicate, Nat.reduceSub, Nat.reduceAdd, List.cons_append, List.nil_append, List.append_nil, o_ret, o_call, o_cons, o_nil]
  refine o_compS ?_
  simp only [i_rng1 (j := 0), o_cons, o_nil, o_bin, o_call, o_var0, o_C, d_lenT, d_subI, r_rng1, List.length_map]
  refine ⟨by omega, _, rfl, by simp; omega, ?_⟩
  rw [show ((ns.length : Int) - 1).toNat = ns.length - 1 by omega]
  refine comp_places (isFall ns) (fun h' => h' = h) rfl (fun d => ⟨_, rfl⟩) (fun i h' hi e => ?_) (fun h' e => ?_)
  · subst e
    have t1 : atI (ns.map D.int) (i : Int) = some (.int (ns.getD i 0)) := atI_ints rfl (by omega)
    have t2 : atI (ns.map D.int) ((i : Int) + 1) = some (.int (ns.getD (i + 1) 0)) := atI_ints (by omega) (by omega)
    simp only [capE, List.map, List.getElem?_cons_zero, join_ss, o_test, o_bin, o_var0, o_varS, o_C, d_addI, d_ixT t1, d_ixT t2, d_cmpI, o_asB]
    exact ⟨rfl, trivial⟩
  · subst e
    simp only [dTuple, lst_new, ok_ok, fin_rt]
    exact ⟨rfl, Le.app _ _⟩
theorem ok_falls {ns : List Int} (o : Ord ns) (h : Hh) : Ok (m_falls_of [tupI ns] h) fun d h' => d = tupI (fallsL ns) ∧ Le h h' := by
  have := o.twenty
  rw [m_falls_of, o_fun]
  simp only [List.map_cons, List.map_nil, List.length_cons, List.length_nil, List.replicate, Nat.reduceSub, Nat.reduceAdd, List.cons_append, List.nil_append, List.append_nil, o_seq, o_expr, o_call, o_cons, o_nil, o_var0]
  refine (ok_oneeded o h).mono fun d h1 x1 => ?_
  simp only [aft_nx, o_ret, o_call, o_cons, o_nil, o_var0]
  refine (ok_falls_in o.one (by omega) h1).mono fun d h2 ⟨e, x2⟩ => ?_
  subst e
  exact ⟨rfl, x1.trans x2⟩
theorem ok_many {ns : List Int} (o : Ord ns) (h : Hh) : Ok (m_falls_many [tupI ns] h) fun d h' => d = .int (fallsL ns).length ∧ Le h h' := by
  rw [m_falls_many, o_fun]
  simp only [List.map_cons, List.map_nil, List.length_cons, List.length_nil, List.replicate, Nat.reduceSub, Nat.reduceAdd, List.cons_append, List.nil_append, List.append_nil, o_ret, o_call, o_cons, o_nil, o_var0]
  refine (ok_falls o h).mono fun d h1 ⟨e, x1⟩ => ?_
  subst e
  simp only [d_lenT, fin_rt, List.length_map]
  exact ⟨trivial, x1⟩
end FC
namespace FC
open PySem L2 L2.FD
theorem eqL_ints {k : Nat} {h : Hh} : ∀ (xs ys : List Int), eqL (eqD (k + 1) h) (xs.map D.int) (ys.map D.int) = some (decide (xs = ys))
  | [], [] => rfl
  | [], _ :: _ => rfl
  | _ :: _, [] => rfl
  | x :: xs, y :: ys => by
    rw [List.map_cons, List.map_cons, eqL, eqL_ints xs ys]
    simp only [eqD, flatD, eqF, Bool.and_self, if_true]
    congr 1
    rw [Bool.eq_iff_iff]
    simp
theorem eq_listsI {h : Hh} {a b : Nat} {xs ys : List Int} {Q : D → Hh → Prop} (e1 : lstOf h a = some (xs.map D.int)) (e2 : lstOf h b = some (ys.map D.int)) : Ok (dEq (.ref a) (.ref b) h) Q ↔ Q (.bl (decide (xs = ys))) h := by
  have e : eqD eqN h (.ref a) (.ref b) = some (decide (xs = ys)) := by
    show (match lstOf h a, lstOf h b with
      | some xs, some ys => if xs.length = ys.length then eqL (eqD (10 + 1) h) xs ys else some false
      | _, _ => none) = _
    rw [e1, e2]
    show (if (xs.map D.int).length = (ys.map D.int).length then eqL (eqD (10 + 1) h) (xs.map D.int) (ys.map D.int) else some false) = _
    by_cases hl : (xs.map D.int).length = (ys.map D.int).length
    · rw [if_pos hl, eqL_ints]
    · rw [if_neg hl, decide_eq_false]
      rintro rfl; exact hl rfl
  simp only [dEq, e, ok_ok]
theorem ne_listsI {h : Hh} {a b : Nat} {xs ys : List Int} {Q : D → Hh → Prop} (e1 : lstOf h a = some (xs.map D.int)) (e2 : lstOf h b = some (ys.map D.int)) : Ok (dNe (.ref a) (.ref b) h) Q ↔ Q (.bl (!decide (xs = ys))) h := by
  have e : eqD eqN h (.ref a) (.ref b) = some (decide (xs = ys)) := by
    show (match lstOf h a, lstOf h b with
      | some xs, some ys => if xs.length = ys.length then eqL (eqD (10 + 1) h) xs ys else some false
      | _, _ => none) = _
    rw [e1, e2]
    show (if (xs.map D.int).length = (ys.map D.int).length then eqL (eqD (10 + 1) h) (xs.map D.int) (ys.map D.int) else some false) = _
    by_cases hl : (xs.map D.int).length = (ys.map D.int).length
    · rw [if_pos hl, eqL_ints]
    · rw [if_neg hl, decide_eq_false]
      rintro rfl; exact hl rfl
  simp only [dNe, e, ok_ok]
@[simp] theorem d_isL_ref {n : Nat} {h : Hh} {ds : List D} {Q : D → Hh → Prop} (e : h[n]? = some (.lst ds)) : Ok (dIsI "list" (.ref n) h) Q ↔ Q (.bl true) h := by simp [dIsI, tyD, subTy, e]
/-! ### row_good, row_next, row_before -/
theorem ok_rgood (r n : Nat) (hn : n < 30) (h : Hh) (e : lstOf h r = some ((rowL n).map D.int)) : Ok (m_row_good [.ref r] h) fun d h' => d = .bl true ∧ Le h h' := by
  have hl := (row_bound n (by omega)).1
  rw [m_row_good, o_fun]
  simp only [List.map_cons, List.map_nil, List.length_cons, List.length_nil, List.replicate, Nat.reduceSub, Nat.reduceAdd, List.cons_append, List.nil_append, o_seq, o_ifS, o_orT, o_notT, o_test, o_un, o_var0, d_isL_ref (lst_get e), d_truB, Bool.not_true, Bool.false_eq_true, if_false, o_chain, o_C, o_call, o_cons, o_nil, d_lenL e, d_cmpI, o_asB, List.length_map, hl]
  rw [decide_eq_true (show (1 : Int) ≤ ((n + 1 : Nat) : Int) by omega)]
  simp only [if_true, d_cmpI, o_asB, o_C]
  rw [decide_eq_true (show ((n + 1 : Nat) : Int) ≤ 30 by omega)]
  simp only [Bool.not_true, Bool.false_eq_true, if_false, o_skip, aft_nx, o_seq, o_forS, i_seq, o_var0, o_asB, q_lst e, e, Option.getD_some]
  refine forL_ok (fun _ e' h' => h' = h ∧ ∃ y, e' = [some (.ref r), y]) ⟨rfl, _, rfl⟩ (fun i e' h' p => by rw [p.1]; exact e) (fun i d e' h' hd ⟨e1, y, e2⟩ => ?_) (fun e' h' ⟨e1, y, e2⟩ => ?_)
  · subst e1 e2
    obtain ⟨x, hx, rfl⟩ := ints_get hd
    simp only [g_N, List.set, o_ifS, o_notT, o_test, o_call, o_cons, o_nil, o_var0, o_varS]
    refine (ok_whole x h').mono fun d h2 ⟨e3, e4⟩ => ?_
    subst e3 e4
    simp
  · subst e1 e2
    simp only [aft_nx, o_ret, o_bin, o_call, o_cons, o_nil, o_var0, d_lenL e, List.length_map, hl]
    refine (ok_row n hn h').mono fun d h2 ⟨x2, i, e3, hi, a2⟩ => ?_
    subst e3
    rw [eq_listsI (x2.lst e) a2]
    simp
    exact x2
theorem ok_rneeded (r n : Nat) (hn : n < 30) (h : Hh) (e : lstOf h r = some ((rowL n).map D.int)) : Ok (m_row_needed [.ref r] h) fun d h' => Le h h' := by
  rw [m_row_needed, o_fun]
  simp only [List.map_cons, List.map_nil, List.length_cons, List.length_nil, List.replicate, Nat.reduceSub, Nat.reduceAdd, List.cons_append, List.nil_append, List.append_nil, o_ifS, o_notT, o_test, o_call, o_cons, o_nil, o_var0]
  refine (ok_rgood r n hn h e).mono fun d h' ⟨e1, e2⟩ => ?_
  subst e1
  simpa using e2
theorem ok_next_row (r n : Nat) (hn : n < 29) (h : Hh) (e : lstOf h r = some ((rowL n).map D.int)) : Ok (m_row_next [.ref r] h) fun d h' => Le h h' ∧ ∃ i, d = .ref i ∧ lstOf h' i = some ((rowL (n + 1)).map D.int) := by
  obtain ⟨hl, hb⟩ := row_bound n (by omega)
  rw [m_row_next, o_fun]
  simp only [List.map_cons, List.map_nil, List.length_cons, List.length_nil, List.replicate, Nat.reduceSub, Nat.reduceAdd, List.cons_append, List.nil_append, List.append_nil, o_seq, o_expr, o_call, o_cons, o_nil, o_var0]
  refine (ok_rneeded r n (by omega) h e).mono fun d h1 x1 => ?_
  simp only [aft_nx, o_seq, o_ifS, o_test, o_bin, o_call, o_cons, o_nil, o_var0, o_C, d_lenL (x1.lst e), d_eqI, o_asB, List.length_map, hl]
  rw [show (((n + 1 : Nat) : Int) == 30) = false by simp; omega]
  simp only [Bool.false_eq_true, if_false, o_skip, aft_nx, o_ret, o_call, o_cons, o_nil, o_var0]
  refine (ok_longer r (rowL n) h1 (x1.lst e) (by omega) hb).mono fun d h2 ⟨x2, i, e2, hi, a2⟩ => ?_
  subst e2
  exact ⟨x1.trans x2, i, rfl, a2⟩
theorem ok_before (r n : Nat) (hn : n < 29) (h : Hh) (e : lstOf h r = some ((rowL (n + 1)).map D.int)) : Ok (m_row_before [.ref r] h) fun d h' => Le h h' ∧ ∃ i, d = .ref i ∧ h.length ≤ i ∧ lstOf h' i = some ((rowL n).map D.int) := by
  obtain ⟨hl, hb⟩ := row_bound (n + 1) (by omega)
  rw [m_row_before, o_fun]
  simp only [List.map_cons, List.map_nil, List.length_cons, List.length_nil, List.replicate, Nat.reduceSub, Nat.reduceAdd, List.cons_append, List.nil_append, List.append_nil, o_seq, o_expr, o_call, o_cons, o_nil, o_var0]
  refine (ok_rneeded r (n + 1) (by omega) h e).mono fun d h1 x1 => ?_
  simp only [aft_nx, o_seq, o_ifS, o_test, o_bin, o_call, o_cons, o_nil, o_var0, o_C, d_lenL (x1.lst e), d_eqI, o_asB, List.length_map, hl]
  rw [show (((n + 1 + 1 : Nat) : Int) == 1) = false by simp; omega]
  simp only [Bool.false_eq_true, if_false, o_skip, aft_nx, o_ret, o_call, o_cons, o_nil, o_var0, o_bin, o_C, d_lenL (x1.lst e), d_subI, List.length_map, hl]
  rw [show (((n + 1 + 1 : Nat) : Int) - 1) = ((n + 1 : Nat) : Int) by omega]
  refine (ok_row n (by omega) h1).mono fun d h2 ⟨x2, i, e2, hi, a2⟩ => ?_
  subst e2
  exact ⟨x1.trans x2, i, rfl, by have := x1.len; omega, a2⟩
/-! ### the law's own -/
def prodL : Nat → Int
  | 0 => 1
  | n + 1 => prodL n * ((n : Int) + 2)
theorem prod_small : ∀ n, n < 31 → (prodL n).natAbs ≤ 10 ^ 40 := by decide +kernel
theorem ok_product (n : Nat) (hn : n < 30) (h : Hh) : Ok (m__law_product [.int (n + 1 : Nat)] h) fun d h' => d = .int (prodL n) ∧ h' = h := by
  rw [m__law_product, o_fun]
  simp only [List.map_cons, List.map_nil, List.length_cons, List.length_nil, List.replicate, Nat.reduceSub, Nat.reduceAdd, List.cons_append, List.nil_append, o_seq, o_set, o_C, aft_nx, List.set, o_forS, i_rng2, o_cons, o_nil, o_bin, o_var0, o_varS, d_addI, r_rng2]
  refine ⟨by omega, ?_⟩
  rw [show (((n + 1 : Nat) : Int) + 1 - 2).toNat = n by omega]
  refine forS_ok (fun i e h' => h' = h ∧ ∃ y, e = [some (.int (n + 1 : Nat)), some (.int (prodL i)), y]) ⟨rfl, _, rfl⟩ (fun i d e h' hd ⟨e1, y, e2⟩ => ?_) (fun e h' ⟨e1, y, e2⟩ => ?_)
  · obtain ⟨hi, rfl⟩ := intsD_get hd
    subst e1 e2
    have s1 : sml (prodL i) = true := sml_of (Nat.le_trans (prod_small i (by omega)) (by decide +kernel))
    have s2 : sml (2 + (i : Int)) = true := sml_small (by omega) (by omega)
    simp only [g_N, List.set, o_set, o_bin, o_var0, o_varS, d_mulI, s1, s2]
    exact ⟨⟨trivial, trivial⟩, trivial, _, by rw [prodL, Int.add_comm 2]⟩
  · subst e1 e2
    rw [intsD_len]
    simp
end FC
namespace FC
open PySem L2 L2.FD
def nextB (n : Nat) (b : List Int) : List (List Int) := ((List.range n).filter fun (i : Nat) => !(b.any fun y => y == (i : Int))).map fun (i : Nat) => b ++ [(i : Int)]
def allL (n : Nat) : Nat → List (List Int)
  | 0 => [[]]
  | t + 1 => (allL n t).flatMap (nextB n)
def ordB (ns : List Int) : Bool := decide (1 ≤ ns.length ∧ ns.length ≤ 20) && (ns.all fun x => decide (0 ≤ x ∧ x < (ns.length : Int))) && decide ns.Nodup
theorem ordB_ord {ns : List Int} (h : ordB ns = true) : Ord ns := by
  unfold ordB at h
  simp only [Bool.and_eq_true, decide_eq_true_eq, List.all_eq_true] at h
  exact ⟨h.1.1.1, h.1.1.2, h.1.2, h.2⟩
theorem all_small : ∀ n, n < 8 → ∀ t, t ≤ n → (allL n t).length ≤ 10000 := by decide +kernel
theorem nextB_len (n : Nat) (b : List Int) : (nextB n b).length ≤ n := by
  unfold nextB
  rw [List.length_map]
  exact Nat.le_trans (List.length_filter_le _ _) (by simp)
theorem flat_ints (b : List Int) : (b.map D.int).all flatD = true := by
  rw [List.all_map]; exact List.all_eq_true.mpr fun x _ => rfl
theorem any_ints (b : List Int) (x : Int) : ((b.map D.int).any fun d => eqF d (.int x)) = b.any fun y => y == x := by
  rw [List.any_map]; rfl
theorem all_len (n : Nat) : ∀ t b, b ∈ allL n t → b.length = t
  | 0, b, h => by simp [allL] at h; rw [h]; rfl
  | t + 1, b, h => by
    unfold allL at h
    obtain ⟨c, hc, hb⟩ := List.mem_flatMap.mp h
    unfold nextB at hb
    obtain ⟨i, _, e⟩ := List.mem_map.mp hb
    rw [← e, List.length_append, all_len n t c hc]; rfl
theorem nextB_succ (n i : Nat) (b : List Int) : nextB (i + 1) b = nextB i b ++ (if (!(b.any fun y => y == (i : Int))) = true then [b ++ [(i : Int)]] else []) := by
  unfold nextB
  rw [List.range_succ, List.filter_append, List.map_append]
  congr 1
  cases z : (!(b.any fun y => y == (i : Int))) <;> simp [z]
theorem ok_all (n : Nat) (hn : n < 8) (h : Hh) : Ok (m__law_all [.int n] h) fun d h' => Le h h' ∧ ∃ f, d = .ref f ∧ h.length ≤ f ∧ lstOf h' f = some ((allL n n).map tupI) := by
  rw [m__law_all, o_fun]
  simp only [List.map_cons, List.map_nil, List.length_cons, List.length_nil, List.replicate, Nat.reduceSub, Nat.reduceAdd, List.cons_append, List.nil_append, o_seq, o_set, o_call, o_cons, o_nil, d_tup, d_lst, List.set]
  refine ⟨by decide, by decide, ?_⟩
  simp only [aft_nx, o_seq, o_forS, i_rng1 (j := 0), o_cons, o_nil, o_var0, r_rng1]
  refine ⟨by omega, ?_⟩
  rw [Int.toNat_natCast]
  have x0 := Le.app h [O.lst [D.tup []]]
  refine forS_ok (fun t e h' => Le h h' ∧ ∃ f y2 y3 y4, e = [some (.int n), some (.ref f), y2, y3, y4] ∧ h.length ≤ f ∧ lstOf h' f = some ((allL n t).map tupI)) ⟨x0, _, _, _, _, rfl, Nat.le_refl _, lst_new _ _⟩ (fun t d e h1 hd ⟨x1, f, y2, y3, y4, e1, hf, a1⟩ => ?_) (fun e h1 ⟨x1, f, y2, y3, y4, e1, hf, a1⟩ => ?_)
  · obtain ⟨ht, rfl⟩ := intsD_get hd
    subst e1
    simp only [g_N, List.set, o_seq, o_set, o_call, o_nil, d_lst, List.length_nil]
    refine ⟨by decide, ?_⟩
    have lf := lst_lt a1
    have x2 := Le.app h1 [O.lst []]
    have a2 := x2.lst a1
    have r2 := lst_new h1 []
    generalize hr : h1.length = r at *
    generalize h1 ++ [O.lst []] = h2 at *
    simp only [aft_nx, o_seq, o_forS, i_seq, o_var0, o_varS, q_lst a2, a2, Option.getD_some]
    refine forL_ok (fun j e h' => Le h1 h' ∧ ∃ y4, e = [some (.int n), some (.ref f), some (.int (0 + (t : Int))), some (.ref r), y4] ∧ lstOf h' f = some ((allL n t).map tupI) ∧ lstOf h' r = some ((((allL n t).take j).flatMap (nextB n)).map tupI)) ⟨x2, _, rfl, a2, by simpa using r2⟩ (fun j e h' p => by obtain ⟨_, _, _, p, _⟩ := p; exact p) (fun j d e h3 hd' ⟨x3, y4, e1, a3, r3⟩ => ?_) (fun e h3 ⟨x3, y4, e1, a3, r3⟩ => ?_)
    · subst e1
      rw [List.getElem?_map] at hd'
      cases ej : (allL n t)[j]? with
      | none => rw [ej] at hd'; cases hd'
      | some b =>
        rw [ej] at hd'
        cases hd'
        have hj : j < (allL n t).length := (List.getElem?_eq_some_iff.mp ej).1
        simp only [g_N, List.set, o_expr, o_methL, o_var0, o_varS, o_cons, o_nil]
        refine ⟨isL_of r3, ?_⟩
        refine o_compS ?_
        simp only [i_rng1 (j := 0), o_cons, o_nil, o_var0, o_varS, r_rng1]
        refine ⟨by omega, _, rfl, by simp; omega, ?_⟩
        rw [Int.toNat_natCast]
        refine compS_ok (fun i ys h' => ys = (nextB i b).map tupI ∧ h' = h3) ⟨rfl, rfl⟩ (fun i d ys h' hd ⟨e1, e2⟩ => ?_) (fun ys h' ⟨e1, e2⟩ => ?_)
        · obtain ⟨hi, rfl⟩ := intsD_get hd
          subst e1 e2
          rw [show (0 + (i : Int)) = (i : Int) from Int.zero_add _]
          simp only [capE, List.map_cons, List.map_nil, List.getElem?_cons_zero, List.getElem?_cons_succ, join_ss, o_test, o_bin, o_var0, o_varS]
          rw [d_in (ds := b.map D.int) rfl rfl (flat_ints b)]
          simp only [if_true, o_asB, any_ints]
          rw [nextB_succ n i b]
          cases z : (!(b.any fun y => y == (i : Int))) with
          | false => simp only [Bool.false_eq_true, if_false, List.append_nil, and_self]
          | true =>
            simp only [if_true, o_bin, o_call, o_cons, o_nil, o_var0, o_varS, d_tup, d_addT]
            have hb := all_len n t b (List.mem_of_getElem? ej)
            refine ⟨by simp, by simp; omega, ?_, trivial⟩
            rw [List.map_append]
            simp [tupI]
        · subst e1 e2
          rw [intsD_len]
          have x4 := Le.app h' [O.lst ((nextB n b).map tupI)]
          rw [d_extend (x4.lst r3) (lst_new _ _)]
          have hs := all_small n hn (t + 1) (by omega)
          have e5 : ((allL n t).take (j + 1)).flatMap (nextB n) = ((allL n t).take j).flatMap (nextB n) ++ nextB n b := by
            rw [List.take_succ, List.flatMap_append, ej]; simp
          refine ⟨?_, ?_, _, rfl, ?_, ?_⟩
          · have hle : (((allL n t).take (j + 1)).flatMap (nextB n)).length ≤ (allL n (t + 1)).length := by
              have : allL n (t + 1) = ((allL n t).take (j + 1)).flatMap (nextB n) ++ ((allL n t).drop (j + 1)).flatMap (nextB n) := by
                rw [← List.flatMap_append, List.take_append_drop]; rfl
              rw [this, List.length_append]; omega
            rw [e5, List.length_append] at hle
            simp only [List.length_map]
            omega
          · exact LeB.le_old (x3.trans x4) (by omega) (LeB.set _ _ _)
          · exact (LeB.set r _ _).lst (by omega) (x4.lst a3)
          · rw [lst_set (x4.lst r3), e5, List.map_append]
    · subst e1
      rw [List.length_map, List.take_length] at r3
      simp only [aft_nx, o_set, o_var0, o_varS, List.set]
      exact ⟨x1.trans x3, _, _, _, _, rfl, by have := x1.len; omega, r3⟩
  · subst e1
    rw [intsD_len] at a1
    simp only [aft_nx, o_ret, o_var0, o_varS, aft_rt, fin_rt]
    exact ⟨x1, f, rfl, hf, a1⟩
end FC
namespace FC
open PySem L2 L2.FD
def bump (cs : List Int) (b : List Int) : List Int := cs.set (fallsL b).length (cs.getD (fallsL b).length 0 + 1)
theorem bump_len (cs b : List Int) : (bump cs b).length = cs.length := by simp [bump]
theorem bumps_len : ∀ (bs : List (List Int)) (cs : List Int), (bs.foldl bump cs).length = cs.length
  | [], _ => rfl
  | b :: bs, cs => by rw [List.foldl_cons, bumps_len bs, bump_len]
theorem row_facts : ∀ n, n < 30 → (rowL n).reverse = rowL n ∧ (rowL n).sum = prodL n ∧ (cutG (rowL n) none (some ((n : Int) + 1))).sum = prodL n ∧ (cutG (rowL n) none (some (((0 : Nat) : Int) + 1))).sum = 1 := by decide +kernel
theorem step_facts : ∀ m, m < 29 → ∀ k : Nat, k < m + 2 → (cutG (rowL (m + 1)) (some (k : Int)) (some ((k : Int) + 1))).sum = ((k : Int) + 1) * (if k < m + 1 then (rowL m).getD k 0 else 0) + (((m + 2 : Nat) : Int) - (k : Int)) * (if 0 < k then (rowL m).getD (k - 1) 0 else 0) := by decide +kernel
theorem all_ord : ∀ w, w < 7 → (allL (w + 1) (w + 1)).all ordB = true := by decide +kernel
theorem all_counted : ∀ w, w < 7 → (allL (w + 1) (w + 1)).foldl bump (List.replicate (w + 1) 0) = rowL w := by decide +kernel
theorem getD_sml (m : Nat) (hm : m < 30) (k : Nat) : sml ((rowL m).getD k 0) = true := by
  refine sml_of ?_
  by_cases hk : k < (rowL m).length
  · have hx : (rowL m).getD k 0 ∈ rowL m := by rw [List.getD_eq_getElem?_getD, List.getElem?_eq_getElem hk]; exact List.getElem_mem hk
    exact Nat.le_trans ((row_bound m (by omega)).2 _ hx) (by decide +kernel)
  · rw [List.getD_eq_getElem?_getD, List.getElem?_eq_none (by omega)]; decide +kernel
end FC
namespace FC
open PySem L2 L2.FD
set_option maxHeartbeats 8000000 in
theorem law_ok (ns : List Int) (hl : ns.length ≤ 63) : ∃ h, m_law [.frl (ns.map D.int)] [] = .ok (.bl true) h := by
  suffices o : Ok (m_law [.frl (ns.map D.int)] []) fun d _ => d = .bl true by
    obtain ⟨b, h, e, q⟩ := o
    subst q
    exact ⟨h, e⟩
  rw [m_law, o_fun]
  simp only [List.map_cons, List.map_nil, List.length_cons, List.length_nil, List.replicate, Nat.reduceSub, Nat.reduceAdd, List.cons_append, List.nil_append, o_seq, o_forS, i_enum, o_bin, o_call, o_cons, o_nil, o_var0, o_varS, o_C]
  refine (ok_cell ns []).mono fun d h1 ⟨e1, c, e2⟩ => ?_
  subst e1 e2
  simp only [d_lst, o_slice, o_var0, o_part, o_C]
  refine ⟨by simp, 1, rfl, 3, rfl, ?_⟩
  simp only [d_cutF, cut_ints]
  rw [d_addL (a := [D.int c]) (b := (cutG ns (some 1) (some 3)).map D.int) rfl rfl]
  have hcl := cutG_len ns (some 1) (some 3)
  refine ⟨by simp; omega, ?_⟩
  simp only [List.nil_append, List.length_nil, List.length_cons, List.cons_append, List.length_append, Nat.reduceAdd]
  generalize hds : (D.int c :: (cutG ns (some 1) (some 3)).map D.int) = ds
  have hd0 : ∀ (i : Nat) (d : D), ds[i]? = some d → ∃ z, d = .int z := fun i d h => by
    rw [← hds] at h
    cases i with
    | zero => simp at h; exact ⟨_, h.symm⟩
    | succ i =>
      simp only [List.getElem?_cons_succ, List.getElem?_map] at h
      cases e : (cutG ns (some 1) (some 3))[i]? with
      | none => rw [e] at h; cases h
      | some z => rw [e] at h; cases h; exact ⟨z, rfl⟩
  have a0 : lstOf [O.lst [D.int c], O.lst ((cutG ns (some 1) (some 3)).map D.int), O.lst ds] 2 = some ds := rfl
  rw [q_enumL a0]
  simp only [a0, Option.getD_some]
  refine forE_ok (fun _ e h => (∃ x1 x2 x3 x4 x5 x6 x7 x8 x9 x10 x11 x12 x13, e = [some (.frl (ns.map D.int)), x1, x2, x3, x4, x5, x6, x7, x8, x9, x10, x11, x12, x13]) ∧ lstOf h 2 = some ds) ⟨⟨_, _, _, _, _, _, _, _, _, _, _, _, _, rfl⟩, a0⟩ (fun i e h p => p.2) (fun at' d e h hd ⟨⟨x1, x2, x3, x4, x5, x6, x7, x8, x9, x10, x11, x12, x13, e1⟩, a⟩ => ?_) (fun e h _ => by simp)
  obtain ⟨z, rfl⟩ := hd0 at' d hd
  subst e1
  have l2 := lst_lt a
  simp only [g_T2, List.set, o_seq, o_set, o_call, o_cons, o_nil, o_var0, o_varS, o_C]
  refine (ok_pen z h).mono fun d h1 ⟨e1, y1, p1, q1⟩ => ?_
  subst e1
  generalize hp : h.length = p at *
  have b1 := y1.lst a
  simp only [aft_nx, o_seq, o_set, o_bin, o_call, o_cons, o_nil, o_var0, o_varS, o_C]
  refine (ok_draw p 30 h1 p1 (by omega) (by omega)).mono fun d h2 ⟨n', e1, n0, n1, y2, p2, q2⟩ => ?_
  subst e1
  obtain ⟨n, rfl⟩ : ∃ n : Nat, n' = n := ⟨n'.toNat, by omega⟩
  have hn : n < 30 := by omega
  have b2 := y2.lst (by omega) b1
  simp only [d_addI]
  rw [show (1 + (n : Int)) = ((n + 1 : Nat) : Int) by omega]
  simp only [List.set, aft_nx, o_seq, o_set, o_call, o_cons, o_nil, o_var0, o_varS]
  refine (ok_row n hn h2).mono fun d h3 ⟨y3, r, e1, hr, ar⟩ => ?_
  subst e1
  obtain ⟨hl3, hb3⟩ := row_bound n (by omega)
  obtain ⟨f1, f2, f3, f4⟩ := row_facts n hn
  have p3 : IsPen h3 p := by obtain ⟨aa, bb, ss, ee, e0⟩ := p2; exact ⟨aa, bb, ss, y3.lst ee, e0⟩
  have b3 := y3.lst b2
  simp only [List.set, aft_nx, o_seq, o_ifS, o_orT, o_test, o_bin, o_un, o_call, o_cons, o_nil, o_var0, o_varS, o_C, d_revL ar]
  have x4' := Le.app h3 [O.lst ((rowL n).map D.int).reverse]
  rw [← List.map_reverse, f1] at x4' ⊢
  rw [ne_listsI (x4'.lst ar) (lst_new _ _)]
  generalize hH4 : h3 ++ [O.lst ((rowL n).map D.int)] = h4 at *
  simp only [decide_true, Bool.not_true, o_asB, Bool.false_eq_true, if_false, d_sumL (x4'.lst ar)]
  refine (ok_product n hn h4).mono fun d h5 ⟨e1, e2⟩ => ?_
  subst e1 e2
  rw [f2]
  simp only [d_neI, beq_self_eq_true, Bool.not_true, o_asB, Bool.false_eq_true, if_false]
  refine (ok_rgood r n hn h5 (x4'.lst ar)).mono fun d h6 ⟨e1, y6⟩ => ?_
  subst e1
  simp only [d_isTn, Bool.not_true, o_asB, Bool.false_eq_true, if_false, o_skip, aft_nx, o_seq, o_ifS, o_orT, o_test, o_bin, o_call, o_cons, o_nil, o_var0, o_varS, o_C, d_subI]
  rw [show (((n + 1 : Nat) : Int) - 1) = (n : Int) by omega]
  refine (ok_upto n n hn (by omega) h6).mono fun d h7 ⟨e1, y7⟩ => ?_
  subst e1
  have x7' : Le h3 h7 := x4'.trans (y6.trans y7)
  rw [d_sumL (x7'.lst ar), f2, f3]
  simp only [d_neI, beq_self_eq_true, Bool.not_true, o_asB, Bool.false_eq_true, if_false]
  refine (ok_upto n 0 hn (by omega) h7).mono fun d h8 ⟨e1, y8⟩ => ?_
  subst e1
  rw [f4]
  simp only [d_neI, beq_self_eq_true, Bool.not_true, o_asB, Bool.false_eq_true, if_false, o_skip, aft_nx, o_seq, o_ifS, o_test, o_bin, o_var0, o_varS, o_C, d_cmpI]
  have x8' : Le h3 h8 := x7'.trans y8
  have tail : ∀ (y6 y7 y8 y9 : Option D) (hh : Hh), Le h3 hh → Ok (cIfS (cTest asB (cBin dEq (cVar 1) (cC (.int 0)))) (cSeq (cSet 10 (cBin dAdd (cC (.int 1)) (cCall m__law_draw (cCons (cVar 3) (cCons (cC (.int 7)) cNil)))))
    (cSeq (cSet 11 (cBin dMul (cCall dLst (cCons (cC (.int 0)) cNil)) (cVar 10)))
    (cSeq (cFor (cSeqI (cCall m__law_all (cCons (cVar 10) cNil))) (gN 12) (cSeq (cSet 13 (cCall m_falls_many (cCons (cVar 12) cNil)))
    (cSetIx dSetIx (cVar 11) (cVar 13) (cBin dAdd (cBin dIx (cVar 11) (cVar 13)) (cC (.int 1))))))
    (cIfS (cTest asB (cBin dNe (cCall m_row_of (cCons (cVar 10) cNil)) (cVar 11))) (cRet (cC (.bl false))) cSkip)))) cSkip
      [some (.frl (ns.map D.int)), some (.int at'), some (.int z), some (.ref p), some (.int (n + 1 : Nat)), some (.ref r), y6, y7, y8, y9, x10, x11, x12, x13] hh)
      fun fl h2 => match fl with
        | .nx e => (∃ x1 x2 x3 x4 x5 x6 x7 x8 x9 x10 x11 x12 x13, e = [some (.frl (ns.map D.int)), x1, x2, x3, x4, x5, x6, x7, x8, x9, x10, x11, x12, x13]) ∧ lstOf h2 2 = some ds
        | .ct e => (∃ x1 x2 x3 x4 x5 x6 x7 x8 x9 x10 x11 x12 x13, e = [some (.frl (ns.map D.int)), x1, x2, x3, x4, x5, x6, x7, x8, x9, x10, x11, x12, x13]) ∧ lstOf h2 2 = some ds
        | .bk e => aft (cRet (cC (.bl true))) (fin fun d _ => d = .bl true) (.nx e) h2
        | .rt d => aft (cRet (cC (.bl true))) (fin fun d _ => d = .bl true) (.rt d) h2 := by
    intro y6 y7 y8 y9 hh xh
    have bh := xh.lst b3
    simp only [o_ifS, o_test, o_bin, o_var0, o_varS, o_C, d_eqI, o_asB]
    by_cases hat : ((at' : Int) == 0) = true
    · rw [if_pos hat]
      have ph : IsPen hh p := by obtain ⟨aa, bb, ss, ee, e0⟩ := p3; exact ⟨aa, bb, ss, xh.lst ee, e0⟩
      simp only [o_seq, o_set, o_bin, o_call, o_cons, o_nil, o_var0, o_varS, o_C]
      refine (ok_draw p 7 hh ph (by omega) (by omega)).mono fun d g1 ⟨w', e1, w0, w1, z1, pg, lg⟩ => ?_
      subst e1
      obtain ⟨w, rfl⟩ : ∃ w : Nat, w' = w := ⟨w'.toNat, by omega⟩
      have hw : w < 7 := by omega
      have bg1 := z1.lst (by omega) bh
      simp only [d_addI]
      rw [show (1 + (w : Int)) = ((w + 1 : Nat) : Int) by omega]
      simp only [List.set, aft_nx, o_seq, o_set, o_bin, o_call, o_cons, o_nil, o_var0, o_varS, o_C, d_lst, List.length_cons, List.length_nil]
      refine ⟨by decide, ?_⟩
      have z2 := Le.app g1 [O.lst [D.int 0]]
      rw [d_mulL (lst_new _ _)]
      refine ⟨by simp; omega, ?_⟩
      have er : (List.replicate ((w + 1 : Nat) : Int).toNat [D.int 0]).flatten = (List.replicate (w + 1) (0 : Int)).map D.int := by
        rw [Int.toNat_natCast, List.map_replicate]
        exact List.flatten_replicate_singleton
      rw [er]
      have z3 := Le.app (g1 ++ [O.lst [D.int 0]]) [O.lst ((List.replicate (w + 1) (0 : Int)).map D.int)]
      have ac := lst_new (g1 ++ [O.lst [D.int 0]]) ((List.replicate (w + 1) (0 : Int)).map D.int)
      have bg3 := z3.lst (z2.lst bg1)
      generalize hcc : (g1 ++ [O.lst [D.int 0]]).length = cc at *
      have hc2 : 2 < cc := by have := lst_lt bg1; rw [← hcc]; simp; omega
      generalize g1 ++ [O.lst [D.int 0]] ++ [O.lst ((List.replicate (w + 1) (0 : Int)).map D.int)] = g3 at *
      simp only [List.set, aft_nx, o_seq, o_forS, i_seq, o_call, o_cons, o_nil, o_var0, o_varS]
      refine (ok_all (w + 1) (by omega) g3).mono fun d g4 ⟨z4, fl, e1, hf, af⟩ => ?_
      subst e1
      have hcf : cc < fl := Nat.lt_of_lt_of_le (lst_lt ac) hf
      rw [q_lst af]
      simp only [af, Option.getD_some]
      refine forL_ok (fun j e g => (∃ y12 y13, e = [some (.frl (ns.map D.int)), some (.int at'), some (.int z), some (.ref p), some (.int (n + 1 : Nat)), some (.ref r), y6, y7, y8, y9, some (.int (w + 1 : Nat)), some (.ref cc), y12, y13]) ∧ lstOf g 2 = some ds ∧ lstOf g fl = some ((allL (w + 1) (w + 1)).map tupI) ∧ lstOf g cc = some ((((allL (w + 1) (w + 1)).take j).foldl bump (List.replicate (w + 1) 0)).map D.int))
        ⟨⟨_, _, rfl⟩, z4.lst bg3, af, by simpa using z4.lst ac⟩ (fun j e g q => q.2.2.1) (fun j d e g hd' ⟨⟨y12, y13, e1⟩, t1, t2, t3⟩ => ?_) (fun e g ⟨⟨y12, y13, e1⟩, t1, t2, t3⟩ => ?_)
      · subst e1
        rw [List.getElem?_map] at hd'
        cases ej : (allL (w + 1) (w + 1))[j]? with
        | none => rw [ej] at hd'; cases hd'
        | some b =>
          rw [ej] at hd'
          cases hd'
          have hbm := List.mem_of_getElem? ej
          have ob := ordB_ord (List.all_eq_true.mp (all_ord w hw) b hbm)
          have lb := all_len (w + 1) (w + 1) b hbm
          have lf : (fallsL b).length < w + 1 := by have := places_len (b.length - 1) (isFall b); unfold fallsL; omega
          simp only [g_N, List.set, o_seq, o_set, o_call, o_cons, o_nil, o_var0, o_varS]
          refine (ok_many ob g).mono fun d g5 ⟨e1, z5⟩ => ?_
          subst e1
          generalize hcs : ((allL (w + 1) (w + 1)).take j).foldl bump (List.replicate (w + 1) 0) = cs at *
          have lcs : cs.length = w + 1 := by rw [← hcs, bumps_len]; simp
          have i1 : atI (cs.map D.int) ((fallsL b).length : Int) = some (.int (cs.getD (fallsL b).length 0)) := atI_ints rfl (by omega)
          have i2 : ixN (cs.map D.int).length ((fallsL b).length : Int) = some (fallsL b).length := by
            unfold ixN
            rw [if_pos (by omega), if_pos (by rw [List.length_map]; omega), Int.toNat_natCast]
          simp only [List.set, aft_nx, o_setIx, o_bin, o_var0, o_varS, o_C, d_ixL (z5.lst t3) i1, d_addI]
          rw [d_setIx (z5.lst t3) i2]
          refine ⟨⟨_, _, rfl⟩, (LeB.set cc _ _).lst (by omega) (z5.lst t1), (LeB.set cc _ _).lst (by omega) (z5.lst t2), ?_⟩
          rw [lst_set (z5.lst t3), List.take_succ, ej, List.foldl_append, hcs]
          simp [bump, List.map_set]
      · subst e1
        rw [List.length_map, List.take_length, all_counted w hw] at t3
        simp only [aft_nx, o_ifS, o_test, o_bin, o_call, o_cons, o_nil, o_var0, o_varS]
        refine (ok_row w (by omega) g).mono fun d g6 ⟨z6, i6, e1, _, a6⟩ => ?_
        subst e1
        rw [ne_listsI a6 (z6.lst t3)]
        simp only [decide_true, Bool.not_true, o_asB, Bool.false_eq_true, if_false, o_skip]
        exact ⟨⟨_, _, _, _, _, _, _, _, _, _, _, _, _, rfl⟩, z6.lst t1⟩
    · rw [if_neg hat]
      simp only [o_skip]
      exact ⟨⟨_, _, _, _, _, _, _, _, _, _, _, _, _, rfl⟩, bh⟩
  by_cases hn1 : decide ((1 : Int) < ((n + 1 : Nat) : Int)) = true
  · rw [hn1]
    simp only [o_asB, if_true]
    obtain ⟨m, rfl⟩ : ∃ m, n = m + 1 := ⟨n - 1, by have := of_decide_eq_true hn1; omega⟩
    have hm : m < 29 := by omega
    simp only [o_seq, o_set, o_call, o_cons, o_nil, o_var0, o_varS]
    refine (ok_before r m hm h8 (x8'.lst ar)).mono fun d h9 ⟨y9, r9, e1, hr9, a9⟩ => ?_
    subst e1
    have x9' : Le h3 h9 := x8'.trans y9
    simp only [List.set, aft_nx, o_seq, o_ifS, o_orT, o_test, o_bin, o_call, o_cons, o_nil, o_var0, o_varS, o_C]
    refine (ok_next_row r9 m hm h9 a9).mono fun d h10 ⟨y10, r10, e1, a10⟩ => ?_
    subst e1
    have x10' : Le h3 h10 := x9'.trans y10
    rw [ne_listsI a10 (x10'.lst ar)]
    simp only [decide_true, Bool.not_true, o_asB, Bool.false_eq_true, if_false]
    refine (ok_rgood r9 m (by omega) h10 (y10.lst a9)).mono fun d h11 ⟨e1, y11⟩ => ?_
    subst e1
    simp only [d_isTn, Bool.not_true, o_asB, Bool.false_eq_true, if_false, o_skip, aft_nx, o_forS, i_rng1 (j := 0), o_cons, o_nil, o_var0, o_varS, r_rng1]
    refine ⟨by omega, ?_⟩
    have a11 := (y10.trans y11).lst a9
    have x11' : Le h3 h11 := x10'.trans y11
    obtain ⟨lm, _⟩ := row_bound m (by omega)
    rw [Int.toNat_natCast]
    refine forS_ok (fun _ e g => (∃ y7 y8 y9, e = [some (.frl (ns.map D.int)), some (.int at'), some (.int z), some (.ref p), some (.int (m + 1 + 1 : Nat)), some (.ref r), some (.ref r9), y7, y8, y9, x10, x11, x12, x13]) ∧ Le h11 g) ⟨⟨_, _, _, rfl⟩, Le.refl _⟩ (fun k d e g hd' ⟨⟨y7, y8, y9, e1⟩, le⟩ => ?_) (fun e g ⟨⟨y7, y8, y9, e1⟩, le⟩ => ?_)
    · obtain ⟨hk, rfl⟩ := intsD_get hd'
      subst e1
      rw [show (0 + (k : Int)) = (k : Int) from Int.zero_add _]
      have ak := le.lst a11
      have i1 : k < m + 1 → atI ((rowL m).map D.int) (k : Int) = some (.int ((rowL m).getD k 0)) := fun hk' => atI_ints rfl (by omega)
      have i2 : 0 < k → atI ((rowL m).map D.int) ((k : Int) - 1) = some (.int ((rowL m).getD (k - 1) 0)) := fun hk' => atI_ints (by omega) (by omega)
      simp only [g_N, List.set, o_seq, o_set, o_if, o_test, o_bin, o_var0, o_varS, o_C, d_subI, d_cmpI, o_asB]
      have s1 : ∀ {QQ : D → Hh → Prop}, QQ (.int (if k < m + 1 then (rowL m).getD k 0 else 0)) g → (if decide ((k : Int) < ((m + 1 + 1 : Nat) : Int) - 1) = true then Ok (dIx (.ref r9) (.int (k : Int)) g) QQ else QQ (.int 0) g) := fun {QQ} q => by
        by_cases hk' : k < m + 1
        · rw [if_pos hk'] at q
          rw [if_pos (decide_eq_true (by omega)), d_ixL ak (i1 hk')]; exact q
        · rw [if_neg hk'] at q
          rw [if_neg (by rw [decide_eq_true_eq]; omega)]; exact q
      have s2 : ∀ {QQ : D → Hh → Prop}, QQ (.int (if 0 < k then (rowL m).getD (k - 1) 0 else 0)) g → (if decide ((0 : Int) < (k : Int)) = true then Ok (dIx (.ref r9) (.int ((k : Int) - 1)) g) QQ else QQ (.int 0) g) := fun {QQ} q => by
        by_cases hk' : 0 < k
        · rw [if_pos hk'] at q
          rw [if_pos (decide_eq_true (by omega)), d_ixL ak (i2 hk')]; exact q
        · rw [if_neg hk'] at q
          rw [if_neg (by rw [decide_eq_true_eq]; omega)]; exact q
      refine s1 ?_
      simp only [List.set, aft_nx, o_seq, o_set, o_if, o_test, o_bin, o_var0, o_varS, o_C, d_subI, d_cmpI, o_asB]
      refine s2 ?_
      simp only [List.set, aft_nx, o_ifS, o_test, o_bin, o_call, o_cons, o_nil, o_var0, o_varS, o_C]
      refine (ok_count_of (m + 1) k (by omega) (by omega) g).mono fun d g2 ⟨e1, z2⟩ => ?_
      subst e1
      have t1 : sml ((k : Int) + 1) = true := sml_small (by omega) (by omega)
      have t2 : sml (((m + 1 + 1 : Nat) : Int) - (k : Int)) = true := sml_small (by omega) (by omega)
      have t3 : sml (if k < m + 1 then (rowL m).getD k 0 else 0) = true := by split; exact getD_sml m (by omega) k; decide +kernel
      have t4 : sml (if 0 < k then (rowL m).getD (k - 1) 0 else 0) = true := by split; exact getD_sml m (by omega) _; decide +kernel
      simp only [d_addI, d_mulI, d_subI, t1, t2, t3, t4]
      refine ⟨⟨trivial, trivial⟩, ⟨trivial, trivial⟩, ?_⟩
      rw [step_facts m hm k (by omega), d_neI]
      simp only [beq_self_eq_true, Bool.not_true, o_asB, Bool.false_eq_true, if_false, o_skip]
      exact ⟨⟨_, _, _, rfl⟩, le.trans z2⟩
    · subst e1
      simp only [aft_nx]
      exact tail _ _ _ _ g (x11'.trans le)
  · rw [Bool.not_eq_true] at hn1
    rw [hn1]
    have tl := tail x6 x7 x8 x9 h8 x8'
    simp only [o_asB, Bool.false_eq_true, if_false, o_skip, aft_nx, o_seq, o_ifS, o_test, o_bin, o_var0, o_varS, o_C] at tl ⊢
    exact tl
end FC
open PySem PySem.W PyProof.Rows
set_option maxRecDepth 100000 in
set_option maxHeartbeats 0 in
theorem PySem.Challenge.cw_fallcounts_k16_whole_triangle_holds : PySem.Challenge.rw_fallcounts_k16_whole_triangle.Holds := by
  w_on; o_law; k_head; (case hw => w_witness2)
  k_fill
  refine FC.walk (l := PySem.Challenge.rw_fallcounts_k16_whole_triangle) rfl rfl (fun w h Y => PySem.W.kIn_of Y) FC.law_ok ?F
  case F =>
    intro w mg fa h KX G hmg
    have T : FC.Text (L2.KOf KX) := by
      dsimp only [L2.KOf]
      refine' ⟨?d__law_pen_of, ?d_is_whole, ?d_is_within, ?d_number_needed, ?d_longer_row, ?d_row_of, ?d__law_next, ?d__law_draw, ?d_row_good, ?d_row_needed, ?d_row_before, ?d__law_all, ?d__law_cell_at, ?d__law_product, ?d_numbers_needed, ?d_upto_count, ?d_order_good, ?d_order_needed, ?d_falls_in, ?d_falls_of, ?d_falls_many, ?d_row_next, ?d_count_of, ?d_law, ?z_bool, ?z_enumerate, ?z_int, ?z_isinstance, ?z_len, ?z_list, ?z_max, ?z_range, ?z_set, ?z_sum, ?z_tuple, ?y_MOST_NUMBERS, ?y_MOST_ROWS⟩
      (case d__law_pen_of => refine' L2.FD.def_mk ?a ?l ?c ?k; (case a => k_is); (case l => k_is); (case c => k_is); (case k => k_is))
      (case d_is_whole => refine' L2.FD.def_mk ?a ?l ?c ?k; (case a => k_is); (case l => k_is); (case c => k_is); (case k => k_is))
      (case d_is_within => refine' L2.FD.def_mk ?a ?l ?c ?k; (case a => k_is); (case l => k_is); (case c => k_is); (case k => k_is))
      (case d_number_needed => refine' L2.FD.def_mk ?a ?l ?c ?k; (case a => k_is); (case l => k_is); (case c => k_is); (case k => k_is))
      (case d_longer_row => refine' L2.FD.def_mk ?a ?l ?c ?k; (case a => k_is); (case l => k_is); (case c => k_is); (case k => k_is))
      (case d_row_of => refine' L2.FD.def_mk ?a ?l ?c ?k; (case a => k_is); (case l => k_is); (case c => k_is); (case k => k_is))
      (case d__law_next => refine' L2.FD.def_mk ?a ?l ?c ?k; (case a => k_is); (case l => k_is); (case c => k_is); (case k => k_is))
      (case d__law_draw => refine' L2.FD.def_mk ?a ?l ?c ?k; (case a => k_is); (case l => k_is); (case c => k_is); (case k => k_is))
      (case d_row_good => refine' L2.FD.def_mk ?a ?l ?c ?k; (case a => k_is); (case l => k_is); (case c => k_is); (case k => k_is))
      (case d_row_needed => refine' L2.FD.def_mk ?a ?l ?c ?k; (case a => k_is); (case l => k_is); (case c => k_is); (case k => k_is))
      (case d_row_before => refine' L2.FD.def_mk ?a ?l ?c ?k; (case a => k_is); (case l => k_is); (case c => k_is); (case k => k_is))
      (case d__law_all => refine' L2.FD.def_mk ?a ?l ?c ?k; (case a => k_is); (case l => k_is); (case c => k_is); (case k => k_is))
      (case d__law_cell_at => refine' L2.FD.def_mk ?a ?l ?c ?k; (case a => k_is); (case l => k_is); (case c => k_is); (case k => k_is))
      (case d__law_product => refine' L2.FD.def_mk ?a ?l ?c ?k; (case a => k_is); (case l => k_is); (case c => k_is); (case k => k_is))
      (case d_numbers_needed => refine' L2.FD.def_mk ?a ?l ?c ?k; (case a => k_is); (case l => k_is); (case c => k_is); (case k => k_is))
      (case d_upto_count => refine' L2.FD.def_mk ?a ?l ?c ?k; (case a => k_is); (case l => k_is); (case c => k_is); (case k => k_is))
      (case d_order_good => refine' L2.FD.def_mk ?a ?l ?c ?k; (case a => k_is); (case l => k_is); (case c => k_is); (case k => k_is))
      (case d_order_needed => refine' L2.FD.def_mk ?a ?l ?c ?k; (case a => k_is); (case l => k_is); (case c => k_is); (case k => k_is))
      (case d_falls_in => refine' L2.FD.def_mk ?a ?l ?c ?k; (case a => k_is); (case l => k_is); (case c => k_is); (case k => k_is))
      (case d_falls_of => refine' L2.FD.def_mk ?a ?l ?c ?k; (case a => k_is); (case l => k_is); (case c => k_is); (case k => k_is))
      (case d_falls_many => refine' L2.FD.def_mk ?a ?l ?c ?k; (case a => k_is); (case l => k_is); (case c => k_is); (case k => k_is))
      (case d_row_next => refine' L2.FD.def_mk ?a ?l ?c ?k; (case a => k_is); (case l => k_is); (case c => k_is); (case k => k_is))
      (case d_count_of => refine' L2.FD.def_mk ?a ?l ?c ?k; (case a => k_is); (case l => k_is); (case c => k_is); (case k => k_is))
      (case d_law => refine' L2.FD.def_mk ?a ?l ?c ?k; (case a => k_is); (case l => k_is); (case c => k_is); (case k => k_is))
      (case z_bool => k_is)
      (case z_enumerate => k_is)
      (case z_int => k_is)
      (case z_isinstance => k_is)
      (case z_len => k_is)
      (case z_list => k_is)
      (case z_max => k_is)
      (case z_range => k_is)
      (case z_set => k_is)
      (case z_sum => k_is)
      (case z_tuple => k_is)
      (case y_MOST_NUMBERS => exact ⟨_, rfl⟩)
      (case y_MOST_ROWS => exact ⟨_, rfl⟩)
    exact FC.all_mk KX G hmg T
