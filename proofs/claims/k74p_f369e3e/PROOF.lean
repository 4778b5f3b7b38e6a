import PyProof.Rows.All
import Wide.All
import OpenK.AllK
import Wide.FinOn
import Lean
import KE.KNestM
import PyProof.EqAt
import PyProof.EqKinds
import PyProof.TupleCall
import PyProof.EnumMake
import PyProof.Draws
import KE.KDictList
import KE.KTryMore
import KE.KEqDict
import PyProof.ExcInit
import PyProof.InstStoreFacts
import KE.KSortTup
import PySem.Challenge.RW_fallcounts_k74_zigzags_numbered
set_option Elab.async false
set_option linter.all false
set_option maxRecDepth 100000
set_option maxHeartbeats 8000000
namespace L2.FE
open PySem PySem.W PySem.Calls
noncomputable def AL : List Obj -> BT -> Nat -> Option BT
  | [], t, _ => some t
  | o :: r, t, n => match ((t.ins n o).get n).isSome with
    | true => AL r (t.ins n o) (n + 1)
    | false => none
theorem sA {life : Life} : ∀ {r : List Obj} {t T : BT} {n : Nat} {a : Array Obj}, AL r t n = some T -> absHeap t n life = ⟨a, life⟩ -> absHeap T (n + r.length) life = ⟨a ++ r.toArray, life⟩
  | [], t, T, n, a, h, e => by cases h; simpa using e
  | o :: r, t, T, n, a, h, e => by
    unfold AL at h
    cases g : ((t.ins n o).get n).isSome with
    | false => rw [g] at h; cases h
    | true =>
      rw [g] at h
      have x : absHeap (t.ins n o) (n + 1) life = ⟨a.push o, life⟩ := by rw [absHeap_ins g, e]; rfl
      have := sA h x
      rw [List.length_cons, show n + (r.length + 1) = n + 1 + r.length by omega, this]
      simp
noncomputable def vC (p : Program) (w : World) (n₀ : Nat) (ann : Option Value) : Nat -> SharedT -> Thread -> Option SharedT
  | 0, _, _ => none
  | n + 1, s, t => match through t with
    | true => some s
    | false => match PySem.W.Fast.tw6613529449190102663 n₀ ann t with
      | false => none
      | true => match PySem.W.Fast.tw10156331382660048174 (PySem.W.Fast.tw11892475500146522536 PySem.W.Fast.tw14364793385576792824) p w s t with
        | some (s', t') => vC p w n₀ ann n s' t'
        | none => none
theorem rR {p : Program} {w : World} {n₀ : Nat} {ann : Option Value} : ∀ {n : Nat} {s r : SharedT} {t : Thread}, vC p w n₀ ann n s t = some r -> topRun treeTable p w n₀ ann n s.abs t = some r.abs
  | 0, _, _, _, h => by cases h
  | n + 1, s, r, t, h => by
    unfold vC at h
    unfold topRun
    cases ht : through t with
    | true => rw [ht] at h; cases h; rfl
    | false =>
      rw [ht, <- PySem.W.Fast.te6613529449190102663] at h
      cases hk : stepOk n₀ ann t with
      | false => simp only [hk] at h; cases h
      | true =>
        simp only [hk] at h
        rw [<- PySem.W.Fast.te10156331382660048174, <- PySem.W.Fast.te11892475500146522536, <- PySem.W.Fast.te14364793385576792824] at h
        cases hs : stepT (denote treeTable) p w s t with
        | none => rw [hs] at h; cases h
        | some x => obtain ⟨s₂, t₂⟩ := x; rw [hs] at h; rw [stepT_spec hs]; exact rR h
noncomputable def o_ (p : Program) (w : World) (N : Nat) (os : OsState) : Option SharedT :=
  match (boot_heap w.params).isNs mainGlobals with
  | true => (AL (boot_heap w.params).objs.toList .nil 0).bind fun T => vC p w (boot_heap w.params).objs.size ((boot_heap w.params).nsMap mainGlobals (Str.ofString "__annotations__")) N ⟨T, (boot_heap w.params).objs.size, (boot_heap w.params).life, #[], boot_drawn, boot_toks, os⟩ (topStub p)
  | false => none
noncomputable def yI (p : Program) (w : World) (s₁ : Shared) : Bool := staticsOk (PySem.W.Fast.tw5923862056798008813 p.main.body) (boot_heap w.params) s₁.heap && namesBound p s₁.heap && gensDone s₁ && laidKept (boot_heap w.params) s₁.heap
theorem wD {p q : Program} {loose : List Str} {Xt : Shared -> Bool} {α : Type} {Yf : Shared -> α} {Ya : World -> α} {N : Nat} (hN : Nat.ble 600 N = true) (e : opening p = plainProg p.main.scope.names) (f : ∀ s, fenceModules? p s = some s)
    (h1 : ∀ (w : World) (os : OsState), (o_ p w N os).map (fun s => yI p w s.abs) = some true)
    (h2 : ∀ (w : World) (os : OsState), (o_ p w N os).map (fun s => PySem.W.Fast.tw4187177175401517315 q loose (PySem.W.Fast.tw5923862056798008813 p.main.body) Xt true s.abs) = some (openGood q loose))
    (h3 : ∀ (w : World) (os : OsState), (o_ p w N os).map (fun s => Yf s.abs) = some (Ya w)) : LeftO p q loose Xt Yf Ya N := fun w => by
  obtain ⟨s, hs, e'⟩ := Option.map_eq_some_iff.mp (boot_open e hN f w)
  obtain ⟨H, gs, d, k, os⟩ := s
  obtain ⟨rfl, rfl, rfl, rfl⟩ : H = boot_heap w.params /\ gs = _ /\ d = boot_drawn /\ k = boot_toks := by simpa using e'
  obtain ⟨r, hr, l1⟩ := Option.map_eq_some_iff.mp (h1 w os)
  obtain ⟨r2, hr2, l2⟩ := Option.map_eq_some_iff.mp (h2 w os)
  obtain ⟨r3, hr3, l3⟩ := Option.map_eq_some_iff.mp (h3 w os)
  obtain rfl : r = r2 := Option.some.inj (hr.symm.trans hr2)
  obtain rfl : r = r3 := Option.some.inj (hr.symm.trans hr3)
  unfold yI at l1
  rw [<- PySem.W.Fast.te5923862056798008813] at l1
  rw [<- PySem.W.Fast.te4187177175401517315, <- PySem.W.Fast.te5923862056798008813] at l2
  unfold o_ at hr
  cases hn : (boot_heap w.params).isNs mainGlobals with
  | false => rw [hn] at hr; cases hr
  | true =>
    rw [hn] at hr
    obtain ⟨T, hT, hr⟩ := Option.bind_eq_some_iff.mp hr
    have z := sA (life := (boot_heap w.params).life) (n := 0) (a := #[]) hT rfl
    have z' : absHeap T (boot_heap w.params).objs.size (boot_heap w.params).life = boot_heap w.params := by
      rw [Nat.zero_add, Array.length_toList] at z
      rw [z]
      simp
    have hr := rR hr
    have st : (SharedT.mk T (boot_heap w.params).objs.size (boot_heap w.params).life #[] boot_drawn boot_toks os).abs = ⟨boot_heap w.params, #[], boot_drawn, boot_toks, os⟩ := by
      show Shared.mk _ _ _ _ _ = _
      rw [z']
    rw [st] at hr
    unfold openEnds
    rw [hs]
    show Option.map _ (topFrom treeTable p w N _) = _
    have t : topFrom treeTable p w N ⟨boot_heap w.params, #[], boot_drawn, boot_toks, os⟩ = some r.abs := by
      unfold topFrom
      dsimp only
      rw [hn]
      rw [hr]
      show (match staticsOk (importedModules p.main.body) (boot_heap w.params) r.abs.heap && namesBound p r.abs.heap && gensDone r.abs && laidKept (boot_heap w.params) r.abs.heap with | true => _ | false => _) = _
      rw [l1]
    rw [t]
    show some (openSeen q loose (importedModules p.main.body) Xt true r.abs, Yf r.abs) = _
    rw [l2, l3]
noncomputable def viewOf (p : Program) (keep : List Nat) : Program := { p with main := { p.main with body := keep.filterMap fun i => p.main.body[i]? } }
end L2.FE
section
open PySem PySem.W PyProof.Rows
noncomputable def FC.Q : Program := L2.FE.viewOf PySem.Challenge.pw_fallcounts_k74_zigzags_numbered [1,2,3,4,6,7,8,10,11,12,13,14,16,17,18,19,21,22,23,25,26,27,28,29,30,32,33,34,35,36,37,38,39,40]
theorem FC.E2 : ∀ (w : World) (os : OsState), (L2.FE.o_ PySem.Challenge.pw_fallcounts_k74_zigzags_numbered w 3602 os).map (fun s => L2.FE.yI PySem.Challenge.pw_fallcounts_k74_zigzags_numbered w s.abs) = some true := fun w os => by kernel_rfl
theorem FC.Ey : ∀ (w : World) (os : OsState), (L2.FE.o_ PySem.Challenge.pw_fallcounts_k74_zigzags_numbered w 3602 os).map (fun s => PySem.W.Fast.tw4187177175401517315 FC.Q [] (PySem.W.Fast.tw5923862056798008813 PySem.Challenge.pw_fallcounts_k74_zigzags_numbered.main.body) (fun s => xlAt FC.Q [] s && recOk (RowW.records (OpenRow.toRowW (OpenLaw.row PySem.Challenge.rw_fallcounts_k74_zigzags_numbered))) s) true s.abs) = some (openGood FC.Q []) := fun w os => by kernel_rfl
end
namespace L2
open PySem PySem.Spec PyProof.Rows
noncomputable abbrev Key := Sum Int Str
noncomputable def pE : Key -> Value -> Bool
  | .inl k, v => Value.isInt k v
  | .inr x, v => Value.isStrOf x v
noncomputable def GN (w : World) : Key -> Int
  | .inl k => hashInt k
  | .inr x => hashStr w x
theorem bZ : ∀ {k : Key} {v : Value}, pE k v = true -> (∃ i t, k = Sum.inl i /\ v = Value.int i t) \/ (∃ x t, k = Sum.inr x /\ v = Value.str x t)
  | .inl i, v, h => by
    obtain ⟨t, e⟩ := Value.isInt_shape (k := i) (v := v) h
    exact .inl ⟨i, t, rfl, e⟩
  | .inr x, v, h => by
    obtain ⟨t, e⟩ := Value.isStrOf_shape (x := x) (v := v) h
    exact .inr ⟨x, t, rfl, e⟩
theorem wJ (i : Int) (t : Tok) : pE (.inl i) (.int i t) = true := by simp [pE, Value.isInt]
theorem w8 (x : Str) (t : Tok) : pE (.inr x) (.str x t) = true := by simp [pE, Value.isStrOf]
theorem C0 (a b : Int) : decide ((Sum.inl a : Key) = Sum.inl b) = (a == b) := by
  by_cases e : a = b
  · subst e; simp
  · have h : ¬ (Sum.inl a : Key) = Sum.inl b := fun q => e (Sum.inl.inj q)
    rw [decide_eq_false h]
    exact (beq_eq_false_iff_ne.mpr e).symm
theorem C8 (a b : Str) : decide ((Sum.inr a : Key) = Sum.inr b) = decide (a = b) := by
  by_cases e : a = b
  · subst e; simp
  · have h : ¬ (Sum.inr a : Key) = Sum.inr b := fun q => e (Sum.inr.inj q)
    rw [decide_eq_false h, decide_eq_false e]
theorem DE (a : Int) (b : Str) : decide ((Sum.inl a : Key) = Sum.inr b) = false := decide_eq_false (fun q => nomatch q)
theorem CJ (a : Str) (b : Int) : decide ((Sum.inr a : Key) = Sum.inl b) = false := decide_eq_false (fun q => nomatch q)
noncomputable def cA (prog : Program) (w : World) : PySem.KeyKind prog w Key where
  is := pE
  hash := GN w
  inj := fun v a b ha hb => by
    rcases bZ ha with ⟨i, t, rfl, rfl⟩ | ⟨x, t, rfl, rfl⟩
    · rcases bZ hb with ⟨j, u, rfl, e⟩ | ⟨y, u, rfl, e⟩
      · injection e with e1 _; rw [e1]
      · exact nomatch e
    · rcases bZ hb with ⟨j, u, rfl, e⟩ | ⟨y, u, rfl, e⟩
      · exact nomatch e
      · injection e with e1 _; rw [e1]
  byValue := fun k v h => by
    rcases bZ h with ⟨i, t, rfl, rfl⟩ | ⟨x, t, rfl, rfl⟩ <;> rfl
  pyHash := fun hv h => by
    rcases bZ hv with ⟨i, t, rfl, rfl⟩ | ⟨x, t, rfl, rfl⟩
    · exact wpAny_pyHash_int h
    · exact wpAny_pyHash_str h
  eqBool := fun hu hv h => by
    rcases bZ hu with ⟨i, t, rfl, rfl⟩ | ⟨x, t, rfl, rfl⟩
    · rcases bZ hv with ⟨j, u, rfl, rfl⟩ | ⟨y, u, rfl, rfl⟩
      · rw [C0] at h; exact wpAny_eqBool_int h
      · rw [DE] at h; exact SeqAt.EqAt.int_str i t y u _ _ _ _ h
    · rcases bZ hv with ⟨j, u, rfl, rfl⟩ | ⟨y, u, rfl, rfl⟩
      · rw [CJ] at h; exact SeqAt.EqAt.str_int x t j u _ _ _ _ h
      · rw [C8] at h; exact wpAny_eqBool_str h
  «strs» := fun k x t v h => by
    rcases bZ h with ⟨i, u, rfl, e⟩ | ⟨y, u, rfl, e⟩
    · exact nomatch e
    · injection e with e1 _
      subst e1
      cases v <;> rfl
theorem tL (prog : Program) (w : World) (i : Int) (t : Tok) : (cA prog w).is (.inl i) (.int i t) = true := wJ i t
theorem s_ (prog : Program) (w : World) (x : Str) (t : Tok) : (cA prog w).is (.inr x) (.str x t) = true := w8 x t
inductive V where
  | non | bl (b : Bool) | int (i : Int) | str (x : Str) | byt (b : Array UInt8) | flt (b : UInt64) | ref (a : Addr) | ty (n : String)
  deriving DecidableEq
noncomputable def RelV : V -> Value -> Prop
  | .non, u => u = Value.none
  | .bl b, u => u = Value.bool b
  | .int i, u => ∃ t, u = Value.int i t
  | .str x, u => ∃ t, u = Value.str x t
  | .byt b, u => ∃ t, u = Value.bytes b t
  | .flt b, u => ∃ t, u = Value.float b t
  | .ref a, u => u = Value.ref a
  | .ty n, u => u = Value.type n
noncomputable abbrev Vals : List V -> List Value -> Prop := Paired RelV
theorem Vals.length {xs : List V} {us : List Value} (r : Vals xs us) : xs.length = us.length := Paired.length r
theorem Vals.get : ∀ {xs : List V} {us : List Value} {i : Nat} {x : V}, Vals xs us -> xs[i]? = some x -> ∃ u, us[i]? = some u /\ RelV x u
  | _, _, _, _, .nil, e => by simp at e
  | _, _, 0, _, .cons r _, e => by simp at e; subst e; exact ⟨_, rfl, r⟩
  | _, _, i + 1, x, .cons _ t, e => by
    obtain ⟨u, h1, h2⟩ := Vals.get (i := i) (x := x) t (by simpa using e)
    exact ⟨u, by simpa using h1, h2⟩
theorem Vals.set {x : V} {u : Value} (r : RelV x u) : ∀ {xs : List V} {us : List Value} (i : Nat), Vals xs us -> Vals (xs.set i x) (us.set i u)
  | _, _, _, .nil => .nil
  | _, _, 0, .cons _ t => .cons r t
  | _, _, i + 1, .cons q t => .cons q (Vals.set r i t)
theorem Vals.append : ∀ {xs ys : List V} {us ws : List Value}, Vals xs us -> Vals ys ws -> Vals (xs ++ ys) (us ++ ws)
  | _, _, _, _, .nil, s => s
  | _, _, _, _, .cons r t, s => .cons r (Vals.append t s)
theorem Vals.take : ∀ {xs : List V} {us : List Value} (n : Nat), Vals xs us -> Vals (xs.take n) (us.take n)
  | _, _, 0, _ => .nil
  | _, _, _ + 1, .nil => .nil
  | _, _, n + 1, .cons r t => .cons r (Vals.take n t)
theorem Vals.drop : ∀ {xs : List V} {us : List Value} (n : Nat), Vals xs us -> Vals (xs.drop n) (us.drop n)
  | _, _, 0, r => r
  | _, _, _ + 1, .nil => .nil
  | _, _, n + 1, .cons _ t => Vals.drop n t
noncomputable def mC : Option V -> Option Value -> Prop
  | some v, some u => RelV v u
  | none, none => True
  | _, _ => False
noncomputable def KV {κ : Type} : List (κ × V) -> List (κ × Value) -> Prop := Paired fun (p : κ × V) (q : κ × Value) => p.1 = q.1 /\ RelV p.2 q.2
noncomputable def kV : Key -> V
  | .inl i => .int i
  | .inr x => .str x
inductive HO where
  | lst (xs : List V)
  | tup (xs : List V)
  | dK (kvs : List (Key × V)) | dT (kvs : List (List Key × V))
  | set (S : Int -> Bool) (n : Nat)
  | ins (C dx : Addr) (fs : List (Str × V))
  | own (x : Addr)
  | xd (fs : List (Str × V))
  | met (f x : Addr)
  | rng (lo hi : Int)
  | frz (o : Obj) (u : HO)
  | tbl (ps : Array Value)
  | ext (φ : Heap -> Prop)
noncomputable abbrev Hp := Addr -> Option HO
noncomputable def upd (H : Hp) (a : Addr) (o : HO) : Hp := fun b => if b = a then some o else H b
theorem a_ {H : Hp} {a : Addr} {o : HO} : upd H a o a = some o := by unfold upd; rw [if_pos rfl]
theorem aI {H : Hp} {a b : Addr} {o : HO} (h : b ≠ a) : upd H a o b = H b := by unfold upd; rw [if_neg h]
theorem E5 {H : Hp} {a b : Addr} {o u : HO} (h : H a = some o) (h' : H b = some u) (d : o ≠ u) : a ≠ b := by
  intro e; subst e; rw [h] at h'; exact d (Option.some.inj h')
theorem bc {H : Hp} {a b : Addr} {o : HO} (h : H a = some o) (h' : H b = none) : a ≠ b := by
  intro e; subst e; rw [h] at h'; cases h'
noncomputable def lL (h : Heap) (a : Addr) (its : Array Value) : Prop := ∃ o, h.get? a = some o /\ (o.cls = .type "tuple" /\ ∃ n, o.data = .seq its n) /\ o.dict = none
theorem lL.tup {h : Heap} {a : Addr} {its : Array Value} (x : lL h a its) : IsTup h a its := let ⟨o, e, ⟨c, n, d⟩, _⟩ := x; ⟨o, e, c, n, d⟩
theorem lL.new (h : Heap) (its : Array Value) : lL (h.push { cls := .type "tuple", data := .seq its }) h.objs.size its := ⟨_, Heap.get?_push_size _ rfl, ⟨rfl, _, rfl⟩, rfl⟩
section
variable (P : Program) (w : World)
noncomputable def bC (H : Hp) (h : Heap) (a : Addr) : HO -> Prop
  | .lst xs => xs.length <= sizeLine /\ ∃ (its : List Value) (n : Nat), Vals xs its /\ h.get? a = some { cls := .type "list", data := .seq its.toArray n }
  | .tup xs => xs.length <= sizeLine /\ ∃ its : List Value, Vals xs its /\ lL h a its.toArray
  | .dK kvs => kvs.length <= sizeLine /\ (a == sysModules) = false /\ ∃ vs, KV kvs vs /\ h.DictOf (cA P w) a vs
  | .dT kvs => kvs.length <= sizeLine /\ (a == sysModules) = false /\ ∃ xs : List (List Key × Addr × Value),
      Paired (fun (p : List Key × V) (q : List Key × Addr × Value) => p.1 = q.1 /\ H q.2.1 = some (.tup (p.1.map kV)) /\ RelV p.2 q.2.2) kvs xs ∧
      ∃ o es ep, h.get? a = some o /\ o.ExactDict /\ o.data = .dict es ep /\ es.toList = xs.map (entryOfKey (tupleKind (cA P w))) /\ (xs.map (·.1)).Nodup
  | .set S n => h.SetOf (intKind P w) a S n
  | .ins C dx fs => H dx = some (.own a) /\ fs.length <= 1000 /\ dx ≠ a /\ h.get? a = some (PySem.W.instObj C dx) ∧
      ∃ mA, h.Ns1 dx mA /\ (∀ f, mC (fs.lookup f) (mA f)) /\ PySem.Within mA (fs.map (·.1))
  | .own _ => ∃ o, h.get? a = some o
  | .xd fs => ∃ mA, h.Ns1 a mA /\ ∀ f, mC (fs.lookup f) (mA f)
  | .rng lo hi => ∃ t u v, h.get? a = some { cls := .type "range", data := .fields #[.int lo t, .int hi u, .int 1 v] }
  | .frz o u => h.get? a = some o /\ bC H h a u
  | .tbl ps => h.get? a = some { cls := .none, data := .fields ps }
  | .met f x => h.get? a = some (PySem.W.methodObj (.ref f) (.ref x))
  | .ext φ => φ h /\ (∃ o, h.get? a = some o) /\ ∀ h1 h2 : Heap, φ h1 -> (∀ o, h1.get? a = some o -> h2.get? a = some o) -> φ h2
noncomputable def HOk (H : Hp) (h : Heap) : Prop := ∀ a o, H a = some o -> bC P w H h a o
end
section
variable {P : Program} {w : World} {H H' : Hp} {h h' : Heap} {a : Addr} {o : HO}
theorem bC.lt (x : bC P w H h a o) : a < h.objs.size := by
  cases o with
  | lst xs => obtain ⟨_, _, _, _, e⟩ := x; exact Heap.lt_size e
  | tup xs => obtain ⟨_, _, _, _, e, _⟩ := x; exact Heap.lt_size e
  | dK kvs => obtain ⟨_, _, _, _, o, _, _, e, _⟩ := x; exact Heap.lt_size e
  | dT kvs => obtain ⟨_, _, _, _, o, _, _, e, _⟩ := x; exact Heap.lt_size e
  | set S n => obtain ⟨o, _, _, _, e, _⟩ := x; exact Heap.lt_size e
  | ins C dx fs => obtain ⟨_, _, _, e, _⟩ := x; exact Heap.lt_size e
  | own y => obtain ⟨_, e⟩ := x; exact Heap.lt_size e
  | xd fs => obtain ⟨_, ⟨_, _, _, e, _⟩, _⟩ := x; exact Heap.lt_size e
  | rng lo hi => obtain ⟨_, _, _, e⟩ := x; exact Heap.lt_size e
  | frz ob u => obtain ⟨e, _⟩ := x; exact Heap.lt_size e
  | tbl ps => exact Heap.lt_size (show h.get? a = some _ from x)
  | met f y => exact Heap.lt_size (show h.get? a = some _ from x)
  | ext φ => obtain ⟨_, ⟨_, e⟩, _⟩ := x; exact Heap.lt_size e
theorem Paired.om {α β : Type} {F G : α -> β -> Prop} : ∀ {l₁ : List α} {l₂ : List β}, Paired F l₁ l₂ -> (∀ a b, F a b -> G a b) -> Paired G l₁ l₂
  | _, _, .nil, _ => .nil
  | _, _, .cons r t, f => .cons (f _ _ r) (Paired.om t f)
theorem bC.ki (x : bC P w H h a o) (k : ∀ b u, (b = a \/ H b = some (.own a)) -> h.get? b = some u -> h'.get? b = some u)
    (ho : ∀ b, H b = some (.own a) -> H' b = some (.own a)) (ht : ∀ b xs, H b = some (.tup xs) -> H' b = some (.tup xs)) : bC P w H' h' a o := by
  induction o with
  | lst xs => obtain ⟨z, its, n, r, e⟩ := x; exact ⟨z, its, n, r, k _ _ (.inl rfl) e⟩
  | tup xs => obtain ⟨z, its, r, ob, e, c⟩ := x; exact ⟨z, its, r, ob, k _ _ (.inl rfl) e, c⟩
  | dK kvs => obtain ⟨z, y, vs, r, ob, es, ep, e, c⟩ := x; exact ⟨z, y, vs, r, ob, es, ep, k _ _ (.inl rfl) e, c⟩
  | dT kvs =>
    obtain ⟨z, y, xs, r, ob, es, ep, e, c⟩ := x
    exact ⟨z, y, xs, Paired.om r fun p q z => ⟨z.1, ht _ _ z.2.1, z.2.2⟩, ob, es, ep, k _ _ (.inl rfl) e, c⟩
  | set S n => obtain ⟨ob, es, ep, t, e, c⟩ := x; exact ⟨ob, es, ep, t, k _ _ (.inl rfl) e, c⟩
  | ins C dx fs =>
    obtain ⟨d, z, ne, e, mA, ⟨od, es, ep, e2, c⟩, r⟩ := x
    exact ⟨ho _ d, z, ne, k _ _ (.inl rfl) e, mA, ⟨od, es, ep, k _ _ (.inr d) e2, c⟩, r⟩
  | own y => obtain ⟨ob, e⟩ := x; exact ⟨ob, k _ _ (.inl rfl) e⟩
  | xd fs => obtain ⟨mA, ⟨od, es, ep, e, c⟩, r⟩ := x; exact ⟨mA, ⟨od, es, ep, k _ _ (.inl rfl) e, c⟩, r⟩
  | rng lo hi => obtain ⟨t, u, v, e⟩ := x; exact ⟨t, u, v, k _ _ (.inl rfl) e⟩
  | frz ob u ih => obtain ⟨e, q⟩ := x; exact ⟨k _ _ (.inl rfl) e, ih q⟩
  | tbl ps =>
    have e : h.get? a = some { cls := .none, data := .fields ps } := x
    show h'.get? a = some { cls := .none, data := .fields ps }
    exact k a _ (.inl rfl) e
  | met f y =>
    have e : h.get? a = some (PySem.W.methodObj (.ref f) (.ref y)) := x
    show h'.get? a = some (PySem.W.methodObj (.ref f) (.ref y))
    exact k a _ (.inl rfl) e
  | ext φ => obtain ⟨p, ⟨o, e⟩, st⟩ := x; exact ⟨st _ _ p fun o q => k _ _ (.inl rfl) q, ⟨o, k _ _ (.inl rfl) e⟩, st⟩
theorem HOk.lt (x : HOk P w H h) (e : H a = some o) : a < h.objs.size := (x a o e).lt
theorem HOk.fresh (x : HOk P w H h) (e : h.objs.size <= a) : H a = none := by
  cases q : H a with
  | none => rfl
  | some u => exact absurd (Nat.lt_of_lt_of_le (x.lt q) e) (Nat.lt_irrefl _)
theorem HOk.kept (x : HOk P w H h) (k : ∀ b u, h.get? b = some u -> h'.get? b = some u) : HOk P w H h' := fun a o e =>
  (x a o e).ki (fun b u _ q => k b u q) (fun _ q => q) fun _ _ q => q
theorem HOk.laid (x : HOk P w H h) (k : ∀ b u, h.get? b = some u -> h'.get? b = some u) (hp : h.objs.size <= a) (new : bC P w (upd H a o) h' a o) : HOk P w (upd H a o) h' := fun b u e => by
  have hn := x.fresh hp
  by_cases hb : b = a
  · subst hb; rw [a_] at e; cases e; exact new
  · rw [aI hb] at e
    exact (x b u e).ki (fun c v _ q => k c v q) (fun c q => by rw [aI (bc q hn)]; exact q) fun c xs q => by rw [aI (bc q hn)]; exact q
end
noncomputable def Rd (H : Hp) (a : Addr) (u : HO) : Prop := H a = some u \/ ∃ o, H a = some (.frz o u)
theorem Rd.ok {P : Program} {w : World} {H : Hp} {h : Heap} {a : Addr} {u : HO} (r : Rd H a u) (x : HOk P w H h) : bC P w H h a u := by
  rcases r with r | ⟨o, r⟩
  · exact x a u r
  · obtain ⟨_, q⟩ := x a _ r
    exact q
noncomputable def Mut : Option HO -> Prop
  | some (.lst _) => True
  | some (.dK _) => True
  | some (.dT _) => True
  | some (.set _ _) => True
  | some (.ins _ _ _) => True
  | some (.ext _) => True
  | _ => False
section
variable {P : Program} {w : World} {H : Hp} {h h' : Heap} {x e : Addr} {o' : HO}
theorem HOk.write (ok : HOk P w H h) (mu : Mut (H x)) (he : e = x \/ H e = some (.own x)) (k : ∀ b u, b ≠ e -> h.get? b = some u -> h'.get? b = some u) (heo : ∃ u, h'.get? e = some u)
    (new : bC P w (upd H x o') h' x o') : HOk P w (upd H x o') h' := fun b u q => by
  have nown : ∀ c y, H c = some (.own y) -> c ≠ x := fun c y r z => by subst z; rw [r] at mu; exact mu
  have ntup : ∀ c xs, H c = some (.tup xs) -> c ≠ x := fun c xs r z => by subst z; rw [r] at mu; exact mu
  by_cases hb : b = x
  · subst hb; rw [a_] at q; cases q; exact new
  · rw [aI hb] at q
    by_cases hbe : b = e
    · have q' : H b = some (.own x) := by
        rcases he with z | z
        · exact absurd (hbe.trans z) hb
        · rw [hbe]; exact z
      rw [q] at q'; cases q'
      obtain ⟨v, hv⟩ := heo
      exact ⟨v, by rw [hbe]; exact hv⟩
    · refine (ok b u q).ki (fun c v hc r => k c v ?_ r) (fun c r => by rw [aI (nown c b r)]; exact r) fun c xs r => by rw [aI (ntup c xs r)]; exact r
      rcases hc with rfl | hc
      · exact hbe
      · rintro rfl
        rcases he with z | z
        · exact nown c b hc z
        · rw [hc] at z; cases z; exact hb rfl
end
structure Un (fs ex : List Addr) (H H' : Hp) (h h' : Heap) : Prop where
  keep : ∀ b o, h.get? b = some o -> H b = none -> b ∉ fs -> b ∉ ex -> h'.get? b = some o
  slot : ∀ b o, h.get? b = some o -> H b = none -> b ∈ fs -> b ∉ ex -> ∃ sl, h'.get? b = some { o with slots := sl }
  free : ∀ b o, h.get? b = some o -> H b = none -> b ∉ ex -> H' b = none
  there : ∀ b o, h.get? b = some o -> b ∉ ex -> ∃ o', h'.get? b = some o'
  lY : ∀ b xs, H b = some (.tup xs) -> H' b = some (.tup xs)
  ku : ∀ b o u, H b = some (.frz o u) -> H' b = some (.frz o u)
  lG : ∀ b ps, H b = some (.tbl ps) -> ∃ more, H' b = some (.tbl (ps ++ more))
section
variable {fs fs' ex ex' : List Addr} {H H1 H2 : Hp} {h h1 h2 h' : Heap} {a x e : Addr} {o : HO}
theorem Un.any (u : Un fs ex H H1 h h1) {b : Addr} {ob : Obj} (q : h.get? b = some ob) (n : H b = none) (hx : b ∉ ex) : ∃ sl, h1.get? b = some { ob with slots := sl } := by
  by_cases hb : b ∈ fs
  · exact u.slot b ob q n hb hx
  · exact ⟨ob.slots, u.keep b ob q n hb hx⟩
theorem Un.kept (k : ∀ b u, h.get? b = some u -> h'.get? b = some u) : Un fs ex H H h h' :=
  ⟨fun b ob q _ _ _ => k b ob q, fun b ob q _ _ _ => ⟨ob.slots, k b ob q⟩, fun _ _ _ n _ => n, fun b ob q _ => ⟨ob, k b ob q⟩, fun _ _ q => q, fun _ _ _ q => q, fun _ ps q => ⟨#[], by rw [q]; simp⟩⟩
theorem Un.refl : Un fs ex H H h h := Un.kept fun _ _ q => q
theorem Un.laid (k : ∀ b u, h.get? b = some u -> h'.get? b = some u) (hp : h.objs.size <= a) (hn : H a = none) : Un fs ex H (upd H a o) h h' where
  keep := fun b u q _ _ _ => k b u q
  slot := fun b u q _ _ _ => ⟨u.slots, k b u q⟩
  free := fun b u q n _ => by rw [aI (Nat.ne_of_lt (Nat.lt_of_lt_of_le (Heap.lt_size q) hp))]; exact n
  there := fun b u q _ => ⟨u, k b u q⟩
  lY := fun b xs q => by rw [aI (bc q hn)]; exact q
  ku := fun b u xs q => by rw [aI (bc q hn)]; exact q
  lG := fun b ps q => ⟨#[], by rw [aI (bc q hn), q]; simp⟩
theorem Un.write (mu : Mut (H x)) (he : e = x \/ H e = some (.own x)) (k : ∀ b u, b ≠ e -> h.get? b = some u -> h'.get? b = some u) (heo : ∃ u, h'.get? e = some u) : Un fs ex H (upd H x o) h h' := by
  have hx : ∀ b, H b = none -> b ≠ x := fun b n z => by subst z; rw [n] at mu; exact mu
  have hb : ∀ b, H b = none -> b ≠ e := fun b n z => by
    subst z
    rcases he with r | r
    · exact hx b n r
    · rw [n] at r; cases r
  have hm : ∀ b u, H b = some u -> ¬ Mut (some u) -> b ≠ x := fun b u q nm z => by subst z; rw [q] at mu; exact nm mu
  refine ⟨fun b u q n _ _ => k b u (hb b n) q, fun b u q n _ _ => ⟨u.slots, k b u (hb b n) q⟩, fun b u q n _ => by rw [aI (hx b n)]; exact n, fun b u q _ => ?_,
    fun b xs q => by rw [aI (hm b _ q fun z => z)]; exact q, fun b u xs q => by rw [aI (hm b _ q fun z => z)]; exact q, fun b ps q => ⟨#[], by rw [aI (hm b _ q fun z => z), q]; simp⟩⟩
  by_cases hbe : b = e
  · subst hbe; exact heo
  · exact ⟨u, k b u hbe q⟩
end
noncomputable def trk (h : Heap) (H : Hp) : List Addr := (List.range h.objs.size).filter fun a => (H a).isSome
noncomputable def n5 (h : Heap) (H : Hp) : Heap := PySem.W.hideAll h (trk h H)
theorem xf (h : Heap) (H : Hp) : (n5 h H).objs.size = h.objs.size := PySem.W.hideAll_size _ _
theorem yx {h : Heap} {H : Hp} {b : Addr} {o : Obj} (e : h.get? b = some o) (n : H b = none) : (n5 h H).get? b = some o :=
  PySem.W.hideAll_get _ e fun hm => by
    have q : (H b).isSome = true := (List.mem_filter.mp hm).2
    rw [n] at q; simp at q
theorem Bt {h : Heap} {H : Hp} {b : Addr} {o : Obj} (e : (n5 h H).get? b = some o) : h.get? b = some o /\ H b = none := by
  have e' : h.get? b = some o := PySem.W.of_hideAll (trk h H) e
  refine ⟨e', ?_⟩
  cases q : H b with
  | none => rfl
  | some x =>
    have hm : b ∈ trk h H := List.mem_filter.mpr ⟨List.mem_range.mpr (Heap.lt_size e'), by simp [q]⟩
    have z : (n5 h H).get? b = none := PySem.W.hideAll_none (trk h H) hm
    rw [z] at e; cases e
structure Mod (K : PySem.W.Frag) (mg : Str -> Option Value) (base : Heap) : Prop where
  kin : K.In base
  glob : base.Ns mainGlobals mg
  blt : ∃ mb, base.Ns builtinsNs mb /\ ∀ x : Str, x ≠ "__name__" -> mb x = bootBuiltins x
  nolimit : base.NoLimit
structure Cx where
  prog : Program
  w : World
  K : PySem.W.Frag
  mg : Str -> Option Value
  base : Heap
  A : Around
  N : List Str
  aM : Shared
  aX : Hp
  env : Env
  outer : List Env
  stack : List Env
  ex : List Addr
  fn : Str -> Bool
  calm : Bool
  pn : List (Addr × Obj)
  xe : Value -> Shared -> Prop
noncomputable def frs (l : List Env) : List Addr := l.filterMap (·.frame)
noncomputable abbrev Cx.fs (X : Cx) : List Addr := frs X.outer
noncomputable def Vis (sc : Scope) (x : Str) : Prop := sc.names.lookup x = some .local \/ sc.names.lookup x = some .cell \/ sc.names.lookup x = some .free
noncomputable def Loc (sc : Scope) (x : Str) : Prop := sc.names.lookup x = some .local \/ sc.names.lookup x = some .cell
noncomputable def Look (env : Env) (h : Heap) (m : Str -> Option Value) (x : Str) (u : Value) : Prop :=
  (env.kindOf x = some .local /\ m x = some u) \/ ((env.kindOf x = some .cell \/ env.kindOf x = some .free) /\ ∃ c, env.cells.lookup x = some c /\ h.IsCell c (some u))
structure Cx.Ok (X : Cx) : Prop where
  mod : Mod X.K X.mg X.base
  kind : X.env.scope.kind = .function
  glob : X.env.globals = mainGlobals
  blt : X.env.builtins = builtinsNs
  above : X.aM.heap.objs.size <= X.env.locals
  inj : ∀ x y c, X.env.cells.lookup x = some c -> X.env.cells.lookup y = some c -> x = y
  has : ∀ x, (X.env.kindOf x = some .cell \/ X.env.kindOf x = some .free) -> ∃ c, X.env.cells.lookup x = some c
  cab : ∀ x c, X.fn x = true -> X.env.cells.lookup x = some c -> X.aM.heap.objs.size <= c
  hd : X.calm = true -> X.A.handled = none
  frames : X.A.frames = some X.stack
  stk : X.stack = X.outer \/ (X.stack = X.env :: X.outer /\ X.env.frame = some X.env.locals)
  exf : ∀ b ∈ X.ex, b ≠ X.env.locals /\ ∀ x c, X.env.cells.lookup x = some c -> c ≠ b
  bs : ∀ b o, X.base.get? b = some o -> X.aM.heap.get? b = some o /\ X.aX b = none
  bsz : X.base.objs.size <= X.aM.heap.objs.size
  yt : ∀ b o, X.base.get? b = some o -> b ∉ X.ex
  AE : ∀ b ∈ X.ex, b ∉ X.fs
  lX : X.aM.heap.FunFrames X.base X.outer
  frf : ∀ b ∈ X.fs, X.aX b = none
structure Inv (X : Cx) (pins : List (Addr × Obj)) (σ : List (Option V)) (H : Hp) (s : Shared) : Prop where
  ok : X.Ok
  os : s.os = X.aM.os
  bare : AllBare s.gens
  base : Un X.fs X.ex X.aX H X.aM.heap s.heap
  loc : ∃ m, s.heap.Ns X.env.locals m /\ ∀ (i : Nat) (x : Str) (v : V), X.N[i]? = some x -> σ[i]? = some (some v) -> Vis X.env.scope x -> ∃ u, RelV v u /\ Look X.env s.heap m x u
  cell : ∀ x c, X.env.cells.lookup x = some c -> ∃ v, s.heap.IsCell c v
  free : H X.env.locals = none
  hX : ∀ x c, X.env.cells.lookup x = some c -> H c = none
  pin : ∀ p ∈ X.pn ++ pins, s.heap.get? p.1 = some p.2 /\ H p.1 = none /\ p.1 ≠ X.env.locals /\ p.1 ∉ X.fs /\ ∀ v, p.2.data ≠ .cell v
  hok : HOk X.prog X.w H s.heap
  len : σ.length = X.N.length
section
variable {X : Cx} {pins : List (Addr × Obj)} {σ : List (Option V)} {H H' : Hp} {s : Shared} {h' : Heap}
theorem Cx.Ok.Fz (ok : X.Ok) {b : Addr} {o : Obj} (e : X.base.get? b = some o) : b ∉ X.fs := fun hb => by
  have := (ok.lX.mem hb).1
  rw [e] at this; cases this
theorem Inv.bs (I : Inv X pins σ H s) : ∀ b o, X.base.get? b = some o -> s.heap.get? b = some o /\ H b = none := fun b o e =>
  ⟨I.base.keep b o (I.ok.bs b o e).1 (I.ok.bs b o e).2 (I.ok.Fz e) (I.ok.yt b o e), I.base.free b o (I.ok.bs b o e).1 (I.ok.bs b o e).2 (I.ok.yt b o e)⟩
theorem Inv.bk (I : Inv X pins σ H s) : ∀ b o, X.base.get? b = some o -> s.heap.get? b = some o := fun b o e => (I.bs b o e).1
theorem Inv.mod (I : Inv X pins σ H s) : Mod X.K X.mg X.base := I.ok.mod
theorem Inv.kIn (I : Inv X pins σ H s) : X.K.In s.heap := I.ok.mod.kin.keeps I.bk
theorem Inv.lt (I : Inv X pins σ H s) : X.env.locals < s.heap.objs.size := let ⟨_, hn, _⟩ := I.loc; hn.lt
theorem Inv.sz (I : Inv X pins σ H s) : X.aM.heap.objs.size <= s.heap.objs.size := Nat.le_trans I.ok.above (Nat.le_of_lt I.lt)
theorem Inv.EW (I : Inv X pins σ H s) {a : Addr} (h : s.heap.objs.size <= a) : a ∉ X.fs := fun hb => by
  obtain ⟨_, o, ho, _⟩ := I.ok.lX.mem hb
  exact absurd (Nat.lt_of_lt_of_le (Heap.lt_size ho) (Nat.le_trans I.sz h)) (Nat.lt_irrefl _)
theorem Inv.cne (I : Inv X pins σ H s) : ∀ x c, X.env.cells.lookup x = some c -> c ≠ X.env.locals := fun x c e z => by
  obtain ⟨v, o, ho, hd⟩ := I.cell x c e
  obtain ⟨m, ⟨o', es, ep, ho', hd', _⟩, _⟩ := I.loc
  rw [z, ho'] at ho; cases ho; rw [hd'] at hd; cases hd
theorem Inv.lX (I : Inv X pins σ H s) : s.heap.FunFrames X.base X.outer := by
  have all : ∀ (l : List Env), (∀ b ∈ frs l, b ∈ X.fs) -> X.aM.heap.FunFrames X.base l -> s.heap.FunFrames X.base l := by
    intro l
    induction l with
    | nil => intro _ _; trivial
    | cons env r ih =>
      intro hs hl
      obtain ⟨hk, ⟨L, o, hf, hn, ho, hd⟩, hr⟩ := hl
      have hL : L ∈ X.fs := hs L (by unfold frs; rw [List.filterMap_cons, hf]; exact List.mem_cons_self)
      obtain ⟨sl, e⟩ := I.base.slot L o ho (I.ok.frf L hL) hL fun z => I.ok.AE L z hL
      exact ⟨hk, ⟨L, _, hf, hn, e, hd⟩, ih (fun b hb => hs b (by unfold frs; rw [List.filterMap_cons, hf]; exact List.mem_cons_of_mem _ hb)) hr⟩
  exact all X.outer (fun _ hb => hb) I.ok.lX
theorem Inv.stack (I : Inv X pins σ H s) : s.heap.FunFrames X.base X.stack := by
  rcases I.ok.stk with e | ⟨e, hf⟩
  · rw [e]; exact I.lX
  · rw [e]
    obtain ⟨m, hn, _⟩ := I.loc
    refine .cons (by rw [I.ok.kind]; decide) hf hn ?_ I.lX
    exact Heap.get?_none_of_le (Nat.le_trans I.ok.bsz I.ok.above)
theorem Inv.pY (I : Inv X pins σ H s) : ∀ b ∈ frs X.stack, b ∈ X.env.locals :: X.fs := fun b hb => by
  rcases I.ok.stk with e | ⟨e, hf⟩
  · rw [e] at hb; exact List.mem_cons_of_mem _ hb
  · rw [e] at hb
    unfold frs at hb
    rw [List.filterMap_cons, hf] at hb
    exact hb
theorem Inv.vJ (I : Inv X pins σ H s) : ∀ b ∈ frs X.stack, H b = none := fun b hb => by
  rcases List.mem_cons.mp (I.pY b hb) with e | hb
  · rw [e]; exact I.free
  · obtain ⟨_, o, ho, _⟩ := I.ok.lX.mem hb
    exact I.base.free b o ho (I.ok.frf b hb) fun z => I.ok.AE b z hb
theorem Inv.step {g' : Array GenState} {t' : Nat} {d' : Drawn} {ch : List Addr} (I : Inv X pins σ H s)
    (hch : ∀ b ∈ ch, (b ∈ X.ex \/ X.aM.heap.objs.size <= b) /\ b ≠ X.env.locals /\ (∀ x c, X.env.cells.lookup x = some c -> c ≠ b) /\ ∀ p ∈ X.pn ++ pins, p.1 ≠ b)
    (keep : ∀ b o, b ≠ X.env.locals -> b ∉ X.fs -> b ∉ ch -> s.heap.get? b = some o -> H b = none -> h'.get? b = some o)
    (slot : ∀ b o, b ≠ X.env.locals -> b ∈ X.fs -> b ∉ ch -> s.heap.get? b = some o -> H b = none -> ∃ sl, h'.get? b = some { o with slots := sl }) (free : ∀ b o, b ∉ ch -> s.heap.get? b = some o -> H b = none -> H' b = none)
    (there : ∀ b o, b ∉ ch -> s.heap.get? b = some o -> ∃ o', h'.get? b = some o')
    (lY : ∀ b xs, H b = some (.tup xs) -> H' b = some (.tup xs)) (ku : ∀ b o u, H b = some (.frz o u) -> H' b = some (.frz o u)) (lG : ∀ b ps, H b = some (.tbl ps) -> ∃ more, H' b = some (.tbl (ps ++ more)))
    (ns : ∀ m, s.heap.Ns X.env.locals m -> h'.Ns X.env.locals m) (hok : HOk X.prog X.w H' h') (hg : AllBare g') :
    Inv X pins σ H' { s with heap := h', gens := g', drawn := d', toks := t' } := by
  have neL : ∀ b o, X.aM.heap.get? b = some o -> b ≠ X.env.locals := fun b o e => Nat.ne_of_lt (Nat.lt_of_lt_of_le (Heap.lt_size e) I.ok.above)
  have neC : ∀ b o, X.aM.heap.get? b = some o -> b ∉ X.ex -> b ∉ ch := fun b o e hx hb => by
    rcases (hch b hb).1 with z | z
    · exact hx z
    · exact absurd (Nat.lt_of_lt_of_le (Heap.lt_size e) z) (Nat.lt_irrefl _)
  have cellK : ∀ x c, X.env.cells.lookup x = some c -> ∀ v, s.heap.IsCell c v -> h'.IsCell c v := fun x c e v ⟨o, ho, hd⟩ => by
    have nch : c ∉ ch := fun z => (hch c z).2.2.1 x c e rfl
    by_cases hc : c ∈ X.fs
    · obtain ⟨sl, q⟩ := slot c o (I.cne x c e) hc nch ho (I.hX x c e)
      exact ⟨_, q, hd⟩
    · exact ⟨o, keep c o (I.cne x c e) hc nch ho (I.hX x c e), hd⟩
  refine ⟨I.ok, I.os, hg, ⟨fun b o e n hb hx => ?_, fun b o e n hb hx => ?_, fun b o e n hx => ?_, fun b o e hx => ?_, fun b xs e => lY b xs (I.base.lY b xs e), fun b o xs e => ku b o xs (I.base.ku b o xs e), fun b ps e => ?_⟩, ?_, fun x c e => ?_, ?_, fun x c e => ?_, fun p hp => ?_, hok, I.len⟩
  · exact keep b o (neL b o e) hb (neC b o e hx) (I.base.keep b o e n hb hx) (I.base.free b o e n hx)
  · obtain ⟨sl, e1⟩ := I.base.slot b o e n hb hx
    obtain ⟨sl', e2⟩ := slot b _ (neL b o e) hb (neC b o e hx) e1 (I.base.free b o e n hx)
    exact ⟨sl', e2⟩
  · obtain ⟨o', e1⟩ := I.base.there b o e hx
    exact free b o' (neC b o e hx) e1 (I.base.free b o e n hx)
  · obtain ⟨o', e1⟩ := I.base.there b o e hx
    exact there b o' (neC b o e hx) e1
  · obtain ⟨m1, e1⟩ := I.base.lG b ps e
    obtain ⟨m2, e2⟩ := lG b _ e1
    exact ⟨m1 ++ m2, by rw [e2, Array.append_assoc]⟩
  · obtain ⟨m, hn, hl⟩ := I.loc
    refine ⟨m, ns m hn, fun i x v e1 e2 e3 => ?_⟩
    obtain ⟨u, r, l⟩ := hl i x v e1 e2 e3
    refine ⟨u, r, ?_⟩
    rcases l with l | ⟨k, c, e, z⟩
    · exact .inl l
    · exact .inr ⟨k, c, e, cellK x c e _ z⟩
  · obtain ⟨v, z⟩ := I.cell x c e
    exact ⟨v, cellK x c e v z⟩
  · obtain ⟨m, ⟨o, _, _, ho, _⟩, _⟩ := I.loc
    exact free _ o (fun z => (hch _ z).2.1 rfl) ho I.free
  · obtain ⟨v, o, ho, hd⟩ := I.cell x c e
    exact free c o (fun z => (hch c z).2.2.1 x c e rfl) ho (I.hX x c e)
  · obtain ⟨e, n, ne, nf, d⟩ := I.pin p hp
    have nch : p.1 ∉ ch := fun z => (hch p.1 z).2.2.2 p hp rfl
    exact ⟨keep p.1 p.2 ne nf nch e n, free p.1 p.2 nch e n, ne, nf, d⟩
theorem Inv.un {t' : Nat} (I : Inv X pins σ H s) (u : Un X.fs [] H H' s.heap h') (hok : HOk X.prog X.w H' h') : Inv X pins σ H' { s with heap := h', toks := t' } := by
  obtain ⟨m, ⟨o, es, ep, ho, r⟩, _⟩ := id I.loc
  obtain ⟨sl, hL⟩ := u.any ho I.free (by simp)
  exact I.step (g' := s.gens) (d' := s.drawn) (ch := []) (fun _ z => nomatch z) (fun b o _ hb _ e n => u.keep b o e n hb (by simp)) (fun b o _ hb _ e n => u.slot b o e n hb (by simp)) (fun b o _ e n => u.free b o e n (by simp)) (fun b o _ e => u.there b o e (by simp)) u.lY u.ku u.lG (fun m' hm => by
    obtain ⟨o', es', ep', ho', r'⟩ := hm
    rw [ho] at ho'; cases ho'
    exact ⟨_, es', ep', hL, r'⟩) hok I.bare
theorem Inv.call {g' : Array GenState} {t' : Nat} {d' : Drawn} {ch : List Addr} (I : Inv X pins σ H s) (u : Un (frs X.stack) ch H H' s.heap h') (hok : HOk X.prog X.w H' h') (hg : AllBare g')
    (hch : ∀ b ∈ ch, (b ∈ X.ex \/ X.aM.heap.objs.size <= b) /\ b ≠ X.env.locals /\ (∀ x c, X.env.cells.lookup x = some c -> c ≠ b) /\ ∀ p ∈ X.pn ++ pins, p.1 ≠ b) :
    Inv X pins σ H' { s with heap := h', gens := g', drawn := d', toks := t' } := by
  obtain ⟨m, ⟨o, es, ep, ho, r⟩, _⟩ := id I.loc
  obtain ⟨sl, hL⟩ := u.any ho I.free fun z => (hch _ z).2.1 rfl
  exact I.step (ch := ch) hch (fun b o hL hb hc e n => u.keep b o e n (fun z => (List.mem_cons.mp (I.pY b z)).elim hL hb) hc) (fun b o _ _ hc e n => u.any e n hc) (fun b o hc e n => u.free b o e n hc) (fun b o hc e => u.there b o e hc) u.lY u.ku u.lG (fun m' hm => by
    obtain ⟨o', es', ep', ho', r'⟩ := hm
    rw [ho] at ho'; cases ho'
    exact ⟨_, es', ep', hL, r'⟩) hok hg
theorem Inv.turned {t' : Nat} {it : Addr} (I : Inv X pins σ H s) (k : ∀ b o, b ≠ it -> s.heap.get? b = some o -> h'.get? b = some o) (hn : H it = none) (hL : it ≠ X.env.locals)
    (h1 : it ∈ X.ex \/ X.aM.heap.objs.size <= it) (h2 : ∀ x c, X.env.cells.lookup x = some c -> c ≠ it) (h3 : ∀ p ∈ X.pn ++ pins, p.1 ≠ it) : Inv X pins σ H { s with heap := h', toks := t' } := by
  have nit : ∀ b u, H b = some u -> b ≠ it := fun b u e z => by rw [z, hn] at e; cases e
  refine I.step (g' := s.gens) (d' := s.drawn) (ch := [it]) (fun b hb => ?_) (fun b o _ _ hc e _ => k b o (fun z => hc (by simp [z])) e) (fun b o _ _ hc e _ => ⟨o.slots, k b o (fun z => hc (by simp [z])) e⟩) (fun _ _ _ _ n => n)
    (fun b o hc e => ⟨o, k b o (fun z => hc (by simp [z])) e⟩) (fun _ _ e => e) (fun _ _ _ e => e) (fun b ps e => ⟨#[], by rw [e]; simp⟩) (fun m hm => ?_) (fun b u e => ?_) I.bare
  · have e : b = it := by simpa using hb
    subst e
    exact ⟨h1, hL, h2, h3⟩
  · obtain ⟨o, es, ep, ho, r⟩ := hm
    exact ⟨o, es, ep, k _ o (Ne.symm hL) ho, r⟩
  · refine (I.hok b u e).ki (fun c v hc q => k c v ?_ q) (fun _ q => q) fun _ _ q => q
    rcases hc with z | z
    · rw [z]; exact nit b u e
    · exact nit c _ z
theorem Inv.tok (I : Inv X pins σ H s) (t : Nat) : Inv X pins σ H { s with toks := t } := I.un (h' := s.heap) (t' := t) Un.refl I.hok
theorem Inv.kept {t' : Nat} (I : Inv X pins σ H s) (k : ∀ b u, s.heap.get? b = some u -> h'.get? b = some u) : Inv X pins σ H { s with heap := h', toks := t' } := I.un (Un.kept k) (I.hok.kept k)
theorem Inv.laid {a : Addr} {o : HO} {t' : Nat} (I : Inv X pins σ H s) (k : ∀ b u, s.heap.get? b = some u -> h'.get? b = some u) (hp : s.heap.objs.size <= a) (new : bC X.prog X.w (upd H a o) h' a o) :
    Inv X pins σ (upd H a o) { s with heap := h', toks := t' } := I.un (Un.laid k hp (I.hok.fresh hp)) (I.hok.laid k hp new)
theorem Inv.write {x e : Addr} {o : HO} {t' : Nat} (I : Inv X pins σ H s) (mu : Mut (H x)) (he : e = x \/ H e = some (.own x)) (k : ∀ b u, b ≠ e -> s.heap.get? b = some u -> h'.get? b = some u) (heo : ∃ u, h'.get? e = some u)
    (new : bC X.prog X.w (upd H x o) h' x o) : Inv X pins σ (upd H x o) { s with heap := h', toks := t' } := I.un (Un.write mu he k heo) (I.hok.write mu he k heo new)
theorem Inv.mj {pins' : List (Addr × Obj)} (I : Inv X pins σ H s) (h : ∀ p ∈ pins', s.heap.get? p.1 = some p.2 /\ H p.1 = none /\ p.1 ≠ X.env.locals /\ p.1 ∉ X.fs /\ ∀ v, p.2.data ≠ .cell v) : Inv X pins' σ H s :=
  ⟨I.ok, I.os, I.bare, I.base, I.loc, I.cell, I.free, I.hX, fun p hp => (List.mem_append.mp hp).elim (fun z => I.pin p (List.mem_append_left _ z)) (h p), I.hok, I.len⟩
theorem rV {N : List Str} (hN : N.Nodup) {i j : Nat} {x : Str} (a : N[i]? = some x) (b : N[j]? = some x) : i = j := by
  obtain ⟨h1, e1⟩ := List.getElem?_eq_some_iff.mp a
  obtain ⟨h2, e2⟩ := List.getElem?_eq_some_iff.mp b
  exact (List.getElem_inj hN).mp (e1.trans e2.symm)
theorem xc {M : Model} {A : Around} {E : Value -> Shared -> Prop} {i : Nat} {x : Str} {v : V} {u : Value} {Q : Unit -> Shared -> Prop} (I : Inv X pins σ H s) (hN : X.N.Nodup) (hi : X.N[i]? = some x) (hx : Loc X.env.scope x) (r : RelV v u)
    (h : ∀ s', Inv X pins (σ.set i (some v)) H s' -> (∃ a, Heap.SameBut a s.heap s'.heap /\ (a = X.env.locals \/ X.env.cells.lookup x = some a)) -> Q () s') (hf : X.fn x = true \/ X.env.scope.names.lookup x = some .local := by first | exact .inl rfl | exact .inr rfl | assumption) : wpAny M A (storeName X.env x u) Q E s := by
  obtain ⟨m, hn, hl⟩ := id I.loc
  have hcls : (X.env.scope.kind == .class || (X.env.scope.kind == .module && X.env.locals != X.env.globals)) = false := by rw [I.ok.kind]; rfl
  have hiσ : i < σ.length := by rw [I.len]; exact (List.getElem?_eq_some_iff.mp hi).1
  have cne := I.cne
  have tracked : ∀ {a : Addr} {h' : Heap}, (∃ o, s.heap.get? a = some o /\ H a = none) -> Heap.SameBut a s.heap h' -> HOk X.prog X.w H h' := fun {a h'} ha hs b ob e => by
    obtain ⟨_, _, hfree⟩ := ha
    refine (I.hok b ob e).ki (fun c w' hc q => (hs.2 c ?_).trans q) (fun _ q => q) fun _ _ q => q
    rintro rfl
    rcases hc with rfl | hc
    · rw [hfree] at e; cases e
    · rw [hfree] at hc; cases hc
  rcases hx with hk | hk
  · refine wpAny_storeName_local hk hn (fun h' hn' hs => ?_) hcls
    obtain ⟨oL, _, _, hoL, _⟩ := id hn
    refine h _ ⟨I.ok, I.os, I.bare, ⟨fun b o e n hb hx => ?_, fun b o e n hb hx => ?_, I.base.free, fun b o e hx => ?_, I.base.lY, I.base.ku, I.base.lG⟩, ⟨_, hn', fun j y v' e1 e2 e3 => ?_⟩, fun y c e => ?_, I.free, I.hX, fun p hp => ?_, tracked ⟨oL, hoL, I.free⟩ hs, by simpa using I.len⟩ ⟨_, hs, .inl rfl⟩
    · exact (hs.2 b (Nat.ne_of_lt (Nat.lt_of_lt_of_le (Heap.lt_size e) I.ok.above))).trans (I.base.keep b o e n hb hx)
    · obtain ⟨sl, e1⟩ := I.base.slot b o e n hb hx
      exact ⟨sl, (hs.2 b (Nat.ne_of_lt (Nat.lt_of_lt_of_le (Heap.lt_size e) I.ok.above))).trans e1⟩
    · obtain ⟨o', e1⟩ := I.base.there b o e hx
      exact ⟨o', (hs.2 b (Nat.ne_of_lt (Nat.lt_of_lt_of_le (Heap.lt_size e) I.ok.above))).trans e1⟩
    · by_cases hj : j = i
      · subst hj
        rw [hi] at e1; cases e1
        rw [List.getElem?_set_self hiσ] at e2
        cases e2
        exact ⟨u, r, .inl ⟨hk, by simp⟩⟩
      · rw [List.getElem?_set_ne (Ne.symm hj)] at e2
        obtain ⟨u', r', q⟩ := hl j y v' e1 e2 e3
        refine ⟨u', r', ?_⟩
        rcases q with ⟨k, e⟩ | ⟨k, c, e, z⟩
        · refine .inl ⟨k, ?_⟩
          have : y ≠ x := fun e => hj (rV hN e1 (e ▸ hi))
          simp [this, e]
        · exact .inr ⟨k, c, e, z.sameBut hs (cne y c e)⟩
    · obtain ⟨w', z⟩ := I.cell y c e
      exact ⟨w', z.sameBut hs (cne y c e)⟩
    · obtain ⟨e, n, ne, nf, d⟩ := I.pin p hp
      exact ⟨(hs.2 p.1 ne).trans e, n, ne, nf, d⟩
  · have hfn : X.fn x = true := by
      rcases hf with z | z
      · exact z
      · rw [z] at hk; cases hk
    obtain ⟨c, hc⟩ := I.ok.has x (.inl hk)
    obtain ⟨w', z⟩ := I.cell x c hc
    refine wpAny_storeName_cell I.ok.kind hk hc z (fun h' hc' hs => ?_)
    obtain ⟨oc, hoc, hocd⟩ := id z
    refine h { s with heap := h' } ⟨I.ok, I.os, I.bare, ⟨fun b o e n hb hx => ?_, fun b o e n hb hx => ?_, I.base.free, fun b o e hx => ?_, I.base.lY, I.base.ku, I.base.lG⟩, ⟨m, hn.sameBut hs (Ne.symm (cne x c hc)), fun j y v' e1 e2 e3 => ?_⟩, fun y c' e => ?_, I.free, I.hX, fun p hp => ?_, tracked ⟨oc, hoc, I.hX x c hc⟩ hs, by simpa using I.len⟩ ⟨c, hs, .inr hc⟩
    · exact (hs.2 b (Nat.ne_of_lt (Nat.lt_of_lt_of_le (Heap.lt_size e) (I.ok.cab x c hfn hc)))).trans (I.base.keep b o e n hb hx)
    · obtain ⟨sl, e1⟩ := I.base.slot b o e n hb hx
      exact ⟨sl, (hs.2 b (Nat.ne_of_lt (Nat.lt_of_lt_of_le (Heap.lt_size e) (I.ok.cab x c hfn hc)))).trans e1⟩
    · obtain ⟨o', e1⟩ := I.base.there b o e hx
      exact ⟨o', (hs.2 b (Nat.ne_of_lt (Nat.lt_of_lt_of_le (Heap.lt_size e) (I.ok.cab x c hfn hc)))).trans e1⟩
    · by_cases hj : j = i
      · subst hj
        rw [hi] at e1; cases e1
        rw [List.getElem?_set_self hiσ] at e2
        cases e2
        exact ⟨u, r, .inr ⟨.inl hk, c, hc, hc'⟩⟩
      · rw [List.getElem?_set_ne (Ne.symm hj)] at e2
        obtain ⟨u', r', q⟩ := hl j y v' e1 e2 e3
        refine ⟨u', r', ?_⟩
        rcases q with q | ⟨k, c', e, z'⟩
        · exact .inl q
        · refine .inr ⟨k, c', e, z'.sameBut hs ?_⟩
          rintro rfl
          exact hj (rV hN e1 (I.ok.inj _ _ _ e hc ▸ hi))
    · by_cases hcc : c' = c
      · subst hcc; exact ⟨_, hc'⟩
      · obtain ⟨w2, z2⟩ := I.cell y c' e
        exact ⟨w2, z2.sameBut hs hcc⟩
    · obtain ⟨e, n, ne, nf, d⟩ := I.pin p hp
      refine ⟨(hs.2 p.1 ?_).trans e, n, ne, nf, d⟩
      intro q
      rw [q, hoc] at e
      have q' : oc = p.2 := Option.some.inj e
      exact d w' (by rw [<- q']; exact hocd)
theorem jU {M : Model} {A : Around} {E : Value -> Shared -> Prop} {i : Nat} {x : Str} {v : V} {u : Value} {Q : Unit -> Shared -> Prop} (I : Inv X pins σ H s) (hN : X.N.Nodup) (hi : X.N[i]? = some x) (hx : Loc X.env.scope x) (r : RelV v u)
    (h : ∀ s', Inv X pins (σ.set i (some v)) H s' -> Q () s') (hf : X.fn x = true \/ X.env.scope.names.lookup x = some .local := by first | exact .inl rfl | exact .inr rfl | assumption) : wpAny M A (storeName X.env x u) Q E s :=
  xc I hN hi hx r (fun s' I' _ => h s' I') hf
theorem Inv.vA {s' : Shared} {ch : List Addr} (I : Inv X pins σ H s) (ho : s'.os = s.os) (u : Un (frs X.stack) ch H H' s.heap s'.heap) (hok : HOk X.prog X.w H' s'.heap) (hg : AllBare s'.gens)
    (hch : ∀ b ∈ ch, (b ∈ X.ex \/ X.aM.heap.objs.size <= b) /\ b ≠ X.env.locals /\ (∀ x c, X.env.cells.lookup x = some c -> c ≠ b) /\ ∀ p ∈ X.pn ++ pins, p.1 ≠ b) : Inv X pins σ H' s' := by
  obtain ⟨h', g', d', t', o'⟩ := s'
  have e : o' = s.os := ho
  subst e
  exact I.call (g' := g') (t' := t') (d' := d') u hok hg hch
end
noncomputable abbrev XK := Value -> Option Addr -> Hp -> Prop
noncomputable abbrev St := List (Option V)
noncomputable abbrev VK := V -> Hp -> Prop
noncomputable abbrev TE := St -> Hp -> VK -> Prop
noncomputable abbrev TT := St -> Hp -> (Bool -> Hp -> Prop) -> Prop
noncomputable abbrev TA := St -> Hp -> (List V -> Hp -> Prop) -> Prop
structure Ends where
  nx : St -> Hp -> Prop
  rt : VK
  bk : St -> Hp -> Prop := fun _ _ => False
  ct : St -> Hp -> Prop := fun _ _ => False
noncomputable abbrev TS := Ends -> St -> Hp -> Prop
noncomputable def EP (X : Cx) (pins : List (Addr × Obj)) (σ : St) (Q : VK) (u : Value) (s' : Shared) : Prop := ∃ v H', Inv X pins σ H' s' /\ RelV v u /\ Q v H'
noncomputable def TP (X : Cx) (pins : List (Addr × Obj)) (σ : St) (Q : Bool -> Hp -> Prop) (b : Bool) (s' : Shared) : Prop := ∃ H', Inv X pins σ H' s' /\ Q b H'
noncomputable def AP (X : Cx) (pins : List (Addr × Obj)) (σ : St) (Q : List V -> Hp -> Prop) (us : List Value) (s' : Shared) : Prop := ∃ vs H', Inv X pins σ H' s' /\ Vals vs us /\ Q vs H'
noncomputable def SP (X : Cx) (pins : List (Addr × Obj)) (D : Ends) (f : Flow) (s' : Shared) : Prop :=
  match f with
  | .next => ∃ σ' H', Inv X pins σ' H' s' /\ D.nx σ' H'
  | .brk => ∃ σ' H', Inv X pins σ' H' s' /\ D.bk σ' H'
  | .cont => ∃ σ' H', Inv X pins σ' H' s' /\ D.ct σ' H'
  | .ret u => ∃ v σ' H', Inv X pins σ' H' s' /\ RelV v u /\ D.rt v H'
noncomputable def PE (X : Cx) (e : Expr) (t : TE) : Prop :=
  ∀ (pins : List (Addr × Obj)) (s : Shared) (σ : St) (H : Hp) (Q : VK), Inv X pins σ H s -> t σ H Q -> wpAny (model X.prog X.w) X.A (eval e X.env) (EP X pins σ Q) X.xe s
noncomputable def PT (X : Cx) (e : Expr) (t : TT) : Prop :=
  ∀ (pins : List (Addr × Obj)) (s : Shared) (σ : St) (H : Hp) (Q : Bool -> Hp -> Prop), Inv X pins σ H s -> t σ H Q -> wpAny (model X.prog X.w) X.A (isTrue e X.env (eval e X.env)) (TP X pins σ Q) X.xe s
noncomputable def PW (X : Cx) (e : Expr) (t : TT) : Prop :=
  ∀ (whole : Sem Value) (pins : List (Addr × Obj)) (s : Shared) (σ : St) (H : Hp) (Q : Bool -> Hp -> Prop), Inv X pins σ H s -> t σ H Q -> wpAny (model X.prog X.w) X.A (isTrue e X.env whole) (TP X pins σ Q) X.xe s
theorem PW.pt {X : Cx} {e : Expr} {t : TT} (h : PW X e t) : PT X e t := h _
noncomputable def PA (X : Cx) (es : List Expr) (t : TA) : Prop :=
  ∀ (pos : Pos) (pins : List (Addr × Obj)) (s : Shared) (σ : St) (H : Hp) (Q : List V -> Hp -> Prop), Inv X pins σ H s -> t σ H Q -> wpAny (model X.prog X.w) X.A (spliced (backTo pos (starEach es X.env))) (AP X pins σ Q) X.xe s
noncomputable def PS (X : Cx) (st : Stmt) (t : TS) : Prop :=
  ∀ (pins : List (Addr × Obj)) (s : Shared) (σ : St) (H : Hp) (D : Ends), Inv X pins σ H s -> t D σ H -> wpAny (model X.prog X.w) X.A (exec st X.env) (SP X pins D) X.xe s
noncomputable def PSs (X : Cx) (st : List Stmt) (t : TS) : Prop :=
  ∀ (pins : List (Addr × Obj)) (s : Shared) (σ : St) (H : Hp) (D : Ends), Inv X pins σ H s -> t D σ H -> wpAny (model X.prog X.w) X.A (execs st X.env) (SP X pins D) X.xe s
theorem thn {α : Type} {t : Sem α} {Q Q' : α -> Shared -> Prop} {M : Model} {A : Around} {E : Value -> Shared -> Prop} {s : Shared} (h : wpAny M A t Q E s) (hQ : ∀ a s, Q a s -> Q' a s) : wpAny M A t Q' E s := wpAny_mono h hQ fun _ _ x => x
section
variable {X : Cx}
noncomputable def FA (i : Nat) : TE := fun σ H Q => ∃ v, σ[i]? = some (some v) /\ Q v H
noncomputable def tC (v : V) : TE := fun _ H Q => Q v H
theorem Dn {i : Nat} {x : Str} {pos : Pos} (hN : X.N[i]? = some x) (hv : Vis X.env.scope x) (hd : (x == ("__debug__" : Str)) = false := by decide) (hcd : (x == ("__classdict__" : Str)) = false := by decide) : PE X (.Name x pos) (FA i) := by
  intro pins s σ H Q I h
  obtain ⟨v, e, h⟩ := h
  obtain ⟨m, hn, hl⟩ := I.loc
  obtain ⟨u, r, l⟩ := hl i x v hN e hv
  have fin : EP X pins σ Q u s := ⟨v, H, I, r, h⟩
  rcases l with ⟨hk, hm⟩ | ⟨hk, c, hc, hcell⟩
  · exact wpAny_Name (wpAny_loadName_local I.ok.kind hk hn hm fin) hd
  · rcases hk with hk | hk
    · exact wpAny_Name (wpAny_loadName_cell I.ok.kind hk hc hcell fin) hd
    · exact wpAny_Name (wpAny_loadName_free I.ok.kind hk hc hcell fin hcd) hd
theorem CD {i j pos} : PE X (.Constant (.int i) j pos) (tC (.int i)) := fun _ _ _ H _ I h => wpAny_Constant_int ⟨.int i, H, I.tok _, ⟨_, rfl⟩, h⟩
theorem Eb {b j pos} : PE X (.Constant (.bool b) j pos) (tC (.bl b)) := fun _ _ _ H _ I h => Constant_bool ⟨.bl b, H, I, rfl, h⟩
noncomputable def Gl (X : Cx) (x : Str) : Prop := X.env.kindOf x = some .globalImplicit
theorem vv {E : Value -> Shared -> Prop} {pins : List (Addr × Obj)} {s : Shared} {σ : St} {H : Hp} {x : Str} {u : Value} {pos : Pos} {Q : Value -> Shared -> Prop} (I : Inv X pins σ H s) (hg : Gl X x) (hm : X.mg x = some u) (h : Q u s)
    (hd : (x == ("__debug__" : Str)) = false := by decide) : wpAny (model X.prog X.w) X.A (eval (.Name x pos) X.env) Q E s :=
  Calls.Name_function_global I.ok.kind hg (Calls.loadGlobal_global (by rw [I.ok.glob]; exact I.mod.glob.keeps I.bk) hm h) hd
theorem kz {E : Value -> Shared -> Prop} {pins : List (Addr × Obj)} {s : Shared} {σ : St} {H : Hp} {x : Str} {u : Value} {pos : Pos} {Q : Value -> Shared -> Prop} (I : Inv X pins σ H s) (hg : Gl X x) (hm : X.mg x = none) (hv : bootBuiltins x = some u) (h : Q u s)
    (hn : x ≠ "__name__" := by decide) (hd : (x == ("__debug__" : Str)) = false := by decide) : wpAny (model X.prog X.w) X.A (eval (.Name x pos) X.env) Q E s := by
  obtain ⟨mb, h1, h2⟩ := I.mod.blt
  exact Calls.Name_function_global I.ok.kind hg (Calls.loadGlobal_builtin (by rw [I.ok.glob]; exact I.mod.glob.keeps I.bk) hm (by rw [I.ok.blt]; exact h1.keeps I.bk) ((h2 x hn).trans hv) h) hd
theorem Al {x : Str} {v : V} {u : Value} {pos : Pos} (hg : Gl X x) (hm : X.mg x = some u) (r : RelV v u) (hd : (x == ("__debug__" : Str)) = false := by decide) : PE X (.Name x pos) (tC v) :=
  fun _ _ _ H _ I h => vv I hg hm ⟨v, H, I, r, h⟩ hd
theorem Ac {x : Str} {v : V} {u : Value} {pos : Pos} (hg : Gl X x) (hm : X.mg x = none) (hv : bootBuiltins x = some u) (r : RelV v u) (hn : x ≠ "__name__" := by decide) (hd : (x == ("__debug__" : Str)) = false := by decide) : PE X (.Name x pos) (tC v) :=
  fun _ _ _ H _ I h => kz I hg hm hv ⟨v, H, I, r, h⟩ hn hd
variable {a b : Expr} {ta tb : TE} {pos : Pos}
variable {tA tB' : TT} {rest : List Expr}
noncomputable def Gb (t u : TT) : TT := fun σ H Q => t σ H fun c H1 => if c = true then u σ H1 Q else Q false H1
noncomputable def tOr (t u : TT) : TT := fun σ H Q => t σ H fun c H1 => if c = true then Q true H1 else u σ H1 Q
noncomputable def Gs (t : TT) : TT := fun σ H Q => t σ H fun c H1 => Q (!c) H1
theorem pw_and1 (ha : PT X a tA) : PW X (.BoolOp .And [a] pos) tA := by
  intro wh pins s σ H Q I h
  refine isTrue_and (thn (ha pins s σ H Q I h) fun c s1 e => ?_)
  cases c with
  | true => exact isTrue_and_nil e
  | false => exact e
theorem pw_or1 (ha : PT X a tA) : PW X (.BoolOp .Or [a] pos) tA := by
  intro wh pins s σ H Q I h
  refine isTrue_or (thn (ha pins s σ H Q I h) fun c s1 e => ?_)
  cases c with
  | false => exact isTrue_or_nil e
  | true => exact e
theorem pw_and (ha : PT X a tA) (hb : PW X (.BoolOp .And (b :: rest) pos) tB') : PW X (.BoolOp .And (a :: b :: rest) pos) (Gb tA tB') := by
  intro wh pins s σ H Q I h
  refine isTrue_and (thn (ha pins s σ H _ I h) fun c s1 ⟨H1, I1, q1⟩ => ?_)
  cases c with
  | true => exact hb wh pins s1 σ H1 Q I1 q1
  | false => exact ⟨H1, I1, q1⟩
theorem pw_or (ha : PT X a tA) (hb : PW X (.BoolOp .Or (b :: rest) pos) tB') : PW X (.BoolOp .Or (a :: b :: rest) pos) (tOr tA tB') := by
  intro wh pins s σ H Q I h
  refine isTrue_or (thn (ha pins s σ H _ I h) fun c s1 ⟨H1, I1, q1⟩ => ?_)
  cases c with
  | true => exact ⟨H1, I1, q1⟩
  | false => exact hb wh pins s1 σ H1 Q I1 q1
theorem Dl (ha : PT X a tA) : PT X (.UnaryOp .Not a pos) (Gs tA) := by
  intro pins s σ H Q I h
  exact isTrue_not (ha pins s σ H (fun c H1 => Q (!c) H1) I h)
noncomputable def DP (ta tb : TE) : TE := fun σ H Q => ta σ H fun x H1 => ∃ c, x = .bl c /\ if c = true then tb σ H1 Q else Q (.bl false) H1
noncomputable def EB (ta : TE) : TE := fun σ H Q => ta σ H fun x H1 => ∃ c, x = .bl c /\ Q (.bl (!c)) H1
theorem Dq {op} {t : TE} (h : PE X a t) : PE X (.BoolOp op [a] pos) t := fun pins s σ H Q I hw => BoolOp_one (h pins s σ H Q I hw)
theorem CB (ha : PE X a ta) (hb : PE X (.BoolOp .And (b :: rest) pos) tb) : PE X (.BoolOp .And (a :: b :: rest) pos) (DP ta tb) := by
  intro pins s σ H Q I h
  refine BoolOp_and (thn (ha pins s σ H _ I h) fun v s1 ⟨x, H1, I1, r1, q1⟩ => ?_)
  obtain ⟨c, rfl, q1⟩ := q1
  cases r1
  refine wpAny_truthy_bool ?_
  cases c with
  | true => exact hb pins s1 σ H1 Q I1 q1
  | false => exact ⟨.bl false, H1, I1, rfl, q1⟩
theorem Dc (ha : PE X a ta) : PE X (.UnaryOp .Not a pos) (EB ta) := by
  intro pins s σ H Q I h
  refine UnaryOp_ (thn (ha pins s σ H _ I h) fun v s1 ⟨x, H1, I1, r1, q1⟩ => ?_)
  obtain ⟨c, rfl, q1⟩ := q1
  cases r1
  exact not_of (wpAny_truthy_bool ⟨.bl (!c), H1, I1, rfl, q1⟩)
noncomputable def tIf (t : TT) (ta tb : TE) : TE := fun σ H Q => t σ H fun c H1 => if c = true then ta σ H1 Q else tb σ H1 Q
theorem zI {c : Expr} (hc : PT X c tA) (ha : PE X a ta) (hb : PE X b tb) : PE X (.IfExp c a b pos) (tIf tA ta tb) := by
  intro pins s σ H Q I h
  refine wpAny_IfExp (thn (hc pins s σ H _ I h) fun d s1 ⟨H1, I1, q1⟩ => ?_)
  cases d with
  | true => exact ha pins s1 σ H1 Q I1 q1
  | false => exact hb pins s1 σ H1 Q I1 q1
end
noncomputable def SqL (K : PySem.W.Frag) (H : Hp) (a : Addr) (xs : List V) : Prop :=
  Rd H a (.lst xs) ∨
    ∃ (o : Obj) (its : Array Value) (n : Nat), K.lookup a = some o /\ o.cls = .type "list" /\ o.dict = none /\ o.data = .seq its n /\ its.size <= sizeLine /\ Vals xs its.toList
noncomputable def SqT (K : PySem.W.Frag) (H : Hp) (a : Addr) (xs : List V) : Prop :=
  Rd H a (.tup xs) ∨
    ∃ (o : Obj) (its : Array Value) (n : Nat), K.lookup a = some o /\ o.cls = .type "tuple" /\ o.data = .seq its n /\ its.size <= sizeLine /\ Vals xs its.toList
noncomputable def FO : Value -> Option V
  | .none => some .non
  | .bool b => some (.bl b)
  | .int i _ => some (.int i)
  | .str x _ => some (.str x)
  | .bytes b _ => some (.byt b)
  | .float b _ => some (.flt b)
  | .ref a => some (.ref a)
  | .type n => some (.ty n)
  | _ => none
theorem RelV.abs {x : V} {u : Value} (r : RelV x u) : FO u = some x := by
  cases x with
  | non => cases r; rfl
  | bl _ => cases r; rfl
  | int _ => obtain ⟨t, rfl⟩ := r; rfl
  | str _ => obtain ⟨t, rfl⟩ := r; rfl
  | byt _ => obtain ⟨t, rfl⟩ := r; rfl
  | flt _ => obtain ⟨t, rfl⟩ := r; rfl
  | ref _ => cases r; rfl
  | ty _ => cases r; rfl
theorem RelV.inj {x y : V} {u : Value} (r : RelV x u) (q : RelV y u) : x = y := Option.some.inj (r.abs.symm.trans q.abs)
theorem Vals.inj : ∀ {xs ys : List V} {us : List Value}, Vals xs us -> Vals ys us -> xs = ys
  | _, _, _, .nil, .nil => rfl
  | _, _, _, .cons r t, .cons r' t' => by rw [r.inj r', Vals.inj t t']
section
variable {X : Cx} {pins : List (Addr × Obj)} {σ : St} {H : Hp} {s : Shared} {a : Addr} {xs ys : List V}
theorem SqL.of {K : PySem.W.Frag} (h : H a = some (.lst xs)) : SqL K H a xs := .inl (.inl h)
theorem SqT.of {K : PySem.W.Frag} (h : H a = some (.tup xs)) : SqT K H a xs := .inl (.inl h)
theorem Inv.list (I : Inv X pins σ H s) (h : SqL X.K H a xs) : ∃ its : List Value, Vals xs its /\ PlainL s.heap a its.toArray /\ xs.length <= sizeLine := by
  rcases h with h | ⟨o, its, n, hk, hc, hd, hs, hz, r⟩
  · obtain ⟨z, its, n, r, e⟩ := h.ok I.hok
    exact ⟨its, r, ⟨_, n, e, rfl, rfl, rfl⟩, z⟩
  · refine ⟨its.toList, r, ⟨o, n, I.kIn a o hk, hc, hd, by simpa using hs⟩, ?_⟩
    have e := r.length
    simp only [Array.length_toList] at e
    omega
theorem Inv.tuple (I : Inv X pins σ H s) (h : SqT X.K H a xs) : ∃ its : List Value, Vals xs its /\ IsTup s.heap a its.toArray /\ xs.length <= sizeLine := by
  rcases h with h | ⟨o, its, n, hk, hc, hs, hz, r⟩
  · obtain ⟨z, its, r, p⟩ := h.ok I.hok
    exact ⟨its, r, p.tup, z⟩
  · refine ⟨its.toList, r, ⟨o, I.kIn a o hk, hc, n, by simpa using hs⟩, ?_⟩
    have e := r.length
    simp only [Array.length_toList] at e
    omega
theorem Inv.mD (I : Inv X pins σ H s) (h : SqL X.K H a xs) (h' : SqL X.K H a ys) : xs = ys := by
  obtain ⟨its, r, ⟨o, n, e, _, _, d⟩, _⟩ := I.list h
  obtain ⟨its', r', ⟨o', n', e', _, _, d'⟩, _⟩ := I.list h'
  rw [e] at e'; cases e'
  rw [d] at d'
  injection d' with d1 _
  have : its = its' := by simpa using congrArg Array.toList d1
  subst this
  exact r.inj r'
theorem Inv.kT (I : Inv X pins σ H s) (h : SqT X.K H a xs) (h' : SqT X.K H a ys) : xs = ys := by
  obtain ⟨its, r, ⟨o, e, _, n, d⟩, _⟩ := I.tuple h
  obtain ⟨its', r', ⟨o', e', _, n', d'⟩, _⟩ := I.tuple h'
  rw [e] at e'; cases e'
  rw [d] at d'
  injection d' with d1 _
  have : its = its' := by simpa using congrArg Array.toList d1
  subst this
  exact r.inj r'
end
noncomputable abbrev Cx.nU (X : Cx) (E : Value -> Shared -> Prop) : Cx := { X with xe := E }
noncomputable abbrev Cx.nox (X : Cx) : Cx := X.nU fun _ _ => False
theorem Cx.Ok.nU {X : Cx} (ok : X.Ok) (E : Value -> Shared -> Prop) : (X.nU E).Ok :=
  ⟨ok.mod, ok.kind, ok.glob, ok.blt, ok.above, ok.inj, ok.has, ok.cab, ok.hd, ok.frames, ok.stk, ok.exf, ok.bs, ok.bsz, ok.yt, ok.AE, ok.lX, ok.frf⟩
theorem Cx.Ok.iH {X : Cx} {E : Value -> Shared -> Prop} (ok : (X.nU E).Ok) : X.Ok :=
  ⟨ok.mod, ok.kind, ok.glob, ok.blt, ok.above, ok.inj, ok.has, ok.cab, ok.hd, ok.frames, ok.stk, ok.exf, ok.bs, ok.bsz, ok.yt, ok.AE, ok.lX, ok.frf⟩
section
variable {X : Cx} {pins : List (Addr × Obj)} {σ : St} {H : Hp} {s : Shared} {E : Value -> Shared -> Prop}
theorem Inv.nU (I : Inv X pins σ H s) (E : Value -> Shared -> Prop) : Inv (X.nU E) pins σ H s := ⟨I.ok.nU E, I.os, I.bare, I.base, I.loc, I.cell, I.free, I.hX, I.pin, I.hok, I.len⟩
theorem Inv.iH (I : Inv (X.nU E) pins σ H s) : Inv X pins σ H s := ⟨I.ok.iH, I.os, I.bare, I.base, I.loc, I.cell, I.free, I.hX, I.pin, I.hok, I.len⟩
theorem SP.iH {D : Ends} {f : Flow} {s' : Shared} (h : SP (X.nU E) pins D f s') : SP X pins D f s' := by
  cases f with
  | next => obtain ⟨σ', H', I, q⟩ := h; exact ⟨σ', H', I.iH, q⟩
  | brk => obtain ⟨σ', H', I, q⟩ := h; exact ⟨σ', H', I.iH, q⟩
  | cont => obtain ⟨σ', H', I, q⟩ := h; exact ⟨σ', H', I.iH, q⟩
  | ret u => obtain ⟨v, σ', H', I, r, q⟩ := h; exact ⟨v, σ', H', I.iH, r, q⟩
theorem PSs.nox {st : List Stmt} {t : TS} (h : PSs X.nox st t) : PSs X st t := fun pins s σ H D I hw =>
  wpAny_mono (h pins s σ H D (I.nU _) hw) (fun _ _ q => q.iH) fun _ _ z => False.elim z
end
section
variable {X : Cx} {st : Stmt} {rest : List Stmt} {t u : TS} {e : Expr} {te : TE} {pos : Pos}
noncomputable def D6 : TS := fun D σ H => D.nx σ H
noncomputable def Gn (t u : TS) : TS := fun D σ H => t { D with nx := u D } σ H
theorem Bb : PSs X [] D6 := fun _ _ σ H _ I h => wpAny_execs_nil ⟨σ, H, I, h⟩
theorem ya (h1 : PS X st t) (h2 : PSs X rest u) : PSs X (st :: rest) (Gn t u) := by
  intro pins s σ H D I h
  refine wpAny_execs_cons (thn (h1 pins s σ H { D with nx := u D } I h) fun f s1 q => ?_)
  cases f with
  | next =>
    obtain ⟨σ', H', I', q⟩ := q
    exact h2 pins s1 σ' H' D I' q
  | ret v => exact q
  | brk => exact q
  | cont => exact q
theorem zZ (h1 : PS X st t) : PSs X [st] t := by
  intro pins s σ H D I h
  refine wpAny_execs_cons (thn (h1 pins s σ H D I h) fun f s1 q => ?_)
  cases f with
  | next => exact wpAny_execs_nil q
  | ret v => exact q
  | brk => exact q
  | cont => exact q
noncomputable def CL : TS := fun D σ H => D.bk σ H
theorem zd : PS X (.Break pos) CL := fun _ _ σ H _ I h => wpAny_Break ⟨σ, H, I, h⟩
theorem Inv.quiet {pins : List (Addr × Obj)} {σ : St} {H : Hp} {s : Shared} (I : Inv X pins σ H s) : interactive X.env = false := by simp [interactive, I.ok.kind]
noncomputable def EA (te : TE) : TS := fun D σ H => te σ H fun _ H1 => D.nx σ H1
theorem AI (he : PE X e te) (hs : swapsWith e none pos.line X.env = pure false := by rfl) : PS X (.Expr e pos) (EA te) := by
  intro pins s σ H D I h
  exact wpAny_Expr_any (thn (he pins s σ H _ I h) fun v s1 ⟨x, H1, I1, r1, q1⟩ => ⟨σ, H1, I1, q1⟩) I.quiet hs
noncomputable def Ge (te : TE) : TS := fun D σ H => te σ H D.rt
theorem Dg (he : PE X e te) : PS X (.Return (some e) pos) (Ge te) := by
  intro pins s σ H D I h
  exact wpAny_Return_some (thn (he pins s σ H _ I h) fun v s1 ⟨x, H1, I1, r1, q1⟩ => ⟨x, σ, H1, I1, r1, q1⟩)
noncomputable def FZ (c : TT) (t u : TS) : TS := fun D σ H => c σ H fun b H1 => if b = true then t D σ H1 else u D σ H1
theorem EM {c : Expr} {a b : List Stmt} {tc : TT} (hc : PT X c tc) (ha : PSs X a t) (hb : PSs X b u) : PS X (.If c a b pos) (FZ tc t u) := by
  intro pins s σ H D I h
  refine wpAny_If (thn (hc pins s σ H _ I h) fun d s1 ⟨H1, I1, q1⟩ => ?_)
  cases d with
  | true => exact ha pins s1 σ H1 D I1 q1
  | false => exact hb pins s1 σ H1 D I1 q1
noncomputable def Cj : TS := fun _ _ _ => False
theorem nG : PS X st Cj := fun _ _ _ _ _ _ h => h.elim
end
noncomputable abbrev TG := V -> St -> Hp -> (St -> Hp -> Prop) -> Prop
noncomputable abbrev TGs := List V -> St -> Hp -> (St -> Hp -> Prop) -> Prop
noncomputable def PG (X : Cx) (target : Expr) (t : TG) : Prop :=
  ∀ (pins : List (Addr × Obj)) (s : Shared) (σ : St) (H : Hp) (v : V) (u : Value) (Q : St -> Hp -> Prop), Inv X pins σ H s -> RelV v u -> t v σ H Q →
    wpAny (model X.prog X.w) X.A (assign target X.env u) (fun _ s' => ∃ σ' H', Inv X pins σ' H' s' /\ Q σ' H') X.xe s
noncomputable def PGs (X : Cx) (ts : List Expr) (t : TGs) : Prop :=
  ∀ (pins : List (Addr × Obj)) (s : Shared) (σ : St) (H : Hp) (vs : List V) (us : List Value) (Q : St -> Hp -> Prop), Inv X pins σ H s -> Vals vs us -> t vs σ H Q →
    wpAny (model X.prog X.w) X.A (assignInOrder ((assignEach ts X.env).map (·.2)) us) (fun _ s' => ∃ σ' H', Inv X pins σ' H' s' /\ Q σ' H') X.xe s
noncomputable abbrev yU := V -> V -> V -> Hp -> (Hp -> Prop) -> Prop
noncomputable def Cp (X : Cx) (t : yU) : Prop :=
  ∀ (pins : List (Addr × Obj)) (s : Shared) (σ : St) (H : Hp) (o i v : V) (ov iv u : Value) (Q : Hp -> Prop), Inv X pins σ H s -> RelV o ov -> RelV i iv -> RelV v u -> t o i v H Q →
    wpAny (model X.prog X.w) X.A (setItem ov iv u) (fun _ s' => ∃ H', Inv X pins σ H' s' /\ Q H') X.xe s
noncomputable abbrev TIp := V -> V -> Hp -> VK -> Prop
noncomputable def PIp (X : Cx) (op : Operator) (t : TIp) : Prop :=
  ∀ (pins : List (Addr × Obj)) (s : Shared) (σ : St) (H : Hp) (x y : V) (v u : Value) (Q : VK), Inv X pins σ H s -> RelV x v -> RelV y u -> t x y H Q →
    wpAny (model X.prog X.w) X.A (inplaceOp op v u) (EP X pins σ Q) X.xe s
section
variable {X : Cx} {pos : Pos}
noncomputable def jP (i : Nat) : TG := fun v σ H Q => Q (σ.set i (some v)) H
theorem b9 {i : Nat} {x : Str} (hN : X.N.Nodup) (hi : X.N[i]? = some x) (hx : Loc X.env.scope x) (hf : X.fn x = true \/ X.env.scope.names.lookup x = some .local := by first | exact .inl rfl | exact .inr rfl | assumption) : PG X (.Name x pos) (jP i) := by
  intro pins s σ H v u Q I r h
  exact wpAny_assign_Name (jU I hN hi hx r (fun s' I' => ⟨_, H, I', h⟩) hf)
noncomputable def EZ : TGs := fun vs σ H Q => vs = [] /\ Q σ H
noncomputable def xM (t : TG) (u : TGs) : TGs := fun vs σ H Q => ∃ v r, vs = v :: r /\ t v σ H fun σ' H' => u r σ' H' Q
theorem vI : PGs X [] EZ := by
  intro pins s σ H vs us Q I r h
  obtain ⟨e, h⟩ := h
  subst e
  cases r
  exact assignInOrder_nil ⟨σ, H, I, h⟩
theorem ke {e : Expr} {es : List Expr} {t : TG} {u : TGs} (h1 : PG X e t) (h2 : PGs X es u)
    (hs : (assignEach (e :: es) X.env).map (·.2) = assign e X.env :: (assignEach es X.env).map (·.2) := by rfl) : PGs X (e :: es) (xM t u) := by
  intro pins s σ H vs us Q I r h
  obtain ⟨v, vr, e1, h⟩ := h
  subst e1
  cases r with
  | cons r rr =>
    rw [hs]
    refine assignInOrder_cons (thn (h1 pins s σ H _ _ _ I r h) fun _ s1 ⟨σ1, H1, I1, q1⟩ => ?_)
    exact h2 pins s1 σ1 H1 _ _ Q I1 rr q1
noncomputable def Ec (K : PySem.W.Frag) (n : Nat) (t : TGs) : TG := fun v σ H Q => ∃ a xs, v = .ref a /\ SqT K H a xs /\ xs.length = n /\ t xs σ H Q
theorem zF {es : List Expr} {k : Nat} {t : TGs} {n : Nat} (hc : X.calm = true) (h : PGs X es t)
    (hn : (assignEach es X.env).length = n := by rfl) (hst : (assignEach es X.env).findIdx? (·.1) = none := by rfl) : PG X (.Tuple es k pos) (Ec X.K n t) := by
  intro pins s σ H v u Q I r hw
  obtain ⟨a, xs, e1, hq, hl, hw⟩ := hw
  subst e1
  cases r
  obtain ⟨its, rv, ht, hz⟩ := I.tuple hq
  refine assign_Tuple_tuple (I.ok.hd hc) ht (by simp [hn, <- hl, rv.length]) hst fun h' hx => ?_
  have I1 : Inv X pins σ H { s with heap := h' } := I.kept (t' := s.toks) fun b o e => hx b o (Nat.ne_of_lt (Heap.lt_size e)) e
  exact h pins _ σ H xs _ Q I1 (by simpa using rv) hw
noncomputable def GV (to ti : TE) (t : yU) : TG := fun v σ H Q => to σ H fun o H1 => ti σ H1 fun i H2 => t o i v H2 fun H3 => Q σ H3
theorem DB {o i : Expr} {to ti : TE} {t : yU} (ho : PE X o to) (hi : PE X i ti) (hs : Cp X t)
    (ha : ∀ v, assign (.Subscript o i pos) X.env v = (do
      let ov ← holding [v] (eval o X.env)
      let iv ← holding [v, ov] (eval i X.env)
      standAt pos
      holding [v, ov, iv] (setItem ov iv v)
      release [v, ov, iv] []) := by intro _; rfl) : PG X (.Subscript o i pos) (GV to ti t) := by
  intro pins s σ H v u Q I r h
  rw [ha]
  refine wpAny_bind (wpAny_holding (thn (ho pins s σ H _ I h) fun ov s1 ⟨x, H1, I1, r1, q1⟩ => ?_))
  refine wpAny_bind (wpAny_holding (thn (hi pins s1 σ H1 _ I1 q1) fun iv s2 ⟨y, H2, I2, r2, q2⟩ => ?_))
  refine wpAny_bind (wpAny_standAt (wpAny_bind (wpAny_holding (thn (hs pins s2 σ H2 x y v ov iv u _ I2 r1 r2 r q2) fun _ s3 ⟨H3, I3, q3⟩ => ?_))))
  exact wpAny_release ⟨σ, H3, I3, q3⟩
noncomputable def Cb (te : TE) (g : TG) : TS := fun D σ H => te σ H fun x H1 => g x σ H1 D.nx
theorem CP {tg e : Expr} {te : TE} {g : TG} (he : PE X e te) (hg : PG X tg g) (hs : swapsWithSole [tg] e pos.line X.env = pure false := by rfl) (hw : swappedStores [tg] e X.env = pure none := by rfl)
    (h1 : (assignEach [tg] X.env).map (·.2) = [assign tg X.env] := by rfl) : PS X (.Assign [tg] e pos) (Cb te g) := by
  intro pins s σ H D I h
  refine wpAny_Assign_stores (thn (he pins s σ H _ I h) fun v s1 ⟨x, H1, I1, r1, q1⟩ => ?_) hs hw
  rw [h1]
  exact thn (hg pins s1 σ H1 x v _ I1 r1 q1) fun _ s2 q => q
theorem DC {i : Nat} {x : Str} {e : Expr} {te : TE} {pos' : Pos} (hN : X.N.Nodup) (hi : X.N[i]? = some x) (hx : Loc X.env.scope x) (he : PE X e te) (hs : swapsWith e (some (.Name x pos')) pos.line X.env = pure false := by rfl) (hf : X.fn x = true \/ X.env.scope.names.lookup x = some .local := by first | exact .inl rfl | exact .inr rfl | assumption) :
    PS X (.Assign [.Name x pos'] e pos) (Cb te (jP i)) := by
  intro pins s σ H D I h
  refine wpAny_Assign_Name (thn (he pins s σ H _ I h) fun v s1 ⟨y, H1, I1, r1, q1⟩ => ?_) hs
  exact jU I1 hN hi hx r1 (fun s2 I2 => ⟨_, H1, I2, q1⟩) hf
noncomputable def Gu (i : Nat) (te : TE) (ti : TIp) : TS := fun D σ H => ∃ x, σ[i]? = some (some x) /\ te σ H fun y H1 => ti x y H1 fun z H2 => D.nx (σ.set i (some z)) H2
theorem Cd {i : Nat} {x : Str} {e : Expr} {te : TE} {op : Operator} {ti : TIp} {pos' : Pos} (hN : X.N.Nodup) (hi : X.N[i]? = some x) (hx : Loc X.env.scope x) (he : PE X e te) (ho : PIp X op ti) (hf : X.fn x = true \/ X.env.scope.names.lookup x = some .local := by first | exact .inl rfl | exact .inr rfl | assumption) :
    PS X (.AugAssign (.Name x pos') op e pos) (Gu i te ti) := by
  intro pins s σ H D I h
  obtain ⟨v, e1, h⟩ := h
  obtain ⟨m, hn, hl⟩ := I.loc
  have vis : Vis X.env.scope x := by rcases hx with k | k; exact .inl k; exact .inr (.inl k)
  obtain ⟨u, r, l⟩ := hl i x v hi e1 vis
  refine wpAny_AugAssign_Name ?_
  have go : wpAny (model X.prog X.w) X.A (eval e X.env) (fun w s₂ => wpAny (model X.prog X.w) X.A (inplaceOp op u w) (fun r s₃ => wpAny (model X.prog X.w) X.A (storeName X.env x r) (fun _ => SP X pins D .next) X.xe s₃) X.xe s₂) X.xe s := by
    refine thn (he pins s σ H _ I h) fun w s1 ⟨y, H1, I1, r1, q1⟩ => ?_
    refine thn (ho pins s1 σ H1 v y u w _ I1 r r1 q1) fun z s2 ⟨zv, H2, I2, r2, q2⟩ => ?_
    exact jU I2 hN hi hx r2 (fun s3 I3 => ⟨_, H2, I3, q2⟩) hf
  rcases l with ⟨hk, hm⟩ | ⟨hk, c, hc, hcell⟩
  · exact wpAny_loadName_local I.ok.kind hk hn hm go
  · rcases hk with hk | hk
    · exact wpAny_loadName_cell I.ok.kind hk hc hcell go
    · rcases hx with k | k
      · have : X.env.scope.names.lookup x = some .free := hk
        rw [k] at this; cases this
      · have : X.env.scope.names.lookup x = some .free := hk
        rw [k] at this; cases this
noncomputable def ipI (f : Int -> Int -> Int) : TIp := fun x y H Q => ∃ i j, x = .int i /\ y = .int j /\ Q (.int (f i j)) H
theorem CQ : PIp X .Add (ipI fun i j => i + j) := by
  intro pins s σ H x y v u Q I r1 r2 h
  obtain ⟨i, j, e1, e2, q⟩ := h
  subst e1; subst e2
  obtain ⟨t, rfl⟩ := r1
  obtain ⟨t', rfl⟩ := r2
  exact iadd_int ⟨.int _, H, I.tok _, ⟨_, rfl⟩, q⟩
theorem C3 : PIp X .Sub (ipI fun i j => i - j) := by
  intro pins s σ H x y v u Q I r1 r2 h
  obtain ⟨i, j, e1, e2, q⟩ := h
  subst e1; subst e2
  obtain ⟨t, rfl⟩ := r1
  obtain ⟨t', rfl⟩ := r2
  exact isub_int ⟨.int _, H, I.tok _, ⟨_, rfl⟩, q⟩
end
section
variable {X : Cx} {pos : Pos}
noncomputable def Cy (c : TT) (tb : TS) : TS := fun D σ H => ∃ W : Nat -> St -> Hp -> Prop, (∃ m, W m σ H) /\ ∀ m σ H, W m σ H →
  c σ H fun b H1 => if b = true then ∃ N : St -> Hp -> Prop, (∀ σ' H', N σ' H' -> ∃ m', m' < m /\ W m' σ' H') /\ tb { D with nx := N, ct := N, bk := D.nx } σ H1 else D.nx σ H1
theorem yw {c : Expr} {body : List Stmt} {tc : TT} {tb : TS} (hp : PassesOwn (model X.prog X.w) X.A X.env X.xe) (hc : PT X c tc) (hb : PSs X body tb) : PS X (.While c body [] pos) (Cy tc tb) := by
  intro pins s σ H D I h
  obtain ⟨W, ⟨m0, w0⟩, turn⟩ := h
  refine wpAny_While (codeAny_whileLoop (fun n s' => ∃ σ' H', Inv X pins σ' H' s' /\ W n σ' H') ?_ m0 ⟨σ, H, I, w0⟩)
  rintro n s1 ⟨σ1, H1, I1, w1⟩
  refine wpAny_passesOwn hp (thn (hc pins s1 σ1 H1 _ I1 (turn n σ1 H1 w1)) fun b s2 ⟨H2, I2, q2⟩ => ?_)
  cases b with
  | true =>
    obtain ⟨N, hN, q2⟩ := q2
    rw [if_pos rfl]
    refine wpAny_passesOwn hp (thn (hb pins s2 σ1 H2 _ I2 q2) fun f s3 q3 => ?_)
    cases f with
    | next =>
      obtain ⟨σ3, H3, I3, n3⟩ := q3
      obtain ⟨m', hm, w3⟩ := hN σ3 H3 n3
      exact ⟨m', hm, σ3, H3, I3, w3⟩
    | cont =>
      obtain ⟨σ3, H3, I3, n3⟩ := q3
      obtain ⟨m', hm, w3⟩ := hN σ3 H3 n3
      exact ⟨m', hm, σ3, H3, I3, w3⟩
    | brk => exact q3
    | ret v => exact q3
  | false =>
    rw [if_neg Bool.false_ne_true]
    exact wpAny_execs_nil ⟨σ1, H2, I2, q2⟩
end
structure It where
  go : Nat -> Hp -> Prop
  yld : Nat -> Hp -> V -> Hp -> Prop
  stop : Nat -> Hp -> Prop
noncomputable def oB (X : Cx) (pins : List (Addr × Obj)) (H : Hp) (b : Addr) : Prop :=
  H b = none /\ b ≠ X.env.locals /\ b ∉ X.fs /\ (b ∈ X.ex \/ X.aM.heap.objs.size <= b) /\ (∀ x c, X.env.cells.lookup x = some c -> c ≠ b) /\ ∀ p ∈ X.pn ++ pins, p.1 ≠ b
theorem Inv.A5 {X : Cx} {pins : List (Addr × Obj)} {σ : St} {H H' : Hp} {s : Shared} {b : Addr} (I : Inv X pins σ H s) (hb : s.heap.objs.size <= b) (hn : H' b = none) : oB X pins H' b := by
  refine ⟨hn, Nat.ne_of_gt (Nat.lt_of_lt_of_le I.lt hb), I.EW hb, .inr (Nat.le_trans I.sz hb), fun x c e z => ?_, fun p hp z => ?_⟩
  · obtain ⟨v, q⟩ := I.cell x c e
    exact absurd (Nat.lt_of_lt_of_le q.lt (by rw [z]; exact hb)) (Nat.lt_irrefl _)
  · exact absurd (Nat.lt_of_lt_of_le (Heap.lt_size (I.pin p hp).1) (by rw [z]; exact hb)) (Nat.lt_irrefl _)
structure Turn (P : Program) (w : World) (K : PySem.W.Frag) (tg : Expr) (J : It) (fp : List Addr) (it : Addr) (tn : Nat -> Heap -> Prop) : Prop where
  mem : it ∈ fp
  obj : ∀ i h, tn i h -> ∀ b ∈ fp, ∃ o, h.get? b = some o /\ ∀ v, o.data ≠ .cell v
  keep : ∀ i h h', tn i h -> (∀ b ∈ fp, ∀ o, h.get? b = some o -> h'.get? b = some o) -> tn i h'
  item : ∀ (X : Cx), X.prog = P -> X.w = w -> X.K = K -> X.calm = true -> ∀ (i : Nat) (pins : List (Addr × Obj)) (s : Shared) (σ : St) (H : Hp) (E : Value -> Shared -> Prop), Inv X pins σ H s -> (∀ b ∈ fp, oB X pins H b) -> tn i s.heap -> J.go i H →
    wpAny (model P w) X.A (pyNext (.ref it)) (fun r s1 => ∃ u, r = some u ∧
      wpAny (model P w) X.A (letOwnedTupleGo tg (.ref it) u) (fun _ s2 => ∃ x H', Inv X pins σ H' s2 /\ RelV x u /\ J.yld i H x H' /\ tn (i + 1) s2.heap /\ ∀ b ∈ fp, H' b = none) E s1) E s
  done : ∀ (X : Cx), X.prog = P -> X.w = w -> X.K = K -> X.calm = true -> ∀ (i : Nat) (pins : List (Addr × Obj)) (s : Shared) (σ : St) (H : Hp) (E : Value -> Shared -> Prop), Inv X pins σ H s -> (∀ b ∈ fp, oB X pins H b) -> tn i s.heap -> J.stop i H →
    wpAny (model P w) X.A (pyNext (.ref it)) (fun r s1 => r = none /\ Inv X pins σ H s1) E s
  self : ∀ (A : Around) (i : Nat) (s : Shared) (Q : Value -> Shared -> Prop) (E : Value -> Shared -> Prop), tn i s.heap -> Q (.ref it) s -> wpAny (model P w) A (pyIter (.ref it)) Q E s
noncomputable abbrev TI := St -> Hp -> (It -> Hp -> Prop) -> Prop
noncomputable def PIE (X : Cx) (pins : List (Addr × Obj)) (σ : St) (tg : Expr) (R : It -> Hp -> Prop) (itv : Value) (s2 : Shared) : Prop :=
  ∃ (it : Addr) (fp : List Addr) (tn : Nat -> Heap -> Prop) (J : It) (H' : Hp), itv = .ref it /\ Inv X pins σ H' s2 /\ Turn X.prog X.w X.K tg J fp it tn /\ tn 0 s2.heap /\ (∀ b ∈ fp, oB X pins H' b) /\ R J H'
noncomputable def PI (X : Cx) (tg iter : Expr) (wi : TI) : Prop :=
  ∀ (pins : List (Addr × Obj)) (s : Shared) (σ : St) (H : Hp) (R : It -> Hp -> Prop), Inv X pins σ H s -> wi σ H R →
    wpAny (model X.prog X.w) X.A (eval iter X.env) (fun v s1 => wpAny (model X.prog X.w) X.A (pyIter v) (PIE X pins σ tg R) X.xe s1) X.xe s
theorem xG {M : Model} {A : Around} {E : Value -> Shared -> Prop} {s : Shared} {tg : Expr} {it : Addr} {u : Value} {o : Obj} {n : String} {vs : Array Value} {Q : Unit -> Shared -> Prop} (ho : s.heap.get? it = some o) (hc : o.cls = .type n) (hd : o.data = .fields vs)
    (hn : ["enumerate", "zip", "dict_itemiterator", "dict_reverseitemiterator", "odict_iterator", "itertools.zip_longest", "itertools.pairwise"].contains n = false) (hQ : Q () s) : wpAny M A (letOwnedTupleGo tg (.ref it) u) Q E s := by
  unfold letOwnedTupleGo
  cases tg <;> first
    | exact wpAny_pure hQ
    | (cases u <;> first
        | exact wpAny_pure hQ
        | (refine wpAny_bind (wpAny_load ho ?_)
           rw [hc, hd]
           show wpAny M A (if (["enumerate", "zip", "dict_itemiterator", "dict_reverseitemiterator", "odict_iterator", "itertools.zip_longest", "itertools.pairwise"].contains n && vs[0]? == some (rawInt _)) = true then _ else _) Q E s
           rw [if_neg (by intro h; rw [hn, Bool.false_and] at h; cases h)]
           exact wpAny_pure hQ))
noncomputable def Itl (K : PySem.W.Frag) (a : Addr) : It :=
  ⟨fun i H => ∃ xs x, SqL K H a xs /\ xs[i]? = some x, fun i H x H' => H' = H /\ ∀ xs, SqL K H a xs -> xs[i]? = some x, fun i H => ∃ xs, SqL K H a xs /\ xs.length <= i⟩
noncomputable def Itt (K : PySem.W.Frag) (a : Addr) : It :=
  ⟨fun i H => ∃ xs x, SqT K H a xs /\ xs[i]? = some x, fun i H x H' => H' = H /\ ∀ xs, SqT K H a xs -> xs[i]? = some x, fun i H => ∃ xs, SqT K H a xs /\ xs.length <= i⟩
noncomputable def Itr (lo : Int) (n : Nat) : It := ⟨fun i _ => i < n, fun i H x H' => H' = H /\ x = .int (lo + i), fun i _ => n <= i⟩
theorem we {P : Program} {w : World} {K : PySem.W.Frag} {tg : Expr} (a it : Addr) : Turn P w K tg (Itl K a) [it] it (fun i h => h.IsListIter it a i) where
  mem := by simp
  obj := fun i h st b hb => by
    have e : b = it := by simpa using hb
    subst e
    obtain ⟨o, e, c, d⟩ := st
    exact ⟨o, e, fun v z => by rw [d] at z; cases z⟩
  keep := fun i h h' st k => st.at fun o e => k it (by simp) o e
  item := by
    intro X hP hw hK hc i pins s σ H E I hf st hg
    subst hP hw hK
    obtain ⟨xs, x, hq, hx⟩ := hg
    obtain ⟨its, rv, p, hz⟩ := I.list hq
    obtain ⟨u, hu, ru⟩ := rv.get hx
    obtain ⟨f0, f1, f2, f3, f4, f5⟩ := hf it (by simp)
    refine wpAny_pyNext_list_item st p.isList (x := u) (by simpa using hu) fun h' st' sb => ?_
    have I1 : Inv X pins σ H { s with heap := h' } := I.turned (t' := s.toks) (fun b o hb e => (sb.2 b hb).trans e) f0 f1 f3 f4 f5
    obtain ⟨o, e, c, d⟩ := id st'
    exact ⟨u, rfl, xG (s := { s with heap := h' }) e c d (by decide) ⟨x, H, I1, ru, ⟨rfl, fun ys hy => by rw [I.mD hy hq]; exact hx⟩, st', fun b hb => (hf b hb).1⟩⟩
  done := by
    intro X hP hw hK hc i pins s σ H E I hf st hg
    subst hP hw hK
    obtain ⟨xs, hq, hx⟩ := hg
    obtain ⟨its, rv, p, hz⟩ := I.list hq
    obtain ⟨f0, f1, f2, f3, f4, f5⟩ := hf it (by simp)
    have hl := rv.length
    exact wpAny_pyNext_list_end (I.ok.hd hc) st p.isList (by simp; omega) fun h' eb => ⟨rfl, I.turned (t' := s.toks) (fun b o hb e => eb b o hb e) f0 f1 f3 f4 f5⟩
  self := fun _ _ _ _ _ st h => wpAny_pyIter_listiter st h
theorem uk {P : Program} {w : World} {K : PySem.W.Frag} {tg : Expr} (a it : Addr) : Turn P w K tg (Itt K a) [it] it (fun i h => h.IsTupleIter it a i) where
  mem := by simp
  obj := fun i h st b hb => by
    have e : b = it := by simpa using hb
    subst e
    obtain ⟨o, e, c, d⟩ := st
    exact ⟨o, e, fun v z => by rw [d] at z; cases z⟩
  keep := fun i h h' st k => st.at fun o e => k it (by simp) o e
  item := by
    intro X hP hw hK hc i pins s σ H E I hf st hg
    subst hP hw hK
    obtain ⟨xs, x, hq, hx⟩ := hg
    obtain ⟨its, rv, p, hz⟩ := I.tuple hq
    obtain ⟨u, hu, ru⟩ := rv.get hx
    obtain ⟨f0, f1, f2, f3, f4, f5⟩ := hf it (by simp)
    refine wpAny_pyNext_tuple_item st (show s.heap.IsTuple a its.toArray from p) (x := u) (by simpa using hu) fun h' st' sb => ?_
    have I1 : Inv X pins σ H { s with heap := h' } := I.turned (t' := s.toks) (fun b o hb e => (sb.2 b hb).trans e) f0 f1 f3 f4 f5
    obtain ⟨o, e, c, d⟩ := id st'
    exact ⟨u, rfl, xG (s := { s with heap := h' }) e c d (by decide) ⟨x, H, I1, ru, ⟨rfl, fun ys hy => by rw [I.kT hy hq]; exact hx⟩, st', fun b hb => (hf b hb).1⟩⟩
  done := by
    intro X hP hw hK hc i pins s σ H E I hf st hg
    subst hP hw hK
    obtain ⟨xs, hq, hx⟩ := hg
    obtain ⟨its, rv, p, hz⟩ := I.tuple hq
    obtain ⟨f0, f1, f2, f3, f4, f5⟩ := hf it (by simp)
    have hl := rv.length
    exact wpAny_pyNext_tuple_end (I.ok.hd hc) st (show s.heap.IsTuple a its.toArray from p) (by simp; omega) fun h' eb => ⟨rfl, I.turned (t' := s.toks) (fun b o hb e => eb b o hb e) f0 f1 f3 f4 f5⟩
  self := fun _ _ _ _ _ st h => wpAny_pyIter_tupleiter st h
theorem tZ {P : Program} {w : World} {K : PySem.W.Frag} {tg : Expr} (it : Addr) (lo : Int) (n : Nat) : Turn P w K tg (Itr lo n) [it] it (fun i h => IsRangeIter h it (lo + (i : Nat) * 1) ((n : Int) - (i : Nat)) 1) where
  mem := by simp
  obj := fun i h st b hb => by
    have e : b = it := by simpa using hb
    subst e
    exact ⟨_, st, fun v z => by
      have z' : Data.fields _ = Data.cell v := z
      cases z'⟩
  keep := fun i h h' st k => k it (by simp) _ st
  item := by
    intro X hP hw hK hc i pins s σ H E I hf st hg
    subst hP hw hK
    obtain ⟨f0, f1, f2, f3, f4, f5⟩ := hf it (by simp)
    have W := Walks.range (prog := X.prog) (w := X.w) (I.ok.hd hc) it lo 1 n
    refine W.item i s _ _ hg st fun v h' tk hv st' kk => ?_
    obtain ⟨t, rfl⟩ := hv
    have I1 : Inv X pins σ H { s with heap := h', toks := tk } := I.turned (fun b o hb e => kk b o (by simpa using hb) e) f0 f1 f3 f4 f5
    refine ⟨_, rfl, xG (s := { s with heap := h', toks := tk }) (n := "range_iterator") st' rfl rfl (by decide) ⟨.int (lo + i), H, I1, ⟨t, ?_⟩, ⟨rfl, rfl⟩, st', fun b hb => (hf b hb).1⟩⟩
    rw [Int.mul_one]
  done := by
    intro X hP hw hK hc i pins s σ H E I hf st hg
    subst hP hw hK
    obtain ⟨f0, f1, f2, f3, f4, f5⟩ := hf it (by simp)
    exact wpAny_pyNext_range_end (I.ok.hd hc) st (by have : n <= i := hg; omega) fun h' eb => ⟨rfl, I.turned (t' := s.toks) (fun b o hb e => eb b o hb e) f0 f1 f3 f4 f5⟩
  self := fun _ _ _ _ _ st h => wpAny_pyIter_rangeiter st h
section
variable {X : Cx} {tg : Expr}
theorem rP {pins : List (Addr × Obj)} {σ : St} {H : Hp} {s : Shared} {R : It -> Hp -> Prop} {E : Value -> Shared -> Prop} {lo hi : Int} {t u v : Tok} {tk : Nat} (I : Inv X pins σ H s) (h1 : -(2 ^ 62) <= lo) (h2 : lo < 2 ^ 62) (h3 : -(2 ^ 62) <= hi) (h4 : hi < 2 ^ 62)
    (q : R (Itr lo (hi - lo).toNat) H) : wpAny (model X.prog X.w) X.A (pyIter (.ref s.heap.objs.size)) (PIE X pins σ tg R) E { s with heap := s.heap.push { cls := .type "range", data := .fields #[.int lo t, .int hi u, .int 1 v] }, toks := tk } := by
  refine wpAny_pyIter_range (IsRange.new ..) (small_one h1 h2 h3 h4) ?_
  have I1 : Inv X pins σ H { s with heap := s.heap.push { cls := .type "range", data := .fields #[.int lo t, .int hi u, .int 1 v] }, toks := tk } := I.kept fun b o e => Heap.get?_push_of_some _ e
  refine ⟨(s.heap.push { cls := .type "range", data := .fields #[.int lo t, .int hi u, .int 1 v] }).objs.size, [(s.heap.push { cls := .type "range", data := .fields #[.int lo t, .int hi u, .int 1 v] }).objs.size], _, _, H, rfl,
    I1.kept (t' := tk) fun b o e => Heap.get?_push_of_some _ e, tZ _ lo (hi - lo).toNat, ?_, fun b hb => ?_, q⟩
  · have e1 : lo + ((0 : Nat) : Int) * 1 = lo := by simp
    have e2 : (((hi - lo).toNat : Nat) : Int) - ((0 : Nat) : Int) = Builtin.Range.rangeSize lo hi 1 := by rw [rangeSize_one]; split <;> omega
    show IsRangeIter _ _ (lo + ((0 : Nat) : Int) * 1) ((((hi - lo).toNat : Nat) : Int) - ((0 : Nat) : Int)) 1
    rw [e1, e2]
    exact Heap.get?_push_size _ rfl
  · have e : b = (s.heap.push { cls := .type "range", data := .fields #[.int lo t, .int hi u, .int 1 v] }).objs.size := by simpa using hb
    subst e
    exact I1.A5 (Nat.le_refl _) (I1.hok.fresh (Nat.le_refl _))
noncomputable def EL (ta : TA) : TI := fun σ H R => ta σ H fun vs H1 => ∃ j : Int, vs = [.int j] /\ -(2 ^ 62) <= j /\ j < 2 ^ 62 /\ R (Itr 0 j.toNat) H1
noncomputable def Ej (ta : TA) : TI := fun σ H R => ta σ H fun vs H1 => ∃ i j : Int, vs = [.int i, .int j] /\ (-(2 ^ 62) <= i /\ i < 2 ^ 62 /\ -(2 ^ 62) <= j /\ j < 2 ^ 62) /\ R (Itr i (j - i).toNat) H1
theorem wu {a : Expr} {ta : TA} {p pos : Pos} (hg : Gl X "range") (hm : X.mg "range" = none) (ha : PA X [a] ta) (hs : starEach [a] X.env = [(false, eval a X.env)] := by rfl) : PI X tg (.Call (.Name "range" p) [a] [] pos) (EL ta) := by
  intro pins s σ H R I h
  refine Call_ (kz I hg hm boot_range (PyProof.Rows.callWith_type1 (thn (ha pos pins s σ H _ I h) fun us s1 ⟨vs, H1, I1, r1, q1⟩ => ?_) hs rfl))
  obtain ⟨j, e, q1, q2, q⟩ := q1
  subst e
  cases r1 with
  | cons r rr =>
    cases rr
    obtain ⟨t, rfl⟩ := r
    exact call_range_1 (rP I1 (by omega) (by omega) q1 q2 (by simpa using q))
theorem wC {a b : Expr} {ta : TA} {p pos : Pos} (hg : Gl X "range") (hm : X.mg "range" = none) (ha : PA X [a, b] ta) (hs : starEach [a, b] X.env = [(false, eval a X.env), (false, eval b X.env)] := by rfl) (hs2 : starEach [b] X.env = [(false, eval b X.env)] := by rfl) :
    PI X tg (.Call (.Name "range" p) [a, b] [] pos) (Ej ta) := by
  intro pins s σ H R I h
  refine Call_ (kz I hg hm boot_range (PyProof.Rows.callWith_type1 (thn (ha pos pins s σ H _ I h) fun us s1 ⟨vs, H1, I1, r1, q1⟩ => ?_) (by rw [hs, hs2]) (by rw [hs2]; rfl)))
  obtain ⟨i, j, e, ⟨q1, q2, q3, q4⟩, q⟩ := q1
  subst e
  cases r1 with
  | cons r rr =>
    cases rr with
    | cons r' rr =>
      cases rr
      obtain ⟨t, rfl⟩ := r
      obtain ⟨t', rfl⟩ := r'
      exact call_range_2 (rP I1 q1 q2 q3 q4 q)
noncomputable def Gh (wi : TI) (g : TG) (tb : TS) : TS := fun D σ H => wi σ H fun J H1 => ∃ W : Nat -> Nat -> St -> Hp -> Prop, (∃ m, W 0 m σ H1) /\ ∀ i m σ H, W i m σ H →
  (J.stop i H /\ D.nx σ H) \/ (J.go i H /\ ∃ N : St -> Hp -> Prop, (∀ σ' H', N σ' H' -> ∃ m', m' < m /\ W (i + 1) m' σ' H') /\ ∀ x H', J.yld i H x H' -> g x σ H' fun σ2 H2 => tb { D with nx := N, ct := N, bk := D.nx } σ2 H2)
noncomputable def mT (fp : List Addr) (h : Heap) : List (Addr × Obj) := fp.filterMap fun b => (h.get? b).map fun o => (b, o)
theorem gL {fp : List Addr} {h : Heap} {b : Addr} {o : Obj} (hb : b ∈ fp) (e : h.get? b = some o) : (b, o) ∈ mT fp h := List.mem_filterMap.mpr ⟨b, hb, by rw [e]; rfl⟩
theorem xh {fp : List Addr} {h : Heap} {p : Addr × Obj} (hp : p ∈ mT fp h) : p.1 ∈ fp /\ h.get? p.1 = some p.2 := by
  obtain ⟨b, hb, e⟩ := List.mem_filterMap.mp hp
  cases q : h.get? b with
  | none => rw [q] at e; cases e
  | some o =>
    rw [q] at e
    have e' : (b, o) = p := Option.some.inj e
    subst e'
    exact ⟨hb, q⟩
theorem Inv.pinned {pins : List (Addr × Obj)} {σ : St} {H : Hp} {s : Shared} {fp : List Addr} (I : Inv X pins σ H s) (hf : ∀ b ∈ fp, oB X pins H b) (ho : ∀ b ∈ fp, ∃ o, s.heap.get? b = some o /\ ∀ v, o.data ≠ .cell v) : Inv X (pins ++ mT fp s.heap) σ H s :=
  I.mj fun p hp => (List.mem_append.mp hp).elim (fun z => I.pin p (List.mem_append_right _ z)) fun z => by
    obtain ⟨hb, e⟩ := xh z
    obtain ⟨f0, f1, f2, _⟩ := hf p.1 hb
    obtain ⟨o, e', d⟩ := ho p.1 hb
    rw [e] at e'; cases e'
    exact ⟨e, f0, f1, f2, d⟩
theorem Inv.jO {pins pl : List (Addr × Obj)} {σ : St} {H : Hp} {s : Shared} (I : Inv X (pins ++ pl) σ H s) : Inv X pins σ H s := I.mj fun p hp => I.pin p (List.mem_append_right _ (List.mem_append_left _ hp))
theorem Df {iter : Expr} {body : List Stmt} {wi : TI} {g : TG} {tb : TS} {pos : Pos} (hp : PassesOwn (model X.prog X.w) X.A X.env X.xe) (hc : X.calm = true) (hi : PI X tg iter wi) (hg : PG X tg g) (hb : PSs X body tb)
    (hs : ∀ x, foldedSetIterable iter X.env x = pure x := by intro _; rfl) : PS X (.For tg iter body [] pos) (Gh wi g tb) := by
  intro pins s σ H D I h
  refine wpAny_For (thn (hi pins s σ H _ I h) fun v s1 h1 => thn h1 fun itv s2 h2 => ?_) hs
  obtain ⟨it, fp, tn, J, H2, e, I2, T, st2, f2, W, ⟨m0, w0⟩, turn⟩ := h2
  subst e
  -- what stays true of the iterator's objects through the loop
  have stat : ∀ {H' : Hp}, (∀ b ∈ fp, H' b = none) -> ∀ b ∈ fp, oB X pins H' b := fun hn b hb => ⟨hn b hb, (f2 b hb).2⟩
  refine codeAny_forLoop_any (fun n s' => ∃ i σ' H', Inv X pins σ' H' s' /\ tn i s'.heap /\ (∀ b ∈ fp, H' b = none) /\ W i n σ' H') ?_ m0 ⟨0, σ, H2, I2, st2, fun b hb => (f2 b hb).1, w0⟩
  rintro n s3 ⟨i, σ3, H3, I3, st3, fr3, w3⟩
  rcases turn i n σ3 H3 w3 with ⟨stop, qn⟩ | ⟨go, N, hN, step⟩
  · refine wpAny_passesOwn hp (thn (T.done X rfl rfl rfl hc i pins s3 σ3 H3 X.xe I3 (stat fr3) st3 stop) fun r s4 ⟨hr, I4⟩ => ?_)
    subst hr
    exact wpAny_execs_nil ⟨σ3, H3, I4, qn⟩
  · refine wpAny_passesOwn hp (thn (T.item X rfl rfl rfl hc i pins s3 σ3 H3 X.xe I3 (stat fr3) st3 go) fun r s4 ⟨u, hr, h4⟩ => ?_)
    subst hr
    refine wpAny_passesOwn hp (thn h4 fun _ s5 ⟨x, H5, I5, r5, y5, st5, fr5⟩ => ?_)
    have I5' := I5.pinned (stat fr5) (T.obj _ _ st5)
    refine wpAny_passesOwn hp (thn (hg _ s5 σ3 H5 x u _ I5' r5 (step x H5 y5)) fun _ s6 ⟨σ6, H6, I6, q6⟩ => ?_)
    refine wpAny_passesOwn hp (thn (hb _ s6 σ6 H6 _ I6 q6) fun f s7 q7 => ?_)
    have again : ∀ {σ7 : St} {H7 : Hp}, Inv X (pins ++ mT fp s5.heap) σ7 H7 s7 -> N σ7 H7 -> ∃ m, m < n /\ ∃ i σ' H', Inv X pins σ' H' s7 /\ tn i s7.heap /\ (∀ b ∈ fp, H' b = none) /\ W i m σ' H' := fun {σ7 H7} I7 n7 => by
      obtain ⟨m', hm, w7⟩ := hN σ7 H7 n7
      refine ⟨m', hm, i + 1, σ7, H7, I7.jO, T.keep _ _ _ st5 fun b hb o e => (I7.pin (b, o) (List.mem_append_right _ (List.mem_append_right _ (gL hb e)))).1, fun b hb => ?_, w7⟩
      obtain ⟨o, e, d⟩ := T.obj _ _ st5 b hb
      exact (I7.pin (b, o) (List.mem_append_right _ (List.mem_append_right _ (gL hb e)))).2.1
    cases f with
    | next => obtain ⟨σ7, H7, I7, n7⟩ := q7; exact again I7 n7
    | cont => obtain ⟨σ7, H7, I7, n7⟩ := q7; exact again I7 n7
    | brk => obtain ⟨σ7, H7, I7, q7⟩ := q7; exact ⟨σ7, H7, I7.jO, q7⟩
    | ret v => obtain ⟨x7, σ7, H7, I7, r7, q7⟩ := q7; exact ⟨x7, σ7, H7, I7.jO, r7, q7⟩
end
noncomputable abbrev R2 := V -> V -> Hp -> VK -> Prop
noncomputable def OpR (X : Cx) (f : Value -> Value -> Sem Value) (r : R2) : Prop :=
  ∀ (pins : List (Addr × Obj)) (s : Shared) (σ : St) (H : Hp) (x y : V) (v u : Value) (Q : VK), Inv X pins σ H s -> RelV x v -> RelV y u -> r x y H Q →
    wpAny (model X.prog X.w) X.A (f v u) (EP X pins σ Q) X.xe s
noncomputable def UnR (X : Cx) (f : Value -> Sem Value) (r : V -> Hp -> VK -> Prop) : Prop :=
  ∀ (pins : List (Addr × Obj)) (s : Shared) (σ : St) (H : Hp) (x : V) (v : Value) (Q : VK), Inv X pins σ H s -> RelV x v -> r x H Q →
    wpAny (model X.prog X.w) X.A (f v) (EP X pins σ Q) X.xe s
noncomputable def bK (X : Cx) (f : Value) (r : List V -> Hp -> VK -> Prop) : Prop :=
  ∀ (pins : List (Addr × Obj)) (s : Shared) (σ : St) (H : Hp) (xs : List V) (us : List Value) (Q : VK), Inv X pins σ H s -> Vals xs us -> r xs H Q →
    wpAny (model X.prog X.w) X.A (call f us) (EP X pins σ Q) X.xe s
noncomputable def G1 (X : Cx) (r : V -> Hp -> (Bool -> Hp -> Prop) -> Prop) : Prop :=
  ∀ (pins : List (Addr × Obj)) (s : Shared) (σ : St) (H : Hp) (x : V) (v : Value) (Q : Bool -> Hp -> Prop), Inv X pins σ H s -> RelV x v -> r x H Q →
    wpAny (model X.prog X.w) X.A (truthy v) (TP X pins σ Q) X.xe s
noncomputable def tOp (r : R2) (ta tb : TE) : TE := fun σ H Q => ta σ H fun x H1 => tb σ H1 fun y H2 => r x y H2 Q
noncomputable def tUn (r : V -> Hp -> VK -> Prop) (ta : TE) : TE := fun σ H Q => ta σ H fun x H1 => r x H1 Q
noncomputable def rI (C : Int -> Int -> Prop) (g : Int -> Int -> V) : R2 := fun x y H Q => ∃ i j, x = .int i /\ y = .int j /\ C i j /\ Q (g i j) H
noncomputable def rI0 (g : Int -> Int -> V) : R2 := fun x y H Q => ∃ i j, x = .int i /\ y = .int j /\ Q (g i j) H
noncomputable def rU (g : Int -> V) : V -> Hp -> VK -> Prop := fun x H Q => ∃ i, x = .int i /\ Q (g i) H
section
variable {X : Cx} {a b c : Expr} {ta tb tc : TE} {pos : Pos}
theorem CW (ha : PE X a ta) (hb : PE X b tb) {pins : List (Addr × Obj)} {s : Shared} {σ : St} {H : Hp} {R : V -> V -> Hp -> Prop} (I : Inv X pins σ H s)
    (h : ta σ H fun x H1 => tb σ H1 fun y H2 => R x y H2) {Q : Value -> Shared -> Prop} {f : Value -> Value -> Sem Value}
    (hf : ∀ v u s2 x y H2, Inv X pins σ H2 s2 -> RelV x v -> RelV y u -> R x y H2 -> wpAny (model X.prog X.w) X.A (f v u) Q X.xe s2) :
    wpAny (model X.prog X.w) X.A (eval a X.env) (fun v s₁ => wpAny (model X.prog X.w) X.A (eval b X.env) (fun u s₂ => wpAny (model X.prog X.w) X.A (f v u) Q X.xe s₂) X.xe s₁) X.xe s := by
  refine thn (ha pins s σ H _ I h) fun v s1 ⟨x, H1, I1, r1, q1⟩ => ?_
  refine thn (hb pins s1 σ H1 _ I1 q1) fun u s2 ⟨y, H2, I2, r2, q2⟩ => ?_
  exact hf v u s2 x y H2 I2 r1 r2 q2
theorem DT {op : Operator} {r : R2} (ho : OpR X (binaryOp op) r) (ha : PE X a ta) (hb : PE X b tb) : PE X (.BinOp a op b pos) (tOp r ta tb) := by
  intro pins s σ H Q I h
  exact wpAny_BinOp (CW ha hb I h fun v u s2 x y H2 I2 rx ry q => ho pins s2 σ H2 x y v u Q I2 rx ry q)
theorem D2 {op : UnaryOp} {r : V -> Hp -> VK -> Prop} (ho : UnR X (unaryOp op) r) (ha : PE X a ta) : PE X (.UnaryOp op a pos) (tUn r ta) := by
  intro pins s σ H Q I h
  exact UnaryOp_ (thn (ha pins s σ H _ I h) fun v s1 ⟨x, H1, I1, r1, q1⟩ => ho pins s1 σ H1 x v Q I1 r1 q1)
theorem opI {f : Value -> Value -> Sem Value} {C : Int -> Int -> Prop} {g : Int -> Int -> Int}
    (rule : ∀ (i j : Int) (t u : Tok) (s : Shared) (Q : Value -> Shared -> Prop) (E : Value -> Shared -> Prop), C i j -> Q (.int (g i j) s.toks) { s with toks := s.toks + 1 } -> wpAny (model X.prog X.w) X.A (f (.int i t) (.int j u)) Q E s) :
    OpR X f (rI C fun i j => .int (g i j)) := by
  intro pins s σ H x y v u Q I rx ry h
  obtain ⟨i, j, rfl, rfl, hc, q⟩ := h
  obtain ⟨t, rfl⟩ := rx
  obtain ⟨t', rfl⟩ := ry
  exact rule i j t t' s _ _ hc ⟨.int (g i j), H, I.tok _, ⟨_, rfl⟩, q⟩
theorem EJ {f : Value -> Value -> Sem Value} {g : Int -> Int -> Int}
    (rule : ∀ (i j : Int) (t u : Tok) (s : Shared) (Q : Value -> Shared -> Prop) (E : Value -> Shared -> Prop), Q (.int (g i j) s.toks) { s with toks := s.toks + 1 } -> wpAny (model X.prog X.w) X.A (f (.int i t) (.int j u)) Q E s) :
    OpR X f (rI0 fun i j => .int (g i j)) := by
  intro pins s σ H x y v u Q I rx ry h
  obtain ⟨i, j, rfl, rfl, q⟩ := h
  obtain ⟨t, rfl⟩ := rx
  obtain ⟨t', rfl⟩ := ry
  exact rule i j t t' s _ _ ⟨.int (g i j), H, I.tok _, ⟨_, rfl⟩, q⟩
theorem An {f : Value -> Value -> Sem Value} {g : Int -> Int -> Bool}
    (rule : ∀ (i j : Int) (t u : Tok) (s : Shared) (Q : Value -> Shared -> Prop) (E : Value -> Shared -> Prop), Q (.bool (g i j)) s -> wpAny (model X.prog X.w) X.A (f (.int i t) (.int j u)) Q E s) :
    OpR X f (rI0 fun i j => .bl (g i j)) := by
  intro pins s σ H x y v u Q I rx ry h
  obtain ⟨i, j, rfl, rfl, q⟩ := h
  obtain ⟨t, rfl⟩ := rx
  obtain ⟨t', rfl⟩ := ry
  exact rule i j t t' s _ _ ⟨.bl (g i j), H, I, rfl, q⟩
theorem CY : OpR X (binaryOp .Add) (rI0 fun i j => .int (i + j)) := EJ fun _ _ _ _ _ _ _ q => add_int q
theorem b_ : OpR X (binaryOp .Sub) (rI0 fun i j => .int (i - j)) := EJ fun _ _ _ _ _ _ _ q => sub_int q
theorem iP : OpR X (binaryOp .Mod) (rI (fun _ j => 0 < j) fun i j => .int (i % j)) := opI fun i j _ _ _ _ _ hc q => by
  have h1 : (0 : Int) < j := hc
  exact mod_int' (by omega) (by rw [Int.fmod_eq_emod_of_nonneg i (by omega)]; exact q)
theorem unI {f : Value -> Sem Value} {g : Int -> Int}
    (rule : ∀ (i : Int) (t : Tok) (s : Shared) (Q : Value -> Shared -> Prop) (E : Value -> Shared -> Prop), Q (.int (g i) s.toks) { s with toks := s.toks + 1 } -> wpAny (model X.prog X.w) X.A (f (.int i t)) Q E s) :
    UnR X f (rU fun i => .int (g i)) := by
  intro pins s σ H x v Q I rx h
  obtain ⟨i, rfl, q⟩ := h
  obtain ⟨t, rfl⟩ := rx
  exact rule i t s _ _ ⟨.int (g i), H, I.tok _, ⟨_, rfl⟩, q⟩
theorem kX : UnR X (unaryOp .USub) (rU fun i => .int (-i)) := unI fun _ _ _ _ _ q => neg_int q
end
section
variable {X : Cx} {a b c : Expr} {ta tb tc : TE} {pos : Pos}
theorem lj : OpR X (compareOp .Lt) (rI0 fun i j => .bl (decide (i < j))) := An fun _ _ _ _ _ _ _ q => lt_int q
theorem vt : OpR X (compareOp .LtE) (rI0 fun i j => .bl (decide (i <= j))) := An fun _ _ _ _ _ _ _ q => le_int q
theorem vL : OpR X (compareOp .Gt) (rI0 fun i j => .bl (decide (j < i))) := An fun _ _ _ _ _ _ _ q => gt_int q
theorem Eo : OpR X (compareOp .GtE) (rI0 fun i j => .bl (decide (j <= i))) := An fun _ _ _ _ _ _ _ q => ge_int q
theorem aV (b : Expr) {op : CmpOp} (h : op ≠ .In := by decide) (h2 : op ≠ .NotIn := by decide) : behindInMarks op b = false := by
  have e1 : (op == CmpOp.In) = false := by cases op <;> first | rfl | exact absurd rfl h
  have e2 : (op == CmpOp.NotIn) = false := by cases op <;> first | rfl | exact absurd rfl h2
  cases b <;> simp [behindInMarks, e1, e2]
theorem BC {op : CmpOp} {r : R2} (ho : OpR X (compareOp op) r) (ha : PE X a ta) (hb : PE X b tb) (hm : behindInMarks op b = false) : PE X (.Compare a [op] [b] pos) (tOp r ta tb) := by
  intro pins s σ H Q I h
  exact wpAny_Compare1 (CW ha hb I h fun v u s2 x y H2 I2 rx ry q => ho pins s2 σ H2 x y v u Q I2 rx ry q) hm
noncomputable def yJ (t : TE) : TT := fun σ H Q => t σ H fun x H' => ∃ k, x = .bl k /\ Q k H'
theorem Af {op : CmpOp} {r : R2} (ho : OpR X (compareOp op) r) (ha : PE X a ta) (hb : PE X b tb) (hm : behindInMarks op b = false) : PT X (.Compare a [op] [b] pos) (yJ (tOp r ta tb)) := by
  intro pins s σ H Q I h
  refine wpAny_isTrue_Compare1 (thn (ha pins s σ H _ I h) fun v s1 ⟨x, H1, I1, r1, q1⟩ => thn (hb pins s1 σ H1 _ I1 q1) fun u s2 ⟨y, H2, I2, r2, q2⟩ =>
    thn (ho pins s2 σ H2 x y v u _ I2 r1 r2 q2) fun c s3 ⟨z, H3, I3, r3, k, e, q3⟩ => ?_) hm
  subst e
  cases r3
  exact wpAny_truthy_bool ⟨H3, I3, q3⟩
noncomputable def t9 (r r' : R2) (ta tb tc : TE) : TE := fun σ H Q => ta σ H fun x H1 => tb σ H1 fun y H2 => r x y H2 fun z H3 => ∃ k, z = .bl k ∧
  (if k = true then tc σ H3 fun w' H4 => r' y w' H4 Q else Q (.bl false) H3)
theorem xv {op op' : CmpOp} {r r' : R2} (ho : OpR X (compareOp op) r) (ho' : OpR X (compareOp op') r') (ha : PE X a ta) (hb : PE X b tb) (hc : PE X c tc)
    (hm : lastMarks [op, op'] [b, c] = false := by with_unfolding_all rfl) : PE X (.Compare a [op, op'] [b, c] pos) (t9 r r' ta tb tc) := by
  intro pins s σ H Q I h
  refine Compare_chain (thn (ha pins s σ H _ I h) fun v s1 ⟨x, H1, I1, r1, q1⟩ => chain_link (thn (hb pins s1 σ H1 _ I1 q1) fun u s2 ⟨y, H2, I2, r2, q2⟩ =>
    thn (ho pins s2 σ H2 x y v u _ I2 r1 r2 q2) fun d s3 ⟨z, H3, I3, r3, k, e, q3⟩ => ?_)) hm
  subst e
  cases r3
  refine wpAny_truthy_bool ?_
  cases k with
  | false => exact ite_ff ⟨.bl false, H3, I3, rfl, q3⟩
  | true => exact ite_tt (chain_last (thn (hc pins s3 σ H3 _ I3 q3) fun w' s4 ⟨z', H4, I4, r4, q4⟩ => ho' pins s4 σ H4 y z' u w' Q I4 r2 r4 q4))
theorem xB {op op' : CmpOp} {r r' : R2} (ho : OpR X (compareOp op) r) (ho' : OpR X (compareOp op') r') (ha : PE X a ta) (hb : PE X b tb) (hc : PE X c tc)
    (hm : lastMarks [op, op'] [b, c] = false := by with_unfolding_all rfl) : PT X (.Compare a [op, op'] [b, c] pos) (yJ (t9 r r' ta tb tc)) := by
  intro pins s σ H Q I h
  refine isTrue_chain (thn (ha pins s σ H _ I h) fun v s1 ⟨x, H1, I1, r1, q1⟩ => test_link (thn (hb pins s1 σ H1 _ I1 q1) fun u s2 ⟨y, H2, I2, r2, q2⟩ =>
    thn (ho pins s2 σ H2 x y v u _ I2 r1 r2 q2) fun d s3 ⟨z, H3, I3, r3, k, e, q3⟩ => ?_)) hm
  subst e
  cases r3
  refine wpAny_truthy_bool ?_
  cases k with
  | false =>
    obtain ⟨k', e', q'⟩ := q3
    cases e'
    exact ite_ff ⟨H3, I3, q'⟩
  | true =>
    refine ite_tt (test_last (thn (hc pins s3 σ H3 _ I3 q3) fun w' s4 ⟨z', H4, I4, r4, q4⟩ => thn (ho' pins s4 σ H4 y z' u w' _ I4 r2 r4 q4) fun d' s5 ⟨z2, H5, I5, r5, k2, e2, q5⟩ => ?_))
    subst e2
    cases r5
    exact wpAny_truthy_bool ⟨H5, I5, q5⟩
noncomputable def Bu (K : PySem.W.Frag) (x : V) (H : Hp) (k : Bool) : Prop :=
  match x with
  | .non => k = false
  | .bl b => k = b
  | .int i => k = (i != 0)
  | .str y => y.length <= sizeLine /\ k = ((y.length : Int) != 0)
  | .byt y => y.size <= sizeLine /\ k = ((y.size : Int) != 0)
  | .ref p => (∃ xs, SqL K H p xs /\ k = !xs.isEmpty) \/ (∃ xs, SqT K H p xs /\ k = !xs.isEmpty) \/ ∃ kvs, H p = some (.dK kvs) /\ k = !kvs.isEmpty
  | _ => False
theorem t4 {κ : Type} {kvs : List (κ × V)} {vs : List (κ × Value)} (r : KV kvs vs) : (!vs.isEmpty) = !kvs.isEmpty := by
  cases r <;> rfl
theorem nv {xs : List V} {its : List Value} (r : Vals xs its) : (!its.toArray.isEmpty) = !xs.isEmpty := by
  cases r <;> simp
theorem jB : (sizeLine : Nat) < 2 ^ 63 := by rw [sizeLine_eq]; decide
theorem Ci : G1 X (fun x H Q => ∃ k, Bu X.K x H k /\ Q k H) := by
  intro pins s σ H x v Q I rx h
  obtain ⟨k, e, q⟩ := h
  have hl := jB
  have hs : sizeLine = 16777216 := sizeLine_eq
  cases x with
  | non =>
    cases rx
    have e' : k = false := e
    subst e'
    exact truthy_none ⟨H, I, q⟩
  | bl b =>
    cases rx
    have e' : k = b := e
    subst e'
    exact wpAny_truthy_bool ⟨H, I, q⟩
  | int i =>
    obtain ⟨t, rfl⟩ := rx
    have e' : k = (i != 0) := e
    subst e'
    exact PySem.P.truthy_int ⟨H, I, q⟩
  | str y =>
    obtain ⟨t, rfl⟩ := rx
    obtain ⟨hy, e'⟩ : y.length <= sizeLine /\ k = ((y.length : Int) != 0) := e
    subst e'
    exact PySem.P.truthy_str (by omega) ⟨H, I.tok _, q⟩
  | byt y =>
    obtain ⟨t, rfl⟩ := rx
    obtain ⟨hy, e'⟩ : y.size <= sizeLine /\ k = ((y.size : Int) != 0) := e
    subst e'
    exact PySem.W.truthy_bytes (by omega) ⟨H, I.tok _, q⟩
  | ref p =>
    cases rx
    have e' : (∃ xs, SqL X.K H p xs /\ k = !xs.isEmpty) \/ (∃ xs, SqT X.K H p xs /\ k = !xs.isEmpty) \/ ∃ kvs, H p = some (.dK kvs) /\ k = !kvs.isEmpty := e
    rcases e' with ⟨xs, hx, e'⟩ | ⟨xs, hx, e'⟩ | ⟨kvs, hx, e'⟩
    · subst e'
      obtain ⟨its, r, pl, hz⟩ := I.list hx
      have hlen := r.length
      exact wpAny_truthy_list pl.isList (by simp only [List.size_toArray]; omega) ⟨H, I.tok _, by rw [nv r]; exact q⟩
    · subst e'
      obtain ⟨its, r, pl, hz⟩ := I.tuple hx
      have hlen := r.length
      exact truthy_tuple pl (by simp only [List.size_toArray]; omega) ⟨H, I.tok _, by rw [nv r]; exact q⟩
    · subst e'
      obtain ⟨hz, hS, vs, r, m⟩ : kvs.length <= sizeLine /\ (p == sysModules) = false /\ ∃ vs, KV kvs vs /\ s.heap.DictOf (cA X.prog X.w) p vs := I.hok p _ hx
      have hlen : kvs.length = vs.length := Paired.length r
      exact wpAny_truthy_dict hS m (by omega) ⟨H, I.tok _, by rw [t4 r]; exact q⟩
  | _ => exact (show False from e).elim
theorem yL (ha : PE X a ta) (he : ∀ whole, isTrue a X.env whole = (do let v ← whole; standAt a.pos; holding [v] (truthy v))) :
    PT X a (fun σ H Q => ta σ H fun x H' => ∃ k, Bu X.K x H' k /\ Q k H') := by
  intro pins s σ H Q I h
  exact isTrue_plain (thn (ha pins s σ H _ I h) fun v s1 ⟨x, H1, I1, r1, q1⟩ => Ci pins s1 σ H1 x v Q I1 r1 q1) (he _)
theorem uz : OpR X (binaryOp .Add) (fun x y H Q => ∃ i j, x = .str i /\ y = .str j /\ i.length + j.length <= sizeLine /\ Q (.str (i ++ j)) H) := by
  intro pins s σ H x y v u Q I rx ry h
  obtain ⟨i, j, rfl, rfl, hz, q⟩ := h
  obtain ⟨t, rfl⟩ := rx
  obtain ⟨t', rfl⟩ := ry
  exact add_str (fun t' tk => ⟨.str (i ++ j), H, I.tok _, ⟨_, rfl⟩, q⟩) hz
theorem vals1 {x : V} {us : List Value} (r : Vals [x] us) : ∃ u, us = [u] /\ RelV x u := by
  cases r with
  | cons r1 r2 => cases r2; exact ⟨_, rfl, r1⟩
theorem vals2 {x y : V} {us : List Value} (r : Vals [x, y] us) : ∃ u w', us = [u, w'] /\ RelV x u /\ RelV y w' := by
  cases r with
  | cons r1 r2 =>
    cases r2 with
    | cons r3 r4 => cases r4; exact ⟨_, _, rfl, r1, r3⟩
theorem wA (hc : X.calm = true) : bK X (.builtin "max") (fun xs H Q => ∃ i j, xs = [.int i, .int j] /\ Q (.int (if j > i then j else i)) H) := by
  intro pins s σ H xs us Q I r h
  obtain ⟨i, j, rfl, q⟩ := h
  obtain ⟨u, w', rfl, ⟨t, rfl⟩, ⟨t', rfl⟩⟩ := vals2 r
  refine max_two_ints (I.ok.hd hc) fun h' tk k => ⟨_, H, I.kept k, ?_, q⟩
  by_cases hj : j > i
  · rw [if_pos hj, if_pos hj]; exact ⟨_, rfl⟩
  · rw [if_neg hj, if_neg hj]; exact ⟨_, rfl⟩
theorem xj : bK X (.type "int") (fun xs H Q => (∃ i, xs = [.int i] /\ Q (.int i) H) \/ ∃ k, xs = [.bl k] /\ Q (.int (if k then 1 else 0)) H) := by
  intro pins s σ H xs us Q I r h
  rcases h with ⟨i, rfl, q⟩ | ⟨k, rfl, q⟩
  · obtain ⟨u, rfl, t, rfl⟩ := vals1 r
    exact call_int_int ⟨.int i, H, I, ⟨_, rfl⟩, q⟩
  · obtain ⟨u, rfl, r1⟩ := vals1 r
    cases r1
    exact call_int_bool ⟨.int (if k then 1 else 0), H, I.tok _, ⟨_, rfl⟩, q⟩
end
structure Dp (h : Heap) (x dx C : Addr) (mA : Str -> Option Value) : Prop where
  obj : h.get? x = some (PySem.W.instObj C dx)
  ns : h.Ns1 dx mA
  ne : dx ≠ x
theorem wH {h : Heap} {dx : Addr} {mA : Str -> Option Value} (n : h.Ns1 dx mA) : ∃ od, h.get? dx = some od /\ ∀ name, PySem.W.lookIn name od = some (mA name) := by
  obtain ⟨o, es, ep, ho, hd, hk, _, hm⟩ := n
  refine ⟨o, ho, fun name => ?_⟩
  have e := hm name
  unfold nsFind findBy at e
  rw [<- Array.find?_toList] at e
  unfold PySem.W.lookIn
  rw [hd]
  dsimp only
  split
  · rename_i y q
    rw [q] at e
    exact congrArg some e
  · rename_i q
    rw [q] at e
    have a : es.toList.any (·.refKey) = false := by
      rw [List.any_eq_false]
      intro y hy
      obtain ⟨z, t, hkey⟩ := hk y (Array.mem_toList_iff.mp hy)
      simp [DictEntry.refKey, hkey]
    have a' : ¬ es.toList.any (·.refKey) = true := by rw [a]; exact Bool.false_ne_true
    rw [if_neg a']
    exact congrArg some e
theorem Dp.look {h : Heap} {x dx C : Addr} {mA : Str -> Option Value} (I : Dp h x dx C mA) : ∃ od, PySem.W.InstAt h x (PySem.W.instObj C dx) C (some od) /\ ∀ name, PySem.W.lookIn name od = some (mA name) :=
  let ⟨od, ho, hl⟩ := wH I.ns
  ⟨od, ⟨I.obj, rfl, rfl, ho⟩, hl⟩
theorem mC.some_of {v : V} {o : Option Value} (r : mC (some v) o) : ∃ u, o = some u /\ RelV v u := by
  cases o with
  | none => exact (show False from r).elim
  | some u => exact ⟨u, rfl, r⟩
section
variable {P : Program} {w : World} {H H' : Hp} {h h' : Heap} {a C dx : Addr} {fs fs' : List (Str × V)}
theorem z_ (hok : HOk P w H h) (e : H a = some (.ins C dx fs)) : ∃ mA, Dp h a dx C mA /\ (∀ f, mC (fs.lookup f) (mA f)) /\ PySem.Within mA (fs.map (·.1)) /\ fs.length <= 1000 /\ H dx = some (.own a) := by
  obtain ⟨d, z, ne, ob, mA, n, r, q⟩ := (show bC P w H h a (.ins C dx fs) from hok a _ e)
  exact ⟨mA, ⟨ob, n, ne⟩, r, q, z, d⟩
end
structure Cls (K : PySem.W.Frag) (C : Addr) : Prop where
  pg : PySem.W.plainGet K C Str.empty = true
  hd : PySem.W.hasDictIn K C = true
  po : PySem.W.plainOver K C = true
  sa : PySem.W.findIn K (.ref C) "__setattr__" = some (some (.builtin "object.__setattr__"))
theorem Cls.get {K : PySem.W.Frag} {C : Addr} (c : Cls K C) (f : Str) : PySem.W.plainGet K C f = true := c.pg
section
variable {X : Cx} {pins : List (Addr × Obj)} {σ : St} {H : Hp} {s : Shared} {A : Around} {E : Value -> Shared -> Prop} {Q : Value -> Shared -> Prop} {c : Value} {b : Bool}
inductive ji (K : PySem.W.Frag) (H : Hp) : V -> Value -> Prop where
  | non : ji K H .non (.type "NoneType")
  | bl (x : Bool) : ji K H (.bl x) (.type "bool")
  | int (i : Int) : ji K H (.int i) (.type "int")
  | str (x : Str) : ji K H (.str x) (.type "str")
  | flt (x : UInt64) : ji K H (.flt x) (.type "float")
  | lst {a : Addr} {xs : List V} (e : H a = some (.lst xs)) : ji K H (.ref a) (.type "list")
  | frz {a : Addr} {o : Obj} {xs : List V} (e : H a = some (.frz o (.lst xs))) : ji K H (.ref a) (.type "list")
  | tup {a : Addr} {xs : List V} (e : H a = some (.tup xs)) : ji K H (.ref a) (.type "tuple")
  | fc {a : Addr} {o : Obj} {kvs : List (Key × V)} (e : H a = some (.frz o (.dK kvs))) : ji K H (.ref a) (.type "dict")
  | dK {a : Addr} {kvs : List (Key × V)} (e : H a = some (.dK kvs)) : ji K H (.ref a) (.type "dict")
  | dT {a : Addr} {kvs : List (List Key × V)} (e : H a = some (.dT kvs)) : ji K H (.ref a) (.type "dict")
  | ins {a C dx : Addr} {fs : List (Str × V)} (e : H a = some (.ins C dx fs)) (cl : Cls K C) (ha : PySem.W.findIn K (.ref C) "__class__" = some (some (.builtin "object.__class__")))
      (hn : PySem.W.specialIn K (.builtin "object.__class__") "__get__" = some (some (.builtin "getset_descriptor.__get__"))) (htk : PySem.W.takesIn K (.builtin "object.__class__") = some true)
      (hm : PySem.W.mroIn K C (.type "object") = some true) : ji K H (.ref a) (.ref C)
theorem vQ {x : V} {u t : Value} (I : Inv X pins σ H s) (rx : RelV x u) (ty : ji X.K H x t) (e : PySem.W.kitOne X.K t c = some b) (h : ∀ tk, Q (.bool b) { s with toks := tk }) :
    wpAny (model X.prog X.w) A (call (.builtin "isinstance") [u, c]) Q E s := by
  cases ty with
  | non => cases (show u = Value.none from rx); exact PySem.W.kia_one PySem.W.kitx_none I.kIn True.intro e (fun z => nomatch z) h
  | bl y => cases (show u = Value.bool y from rx); exact PySem.W.kia_one PySem.W.kitx_bool I.kIn True.intro e (fun z => nomatch z) h
  | int i => obtain ⟨t, q⟩ := (show ∃ t, u = Value.int i t from rx); cases q; exact PySem.W.kia_one PySem.W.kitx_int I.kIn True.intro e (fun z => nomatch z) h
  | str y => obtain ⟨t, q⟩ := (show ∃ t, u = Value.str y t from rx); cases q; exact PySem.W.kia_one PySem.W.kitx_str I.kIn True.intro e (fun z => nomatch z) h
  | flt y => obtain ⟨t, q⟩ := (show ∃ t, u = Value.float y t from rx); cases q; exact PySem.W.kia_one PySem.W.kitx_float I.kIn True.intro e (fun z => nomatch z) h
  | @lst a xs ea =>
    cases (show u = Value.ref a from rx)
    obtain ⟨_, _, n, _, h1⟩ := (show bC X.prog X.w H s.heap a (.lst xs) from I.hok a _ ea)
    exact PySem.W.kia_one PySem.W.kitx_list I.kIn ⟨_, h1, rfl⟩ e (fun z => nomatch z) h
  | @frz a ob xs ea =>
    cases (show u = Value.ref a from rx)
    obtain ⟨_, _, _, n, _, h1⟩ := (show bC X.prog X.w H s.heap a (.frz ob (.lst xs)) from I.hok a _ ea)
    exact PySem.W.kia_one PySem.W.kitx_list I.kIn ⟨_, h1, rfl⟩ e (fun z => nomatch z) h
  | @tup a xs ea =>
    cases (show u = Value.ref a from rx)
    obtain ⟨_, _, _, p⟩ := (show bC X.prog X.w H s.heap a (.tup xs) from I.hok a _ ea)
    obtain ⟨o, h1, ⟨h2, _⟩, _⟩ := p
    exact PySem.W.kia_one PySem.W.kitx_tuple I.kIn ⟨o, h1, h2⟩ e (fun z => nomatch z) h
  | @fc a ob kvs ea =>
    cases (show u = Value.ref a from rx)
    obtain ⟨_, _, _, vs, _, p⟩ := (show bC X.prog X.w H s.heap a (.frz ob (.dK kvs)) from I.hok a _ ea)
    obtain ⟨o, es, ep, h1, h2, _⟩ := p
    exact PySem.W.kia_one PySem.W.kitx_dict I.kIn ⟨o, h1, h2.1⟩ e (fun z => nomatch z) h
  | @dK a kvs ea =>
    cases (show u = Value.ref a from rx)
    obtain ⟨_, _, vs, _, p⟩ := (show bC X.prog X.w H s.heap a (.dK kvs) from I.hok a _ ea)
    obtain ⟨o, es, ep, h1, h2, _⟩ := p
    exact PySem.W.kia_one PySem.W.kitx_dict I.kIn ⟨o, h1, h2.1⟩ e (fun z => nomatch z) h
  | @dT a kvs ea =>
    cases (show u = Value.ref a from rx)
    obtain ⟨_, _, xs, _, o, es, ep, h1, h2, _⟩ := (show bC X.prog X.w H s.heap a (.dT kvs) from I.hok a _ ea)
    exact PySem.W.kia_one PySem.W.kitx_dict I.kIn ⟨o, h1, h2.1⟩ e (fun z => nomatch z) h
  | @ins a C dx fs ea cl ha hn htk hm =>
    cases (show u = Value.ref a from rx)
    obtain ⟨mA, O, _⟩ := z_ I.hok ea
    obtain ⟨od, J, _⟩ := O.look
    exact PySem.W.kia_one (PySem.W.kitx_own (cl.get _) cl.hd ha hn htk hm) I.kIn J e (fun z => nomatch z) h
end
structure eV (k : Nat) (A : Around) : Prop where
  hd : A.handled = none
  dp : A.depth + 3 * k + 5 < recursionLimit
  un : A.units + 16 * k + 200 < cLine
  gd : A.guards = some []
theorem eV.mono {j k : Nat} {A : Around} (r : eV k A) (h : j <= k) : eV j A := ⟨r.hd, by have := r.dp; omega, by have := r.un; omega, r.gd⟩
theorem eV.deeper {k : Nat} {A : Around} (r : eV (k + 1) A) (env : Env) : eV k (A.deeper env) :=
  ⟨r.hd, by have := r.dp; show A.depth + 1 + 3 * k + 5 < _; omega, by have := r.un; show A.units + 3 + 16 * k + 200 < _; omega, r.gd⟩
theorem eV.depth {k : Nat} {A : Around} (r : eV k A) : A.depth < recursionLimit := by have := r.dp; omega
theorem eV.units {k : Nat} {A : Around} (r : eV k A) : A.units + 64 < cLine := by have := r.un; omega
noncomputable def EO : TA := fun _ H Q => Q [] H
noncomputable def BJ (ta : TE) (tr : TA) : TA := fun σ H Q => ta σ H fun x H1 => tr σ H1 fun xs H2 => Q (x :: xs) H2
section
variable {X : Cx} {e : Expr} {es : List Expr} {te : TE} {t : TA} {pos : Pos}
theorem nc : PA X [] EO := fun _ _ _ _ H Q I h => Calls.spliced_nil ⟨[], H, I, .nil, h⟩
theorem iT (ha : PE X e te) (hr : PA X es t) (hs : starEach (e :: es) X.env = (false, eval e X.env) :: starEach es X.env := by rfl) : PA X (e :: es) (BJ te t) := by
  intro pos pins s σ H Q I h
  rw [hs]
  show wpAny _ _ (spliced ((false, eval e X.env) :: backTo pos (starEach es X.env))) _ _ s
  refine Calls.spliced_cons (thn (ha pins s σ H _ I h) fun u s1 ⟨x, H1, I1, r1, q1⟩ => ?_)
  exact thn (hr pos pins s1 σ H1 _ I1 q1) fun us s2 ⟨xs, H2, I2, r2, q2⟩ => ⟨x :: xs, H2, I2, .cons r1 r2, q2⟩
noncomputable def Gy (t : TA) : TE := fun σ H Q => t σ H fun xs H1 => xs.length <= sizeLine /\ ∀ p, H1 p = none -> Q (.ref p) (upd H1 p (.tup xs))
noncomputable def GH (t : TA) : TE := fun σ H Q => t σ H fun xs H1 => xs.length <= sizeLine /\ ∀ p, H1 p = none -> Q (.ref p) (upd H1 p (.lst xs))
theorem C2 {x1} (h : PA X es t) : PE X (.Tuple es x1 pos) (Gy t) := by
  intro pins s σ H Q I hq
  refine wpAny_Tuple_spliced (thn (h pos pins s σ H _ I hq) fun us s1 ⟨xs, H1, I1, r, z, q⟩ => ⟨by rw [<- r.length]; exact z, ?_⟩)
  have hf : H1 s1.heap.objs.size = none := I1.hok.fresh (Nat.le_refl _)
  refine ⟨.ref s1.heap.objs.size, upd H1 s1.heap.objs.size (.tup xs), I1.laid (t' := s1.toks) (fun b u e => Heap.get?_push_of_some _ e) (Nat.le_refl _) ?_, rfl, q _ hf⟩
  exact ⟨z, us, r, ⟨_, Heap.get?_push_size _ rfl, ⟨rfl, _, rfl⟩, rfl⟩⟩
theorem DI (h : PA X es t) : PE X (.List es pos) (GH t) := by
  intro pins s σ H Q I hq
  refine wpAny_List_spliced (thn (h pos pins s σ H _ I hq) fun us s1 ⟨xs, H1, I1, r, z, q⟩ => ⟨by rw [<- r.length]; exact z, ?_⟩)
  have hf : H1 s1.heap.objs.size = none := I1.hok.fresh (Nat.le_refl _)
  refine ⟨.ref s1.heap.objs.size, upd H1 s1.heap.objs.size (.lst xs), I1.laid (t' := s1.toks) (fun b u e => Heap.get?_push_of_some _ e) (Nat.le_refl _) ?_, rfl, q _ hf⟩
  exact ⟨z, us, 0, r, Heap.get?_push_size _ rfl⟩
end
noncomputable abbrev Sp := List V -> Hp -> VK -> XK -> Prop
noncomputable abbrev CXT := List Env -> Hp -> Shared -> XK -> Value -> Shared -> Prop
structure wy (P : Program) (w : World) (K : PySem.W.Frag) (mg : Str -> Option Value) (base : Heap) (A : Around) (outer : List Env) (s : Shared) (H : Hp) : Prop where
  frames : A.frames = some outer
  mod : Mod K mg base
  bs : ∀ b o, base.get? b = some o -> s.heap.get? b = some o /\ H b = none
  bsz : base.objs.size <= s.heap.objs.size
  lX : s.heap.FunFrames base outer
  frf : ∀ b ∈ frs outer, H b = none
  hok : HOk P w H s.heap
  bare : AllBare s.gens
noncomputable def CE (outer : List Env) (P : Program) (w : World) (H : Hp) (s : Shared) (Q : VK) (u : Value) (s' : Shared) : Prop :=
  ∃ v H', s'.os = s.os /\ AllBare s'.gens /\ Un (frs outer) [] H H' s.heap s'.heap /\ HOk P w H' s'.heap /\ RelV v u /\ Q v H'
noncomputable def CR (CX : CXT) (outer : List Env) (P : Program) (w : World) (H : Hp) (s : Shared) (Q : VK) (E : XK) (r : Result) (s' : Shared) : Prop :=
  match r with
  | .ok (.ret u) => CE outer P w H s Q u s'
  | .ok _ => False
  | .error e => CX outer H s E e s'
structure df (P : Program) (w : World) (K : PySem.W.Frag) (mg : Str -> Option Value) (base : Heap) (CX : CXT) (k : Nat) (f : Addr) (fd : FuncData) (ps : List Str) (sp : Sp) : Prop where
  len : ∀ vs H Q E, sp vs H Q E -> vs.length = ps.length
  run : ∀ (A : Around) (outer : List Env) (s : Shared) (H : Hp) (args : Args) (us : List Value) (vs : List V) (Q : VK) (E : XK), eV k A -> wy P w K mg base A outer s H -> BindsTo s fd args (ps.zip us) -> Vals vs us -> sp vs H Q E →
    codeAny (model P w) A (.call (.ref f) args) (CR CX outer P w H s Q E) s
theorem df.mono {P : Program} {w : World} {K : PySem.W.Frag} {mg : Str -> Option Value} {base : Heap} {CX : CXT} {j k : Nat} {f : Addr} {fd : FuncData} {ps : List Str} {sp : Sp} (F : df P w K mg base CX j f fd ps sp) (h : j <= k) :
    df P w K mg base CX k f fd ps sp := ⟨F.len, fun A outer s H args us vs Q E hr => F.run A outer s H args us vs Q E (hr.mono h)⟩
theorem df.imp {P : Program} {w : World} {K : PySem.W.Frag} {mg : Str -> Option Value} {base : Heap} {CX : CXT} {k : Nat} {f : Addr} {fd : FuncData} {ps : List Str} {sp sp' : Sp} (F : df P w K mg base CX k f fd ps sp)
    (h : ∀ vs H Q E, sp' vs H Q E -> sp vs H Q E) : df P w K mg base CX k f fd ps sp' :=
  ⟨fun vs H Q E q => F.len vs H Q E (h _ _ _ _ q), fun A outer s H args us vs Q E hr he hb hv hs => F.run A outer s H args us vs Q E hr he hb hv (h _ _ _ _ hs)⟩
section
variable {X : Cx} {pins : List (Addr × Obj)} {σ : St} {H : Hp} {s s' : Shared}
theorem Inv.ES (I : Inv X pins σ H s) : wy X.prog X.w X.K X.mg X.base X.A X.stack s H :=
  ⟨I.ok.frames, I.ok.mod, I.bs, Nat.le_trans I.ok.bsz I.sz, I.stack, I.vJ, I.hok, I.bare⟩
theorem Inv.after {Q : VK} {u : Value} (I : Inv X pins σ H s) (h : CE X.stack X.prog X.w H s Q u s') : EP X pins σ Q u s' := by
  obtain ⟨v, H', os, bare, un, hok, r, q⟩ := h
  obtain ⟨hh, g, d, t, os'⟩ := s'
  obtain rfl : os' = s.os := os
  exact ⟨v, H', I.call (h' := hh) (g' := g) (d' := d) (t' := t) (ch := []) un hok bare (fun b z => absurd z (by simp)), r, q⟩
end
noncomputable def EK (sp : Sp) (dvs : List V) (E : XK) (t : TA) : TE := fun σ H Q => t σ H fun vs H1 => sp (vs ++ dvs) H1 Q E
noncomputable def Binds (K : PySem.W.Frag) (fd : FuncData) (ps : List Str) (ds : List Value) : Prop :=
  ∀ (s : Shared) (us : List Value), K.In s.heap -> (us ++ ds).length = ps.length -> BindsTo s fd ⟨us, []⟩ (ps.zip (us ++ ds))
theorem Binds.all {K : PySem.W.Frag} {fd : FuncData} {ps : List Str} (h : ∀ us : List Value, us.length = ps.length -> bindArgs fd ⟨us, []⟩ = pure (ps.zip us)) : Binds K fd ps [] := fun s us _ hl => by
  rw [List.append_nil] at hl ⊢
  exact .of_eq (h us hl)
noncomputable def Passes (CX : CXT) (X : Cx) (E : XK) : Prop := ∀ (pins : List (Addr × Obj)) (σ : St) (H : Hp) (s : Shared) (e : Value) (s' : Shared), Inv X pins σ H s -> CX X.stack H s E e s' -> X.xe e s'
section
variable {X : Cx} {CX : CXT} {k : Nat} {f C : Addr} {fd : FuncData} {ps : List Str} {sp : Sp} {dvs : List V} {ds : List Value} {E : XK} {x m : Str} {p pos apos : Pos} {e o : Expr} {es : List Expr} {ta : TE} {t : TA}
theorem B_ {pins : List (Addr × Obj)} {σ : St} {H : Hp} {s : Shared} {Q : VK} {us : List Value} {vs : List V} (F : df X.prog X.w X.K X.mg X.base CX k f fd ps sp) (hr : eV k X.A) (hb : Binds X.K fd ps ds) (hd : Vals dvs ds) (hx : Passes CX X E)
    (I : Inv X pins σ H s) (r : Vals vs us) (h : sp (vs ++ dvs) H Q E) : wpAny (model X.prog X.w) X.A (call (.ref f) us) (EP X pins σ Q) X.xe s := by
  have r2 : Vals (vs ++ dvs) (us ++ ds) := r.append hd
  have hl : (us ++ ds).length = ps.length := by rw [<- r2.length]; exact F.len _ _ _ _ h
  refine wpAny_call (codeAny_mono (F.run X.A X.stack s H ⟨us, []⟩ (us ++ ds) (vs ++ dvs) Q E hr I.ES (hb s us I.kIn hl) r2 h) fun r s' hq => ?_)
  cases r with
  | error e => exact hx pins σ H s e s' I hq
  | ok fl =>
    cases fl with
    | ret u => exact I.after hq
    | next => exact False.elim hq
    | brk => exact False.elim hq
    | cont => exact False.elim hq
theorem AW (F : df X.prog X.w X.K X.mg X.base CX k f fd ps sp) (hr : eV k X.A) (hg : Gl X x) (hm : X.mg x = some (.ref f)) (hk : PySem.W.keepIn X.K (.ref f) = true) (hb : Binds X.K fd ps ds) (hd : Vals dvs ds) (hx : Passes CX X E)
    (ha : PA X (e :: es) t) (hdb : (x == ("__debug__" : Str)) = false := by decide) (he : starEach (e :: es) X.env = (false, eval e X.env) :: starEach es X.env := by rfl) (hpl : (backTo pos (starEach es X.env)).any (·.1) = false := by rfl) :
    PE X (.Call (.Name x p) (e :: es) [] pos) (EK sp dvs E t) := by
  intro pins s σ H Q I h
  refine wpAny_Call_Name_kw (vv I hg hm ?_ hdb)
  refine PySem.W.callWith_K (h₀ := X.base) I.ok.mod.kin hk (thn (ha pos pins s σ H _ I h) fun us s1 ⟨vs, H1, I1, r, q⟩ => ⟨I1.kIn, ?_⟩) he hpl
  exact B_ F hr hb hd hx I1 r q
end
structure aL (N P : List Str) (sc : Scope) : Prop where
  kind : sc.kind = .function
  co : sc.isCoroutine = false
  gen : sc.isGenerator = false
  nd : N.Nodup
  pre : N.take P.length = P
  par : ∀ x ∈ P, sc.names.lookup x = some .local \/ sc.names.lookup x = some .cell
  C5 : ∀ y ∈ sc.names, y.2 ≠ .free
theorem pD {kindOf : Str -> Option NameKind} {x : Str} : ∀ {binds : List (Str × Value)} {m : Str -> Option Value}, (∀ v, (x, v) ∉ binds) -> bindL kindOf binds m x = m x
  | [], _, _ => rfl
  | (n, v) :: r, m, h => by
    unfold bindL
    rw [pD fun w hw => h w (List.mem_cons_of_mem _ hw)]
    split
    · have : x ≠ n := by rintro rfl; exact h v List.mem_cons_self
      simp [this]
    · rfl
theorem pA {kindOf : Str -> Option NameKind} {x : Str} : ∀ {binds : List (Str × Value)} {m : Str -> Option Value}, (∀ v, (x, v) ∉ binds) -> bindC kindOf binds m x = m x
  | [], _, _ => rfl
  | (n, v) :: r, m, h => by
    unfold bindC
    rw [pA fun w hw => h w (List.mem_cons_of_mem _ hw)]
    split
    · rfl
    · have : x ≠ n := by rintro rfl; exact h v List.mem_cons_self
      simp [this]
theorem oO {kindOf : Str -> Option NameKind} {x : Str} {v : Value} : ∀ {P : List Str} {vs : List Value} {i : Nat} {m : Str -> Option Value}, P.Nodup -> P[i]? = some x -> vs[i]? = some v -> kindOf x = some .local →
    bindL kindOf (P.zip vs) m x = some v
  | [], _, _, _, _, h, _, _ => by simp at h
  | _ :: _, [], _, _, _, _, h, _ => by simp at h
  | p :: P, w :: vs, 0, m, nd, h1, h2, hk => by
    simp at h1 h2; subst h1; subst h2
    show bindL kindOf ((p, w) :: P.zip vs) m p = _
    unfold bindL
    rw [pD fun v hv => (List.nodup_cons.mp nd).1 (List.of_mem_zip hv).1, if_pos hk]
    simp
  | p :: P, w :: vs, i + 1, m, nd, h1, h2, hk => by
    show bindL kindOf ((p, w) :: P.zip vs) m x = _
    unfold bindL
    exact oO (i := i) (List.nodup_cons.mp nd).2 (by simpa using h1) (by simpa using h2) hk
theorem pB {kindOf : Str -> Option NameKind} {x : Str} {v : Value} : ∀ {P : List Str} {vs : List Value} {i : Nat} {m : Str -> Option Value}, P.Nodup -> P[i]? = some x -> vs[i]? = some v -> kindOf x ≠ some .local →
    bindC kindOf (P.zip vs) m x = some v
  | [], _, _, _, _, h, _, _ => by simp at h
  | _ :: _, [], _, _, _, _, h, _ => by simp at h
  | p :: P, w :: vs, 0, m, nd, h1, h2, hk => by
    simp at h1 h2; subst h1; subst h2
    show bindC kindOf ((p, w) :: P.zip vs) m p = _
    unfold bindC
    rw [pA fun v hv => (List.nodup_cons.mp nd).1 (List.of_mem_zip hv).1, if_neg hk]
    simp
  | p :: P, w :: vs, i + 1, m, nd, h1, h2, hk => by
    show bindC kindOf ((p, w) :: P.zip vs) m x = _
    unfold bindC
    exact pB (i := i) (List.nodup_cons.mp nd).2 (by simpa using h1) (by simpa using h2) hk
noncomputable def start (N : List Str) (vs : List V) : St := vs.map some ++ List.replicate (N.length - vs.length) none
noncomputable def jq (CX : CXT) (P : Program) (w : World) (K : PySem.W.Frag) (mg : Str -> Option Value) (base : Heap) (N : List Str) (qual : Str) (scope : Scope) (f : Addr) (cd : Value) (A : Around) (outer : List Env) (s : Shared) (H : Hp) (E : XK) : Cx where
  prog := P
  w := w
  K := K
  mg := mg
  base := base
  A := A.deeper (envOfC qual scope s.heap.objs.size f cd)
  N := N
  aM := s
  aX := H
  env := envOfC qual scope s.heap.objs.size f cd
  outer := outer
  stack := envOfC qual scope s.heap.objs.size f cd :: outer
  ex := []
  calm := true
  fn := fun _ => true
  pn := []
  xe := fun e s' => wpAny (model P w) (A.deeper (envOfC qual scope s.heap.objs.size f cd)) (leaving (envOfC qual scope s.heap.objs.size f cd) e) (fun _ s'' => CX outer H s E e s'') (fun e' s'' => CX outer H s E e' s'') s'
theorem rW {sc : Scope} {n : Nat} {x : Str} (h : sc.names.lookup x = some .cell) : ∃ c, (cellsFrom n sc.names []).lookup x = some c := by
  have q := PySem.W.cellsFrom_some sc.names n [] (.inl h)
  exact Option.isSome_iff_exists.mp q
theorem pH {CX : CXT} {P : Program} {w : World} {K : PySem.W.Frag} {mg : Str -> Option Value} {base : Heap} {N ps : List Str} {qual : Str} {scope : Scope} {f : Addr} {cd : Value} {A : Around} {outer : List Env} {s s1 : Shared} {H : Hp} {E : XK} {us : List Value} {vs : List V}
    (S : aL N ps scope) (hd : A.handled = none) (e0 : wy P w K mg base A outer s H) (hl : vs.length = ps.length) (r : Vals vs us)
    (x : InCallC s s.heap.objs.size (bindL (envOfC qual scope s.heap.objs.size f cd).kindOf (ps.zip us) fun _ => none) (cellsFrom (s.heap.objs.size + 1) scope.names []) (bindC (envOfC qual scope s.heap.objs.size f cd).kindOf (ps.zip us) fun _ => none) s1) :
    Inv (jq CX P w K mg base N qual scope f cd A outer s H E) [] (start N vs) H s1 := by
  have hpl : ps.length <= N.length := by have := congrArg List.length S.pre; rw [List.length_take] at this; omega
  obtain ⟨h1, tk, rfl, hk⟩ := x.done
  have noA : ∀ b : Addr, b ∉ (jq CX P w K mg base N qual scope f cd A outer s H E).ex := fun b z => absurd (show b ∈ ([] : List Addr) from z) (by simp)
  refine ⟨⟨e0.mod, S.kind, rfl, rfl, Nat.le_refl _, fun y z c h1 h2 => ?_, fun y hy => ?_, fun y c _ h => ?_, fun _ => hd, Around.frames_deeper e0.frames, .inr ⟨rfl, rfl⟩, fun b z => absurd z (noA b), e0.bs, e0.bsz, fun b _ _ => noA b, fun b z => absurd z (noA b), e0.lX, e0.frf⟩,
    rfl, e0.bare, Un.kept hk, ⟨_, x.toInCall.ns, fun i y v h1 h2 h3 => ?_⟩, fun y c h => ⟨_, x.cell y c h⟩, e0.hok.fresh (Nat.le_refl _), fun y c h => ?_, fun p hp => absurd (show p ∈ ([] : List (Addr × Obj)) from hp) (by simp), e0.hok.kept hk, ?_⟩
  · exact name_of_addr x.apart (PySem.mem_of_lookup h1) (PySem.mem_of_lookup h2)
  · have hy : scope.names.lookup y = some .cell \/ scope.names.lookup y = some .free := hy
    rcases hy with hy | hy
    · exact rW hy
    · exact absurd rfl (S.C5 _ (PySem.mem_of_lookup hy))
  · exact Nat.le_of_lt (x.above y c (PySem.mem_of_lookup h))
  · have hi : i < vs.length := by
      unfold start at h2
      by_cases hi : i < vs.length
      · exact hi
      · rw [List.getElem?_append_right (by simpa using hi)] at h2
        rw [List.getElem?_replicate] at h2
        split at h2 <;> cases h2
    have ha : vs[i]? = some v := by
      unfold start at h2
      rw [List.getElem?_append_left (by simpa using hi), List.getElem?_map] at h2
      cases e : vs[i]? with
      | none => rw [e] at h2; cases h2
      | some a => rw [e] at h2; cases h2; rfl
    obtain ⟨u, hu, rv⟩ := r.get ha
    have hp : ps[i]? = some y := by
      rw [<- S.pre, List.getElem?_take_of_lt (by omega)]; exact h1
    have ndP : ps.Nodup := by rw [<- S.pre]; exact S.nd.sublist (List.take_sublist _ _)
    refine ⟨u, rv, ?_⟩
    rcases S.par y (List.mem_of_getElem? hp) with k | k
    · exact .inl ⟨k, oO ndP hp hu k⟩
    · obtain ⟨c, e⟩ := rW (n := s.heap.objs.size + 1) k
      refine .inr ⟨.inl k, c, e, ?_⟩
      have q := x.cell y c e
      rw [pB ndP hp hu (by show scope.names.lookup y ≠ _; rw [k]; decide)] at q
      exact q
  · exact e0.hok.fresh (Nat.le_of_lt (x.above y c (PySem.mem_of_lookup h)))
  · unfold start
    show _ = N.length
    rw [List.length_append, List.length_map, List.length_replicate]
    omega
theorem D3 {CX : CXT} {P : Program} {w : World} {K : PySem.W.Frag} {mg : Str -> Option Value} {base : Heap} {k : Nat} {f : Addr} {name qual : Str} {params : Arguments} {body : List Stmt} {scope : Scope} {dV kV doc pm cdv ct oc : Value} {an od : Option Addr}
    {osl : Array (Option Value)} {N ps : List Str} {sp : Sp} (lk : K.lookup f = some ⟨oc, od, .func (PySem.W.fnOf name qual params body scope dV kV doc pm an cdv ct), osl⟩) (hcd : PySem.W.codeIn K cdv qual = true) (S : aL N ps scope)
    (len : ∀ vs H Q E, sp vs H Q E -> vs.length = ps.length)
    (hbody : ∀ (A : Around) (outer : List Env) (s : Shared) (H : Hp) (vs : List V) (Q : VK) (E : XK), eV k (A.deeper (envOfC qual scope s.heap.objs.size f cdv)) -> sp vs H Q E →
      ∃ t, PSs (jq CX P w K mg base N qual scope f cdv A outer s H E) body t /\ t { nx := fun _ H' => Q .non H', rt := Q } (start N vs) H) :
    df P w K mg base CX (k + 1) f (PySem.W.fnOf name qual params body scope dV kV doc pm an cdv ct) ps sp := by
  refine ⟨len, fun A outer s H args us vs Q E hr e0 hb r hsp => ?_⟩
  have hl := len _ _ _ _ hsp
  have KX : K.In s.heap := e0.mod.kin.keeps fun b o e => (e0.bs b o e).1
  have lim : s.heap.NoLimit := e0.mod.nolimit.keeps fun b o e => (e0.bs b o e).1
  have hkind : ∀ y ∈ ps.zip us, scope.names.lookup y.1 = some .local \/ (scope.names.lookup y.1 = some .cell /\ ((cellsFrom (s.heap.objs.size + 1) scope.names []).lookup y.1).isSome = true) := fun ⟨n, v⟩ hy => by
    rcases S.par n (List.of_mem_zip hy).1 with q | q
    · exact .inl q
    · exact .inr ⟨q, PySem.W.cellsFrom_some _ _ _ (.inl q)⟩
  refine codeAny_call_function hr.depth (KX _ _ lk) rfl S.co S.gen rfl (PySem.W.codeRec_of KX hcd) (hb _ _ _ _ ?_)
  refine wpAny_newFunctionEnv_cells S.kind hkind fun env he s1 x => ?_
  subst he
  refine ⟨lim.keeps x.toInCall.keep, codeAny_func ?_⟩
  obtain ⟨t, ht, hq⟩ := hbody A outer s H vs Q E (hr.deeper _) hsp
  have I : Inv (jq CX P w K mg base N qual scope f cdv A outer s H E) [] (start N vs) H s1 := pH S hr.hd e0 hl r x
  refine wpAny_mono (ht [] s1 (start N vs) H _ I hq) (fun fl s' hs => ?_) fun e s' hs => hs
  have fin : ∀ {σ' : St} {H' : Hp} {v : V} {u : Value}, Inv (jq CX P w K mg base N qual scope f cdv A outer s H E) [] σ' H' s' -> RelV v u -> Q v H' -> CE outer P w H s Q u s' :=
    fun {σ' H' v u} J rv q => ⟨v, H', J.os, J.bare, J.base, J.hok, rv, q⟩
  cases fl with
  | ret u =>
    obtain ⟨v, σ', H', J, rv, q⟩ := hs
    exact fin J rv q
  | next =>
    obtain ⟨σ', H', J, q⟩ := hs
    exact fin (v := V.non) (u := Value.none) J rfl q
  | brk =>
    obtain ⟨_, _, _, q⟩ := hs
    exact False.elim q
  | cont =>
    obtain ⟨_, _, _, q⟩ := hs
    exact False.elim q
section
variable {X : Cx} {x : Str} {p pos : Pos} {e : Expr} {es : List Expr} {t : TA} {id T : String} {r : List V -> Hp -> VK -> Prop}
noncomputable def tCB (r : List V -> Hp -> VK -> Prop) (t : TA) : TE := fun σ H Q => t σ H fun vs H1 => r vs H1 Q
theorem sZ (hc : bK X (.builtin id) r) (hg : Gl X x) (hm : X.mg x = none) (hv : bootBuiltins x = some (.builtin id)) (ha : PA X (e :: es) t) (hn : x ≠ "__name__" := by decide) (hdb : (x == ("__debug__" : Str)) = false := by decide)
    (he : starEach (e :: es) X.env = (false, eval e X.env) :: starEach es X.env := by rfl) (hpl : (backTo pos (starEach es X.env)).any (·.1) = false := by rfl) : PE X (.Call (.Name x p) (e :: es) [] pos) (tCB r t) := by
  intro pins s σ H Q I h
  refine wpAny_Call_Name_kw (kz I hg hm hv ?_ hn hdb)
  exact PyProof.Rows.callWith_builtin1 (thn (ha pos pins s σ H _ I h) fun us s1 ⟨vs, H1, I1, r1, q1⟩ => hc pins s1 σ H1 vs us Q I1 r1 q1) he hpl
theorem gv (hc : bK X (.type T) r) (hg : Gl X x) (hm : X.mg x = none) (hv : bootBuiltins x = some (.type T)) (ha : PA X (e :: es) t) (hn : x ≠ "__name__" := by decide) (hdb : (x == ("__debug__" : Str)) = false := by decide)
    (he : starEach (e :: es) X.env = (false, eval e X.env) :: starEach es X.env := by rfl) (hpl : (backTo pos (starEach es X.env)).any (·.1) = false := by rfl) : PE X (.Call (.Name x p) (e :: es) [] pos) (tCB r t) := by
  intro pins s σ H Q I h
  refine wpAny_Call_Name_kw (kz I hg hm hv ?_ hn hdb)
  exact PyProof.Rows.callWith_type1 (thn (ha pos pins s σ H _ I h) fun us s1 ⟨vs, H1, I1, r1, q1⟩ => hc pins s1 σ H1 vs us Q I1 r1 q1) he hpl
end
end L2
namespace HT
open PySem PyProof.Rows
section
variable {prog : Program} {w : World} {A : Around} {E : Value -> Shared -> Prop} {s : Shared}
theorem zV {t b : Addr} {vs ws : List Value} {Q : Value -> Shared -> Prop} (ht : IsTup s.heap t vs.toArray) (hb : IsTup s.heap b ws.toArray) (hv : vs ≠ [])
    (h1 : ws = [] -> Q (.ref t) s) (h2 : ws ≠ [] -> Q (.ref s.heap.objs.size) { s with heap := s.heap.push { cls := .type "tuple", data := .seq (vs ++ ws).toArray } })
    (hsz : vs.length + ws.length <= sizeLine) : wpAny (model prog w) A (binaryOp .Add (.ref t) (.ref b)) Q E s := by
  obtain ⟨⟨cls, dd, data, sl⟩, ho, hc, n, hd⟩ := id ht
  obtain ⟨⟨cls2, dd2, data2, sl2⟩, ho2, hc2, n2, hd2⟩ := id hb
  simp only at hc hd hc2 hd2
  subst hc hd hc2 hd2
  have e : vs.toArray ++ ws.toArray = (vs ++ ws).toArray := by simp
  by_cases hw : ws = []
  · exact concat_meets ⟨_, ho, rfl⟩ ⟨_, ho2, rfl⟩ noFill_tuple_add seq_tuple_add PySem.F.slot_tuple_add PySem.F.entry_tuple_add (PySem.F.args_tuple_add_2 _ _)
      (tuple_addW1 t b vs.toArray ws.toArray n n2 dd dd2 sl sl2 (by simpa using hv) (by simp [hw])) ⟨ho, ho2, h1 hw⟩
  · refine concat_meets ⟨_, ho, rfl⟩ ⟨_, ho2, rfl⟩ noFill_tuple_add seq_tuple_add PySem.F.slot_tuple_add PySem.F.entry_tuple_add (PySem.F.args_tuple_add_2 _ _)
      (tuple_addW2 t b vs.toArray ws.toArray n n2 dd dd2 sl sl2 (by simpa using hv) (by simpa using hw) (by rw [List.size_toArray, List.size_toArray]; exact hsz)) ⟨ho, ho2, ?_⟩
    rw [e]
    exact h2 hw
noncomputable def sIx (n d : Nat) : Option Int -> Nat
  | none => d
  | some v => if v < 0 then (v + (n : Int)).toNat else min v.toNat n
theorem rK (n d : Nat) : sIx n d none = d := rfl
theorem vE (n d k : Nat) : sIx n d (some (k : Int)) = min k n := by
  show (if (k : Int) < 0 then ((k : Int) + (n : Int)).toNat else min (k : Int).toNat n) = min k n
  rw [if_neg (by omega), Int.toNat_natCast]
theorem DL (n d : Nat) (hd : d <= n) (o : Option Int) : sIx n d o <= n := by
  cases o with
  | none => exact hd
  | some v =>
    show (if v < 0 then (v + (n : Int)).toNat else min v.toNat n) <= n
    by_cases hv : v < 0
    · rw [if_pos hv]; omega
    · rw [if_neg hv]; exact Nat.min_le_right _ _
theorem u2 (v : Int) (n d : Nat) : (if v < 0 then max (v + (n : Int)) 0 else min v (n : Int)) = ((sIx n d (some v) : Nat) : Int) := by
  show (if v < 0 then max (v + (n : Int)) 0 else min v (n : Int)) = (((if v < 0 then (v + (n : Int)).toNat else min v.toNat n) : Nat) : Int)
  by_cases hv : v < 0
  · simp only [if_pos hv]; omega
  · simp only [if_neg hv]; omega
theorem ue (lo hi : Option Int) (n : Nat) : Builtin.Slice.sliceAdjust lo hi 1 (n : Int) = (((sIx n 0 lo : Nat) : Int), ((sIx n n hi : Nat) : Int)) := by
  have h1 : ¬ ((1 : Int) < 0) := by omega
  unfold Builtin.Slice.sliceAdjust
  simp only [h1, if_false]
  refine Prod.ext ?_ ?_
  · cases lo with
    | none => rfl
    | some v => exact u2 v n 0
  · cases hi with
    | none => rfl
    | some v => exact u2 v n n
theorem ui (i j : Nat) : Builtin.Slice.slicePlaces (i : Int) (j : Int) 1 = j - i := by
  unfold Builtin.Slice.slicePlaces
  have h1 : (1 : Int) > 0 := by omega
  simp only [h1, if_true, Int.ediv_one]
  split <;> omega
theorem nE {v : Value} {o : Option Int} {Q : Option Int -> Shared -> Prop} (p : IsPart v o) (h : Q o s) : wpAny (model prog w) A (Builtin.Slice.slicePartIndex v) Q E s := by
  cases p with
  | none => exact slicePart_none h
  | int i t => exact slicePart_int h
theorem gh {sl : Addr} {vl vu : Value} {lo hi : Option Int} {n : Nat} {Q : Int × Int × Nat -> Shared -> Prop} (hs : s.heap.IsSliceOf sl vl vu .none) (pl : IsPart vl lo) (pu : IsPart vu hi)
    (h : Q (((sIx n 0 lo : Nat) : Int), 1, sIx n n hi - sIx n 0 lo) s) : wpAny (model prog w) A (Builtin.Slice.sliceApplied (.ref sl) (pure (n : Int))) Q E s := by
  obtain ⟨os, hos, hcs, hds⟩ := id hs
  unfold Builtin.Slice.sliceApplied Builtin.Slice.sliceFields
  refine wpAny_bind (wpAny_bind (wpAny_field hos hds (x := vl) rfl (wpAny_bind (wpAny_field hos hds (x := vu) rfl (wpAny_bind (wpAny_field hos hds (x := .none) rfl (wpAny_pure ?_)))))))
  refine wpAny_bind (slicePart_none ?_)
  show wpAny _ _ (if ((1 : Int) == 0) = true then _ else _) _ _ s
  rw [if_neg (by decide)]
  refine wpAny_bind (nE pl (wpAny_bind (nE pu (wpAny_bind (wpAny_pure ?_)))))
  show wpAny _ _ (match Builtin.Slice.sliceAdjust lo hi 1 (n : Int) with | (lo, hi) => pure (lo, (1 : Int), Builtin.Slice.slicePlaces lo hi 1)) _ _ s
  rw [ue lo hi n]
  show wpAny _ _ (pure (((sIx n 0 lo : Nat) : Int), (1 : Int), Builtin.Slice.slicePlaces ((sIx n 0 lo : Nat) : Int) ((sIx n n hi : Nat) : Int) 1)) _ _ s
  rw [ui]
  exact wpAny_pure h
theorem yH (xs : Array Value) (i k : Nat) : ((List.range k).filterMap fun (m : Nat) => xs[((i : Int) + (m : Int) * 1).toNat]?).toArray = ((xs.toList.drop i).take k).toArray := by
  have e : (fun (m : Nat) => xs[((i : Int) + (m : Int) * 1).toNat]?) = fun m => xs[i + m]? := by
    funext m
    have : ((i : Int) + (m : Int) * 1).toNat = i + m := by omega
    rw [this]
  rw [e]
  have := pick_run xs i k
  rw [List.filterMap_map] at this
  have e2 : ((fun x => xs[x]?) ∘ fun x => i + x) = fun m => xs[i + m]? := rfl
  rw [e2] at this
  rw [this]
theorem j9 {t sl : Addr} {items : Array Value} {vl vu : Value} {lo hi : Option Int} {Q : Value -> Shared -> Prop} (ht : IsTup s.heap t items) (hs : s.heap.IsSliceOf sl vl vu .none) (pl : IsPart vl lo) (pu : IsPart vu hi)
    (hw : ¬ (sIx items.size 0 lo = 0 /\ sIx items.size items.size hi = items.size))
    (h : Q (.ref s.heap.objs.size) { s with heap := s.heap.push { cls := .type "tuple", data := .seq ((items.toList.drop (sIx items.size 0 lo)).take (sIx items.size items.size hi - sIx items.size 0 lo)).toArray } })
    (hsz : items.size <= sizeLine) : wpAny (model prog w) A (getItem (.ref t) (.ref sl)) Q E s := by
  have htake : sizeOk (.seq ((items.toList.drop (sIx items.size 0 lo)).take (sIx items.size items.size hi - sIx items.size 0 lo)).toArray) := by
    show ((items.toList.drop (sIx items.size 0 lo)).take (sIx items.size items.size hi - sIx items.size 0 lo)).toArray.size <= sizeLine
    rw [List.size_toArray, List.length_take, List.length_drop, Array.length_toList]
    omega
  have hj : sIx items.size items.size hi <= items.size := DL _ _ (Nat.le_refl _) hi
  obtain ⟨os, hos, hcs, hds⟩ := id hs
  have hTs : s.TypeIs (.ref sl) "slice" := ⟨os, hos, hcs⟩
  unfold getItem
  try with_reducible refine wpAny_holding ?_
  first | refine wpAny_bind (wpAny_pure ?_) | skip
  refine wpAny_bind (wpAny_sequenceKey ht.typeIs (by decide) ?_)
  refine wpAny_bind (wpAny_callSpecial?_slot (name := Str.ofString "__getitem__") ht.typeIs PyProof.Rows.slot_tuple_getitem
    (wpAny_call_entry PyProof.Rows.slot_tuple_getitem ht.typeIs entry_tuple_getitem ?_ (args_tuple_getitem _ _)))
  show wpAny _ _ (Builtin.Tuple.tupleItemsOf (.ref t) >>= _) _ _ s
  refine wpAny_bind (tupleItemsOf_ ht ?_)
  refine wpAny_bind (wpAny_typeOf hTs ?_)
  rw [if_pos (by decide)]
  refine wpAny_bind (gh hs pl pu ?_)
  have hno : ¬ ((((sIx items.size 0 lo : Nat) : Int) == 0 && (1 : Int) == 1 && (sIx items.size items.size hi - sIx items.size 0 lo) == items.size) = true) := by
    intro q
    rw [Bool.and_eq_true, Bool.and_eq_true] at q
    have q1 : ((sIx items.size 0 lo : Nat) : Int) = 0 := eq_of_beq q.1.1
    have q2 : sIx items.size items.size hi - sIx items.size 0 lo = items.size := eq_of_beq q.2
    exact hw ⟨by omega, by omega⟩
  show wpAny _ _ (if (((sIx items.size 0 lo : Nat) : Int) == 0 && (1 : Int) == 1 && (sIx items.size items.size hi - sIx items.size 0 lo) == items.size) = true then _ else _) _ _ s
  rw [if_neg hno, yH]
  first
    | exact wpAny_bind (m := Builtin.Tuple.tupleExact _) (wpAny_newObj_type (wpAny_pure ⟨_, rfl, wpAny_pure h⟩) htake)
    | exact wpAny_bind (m := Builtin.Tuple.tupleExact _) (wpAny_newObj_type (wpAny_bind (wpAny_pure (wpAny_pure ⟨_, rfl, wpAny_pure h⟩))) htake)
    | exact wpAny_bind (wpAny_bind (m := Builtin.Tuple.tupleExact _) (wpAny_newObj_type (wpAny_pure (wpAny_pure ⟨_, rfl, wpAny_pure h⟩)) htake))
    | exact wpAny_bind (wpAny_bind (m := Builtin.Tuple.tupleExact _) (wpAny_newObj_type (wpAny_pure ⟨_, rfl, wpAny_pure h⟩) htake))
end
end HT
namespace L2
open PySem PySem.Spec PyProof.Rows
noncomputable abbrev TO := St -> Hp -> (Option Int -> Hp -> Prop) -> Prop
noncomputable def PO (X : Cx) (e : Option Expr) (t : TO) : Prop :=
  ∀ (pins : List (Addr × Obj)) (s : Shared) (σ : St) (H : Hp) (Q : Option Int -> Hp -> Prop), Inv X pins σ H s -> t σ H Q →
    wpAny (model X.prog X.w) X.A (evalPart e X.env) (fun u s' => ∃ o H', Inv X pins σ H' s' /\ IsPart u o /\ Q o H') X.xe s
noncomputable def Bk : TO := fun _ H Q => Q none H
noncomputable def DO (t : TE) : TO := fun σ H Q => t σ H fun x H1 => ∃ i, x = .int i /\ Q (some i) H1
theorem intsAre_of {ns : List Int} : ∀ {us : List Value}, Vals (ns.map V.int) us -> IntsAre us ns := by
  induction ns with
  | nil => intro us r; rw [List.map_nil] at r; cases r; exact .nil
  | cons n ns ih =>
    intro us r
    rw [List.map_cons] at r
    cases r with
    | cons r1 r2 =>
      obtain ⟨t, e⟩ := r1
      subst e
      exact .cons n t (ih r2)
section
variable {X : Cx} {e : Expr} {te : TE} {lo hi : Option Expr} {tl th : TO} {pos p2 : Pos}
theorem Ad : PO X none Bk := by
  intro pins s σ H Q I h
  rw [evalPart_none]
  exact wpAny_pure ⟨none, H, I, .none, h⟩
theorem BA (h : PE X e te) : PO X (some e) (DO te) := by
  intro pins s σ H Q I hw
  rw [evalPart_some]
  refine thn (h pins s σ H _ I hw) fun u s1 ⟨x, H1, I1, r1, q1⟩ => ?_
  obtain ⟨i, rfl, q⟩ := q1
  obtain ⟨t, rfl⟩ := r1
  exact ⟨some i, H1, I1, .int i t, q⟩
noncomputable def SlR (X : Cx) (r : V -> Option Int -> Option Int -> Hp -> VK -> Prop) : Prop :=
  ∀ (pins : List (Addr × Obj)) (s : Shared) (σ : St) (H : Hp) (x : V) (v vl vu : Value) (lo hi : Option Int) (sl : Addr) (Q : VK), Inv X pins σ H s -> RelV x v -> s.heap.IsSliceOf sl vl vu .none -> IsPart vl lo -> IsPart vu hi -> r x lo hi H Q →
    ∃ T id, typeLookup (.type T) "__getitem__" = pure (some (.builtin id)) /\ s.TypeIs v T /\ wpAny (model X.prog X.w) X.A (getItem v (.ref sl)) (EP X pins σ Q) X.xe s
theorem SlR.or {r r' : V -> Option Int -> Option Int -> Hp -> VK -> Prop} (h : SlR X r) (h' : SlR X r') : SlR X (fun x lo hi H Q => r x lo hi H Q \/ r' x lo hi H Q) := by
  intro pins s σ H x v vl vu lo hi sl Q I rx hs pl pu q
  rcases q with q | q
  · exact h pins s σ H x v vl vu lo hi sl Q I rx hs pl pu q
  · exact h' pins s σ H x v vl vu lo hi sl Q I rx hs pl pu q
noncomputable def tSl (r : V -> Option Int -> Option Int -> Hp -> VK -> Prop) (te : TE) (tl th : TO) : TE := fun σ H Q => te σ H fun x H1 => tl σ H1 fun l H2 => th σ H2 fun u H3 => r x l u H3 Q
theorem xA {r : V -> Option Int -> Option Int -> Hp -> VK -> Prop} (hr : SlR X r) (he : PE X e te) (hl : PO X lo tl) (hu : PO X hi th) : PE X (.Subscript e (.Slice lo hi none p2) pos) (tSl r te tl th) := by
  intro pins s σ H Q I h
  refine Subscript_ (thn (he pins s σ H _ I h) fun v s1 ⟨x, H1, I1, r1, q1⟩ => ?_)
  refine wpAny_Slice (thn (hl pins s1 σ H1 _ I1 q1) fun vl s2 ⟨l, H2, I2, pl, q2⟩ => thn (hu pins s2 σ H2 _ I2 q2) fun vu s3 ⟨u, H3, I3, pu, q3⟩ => ?_)
  rw [evalPart_none]
  refine wpAny_pure ?_
  have I4 : Inv X pins σ H3 { s3 with heap := s3.heap.push { cls := .type "slice", data := .fields #[vl, vu, .none] } } := I3.kept (t' := s3.toks) fun b ob q => Heap.get?_push_of_some _ q
  obtain ⟨T, id, hT, ht, hg⟩ := hr pins { s3 with heap := s3.heap.push { cls := .type "slice", data := .fields #[vl, vu, .none] } } σ H3 x v vl vu l u s3.heap.objs.size Q I4 r1 (Heap.IsSliceOf.new ..) pl pu q3
  show wpAny (model X.prog X.w) X.A (subscriptTail e (.Slice lo hi none p2) v (.ref s3.heap.objs.size)) (EP X pins σ Q) X.xe { s3 with heap := s3.heap.push { cls := .type "slice", data := .fields #[vl, vu, .none] } }
  exact tail_any (ops := [.ref s3.heap.objs.size, v]) ht hT hg (by with_unfolding_all rfl)
noncomputable def oh (xs : List V) (lo hi : Option Int) : List V := (xs.drop (HT.sIx xs.length 0 lo)).take (HT.sIx xs.length xs.length hi - HT.sIx xs.length 0 lo)
theorem lD (xs : List V) (lo hi : Option Int) : (oh xs lo hi).length <= xs.length := by
  unfold oh
  rw [List.length_take, List.length_drop]
  omega
noncomputable def FK (K : PySem.W.Frag) : V -> Option Int -> Option Int -> Hp -> VK -> Prop := fun x lo hi H Q => ∃ a xs, x = .ref a /\ SqT K H a xs ∧
  ¬ (HT.sIx xs.length 0 lo = 0 /\ HT.sIx xs.length xs.length hi = xs.length) /\ ∀ p, H p = none -> Q (.ref p) (upd H p (.tup (oh xs lo hi)))
theorem DJ : SlR X (FK X.K) := by
  intro pins s σ H x v vl vu lo hi sl Q I rx hs pl pu h
  obtain ⟨a, xs, rfl, hx, hw, q⟩ := h
  cases rx
  obtain ⟨its, r, ht, hz⟩ := I.tuple hx
  have hlen : its.toArray.size = xs.length := by rw [List.size_toArray]; exact r.length.symm
  refine ⟨"tuple", _, PyProof.Rows.slot_tuple_getitem.lookup, ht.typeIs, ?_⟩
  refine HT.j9 ht hs pl pu (by rw [hlen]; exact hw) ?_ (by rw [hlen]; exact hz)
  rw [hlen]
  refine ⟨.ref s.heap.objs.size, _, I.laid (t' := s.toks) (o := .tup (oh xs lo hi)) (fun b ob q => Heap.get?_push_of_some _ q) (Nat.le_refl _) ?_, rfl, q _ (I.hok.fresh (Nat.le_refl _))⟩
  exact ⟨Nat.le_trans (lD xs lo hi) hz, _, (r.drop (HT.sIx xs.length 0 lo)).take (HT.sIx xs.length xs.length hi - HT.sIx xs.length 0 lo), lL.new _ _⟩
noncomputable def BD (K : PySem.W.Frag) : R2 := fun x y H Q => ∃ a b xs ys, x = .ref a /\ y = .ref b /\ SqT K H a xs /\ SqT K H b ys /\ xs ≠ [] /\ xs.length + ys.length <= sizeLine ∧
  (ys = [] -> Q (.ref a) H) /\ (ys ≠ [] -> ∀ p, H p = none -> Q (.ref p) (upd H p (.tup (xs ++ ys))))
theorem Vals.qr {xs : List V} {us : List Value} (r : Vals xs us) : us = [] ↔ xs = [] := by
  cases r with
  | nil => simp
  | cons _ _ => simp
theorem Ap : OpR X (binaryOp .Add) (BD X.K) := by
  intro pins s σ H x y v u Q I rx ry h
  obtain ⟨a, b, xs, ys, rfl, rfl, ha, hb, hx, hz, q1, q2⟩ := h
  cases rx
  cases ry
  obtain ⟨its, r1, p1, _⟩ := I.tuple ha
  obtain ⟨its2, r2, p2, _⟩ := I.tuple hb
  refine HT.zV p1 p2 (fun z => hx (r1.qr.mp z)) (fun z => ⟨.ref a, H, I, rfl, q1 (r2.qr.mp z)⟩) (fun z => ?_) (by rw [<- r1.length, <- r2.length]; exact hz)
  refine ⟨.ref s.heap.objs.size, _, I.laid (t' := s.toks) (o := .tup (xs ++ ys)) (fun b ob q => Heap.get?_push_of_some _ q) (Nat.le_refl _) ?_, rfl, q2 (fun w => z (r2.qr.mpr w)) _ (I.hok.fresh (Nat.le_refl _))⟩
  exact ⟨by rw [List.length_append]; exact hz, _, r1.append r2, lL.new _ _⟩
end
noncomputable def ixN (n : Nat) (i : Int) : Option Nat := if 0 <= i then (if i < n then some i.toNat else none) else if -(n : Int) <= i then some (i + n).toNat else none
noncomputable def atI {α : Type} (xs : List α) (i : Int) : Option α := (ixN xs.length i).bind fun j => xs[j]?
theorem vn {n : Nat} {i : Int} {j : Nat} (h : ixN n i = some j) : seqIndex? i n = some j /\ j < n /\ -(n : Int) <= i /\ i < n := by
  unfold ixN at h
  by_cases h0 : 0 <= i
  · rw [if_pos h0] at h
    by_cases h1 : i < n
    · rw [if_pos h1] at h
      have e : i.toNat = j := Option.some.inj h
      exact ⟨by rw [seqIndex_of h0 h1, e], by omega, by omega, h1⟩
    · rw [if_neg h1] at h; cases h
  · rw [if_neg h0] at h
    by_cases h1 : -(n : Int) <= i
    · rw [if_pos h1] at h
      have e : (i + n).toNat = j := Option.some.inj h
      exact ⟨by rw [seqIndex_neg (by omega) h1, e], by omega, h1, by omega⟩
    · rw [if_neg h1] at h; cases h
theorem qq {α : Type} {xs : List α} {i : Int} {v : α} (h : atI xs i = some v) : ∃ j, seqIndex? i xs.length = some j /\ xs[j]? = some v /\ j < xs.length /\ -(xs.length : Int) <= i /\ i < xs.length := by
  unfold atI at h
  cases e : ixN xs.length i with
  | none => rw [e] at h; cases h
  | some j =>
    rw [e] at h
    obtain ⟨h1, h2, h3, h4⟩ := vn e
    exact ⟨j, h1, h, h2, h3, h4⟩
theorem AM {α : Type} {xs : List α} {j : Nat} {v : α} (h : xs[j]? = some v) : atI xs (j : Int) = some v := by
  have hj : j < xs.length := (List.getElem?_eq_some_iff.mp h).1
  have e : ixN xs.length (j : Int) = some j := by
    unfold ixN
    rw [if_pos (by omega), if_pos (by omega)]; simp
  unfold atI; rw [e]; exact h
noncomputable def vk (b : Expr) : Prop := ∀ o i, subscripted b false o i = operate [o, i] (getItem o i)
noncomputable def IxR (X : Cx) (r : R2) : Prop :=
  ∀ (value slice : Expr) (pins : List (Addr × Obj)) (s : Shared) (σ : St) (H : Hp) (x y : V) (v u : Value) (Q : VK), Inv X pins σ H s -> RelV x v -> RelV y u -> r x y H Q →
    subscripted slice false v u = operate [v, u] (getItem v u) -> wpAny (model X.prog X.w) X.A (subscriptTail value slice v u) (EP X pins σ Q) X.xe s
noncomputable def MtR (X : Cx) (id : String) (r : V -> List V -> Hp -> VK -> Prop) : Prop :=
  ∀ (pins : List (Addr × Obj)) (s : Shared) (σ : St) (H : Hp) (x : V) (xs : List V) (v : Value) (us : List Value) (Q : VK), Inv X pins σ H s -> RelV x v -> Vals xs us -> r x xs H Q →
    wpAny (model X.prog X.w) X.A (call (.builtin id) (v :: us)) (EP X pins σ Q) X.xe s
section
variable {X : Cx} {a b : Expr} {ta tb : TE} {pos : Pos}
theorem IxR.or {r r' : R2} (h : IxR X r) (h' : IxR X r') : IxR X (fun x y H Q => r x y H Q \/ r' x y H Q) := by
  intro value slice pins s σ H x y v u Q I rx ry q hs
  rcases q with q | q
  · exact h value slice pins s σ H x y v u Q I rx ry q hs
  · exact h' value slice pins s σ H x y v u Q I rx ry q hs
theorem E6 {r : R2} (hr : IxR X r) (ha : PE X a ta) (hb : PE X b tb) (hs : vk b) : PE X (.Subscript a b pos) (tOp r ta tb) := by
  intro pins s σ H Q I h
  exact Subscript_ (CW ha hb I h fun v u s2 x y H2 I2 rx ry q => hr a b pins s2 σ H2 x y v u Q I2 rx ry q (hs _ _))
noncomputable def DZ (K : PySem.W.Frag) : R2 := fun x y H Q => ∃ p xs i v, x = .ref p /\ y = .int i /\ SqL K H p xs /\ atI xs i = some v /\ Q v H
noncomputable def ET (K : PySem.W.Frag) : R2 := fun x y H Q => ∃ p xs i v, x = .ref p /\ y = .int i /\ SqT K H p xs /\ atI xs i = some v /\ Q v H
noncomputable def E8 : R2 := fun x y H Q => ∃ z i c, x = .str z /\ y = .int i /\ z.length <= sizeLine /\ atI z.cps.toList i = some c /\ Q (.str ⟨#[c]⟩) H
theorem AU : IxR X (DZ X.K) := by
  intro value slice pins s σ H x y v u Q I rx ry h hs
  obtain ⟨p, xs, i, z, rfl, rfl, hq, he, q⟩ := h
  cases rx
  obtain ⟨t, rfl⟩ := ry
  obtain ⟨its, r, pl, hz⟩ := I.list hq
  obtain ⟨j, h1, h2, h3, h4, h5⟩ := qq he
  obtain ⟨w, ew, rw'⟩ := r.get h2
  have hl := r.length
  have hn := jB
  have fin : EP X pins σ Q w s := ⟨z, H, I, rw', q⟩
  by_cases h0 : 0 <= i
  · have hj : i.toNat = j := by
      rw [seqIndex_of h0 h5] at h1
      exact Option.some.inj h1
    exact item_listR pl.isList h0 (by omega) (by rw [hj]; simpa using ew) fin hs
  · have hj : (i + (its.toArray.size : Int)).toNat = j := by
      rw [seqIndex_neg (by omega) h4] at h1
      rw [List.size_toArray, <- hl]
      exact Option.some.inj h1
    exact subscriptTail_builtinR (x := w) pl.isList.typeIs slot_list_getitem.lookup
      (wpAny_getItem_list_neg (Q := fun r s' => r = w /\ EP X pins σ Q r s') pl.isList (by omega) (by rw [List.size_toArray] <;> omega) (by omega) (by rw [hj]; simpa using ew) ⟨rfl, fin⟩) hs
theorem Cc : IxR X (ET X.K) := by
  intro value slice pins s σ H x y v u Q I rx ry h hs
  obtain ⟨p, xs, i, z, rfl, rfl, hq, he, q⟩ := h
  cases rx
  obtain ⟨t, rfl⟩ := ry
  obtain ⟨its, r, pl, hz⟩ := I.tuple hq
  obtain ⟨j, h1, h2, h3, h4, h5⟩ := qq he
  obtain ⟨w, ew, rw'⟩ := r.get h2
  have hl := r.length
  have hn := jB
  have fin : EP X pins σ Q w s := ⟨z, H, I, rw', q⟩
  exact subscriptTail_builtinR (x := w) pl.typeIs slot_tuple_getitem.lookup
    (getItem_tuple (j := j) (Q := fun r s' => r = w /\ EP X pins σ Q r s') pl (by omega) (by omega) (by rw [List.size_toArray, <- hl]; exact h1) (by simpa using ew) ⟨rfl, fin⟩) hs
theorem CV : IxR X E8 := by
  intro value slice pins s σ H x y v u Q I rx ry h hs
  obtain ⟨z, i, c, rfl, rfl, hz, he, q⟩ := h
  obtain ⟨t, rfl⟩ := rx
  obtain ⟨t', rfl⟩ := ry
  obtain ⟨j, h1, h2, h3, h4, h5⟩ := qq he
  have hl : z.cps.toList.length = z.length := by simp [Str.length]
  rw [hl] at h1 h4 h5
  have hn := jB
  exact tail_any (typeIs_str s z t) slot_str_getitem.lookup (getItem_str (c := c) (by
    have e1 : decide (i < -(2 ^ 63 : Int)) = false := decide_eq_false (by omega)
    have e2 : decide (i ≥ 2 ^ 63) = false := decide_eq_false (by omega)
    rw [e1, e2, Bool.or_false]) (by rw [h1]; simpa using h2) ⟨.str ⟨#[c]⟩, H, I.tok _, ⟨_, rfl⟩, q⟩) hs
noncomputable def rIx (K : PySem.W.Frag) : R2 := fun x y H Q => DZ K x y H Q \/ ET K x y H Q \/ E8 x y H Q
theorem ck : IxR X (rIx X.K) := AU.or (Cc.or CV)
theorem uw (its : List Value) (n j : Nat) (u : Value) : Obj.mapSeq (·.setIfInBounds j u) { cls := .type "list", data := .seq its.toArray n } = { cls := .type "list", data := .seq (its.set j u).toArray n } := by
  simp [Obj.mapSeq]
theorem Inv.lst {pins : List (Addr × Obj)} {σ : St} {H : Hp} {s : Shared} {p : Addr} {xs : List V} (I : Inv X pins σ H s) (h : H p = some (.lst xs)) :
    ∃ (its : List Value) (n : Nat), Vals xs its /\ s.heap.get? p = some { cls := .type "list", data := .seq its.toArray n } /\ xs.length <= sizeLine := by
  obtain ⟨z, its, n, r, e⟩ := I.hok p _ h
  exact ⟨its, n, r, e, z⟩
theorem Inv.Cn {pins : List (Addr × Obj)} {σ : St} {H : Hp} {s : Shared} {p : Addr} {xs ys : List V} {its its' : List Value} {n n' : Nat} {f : Obj -> Obj} (I : Inv X pins σ H s) (h : H p = some (.lst xs))
    (ho : s.heap.get? p = some { cls := .type "list", data := .seq its.toArray n }) (hf : f { cls := .type "list", data := .seq its.toArray n } = { cls := .type "list", data := .seq its'.toArray n' }) (r : Vals ys its') (hz : ys.length <= sizeLine) (t : Nat) :
    Inv X pins σ (upd H p (.lst ys)) { s with heap := s.heap.update p f, toks := t } := by
  have e : (s.heap.update p f).get? p = some { cls := .type "list", data := .seq its'.toArray n' } := by
    rw [Heap.get?_update_self f ho (by rw [hf] <;> rfl), hf]
  refine I.write (x := p) (e := p) (by rw [h]; trivial) (.inl rfl) (fun b u hb q => (Heap.get?_update_other _ _ (Ne.symm hb)).trans q) ⟨_, e⟩ ?_
  exact ⟨hz, its', n', r, e⟩
noncomputable def BP : V -> V -> V -> Hp -> (Hp -> Prop) -> Prop := fun o i v H Q => ∃ p xs k j, o = .ref p /\ i = .int k /\ H p = some (.lst xs) /\ ixN xs.length k = some j /\ Q (upd H p (.lst (xs.set j v)))
theorem set_list : Cp X BP := by
  intro pins s σ H o i v ov iv u Q I ro ri rv h
  obtain ⟨p, xs, k, j, rfl, rfl, hp, hj, q⟩ := h
  cases ro
  obtain ⟨t, rfl⟩ := ri
  obtain ⟨its, n, r, ho, hz⟩ := I.lst hp
  obtain ⟨h1, h2, h3, h4⟩ := vn hj
  have hl := r.length
  have hn := jB
  have I' : Inv X pins σ (upd H p (.lst (xs.set j v))) { s with heap := s.heap.update p (Obj.mapSeq (·.setIfInBounds j u)) } :=
    I.Cn hp ho (uw its n j u) (r.set rv j) (by rw [List.length_set]; exact hz) s.toks
  by_cases h0 : 0 <= k
  · have hk : k.toNat = j := by
      rw [seqIndex_of h0 h4] at h1
      exact Option.some.inj h1
    exact PySem.W.ki_setAt ho h0 (by omega) (by rw [List.size_toArray, <- hl]; exact h4) (by rw [hk]; exact ⟨_, I', q⟩)
  · have hk : (k + (its.toArray.size : Int)).toNat = j := by
      rw [seqIndex_neg (by omega) h3] at h1
      rw [List.size_toArray, <- hl]
      exact Option.some.inj h1
    exact PySem.W.ki_setBack ho (by omega) (by rw [List.size_toArray, <- hl]; exact h3) (by omega) (by rw [hk]; exact ⟨_, I', q⟩)
theorem qh (lo hi : Option Int) (n : Nat) : (sliceBounds lo hi none n).1 = ((HT.sIx n 0 lo : Nat) : Int) /\ (sliceBounds lo hi none n).2.1 = ((HT.sIx n n hi : Nat) : Int) /\ (sliceBounds lo hi none n).2.2 = 1 := by
  refine ⟨?_, ?_, rfl⟩
  · cases lo with
    | none => simp [sliceBounds, HT.sIx]
    | some i =>
      simp only [sliceBounds, HT.sIx, Option.getD_none, show (1 : Int) > 0 by decide, if_true]
      by_cases h : i < 0
      · simp only [h, if_true] <;> omega
      · simp only [h, if_false] <;> omega
  · cases hi with
    | none => simp [sliceBounds, HT.sIx]
    | some i =>
      simp only [sliceBounds, HT.sIx, Option.getD_none, show (1 : Int) > 0 by decide, if_true]
      by_cases h : i < 0
      · simp only [h, if_true] <;> omega
      · simp only [h, if_false] <;> omega
theorem n6 (its : List Value) (lo hi : Option Int) : slicePick its.toArray lo hi none = ((its.drop (HT.sIx its.length 0 lo)).take (HT.sIx its.length its.length hi - HT.sIx its.length 0 lo)).toArray := by
  obtain ⟨h1, h2, h3⟩ := qh lo hi its.toArray.size
  unfold slicePick
  rw [h1, h2, h3]
  simp only [sliceRange_one, pick_run, List.size_toArray] <;> rfl
noncomputable def F5 (K : PySem.W.Frag) : V -> Option Int -> Option Int -> Hp -> VK -> Prop := fun x lo hi H Q => ∃ a xs, x = .ref a /\ SqL K H a xs /\ ∀ p, H p = none -> Q (.ref p) (upd H p (.lst (oh xs lo hi)))
theorem AX : SlR X (F5 X.K) := by
  intro pins s σ H x v vl vu lo hi sl Q I rx hs pl pu h
  obtain ⟨a, xs, rfl, hx, q⟩ := h
  cases rx
  obtain ⟨its, r, ht, hz⟩ := I.list hx
  have hlen := r.length
  refine ⟨"list", _, slot_list_getitem.lookup, ht.isList.typeIs, ?_⟩
  refine wpAny_getItem_list_slice ht.isList hs pl pu .none (by simp) ?_ (by rw [List.size_toArray] <;> omega)
  rw [n6, <- hlen]
  refine ⟨.ref s.heap.objs.size, _, I.laid (t' := s.toks) (o := .lst (oh xs lo hi)) (fun b ob q => Heap.get?_push_of_some _ q) (Nat.le_refl _) ?_, rfl, q _ (I.hok.fresh (Nat.le_refl _))⟩
  exact ⟨Nat.le_trans (lD xs lo hi) hz, _, 0, (r.drop (HT.sIx xs.length 0 lo)).take (HT.sIx xs.length xs.length hi - HT.sIx xs.length 0 lo), Heap.get?_push_size _ rfl⟩
noncomputable def jg : V -> Bool
  | .non => true
  | .bl _ => true
  | .int _ => true
  | .str _ => true
  | _ => false
noncomputable def eqV : V -> V -> Bool
  | .non, .non => true
  | .bl a, .bl b => a == b
  | .bl a, .int b => (if a then 1 else 0) == b
  | .int a, .bl b => a == (if b then 1 else 0)
  | .int a, .int b => a == b
  | .str a, .str b => a == b
  | _, _ => false
theorem C7 {A : Around} {s : Shared} {y x : V} {u v : Value} (ry : RelV y u) (rx : RelV x v) (fy : jg y = true) (fx : jg x = true) : SeqAt.EqAt A s u v (eqV y x) := by
  cases y with
  | non =>
    cases ry
    cases x with
    | non => cases rx; exact SeqAt.EqAt.same _
    | bl b => cases rx; exact SeqAt.EqAt.none_bool b
    | int b => obtain ⟨t, rfl⟩ := rx; exact SeqAt.EqAt.none_int b t
    | str b => obtain ⟨t, rfl⟩ := rx; exact SeqAt.EqAt.none_str b t
    | _ => exact absurd (show false = true from fx) Bool.false_ne_true
  | bl a =>
    cases ry
    cases x with
    | non => cases rx; exact SeqAt.EqAt.bool_none a
    | bl b => cases rx; exact SeqAt.EqAt.bool_bool a b
    | int b => obtain ⟨t, rfl⟩ := rx; exact SeqAt.EqAt.bool_int a b t
    | str b => obtain ⟨t, rfl⟩ := rx; exact SeqAt.EqAt.bool_str a b t
    | _ => exact absurd (show false = true from fx) Bool.false_ne_true
  | int a =>
    obtain ⟨t', rfl⟩ := ry
    cases x with
    | non => cases rx; exact SeqAt.EqAt.int_none a t'
    | bl b => cases rx; exact SeqAt.EqAt.int_bool a t' b
    | int b => obtain ⟨t, rfl⟩ := rx; exact SeqAt.EqAt.int_int a t' b t
    | str b => obtain ⟨t, rfl⟩ := rx; exact SeqAt.EqAt.int_str a t' b t
    | _ => exact absurd (show false = true from fx) Bool.false_ne_true
  | str a =>
    obtain ⟨t', rfl⟩ := ry
    cases x with
    | non => cases rx; exact SeqAt.EqAt.str_none a t'
    | bl b => cases rx; exact SeqAt.EqAt.str_bool a t' b
    | int b => obtain ⟨t, rfl⟩ := rx; exact SeqAt.EqAt.str_int a t' b t
    | str b => obtain ⟨t, rfl⟩ := rx; exact SeqAt.EqAt.str_str a t' b t
    | _ => exact absurd (show false = true from fx) Bool.false_ne_true
  | _ => exact absurd (show false = true from fy) Bool.false_ne_true
noncomputable def eqU (x : V) (u : Value) : Bool := match u with
  | .none => eqV .non x
  | .bool b => eqV (.bl b) x
  | .int i _ => eqV (.int i) x
  | .str z _ => eqV (.str z) x
  | _ => false
theorem xy {x y : V} {u : Value} (r : RelV y u) (f : jg y = true) : eqU x u = eqV y x := by
  cases y with
  | non => cases r; rfl
  | bl b => cases r; rfl
  | int i => obtain ⟨t, rfl⟩ := r; rfl
  | str z => obtain ⟨t, rfl⟩ := r; rfl
  | _ => exact absurd (show false = true from f) Bool.false_ne_true
theorem jF {x : V} : ∀ {xs : List V} {us : List Value}, Vals xs us -> xs.all jg = true -> us.any (eqU x) = xs.any fun y => eqV y x
  | _, _, .nil, _ => rfl
  | y :: xs, u :: us, .cons r t, f => by
    rw [List.all_cons, Bool.and_eq_true] at f
    rw [List.any_cons, List.any_cons, xy r f.1, jF t f.2]
theorem iu {A : Around} {s : Shared} {x : V} {v : Value} (rx : RelV x v) (fx : jg x = true) : ∀ {xs : List V} {us : List Value}, Vals xs us -> xs.all jg = true -> ∀ u ∈ us, SeqAt.EqAt A s u v (eqU x u)
  | _, _, .nil, _ => fun u hu => by cases hu
  | y :: xs, u :: us, .cons r t, f => fun u' hu => by
    rw [List.all_cons, Bool.and_eq_true] at f
    rcases List.mem_cons.mp hu with rfl | hu
    · rw [xy r f.1]; exact C7 r rx f.1 fx
    · exact iu rx fx t f.2 u' hu
noncomputable def inV (x : V) (xs : List V) : Bool := xs.any fun y => eqV y x
noncomputable def rIn (K : PySem.W.Frag) (neg : Bool) : R2 := fun x y H Q => ∃ p xs, y = .ref p /\ (SqL K H p xs \/ SqT K H p xs) /\ jg x = true /\ xs.all jg = true /\ Q (.bl (if neg then !inV x xs else inV x xs)) H
theorem oR : OpR X (compareOp .In) (rIn X.K false) := by
  intro pins s σ H x y v u Q I rx ry h
  obtain ⟨p, xs, rfl, hq, fx, fs, q⟩ := h
  cases ry
  rcases hq with hq | hq
  · obtain ⟨its, r, pl, hz⟩ := I.list hq
    refine SeqAt.in_listAt (eqU x) pl.isList (fun w hw => iu rx fx r fs w (by simpa using hw)) ⟨.bl _, H, I, rfl, ?_⟩
    rw [show its.toArray.any (eqU x) = its.any (eqU x) by simp, jF r fs]
    exact q
  · obtain ⟨its, r, pl, hz⟩ := I.tuple hq
    refine SeqAt.in_tupleAt (eqU x) pl (fun w hw => iu rx fx r fs w (by simpa using hw)) ⟨.bl _, H, I, rfl, ?_⟩
    rw [show its.toArray.any (eqU x) = its.any (eqU x) by simp, jF r fs]
    exact q
theorem jE : OpR X (compareOp .NotIn) (rIn X.K true) := by
  intro pins s σ H x y v u Q I rx ry h
  obtain ⟨p, xs, rfl, hq, fx, fs, q⟩ := h
  cases ry
  rcases hq with hq | hq
  · obtain ⟨its, r, pl, hz⟩ := I.list hq
    refine SeqAt.notIn_listAt (eqU x) pl.isList (fun w hw => iu rx fx r fs w (by simpa using hw)) ⟨.bl _, H, I, rfl, ?_⟩
    rw [show its.toArray.any (eqU x) = its.any (eqU x) by simp, jF r fs]
    exact q
  · obtain ⟨its, r, pl, hz⟩ := I.tuple hq
    refine SeqAt.notIn_tupleAt (eqU x) pl (fun w hw => iu rx fx r fs w (by simpa using hw)) ⟨.bl _, H, I, rfl, ?_⟩
    rw [show its.toArray.any (eqU x) = its.any (eqU x) by simp, jF r fs]
    exact q
theorem qE : bK X (.builtin "len") (fun xs H Q => ∃ p ys, xs = [.ref p] /\ (SqL X.K H p ys \/ SqT X.K H p ys) /\ Q (.int ys.length) H) := by
  intro pins s σ H xs us Q I r h
  obtain ⟨p, ys, rfl, hq, q⟩ := h
  obtain ⟨u, rfl, rx⟩ := vals1 r
  cases rx
  have hn := jB
  rcases hq with hq | hq
  · obtain ⟨its, r', pl, hz⟩ := I.list hq
    have hlen := r'.length
    exact Calls.call_len_list pl.isList (by simp only [List.size_toArray] <;> omega) ⟨.int ys.length, H, I.tok _, ⟨s.toks + 1, by rw [List.size_toArray, hlen]⟩, q⟩
  · obtain ⟨its, r', pl, hz⟩ := I.tuple hq
    have hlen := r'.length
    exact len_tuple pl (by simp only [List.size_toArray] <;> omega) ⟨.int ys.length, H, I.tok _, ⟨s.toks + 1, by rw [List.size_toArray, hlen]⟩, q⟩
theorem pW : bK X (.builtin "len") (fun xs H Q => ∃ z, xs = [.str z] /\ z.length <= sizeLine /\ Q (.int z.length) H) := by
  intro pins s σ H xs us Q I r h
  obtain ⟨z, rfl, hz, q⟩ := h
  obtain ⟨u, rfl, t, rfl⟩ := vals1 r
  have hn := jB
  exact len_str (by omega) ⟨.int z.length, H, I.tok _, ⟨_, rfl⟩, q⟩
theorem bK.or {f : Value} {r r' : List V -> Hp -> VK -> Prop} (h : bK X f r) (h' : bK X f r') : bK X f (fun xs H Q => r xs H Q \/ r' xs H Q) := by
  intro pins s σ H xs us Q I rs q
  rcases q with q | q
  · exact h pins s σ H xs us Q I rs q
  · exact h' pins s σ H xs us Q I rs q
theorem eh : bK X (.type "tuple") (fun xs H Q => ∃ p ys, xs = [.ref p] /\ ((SqL X.K H p ys /\ ∀ l, H l = none -> Q (.ref l) (upd H l (.tup ys))) \/ (SqT X.K H p ys /\ Q (.ref p) H))) := by
  intro pins s σ H xs us Q I r h
  obtain ⟨p, ys, rfl, h⟩ := h
  obtain ⟨u, rfl, rx⟩ := vals1 r
  cases rx
  rcases h with ⟨hq, q⟩ | ⟨hq, q⟩
  · obtain ⟨its, r', pl, hz⟩ := I.list hq
    have hlen := r'.length
    refine call_tuple_list pl.isList (fun h' kp => ?_) (by simp only [List.size_toArray] <;> omega)
    have I1 : Inv X pins σ H { s with heap := h' } := I.kept (t' := s.toks) kp
    have I2 : Inv X pins σ (upd H h'.objs.size (.tup ys)) { s with heap := h'.push { cls := .type "tuple", data := .seq its.toArray } } :=
      I1.laid (t' := s.toks) (fun b o e => Heap.get?_push_of_some _ e) (Nat.le_refl _) (show bC X.prog X.w _ _ _ (.tup ys) from ⟨hz, its, r', lL.new _ _⟩)
    exact ⟨.ref h'.objs.size, _, I2, rfl, q _ (I1.hok.fresh (Nat.le_refl _))⟩
  · obtain ⟨its, r', pl, hz⟩ := I.tuple hq
    exact call_tuple_same pl ⟨.ref p, H, I, rfl, q⟩
noncomputable def tyV (K : PySem.W.Frag) (T : String) (x : V) (H : Hp) : Prop := match x with
  | .str _ => T = "str"
  | .int _ => T = "int"
  | .ref p => (T = "list" /\ ∃ xs, SqL K H p xs) \/ (T = "tuple" /\ ∃ o, K.lookup p = some o /\ o.cls = .type "tuple" /\ o.dict = none) ∨
      (T = "dict" /\ ((∃ kvs, H p = some (.dK kvs)) \/ ∃ kvs, H p = some (.dT kvs))) \/ (T = "set" /\ ∃ S n, H p = some (.set S n)) \/ (T = "tuple" /\ ∃ xs, H p = some (.tup xs))
  | _ => False
theorem Cr {pins : List (Addr × Obj)} {σ : St} {H : Hp} {s : Shared} {T : String} {x : V} {v : Value} (I : Inv X pins σ H s) (r : RelV x v) (ty : tyV X.K T x H) :
    s.TypeIs v T /\ ∀ a, v = .ref a -> ∃ ob, s.heap.get? a = some ob /\ ob.dict = none := by
  cases x with
  | str z =>
    obtain ⟨t, rfl⟩ := r
    cases (show T = "str" from ty)
    exact ⟨typeIs_str s z t, fun _ e => nomatch e⟩
  | int i =>
    obtain ⟨t, rfl⟩ := r
    cases (show T = "int" from ty)
    exact ⟨typeIs_int s i t, fun _ e => nomatch e⟩
  | ref p =>
    cases r
    rcases ty with ⟨rfl, xs, hq⟩ | ⟨rfl, o, hk, hc, hd⟩ | ⟨rfl, hk⟩ | ⟨rfl, S, n, hk⟩ | ⟨rfl, xs, hk⟩
    · obtain ⟨its, _, pl, _⟩ := I.list hq
      refine ⟨pl.isList.typeIs, fun a e => ?_⟩
      cases e
      obtain ⟨o, n, e, c, hd, _⟩ := pl
      exact ⟨o, e, hd⟩
    · refine ⟨⟨o, I.kIn p o hk, hc⟩, fun a e => ?_⟩
      cases e
      exact ⟨o, I.kIn _ o hk, hd⟩
    · have z : ∃ o, s.heap.get? p = some o /\ o.ExactDict := by
        rcases hk with ⟨kvs, hk⟩ | ⟨kvs, hk⟩
        · obtain ⟨_, _, _, _, o, _, _, e, ex, _⟩ := I.hok p _ hk
          exact ⟨o, e, ex⟩
        · obtain ⟨_, _, _, _, o, _, _, e, ex, _⟩ := I.hok p _ hk
          exact ⟨o, e, ex⟩
      obtain ⟨o, e, ex⟩ := z
      refine ⟨⟨o, e, ex.1⟩, fun a e2 => ?_⟩
      cases e2
      exact ⟨o, e, ex.2.1⟩
    · obtain ⟨o, _, _, _, e, ex, _⟩ := I.hok p _ hk
      refine ⟨⟨o, e, ex.1⟩, fun a e2 => ?_⟩
      cases e2
      exact ⟨o, e, ex.2.1⟩
    · obtain ⟨_, _, _, o, e, ⟨c, _⟩, hd⟩ := I.hok p _ hk
      refine ⟨⟨o, e, c⟩, fun a e2 => ?_⟩
      cases e2
      exact ⟨o, e, hd⟩
  | _ => exact False.elim ty
noncomputable def tBM (K : PySem.W.Frag) (T : String) (r : V -> List V -> Hp -> VK -> Prop) (to : TE) (t : TA) : TE := fun σ H Q => to σ H fun x H1 => tyV K T x H1 /\ t σ H1 fun xs H2 => r x xs H2 Q
variable {o e : Expr} {es : List Expr} {to : TE} {t : TA} {name : Str} {apos cpos : Pos} {T id : String} {r : V -> List V -> Hp -> VK -> Prop}
theorem Ep (pa : PlainAttrs T) (slot : Slot T name id) (hty : typeOf (.builtin id) = pure (.type "method_descriptor")) (hm : MtR X id r) (ho : PE X o to) (ha : PA X (e :: es) t)
    (hbase : attributeBase o name X.env (eval o X.env) = eval o X.env := by rfl)
    (hfew : ((backTo cpos (starEach (e :: es) X.env)).all (fun x => !x.1) && (backToKw cpos (keywordEach [] X.env)).all (fun x => x.1.isSome)
      && decide ((e :: es).length + ([] : List Keyword).length + (if ([] : List Keyword).isEmpty then 0 else 1) < 30)) = true := by rfl)
    (hline : (apos.endLine == cpos.line) = true := by rfl) (hs : starEach (e :: es) X.env = (false, eval e X.env) :: starEach es X.env := by rfl) (hplain : (backTo cpos (starEach es X.env)).any (·.1) = false := by rfl) :
    PE X (.Call (.Attribute o name apos) (e :: es) [] cpos) (tBM X.K T r to t) := by
  intro pins s σ H Q I h
  refine wpAny_Call_method_late hbase hfew hline rfl (thn (ho pins s σ H _ I h) fun v s1 ⟨x, H1, I1, r1, ty, q1⟩ => ?_)
  obtain ⟨h1, h2⟩ := Cr I1 r1 ty
  refine ⟨T, id, pa, slot, hty, h1, h2, ?_⟩
  have hA := ha cpos pins s1 σ H1 _ I1 q1
  rw [hs] at hA ⊢
  refine Calls.callWith_builtin (by show (false || (backTo cpos (starEach es X.env)).any (·.1)) = false; rw [hplain] <;> rfl) (Calls.evalArgs_plain ?_)
  exact thn hA fun us s2 ⟨vs, H2, I2, r2, q2⟩ => hm pins s2 σ H2 x vs v us Q I2 r1 r2 q2
/- xs.append(e), list.index on a module's tuple .. are MtR facts of 06m -/
end
noncomputable def MtM (X : Cx) (id : String) (r : V -> List V -> Hp -> VK -> Prop) : Prop :=
  ∀ (pins : List (Addr × Obj)) (s : Shared) (σ : St) (H : Hp) (x : V) (xs : List V) (v : Value) (us : List Value) (Q : VK), Inv X pins σ H s -> RelV x v -> Vals xs us -> r x xs H Q →
    wpAny (model X.prog X.w) X.A (call (.builtin id) (v :: us)) (EP X pins σ Q) X.xe s
theorem Vals.one : ∀ {x : V} {us : List Value}, Vals [x] us -> ∃ u, us = [u] /\ RelV x u
  | _, _, .cons r .nil => ⟨_, rfl, r⟩
theorem Vals.rep {xs : List V} {us : List Value} (h : Vals xs us) : ∀ k : Nat, Vals (List.replicate k xs).flatten (List.replicate k us).flatten
  | 0 => .nil
  | k + 1 => by
    rw [List.replicate_succ, List.replicate_succ, List.flatten_cons, List.flatten_cons]
    exact Vals.append h (Vals.rep h k)
theorem foldl_rep (its : List Value) : ∀ (k : Nat) (acc : List Value),
    List.foldl (fun x1 x2 => x1 ++ x2) acc.toArray (List.replicate k its.toArray) = (acc ++ (List.replicate k its).flatten).toArray
  | 0, acc => by simp
  | k + 1, acc => by
    have e : acc.toArray ++ its.toArray = (acc ++ its).toArray := by simp
    have e2 : (acc ++ its) ++ (List.replicate k its).flatten = acc ++ (List.replicate (k + 1) its).flatten := by
      rw [List.replicate_succ, List.flatten_cons, List.append_assoc]
    rw [<- e2, <- foldl_rep its k (acc ++ its), <- e, List.replicate_succ, List.foldl_cons]
section
variable {X : Cx} {pins : List (Addr × Obj)} {σ : St} {H : Hp} {s : Shared} {l b : Addr} {xs ys zs : List V}
theorem Inv.Dx {its its' : List Value} {n : Nat} {f : Array Value -> Array Value} {t' : Nat} (I : Inv X pins σ H s) (hH : H l = some (.lst xs))
    (e : s.heap.get? l = some { cls := .type "list", data := .seq its.toArray n }) (hf : f its.toArray = its'.toArray) (hv : Vals ys its') (hz : ys.length <= sizeLine) :
    Inv X pins σ (upd H l (.lst ys)) { s with heap := s.heap.update l (Obj.mapSeq f), toks := t' } := by
  have q := PySem.IsL.update e f
  rw [hf] at q
  refine I.write (x := l) (e := l) (by rw [hH]; exact trivial) (.inl rfl) (fun b' u hb hu => (Heap.get?_update_other s.heap (Obj.mapSeq f) (Ne.symm hb)).trans hu) ⟨_, q⟩ ?_
  exact ⟨hz, its', _, hv, q⟩
theorem Inv.Ds {its : List Value} {t' : Nat} (I : Inv X pins σ H s) (hv : Vals ys its) (hz : ys.length <= sizeLine) :
    Inv X pins σ (upd H s.heap.objs.size (.lst ys)) { s with heap := s.heap.push { cls := .type "list", data := .seq its.toArray }, toks := t' } :=
  I.laid (fun _ _ q => Heap.get?_push_of_some _ q) (Nat.le_refl _) ⟨hz, its, 0, hv, Heap.get?_push_size _ rfl⟩
theorem Inv.fresh (I : Inv X pins σ H s) : H s.heap.objs.size = none := I.hok.fresh (Nat.le_refl _)
theorem Inv.Cw (I : Inv X pins σ H s) (hH : H l = some (.lst xs)) : xs.length <= sizeLine /\ ∃ (its : List Value) (n : Nat), Vals xs its /\ xs.length = its.length /\ s.heap.get? l = some { cls := .type "list", data := .seq its.toArray n } := by
  obtain ⟨z, its, n, r, e⟩ := I.hok l _ hH
  exact ⟨z, its, n, r, r.length, e⟩
theorem rB {n : Nat} (h : n <= sizeLine) : Builtin.List.listTooLong n = false := by
  unfold Builtin.List.listTooLong
  exact decide_eq_false (by omega)
end
section
variable {X : Cx}
noncomputable def vf : V -> List V -> Hp -> VK -> Prop := fun x vs H Q => ∃ l xs y, x = .ref l /\ vs = [y] /\ H l = some (.lst xs) /\ xs.length < sizeLine /\ Q .non (upd H l (.lst (xs ++ [y])))
theorem oU : MtM X "list.append" vf := by
  intro pins s σ H x vs v us Q I rx rv h
  obtain ⟨l, xs, y, rfl, rfl, hH, hz, q⟩ := h
  cases rx
  obtain ⟨u, rfl, ru⟩ := rv.one
  obtain ⟨z, its, n, r, hl, e⟩ := I.Cw hH
  refine call_meets F.slot_list_append ⟨_, e, rfl⟩ F.entry_list_append (F.args_list_append_2 _ _) (PySem.list_append l its.toArray n u (by rw [List.size_toArray]; omega)) ⟨e, ?_⟩
  refine ⟨.non, _, I.Dx (its' := its ++ [u]) hH e (by simp) (r.append (.cons ru .nil)) ?_, rfl, q⟩
  rw [List.length_append, List.length_singleton]
  omega
theorem len_rep {α : Type} (xs : List α) (k : Nat) : (List.replicate k xs).flatten.length = k * xs.length := by
  induction k with
  | zero => simp
  | succ k ih => rw [List.replicate_succ, List.flatten_cons, List.length_append, ih, Nat.succ_mul, Nat.add_comm]
end
end L2
namespace Att
open PySem PySem.W PySem.Calls PyProof.Rows
theorem lO {P : Params} {h : Heap} : ∀ (ns : List Int) (vs : List Value), WellAll P h vs (ns.map WData.int) -> IntsAre vs ns := by
  intro ns
  induction ns with
  | nil =>
    intro vs w
    rw [List.map_nil] at w
    cases w
    exact .nil
  | cons n ns ih =>
    intro vs w
    rw [List.map_cons] at w
    cases w with
    | cons a b =>
      cases a
      exact .cons _ _ (ih _ b)
theorem wU {l : OpenLaw} {n : Nat} (hn : l.most = some n) {P : Params} {h : Heap} {args : List WData} {vals : List Value}
    (hpre : l.row.toRowW.claim.pre args = true) (hwl : WellAll P h vals args) :
    ∃ a vs ns, vals = [Value.ref a] /\ args = [WData.list (ns.map WData.int)] /\ h.get? a = some { cls := .type "list", data := .seq vs.toArray } /\ IntsAre vs ns /\ ns.length <= n := by
  have hsh : WShape.hasAll [] args [.list .int] = true := (pre_splitW hpre).1
  have hc : l.pre.holds [] { args := args } = true := (pre_splitW hpre).2
  obtain ⟨d, r, rfl, h1, h2⟩ := hasAllW_cons hsh
  obtain rfl := hasAllW_nil h2
  obtain ⟨xs, rfl, h3⟩ := hasW_list h1
  obtain ⟨ns, rfl⟩ := items_int h3
  have hlen : ns.length <= n := by
    unfold OpenLaw.pre at hc
    have h4 : (WTm.not (.lt (.lit (.int (n : Int))) (.len (.arg 0)))).holds [] { args := [.list (ns.map .int)] } = true := by
      have h4 := (holds_andW hc).1
      rw [hn] at h4
      exact h4
    have h5 := condW_of h4 (w_not (w_lt w_lit (w_len_list (w_arg rfl))))
    rw [List.length_map] at h5
    refine Nat.le_of_not_lt fun q => ?_
    have q' : (n : Int) < ((ns.length : Nat) : Int) := by omega
    first
      | (rw [decide_eq_true q'] at h5; exact absurd h5 (by decide))
      | (simp at h5; omega)
  cases hwl with
  | cons w1 w2 =>
    cases w2
    cases w1 with
    | list ho hall => exact ⟨_, _, ns, rfl, rfl, ho, lO ns _ hall, hlen⟩
theorem wB (l : OpenLaw) (args : List WData) : l.row.toRowW.claim.post args (.bool true) args = true :=
  postW_of (r := l.row.toRowW) (X := (true == true))
    (show WShape.has [] (.bool true) .bool = true by first | rfl | decide | simp [WShape.has, WShape.arms, WShape.armsAll])
    (show (WTm.eq .res (.lit (.bool true))).value [] { args := args, res := some (.bool true), after := args } = some (.bool (true == true)) from w_eq_bool (w_res rfl) w_lit) rfl
theorem rL {l : OpenLaw} {n : Nat} {q : Program} {loose : List Str} {XP : (Str -> Option Value) -> Heap -> Prop} {YP : World -> Heap -> Prop} {d : DefRec}
    (hn : l.most = some n) (hdf : d.params.defaults = [])
    (call : ∀ (w : World) (aM s₁ : Shared) (mg mb : Str -> Option Value) (fa : Addr) (o : Obj) (pm cd doc : Value) (a : Addr) (vs : List Value) (ns : List Int),
      Ground q loose [] XP w aM mg mb s₁.heap -> YP w s₁.heap →
      s₁.heap.get? fa = some o -> o.data = .func (docDef d.name d.params d.body d.scope pm cd doc) -> s₁.heap.CodeRec cd d.name -> mg d.name = some (.ref fa) →
      s₁.heap.get? a = some { cls := .type "list", data := .seq vs.toArray } -> IntsAre vs ns -> ns.length <= n -> s₁.gens = #[] →
      codeAny (model l.prog w) callerA (.call (.ref fa) ⟨[.ref a], []⟩) (fun r s' => r = .ok (.ret (.bool true)) /\ OldK s₁.heap s'.heap /\ s'.os = s₁.os /\ AllBare s'.gens) s₁) :
    WalkO q loose XP YP l.row.toRowW d [] (fun f vs => PySem.call f vs) := by
  intro w aM s₁ mg mb G Y fa o pm cd doc dV kV ho hd hcd hD hmg hg args vals as hpre hlay hrd hwl hlo
  obtain rfl : dV = .none := Dflts.none hD hdf
  obtain rfl : kV = .none := Dflts.noKw hD
  obtain ⟨a, vs, ns, rfl, rfl, hobj, hints, hlen⟩ := wU hn hpre hwl
  refine enter_call (codeAny_mono (call w aM s₁ mg mb fa o pm cd doc a vs ns G Y ho (fd_plain hd) hcd hmg hobj hints hlen hg) fun r s' hq => ?_)
  obtain ⟨rfl, h2, h3, h4⟩ := hq
  exact ⟨.inl ⟨.bool true, .bool true, [], rfl, fun _ => rfl, .bool true, wB l _, fun _ => ⟨List.Pairwise.nil, fun _ hm => (nomatch hm)⟩⟩, h2, h3, h4⟩
end Att
namespace L2
open PySem PySem.Spec PyProof.Rows
theorem o4 : ∀ {vs : List Value} {ns : List Int}, IntsAre vs ns -> Vals (ns.map V.int) vs
  | _, _, .nil => .nil
  | _, _, .cons n t h => .cons ⟨t, rfl⟩ (o4 h)
noncomputable def F9 (H : Hp) : Prop := ∀ b, H b = none \/ ∃ o xs, H b = some (.frz o (.lst xs))
end L2
/- THE LAST THEOREM (shape; LID, My.* are yours):
   My.Adr: a structure of the addresses that your layer names (classes, functions); My.Txt K t: a structure (Prop) of the equations over K;
   My.txt_mk : {K} {implicit addresses ..} (e1 : nsIn K mainGlobals "law" = some (some (.ref f))) (e2 : K.lookup f = some ⟨oc, od, .func (fnOf "law" "law" params body scope dV kV doc pm an cdv ct), sl⟩) (e3 : codeIn K cdv "law" = true) .. : ∃ t, My.Txt K t
(the tactic k_is has no namespace: write k_is) -/
namespace L2
open PySem PySem.Spec PyProof.Rows
noncomputable def gM (s : Stmt) : Arguments := match s with
  | .FunctionDef _ a _ _ _ _ _ _ _ _ => a
  | _ => { posonlyargs := [], args := [], vararg := none, kwonlyargs := [], kw_defaults := [], kwarg := none, defaults := [] }
noncomputable def cZ (s : Stmt) : List Stmt := match s with
  | .FunctionDef _ _ b _ _ _ _ _ _ _ => b
  | _ => []
noncomputable def ao (s : Stmt) : Scope := match s with
  | .FunctionDef _ _ _ _ _ _ sc _ _ _ => sc
  | _ => { kind := .function, names := [], isGenerator := false, isCoroutine := false }
noncomputable abbrev CX0 : CXT := fun _ _ _ _ _ _ => False
noncomputable abbrev E0 : XK := fun _ _ _ => False
theorem Fg {X : Cx} : Passes CX0 X E0 := fun _ _ _ _ _ _ _ h => h.elim
structure Fun (K : PySem.W.Frag) (x qual : Str) (st : Stmt) (f : Addr) (fd : FuncData) : Prop where
  ex : ∃ (oc : Value) (od : Option Addr) (kV doc pm : Value) (an : Option Addr) (cdv ct : Value) (osl : Array (Option Value)),
    fd = PySem.W.fnOf x qual (gM st) (cZ st) (ao st) .none kV doc pm an cdv ct /\ K.lookup f = some ⟨oc, od, .func fd, osl⟩ /\ PySem.W.codeIn K cdv qual = true
  kp : PySem.W.keepIn K (.ref f) = true
section
variable {P : Program} {w : World} {K : PySem.W.Frag} {mg : Str -> Option Value} {base : Heap}
theorem Fun.ok {x qual : Str} {st : Stmt} {f : Addr} {fd : FuncData} {N ps : List Str} {k : Nat} {sp : Sp} (F : Fun K x qual st f fd) (S : aL N ps (ao st)) (len : ∀ vs H Q E, sp vs H Q E -> vs.length = ps.length)
    (hbody : ∀ (cdv : Value) (A : Around) (outer : List Env) (s : Shared) (H : Hp) (vs : List V) (Q : VK) (E : XK), eV k (A.deeper (envOfC qual (ao st) s.heap.objs.size f cdv)) -> sp vs H Q E →
      ∃ t, PSs (jq CX0 P w K mg base N qual (ao st) f cdv A outer s H E).nox (cZ st) t /\ t { nx := fun _ H' => Q .non H', rt := Q } (start N vs) H) : df P w K mg base CX0 (k + 1) f fd ps sp := by
  obtain ⟨oc, od, kV, doc, pm, an, cdv, ct, osl, rfl, lk, hcd⟩ := F.ex
  refine D3 lk hcd S len fun A outer s H vs Q E hr hsp => ?_
  obtain ⟨t, h, q⟩ := hbody cdv A outer s H vs Q E hr hsp
  exact ⟨t, h.nox, q⟩
theorem Fun.binds {x qual : Str} {st : Stmt} {f : Addr} {fd : FuncData} {ps : List Str} (F : Fun K x qual st f fd)
    (h : ∀ (kV doc pm : Value) (an : Option Addr) (cdv ct : Value) (us : List Value), us.length = ps.length -> bindArgs (PySem.W.fnOf x qual (gM st) (cZ st) (ao st) .none kV doc pm an cdv ct) ⟨us, []⟩ = pure (ps.zip us)) : Binds K fd ps [] := by
  obtain ⟨oc, od, kV, doc, pm, an, cdv, ct, osl, rfl, lk, hcd⟩ := F.ex
  exact .all (h kV doc pm an cdv ct)
theorem x_ {x qual : Str} {st : Stmt} {f : Addr} {oc : Value} {od an : Option Addr} {osl : Array (Option Value)} {kV doc pm cdv ct : Value} (l : K.lookup f = some ⟨oc, od, .func (PySem.W.fnOf x qual (gM st) (cZ st) (ao st) .none kV doc pm an cdv ct), osl⟩)
    (c : PySem.W.codeIn K cdv qual = true) (k : PySem.W.keepIn K (.ref f) = true) : Fun K x qual st f (PySem.W.fnOf x qual (gM st) (cZ st) (ao st) .none kV doc pm an cdv ct) := ⟨⟨oc, od, kV, doc, pm, an, cdv, ct, osl, rfl, l, c⟩, k⟩
end
noncomputable def PTs (X : Cx) (ifs : List Expr) (t : TT) : Prop :=
  ∀ (pins : List (Addr × Obj)) (s : Shared) (σ : St) (H : Hp) (Q : Bool -> Hp -> Prop), Inv X pins σ H s -> t σ H Q →
    wpAny (model X.prog X.w) X.A (forIn ifs true fun c r => if r = true then do let ok ← isTrue c X.env (eval c X.env); pure (ForInStep.yield ok) else pure (ForInStep.yield r)) (TP X pins σ Q) X.xe s
noncomputable def Fh : TT := fun _ H Q => Q true H
theorem Bo {X : Cx} : PTs X [] Fh := fun _ _ _ H _ I h => wpAny_tests_nil ⟨H, I, h⟩
theorem BB {X : Cx} {c : Expr} {t : TT} (h : PT X c t) : PTs X [c] t := fun pins s σ H Q I q => wpAny_tests_one (h pins s σ H Q I q)
theorem rY {prog : Program} {w : World} {A : Around} {R : Result -> Shared -> Prop} {s : Shared} {elt target iter : Expr} {ifs : List Expr} {scope : Scope} {pos : Pos} {it acc : Value} {env : Env} (I : Nat -> Shared -> Prop)
    (turn : ∀ n s, I n s -> wpAny (model prog w) A (pyNext it) (fun r s₁ => match r with
      | none => R (.ok .next) s₁
      | some v => wpAny (model prog w) A (letOwnedTupleGo target it v) (fun _ s₁ => wpAny (model prog w) A (assign target env v) (fun _ s₂ =>
          wpAny (model prog w) A (forIn ifs true fun c r => if r = true then do let ok ← isTrue c env (eval c env); pure (ForInStep.yield ok) else pure (ForInStep.yield r)) (fun ok s₃ =>
            if ok = true then wpAny (model prog w) A (eval elt env) (fun x s₄ =>
              wpAny (model prog w) A (call (.builtin "list.append") [acc, x]) (fun _ s₅ => ∃ m, m < n /\ I m s₅) (fun _ _ => False) s₄) (fun _ _ => False) s₃
            else ∃ m, m < n /\ I m s₃) (fun _ _ => False) s₂) (fun _ _ => False) s₁) (fun _ _ => False) s₁) (fun _ _ => False) s)
    (n : Nat) (h : I n s) :
    codeAny (model prog w) A (.compLoop (.ListComp elt [⟨target, iter, ifs, 0⟩] scope pos) 0 it acc env) R s := by
  refine codeAny_loop rfl I (fun n s hI => ?_) n h
  show wpAny _ A ((compTurn (.ListComp elt [⟨target, iter, ifs, 0⟩] scope pos) 0 it acc env).onRaise (fun x => do noteFrame x env; theTreesLotGoes x)) _ _ s
  refine wpAny_noted ?_
  rw [compTurn_list]
  refine wpAny_noRaise ?_
  refine wpAny_bind (wpAny_standAt (wpAny_bind (wpAny_mono (turn n s hI) (fun r s₁ h₁ => ?_) fun _ _ h' => h')))
  cases r with
  | none => exact wpAny_pure h₁
  | some v =>
    refine wpAny_bind (wpAny_mono h₁ (fun _ s₁' h₁' => ?_) fun _ _ h' => h')
    refine wpAny_bind (wpAny_mono h₁' (fun _ s₂ h₂ => wpAny_bind (wpAny_mono h₂ (fun ok s₃ h₃ => ?_) fun _ _ h' => h')) fun _ _ h' => h')
    cases ok with
    | false => exact wpAny_pure ⟨rfl, h₃⟩
    | true =>
      exact wpAny_bind (wpAny_bind (wpAny_mono h₃ (fun x s₄ h₄ => wpAny_bind (wpAny_mono h₄ (fun _ s₅ h₅ => wpAny_pure (wpAny_pure ⟨rfl, h₅⟩)) fun _ _ h' => h')) fun _ _ h' => h'))
noncomputable def cP (X : Cx) (scope : Scope) (cl : List (Str × Addr)) (C : Addr) (aM : Shared) (aX : Hp) (fp : List Addr) (N' : List Str) : Cx :=
  { X with N := N', aM := aM, aX := aX, env := compEnvC scope cl C X.env, outer := X.stack, ex := fp, fn := fun _ => false, pn := [] }
theorem jk {env : Env} : ∀ (names : List (Str × NameKind)) (cs : List (Str × Addr)), (∀ y ∈ names, y.2 = .free -> ∃ a, env.cells.lookup y.1 = some a) -> (∀ x c, cs.lookup x = some c -> env.cells.lookup x = some c) →
    ∃ cl : List (Str × Addr), (forIn names cs fun (y : Str × NameKind) (r : List (Str × Addr)) => if (y.2 == NameKind.free) = true then do let a ← cellOf env y.1; pure (ForInStep.yield ((y.1, a) :: r)) else pure (ForInStep.yield r) : Sem (List (Str × Addr))) = pure cl ∧
      (∀ x c, cl.lookup x = some c -> env.cells.lookup x = some c) /\ (∀ x, ((x, NameKind.free) ∈ names \/ ∃ c, cs.lookup x = some c) -> ∃ c, cl.lookup x = some c)
  | [], cs, _, h => ⟨cs, rfl, h, fun x hx => by
      rcases hx with z | z
      · cases z
      · exact z⟩
  | (n, k) :: r, cs, hf, h => by
    by_cases hk : k = .free
    · subst hk
      obtain ⟨a, ha⟩ := hf (n, .free) (by simp) rfl
      obtain ⟨cl, e, h1, h2⟩ := jk r ((n, a) :: cs) (fun y hy => hf y (List.mem_cons_of_mem _ hy)) (fun x c q => by
        rw [List.lookup_cons] at q
        cases hx : x == n with
        | true =>
          rw [hx] at q
          have : x = n := by simpa using hx
          subst this
          cases q; exact ha
        | false => rw [hx] at q; exact h x c q)
      refine ⟨cl, ?_, h1, fun x hx => ?_⟩
      · rw [List.forIn_cons]
        have e0 : cellOf env n = pure a := by unfold cellOf; rw [ha]
        simp only [beq_self_eq_true, if_true, e0]
        exact e
      · have hc : ∀ z c, cs.lookup z = some c -> ∃ c, ((n, a) :: cs).lookup z = some c := fun z c q => by
          rw [List.lookup_cons]
          cases z == n with
          | true => exact ⟨a, rfl⟩
          | false => exact ⟨c, q⟩
        rcases hx with z | ⟨c, z⟩
        · rcases List.mem_cons.mp z with q | q
          · cases q
            exact h2 n (.inr ⟨a, by simp [List.lookup_cons]⟩)
          · exact h2 x (.inl q)
        · exact h2 x (.inr (hc x c z))
    · obtain ⟨cl, e, h1, h2⟩ := jk r cs (fun y hy => hf y (List.mem_cons_of_mem _ hy)) h
      have hb : (k == NameKind.free) = false := by simpa using hk
      refine ⟨cl, ?_, h1, fun x hx => ?_⟩
      · rw [List.forIn_cons]
        simp only [hb, Bool.false_eq_true, if_false]
        exact e
      · rcases hx with z | z
        · rcases List.mem_cons.mp z with q | q
          · cases q; exact absurd rfl hk
          · exact h2 x (.inl q)
        · exact h2 x (.inr z)
theorem oz {env : Env} {scope : Scope} (h : ∀ y ∈ scope.names, y.2 = .free -> ∃ a, env.cells.lookup y.1 = some a) :
    ∃ cl : List (Str × Addr), closureFor scope env = pure cl /\ (∀ x c, cl.lookup x = some c -> env.cells.lookup x = some c) /\ (∀ x, (x, NameKind.free) ∈ scope.names -> ∃ c, cl.lookup x = some c) := by
  obtain ⟨cl, e, h1, h2⟩ := jk (env := env) scope.names [] h (fun x c q => by cases q)
  refine ⟨cl, ?_, h1, fun x hx => h2 x (.inl hx)⟩
  exact Eq.trans (congrArg (fun t : Sem (List (Str × Addr)) => t >>= fun cs => pure cs) e) rfl
theorem lookup_mem {x : Str} {k : NameKind} : ∀ {names : List (Str × NameKind)}, names.lookup x = some k -> (x, k) ∈ names
  | [], h => by cases h
  | (n, j) :: r, h => by
    rw [List.lookup_cons] at h
    cases hx : x == n with
    | true =>
      rw [hx] at h
      have : x = n := by simpa using hx
      subst this
      cases h; simp
    | false => rw [hx] at h; exact List.mem_cons_of_mem _ (lookup_mem h)
theorem eT {env : Env} (hf : env.scope.kind = .function) : ∀ {names : List (Str × NameKind)} {x : Str}, names.lookup x = some .free -> env.kindOf x = some .cell →
    (names.map fun (n, k) => if (k == NameKind.free && env.scope.kind == .function && env.kindOf n == some .cell) then (n, NameKind.cell) else (n, k)).lookup x = some .cell
  | [], _, h, _ => by cases h
  | (n, k) :: r, x, h, hc => by
    have ih := @eT env hf r x
    show List.lookup x ((if (k == NameKind.free && env.scope.kind == .function && env.kindOf n == some .cell) = true then (n, NameKind.cell) else (n, k)) :: _) = _
    cases hx : x == n with
    | true =>
      have : x = n := by simpa using hx
      subst this
      simp only [List.lookup_cons, hx] at h
      cases h
      rw [if_pos (by simp [hf, hc])]
      simp [List.lookup_cons]
    | false =>
      simp only [List.lookup_cons, hx] at h
      by_cases hq : (k == NameKind.free && env.scope.kind == .function && env.kindOf n == some .cell) = true
      · rw [if_pos hq]; simp only [List.lookup_cons, hx]; exact ih h hc
      · rw [if_neg hq]; simp only [List.lookup_cons, hx]; exact ih h hc
theorem gJ {env : Env} : ∀ {names : List (Str × NameKind)} {x : Str} {k : NameKind}, (names.map fun (n, k) => if (k == NameKind.free && env.scope.kind == .function && env.kindOf n == some .cell) then (n, NameKind.cell) else (n, k)).lookup x = some k →
    names.lookup x = some k \/ (names.lookup x = some .free /\ k = .cell)
  | [], _, _, h => by cases h
  | (n, j) :: r, x, k, h => by
    have ih := @gJ env r x k
    have h' : List.lookup x ((if (j == NameKind.free && env.scope.kind == .function && env.kindOf n == some .cell) = true then (n, NameKind.cell) else (n, j)) :: (r.map fun (n, k) => if (k == NameKind.free && env.scope.kind == .function && env.kindOf n == some .cell) then (n, NameKind.cell) else (n, k))) = some k := h
    by_cases hq : (j == NameKind.free && env.scope.kind == .function && env.kindOf n == some .cell) = true
    · rw [if_pos hq] at h'
      have hj : j = .free := by
        have := Bool.and_eq_true_iff.mp (Bool.and_eq_true_iff.mp hq).1
        simpa using this.1
      simp only [List.lookup_cons] at h' ⊢
      cases hx : x == n with
      | true => rw [hx] at h'; cases h'; exact .inr ⟨by rw [hj], rfl⟩
      | false => rw [hx] at h'; exact ih h'
    · rw [if_neg hq] at h'
      simp only [List.lookup_cons] at h' ⊢
      cases hx : x == n with
      | true => rw [hx] at h'; cases h'; exact .inl rfl
      | false => rw [hx] at h'; exact ih h'
noncomputable def oS (ix : List Nat) (σ : St) : St := none :: ix.map fun i => (σ[i]?).join
noncomputable abbrev Ek (J : It) (tt : TT) (te : TE) (σ' : V -> St) (acc : Addr) (H1 : Hp) (Q : VK) : Prop :=
  ∃ W : Nat -> Nat -> List V -> Hp -> Prop, (∃ m, W 0 m [] (upd H1 acc (.lst []))) /\ ∀ i m ys H, W i m ys H →
    (J.stop i H /\ Q (.ref acc) H) \/ (J.go i H /\ ∀ x H', J.yld i H x H' -> tt (σ' x) H' fun b H2 => if b = true then te (σ' x) H2 fun y H3 =>
        H3 acc = some (.lst ys) /\ ys.length < sizeLine /\ ∃ m', m' < m /\ W (i + 1) m' (ys ++ [y]) (upd H3 acc (.lst (ys ++ [y])))
      else ∃ m', m' < m /\ W (i + 1) m' ys H2)
noncomputable def BN (wi : TI) (ix : List Nat) (tt : TT) (te : TE) : TE := fun σ H Q => wi σ H fun J H1 => ∀ acc, H1 acc = none -> Ek J tt te (fun x => (oS ix σ).set 0 (some x)) acc H1 Q
theorem HOk.sameBut {P : Program} {w : World} {H : Hp} {h h' : Heap} {C : Addr} (x : HOk P w H h) (hn : H C = none) (k : ∀ b u, b ≠ C -> h.get? b = some u -> h'.get? b = some u) : HOk P w H h' := fun b u e => by
  have nC : ∀ b u, H b = some u -> b ≠ C := fun b u e z => by rw [z, hn] at e; cases e
  refine (x b u e).ki (fun c v hc q => k c v ?_ q) (fun _ q => q) fun _ _ q => q
  rcases hc with z | z
  · rw [z]; exact nC b u e
  · exact nC c _ z
theorem rj : isSubtype (.type "tuple") (.type "set") = pure false := by rw [isSubtype_type]; kernel_rfl
theorem p8 : isSubtype (.type "tuple") (.type "frozenset") = pure false := by rw [isSubtype_type]; kernel_rfl
noncomputable abbrev eW (led : Bool) : Obj := { cls := .type "set", dict := none, data := .set #[] 0 (.fresh 0 0 led) }
set_option maxHeartbeats 3200000 in
theorem set_tuple {prog : Program} {w : World} {B : Around} {Er : Value -> Shared -> Prop} {z : Shared} {a : Addr} {its : Array Value} {zs : List Int} {Q : Value -> Shared -> Prop}
    (hh : B.handled = none) (ht : z.heap.IsTuple a its) (hi : IntsAre its.toList zs) (hb : its.size + 1 < scanBound)
    (fin : ∀ (g' : Heap) (tk : Nat), g'.SetOf (intKind prog w) z.heap.objs.size (fun k' => (firstMet (fun i => zs.getD i 0) its.size).any (· == k')) (firstMet (fun i => zs.getD i 0) its.size).length →
      (∀ b o, b < z.heap.objs.size -> z.heap.get? b = some o -> g'.get? b = some o) -> Q (.ref z.heap.objs.size) { z with heap := g', toks := tk }) :
    wpAny (model prog w) B (call (.type "set") [.ref a]) Q Er z := by
  obtain ⟨_, _, _⟩ := F.called_set.mro
  have := F.called_set.made
  have := F.called_set.sub
  refine wpAny_call (codeAny_of_tree ?_)
  show wpAny _ _ (callAny (.type "set") _) _ _ _
  refine wpAny_pure ⟨Code.quiet_builtin _ (by decide +kernel), codeAny_builtin F.entry_type_call ?_⟩
  rw [Around.under_plain (weight_type_call_type "set" [.ref a] []) rfl]
  have := F.called_set.notType
  have := F.called_set.canCreate
  have := F.typeCall_set_1 (.ref a)
  repeat (any_goals (first | assumption | wp_step))
  refine codeAny_mono (code_set_new_1 (.ref a) (E := Er) (Q₁ := fun v y => ∃ led : Bool, v = .ref z.heap.objs.size /\ y = { z with heap := z.heap.push (eW led) }) fun led => ⟨led, rfl, rfl⟩) fun r y hr => ?_
  cases r with
  | error e => exact hr
  | ok fl =>
    cases fl with
    | ret v =>
      obtain ⟨led, rfl, rfl⟩ := hr
      have hS : (z.heap.push (eW led)).get? z.heap.objs.size = some (eW led) := Heap.get?_push_size _ rfl
      have hT : Shared.TypeIs { z with heap := z.heap.push (eW led) } (.ref z.heap.objs.size) "set" := ⟨_, hS, rfl⟩
      have := F.called_set.init.lookup
      have := F.called_set.init.bind (.ref z.heap.objs.size)
      repeat (any_goals (first | assumption | wp_step))
      refine codeAny_mono (codeAny_call_builtin (R := wants (fun r y => r = .none /\ ∃ g' tk, y = { z with heap := g', toks := tk } ∧
          g'.SetOf (intKind prog w) z.heap.objs.size (fun k' => (firstMet (fun i => zs.getD i 0) its.size).any (· == k')) (firstMet (fun i => zs.getD i 0) its.size).length ∧
          (∀ b o, b < z.heap.objs.size -> z.heap.get? b = some o -> g'.get? b = some o)) Er) F.called_set.init.plain F.entry_set_init (check_set_init_1 hT ?_)) fun r₂ y₂ hr₂ => ?_
      · obtain ⟨ol, hol, hcl, nl, hdl⟩ := id ht
        obtain ⟨oc, od, oda, osl⟩ := ol
        simp only at hcl hdl
        subst hcl; subst hdl
        have hol' : (z.heap.push (eW led)).get? a = some { cls := .type "tuple", dict := od, data := .seq its nl, slots := osl } := Heap.get?_push_of_some _ hol
        have := rj
        have := p8
        have : (Value.type "tuple" == Value.type "dict") = false := by decide
        have ht1 : (z.heap.push (eW led)).IsTuple a its := ⟨_, hol', rfl, nl, rfl⟩
        unfold Builtin.«set.__init__» noKeywords Builtin.Frozenset.updateFrom
        generalize hPI : pyIter = PI
        wp_walk
        subst hPI
        refine wpAny_pyIter_tuple ht1 ?_
        refine wpAny_bind (wpAny_runValue ?_)
        have hlS : a < z.heap.objs.size := Heap.lt_size hol
        have hneI : a ≠ (z.heap.push (eW led)).objs.size := by
          rw [Heap.size_push]; exact Nat.ne_of_lt (Nat.lt_succ_of_lt hlS)
        have hSf : z.heap.objs.size ∉ [(z.heap.push (eW led)).objs.size, a] := by
          rw [Heap.size_push]; simp only [List.mem_cons, List.mem_singleton, List.not_mem_nil, or_false, not_or]
          exact ⟨Nat.ne_of_lt (Nat.lt_succ_self _), Nat.ne_of_gt hlS⟩
        have hval : ∀ (i : Nat) (v : Value), its[i]? = some v -> ∃ t, v = .int ((fun i => zs.getD i 0) i) t := fun i v hv => IntsAre.int_at hi i v (by rw [Array.getElem?_toList]; exact hv)
        refine codeAny_set_update_loopS ((Walks.tuple (by simp [hh]) _ a hneI its).toS) z.heap.objs.size
          hSf (fun i => zs.getD i 0) hval hb (its.size - 0) 0 _ (by omega) (Nat.zero_le _)
          ⟨⟨_, Heap.get?_push_size _ rfl, rfl, rfl⟩, ?hP⟩ ?hS0 ?hR
        case hP => exact ⟨_, Heap.get?_push_of_some _ hol', rfl, nl, rfl⟩
        case hS0 =>
          exact SetOf_congr ((setObjOf_fresh (knd := intKind prog w) led).setOf (Heap.get?_push_of_some _ hS) (by unfold scanBound; omega)) (fun _ => rfl) rfl
        case hR =>
          intro s' hm hS'
          obtain ⟨h', g', d', tk', os'⟩ := s'
          obtain rfl : g' = z.gens := hm.gens
          obtain rfl : d' = z.drawn := hm.drawn
          obtain rfl : os' = z.os := hm.os
          show wpAny _ _ _ _ _ _
          refine wpAny_pure ?_
          show wpAny _ _ (ret Value.none) _ _ _
          refine wpAny_pure ⟨rfl, h', tk', rfl, hS', fun b o hb e => ?_⟩
          refine hm.heap b o ?_ (Heap.get?_push_of_some _ (Heap.get?_push_of_some _ e))
          simp only [List.mem_cons, List.mem_singleton, List.not_mem_nil, or_false, not_or]
          refine ⟨Nat.ne_of_lt hb, ?_⟩
          show b ≠ (z.heap.push (eW led)).objs.size
          rw [Heap.size_push]; exact Nat.ne_of_lt (Nat.lt_succ_of_lt hb)
      · cases r₂ with
        | error e => exact hr₂
        | ok fl₂ =>
          cases fl₂ with
          | ret r =>
            obtain ⟨rfl, g', tk, rfl, hS', hk'⟩ := hr₂
            repeat (any_goals (first | assumption | wp_step))
            exact fin _ _ hS' hk'
          | _ => exact hr₂.elim
    | _ => exact hr.elim
section
variable {X : Cx}
theorem sX : bK X (.builtin "isinstance") (fun vs H Q => ∃ x t n b, vs = [x, .ty n] /\ ji X.K H x t /\ PySem.W.kitOne X.K t (.type n) = some b /\ Q (.bl b) H) := by
  intro pins s σ H xs us Q I r h
  obtain ⟨x, t, n, b, rfl, ty, e, q⟩ := h
  obtain ⟨u, w', rfl, r1, r2⟩ := vals2 r
  cases r2
  exact vQ I r1 ty e fun tk => ⟨.bl b, H, I.tok tk, rfl, q⟩
noncomputable def unl (ns : List Int) : List Int := firstMet (fun i => ns.getD i 0) ns.length
theorem qp (hc : X.calm = true) : bK X (.type "set") (fun vs H Q => ∃ p ns, vs = [.ref p] /\ SqT X.K H p (ns.map V.int) /\ ns.length + 1 < scanBound /\ ∀ l, H l = none -> Q (.ref l) (upd H l (.set (fun k => (unl ns).any (· == k)) (unl ns).length))) := by
  intro pins s σ H xs us Q I r h
  obtain ⟨p, ns, rfl, hq, hb, q⟩ := h
  obtain ⟨u, rfl, rx⟩ := vals1 r
  cases rx
  obtain ⟨its, r', pl, hz⟩ := I.tuple hq
  have hlen := r'.length
  rw [List.length_map] at hlen
  have e0 : its.toArray.size = ns.length := by rw [List.size_toArray, hlen]
  refine set_tuple (I.ok.hd hc) (show s.heap.IsTuple p its.toArray from pl) (zs := ns) (by simpa using intsAre_of r') (by rw [e0]; exact hb) fun g' tk hS hk => ?_
  rw [e0] at hS
  exact ⟨.ref s.heap.objs.size, _, I.laid (t' := tk) (fun b o e => hk b o (Heap.lt_size e) e) (Nat.le_refl _) (show bC X.prog X.w _ g' _ (.set _ _) from hS), rfl, q _ (I.hok.fresh (Nat.le_refl _))⟩
theorem n8 : bK X (.builtin "len") (fun vs H Q => ∃ p S n, vs = [.ref p] /\ H p = some (.set S n) /\ Q (.int n) H) := by
  intro pins s σ H xs us Q I r h
  obtain ⟨p, S, n, rfl, hH, q⟩ := h
  obtain ⟨u, rfl, rx⟩ := vals1 r
  cases rx
  obtain ⟨o, es, ep, tb, ho, hex, hd, hel, hmem, hsz, hfit, rfl⟩ := (show s.heap.SetOf (intKind X.prog X.w) p S n from I.hok p _ hH)
  have hb : (es.size : Int) < 2 ^ 63 := by unfold scanBound at hsz; omega
  exact PySem.call_len_set ho hex hd hfit hb ⟨.int es.size, H, I.tok _, ⟨_, rfl⟩, q⟩
theorem i5 {prog : Program} {w : World} {A : Around} {E : Value -> Shared -> Prop} {s : Shared} {t sl : Addr} {items : Array Value} {vl vu : Value} {lo hi : Option Int} {Q : Value -> Shared -> Prop} (ht : IsTup s.heap t items) (hs : s.heap.IsSliceOf sl vl vu .none) (pl : IsPart vl lo) (pu : IsPart vu hi)
    (h1 : HT.sIx items.size 0 lo = 0) (h2 : HT.sIx items.size items.size hi = items.size) (h : Q (.ref t) s) : wpAny (model prog w) A (getItem (.ref t) (.ref sl)) Q E s := by
  obtain ⟨os, hos, hcs, hds⟩ := id hs
  have hTs : s.TypeIs (.ref sl) "slice" := ⟨os, hos, hcs⟩
  unfold getItem
  try with_reducible refine wpAny_holding ?_
  first | refine wpAny_bind (wpAny_pure ?_) | skip
  refine wpAny_bind (wpAny_sequenceKey ht.typeIs (by decide) ?_)
  refine wpAny_bind (wpAny_callSpecial?_slot (name := Str.ofString "__getitem__") ht.typeIs PyProof.Rows.slot_tuple_getitem (wpAny_call_entry PyProof.Rows.slot_tuple_getitem ht.typeIs entry_tuple_getitem ?_ (args_tuple_getitem _ _)))
  show wpAny _ _ (Builtin.Tuple.tupleItemsOf (.ref t) >>= _) _ _ s
  refine wpAny_bind (tupleItemsOf_ ht (wpAny_bind (wpAny_typeOf hTs ?_)))
  rw [if_pos (by decide)]
  refine wpAny_bind (HT.gh hs pl pu ?_)
  rw [h1, h2]
  show wpAny _ _ (if (((0 : Nat) : Int) == 0 && (1 : Int) == 1 && (items.size - 0) == items.size) = true then _ else _) _ _ s
  rw [if_pos (by simp)]
  show wpAny _ _ (Builtin.Tuple.tupleIsExact (.ref t) >>= _) _ _ s
  unfold Builtin.Tuple.tupleIsExact
  refine wpAny_bind (wpAny_bind (wpAny_typeOf ht.typeIs (wpAny_pure ?_)))
  show wpAny _ _ (if (Value.type "tuple" == Value.type "tuple") = true then _ else _) _ _ s
  rw [if_pos (by decide)]
  refine wpAny_bind (wpAny_rule ?_)
  first
    | exact wpAny_pure ⟨_, rfl, wpAny_pure h⟩
    | exact wpAny_bind (wpAny_pure (wpAny_pure ⟨_, rfl, wpAny_pure h⟩))
noncomputable def Fe (K : PySem.W.Frag) : V -> Option Int -> Option Int -> Hp -> VK -> Prop := fun x lo hi H Q => ∃ a xs, x = .ref a /\ SqT K H a xs /\ HT.sIx xs.length 0 lo = 0 /\ HT.sIx xs.length xs.length hi = xs.length /\ Q (.ref a) H
theorem Bg : SlR X (Fe X.K) := by
  intro pins s σ H x v vl vu lo hi sl Q I rx hs pl pu h
  obtain ⟨a, xs, rfl, hx, h1, h2, q⟩ := h
  cases rx
  obtain ⟨its, r, ht, hz⟩ := I.tuple hx
  have hlen : its.toArray.size = xs.length := by rw [List.size_toArray]; exact r.length.symm
  refine ⟨"tuple", _, PyProof.Rows.slot_tuple_getitem.lookup, ht.typeIs, ?_⟩
  exact i5 ht hs pl pu (by rw [hlen]; exact h1) (by rw [hlen]; exact h2) ⟨.ref a, H, I, rfl, q⟩
noncomputable def zA (K : PySem.W.Frag) : R2 := fun x y H Q => ∃ a b ys, x = .ref a /\ y = .ref b /\ SqT K H a [] /\ SqT K H b ys /\ Q (.ref b) H
theorem yW : OpR X (binaryOp .Add) (zA X.K) := by
  intro pins s σ H x y v u Q I rx ry h
  obtain ⟨a, b, ys, rfl, rfl, ha, hb, q⟩ := h
  cases rx
  cases ry
  obtain ⟨its, r1, p1, _⟩ := I.tuple ha
  obtain ⟨its2, r2, p2, _⟩ := I.tuple hb
  cases r1
  obtain ⟨⟨cls, dd, data, sl⟩, ho, hc, n, hd⟩ := id p1
  obtain ⟨⟨cls2, dd2, data2, sl2⟩, ho2, hc2, n2, hd2⟩ := id p2
  simp only at hc hd hc2 hd2
  subst hc hd hc2 hd2
  exact concat_meets ⟨_, ho, rfl⟩ ⟨_, ho2, rfl⟩ noFill_tuple_add seq_tuple_add PySem.F.slot_tuple_add PySem.F.entry_tuple_add (PySem.F.args_tuple_add_2 _ _)
    (tuple_addW0 a b _ _ n n2 dd dd2 sl sl2 (by simp)) ⟨ho, ho2, ⟨.ref b, H, I, rfl, q⟩⟩
end
open AutoSeq1 (wpAny_loadPart')
noncomputable def l4 (a : Addr) (lo hi st : Int) : HO := .ext fun h => ∃ t u v, h.get? a = some { cls := .type "range", data := .fields #[.int lo t, .int hi u, .int st v] }
noncomputable def oK (lo st : Int) (n : Nat) : List Int := (List.range n).map fun (i : Nat) => lo + (i : Int) * st
theorem lF (lo st : Int) (n : Nat) : (oK lo st n).length = n := by simp [oK]
theorem nP {lo st : Int} {n : Nat} {acc : Array Value} (h : ItemsOf (fun i v => ∃ t, v = .int (lo + i * st) t) acc n) : Vals ((oK lo st n).map V.int) acc.toList := by
  obtain ⟨hs, hv⟩ := h
  have key : ∀ (l : List Value) (k : Nat), (∀ j v, l[j]? = some v -> ∃ t, v = Value.int (lo + ((k + j : Nat) : Int) * st) t) -> Vals (((List.range' k l.length).map fun (i : Nat) => lo + (i : Int) * st).map V.int) l := by
    intro l
    induction l with
    | nil => intro k _; exact .nil
    | cons a r ih =>
      intro k hk
      rw [List.length_cons, List.range'_succ, List.map_cons, List.map_cons]
      refine .cons ?_ (ih (k + 1) fun j v e => ?_)
      · obtain ⟨t, q⟩ := hk 0 a rfl
        exact ⟨t, by rw [q]; simp⟩
      · obtain ⟨t, q⟩ := hk (j + 1) v (by simpa using e)
        exact ⟨t, by rw [q]; congr 3; omega⟩
  have := key acc.toList 0 fun j v e => by
    obtain ⟨t, q⟩ := hv j v (by simpa using e)
    exact ⟨t, by rw [q]; simp⟩
  unfold oK
  rw [List.range_eq_range', <- hs]
  simpa using this
section
variable {X : Cx}
theorem Inv.rng {pins : List (Addr × Obj)} {σ : St} {H : Hp} {s : Shared} {lo hi st : Int} {t u v : Tok} {tk : Nat} (I : Inv X pins σ H s) :
    Inv X pins σ (upd H s.heap.objs.size (l4 s.heap.objs.size lo hi st)) { s with heap := s.heap.push { cls := .type "range", data := .fields #[.int lo t, .int hi u, .int st v] }, toks := tk } := by
  refine I.laid (fun b o e => Heap.get?_push_of_some _ e) (Nat.le_refl _) ?_
  refine ⟨⟨t, u, v, Heap.get?_push_size _ rfl⟩, ⟨_, Heap.get?_push_size _ rfl⟩, fun h1 h2 ⟨a, b, c, e⟩ k => ⟨a, b, c, k _ e⟩⟩
theorem wN : bK X (.type "range") (fun vs H Q => ∃ j, vs = [.int j] /\ ∀ p, H p = none -> Q (.ref p) (upd H p (l4 p 0 j 1))) := by
  intro pins s σ H xs us Q I r h
  obtain ⟨j, rfl, q⟩ := h
  obtain ⟨u, rfl, t, rfl⟩ := vals1 r
  exact call_range_1 ⟨.ref _, _, I.rng, rfl, q _ (I.hok.fresh (Nat.le_refl _))⟩
theorem vU : bK X (.type "range") (fun vs H Q => ∃ i j, vs = [.int i, .int j] /\ ∀ p, H p = none -> Q (.ref p) (upd H p (l4 p i j 1))) := by
  intro pins s σ H xs us Q I r h
  obtain ⟨i, j, rfl, q⟩ := h
  obtain ⟨u, w', rfl, ⟨t, rfl⟩, ⟨t', rfl⟩⟩ := vals2 r
  exact call_range_2 ⟨.ref _, _, I.rng, rfl, q _ (I.hok.fresh (Nat.le_refl _))⟩
theorem wL : bK X (.type "range") (fun vs H Q => ∃ i j k, vs = [.int i, .int j, .int k] /\ k ≠ 0 /\ (k.natAbs < 1073741824) /\ ∀ p, H p = none -> Q (.ref p) (upd H p (l4 p i j k))) := by
  intro pins s σ H xs us Q I r h
  obtain ⟨i, j, k, rfl, hk, hb, q⟩ := h
  cases r with
  | cons r1 r =>
    obtain ⟨t1, rfl⟩ := r1
    cases r with
    | cons r2 r =>
      obtain ⟨t2, rfl⟩ := r2
      cases r with
      | cons r3 r =>
        obtain ⟨t3, rfl⟩ := r3
        cases r
        exact call_range_3 hk ⟨.ref _, _, I.rng, rfl, q _ (I.hok.fresh (Nat.le_refl _))⟩ (.inl (PyProof.noPylong_small (by omega)))
structure ly (lo hi st : Int) (n : Nat) : Prop where
  sm : Builtin.Range.small lo hi st = true
  sz : Builtin.Range.rangeSize lo hi st = n
  le : n <= 2 ^ 20
theorem Inv.BV {pins : List (Addr × Obj)} {σ : St} {H : Hp} {s : Shared} {p : Addr} {lo hi st : Int} (I : Inv X pins σ H s) (h : H p = some (l4 p lo hi st)) : ∃ t u v, IsRange s.heap p lo hi st t u v := by
  obtain ⟨⟨t, u, v, e⟩, _⟩ := I.hok p _ h
  exact ⟨t, u, v, e⟩
theorem nX (hc : X.calm = true) : bK X (.type "list") (fun vs H Q => ∃ p lo hi st n, vs = [.ref p] /\ H p = some (l4 p lo hi st) /\ ly lo hi st n /\ ∀ l, H l = none -> Q (.ref l) (upd H l (.lst ((oK lo st n).map V.int)))) := by
  intro pins s σ H xs us Q I r h
  obtain ⟨p, lo, hi, st, n, rfl, hp, ok, q⟩ := h
  obtain ⟨u, rfl, rx⟩ := vals1 r
  cases rx
  obtain ⟨t, u, v, hr⟩ := I.BV hp
  have hn := ok.le
  refine call_list_range (I.ok.hd hc) hr ok.sm ok.sz (by omega) fun h' tk acc c kp e hi => ?_
  have hv := nP hi
  refine ⟨.ref s.heap.objs.size, _, I.laid (t' := tk) kp (Nat.le_refl _) (show bC X.prog X.w _ h' _ (.lst _) from ⟨?_, acc.toList, c, hv, by simpa using e⟩), rfl, q _ (I.hok.fresh (Nat.le_refl _))⟩
  rw [List.length_map, lF, sizeLine_eq]; omega
end
section
variable {prog : Program} {w : World} {A : Around} {E : Value -> Shared -> Prop} {s : Shared}
theorem rQ {Q : List Value -> Shared -> Prop} {r : Addr} {a b c : Int} {t u v : Tok} {n : Nat} (hh : A.handled = none) (hr : IsRange s.heap r a b c t u v) (ok : ly a b c n)
    (hQ : ∀ h' tk (acc : Array Value), (∀ b o, s.heap.get? b = some o -> h'.get? b = some o) -> ItemsOf (fun i v => ∃ t, v = .int (a + i * c) t) acc n -> Q acc.toList { s with heap := h', toks := tk }) :
    wpAny (model prog w) A (collect (.ref r)) Q E s := by
  unfold collect
  refine wpAny_bind (wpAny_runValue (codeAny_builtin F.entry_proto_collect ?_))
  rw [Around.under_plainId F.plain_proto_collect _]
  show wpAny _ A.in1 (newList [] >>= fun l => again (.builtin "list.__iadd__" ⟨[l, .ref r], []⟩)) _ _ s
  refine wpAny_bind (wpAny_newObj_type (wpAny_pure ⟨plainId_quiet F.plain_list_iadd _, codeAny_builtin F.entry_list_iadd ?_⟩))
  rw [Around.under_plainId F.plain_list_iadd _]
  show wpAny _ A.in1 (Builtin.List.listExtendWith (.ref s.heap.objs.size) (.ref r) (.ref s.heap.objs.size)) _ _ _
  have hn := ok.le
  refine wpAny_mono (wpAny_extend_range (A := A) (R := fun z y => z = .ok (.ret (.ref s.heap.objs.size)) /\ ∃ h' tk acc c', y = { s with heap := h', toks := tk } /\ (∀ b o, s.heap.get? b = some o -> h'.get? b = some o) ∧
      h'.get? s.heap.objs.size = some { cls := .type "list", dict := none, data := .seq acc c', slots := #[] } /\ ItemsOf (fun i v => ∃ t, v = .int (a + i * c) t) acc n)
    (s := { s with heap := s.heap.push { cls := .type "list", data := .seq ([] : List Value).toArray } }) hh (Heap.get?_push_of_some _ hr) ok.sm ok.sz (by omega) _ _ 0 (Heap.get?_push_size _ rfl)
    (fun h' tk acc c' kp e hi => ⟨rfl, h', tk, acc, c', rfl, fun b o q => kp b o (Nat.ne_of_lt (Heap.lt_size q)) (Heap.get?_push_of_some _ q), e, hi⟩)) (fun fin y h => ?_) (fun e y h => ?_)
  · have last : ∀ y, (∃ h' tk acc c', y = { s with heap := h', toks := tk } /\ (∀ b o, s.heap.get? b = some o -> h'.get? b = some o) ∧
        h'.get? s.heap.objs.size = some { cls := .type "list", dict := none, data := .seq acc c', slots := #[] } /\ ItemsOf (fun i v => ∃ t, v = .int (a + i * c) t) acc n) -> wpAny (model prog w) A (match Value.ref s.heap.objs.size with
      | Value.ref a => do
        match (← load a).data with
          | Data.seq xs _ => pure xs.toList
          | _ => unsupported "internal:collect"
      | _ => unsupported "internal:collect") Q E y := by
      rintro y ⟨h', tk, acc, c', rfl, kp, e, hi⟩
      show wpAny _ A (load s.heap.objs.size >>= _) _ _ _
      refine wpAny_bind (wpAny_load e ?_)
      exact wpAny_pure (hQ h' tk acc kp hi)
    cases fin with
    | done f =>
      obtain ⟨e, h⟩ := h
      cases e
      exact last _ h
    | again c' => exact ⟨h.1, codeAny_mono h.2 fun r y hr => by obtain ⟨rfl, h⟩ := hr; exact last _ h⟩
  · exact absurd h.1 (by simp)
theorem wQ {Q : Value -> Shared -> Prop} {r : Addr} {a b c : Int} {t u v : Tok} {n : Nat} (hh : A.handled = none) (hr : IsRange s.heap r a b c t u v) (ok : ly a b c n)
    (hQ : ∀ (h' : Heap) (tk : Nat) (acc : Array Value), (∀ b o, s.heap.get? b = some o -> h'.get? b = some o) -> ItemsOf (fun i v => ∃ t, v = .int (a + i * c) t) acc n -> Q (.ref h'.objs.size) { s with heap := h'.push { cls := .type "tuple", data := .seq acc }, toks := tk }) :
    wpAny (model prog w) A (call (.type "tuple") [.ref r]) Q E s := by
  refine callType_codes (Q₁ := fun obj s₁ => s₁.TypeIs obj "tuple" /\ Q obj s₁) F.called_tuple (F.typeCall_tuple_1 _) F.entry_object_init ?_ fun obj s₁ h₁ =>
    ⟨h₁.1, F.args_object_init_2 obj _, object_init_meets F.called_tuple.init.lookup F.called_tuple.made (by decide) prog w A.in1 _ s₁ ⟨h₁.1, rfl, h₁.2⟩⟩
  refine codeAny_of_tree ?_
  show wpAny _ A.in1.in1 (do checkBuiltinCall "tuple.__new__" ⟨[.type "tuple", .ref r], []⟩; again (.builtin "tuple.__new__" ⟨[.type "tuple", .ref r], []⟩)) _ _ s
  refine wpAny_bind (wpAny_of_eq (F.newCall_tuple_1 _) (wpAny_pure ⟨plainId_quiet F.plain_tuple_new _, codeAny_builtin F.entry_tuple_new ?_⟩))
  rw [Around.under_plainId F.plain_tuple_new _]
  have hsub := sub_tuple_self
  have hinit := init_tuple_lookup
  have hmh := madeHere_tuple
  have hT : s.TypeIs (.ref r) "range" := ⟨_, hr, rfl⟩
  have hh' : A.in1.in1.handled = none := by simp [hh]
  wp_walk using wpAny_typeOf hT, rQ hh' hr ok
  intro h' tk acc kp hi
  show wpAny _ _ (Builtin.Tuple.tupleExact acc.toList.toArray >>= fun v => ret v) _ _ _
  unfold Builtin.Tuple.tupleExact
  have hn := ok.le
  refine wpAny_bind (wpAny_newObj_type ?_ (by show acc.toList.toArray.size <= sizeLine; simp only [Array.toArray_toList]; rw [hi.1, sizeLine_eq]; omega))
  rw [show acc.toList.toArray = acc by simp]
  exact wpAny_pure ⟨⟨_, Heap.get?_push_size _ rfl, rfl⟩, hQ h' tk acc kp hi⟩
end
section
variable {X : Cx}
theorem m7 (hc : X.calm = true) : bK X (.type "tuple") (fun vs H Q => ∃ p lo hi st n, vs = [.ref p] /\ H p = some (l4 p lo hi st) /\ ly lo hi st n /\ ∀ l, H l = none -> Q (.ref l) (upd H l (.tup ((oK lo st n).map V.int)))) := by
  intro pins s σ H xs us Q I r h
  obtain ⟨p, lo, hi, st, n, rfl, hp, ok, q⟩ := h
  obtain ⟨u, rfl, rx⟩ := vals1 r
  cases rx
  obtain ⟨t, u, v, hr⟩ := I.BV hp
  have hn := ok.le
  refine wQ (I.ok.hd hc) hr ok fun h' tk acc kp hi => ?_
  have hv := nP hi
  have I1 : Inv X pins σ H { s with heap := h', toks := tk } := I.kept kp
  refine ⟨.ref h'.objs.size, _, I1.laid (t' := tk) (o := .tup _) (fun b ob q => Heap.get?_push_of_some _ q) (Nat.le_refl _) ⟨?_, acc.toList, hv, by simpa using lL.new h' acc⟩, rfl, q _ (I1.hok.fresh (Nat.le_refl _))⟩
  rw [List.length_map, lF, sizeLine_eq]; omega
theorem yo {a b : Int} (h1 : -1000000 <= a) (h2 : a <= 1000000) (h3 : -1000000 <= b) (h4 : b <= 1000000) (h : b - a <= 1000000) : ly a b 1 (b - a).toNat :=
  ⟨small_one (by omega) (by omega) (by omega) (by omega), by rw [rangeSize_one]; split <;> omega, by omega⟩
inductive RdD (K : PySem.W.Frag) (H : Hp) : V -> PyData -> Prop
  | non : RdD K H .non .none
  | bl (b : Bool) : RdD K H (.bl b) (.bool b)
  | int (i : Int) : RdD K H (.int i) (.int i)
  | str (x : Str) : RdD K H (.str x) (.str x)
  | tup {a : Addr} {xs : List V} {ds : List PyData} (h : SqT K H a xs) (hl : xs.length = ds.length) (hx : ∀ (i : Nat) x d, xs[i]? = some x -> ds[i]? = some d -> RdD K H x d) : RdD K H (.ref a) (.tuple ds)
  | lst {a : Addr} {xs : List V} {ds : List PyData} (h : SqL K H a xs) (hl : xs.length = ds.length) (hx : ∀ (i : Nat) x d, xs[i]? = some x -> ds[i]? = some d -> RdD K H x d) : RdD K H (.ref a) (.list ds)
theorem iG {h : Heap} : ∀ {us : List Value} {ds : List PyData}, us.length = ds.length -> (∀ (i : Nat) u d, us[i]? = some u -> ds[i]? = some d -> ∃ as, Reads h u d as) -> ∃ as, ReadsAll h us ds as
  | [], [], _, _ => ⟨_, .nil⟩
  | [], _ :: _, hl, _ => by simp at hl
  | _ :: _, [], hl, _ => by simp at hl
  | u :: us, d :: ds, hl, hx => by
    obtain ⟨as, h1⟩ := hx 0 u d rfl rfl
    obtain ⟨bs, h2⟩ := iG (us := us) (ds := ds) (by simpa using hl) fun i u d e1 e2 => hx (i + 1) u d (by simpa using e1) (by simpa using e2)
    exact ⟨_, .cons h1 h2⟩
theorem Vals.get' {xs : List V} {us : List Value} {i : Nat} {u : Value} (r : Vals xs us) (h : us[i]? = some u) : ∃ x, xs[i]? = some x /\ RelV x u := by
  have hl := r.length
  have hi : i < xs.length := by rw [hl]; exact (List.getElem?_eq_some_iff.mp h).1
  obtain ⟨u', e1, e2⟩ := r.get (List.getElem?_eq_getElem hi)
  rw [h] at e1; cases e1
  exact ⟨_, List.getElem?_eq_getElem hi, e2⟩
theorem Inv.reads {pins : List (Addr × Obj)} {σ : St} {H : Hp} {s : Shared} (I : Inv X pins σ H s) {x : V} {d : PyData} (r : RdD X.K H x d) : ∀ u, RelV x u -> ∃ as, Reads s.heap u d as := by
  induction r with
  | non => intro u ru; cases (show u = Value.none from ru); exact ⟨_, .none⟩
  | bl b => intro u ru; cases (show u = Value.bool b from ru); exact ⟨_, .bool b⟩
  | int i => intro u ru; obtain ⟨t, q⟩ := (show ∃ t, u = Value.int i t from ru); cases q; exact ⟨_, .int i t⟩
  | str y => intro u ru; obtain ⟨t, q⟩ := (show ∃ t, u = Value.str y t from ru); cases q; exact ⟨_, .str y t⟩
  | @tup a xs ds h hl hx ih =>
    intro u ru
    cases (show u = Value.ref a from ru)
    obtain ⟨its, rv, p, hz⟩ := I.tuple h
    obtain ⟨o, ho, hc, n, hd⟩ := p
    obtain ⟨as, ra⟩ := iG (h := s.heap) (us := its) (ds := ds) (by rw [<- rv.length, hl]) fun i u d e1 e2 => by
      obtain ⟨y, e3, ry⟩ := rv.get' e1
      exact ih i y d e3 e2 u ry
    exact ⟨_, .tuple ho hc hd (by simpa using ra)⟩
  | @lst a xs ds h hl hx ih =>
    intro u ru
    cases (show u = Value.ref a from ru)
    obtain ⟨its, rv, p, hz⟩ := I.list h
    obtain ⟨o, ho, hc, n, hd⟩ := p.isList
    obtain ⟨as, ra⟩ := iG (h := s.heap) (us := its) (ds := ds) (by rw [<- rv.length, hl]) fun i u d e1 e2 => by
      obtain ⟨y, e3, ry⟩ := rv.get' e1
      exact ih i y d e3 e2 u ry
    exact ⟨_, .list ho hc hd (by simpa using ra)⟩
theorem wc (hg : X.A.guards = some []) (hu : X.A.units + 64 < cLine) : bK X (.builtin "repr") (fun vs H Q => ∃ p d, vs = [.ref p] /\ RdD X.K H (.ref p) d /\ d.showable = true /\ d.hasDict = false /\ d.depth <= 60 /\ d.shown.length <= sizeLine /\ Q (.str d.shown) H) := by
  intro pins s σ H xs us Q I r h
  obtain ⟨p, d, rfl, rd, hs, hd, hdp, hz, q⟩ := h
  obtain ⟨u, rfl, rx⟩ := vals1 r
  cases rx
  obtain ⟨as, ra⟩ := I.reads rd (.ref p) rfl
  exact repr_of_reads' ra hs (PyData.noDict_hsm hd) hg (by omega) (fun _ _ e => e) (fun h' u tk kp => ⟨.str d.shown, H, I.kept kp, ⟨_, rfl⟩, q⟩) hz
theorem tQ : bK X (.builtin "repr") (fun vs H Q => ∃ i, vs = [.int i] /\ i.natAbs.log2 < 1920 /\ Q (.str (toString i)) H) := by
  intro pins s σ H xs us Q I r h
  obtain ⟨i, rfl, hi, q⟩ := h
  obtain ⟨u, rfl, t, rfl⟩ := vals1 r
  exact PySem.P.repr_of_int hi ⟨.str (toString i), H, I.tok _, ⟨_, rfl⟩, q⟩
end
theorem wk {ns : List Int} (h : ns.Nodup) : (unl ns).length = ns.length := by
  have key : ∀ (l acc : List Int), (acc ++ l).Nodup -> l.foldl step_dedup acc = acc ++ l := by
    intro l
    induction l with
    | nil => intro acc _; simp
    | cons a r ih =>
      intro acc hn
      have h1 : a ∉ acc := by
        have := List.nodup_append.mp hn
        exact fun hm => this.2.2 a hm a (by simp) rfl
      have e : step_dedup acc a = acc ++ [a] := by
        unfold step_dedup
        have : acc.any (· == a) = false := by
          rw [Bool.eq_false_iff]
          intro z
          obtain ⟨x, hx, e⟩ := List.any_eq_true.mp z
          have : x = a := by simpa using e
          exact h1 (this ▸ hx)
        simp [this]
      rw [List.foldl_cons, e, ih (acc ++ [a]) (by rw [List.append_assoc]; exact hn), List.append_assoc]
      rfl
  have e : (List.range ns.length).map (fun i => ns.getD i 0) = ns := by
    apply List.ext_getElem
    · simp
    · intro i h1 h2
      simp [List.getD_eq_getElem?_getD, List.getElem?_eq_getElem h2]
  unfold unl firstMet
  rw [e, key ns [] (by simpa using h)]
  rfl
theorem Inv.D7 {X : Cx} {pins : List (Addr × Obj)} {σ : St} {H : Hp} {s : Shared} {C : Addr} {o : Obj} {h' : Heap} (I : Inv X (pins ++ [(C, o)]) σ H s) (cC : ∀ x c, X.env.cells.lookup x = some c -> c ≠ C) (hC : X.aM.heap.objs.size <= C) (pC : ∀ p ∈ X.pn ++ pins, p.1 ≠ C) (hs : Heap.SameBut C s.heap h') : Inv X pins σ H { s with heap := h' } := by
  have kb : ∀ b u, b ≠ C -> s.heap.get? b = some u -> h'.get? b = some u := fun b u hb z => hs.extBut b u hb z
  obtain ⟨q0, q1, q2, q3, q4⟩ := I.pin (C, o) (List.mem_append_right _ (List.mem_append_right _ (List.mem_singleton.mpr rfl)))
  have J : Inv X pins σ H s := I.mj fun p hp => I.pin p (List.mem_append_right _ (List.mem_append_left _ hp))
  refine J.vA (s' := { s with heap := h' }) (ch := [C]) rfl ⟨fun b u z n a c => kb b u (fun e => c (by rw [e]; exact List.mem_singleton.mpr rfl)) z, fun b u z n a c => ⟨u.slots, kb b _ (fun e => c (by rw [e]; exact List.mem_singleton.mpr rfl)) z⟩, fun b u z n c => n, fun b u z c => ⟨u, kb b u (fun e => c (by rw [e]; exact List.mem_singleton.mpr rfl)) z⟩, fun b xs z => z, fun b ob u z => z, fun b ps z => ⟨#[], by simpa using z⟩⟩ (J.hok.sameBut q1 kb) J.bare fun b hb => ?_
  have e := List.mem_singleton.mp hb
  subst e
  exact ⟨.inr hC, q2, fun x c z => cC x c z, pC⟩
section
variable {prog : Program} {w : World} {A : Around} {E : Value -> Shared -> Prop} {s : Shared}
theorem uj {it t : Addr} {i : Nat} {its : Array Value} {x : Value} {Q : Value -> Shared -> Prop} (hi : s.heap.IsTupleIter it t i) (ht : s.heap.IsTuple t its) (hx : its[i]? = some x) (hQ : ∀ h', h'.IsTupleIter it t (i + 1) -> Heap.SameBut it s.heap h' -> Q x { s with heap := h' }) :
    wpAny (model prog w) A (Builtin.SmallTypes.nextOf (.ref it)) Q E s := by
  obtain ⟨oi, h1, h2, h3⟩ := id hi
  obtain ⟨ot, k1, _, nt, k2⟩ := ht
  unfold Builtin.SmallTypes.nextOf
  refine wpAny_bind (wpAny_callSpecial?_slot (name := Str.ofString "__next__") hi.typeIs F.slot_tuple_iterator_next (wpAny_call_entry F.slot_tuple_iterator_next hi.typeIs F.entry_tuple_iterator_next ?_ (F.args_tuple_iterator_next_1 _)))
  refine wpAny_bind (m := field (.ref it) 0) (wpAny_field h1 h3 (x := .ref t) rfl ?_)
  show wpAny _ _ (if (Value.ref t == Value.none) = true then _ else field (.ref it) 1 >>= _) _ _ s
  rw [if_neg (show ¬ ((Value.ref t == Value.none) = true) from Bool.false_ne_true)]
  refine wpAny_bind (wpAny_field h1 h3 (x := .int i 0) rfl (wpAny_bind (m := seqItems? (.ref t)) (wpAny_seqItems k1 k2 ?_)))
  simp only [Int.toNat_natCast, hx]
  exact wpAny_bind (wpAny_setField h1 h3 (by simp) (wpAny_pure ⟨x, rfl, wpAny_pure (hQ _ ⟨_, Heap.get?_update_self _ h1 (Obj.isFreed_of_fields (Obj.data_mapFields h3 _)), (Obj.cls_mapFields ..).trans h2, by rw [Obj.data_mapFields h3]; simp [rawInt]⟩ (Heap.SameBut.update ..))⟩))
theorem oY {it t : Addr} {i : Nat} {its : Array Value} {Q : Value -> Shared -> Prop} (hh : A.handled = none) (hi : s.heap.IsTupleIter it t i) (ht : s.heap.IsTuple t its) (hx : its[i]? = none)
    (hE : ∀ h' e, Heap.ExtBut it s.heap h' -> (∃ o, h'.get? e = some o /\ o.cls = .type "StopIteration") -> E (.ref e) { s with heap := h' }) : wpAny (model prog w) A (Builtin.SmallTypes.nextOf (.ref it)) Q E s := by
  obtain ⟨oi, h1, h2, h3⟩ := id hi
  obtain ⟨ot, k1, _, nt, k2⟩ := ht
  unfold Builtin.SmallTypes.nextOf
  refine wpAny_bind (wpAny_callSpecial?_slot (name := Str.ofString "__next__") hi.typeIs F.slot_tuple_iterator_next (wpAny_call_entry F.slot_tuple_iterator_next hi.typeIs F.entry_tuple_iterator_next ?_ (F.args_tuple_iterator_next_1 _)))
  refine wpAny_bind (m := field (.ref it) 0) (wpAny_field h1 h3 (x := .ref t) rfl ?_)
  show wpAny _ _ (if (Value.ref t == Value.none) = true then _ else field (.ref it) 1 >>= _) _ _ s
  rw [if_neg (show ¬ ((Value.ref t == Value.none) = true) from Bool.false_ne_true)]
  refine wpAny_bind (wpAny_field h1 h3 (x := .int i 0) rfl (wpAny_bind (m := seqItems? (.ref t)) (wpAny_seqItems k1 k2 ?_)))
  simp only [Int.toNat_natCast, hx]
  refine wpAny_bind (wpAny_rule (wpAny_bind (wpAny_setField h1 h3 (by simp) (wpAny_bind (m := newExc (.type "StopIteration") []) ?_))))
  simp only [newExc, newTuple]
  refine wpAny_bind (wpAny_newObj_type (wpAny_bind (m := firstArgMember _ _) (wpAny_of_eq (a := Value.none) (by first | rfl | (simp only [firstArgMember]; rfl)) (wpAny_newObj_type ?_ (by size_fits)))) (by size_fits))
  simp only [raiseNew]
  refine wpAny_bind (wpAny_handled ?_)
  first | rw [show A.in1.handled = none from hh] | rw [hh]
  exact wpAny_bind (wpAny_pure (wpAny_throw (hE _ _ (((Heap.SameBut.update ..).extBut.push _).push _) ⟨_, Heap.get?_push_size _ rfl, rfl⟩)))
end
theorem Draws.tup {prog : Program} {w : World} {A : Around} (hh : A.handled = none) (it t : Addr) (hne : t ≠ it) (its : Array Value) : Draws prog w A it [it, t] its.size (fun i v => its[i]? = some v) (fun i h => h.IsTupleIter it t i /\ h.IsTuple t its) where
  live := fun _ _ z => let ⟨o, ho, _⟩ := z.1; ⟨o, ho⟩
  frame := fun _ _ _ z hk => ⟨z.1.at fun o e => hk it (by simp) o e, z.2.at fun o e => hk t (by simp) o e⟩
  item := fun i s Q E hi z hQ => uj z.1 z.2 (x := its[i]) (by simp [hi]) fun h' a b => hQ _ h' s.toks (by simp [hi]) ⟨a, z.2.extBut b.extBut hne⟩ b
  done := fun s Q E z hE => oY hh z.1 z.2 (by simp) hE
section
open AutoSeq1 (wpAny_loadPart')
theorem uB (t : Addr) (its : Array Value) (n : Nat) (dct : Option Addr) (sl : Array (Option Value)) :
    Meets (Builtin.«enumerate.__new__» ⟨[.type "enumerate", .ref t], []⟩) (fun _ R s => s.heap.get? t = some { cls := .type "tuple", dict := dct, data := .seq its n, slots := sl } ∧
      R (.ok (.ret (.ref (s.heap.push { cls := .type "tuple_iterator", data := .fields #[.ref t, .int 0 0] }).objs.size))) { s with heap := (s.heap.push { cls := .type "tuple_iterator", data := .fields #[.ref t, .int 0 0] }).push { cls := .type "enumerate", data := .fields #[.none, .bool false, .ref s.heap.objs.size, rawInt 0, .none, .none] } }) :=
  .of_wp fun prog w A R s z => by
    obtain ⟨hp, gs, dr, tk, os⟩ := s; obtain ⟨ht, z⟩ := z
    have su := sub_enumerate
    have hT : Heap.IsTuple (Shared.heap ⟨hp, gs, dr, tk, os⟩) t its := ⟨_, ht, rfl, n, rfl⟩
    wp_walk using wpAny_loadPart' ht
    refine wpAny_stack_any fun st => wpAny_pure ?_
    split
    · rename_i c _ _ _ _ _
      cases (c == Value.type "enumerate") <;> (wp_walk using wpAny_loadPart' ht, wpAny_pyIter_tuple hT; exact ⟨_, rfl, z⟩)
    · (wp_walk using wpAny_loadPart' ht, wpAny_pyIter_tuple hT); exact ⟨_, rfl, z⟩
end
section
variable {prog : Program} {w : World} {A : Around} {E : Value -> Shared -> Prop} {s : Shared}
theorem EG {t : Addr} {its : Array Value} {Q : Value -> Shared -> Prop} (hT : s.heap.IsTuple t its)
    (q : ∀ h', IsEnum h' (s.heap.objs.size + 1) s.heap.objs.size 0 .none -> h'.IsTupleIter s.heap.objs.size t 0 -> h'.objs.size = s.heap.objs.size + 2 -> (∀ b o, s.heap.get? b = some o -> h'.get? b = some o) -> Q (.ref (s.heap.objs.size + 1)) { s with heap := h' }) :
    wpAny (model prog w) A (call (.type "enumerate") [.ref t]) Q E s := by
  obtain ⟨⟨c, dct, dt, sl⟩, ht, hc, n, hd⟩ := hT
  replace hc : c = .type "tuple" := hc
  replace hd : dt = .seq its n := hd
  subst hc hd
  refine callType_new F.called_enumerate (by decide) (F.typeCall_enumerate_1 _) (F.newCall_enumerate_1 _) (fun obj => F.args_object_init_2 obj _) F.entry_enumerate_new (uB t its n dct sl) ⟨ht, ?_⟩
  have hz : (s.heap.push { cls := .type "tuple_iterator", data := .fields #[.ref t, .int 0 0] }).objs.size = s.heap.objs.size + 1 := Heap.size_push ..
  show _ /\ _
  rw [hz]
  have he : IsEnum ((s.heap.push { cls := .type "tuple_iterator", data := .fields #[.ref t, .int 0 0] }).push { cls := .type "enumerate", data := .fields #[.none, .bool false, .ref s.heap.objs.size, rawInt 0, .none, .none] }) (s.heap.objs.size + 1) s.heap.objs.size 0 .none := by
    have y := Heap.get?_push_size (s.heap.push { cls := .type "tuple_iterator", data := .fields #[.ref t, .int 0 0] }) (o := { cls := .type "enumerate", data := .fields #[.none, .bool false, .ref s.heap.objs.size, rawInt 0, .none, .none] }) rfl
    rw [hz] at y; exact y
  exact ⟨⟨_, he, rfl⟩, q _ he ⟨_, Heap.get?_push_of_some _ (Heap.get?_push_size _ rfl), rfl, rfl⟩ (by rw [Heap.size_push, hz]) fun b o x => Heap.get?_push_of_some _ (Heap.get?_push_of_some _ x)⟩
end
theorem Inv.yielded {X : Cx} {pins : List (Addr × Obj)} {σ : St} {H : Hp} {s : Shared} {fp : List Addr} {T : Addr} {o : HO} {h' : Heap} {t' : Nat} (I : Inv X pins σ H s) (hf : ∀ b ∈ fp, oB X pins H b) (k : ∀ b u, b ∉ fp -> s.heap.get? b = some u -> h'.get? b = some u)
    (hT : s.heap.objs.size <= T) (new : bC X.prog X.w (upd H T o) h' T o) : Inv X pins σ (upd H T o) { s with heap := h', toks := t' } := by
  have nT : ∀ b u, s.heap.get? b = some u -> b ≠ T := fun b u e z => absurd (Heap.lt_size e) (by rw [z]; exact Nat.not_lt.mpr hT)
  have nH : ∀ b u, H b = some u -> b ≠ T := fun b u e z => absurd (I.hok.lt e) (by rw [z]; exact Nat.not_lt.mpr hT)
  have nf : ∀ b u, H b = some u -> b ∉ fp := fun b u e z => by rw [(hf b z).1] at e; cases e
  refine I.vA (s' := { s with heap := h', toks := t' }) (ch := fp) rfl ⟨fun b u e n _ c => k b u c e, fun b u e n _ c => ⟨u.slots, k b u c e⟩, fun b u e n c => by rw [aI (nT b u e)]; exact n, fun b u e c => ⟨u, k b u c e⟩, fun b xs e => by rw [aI (nH b _ e)]; exact e, fun b ob u e => by rw [aI (nH b _ e)]; exact e, fun b ps e => ⟨#[], by rw [aI (nH b _ e), e]; simp⟩⟩ (fun b u e => ?_) I.bare (fun b hb => ?_)
  · by_cases hb : b = T
    · subst hb
      rw [a_] at e
      cases e
      exact new
    · rw [aI hb] at e
      refine (I.hok b u e).ki (fun c v hc q => k c v ?_ q) (fun c q => by rw [aI (nH c _ q)]; exact q) fun c xs q => by rw [aI (nH c _ q)]; exact q
      rcases hc with z | z
      · rw [z]; exact nf b u e
      · exact nf c _ z
  · obtain ⟨_, g1, _, g3, g4, g5⟩ := hf b hb
    exact ⟨g3, g1, g4, g5⟩
theorem Inv.vM {X : Cx} {pins : List (Addr × Obj)} {σ : St} {H : Hp} {s : Shared} {fp : List Addr} {h' : Heap} {t' : Nat} (I : Inv X pins σ H s) (hf : ∀ b ∈ fp, oB X pins H b) (k : ∀ b u, b ∉ fp -> s.heap.get? b = some u -> h'.get? b = some u) : Inv X pins σ H { s with heap := h', toks := t' } := by
  have nf : ∀ b u, H b = some u -> b ∉ fp := fun b u e z => by rw [(hf b z).1] at e; cases e
  refine I.vA (s' := { s with heap := h', toks := t' }) (ch := fp) rfl ⟨fun b u e n _ c => k b u c e, fun b u e n _ c => ⟨u.slots, k b u c e⟩, fun b u e n c => n, fun b u e c => ⟨u, k b u c e⟩, fun b xs e => e, fun b ob u e => e, fun b ps e => ⟨#[], by rw [e]; simp⟩⟩ (fun b u e => ?_) I.bare (fun b hb => ?_)
  · refine (I.hok b u e).ki (fun c v hc q => k c v ?_ q) (fun c q => q) fun c xs q => q
    rcases hc with z | z
    · rw [z]; exact nf b u e
    · exact nf c _ z
  · obtain ⟨_, g1, _, g3, g4, g5⟩ := hf b hb
    exact ⟨g3, g1, g4, g5⟩
noncomputable def Iel (K : PySem.W.Frag) (a : Addr) : It :=
  ⟨fun i H => ∃ xs x, SqL K H a xs /\ xs[i]? = some x, fun i H x H' => ∃ p v, x = .ref p /\ H p = none /\ (∀ xs, SqL K H a xs -> xs[i]? = some v) /\ H' = upd H p (.tup [.int i, v]), fun i H => ∃ xs, SqL K H a xs /\ xs.length <= i⟩
noncomputable def Iet (K : PySem.W.Frag) (a : Addr) : It :=
  ⟨fun i H => ∃ xs x, SqT K H a xs /\ xs[i]? = some x, fun i H x H' => ∃ p v, x = .ref p /\ H p = none /\ (∀ xs, SqT K H a xs -> xs[i]? = some v) /\ H' = upd H p (.tup [.int i, v]), fun i H => ∃ xs, SqT K H a xs /\ xs.length <= i⟩
theorem rq {h : Heap} {e it : Addr} {i : Int} {old : Value} (z : IsEnum h e it i old) : ∃ o, h.get? e = some o /\ ∀ v, o.data ≠ .cell v := ⟨_, z, fun v q => nomatch q⟩
theorem ny {prog : Program} {w : World} {A : Around} {it : Addr} {fp : List Addr} {n : Nat} {P : Nat -> Value -> Prop} {St : Nat -> Heap -> Prop} (D : Draws prog w A.in1 it fp n P St) (e : Addr) (hei : e ≠ it) (hef : e ∉ fp) (i : Nat) (s : Shared) (Q : Option Value -> Shared -> Prop) (E : Value -> Shared -> Prop) (hi : i < n)
    (hst : (∃ old, IsEnum s.heap e it i old) /\ St i s.heap)
    (hQ : ∀ T vals h' tk, (∃ t x, P i x /\ vals = #[.int i t, x]) -> s.heap.objs.size <= T -> lL h' T vals -> ((∃ x, IsEnumOut h' e it ((i : Int) + 1) x T) /\ St (i + 1) h' /\ T ≠ e /\ T ≠ it) -> (∀ b o, b ∉ [e, it] -> s.heap.get? b = some o -> h'.get? b = some o) -> Q (some (.ref T)) { s with heap := h', toks := tk }) :
    wpAny (model prog w) A (pyNext (.ref e)) Q E s := by
  obtain ⟨⟨old, he⟩, hs⟩ := hst
  refine wpAny_pyNext_enum_itemD D he hs hi hei hef fun x h1 tk hP ho hs1 hT _ hk => ?_
  refine hQ s.heap.objs.size #[.int i tk, x] h1 (tk + 1) ⟨tk, x, hP, rfl⟩ (Nat.le_refl _) ⟨_, hT, ⟨rfl, _, rfl⟩, rfl⟩ ⟨⟨_, ho⟩, hs1, Nat.ne_of_gt (Heap.lt_size he), ?_⟩ fun b o hb y => hk b o (fun z => hb (by simp [z])) (fun z => hb (by simp [z])) y
  obtain ⟨_, y⟩ := D.live _ _ hs
  exact Nat.ne_of_gt (Heap.lt_size y)
theorem ug {P : Program} {w : World} {K : PySem.W.Frag} {elts : List Expr} {k : Nat} {pos : Pos} {a it e : Addr} (hei : e ≠ it) : Turn P w K (.Tuple elts k pos) (Iel K a) [e, it] e (fun i h => (∃ old, IsEnum h e it i old) /\ h.IsListIter it a i) where
  mem := by simp
  obj := fun i h z b hb => by
    obtain ⟨⟨old, z1⟩, z2⟩ := z
    rcases List.mem_cons.mp hb with rfl | hb
    · exact rq z1
    · rw [List.mem_singleton.mp hb]
      obtain ⟨o, q, _, d⟩ := z2
      exact ⟨o, q, fun v y => by rw [d] at y; cases y⟩
  keep := fun i h h' z kk => ⟨let ⟨old, z1⟩ := z.1; ⟨old, kk e (by simp) _ z1⟩, z.2.at fun o q => kk it (by simp) o q⟩
  item := by
    intro X hP hw hK hc i pins s σ H E I hf st hg
    subst hP hw hK
    obtain ⟨xs, x, hq, hx⟩ := hg
    obtain ⟨its, rv, p, hz⟩ := I.list hq
    obtain ⟨u, hu, ru⟩ := rv.get hx
    have hl := rv.length
    have plt : a < s.heap.objs.size := by obtain ⟨o, q, _⟩ := p.isList; exact Heap.lt_size q
    have hai : a ≠ it /\ a ≠ e := by
      obtain ⟨oa, qa, ca, _⟩ := p.isList
      obtain ⟨⟨old, z1⟩, oi, qi, ci, _⟩ := st
      exact ⟨(fun q => by rw [q, qi] at qa; cases qa; rw [ci] at ca; injection ca with y; exact absurd y (by decide)), (fun q => by rw [q, z1] at qa; cases qa; injection ca with y; exact absurd y (by decide))⟩
    have DD := (Draws.list (prog := X.prog) (w := X.w) (A := X.A.in1) (I.ok.hd hc) it a hai.1 its.toArray)
    have hef0 : e ∉ [it, a] := by simp; exact ⟨hei, fun q => hai.2 q.symm⟩
    have W := WalksT.enumerateD (prog := X.prog) (w := X.w) (A := X.A) DD e hei hef0 (by simp)
    refine ny DD e hei hef0 i s _ _ (by rw [List.size_toArray, <- hl]; exact (List.getElem?_eq_some_iff.mp hx).1) ⟨st.1, st.2, p.isList⟩ fun T vals h1 tk hv hT ht hm k1 => ?_
    obtain ⟨t, v, hv1, hv2⟩ := hv
    have ev : v = u := by
      have : its[i]? = some v := by simpa using hv1
      rw [hu] at this; exact (Option.some.inj this).symm
    subst ev
    refine ⟨.ref T, rfl, W.go elts k pos i T { s with heap := h1, toks := tk } _ _ hm fun h2 st2 k2 => ?_⟩
    have kk : ∀ b o, b ∉ [e, it] -> s.heap.get? b = some o -> h2.get? b = some o := fun b o hb q => k2 b o hb (k1 b o hb q)
    have hT2 : lL h2 T vals := by
      obtain ⟨o, q, c⟩ := ht
      exact ⟨o, k2 T o (fun z => W.apart _ _ _ hm z) q, c⟩
    have hn : H T = none := I.hok.fresh hT
    have nTf : ∀ b ∈ [e, it], b ≠ T := fun b hb z => by
      have hlt : b < s.heap.objs.size := by
        rcases List.mem_cons.mp hb with rfl | hb
        · obtain ⟨old, z1⟩ := st.1; exact Heap.lt_size z1
        · rw [List.mem_singleton.mp hb]; obtain ⟨o, q, _⟩ := st.2; exact Heap.lt_size q
      rw [z] at hlt; exact absurd hlt (Nat.not_lt.mpr hT)
    refine ⟨.ref T, upd H T (.tup [.int i, x]), I.yielded (t' := tk) hf kk hT ⟨by show 2 <= sizeLine; decide, [.int i t, v], .cons ⟨t, rfl⟩ (.cons ru .nil), ?_⟩, rfl, ⟨T, x, rfl, hn, fun ys hy => by rw [I.mD hy hq]; exact hx, rfl⟩, ⟨st2.1, st2.2.1⟩, fun b hb => by rw [aI (nTf b hb)]; exact (hf b hb).1⟩
    rw [hv2] at hT2; exact hT2
  done := by
    intro X hP hw hK hc i pins s σ H E I hf st hg
    subst hP hw hK
    obtain ⟨xs, hq, hx⟩ := hg
    obtain ⟨its, rv, p, hz⟩ := I.list hq
    obtain ⟨⟨old, z1⟩, z2⟩ := st
    have hl := rv.length
    exact wpAny_pyNext_enum_end (I.ok.hd hc) z1 z2 p.isList (Array.getElem?_eq_none (by rw [List.size_toArray]; omega)) fun h' eb => ⟨rfl, I.vM (t' := s.toks) hf fun b u hb q => eb b u (fun z => hb (by simp [z])) q⟩
  self := fun A i s Q E z q => by
    obtain ⟨⟨old, z1⟩, z2⟩ := z
    exact wpAny_pyIter_enum z1 q
theorem ua {P : Program} {w : World} {K : PySem.W.Frag} {elts : List Expr} {k : Nat} {pos : Pos} {a it e : Addr} (hei : e ≠ it) : Turn P w K (.Tuple elts k pos) (Iet K a) [e, it] e (fun i h => (∃ old, IsEnum h e it i old) /\ h.IsTupleIter it a i) where
  mem := by simp
  obj := fun i h z b hb => by
    obtain ⟨⟨old, z1⟩, z2⟩ := z
    rcases List.mem_cons.mp hb with rfl | hb
    · exact rq z1
    · rw [List.mem_singleton.mp hb]
      obtain ⟨o, q, _, d⟩ := z2
      exact ⟨o, q, fun v y => by rw [d] at y; cases y⟩
  keep := fun i h h' z kk => ⟨let ⟨old, z1⟩ := z.1; ⟨old, kk e (by simp) _ z1⟩, z.2.at fun o q => kk it (by simp) o q⟩
  item := by
    intro X hP hw hK hc i pins s σ H E I hf st hg
    subst hP hw hK
    obtain ⟨xs, x, hq, hx⟩ := hg
    obtain ⟨its, rv, p, hz⟩ := I.tuple hq
    obtain ⟨u, hu, ru⟩ := rv.get hx
    have hl := rv.length
    have plt : a < s.heap.objs.size := by obtain ⟨o, q, _⟩ := (show s.heap.IsTuple a its.toArray from p); exact Heap.lt_size q
    have hai : a ≠ it /\ a ≠ e := by
      obtain ⟨oa, qa, ca, _⟩ := (show s.heap.IsTuple a its.toArray from p)
      obtain ⟨⟨old, z1⟩, oi, qi, ci, _⟩ := st
      exact ⟨(fun q => by rw [q, qi] at qa; cases qa; rw [ci] at ca; injection ca with y; exact absurd y (by decide)), (fun q => by rw [q, z1] at qa; cases qa; injection ca with y; exact absurd y (by decide))⟩
    have DD := (Draws.tup (prog := X.prog) (w := X.w) (A := X.A.in1) (I.ok.hd hc) it a hai.1 its.toArray)
    have hef0 : e ∉ [it, a] := by simp; exact ⟨hei, fun q => hai.2 q.symm⟩
    have W := WalksT.enumerateD (prog := X.prog) (w := X.w) (A := X.A) DD e hei hef0 (by simp)
    refine ny DD e hei hef0 i s _ _ (by rw [List.size_toArray, <- hl]; exact (List.getElem?_eq_some_iff.mp hx).1) ⟨st.1, st.2, (show s.heap.IsTuple a its.toArray from p)⟩ fun T vals h1 tk hv hT ht hm k1 => ?_
    obtain ⟨t, v, hv1, hv2⟩ := hv
    have ev : v = u := by
      have : its[i]? = some v := by simpa using hv1
      rw [hu] at this; exact (Option.some.inj this).symm
    subst ev
    refine ⟨.ref T, rfl, W.go elts k pos i T { s with heap := h1, toks := tk } _ _ hm fun h2 st2 k2 => ?_⟩
    have kk : ∀ b o, b ∉ [e, it] -> s.heap.get? b = some o -> h2.get? b = some o := fun b o hb q => k2 b o hb (k1 b o hb q)
    have hT2 : lL h2 T vals := by
      obtain ⟨o, q, c⟩ := ht
      exact ⟨o, k2 T o (fun z => W.apart _ _ _ hm z) q, c⟩
    have hn : H T = none := I.hok.fresh hT
    have nTf : ∀ b ∈ [e, it], b ≠ T := fun b hb z => by
      have hlt : b < s.heap.objs.size := by
        rcases List.mem_cons.mp hb with rfl | hb
        · obtain ⟨old, z1⟩ := st.1; exact Heap.lt_size z1
        · rw [List.mem_singleton.mp hb]; obtain ⟨o, q, _⟩ := st.2; exact Heap.lt_size q
      rw [z] at hlt; exact absurd hlt (Nat.not_lt.mpr hT)
    refine ⟨.ref T, upd H T (.tup [.int i, x]), I.yielded (t' := tk) hf kk hT ⟨by show 2 <= sizeLine; decide, [.int i t, v], .cons ⟨t, rfl⟩ (.cons ru .nil), ?_⟩, rfl, ⟨T, x, rfl, hn, fun ys hy => by rw [I.kT hy hq]; exact hx, rfl⟩, ⟨st2.1, st2.2.1⟩, fun b hb => by rw [aI (nTf b hb)]; exact (hf b hb).1⟩
    rw [hv2] at hT2; exact hT2
  done := by
    intro X hP hw hK hc i pins s σ H E I hf st hg
    subst hP hw hK
    obtain ⟨xs, hq, hx⟩ := hg
    obtain ⟨its, rv, p, hz⟩ := I.tuple hq
    obtain ⟨⟨old, z1⟩, z2⟩ := st
    have hl := rv.length
    have pt : s.heap.IsTuple a its.toArray := p
    have DD : Draws X.prog X.w X.A.in1 it [it, a] i (fun _ _ => True) (fun j h => j = i /\ h.IsTupleIter it a j /\ h.IsTuple a its.toArray) := {
      live := fun _ _ z => let ⟨o, ho, _⟩ := z.2.1; ⟨o, ho⟩
      frame := fun _ _ _ z hk => ⟨z.1, z.2.1.at fun o e => hk it (by simp) o e, z.2.2.at fun o e => hk a (by simp) o e⟩
      item := fun j s Q E hj z hQ => absurd z.1 (Nat.ne_of_lt hj)
      done := fun s Q E z hE => oY (I.ok.hd hc) z.2.1 z.2.2 (Array.getElem?_eq_none (by rw [List.size_toArray]; omega)) hE }
    exact wpAny_pyNext_enum_endD DD z1 ⟨rfl, z2, pt⟩ fun h' eb => ⟨rfl, I.vM (t' := s.toks) hf fun b u hb q => eb b u (fun z => hb (by simp [z])) q⟩
  self := fun A i s Q E z q => by
    obtain ⟨⟨old, z1⟩, z2⟩ := z
    exact wpAny_pyIter_enum z1 q
noncomputable def EF (K : PySem.W.Frag) (tl : TE) : TI := fun σ H R => tl σ H fun x H1 => ∃ a, x = .ref a /\ (((∃ xs, SqL K H1 a xs) /\ R (Iel K a) H1) \/ ((∃ xs, SqT K H1 a xs) /\ R (Iet K a) H1))
theorem AJ {X : Cx} {elts : List Expr} {kt : Nat} {tp p pos : Pos} {l : Expr} {tl : TE} (hg : Gl X "enumerate") (hm : X.mg "enumerate" = none) (hl : PE X l tl) (hs : starEach [l] X.env = [(false, eval l X.env)] := by rfl) :
    PI X (.Tuple elts kt tp) (.Call (.Name "enumerate" p) [l] [] pos) (EF X.K tl) := by
  intro pins s σ H R I h
  have h' : BJ tl EO σ H (fun vs H1 => match vs with
    | [x] => ∃ a, x = .ref a /\ (((∃ xs, SqL X.K H1 a xs) /\ R (Iel X.K a) H1) \/ ((∃ xs, SqT X.K H1 a xs) /\ R (Iet X.K a) H1))
    | _ => False) := h
  refine Call_ (kz I hg hm PyProof.Rows.boot_enumerate (PyProof.Rows.callWith_type1 (thn (iT hl nc hs pos pins s σ H _ I h') fun us s1 ⟨vs, H1, I1, r1, q1⟩ => ?_) hs rfl))
  cases r1 with
  | nil => exact q1.elim
  | cons r rr =>
    cases rr with
    | cons _ _ => exact q1.elim
    | nil =>
      obtain ⟨a, rfl, q⟩ := q1
      cases r
      have fp : ∀ {h' : Heap}, ∀ b ∈ [s1.heap.objs.size + 1, s1.heap.objs.size], oB X pins H1 b := fun {h'} b hb => by
        have hb' : s1.heap.objs.size <= b := by
          rcases List.mem_cons.mp hb with z | hb
          · omega
          · have := List.mem_singleton.mp hb; omega
        exact I1.A5 hb' (I1.hok.fresh hb')
      rcases q with ⟨⟨xs, hq⟩, q⟩ | ⟨⟨xs, hq⟩, q⟩
      · obtain ⟨its, rv, pl, hz⟩ := I1.list hq
        refine call_enumerate_list pl.isList fun h2 z1 z2 hsz kp => wpAny_pyIter_enum (s := { s1 with heap := h2 }) z1 ?_
        exact ⟨s1.heap.objs.size + 1, [s1.heap.objs.size + 1, s1.heap.objs.size], _, _, H1, rfl, I1.kept (t' := s1.toks) kp, ug (a := a) (Nat.succ_ne_self _), ⟨⟨_, z1⟩, z2⟩, fp (h' := h2), q⟩
      · obtain ⟨its, rv, pl, hz⟩ := I1.tuple hq
        refine EG (show s1.heap.IsTuple a its.toArray from pl) fun h2 z1 z2 hsz kp => wpAny_pyIter_enum (s := { s1 with heap := h2 }) z1 ?_
        exact ⟨s1.heap.objs.size + 1, [s1.heap.objs.size + 1, s1.heap.objs.size], _, _, H1, rfl, I1.kept (t' := s1.toks) kp, ua (a := a) (Nat.succ_ne_self _), ⟨⟨_, z1⟩, z2⟩, fp (h' := h2), q⟩
noncomputable def yf (nt : Nat) (ix : List Nat) (σ : St) : St := List.replicate nt none ++ ix.map fun i => (σ[i]?).join
noncomputable def tj (nt : Nat) (ix : List Nat) (σ σ' : St) : Prop := ∃ ts : St, ts.length = nt /\ σ' = ts ++ ix.map fun i => (σ[i]?).join
noncomputable abbrev Cu (J : It) (nt : Nat) (ix : List Nat) (σ : St) (tg : TG) (tt : TT) (te : TE) (acc : Addr) (H1 : Hp) (Q : VK) : Prop :=
  ∃ W : Nat -> Nat -> List V -> Hp -> Prop, (∃ m, W 0 m [] (upd H1 acc (.lst []))) /\ ∀ i m ys H, W i m ys H →
    (J.stop i H /\ Q (.ref acc) H) \/ (J.go i H /\ ∀ σ0 x H', tj nt ix σ σ0 -> J.yld i H x H' -> tg x σ0 H' fun σ2 Hn => tj nt ix σ σ2 /\ tt σ2 Hn fun b H2 => if b = true then te σ2 H2 fun y H3 =>
        H3 acc = some (.lst ys) /\ ys.length < sizeLine /\ ∃ m', m' < m /\ W (i + 1) m' (ys ++ [y]) (upd H3 acc (.lst (ys ++ [y])))
      else ∃ m', m' < m /\ W (i + 1) m' ys H2)
noncomputable def pO (wi : TI) (nt : Nat) (ix : List Nat) (tg : TG) (tt : TT) (te : TE) : TE := fun σ H Q => wi σ H fun J H1 => ∀ acc, H1 acc = none -> Cu J nt ix σ tg tt te acc H1 Q
theorem o8 {X : Cx} {use : Option (Value -> Sem Unit)} {Q2 : Value -> Shared -> Prop} {pins : List (Addr × Obj)} {s : Shared} {σ : St} {H : Hp} {Q : VK} {elt iter tg : Expr} {tn' : List Str} {tgr : TG} {ifs : List Expr} {scope osc : Scope} {pos : Pos} {wi : TI} {tt : TT} {te : TE} (ix : List Nat) (N' : List Str)
    (hxe : X.xe = fun _ _ => False) (hc : X.calm = true) (ho : X.env.scope = osc) (hN : N' = tn' ++ ix.map fun i => (X.N[i]?).getD ("" : Str)) (hnd : N'.Nodup)
    (hall : (∀ y ∈ scope.names, y.2 = .free -> osc.names.lookup y.1 = some .cell) /\ (∀ y ∈ scope.names, y.2 ≠ .cell) /\ scope.kind = .function /\ (∀ y ∈ scope.names, y.2 = .local -> scope.names.lookup y.1 = some .local) /\ (∀ y ∈ N'.drop tn'.length, scope.names.lookup y = some .free))
    (hi : PI X tg iter wi) (hg : ∀ cl C aM aX fp, PG (cP X scope cl C aM aX fp N') tg tgr)
    (ht : ∀ cl C aM aX fp, PTs (cP X scope cl C aM aX fp N') ifs tt)
    (he : ∀ cl C aM aX fp, PE (cP X scope cl C aM aX fp N') elt te)
    (hs : ∀ x, foldedSetIterable iter X.env x = pure x) (I : Inv X pins σ H s) (h : pO wi tn'.length ix tgr tt te σ H Q)
    (hfin : ∀ (acc C : Addr) (H5 : Hp) (s5 : Shared) (o : Obj), Inv X (pins ++ [(C, o)]) σ H5 s5 -> (∀ x c, X.env.cells.lookup x = some c -> c ≠ C) -> X.aM.heap.objs.size <= C -> (∀ p ∈ X.pn ++ pins, p.1 ≠ C) -> (∃ m, ∀ h' : Heap, h'.get? C = some o -> h'.Ns C m) -> Q (.ref acc) H5 -> compPost (model X.prog X.w) X.A X.xe use Q2 (.ref acc) C (.ok .next) s5) :
    wpAny (model X.prog X.w) X.A (comprehension (.ListComp elt [⟨tg, iter, ifs, 0⟩] scope pos) scope X.env (firstIterPos [⟨tg, iter, ifs, 0⟩] pos) (newList []) false (eval iter X.env) use) Q2 X.xe s := by
  obtain ⟨hfr, hcell, hkind, hnames, hcap⟩ := hall
  subst ho
  have outc : ∀ y ∈ scope.names, y.2 = .free -> X.env.kindOf y.1 = some .cell := fun y hy q => hfr y hy q
  obtain ⟨cl, hclos, hcl1, hcl2⟩ := oz (env := X.env) (scope := scope) fun y hy q => I.ok.has y.1 (.inl (outc y hy q))
  refine wpAny_comprehension_free (use := use) rfl hs hclos hkind hnames (thn (hi pins s σ H _ I h) fun v s1 h1 => thn h1 fun itv s2 h2 => ?_)
  obtain ⟨it, fp, tn, J, H2, e, I2, T, st2, f2, rest⟩ := h2
  subst e
  have hf2 : H2 s2.heap.objs.size = none := I2.hok.fresh (Nat.le_refl _)
  obtain ⟨W, ⟨m0, w0⟩, turn⟩ := rest s2.heap.objs.size hf2
  -- the list
  refine wpAny_newObj_type ?_
  have I3 : Inv X pins σ (upd H2 s2.heap.objs.size (.lst [])) { s2 with heap := s2.heap.push { cls := .type "list", dict := none, data := .seq ([] : List Value).toArray } } := I2.Ds (its := []) (t' := s2.toks) .nil (Nat.zero_le _)
  have keep3 : ∀ b o, s2.heap.get? b = some o -> (s2.heap.push { cls := .type "list", dict := none, data := .seq ([] : List Value).toArray }).get? b = some o := fun b o q => Heap.get?_push_of_some _ q
  have fp3 : ∀ b ∈ fp, ∃ o, s2.heap.get? b = some o /\ ∀ v, o.data ≠ .cell v := T.obj _ _ st2
  have st3 : tn 0 (s2.heap.push { cls := .type "list", dict := none, data := .seq ([] : List Value).toArray }) := T.keep _ _ _ st2 fun b _ o q => keep3 b o q
  have fpn : ∀ b ∈ fp, (upd H2 s2.heap.objs.size (HO.lst [])) b = none := fun b hb => by
    obtain ⟨o, q, _⟩ := fp3 b hb
    rw [aI (Nat.ne_of_lt (Heap.lt_size q))]
    exact (f2 b hb).1
  revert I3 keep3 st3 fpn w0
  generalize hS3 : ({ s2 with heap := s2.heap.push { cls := .type "list", dict := none, data := .seq ([] : List Value).toArray } } : Shared) = s3
  generalize hH3 : upd H2 s2.heap.objs.size (HO.lst []) = H3
  intro w0 I3 keep3 st3 fpn
  have acc3 : H3 s2.heap.objs.size = some (.lst []) := by rw [<- hH3]; exact a_
  generalize s2.heap.objs.size = acc at *
  have e3 : s2.heap.push { cls := .type "list", dict := none, data := .seq ([] : List Value).toArray } = s3.heap := by rw [<- hS3]
  have keep3' : ∀ b o, s2.heap.get? b = some o -> s3.heap.get? b = some o := fun b o q => by rw [<- e3]; exact keep3 b o q
  have st3' : tn 0 s3.heap := by rw [<- e3]; exact st3
  refine wpAny_newFunctionEnv hcell (by intro y hy; simp at hy) (fun h₁ hns₁ hsb₁ => ?_) hkind
  have hC : s3.heap.objs.size = s3.heap.objs.size := rfl
  have keep4 : ∀ b o, s3.heap.get? b = some o -> h₁.get? b = some o := fun b o q => hsb₁.extBut b o (Nat.ne_of_lt (Heap.lt_size q)) (Heap.get?_push_of_some _ q)
  have fpC : ∀ b ∈ fp, b ≠ s3.heap.objs.size := fun b hb => by
    obtain ⟨o, q, _⟩ := fp3 b hb
    exact Nat.ne_of_lt (Heap.lt_size (keep3' b o q))
  -- the block's context
  generalize hX' : cP X scope cl s3.heap.objs.size s3 H3 fp N' = X'
  have hXp : X'.prog = X.prog := by rw [<- hX']; rfl
  have hXw : X'.w = X.w := by rw [<- hX']; rfl
  have hXK : X'.K = X.K := by rw [<- hX']; rfl
  have hXA : X'.A = X.A := by rw [<- hX']; rfl
  have hXe : X'.env = compEnvC scope cl s3.heap.objs.size X.env := by rw [<- hX']; rfl
  have hXc : X'.calm = true := by rw [<- hX']; exact hc
  have hXx : X'.xe = fun _ _ => False := by rw [<- hX']; exact hxe
  have hXf : X'.fs = frs X.stack := by rw [<- hX']; rfl
  have hXex : X'.ex = fp := by rw [<- hX']; rfl
  have hXN : X'.N = N' := by rw [<- hX']; rfl
  have hXs : X'.aM = s3 := by rw [<- hX']; rfl
  have hXH : X'.aX = H3 := by rw [<- hX']; rfl
  have hXpn : X'.pn = [] := by rw [<- hX']; rfl
  have okX : X'.Ok := by
    rw [<- hX']
    refine ⟨I3.ok.mod, hkind, I3.ok.glob, I3.ok.blt, Nat.le_refl _, fun a b c p q => I3.ok.inj a b c (hcl1 a c p) (hcl1 b c q), fun y hy => ?_, fun _ _ z => (by cases z), I3.ok.hd, I3.ok.frames, .inl rfl, fun b hb => ⟨fpC b hb, fun y c p => (f2 b hb).2.2.2.2.1 y c (hcl1 y c p)⟩,
      I3.bs, Nat.le_trans I3.ok.bsz I3.sz, fun b o p hb => ?_, fun b hb z => ?_, I3.stack, I3.vJ⟩
    · have hy' : (relabel scope X.env).names.lookup y = some .cell \/ (relabel scope X.env).names.lookup y = some .free := hy
      have free : scope.names.lookup y = some .free -> ∃ c, cl.lookup y = some c := fun q => hcl2 y (lookup_mem q)
      rcases hy' with q | q
      · rcases gJ q with z | ⟨z, _⟩
        · exact absurd rfl (hcell _ (lookup_mem z))
        · exact free z
      · rcases gJ q with z | ⟨_, z⟩
        · exact free z
        · cases z
    · rcases (f2 b hb).2.2.2.1 with z | z
      · exact I3.ok.yt b o p z
      · exact absurd (Nat.lt_of_lt_of_le (Heap.lt_size p) (Nat.le_trans I3.ok.bsz z)) (Nat.lt_irrefl _)
    · rcases List.mem_cons.mp (I3.pY b z) with q | q
      · exact (f2 b hb).2.1 q
      · exact (f2 b hb).2.2.1 q
  have I4 : ∀ tk, Inv X' [] (yf tn'.length ix σ) H3 { s3 with heap := h₁, toks := tk } := fun tk => by
    have hloc := I3.loc
    refine ⟨okX, by rw [hXs], I3.bare, ?_, ⟨fun y => ([] : List (Str × Value)).reverse.lookup y, by rw [hXe]; exact hns₁, fun i y v e1 e2 e3 => ?_⟩, fun y c p => ?_, ?_, fun y c p => ?_, fun p hp => ?_, ?_, ?_⟩
    · rw [hXf, hXex, hXH, hXs]; exact Un.kept keep4
    · rw [hXN, hN] at e1
      by_cases hit' : i < tn'.length
      · exfalso
        unfold yf at e2
        rw [List.getElem?_append_left (by simpa using hit'), List.getElem?_replicate, if_pos hit'] at e2
        cases e2
      · have e10 : N'[i]? = some y := by rw [hN]; exact e1
        obtain ⟨j, rfl⟩ : ∃ j, i = tn'.length + j := ⟨i - tn'.length, by omega⟩
        have e1' : (ix.map fun i => (X.N[i]?).getD ("" : Str))[j]? = some y := by
          rw [List.getElem?_append_right (by omega)] at e1
          rw [show tn'.length + j - tn'.length = j by omega] at e1
          exact e1
        have e2' : (ix.map fun i => (σ[i]?).join)[j]? = some (some v) := by
          unfold yf at e2
          rw [List.getElem?_append_right (by simp)] at e2
          simpa using e2
        rw [List.getElem?_map] at e1' e2'
        cases hj : ix[j]? with
        | none => rw [hj] at e1'; cases e1'
        | some i0 =>
          rw [hj] at e1' e2'
          have e1'' : (X.N[i0]?).getD ("" : Str) = y := by simpa using e1'
          have e2'' : (σ[i0]?).join = some v := by simpa using e2'
          have hsv : σ[i0]? = some (some v) := by
            cases q : σ[i0]? with
            | none => rw [q] at e2''; cases e2''
            | some z => rw [q] at e2''; have : z = some v := by simpa using e2''
                        rw [this]
          have hlt : i0 < X.N.length := by
            have := (List.getElem?_eq_some_iff.mp hsv).1
            rw [I3.len] at this; exact this
          have hNy : X.N[i0]? = some y := by
            rw [List.getElem?_eq_getElem hlt] at e1'' ⊢
            simpa using e1''
          have hyt : y ∈ N'.drop tn'.length := by
            refine List.mem_of_getElem? (i := j) ?_
            rw [List.getElem?_drop]; exact e10
          have hyf := hcap y hyt
          have hyc := outc (y, .free) (lookup_mem hyf) rfl
          obtain ⟨m, hn, hl⟩ := hloc
          obtain ⟨u, r, l⟩ := hl i0 y v hNy hsv (.inr (.inl hyc))
          refine ⟨u, r, ?_⟩
          rcases l with ⟨k1, _⟩ | ⟨_, c, p, z⟩
          · have hyc' : X.env.kindOf y = some .cell := hyc
            rw [k1] at hyc'; cases hyc'
          · obtain ⟨c', p'⟩ := hcl2 y (lookup_mem hyf)
            have pc : c' = c := by
              have := hcl1 y c' p'
              rw [p] at this; cases this; rfl
            subst pc
            refine .inr ⟨.inl ?_, c', by rw [hXe]; exact p', ?_⟩
            · rw [hXe]; exact eT I3.ok.kind hyf hyc
            · obtain ⟨o, q1, q2⟩ := z
              exact ⟨o, keep4 c' o q1, q2⟩
    · rw [hXe] at p
      obtain ⟨v, o, q1, q2⟩ := I3.cell y c (hcl1 y c p)
      exact ⟨v, o, keep4 c o q1, q2⟩
    · rw [hXe]; exact I3.hok.fresh (Nat.le_refl _)
    · rw [hXe] at p; exact I3.hX y c (hcl1 y c p)
    · rw [hXpn] at hp; cases hp
    · rw [hXp, hXw]; exact I3.hok.kept keep4
    · rw [hXN, hN]; simp [yf]
  -- the loop
  have stat : ∀ {H' : Hp}, (∀ b ∈ fp, H' b = none) -> ∀ b ∈ fp, oB X' [] H' b := fun hn b hb => by
    refine ⟨hn b hb, by rw [hXe]; exact fpC b hb, ?_, .inl (by rw [hXex]; exact hb), fun y c p => ?_, fun p hp => by rw [hXpn] at hp; cases hp⟩
    · rw [hXf]; intro z
      rcases List.mem_cons.mp (I3.pY b z) with q | q
      · exact (f2 b hb).2.1 q
      · exact (f2 b hb).2.2.1 q
    · rw [hXe] at p; exact (f2 b hb).2.2.2.2.1 y c (hcl1 y c p)
  have fin : ∀ {H5 : Hp} {s5 : Shared} {σ5 : St}, Inv X' [] σ5 H5 s5 -> Q (.ref acc) H5 -> compPost (model X.prog X.w) X.A X.xe use Q2 (.ref acc) s3.heap.objs.size (.ok .next) s5 := fun {H5 s5 σ5} I5 q => by
    obtain ⟨m, hn, _⟩ := I5.loc
    rw [hXe] at hn
    have hn' : s5.heap.Ns s3.heap.objs.size m := hn
    obtain ⟨oC, esC, epC, hC1, hC2, hC3⟩ := hn'
    have u5 := I5.base
    rw [hXf, hXex, hXH, hXs] at u5
    have fr : H5 s3.heap.objs.size = none := by have := I5.free; rw [hXe] at this; exact this
    have hok5 := I5.hok
    rw [hXp, hXw] at hok5
    have hos : s5.os = s3.os := by have := I5.os; rw [hXs] at this; exact this
    have IX : Inv X pins σ H5 s5 := I3.vA (s' := s5) (ch := fp) hos u5 hok5 I5.bare (fun b hb => by
      obtain ⟨g0, g1, g2, g3, g4, g5⟩ := f2 b hb
      exact ⟨g3, g1, g4, g5⟩)
    have cC : ∀ x c, X.env.cells.lookup x = some c -> c ≠ s3.heap.objs.size := fun x c z e => by
      obtain ⟨v, q⟩ := I3.cell x c z
      exact absurd q.lt (by rw [e]; exact Nat.lt_irrefl _)
    have pC : ∀ p ∈ X.pn ++ pins, p.1 ≠ s3.heap.objs.size := fun p hp e => by
      have := Heap.lt_size (I3.pin p hp).1
      rw [e] at this
      exact Nat.lt_irrefl _ this
    refine hfin acc s3.heap.objs.size H5 s5 oC (IX.mj fun p hp => ?_) cC I3.sz pC ⟨m, fun h' z => ⟨oC, esC, epC, z, hC2, hC3⟩⟩ q
    rcases List.mem_append.mp hp with z | z
    · exact IX.pin p (List.mem_append_right _ z)
    · have e := List.mem_singleton.mp z
      subst e
      refine ⟨hC1, fr, Nat.ne_of_gt I3.lt, I3.EW (Nat.le_refl _), fun v e => ?_⟩
      have e' : oC.data = .cell v := e
      rw [hC2] at e'; cases e'
  have loop : ∀ tk, codeAny (model X.prog X.w) X.A (.compLoop (.ListComp elt [⟨tg, iter, ifs, 0⟩] scope pos) 0 (.ref it) (.ref acc) (compEnvC scope cl s3.heap.objs.size X.env))
      (compPost (model X.prog X.w) X.A X.xe use Q2 (.ref acc) s3.heap.objs.size) { s3 with heap := h₁, toks := tk } := fun tk => by
    refine rY (fun n s' => ∃ i ys σ' H', Inv X' [] σ' H' s' /\ tj tn'.length ix σ σ' /\ tn i s'.heap /\ (∀ b ∈ fp, H' b = none) /\ W i n ys H') (fun n s5 h5 => ?_) m0
      ⟨0, [], yf tn'.length ix σ, H3, I4 tk, ⟨_, List.length_replicate, rfl⟩, T.keep _ _ _ st3' fun b _ o q => keep4 b o q, fpn, w0⟩
    obtain ⟨i, ys, σ5, H5, I5, hσ, st5, fr5, w5⟩ := h5
    rcases turn i n ys H5 w5 with ⟨stop, q⟩ | ⟨go, step⟩
    · have d := T.done X' hXp hXw hXK hXc i [] s5 σ5 H5 (fun _ _ => False) I5 (stat fr5) st5 stop
      rw [hXA] at d
      refine thn d fun r s6 ⟨hr, I6⟩ => ?_
      subst hr
      exact fin I6 q
    · have d := T.item X' hXp hXw hXK hXc i [] s5 σ5 H5 (fun _ _ => False) I5 (stat fr5) st5 go
      rw [hXA] at d
      refine thn d fun r s6 ⟨u, hr, h6⟩ => ?_
      subst hr
      refine thn h6 fun _ s7 ⟨z, H7, I7, r7, y7, st7, fr7⟩ => ?_
      have I7' := I7.pinned (stat fr7) (T.obj _ _ st7)
      have again : ∀ {H9 : Hp} {s9 : Shared} {ys9 : List V} {σ9 : St}, Inv X' ([] ++ mT fp s7.heap) σ9 H9 s9 -> tj tn'.length ix σ σ9 -> (∃ m', m' < n /\ W (i + 1) m' ys9 H9) -> ∃ m', m' < n /\ ∃ i ys σ' H', Inv X' [] σ' H' s9 /\ tj tn'.length ix σ σ' /\ tn i s9.heap /\ (∀ b ∈ fp, H' b = none) /\ W i m' ys H' := fun {H9 s9 ys9 σ9} I9 c9 ⟨m', hm, w9⟩ => by
        refine ⟨m', hm, i + 1, ys9, _, H9, I9.jO, c9, T.keep _ _ _ st7 fun b hb o e => (I9.pin (b, o) (List.mem_append_right _ (List.mem_append_right _ (gL hb e)))).1, fun b hb => ?_, w9⟩
        obtain ⟨o, e, _⟩ := T.obj _ _ st7 b hb
        exact (I9.pin (b, o) (List.mem_append_right _ (List.mem_append_right _ (gL hb e)))).2.1
      have ht' := ht cl s3.heap.objs.size s3 H3 fp
      have he' := he cl s3.heap.objs.size s3 H3 fp
      have hg' := hg cl s3.heap.objs.size s3 H3 fp
      rw [hX'] at ht' he' hg'
      rw [<- hXe]
      have a0 := hg' _ s7 σ5 H7 z u _ I7' r7 (step σ5 z H7 hσ y7)
      rw [hXp, hXw, hXA, hXx] at a0
      refine thn a0 fun _ s8 ⟨σ8, H8, I8, c8, q8⟩ => ?_
      have a1 := ht' _ s8 _ H8 _ I8 q8
      rw [hXp, hXw, hXA, hXx] at a1
      refine thn a1 fun b s9 ⟨H9, I9, q9⟩ => ?_
      cases b with
      | false => exact again I9 c8 q9
      | true =>
        have a2 := he' _ s9 _ H9 _ I9 q9
        rw [hXp, hXw, hXA, hXx] at a2
        refine thn a2 fun yv s10 ⟨y, H10, I10, r10, q1, q2, q3⟩ => ?_
        have a3 := oU (X := X') _ s10 _ H10 (.ref acc) [y] (.ref acc) [yv] (fun _ Hq => ∃ m', m' < n /\ W (i + 1) m' (ys ++ [y]) Hq) I10 rfl (.cons r10 .nil) ⟨acc, ys, y, rfl, rfl, q1, q2, q3⟩
        rw [hXp, hXw, hXA, hXx] at a3
        exact thn a3 fun _ s11 ⟨_, H11, I11, _, q11⟩ => again I11 c8 q11
  refine codeAny_compStart_list (loop _) ?_
  exact T.self _ 0 _ _ _ (T.keep _ _ _ st3' fun b _ o q => keep4 b o q) (loop _)
section
variable {X : Cx} {elt iter tg : Expr} {tn' : List Str} {tgr : TG} {ifs : List Expr} {scope osc : Scope} {pos : Pos} {wi : TI} {tt : TT} {te : TE}
theorem zi (ix : List Nat) (tn' N' : List Str)
    (hxe : X.xe = fun _ _ => False) (hc : X.calm = true) (ho : X.env.scope = osc) (hN : N' = tn' ++ ix.map fun i => (X.N[i]?).getD ("" : Str)) (hnd : N'.Nodup)
    (hall : (∀ y ∈ scope.names, y.2 = .free -> osc.names.lookup y.1 = some .cell) /\ (∀ y ∈ scope.names, y.2 ≠ .cell) /\ scope.kind = .function /\ (∀ y ∈ scope.names, y.2 = .local -> scope.names.lookup y.1 = some .local) /\ (∀ y ∈ N'.drop tn'.length, scope.names.lookup y = some .free))
    (hi : PI X tg iter wi) (hg : ∀ cl C aM aX fp, PG (cP X scope cl C aM aX fp N') tg tgr)
    (ht : ∀ cl C aM aX fp, PTs (cP X scope cl C aM aX fp N') ifs tt)
    (he : ∀ cl C aM aX fp, PE (cP X scope cl C aM aX fp N') elt te)
    (hs : ∀ x, foldedSetIterable iter X.env x = pure x := by intro _; rfl) :
    PE X (.ListComp elt [⟨tg, iter, ifs, 0⟩] scope pos) (pO wi tn'.length ix tgr tt te) := by
  intro pins s σ H Q I h
  have e : eval (.ListComp elt [⟨tg, iter, ifs, 0⟩] scope pos) X.env = comprehension (.ListComp elt [⟨tg, iter, ifs, 0⟩] scope pos) scope X.env (firstIterPos [⟨tg, iter, ifs, 0⟩] pos) (newList []) false (eval iter X.env) none := by
    rw [eval_ListComp]; rfl
  rw [e]
  refine o8 (use := none) (Q2 := EP X pins σ Q) ix N' hxe hc ho hN hnd hall hi hg ht he hs I h fun acc C H5 s5 o I5 cC hC pC hm q => ?_
  obtain ⟨m, hm⟩ := hm
  exact ⟨m, hm _ (I5.pin (C, o) (List.mem_append_right _ (List.mem_append_right _ (List.mem_singleton.mpr rfl)))).1, fun h' hs' => ⟨.ref acc, H5, I5.D7 cC hC pC hs', rfl, q⟩⟩
theorem rZ {y : Str} {py spos : Pos} {i : Nat} (ix : List Nat) (tn' N' : List Str)
    (hxe : X.xe = fun _ _ => False) (hc : X.calm = true) (ho : X.env.scope = osc) (hN : N' = tn' ++ ix.map fun i => (X.N[i]?).getD ("" : Str)) (hnd : N'.Nodup)
    (hall : (∀ y ∈ scope.names, y.2 = .free -> osc.names.lookup y.1 = some .cell) /\ (∀ y ∈ scope.names, y.2 ≠ .cell) /\ scope.kind = .function /\ (∀ y ∈ scope.names, y.2 = .local -> scope.names.lookup y.1 = some .local) /\ (∀ y ∈ N'.drop tn'.length, scope.names.lookup y = some .free))
    (hi : PI X tg iter wi) (hg : ∀ cl C aM aX fp, PG (cP X scope cl C aM aX fp N') tg tgr)
    (ht : ∀ cl C aM aX fp, PTs (cP X scope cl C aM aX fp N') ifs tt)
    (he : ∀ cl C aM aX fp, PE (cP X scope cl C aM aX fp N') elt te)
    (hNN : X.N.Nodup) (hy : X.N[i]? = some y) (hl : X.env.scope.names.lookup y = some .local)
    (hsw : swapsWith (.ListComp elt [⟨tg, iter, ifs, 0⟩] scope pos) (some (.Name y py)) spos.line X.env = pure true := by rfl)
    (hs : ∀ x, foldedSetIterable iter X.env x = pure x := by intro _; rfl) :
    PS X (.Assign [.Name y py] (.ListComp elt [⟨tg, iter, ifs, 0⟩] scope pos) spos) (Cb (pO wi tn'.length ix tgr tt te) (jP i)) := by
  intro pins s σ H D I h
  rw [exec_Assign_Name_used _ _ _ _ hsw]
  refine wpAny_bind (wpAny_standAt ?_)
  show wpAny _ _ (evalThenUse (.ListComp elt [⟨tg, iter, ifs, 0⟩] scope pos) X.env (assign (.Name y py) X.env) >>= fun _ => pure Flow.next) _ _ _
  refine wpAny_bind ?_
  show wpAny _ _ (comprehension (.ListComp elt [⟨tg, iter, ifs, 0⟩] scope pos) scope X.env (firstIterPos [⟨tg, iter, ifs, 0⟩] pos) (newList []) false (eval iter X.env) (some (assign (.Name y py) X.env)) >>= fun _ => pure ()) _ _ _
  refine wpAny_bind (o8 (use := some (assign (.Name y py) X.env)) ix N' hxe hc ho hN hnd hall hi hg ht he hs I h fun acc C H5 s5 o I5 cC hC pC hm q => ?_)
  obtain ⟨m, hm⟩ := hm
  refine wpAny_assign_Name (jU (i := i) (v := .ref acc) I5 hNN hy (.inl hl) rfl (fun s6 I6 => ?_) (.inr hl))
  refine ⟨m, hm _ (I6.pin (C, o) (List.mem_append_right _ (List.mem_append_right _ (List.mem_singleton.mpr rfl)))).1, fun h' hs' => ?_⟩
  exact wpAny_pure (wpAny_pure ⟨_, H5, I6.D7 cC hC pC hs', q⟩)
end
section
variable {κ : Type} [DecidableEq κ]
noncomputable def jC (kvs : List (κ × V)) (k : κ) : Option V := (kvs.find? fun kv => decide (kv.1 = k)).map (·.2)
noncomputable def putK (kvs : List (κ × V)) (k : κ) (v : V) : List (κ × V) :=
  if (kvs.any fun kv => decide (kv.1 = k)) = true then kvs.map (fun kv => if kv.1 = k then (kv.1, v) else kv) else kvs ++ [(k, v)]
theorem jH {p : κ × V} {r : List (κ × V)} {k : κ} (e : p.1 = k) : jC (p :: r) k = some p.2 := by simp [jC, List.find?_cons, e]
theorem jK {p : κ × V} {r : List (κ × V)} {k : κ} (e : ¬ p.1 = k) : jC (p :: r) k = jC r k := by simp [jC, List.find?_cons, e]
theorem sG (k : κ) : ∀ kvs : List (κ × V), (kvs.any fun kv => decide (kv.1 = k)) = (jC kvs k).isSome
  | [] => rfl
  | p :: r => by
    rw [List.any_cons]
    by_cases e : p.1 = k
    · simp only [jH e, decide_eq_true e, Bool.true_or, Option.isSome_some]
    · rw [jK e, decide_eq_false e, Bool.false_or]; exact sG k r
theorem lB (kvs : List (κ × V)) (k : κ) (v : V) : (putK kvs k v).length <= kvs.length + 1 := by
  unfold putK
  split
  · rw [List.length_map]; omega
  · rw [List.length_append, List.length_cons, List.length_nil]; omega
theorem mC.kQ {o : Option V} {u : Option Value} (r : mC o u) : o.isSome = u.isSome := by
  cases o with
  | none => cases u with
    | none => rfl
    | some _ => exact (show False from r).elim
  | some _ => cases u with
    | none => exact (show False from r).elim
    | some _ => rfl
theorem KV.val {kvs : List (κ × V)} {vs : List (κ × Value)} (r : KV kvs vs) (k : κ) : mC (jC kvs k) (valueAt vs k) := by
  unfold KV at r
  induction r with
  | nil => exact True.intro
  | @cons p q ps qs h t ih =>
    obtain ⟨h1, h2⟩ := h
    by_cases e : p.1 = k
    · have e' : q.1 = k := h1.symm.trans e
      have b : valueAt (q :: qs) k = some q.2 := by simp [valueAt, List.find?_cons, e']
      rw [jH e, b]; exact h2
    · have e' : ¬ q.1 = k := fun z => e (h1.trans z)
      have b : valueAt (q :: qs) k = valueAt qs k := by simp [valueAt, List.find?_cons, e']
      rw [jK e, b]; exact ih
theorem KV.any {kvs : List (κ × V)} {vs : List (κ × Value)} (r : KV kvs vs) (k : κ) : (kvs.any fun kv => decide (kv.1 = k)) = vs.any fun kv => decide (kv.1 = k) := by
  unfold KV at r
  induction r with
  | nil => rfl
  | cons h t ih => rw [List.any_cons, List.any_cons, ih, h.1]
theorem KV.wx {kvs : List (κ × V)} {vs : List (κ × Value)} (r : KV kvs vs) (k : κ) {y : V} {u : Value} (ry : RelV y u) :
    KV (kvs.map fun kv => if kv.1 = k then (kv.1, y) else kv) (vs.map fun kv => if kv.1 = k then (kv.1, u) else kv) := by
  unfold KV at r ⊢
  induction r with
  | nil => exact .nil
  | @cons p q ps qs h t ih =>
    rw [List.map_cons, List.map_cons]
    refine .cons ?_ ih
    obtain ⟨h1, h2⟩ := h
    by_cases e : p.1 = k
    · rw [if_pos e, if_pos (h1.symm.trans e)]; exact ⟨h1, ry⟩
    · rw [if_neg e, if_neg (fun z => e (h1.trans z))]; exact ⟨h1, h2⟩
theorem KV.put {kvs : List (κ × V)} {vs : List (κ × Value)} (r : KV kvs vs) (k : κ) {y : V} {u : Value} (ry : RelV y u) : KV (putK kvs k y) (stored vs k u) := by
  unfold putK stored
  rw [r.any k]
  by_cases e : (vs.any fun kv => decide (kv.1 = k)) = true
  · rw [if_pos e, if_pos e]; exact r.wx k ry
  · rw [if_neg e, if_neg e]; exact Paired.snoc r ⟨rfl, ry⟩
theorem KV.length {kvs : List (κ × V)} {vs : List (κ × Value)} (r : KV kvs vs) : kvs.length = vs.length := Paired.length r
end
theorem u9 {P : Program} {w : World} {k : Key} {u : Value} (r : RelV (kV k) u) : (cA P w).is k u = true := by
  cases k with
  | inl i => obtain ⟨t, e⟩ := (show ∃ t, u = Value.int i t from r); subst e; exact tL P w i t
  | inr x => obtain ⟨t, e⟩ := (show ∃ t, u = Value.str x t from r); subst e; exact s_ P w x t
theorem pj {P : Program} {w : World} : ∀ {ks : List Key} {us : List Value}, Vals (ks.map kV) us -> ItemsAre (cA P w) ks us
  | [], _, r => by rw [List.map_nil] at r; cases r; exact .nil
  | k :: ks, _, r => by
    rw [List.map_cons] at r
    cases r with
    | cons h t => exact .cons (u9 h) (pj t)
noncomputable abbrev KT (H : Hp) : List (List Key × V) -> List (List Key × Addr × Value) -> Prop := Paired fun p q => p.1 = q.1 /\ H q.2.1 = some (.tup (p.1.map kV)) /\ RelV p.2 q.2.2
theorem KT.val {H : Hp} {kvs : List (List Key × V)} {xs : List (List Key × Addr × Value)} (r : KT H kvs xs) (k : List Key) : mC (jC kvs k) ((atKey xs k).map (·.2)) := by
  induction r with
  | nil => exact True.intro
  | @cons p q ps qs h t ih =>
    obtain ⟨h1, _, h2⟩ := h
    by_cases e : p.1 = k
    · have e' : q.1 = k := h1.symm.trans e
      have b : atKey (q :: qs) k = some q.2 := by simp [atKey, List.find?_cons, e']
      rw [jH e, b]; exact h2
    · have e' : ¬ q.1 = k := fun z => e (h1.trans z)
      have b : atKey (q :: qs) k = atKey qs k := by simp [atKey, List.find?_cons, e']
      rw [jK e, b]; exact ih
theorem KT.wx {H : Hp} {kvs : List (List Key × V)} {xs : List (List Key × Addr × Value)} (r : KT H kvs xs) (k : List Key) {y : V} {u : Value} (ry : RelV y u) :
    KT H (kvs.map fun kv => if kv.1 = k then (kv.1, y) else kv) (xs.map (putAt k u)) := by
  induction r with
  | nil => exact .nil
  | @cons p q ps qs h t ih =>
    rw [List.map_cons, List.map_cons]
    refine .cons ?_ ih
    obtain ⟨h1, h2, h3⟩ := h
    unfold putAt
    by_cases e : p.1 = k
    · rw [if_pos e, if_pos (h1.symm.trans e)]; exact ⟨h1, h2, ry⟩
    · rw [if_neg e, if_neg (fun z => e (h1.trans z))]; exact ⟨h1, h2, h3⟩
theorem KT.put {H : Hp} {kvs : List (List Key × V)} {xs : List (List Key × Addr × Value)} (r : KT H kvs xs) (k : List Key) {b : Addr} {y : V} {u : Value} (hb : H b = some (.tup (k.map kV))) (ry : RelV y u) :
    KT H (putK kvs k y) (storedH xs k b u) := by
  have e : (kvs.any fun kv => decide (kv.1 = k)) = (atKey xs k).isSome := by
    rw [sG, (r.val k).kQ, Option.isSome_map]
  unfold putK storedH
  rw [e]
  by_cases q : (atKey xs k).isSome = true
  · rw [if_pos q, if_pos q]; exact r.wx k ry
  · rw [if_neg q, if_neg q]; exact Paired.snoc r ⟨rfl, hb, ry⟩
theorem KT.keeps {H H' : Hp} {kvs : List (List Key × V)} {xs : List (List Key × Addr × Value)} (r : KT H kvs xs) (ht : ∀ b ys, H b = some (.tup ys) -> H' b = some (.tup ys)) : KT H' kvs xs :=
  Paired.om r fun _ _ z => ⟨z.1, ht _ _ z.2.1, z.2.2⟩
section
variable {P : Program} {w : World} {H : Hp} {h : Heap} {a : Addr}
theorem BL {u : HO} (ok : HOk P w H h) (e : Rd H a u) : bC P w H h a u := e.ok ok
theorem uQ {kvs : List (Key × V)} (ok : HOk P w H h) (e : Rd H a (.dK kvs)) : kvs.length <= sizeLine /\ (a == sysModules) = false /\ ∃ vs, KV kvs vs /\ h.DictOf (cA P w) a vs :=
  show bC P w H h a (.dK kvs) from BL ok e
theorem Et {kvs : List (Key × V)} (ok : HOk P w H h) (e : H a = some (.dK kvs)) : kvs.length <= sizeLine /\ (a == sysModules) = false /\ ∃ vs, KV kvs vs /\ h.DictOf (cA P w) a vs := uQ ok (.inl e)
theorem qe {ks : List Key} (ok : HOk P w H h) (e : H a = some (.tup (ks.map kV))) : (tupleKind (cA P w)).is h ks a := by
  obtain ⟨_, its, r, o, h1, ⟨h2, n, h3⟩, _⟩ := (show bC P w H h a (.tup (ks.map kV)) from ok a _ e)
  exact ⟨o, its.toArray, n, h1, h2, h3, by simpa using pj r⟩
theorem uJ {kvs : List (List Key × V)} (ok : HOk P w H h) (e : Rd H a (.dT kvs)) : kvs.length <= sizeLine /\ (a == sysModules) = false ∧
    ∃ xs, KT H kvs xs /\ h.DictOfH (tupleKind (cA P w)) a xs := by
  obtain ⟨z, y, xs, r, o, es, ep, h1, h2, h3, h4, h5⟩ := (show bC P w H h a (.dT kvs) from BL ok e)
  refine ⟨z, y, xs, r, o, es, ep, h1, h2, h3, h4, fun x hx => ?_, h5⟩
  have all : ∀ {l : List (List Key × V)} {m : List (List Key × Addr × Value)}, KT H l m -> ∀ x ∈ m, (tupleKind (cA P w)).is h x.1 x.2.1 := by
    intro l m q
    induction q with
    | nil => intro x hx; exact nomatch hx
    | @cons p q ps qs hq t ih =>
      intro x hx
      rcases List.mem_cons.mp hx with e | hx
      · subst e
        exact qe ok (by rw [<- hq.1]; exact hq.2.1)
      · exact ih x hx
  exact all r x hx
theorem Ea {kvs : List (List Key × V)} (ok : HOk P w H h) (e : H a = some (.dT kvs)) : kvs.length <= sizeLine /\ (a == sysModules) = false ∧
    ∃ xs, KT H kvs xs /\ h.DictOfH (tupleKind (cA P w)) a xs := uJ ok (.inl e)
end
noncomputable def qM (H : Hp) (a : Addr) (y : V) (r : Option V) : Prop :=
  (∃ kvs k, Rd H a (.dK kvs) /\ y = kV k /\ r = jC kvs k) \/ ∃ kvs k b, Rd H a (.dT kvs) /\ y = .ref b /\ H b = some (.tup (k.map kV)) /\ r = jC kvs k
noncomputable def yR (H : Hp) (a : Addr) (y v : V) (H' : Hp) : Prop :=
  (∃ kvs k, H a = some (.dK kvs) /\ y = kV k /\ kvs.length < sizeLine /\ H' = upd H a (.dK (putK kvs k v))) ∨
  ∃ kvs k b, H a = some (.dT kvs) /\ y = .ref b /\ H b = some (.tup (k.map kV)) /\ kvs.length < sizeLine /\ H' = upd H a (.dT (putK kvs k v))
theorem qM.k {H : Hp} {a : Addr} {kvs : List (Key × V)} {k : Key} (e : H a = some (.dK kvs)) : qM H a (kV k) (jC kvs k) := .inl ⟨kvs, k, .inl e, rfl, rfl⟩
theorem yR.k {H : Hp} {a : Addr} {kvs : List (Key × V)} {k : Key} {v : V} (e : H a = some (.dK kvs)) (hl : kvs.length < sizeLine) : yR H a (kV k) v (upd H a (.dK (putK kvs k v))) := .inl ⟨kvs, k, e, rfl, hl, rfl⟩
section
variable {X : Cx} {pins : List (Addr × Obj)} {σ : St} {H : Hp} {s : Shared} {a : Addr} {y v : V} {u r : Value} {o : Option V} {A : Around} {E : Value -> Shared -> Prop}
theorem Inv.big (I : Inv X pins σ H s) : sysModules < s.heap.objs.size := by
  have h : mainGlobals < s.heap.objs.size := (I.mod.glob.keeps I.bk).lt
  exact Nat.lt_trans (by decide) h
theorem wa {Q : Value -> Shared -> Prop} (hu : A.units + 1 < cLine) (I : Inv X pins σ H s) (g : qM H a y (some v)) (ry : RelV y u) (h : ∀ w' s', Inv X pins σ H s' -> RelV v w' -> Q w' s') :
    wpAny (model X.prog X.w) A (getItem (.ref a) u) Q E s := by
  rcases g with ⟨kvs, k, e, ey, l⟩ | ⟨kvs, k, b, e, ey, eb, l⟩
  · subst ey
    obtain ⟨z, hd, vs, rel, dd⟩ := uQ I.hok e
    obtain ⟨w', hw, rw'⟩ := mC.some_of (v := v) (o := valueAt vs k) (by rw [l]; exact rel.val k)
    exact wpAny_getItem_of (u9 ry) dd.mapOf hw (h w' _ (I.tok _) rw')
  · subst ey
    cases (show u = Value.ref b from ry)
    obtain ⟨z, hd, xs, rel, dd⟩ := uJ I.hok e
    obtain ⟨w', hw, rw'⟩ := mC.some_of (v := v) (o := (atKey xs k).map (·.2)) (by rw [l]; exact rel.val k)
    obtain ⟨p, hp, hp2⟩ := Option.map_eq_some_iff.mp hw
    refine wpAny_getItem_heap (tupleKind_room_in1 hu) (qe I.hok eb) dd hp ?_
    rw [hp2]
    exact h w' _ (I.tok _) rw'
theorem Aa {Q : Value -> Shared -> Prop} (hu : A.units + 1 < cLine) (I : Inv X pins σ H s) (g : qM H a y o) (ry : RelV y u) (h : ∀ s', Inv X pins σ H s' -> Q (.bool (!o.isSome)) s') :
    wpAny (model X.prog X.w) A (compareOp .NotIn u (.ref a)) Q E s := by
  rcases g with ⟨kvs, k, e, ey, l⟩ | ⟨kvs, k, b, e, ey, eb, l⟩
  · subst ey
    obtain ⟨z, hd, vs, rel, dd⟩ := uQ I.hok e
    refine wpAny_notIn_of (u9 ry) hd dd.mapOf ?_
    rw [<- (rel.val k).kQ, <- l]
    exact h _ (I.tok _)
  · subst ey
    cases (show u = Value.ref b from ry)
    obtain ⟨z, hd, xs, rel, dd⟩ := uJ I.hok e
    refine wpAny_notIn_heap (tupleKind_room_in1 hu) (qe I.hok eb) hd dd ?_
    have q := (rel.val k).kQ
    rw [Option.isSome_map] at q
    rw [<- q, <- l]
    exact h _ (I.tok _)
theorem uF {h' : Heap} {t' : Nat} {ob : HO} (I : Inv X pins σ H s) (mu : Mut (H a)) (hs : Heap.SameBut a s.heap h') (he : ∃ q, h'.get? a = some q) (new : bC X.prog X.w (upd H a ob) h' a ob) :
    Inv X pins σ (upd H a ob) { s with heap := h', toks := t' } :=
  I.write (x := a) (e := a) mu (.inl rfl) (fun b q hb z => (hs.2 b hb).trans z) he new
theorem CM {P : Program} {w : World} {H' : Hp} {h' : Heap} {kvs : List (Key × V)} {vs : List (Key × Value)} (z : kvs.length <= sizeLine) (hd : (a == sysModules) = false) (rel : KV kvs vs) (dd : h'.DictOf (cA P w) a vs) :
    bC P w H' h' a (.dK kvs) := ⟨z, hd, vs, rel, dd⟩
theorem wj {H' : Hp} {Q : Unit -> Shared -> Prop} (hu : A.units + 1 < cLine) (I : Inv X pins σ H s) (g : yR H a y v H') (ry : RelV y u) (rv : RelV v r) (h : ∀ s', Inv X pins σ H' s' -> Q () s') :
    wpAny (model X.prog X.w) A (setItem (.ref a) u r) Q E s := by
  rcases g with ⟨kvs, k, e, ey, l, eH⟩ | ⟨kvs, k, b, e, ey, eb, l, eH⟩
  · subst ey eH
    obtain ⟨z, hd, vs, rel, dd⟩ := Et I.hok e
    have hz : vs.length <= sizeLine := by rw [<- rel.length]; exact z
    have hl : (putK kvs k v).length <= sizeLine := by have := lB kvs k v; omega
    refine wpAny_setItem_pairs (hsz := hz) (u9 ry) dd fun h' dd' hs => h _ ?_
    have he : ∃ q, h'.get? a = some q := let ⟨q, _, _, hq, _⟩ := dd'; ⟨q, hq⟩
    exact uF I (by rw [e]; exact True.intro) hs he (CM hl hd (rel.put k rv) dd')
  · subst ey eH
    cases (show u = Value.ref b from ry)
    obtain ⟨z, hd, xs, rel, dd⟩ := Ea I.hok e
    have hz : xs.length <= sizeLine := by rw [<- Paired.length rel]; exact z
    have hl : (putK kvs k v).length <= sizeLine := by have := lB kvs k v; omega
    refine wpAny_setItem_heap (hsz := hz) (tupleKind_room_in1 hu) (qe I.hok eb) dd fun h' dd' hs => h _ ?_
    obtain ⟨q, es, ep, hq, h2, h3, h4, _, h5⟩ := dd'
    refine uF I (by rw [e]; exact True.intro) hs ⟨q, hq⟩ ⟨hl, hd, _, (rel.put k eb rv).keeps fun c ys ec => ?_, q, es, ep, hq, h2, h3, h4, h5⟩
    rw [aI (E5 ec e (fun z => nomatch z))]
    exact ec
end
noncomputable def CK (i : Expr) : Prop := ∀ ov iv, subscripted i false ov iv = operate [ov, iv] (getItem ov iv)
theorem Az {prog : Program} {w : World} {A : Around} {E : Value -> Shared -> Prop} {s : Shared} {env : Env} {value slice : Expr} {pos : Pos} {T id : String} {Q : Value -> Shared -> Prop}
    (hl : typeLookup (.type T) "__getitem__" = pure (some (.builtin id))) (hs : CK slice)
    (h : wpAny (model prog w) A (eval value env) (fun o s₁ => wpAny (model prog w) A (eval slice env) (fun i s₂ => s₂.TypeIs o T /\ wpAny (model prog w) A (getItem o i) Q E s₂) E s₁) E s) :
    wpAny (model prog w) A (eval (.Subscript value slice pos) env) Q E s := by
  refine Subscript_ (wpAny_mono h (fun o s₁ h₁ => wpAny_mono h₁ (fun i s₂ h₂ => ?_) fun _ _ x => x) fun _ _ x => x)
  obtain ⟨hT, h₂⟩ := h₂
  unfold subscriptTail
  refine wpAny_bind ?_
  rw [getitemInPython_of_ne hT.not_modules]
  refine wpAny_bind (wpAny_specialOf hT hl ?_)
  have fin : wpAny (model prog w) A (subscripted slice false o i) (fun r s₃ => wpAny (model prog w) A (letTemporaryGo value o r >>= fun _ => pure r) Q E s₃) E s₂ := by
    rw [hs o i]
    exact wpAny_operating (wpAny_mono h₂ (fun r s₃ h₃ => wpAny_bind (wpAny_letTemporaryGo (wpAny_pure h₃))) fun _ _ x => x)
  first
    | exact wpAny_pure (wpAny_bind fin)
    | exact wpAny_bind (wpAny_pure (wpAny_bind fin))
    | exact wpAny_bind fin
theorem rE {X : Cx} {pins : List (Addr × Obj)} {σ : St} {H : Hp} {s : Shared} {a : Addr} {y : V} {o : Option V} (I : Inv X pins σ H s) (g : qM H a y o) : s.TypeIs (.ref a) "dict" := by
  rcases g with ⟨kvs, k, e, _, _⟩ | ⟨kvs, k, b, e, _, _, _⟩
  · obtain ⟨_, _, vs, _, dd⟩ := uQ I.hok e
    exact dd.typeIs
  · obtain ⟨_, _, xs, _, dd⟩ := uJ I.hok e
    exact dd.typeIs
noncomputable def Eh (td ty : TE) : TE := fun σ H Q => td σ H fun x H1 => ty σ H1 fun y H2 => ∃ a v, x = .ref a /\ qM H2 a y (some v) /\ Q v H2
noncomputable def D4 (td ty tv : TE) : TS := fun D σ H => tv σ H fun v H1 => td σ H1 fun x H2 => ty σ H2 fun y H3 => ∃ a H4, x = .ref a /\ yR H3 a y v H4 /\ D.nx σ H4
section
variable {X : Cx} {o i e value : Expr} {pos pos' tpos : Pos} {td ty tv : TE}
theorem Br (hu : X.A.units + 1 < cLine) (ho : PE X o td) (hi : PE X i ty) (hs : CK i) : PE X (.Subscript o i pos) (Eh td ty) := by
  intro pins s σ H Q I h
  refine Az PySem.F.slot_dict_getitem.lookup hs (thn (ho pins s σ H _ I h) fun u s1 ⟨x, H1, I1, rx, q1⟩ => thn (hi pins s1 σ H1 _ I1 q1) fun iv s2 ⟨y, H2, I2, ry, a, v, ex, g, q2⟩ => ?_)
  subst ex
  obtain rfl : u = Value.ref a := rx
  exact ⟨rE I2 g, wa hu I2 g ry fun w' s3 I3 rw' => ⟨v, H2, I3, rw', q2⟩⟩
theorem A6 (hu : X.A.units + 1 < cLine) (ho : PE X o td) (hi : PE X i ty) (hv : PE X value tv) (hs : swapsWith value (some (.Subscript o i pos')) pos.line X.env = pure false) :
    PS X (.Assign [.Subscript o i pos'] value pos) (D4 td ty tv) := by
  intro pins s σ H D I h
  refine wpAny_Assign_Subscript (thn (hv pins s σ H _ I h) fun r s1 ⟨v, H1, I1, rv, q1⟩ => thn (ho pins s1 σ H1 _ I1 q1) fun u s2 ⟨x, H2, I2, rx, q2⟩ => thn (hi pins s2 σ H2 _ I2 q2) fun iv s3 ⟨y, H3, I3, ry, a, H4, ex, g, q3⟩ => ?_) hs
  subst ex
  obtain rfl : u = Value.ref a := rx
  exact wj hu I3 g ry rv fun s4 I4 => ⟨σ, H4, I4, q3⟩
end
theorem yj {P : Program} {w : World} {H : Hp} (h : Heap) (hb : sysModules < h.objs.size) : bC P w H (h.push { cls := .type "dict", data := .dict #[] }) h.objs.size (.dK []) :=
  ⟨Nat.zero_le _, beq_eq_false_iff_ne.mpr (Ne.symm (Nat.ne_of_lt hb)), [], .nil, Heap.DictOf.new h⟩
noncomputable def CO : TE := fun _ H Q => ∀ p, H p = none -> Q (.ref p) (upd H p (.dK []))
section
variable {X : Cx} {pos : Pos}
theorem xQ : PE X (.Dict [] [] pos) CO := fun pins s σ H Q I h =>
  wpAny_Dict_empty ⟨.ref s.heap.objs.size, _, I.laid (a := s.heap.objs.size) (o := .dK []) (t' := s.toks) (fun _ _ q => Heap.get?_push_of_some _ q) (Nat.le_refl _) (yj s.heap I.big), rfl, h _ (I.hok.fresh (Nat.le_refl _))⟩
end
end L2
namespace L2.FE
open PySem PySem.Spec PyProof.Rows
inductive D where
  | non | bl (b : Bool) | int (i : Int) | str (x : Str) | tup (ds : List D) | frl (ds : List D) | ref (n : Nat) | fn (x : Str) | edic | scr (ds : List D) | exc (c : Str) (fs : List (Str × Int)) | clo (f : Str) (ds : List D)
inductive O where
  | lst (ds : List D) | set (ns : List Int) | dic (kvs : List (Key × D)) | dit (kvs : List (List Key × D))
noncomputable abbrev Hh := List O
noncomputable abbrev En := List (Option D)
structure Xc where
  cls : Str
  fs : List (Str × Int)
inductive R (β : Type) where
  | ok (b : β) (h : Hh)
  | err (x : Xc) (h : Hh)
  | bad
noncomputable def R.bind {β γ : Type} (r : R β) (f : β -> Hh -> R γ) : R γ := match r with
  | .ok b h => f b h
  | .err x h => .err x h
  | .bad => .bad
inductive Fl where
  | nx (e : En) | bk (e : En) | ct (e : En) | rt (d : D)
noncomputable abbrev ME := En -> Hh -> R D
noncomputable abbrev MT := En -> Hh -> R Bool
noncomputable abbrev MA := En -> Hh -> R (List D)
noncomputable abbrev MS := En -> Hh -> R Fl
noncomputable def Fro (K : PySem.W.Frag) (H : Hp) (p : Addr) (vs : List V) : Prop :=
  (∃ o, H p = some (.frz o (.lst vs))) \/ ∃ (o : Obj) (its : Array Value) (n : Nat), K.lookup p = some o /\ o.cls = .type "list" /\ o.dict = none /\ o.data = .seq its n /\ its.size <= sizeLine /\ Vals vs its.toList
theorem Fro.sq {K : PySem.W.Frag} {H : Hp} {p : Addr} {vs : List V} (h : Fro K H p vs) : SqL K H p vs := by
  rcases h with ⟨o, h⟩ | h
  · exact .inl (.inr ⟨o, h⟩)
  · exact .inr h
noncomputable def Fr1 (H : Hp) (p : Addr) (vs : List V) : Prop := ∃ o, H p = some (.frz o (.lst vs))
theorem Fr1.fro {K : PySem.W.Frag} {H : Hp} {p : Addr} {vs : List V} (h : Fr1 H p vs) : Fro K H p vs := .inl h
theorem Fr1.sq {K : PySem.W.Frag} {H : Hp} {p : Addr} {vs : List V} (h : Fr1 H p vs) : SqL K H p vs := let ⟨o, h⟩ := h; .inl (.inr ⟨o, h⟩)
theorem Fr1.rd {H : Hp} {p : Addr} {vs : List V} (h : Fr1 H p vs) : Rd H p (.lst vs) := .inr h
noncomputable def AtO (p : Addr) (o : Obj) : HO := .frz o (.ext fun h => h.get? p = some o)
noncomputable def XFs (H : Hp) (dc : Option Addr) (fs : List (Str × Int)) : Prop := (dc = none /\ fs = []) \/ ∃ dx od, dc = some dx /\ H dx = some (.frz od (.xd (fs.map fun x => (x.1, V.int x.2))))
noncomputable def j5 (H : Hp) (clos : List (Str × Addr)) : List Str -> List V -> Prop := Paired fun y v => ∃ c o u, clos.lookup y = some c /\ H c = some (AtO c o) /\ o.data = .cell (some u) /\ RelV v u
structure sP (f x qual : Str) (ys : List Str) (params : Arguments) (body : Expr) (scope : Scope) : Prop where
  tx : ∃ (p0 p2 p3 : Pos) (qs : List (Str × Pos)), qs.map (·.1) = ys /\ body = .Call (.Name f p0) (qs.map (fun y => Expr.Name y.1 y.2) ++ [.Name x p2]) [] p3
  kind : scope.kind = .function
  co : scope.isCoroutine = false
  gen : scope.isGenerator = false
  Cs : ∀ z ∈ scope.names, z.2 ≠ .cell
  glob : scope.names.lookup f = some .globalImplicit
  loc : scope.names.lookup x = some .local
  free : ∀ y ∈ ys, scope.names.lookup y = some .free /\ (y == ("__debug__" : Str)) = false /\ (y == ("__classdict__" : Str)) = false
  nd : (f == ("__debug__" : Str)) = false /\ (x == ("__debug__" : Str)) = false
  bind : ∀ clos pm cdv ctv u, bindArgs (PySem.W.kla_fn "<lambda>" qual params body scope clos pm cdv ctv) ⟨[u], []⟩ = pure [(x, u)]
noncomputable def B4 (f : Str) (clos : List (Str × Addr)) (ys : List Str) (o : Obj) (c' : Addr) (qual : Str) : Prop :=
  ∃ (params : Arguments) (body : Expr) (scope : Scope) (pm ctv : Value) (x : Str), o = PySem.W.kla_obj "<lambda>" qual params body scope clos pm c' ctv /\ sP f x qual ys params body scope
mutual
inductive aG (K : PySem.W.Frag) (g : Str -> Option Addr) (α : List Addr) (H : Hp) : D -> V -> Prop where
  | non : aG K g α H .non .non
  | bl (b) : aG K g α H (.bl b) (.bl b)
  | int (i) : aG K g α H (.int i) (.int i)
  | str (x) : aG K g α H (.str x) (.str x)
  | ref {n p} : α[n]? = some p -> aG K g α H (.ref n) (.ref p)
  | tup {ds p vs} : H p = some (.tup vs) -> aw K g α H ds vs -> aG K g α H (.tup ds) (.ref p)
  | frl {ds p vs} : Fr1 H p vs -> aw K g α H ds vs -> aG K g α H (.frl ds) (.ref p)
  | scr {ds p vs} : Fro K H p vs -> aw K g α H ds vs -> aG K g α H (.scr ds) (.ref p)
  | fn {x f} : g x = some f -> aG K g α H (.fn x) (.ref f)
  | edic {p o} : H p = some (.frz o (.dK [])) -> aG K g α H .edic (.ref p)
  | exc {c C p o fs} : g c = some C -> H p = some (AtO p o) -> o.cls = .ref C -> (∃ vs, o.data = .fields vs) -> XFs H o.dict fs -> aG K g α H (.exc c fs) (.ref p)
  | clo {f ds p o clos ys vs c' oc qual t vc} : H p = some (AtO p o) -> B4 f clos ys o c' qual -> H c' = some (AtO c' oc) -> oc.data = .fields vc -> vc[1]? = some (.str qual t) -> j5 H clos ys vs -> aw K g α H ds vs -> aG K g α H (.clo f ds) (.ref p)
inductive aw (K : PySem.W.Frag) (g : Str -> Option Addr) (α : List Addr) (H : Hp) : List D -> List V -> Prop where
  | nil : aw K g α H [] []
  | cons {d v ds vs} : aG K g α H d v -> aw K g α H ds vs -> aw K g α H (d :: ds) (v :: vs)
end
structure Ex0 (K : PySem.W.Frag) (α : List Addr) (H : Hp) (α' : List Addr) (H' : Hp) : Prop where
  pre : α <+: α'
  tup : ∀ (p : Addr) (xs : List V), H p = some (.tup xs) -> H' p = some (.tup xs)
  frz : ∀ (p : Addr) (o : Obj) (u : HO), H p = some (.frz o u) -> H' p = some (.frz o u)
  tbl : ∀ (p : Addr) (ps : Array Value), H p = some (.tbl ps) -> ∃ more, H' p = some (.tbl (ps ++ more))
theorem Ex0.fro {K : PySem.W.Frag} {α α' : List Addr} {H H' : Hp} (e : Ex0 K α H α' H') (p : Addr) (xs : List V) (h : Fro K H p xs) : Fro K H' p xs := by
  rcases h with ⟨o, h⟩ | h
  · exact .inl ⟨o, e.frz _ _ _ h⟩
  · exact .inr h
theorem Ex0.fr1 {K : PySem.W.Frag} {α α' : List Addr} {H H' : Hp} (e : Ex0 K α H α' H') (p : Addr) (xs : List V) (h : Fr1 H p xs) : Fr1 H' p xs := let ⟨o, h⟩ := h; ⟨o, e.frz _ _ _ h⟩
structure Ext (K : PySem.W.Frag) (α : List Addr) (H : Hp) (α' : List Addr) (H' : Hp) : Prop extends Ex0 K α H α' H' where
  kept : ∀ p o, H p = some o -> p ∉ α -> (∀ ps, o ≠ .tbl ps) -> H' p = some o
  new : ∀ p, p ∈ α' -> p ∉ α -> H p = none
section
variable {K : PySem.W.Frag} {g : Str -> Option Addr} {α α' α'' : List Addr} {H H' H'' : Hp}
theorem Ext.keep (e : Ext K α H α' H') (p : Addr) (o : HO) (h : H p = some o) (n : p ∉ α) (t : ∀ ps, o ≠ .tbl ps := by intro _ z; cases z) : H' p = some o := e.kept p o h n t
theorem Ext.stays (e : Ext K α H α' H') {p : Addr} {o : HO} (h : H p = some o) (n : p ∉ α) : H' p ≠ none := by
  cases o with
  | tbl ps => obtain ⟨m, q⟩ := e.tbl p ps h; rw [q]; exact fun z => nomatch z
  | _ => rw [e.keep p _ h n]; exact fun z => nomatch z
theorem Ex0.refl : Ex0 K α H α H := ⟨List.prefix_refl _, fun _ _ h => h, fun _ _ _ h => h, fun _ ps h => ⟨#[], by rw [h]; simp⟩⟩
theorem Ex0.trans (a : Ex0 K α H α' H') (b : Ex0 K α' H' α'' H'') : Ex0 K α H α'' H'' := ⟨a.pre.trans b.pre, fun p xs h => b.tup p xs (a.tup p xs h), fun p o u h => b.frz p o u (a.frz p o u h), fun p ps h => by
    obtain ⟨m1, e1⟩ := a.tbl p ps h
    obtain ⟨m2, e2⟩ := b.tbl p _ e1
    exact ⟨m1 ++ m2, by rw [e2, Array.append_assoc]⟩⟩
theorem Ext.refl : Ext K α H α H := ⟨.refl, fun _ _ h _ _ => h, fun _ h n => absurd h n⟩
theorem Ext.trans (a : Ext K α H α' H') (b : Ext K α' H' α'' H'') : Ext K α H α'' H'' := ⟨a.toEx0.trans b.toEx0, fun p o h n t => b.kept p o (a.kept p o h n t) (fun z => by rw [a.new p z n] at h; cases h) t, fun p z n => by
    by_cases q : p ∈ α'
    · exact a.new p q n
    · have := b.new p z q
      cases e : H p with
      | none => rfl
      | some o => exact absurd this (a.stays e n)⟩
theorem Ex0.get (e : Ex0 K α H α' H') {n : Nat} {p : Addr} (h : α[n]? = some p) : α'[n]? = some p := by
  obtain ⟨t, rfl⟩ := e.pre
  have hl : n < α.length := by
    by_cases hl : n < α.length
    · exact hl
    · rw [List.getElem?_eq_none (by omega)] at h; cases h
  rw [List.getElem?_append_left hl]; exact h
mutual
theorem aG.ex0 (e : Ex0 K α H α' H') : ∀ {d : D} {v : V}, aG K g α H d v -> aG K g α' H' d v
  | _, _, .non => .non
  | _, _, .bl b => .bl b
  | _, _, .int i => .int i
  | _, _, .str x => .str x
  | _, _, .ref h => .ref (e.get h)
  | _, _, .tup h r => .tup (e.tup _ _ h) (aw.ex0 e r)
  | _, _, .frl h r => .frl (e.fr1 _ _ h) (aw.ex0 e r)
  | _, _, .scr h r => .scr (e.fro _ _ h) (aw.ex0 e r)
  | _, _, .fn h => .fn h
  | _, _, .edic h => .edic (e.frz _ _ _ h)
  | _, _, .exc hg h hc hd hf => .exc hg (e.frz _ _ _ h) hc hd (hf.elim .inl fun ⟨dx, od, a, b⟩ => .inr ⟨dx, od, a, e.frz _ _ _ b⟩)
  | _, _, .clo h l hc hd hv cs r => .clo (e.frz _ _ _ h) l (e.frz _ _ _ hc) hd hv (L2.Paired.om cs fun _ _ ⟨c, o, u, l, a, b⟩ => ⟨c, o, u, l, e.frz _ _ _ a, b⟩) (aw.ex0 e r)
theorem aw.ex0 (e : Ex0 K α H α' H') : ∀ {ds : List D} {vs : List V}, aw K g α H ds vs -> aw K g α' H' ds vs
  | _, _, .nil => .nil
  | _, _, .cons r t => .cons (aG.ex0 e r) (aw.ex0 e t)
end
theorem aG.ext (e : Ext K α H α' H') {d : D} {v : V} (r : aG K g α H d v) : aG K g α' H' d v := r.ex0 e.toEx0
theorem aw.ext (e : Ext K α H α' H') {d : List D} {v : List V} (r : aw K g α H d v) : aw K g α' H' d v := r.ex0 e.toEx0
theorem aw.length : ∀ {ds : List D} {vs : List V}, aw K g α H ds vs -> ds.length = vs.length
  | _, _, .nil => rfl
  | _, _, .cons _ t => by simp [aw.length t]
theorem aw.append : ∀ {ds es : List D} {vs us : List V}, aw K g α H ds vs -> aw K g α H es us -> aw K g α H (ds ++ es) (vs ++ us)
  | _, _, _, _, .nil, s => s
  | _, _, _, _, .cons r t, s => .cons r (aw.append t s)
theorem aw.get : ∀ {ds : List D} {vs : List V} {i : Nat} {d : D}, aw K g α H ds vs -> ds[i]? = some d -> ∃ v, vs[i]? = some v /\ aG K g α H d v
  | _, _, _, _, .nil, e => by simp at e
  | _, _, 0, _, .cons r _, e => by simp at e; subst e; exact ⟨_, rfl, r⟩
  | _, _, i + 1, d, .cons _ t, e => by
    obtain ⟨u, h1, h2⟩ := aw.get (i := i) (d := d) t (by simpa using e)
    exact ⟨u, by simpa using h1, h2⟩
theorem aw.set {d : D} {v : V} (r : aG K g α H d v) : ∀ {ds : List D} {vs : List V} (i : Nat), aw K g α H ds vs -> aw K g α H (ds.set i d) (vs.set i v)
  | _, _, _, .nil => .nil
  | _, _, 0, .cons _ t => .cons r t
  | _, _, i + 1, .cons q t => .cons q (aw.set r i t)
theorem aw.take : ∀ {ds : List D} {vs : List V} (n : Nat), aw K g α H ds vs -> aw K g α H (ds.take n) (vs.take n)
  | _, _, 0, _ => .nil
  | _, _, _ + 1, .nil => .nil
  | _, _, n + 1, .cons r t => .cons r (aw.take n t)
theorem aw.drop : ∀ {ds : List D} {vs : List V} (n : Nat), aw K g α H ds vs -> aw K g α H (ds.drop n) (vs.drop n)
  | _, _, 0, r => r
  | _, _, _ + 1, .nil => .nil
  | _, _, n + 1, .cons _ t => aw.drop n t
theorem aw.ints (ns : List Int) : aw K g α H (ns.map D.int) (ns.map V.int) := by
  induction ns with
  | nil => exact .nil
  | cons n r ih => exact .cons (.int n) ih
theorem aw.vd : ∀ {ns : List Int} {vs : List V}, aw K g α H (ns.map D.int) vs -> vs = ns.map V.int
  | [], _, .nil => rfl
  | n :: r, _, .cons (.int _) t => by rw [aw.vd t]; rfl
theorem aw.flat {ds : List D} {vs : List V} (r : aw K g α H ds vs) : ∀ k, aw K g α H (List.replicate k ds).flatten (List.replicate k vs).flatten
  | 0 => .nil
  | k + 1 => by rw [List.replicate_succ, List.replicate_succ, List.flatten_cons, List.flatten_cons]; exact r.append (aw.flat r k)
end
noncomputable def OAt (K : PySem.W.Frag) (g : Str -> Option Addr) (α : List Addr) (H : Hp) (p : Addr) : O -> Prop
  | .lst ds => ∃ vs, H p = some (.lst vs) /\ aw K g α H ds vs
  | .set ns => H p = some (.set (fun k => ns.any (· == k)) ns.length)
  | .dic kvs => ∃ kws, H p = some (.dK kws) /\ Paired (fun (a : Key × D) (b : Key × V) => a.1 = b.1 /\ aG K g α H a.2 b.2) kvs kws
  | .dit kvs => ∃ kws, H p = some (.dT kws) /\ Paired (fun (a : List Key × D) (b : List Key × V) => a.1 = b.1 /\ aG K g α H a.2 b.2) kvs kws
noncomputable def tK (H : Hp) (q : Addr × Pos × Str) : Prop := H q.1 = some (.tbl #[]) \/ ∃ (c' : Addr) (oc : Obj) (vc : Array Value) (t : Tok), H q.1 = some (.tbl #[rawInt q.2.1.line, rawInt q.2.1.col, .ref c']) /\ H c' = some (AtO c' oc) /\ oc.data = .fields vc /\ vc[1]? = some (.str q.2.2 t)
noncomputable def Au (fd : FuncData) : Option Pos := match fd.body with
  | .stmts b => (match b.getLast? with
    | some (.Return (some (.Lambda _ _ _ pos)) _) => some pos
    | some (.Return (some (.Call _ es _ _)) _) => (match es.getLast? with | some (.Lambda _ _ _ pos) => some pos | _ => none)
    | _ => none)
  | _ => none
noncomputable def jI (K : PySem.W.Frag) (f : Addr) : Option (Addr × Pos × Str) := match K.lookup f with
  | some ⟨_, _, .func fd, _⟩ => (match Au fd, fd.code with
    | some pos, .ref c => (match K.lookup c with
      | some ⟨_, _, .fields vs, _⟩ => (match (vs[11]? : Option Value) with | some (.ref P) => some (P, pos, fd.qualname ++ ".<locals>." ++ "<lambda>") | _ => none)
      | _ => none)
    | _, _ => none)
  | _ => none
noncomputable def iL (K : PySem.W.Frag) (H : Hp) : Prop := ∀ f P, jI K f = some P -> tK H P
structure aP (K : PySem.W.Frag) (g : Str -> Option Addr) (α : List Addr) (H : Hp) (h : Hh) : Prop where
  len : α.length = h.length
  inj : ∀ (n m : Nat) (p : Addr), α[n]? = some p -> α[m]? = some p -> n = m
  here : ∀ (n : Nat) (p : Addr) (o : O), α[n]? = some p -> h[n]? = some o -> OAt K g α H p o
  tab : iL K H
section
variable {K : PySem.W.Frag} {g : Str -> Option Addr} {α α' : List Addr} {H H' : Hp} {h : Hh}
theorem Paired.EI {kvs : List (Key × D)} {kws : List (Key × V)} (e : Ex0 K α H α' H') (r : Paired (fun (a : Key × D) (b : Key × V) => a.1 = b.1 /\ aG K g α H a.2 b.2) kvs kws) :
    Paired (fun (a : Key × D) (b : Key × V) => a.1 = b.1 /\ aG K g α' H' a.2 b.2) kvs kws := L2.Paired.om r fun _ _ q => ⟨q.1, q.2.ex0 e⟩
theorem Paired.E_ {kvs : List (List Key × D)} {kws : List (List Key × V)} (e : Ex0 K α H α' H') (r : Paired (fun (a : List Key × D) (b : List Key × V) => a.1 = b.1 /\ aG K g α H a.2 b.2) kvs kws) :
    Paired (fun (a : List Key × D) (b : List Key × V) => a.1 = b.1 /\ aG K g α' H' a.2 b.2) kvs kws := L2.Paired.om r fun _ _ q => ⟨q.1, q.2.ex0 e⟩
theorem tK.mono {P : Addr × Pos × Str} (t : tK H P) (a : ∀ b ps, H b = some (.tbl ps) -> H' b = some (.tbl ps)) (z : ∀ b o u, H b = some (.frz o u) -> H' b = some (.frz o u)) : tK H' P := by
  rcases t with h | ⟨c', oc, vc, tk, h, hc, hd⟩
  · exact .inl (a _ _ h)
  · exact .inr ⟨c', oc, vc, tk, a _ _ h, z _ _ _ hc, hd⟩
theorem iL.mono (t : iL K H) (a : ∀ b ps, H b = some (.tbl ps) -> H' b = some (.tbl ps)) (z : ∀ b o u, H b = some (.frz o u) -> H' b = some (.frz o u)) : iL K H' := fun f P e => (t f P e).mono a z
theorem iL.upd {p : Addr} {o : HO} (t : iL K H) (n : H p = none \/ ∃ u, H p = some u /\ (∀ ys, u ≠ .tup ys) /\ (∀ w ys, u ≠ .frz w ys) /\ ∀ ps, u ≠ .tbl ps) : iL K (upd H p o) := by
  have ne : ∀ q u, H q = some u -> ((∃ w ys, u = .frz w ys) \/ ∃ ps, u = .tbl ps) -> q ≠ p := by
    rintro q u e z rfl
    rcases n with n | ⟨u', e', _, n2, n3⟩
    · rw [e] at n; cases n
    · rw [e] at e'; cases e'
      rcases z with ⟨w, ys, z⟩ | ⟨ps, z⟩
      · exact n2 _ _ z
      · exact n3 _ z
  intro f P e
  rcases t f P e with h | ⟨c', oc, vc, tk, h, hc, hd⟩
  · exact .inl (by rw [aI (ne _ _ h (.inr ⟨_, rfl⟩))]; exact h)
  · exact .inr ⟨c', oc, vc, tk, by rw [aI (ne _ _ h (.inr ⟨_, rfl⟩))]; exact h, by rw [aI (ne _ _ hc (.inl ⟨_, _, rfl⟩))]; exact hc, hd⟩
theorem OAt.isS {p : Addr} {o : O} (h : OAt K g α H p o) : ∃ u, H p = some u /\ (∀ ys, u ≠ .tup ys) /\ (∀ w ys, u ≠ .frz w ys) /\ ∀ ps, u ≠ .tbl ps := by
  cases o with
  | lst ds => obtain ⟨vs, e, _⟩ := h; exact ⟨_, e, fun _ z => (nomatch z), fun _ _ z => (nomatch z), fun _ z => nomatch z⟩
  | set n => exact ⟨_, h, fun _ z => (nomatch z), fun _ _ z => (nomatch z), fun _ z => nomatch z⟩
  | dic kvs => obtain ⟨vs, e, _⟩ := h; exact ⟨_, e, fun _ z => (nomatch z), fun _ _ z => (nomatch z), fun _ z => nomatch z⟩
  | dit kvs => obtain ⟨vs, e, _⟩ := h; exact ⟨_, e, fun _ z => (nomatch z), fun _ _ z => (nomatch z), fun _ z => nomatch z⟩
theorem aP.mem (r : aP K g α H h) {p : Addr} (hp : p ∈ α) : ∃ u, H p = some u /\ (∀ ys, u ≠ .tup ys) /\ (∀ w ys, u ≠ .frz w ys) /\ ∀ ps, u ≠ .tbl ps := by
  obtain ⟨n, hn, e⟩ := List.getElem_of_mem hp
  have hn' : n < h.length := by rw [<- r.len]; exact hn
  exact (r.here n p _ (by rw [List.getElem?_eq_getElem hn, e]) (List.getElem?_eq_getElem hn')).isS
theorem OAt.ex0 {p : Addr} {o : O} (e : Ex0 K α H α' H') (h : OAt K g α H p o) (k : ∀ u, H p = some u -> H' p = some u) : OAt K g α' H' p o := by
  cases o with
  | lst ds => obtain ⟨vs, a, r⟩ := h; exact ⟨vs, k _ a, r.ex0 e⟩
  | set n => exact k _ h
  | dic kvs => obtain ⟨kws, a, r⟩ := h; exact ⟨kws, k _ a, Paired.EI e r⟩
  | dit kvs => obtain ⟨kws, a, r⟩ := h; exact ⟨kws, k _ a, Paired.E_ e r⟩
noncomputable def Bq (H : Hp) (p : Addr) : Prop := H p = none \/ ∃ u, H p = some u /\ (∀ ys, u ≠ .tup ys) /\ (∀ w ys, u ≠ .frz w ys) /\ ∀ ps, u ≠ .tbl ps
theorem Ex0.upd {p : Addr} {o : HO} (n : Bq H p) : Ex0 K α H α (upd H p o) := by
  have ne : ∀ q u, H q = some u -> ((∃ ys, u = .tup ys) \/ (∃ w ys, u = .frz w ys) \/ ∃ ps, u = .tbl ps) -> q ≠ p := by
    rintro q u e z rfl
    rcases n with n | ⟨u', e', n1, n2, n3⟩
    · rw [e] at n; cases n
    · rw [e] at e'; cases e'
      rcases z with ⟨ys, z⟩ | ⟨w, ys, z⟩ | ⟨ps, z⟩
      · exact n1 _ z
      · exact n2 _ _ z
      · exact n3 _ z
  refine ⟨List.prefix_refl _, fun q xs h => ?_, fun q o u h => ?_, fun q ps h => ⟨#[], ?_⟩⟩
  · rw [aI (ne q _ h (.inl ⟨_, rfl⟩))]; exact h
  · rw [aI (ne q _ h (.inr (.inl ⟨_, _, rfl⟩)))]; exact h
  · rw [aI (ne q _ h (.inr (.inr ⟨_, rfl⟩))), h]; simp
theorem Ex0.more (e : Ex0 K α H α H') (l : List Addr) : Ex0 K α H (α ++ l) H' := ⟨List.prefix_append _ _, e.tup, e.frz, e.tbl⟩
theorem Ext.fresh {p : Addr} {o : HO} (n : H p = none) : Ext K α H α (upd H p o) := ⟨Ex0.upd (.inl n), fun q u h _ _ => by rw [aI (bc h n)]; exact h, fun _ z m => absurd z m⟩
theorem Ext.push {p : Addr} {o : HO} (n : H p = none) : Ext K α H (α ++ [p]) (upd H p o) := ⟨(Ex0.upd (.inl n)).more _, fun q u h _ _ => by rw [aI (bc h n)]; exact h, fun q z m => by
  rcases List.mem_append.mp z with z | z
  · exact absurd z m
  · rw [List.mem_singleton.mp z]; exact n⟩
theorem aP.off {p : Addr} {o : HO} (r : aP K g α H h) (n : Bq H p) (m : p ∉ α) : aP K g α (upd H p o) h := by
  refine ⟨r.len, r.inj, fun k q u a b => (r.here k q u a b).ex0 (Ex0.upd n) fun w e => ?_, r.tab.upd n⟩
  rw [aI]; exact e
  rintro rfl; exact m (List.mem_of_getElem? a)
theorem aP.free (r : aP K g α H h) {p : Addr} (n : H p = none) : p ∉ α := fun z => by
  obtain ⟨u, e, _⟩ := r.mem z
  rw [n] at e; cases e
theorem aP.grow {p : Addr} {o : HO} (r : aP K g α H h) (n : H p = none) : aP K g α (upd H p o) h := r.off (.inl n) (r.free n)
theorem aP.adopt {p : Addr} {u : O} (r : aP K g α H h) (n : p ∉ α) (a : OAt K g (α ++ [p]) H p u) : aP K g (α ++ [p]) H (h ++ [u]) := by
  have old : ∀ {m : Nat} {q : Addr}, (α ++ [p])[m]? = some q -> (α[m]? = some q) \/ (m = α.length /\ q = p) := by
    intro m q h1
    by_cases hm : m < α.length
    · rw [List.getElem?_append_left hm] at h1
      exact .inl h1
    · have hl : m < (α ++ [p]).length := by
        by_cases hl : m < (α ++ [p]).length
        · exact hl
        · rw [List.getElem?_eq_none (by omega)] at h1; cases h1
      have e : m = α.length := by simp at hl; omega
      subst e
      rw [List.getElem?_append_right (Nat.le_refl _)] at h1
      simp at h1
      exact .inr ⟨rfl, h1.symm⟩
  refine ⟨by simp [r.len], fun m k q h1 h2 => ?_, fun m q w h1 h2 => ?_, r.tab⟩
  · rcases old h1 with a1 | ⟨e1, e2⟩
    · rcases old h2 with a2 | ⟨e3, e4⟩
      · exact r.inj m k q a1 a2
      · rw [e4] at a1; exact absurd (List.mem_of_getElem? a1) n
    · rcases old h2 with a2 | ⟨e3, e4⟩
      · rw [e2] at a2; exact absurd (List.mem_of_getElem? a2) n
      · rw [e1, e3]
  · rcases old h1 with a1 | ⟨e1, e2⟩
    · have hm : m < α.length := by
        by_cases hl : m < α.length
        · exact hl
        · rw [List.getElem?_eq_none (by omega)] at a1; cases a1
      rw [List.getElem?_append_left (by rw [<- r.len]; exact hm)] at h2
      exact (r.here m q w a1 h2).ex0 (Ex0.refl.more _) fun _ z => z
    · subst e1 e2
      rw [r.len, List.getElem?_append_right (Nat.le_refl _)] at h2
      simp at h2
      subst h2
      exact a
theorem aP.push {p : Addr} {o : HO} {u : O} (r : aP K g α H h) (n : H p = none) (a : OAt K g (α ++ [p]) (upd H p o) p u) : aP K g (α ++ [p]) (upd H p o) (h ++ [u]) := (r.grow n).adopt (r.free n) a
theorem Ext.write {p : Addr} {o : HO} {k : Nat} (r : aP K g α H h) (hk : α[k]? = some p) : Ext K α H α (upd H p o) :=
  ⟨Ex0.upd (.inr (r.mem (List.mem_of_getElem? hk))), fun q u h m _ => by
    rw [aI]; exact h
    rintro rfl; exact m (List.mem_of_getElem? hk), fun _ z m => absurd z m⟩
theorem aP.write {p : Addr} {o : HO} {u' : O} {k : Nat} (r : aP K g α H h) (hk : α[k]? = some p) (a : OAt K g α (upd H p o) p u') : aP K g α (upd H p o) (h.set k u') := by
  have x : Ext K α H α (upd H p o) := Ext.write r hk
  refine ⟨by simp [r.len], r.inj, fun m q w h1 h2 => ?_, r.tab.upd (.inr (r.mem (List.mem_of_getElem? hk)))⟩
  rw [List.getElem?_set] at h2
  by_cases hm : k = m
  · subst hm
    rw [if_pos rfl] at h2
    split at h2
    · cases h2; rw [h1] at hk; cases hk; exact a
    · cases h2
  · rw [if_neg hm] at h2
    refine (r.here m q w h1 h2).ex0 x.toEx0 fun z e => ?_
    rw [aI]; exact e
    rintro rfl; exact hm (r.inj _ _ _ hk h1)
end
noncomputable abbrev GG := Str -> Option Addr
noncomputable abbrev EE := List Addr -> Hp -> Xc -> Prop
structure ka (K : PySem.W.Frag) (g : GG) (α : List Addr) (H : Hp) (env : En) (σ : St) : Prop where
  len : env.length = σ.length
  vars : ∀ (i : Nat) (d : D), env[i]? = some (some d) -> ∃ v, σ[i]? = some (some v) /\ aG K g α H d v
structure cT (K : PySem.W.Frag) (g : GG) (α : List Addr) (H : Hp) (env : En) (σ : St) (h : Hh) : Prop where
  heap : aP K g α H h
  vs : ka K g α H env σ
noncomputable def WQ (K : PySem.W.Frag) (g : GG) (ε : EE) (α : List Addr) (H : Hp) {β : Type} (r : R β) (k : β -> Hh -> Prop) : Prop := match r with
  | .ok b h => k b h
  | .err x h => ∀ α' H', Ext K α H α' H' -> aP K g α' H' h -> ε α' H' x
  | .bad => False
section
variable {K : PySem.W.Frag} {g : GG} {ε : EE} {α α' : List Addr} {H H' : Hp} {β γ : Type}
theorem WQ.bind {r : R β} {f : β -> Hh -> R γ} {k : γ -> Hh -> Prop} (w : WQ K g ε α H (r.bind f) k) : WQ K g ε α H r fun b h => WQ K g ε α H (f b h) k := by
  cases r <;> exact w
theorem WQ.ext {r : R β} {k : β -> Hh -> Prop} (e : Ext K α H α' H') (w : WQ K g ε α H r k) : WQ K g ε α' H' r k := by
  cases r with
  | ok b h => exact w
  | err x h => exact fun a b c d => w a b (e.trans c) d
  | bad => exact w
theorem WQ.mono {r : R β} {k k' : β -> Hh -> Prop} (w : WQ K g ε α H r k) (m : ∀ b h, r = .ok b h -> k b h -> k' b h) : WQ K g ε α H r k' := by
  cases r with
  | ok b h => exact m b h rfl w
  | err x h => exact w
  | bad => exact w
theorem ka.ext {env : En} {σ : St} (v : ka K g α H env σ) (e : Ext K α H α' H') : ka K g α' H' env σ :=
  ⟨v.len, fun i d h => let ⟨x, a, b⟩ := v.vars i d h; ⟨x, a, b.ext e⟩⟩
theorem cT.ext {env : En} {σ : St} {h h' : Hh} (v : cT K g α H env σ h) (e : Ext K α H α' H') (r : aP K g α' H' h') : cT K g α' H' env σ h' := ⟨r, v.vs.ext e⟩
theorem ka.set {env : En} {σ : St} {i : Nat} {d : D} {x : V} (v : ka K g α H env σ) (r : aG K g α H d x) : ka K g α H (env.set i (some d)) (σ.set i (some x)) := by
  refine ⟨by simp [v.len], fun j e h => ?_⟩
  rw [List.getElem?_set] at h ⊢
  by_cases hj : i = j
  · subst hj
    rw [if_pos rfl] at h ⊢
    have hl := v.len
    split at h
    · rw [if_pos (by omega)]
      cases h
      exact ⟨x, rfl, r⟩
    · cases h
  · rw [if_neg hj] at h ⊢
    exact v.vars j e h
end
noncomputable def aK (K : PySem.W.Frag) (g : GG) (α : List Addr) (H : Hp) (Q : VK) : D -> Hh -> Prop := fun d h => ∀ v H' α', Ext K α H α' H' -> aP K g α' H' h -> aG K g α' H' d v -> Q v H'
noncomputable def lC (K : PySem.W.Frag) (g : GG) (α : List Addr) (H : Hp) (Q : Bool -> Hp -> Prop) : Bool -> Hh -> Prop := fun b h => ∀ H' α', Ext K α H α' H' -> aP K g α' H' h -> Q b H'
noncomputable def Ff (K : PySem.W.Frag) (g : GG) (α : List Addr) (H : Hp) (Q : List V -> Hp -> Prop) : List D -> Hh -> Prop := fun ds h => ∀ vs H' α', Ext K α H α' H' -> aP K g α' H' h -> aw K g α' H' ds vs -> Q vs H'
noncomputable def cu (K : PySem.W.Frag) (g : GG) (α : List Addr) (H : Hp) (E : Ends) : Fl -> Hh -> Prop := fun fl h => ∀ H' α', Ext K α H α' H' -> aP K g α' H' h -> match fl with
  | .nx e => ∀ σ, ka K g α' H' e σ -> E.nx σ H'
  | .bk e => ∀ σ, ka K g α' H' e σ -> E.bk σ H'
  | .ct e => ∀ σ, ka K g α' H' e σ -> E.ct σ H'
  | .rt d => ∀ v, aG K g α' H' d v -> E.rt v H'
noncomputable def tM (K : PySem.W.Frag) (g : GG) (ε : EE) (m : ME) : TE := fun σ H Q => ∃ α env h, cT K g α H env σ h /\ WQ K g ε α H (m env h) (aK K g α H Q)
noncomputable def tMT (K : PySem.W.Frag) (g : GG) (ε : EE) (m : MT) : TT := fun σ H Q => ∃ α env h, cT K g α H env σ h /\ WQ K g ε α H (m env h) (lC K g α H Q)
noncomputable def tMA (K : PySem.W.Frag) (g : GG) (ε : EE) (m : MA) : TA := fun σ H Q => ∃ α env h, cT K g α H env σ h /\ WQ K g ε α H (m env h) (Ff K g α H Q)
noncomputable def tMS (K : PySem.W.Frag) (g : GG) (ε : EE) (m : MS) : TS := fun E σ H => ∃ α env h, cT K g α H env σ h /\ WQ K g ε α H (m env h) (cu K g α H E)
section
variable {K : PySem.W.Frag} {g : GG} {ε : EE} {α α' : List Addr} {H H' : Hp} {env : En} {σ : St} {h : Hh}
theorem aK.ext {Q : VK} {d : D} (e : Ext K α H α' H') (p : aK K g α H Q d h) : aK K g α' H' Q d h := fun v H2 α2 e2 r rd => p v H2 α2 (e.trans e2) r rd
theorem lC.ext {Q : Bool -> Hp -> Prop} {d : Bool} (e : Ext K α H α' H') (p : lC K g α H Q d h) : lC K g α' H' Q d h := fun H2 α2 e2 r => p H2 α2 (e.trans e2) r
theorem cu.ext {E : Ends} {d : Fl} (e : Ext K α H α' H') (p : cu K g α H E d h) : cu K g α' H' E d h := fun H2 α2 e2 r => p H2 α2 (e.trans e2) r
theorem WQ.post {Q : VK} {r : R D} (e : Ext K α H α' H') (w : WQ K g ε α H r (aK K g α H Q)) : WQ K g ε α' H' r (aK K g α' H' Q) := (w.ext e).mono fun _ _ _ p => p.ext e
theorem WQ.EH {Q : Bool -> Hp -> Prop} {r : R Bool} (e : Ext K α H α' H') (w : WQ K g ε α H r (lC K g α H Q)) : WQ K g ε α' H' r (lC K g α' H' Q) := (w.ext e).mono fun _ _ _ p => p.ext e
theorem WQ.uN {E : Ends} {r : R Fl} (e : Ext K α H α' H') (w : WQ K g ε α H r (cu K g α H E)) : WQ K g ε α' H' r (cu K g α' H' E) := (w.ext e).mono fun _ _ _ p => p.ext e
theorem tM.use {m : ME} {Q : VK} {k : D -> Hh -> Prop} (s : cT K g α H env σ h) (w : WQ K g ε α H (m env h) k)
    (q : ∀ d h' v H' α', Ext K α H α' H' -> cT K g α' H' env σ h' -> aG K g α' H' d v -> k d h' -> Q v H') : tM K g ε m σ H Q :=
  ⟨α, env, h, s, w.mono fun d h' _ kk v H' α' e r rd => q d h' v H' α' e (s.ext e r) rd kk⟩
theorem tMT.use {m : MT} {Q : Bool -> Hp -> Prop} {k : Bool -> Hh -> Prop} (s : cT K g α H env σ h) (w : WQ K g ε α H (m env h) k)
    (q : ∀ d h' H' α', Ext K α H α' H' -> cT K g α' H' env σ h' -> k d h' -> Q d H') : tMT K g ε m σ H Q :=
  ⟨α, env, h, s, w.mono fun d h' _ kk H' α' e r => q d h' H' α' e (s.ext e r) kk⟩
theorem tMA.use {m : MA} {Q : List V -> Hp -> Prop} {k : List D -> Hh -> Prop} (s : cT K g α H env σ h) (w : WQ K g ε α H (m env h) k)
    (q : ∀ d h' v H' α', Ext K α H α' H' -> cT K g α' H' env σ h' -> aw K g α' H' d v -> k d h' -> Q v H') : tMA K g ε m σ H Q :=
  ⟨α, env, h, s, w.mono fun d h' _ kk v H' α' e r rd => q d h' v H' α' e (s.ext e r) rd kk⟩
theorem aK.now {Q : VK} {d : D} {v : V} (p : aK K g α H Q d h) (r : aP K g α H h) (rd : aG K g α H d v) : Q v H := p v H α Ext.refl r rd
end
theorem PE.imp {X : Cx} {e : Expr} {t t' : TE} (h : PE X e t) (i : ∀ σ H Q, t' σ H Q -> t σ H Q) : PE X e t' := fun pins s σ H Q I w => h pins s σ H Q I (i σ H Q w)
theorem PT.imp {X : Cx} {e : Expr} {t t' : TT} (h : PT X e t) (i : ∀ σ H Q, t' σ H Q -> t σ H Q) : PT X e t' := fun pins s σ H Q I w => h pins s σ H Q I (i σ H Q w)
theorem PW.imp {X : Cx} {e : Expr} {t t' : TT} (h : PW X e t) (i : ∀ σ H Q, t' σ H Q -> t σ H Q) : PW X e t' := fun wh pins s σ H Q I w => h wh pins s σ H Q I (i σ H Q w)
theorem PA.imp {X : Cx} {e : List Expr} {t t' : TA} (h : PA X e t) (i : ∀ σ H Q, t' σ H Q -> t σ H Q) : PA X e t' := fun p pins s σ H Q I w => h p pins s σ H Q I (i σ H Q w)
theorem PS.imp {X : Cx} {e : Stmt} {t t' : TS} (h : PS X e t) (i : ∀ σ H Q, t' σ H Q -> t σ H Q) : PS X e t' := fun pins s σ H Q I w => h pins s σ H Q I (i Q σ H w)
theorem PSs.imp {X : Cx} {e : List Stmt} {t t' : TS} (h : PSs X e t) (i : ∀ σ H Q, t' σ H Q -> t σ H Q) : PSs X e t' := fun pins s σ H Q I w => h pins s σ H Q I (i Q σ H w)
noncomputable def af (i : Nat) : ME := fun env h => match env[i]? with
  | some (some d) => .ok d h
  | _ => .bad
noncomputable def cC (d : D) : ME := fun _ h => .ok d h
noncomputable def ar (f : D -> D -> Hh -> R D) (a b : ME) : ME := fun env h => (a env h).bind fun x h1 => (b env h1).bind fun y h2 => f x y h2
noncomputable def cUn (f : D -> Hh -> R D) (a : ME) : ME := fun env h => (a env h).bind fun x h1 => f x h1
noncomputable def ak : MA := fun _ h => .ok [] h
noncomputable def aa (a : ME) (r : MA) : MA := fun env h => (a env h).bind fun x h1 => (r env h1).bind fun xs h2 => .ok (x :: xs) h2
noncomputable def ah (f : List D -> Hh -> R D) (a : MA) : ME := fun env h => (a env h).bind fun xs h1 => f xs h1
noncomputable def ay (f : D -> Hh -> R Bool) (a : ME) : MT := fun env h => (a env h).bind fun x h1 => f x h1
noncomputable def j6 (a : MT) : MT := fun env h => (a env h).bind fun b h1 => .ok (!b) h1
noncomputable def zf (a b : MT) : MT := fun env h => (a env h).bind fun x h1 => if x = true then b env h1 else .ok false h1
noncomputable def nZ (a b : MT) : MT := fun env h => (a env h).bind fun x h1 => if x = true then .ok true h1 else b env h1
noncomputable def cIf (c : MT) (a b : ME) : ME := fun env h => (c env h).bind fun x h1 => if x = true then a env h1 else b env h1
noncomputable def asB : D -> Hh -> R Bool
  | .bl b, h => .ok b h
  | _, _ => .bad
noncomputable def uY (a b : ME) : ME := fun env h => (a env h).bind fun x h1 => (asB x h1).bind fun k h2 => if k = true then b env h2 else .ok (.bl false) h2
noncomputable def zx (a : ME) : ME := fun env h => (a env h).bind fun x h1 => (asB x h1).bind fun k h2 => .ok (.bl (!k)) h2
noncomputable def kK (f f' : D -> D -> Hh -> R D) (a b c : ME) : ME := fun env h => (a env h).bind fun x h1 => (b env h1).bind fun y h2 => (f x y h2).bind fun z h3 => (asB z h3).bind fun k h4 =>
  if k = true then (c env h4).bind fun w h5 => f' y w h5 else .ok (.bl false) h4
noncomputable def dA (K : PySem.W.Frag) (g : GG) (ε : EE) (f : D -> D -> Hh -> R D) (r : R2) : Prop :=
  ∀ (α : List Addr) (H : Hp) (h : Hh) (a b : D) (x y : V) (Q : VK), aP K g α H h -> aG K g α H a x -> aG K g α H b y -> WQ K g ε α H (f a b h) (aK K g α H Q) -> r x y H Q
noncomputable def E7 (K : PySem.W.Frag) (g : GG) (ε : EE) (f : D -> Hh -> R D) (r : V -> Hp -> VK -> Prop) : Prop :=
  ∀ (α : List Addr) (H : Hp) (h : Hh) (a : D) (x : V) (Q : VK), aP K g α H h -> aG K g α H a x -> WQ K g ε α H (f a h) (aK K g α H Q) -> r x H Q
noncomputable def D5 (K : PySem.W.Frag) (g : GG) (ε : EE) (f : D -> Hh -> R Bool) (r : V -> Hp -> (Bool -> Hp -> Prop) -> Prop) : Prop :=
  ∀ (α : List Addr) (H : Hp) (h : Hh) (a : D) (x : V) (Q : Bool -> Hp -> Prop), aP K g α H h -> aG K g α H a x -> WQ K g ε α H (f a h) (lC K g α H Q) -> r x H Q
noncomputable def oy (K : PySem.W.Frag) (g : GG) (ε : EE) (f : List D -> Hh -> R D) (r : List V -> Hp -> VK -> Prop) : Prop :=
  ∀ (α : List Addr) (H : Hp) (h : Hh) (a : List D) (x : List V) (Q : VK), aP K g α H h -> aw K g α H a x -> WQ K g ε α H (f a h) (aK K g α H Q) -> r x H Q
noncomputable def Ax (K : PySem.W.Frag) (g : GG) (ε : EE) (f : D -> List D -> Hh -> R D) (r : V -> List V -> Hp -> VK -> Prop) : Prop :=
  ∀ (α : List Addr) (H : Hp) (h : Hh) (o : D) (a : List D) (y : V) (x : List V) (Q : VK), aP K g α H h -> aG K g α H o y -> aw K g α H a x -> WQ K g ε α H (f o a h) (aK K g α H Q) -> r y x H Q
section
variable {X : Cx} {g : GG} {ε : EE} {a b c : Expr} {ma mb mc : ME} {pos : Pos}
theorem ae (i : Nat) {x : Str} {pos : Pos} (hN : X.N[i]? = some x := by rfl) (hv : Vis X.env.scope x := by first | exact Or.inl rfl | exact Or.inr (Or.inl rfl) | exact Or.inr (Or.inr rfl)) (hd : (x == ("__debug__" : Str)) = false := by decide)
    (hcd : (x == ("__classdict__" : Str)) = false := by decide) : PE X (.Name x pos) (tM X.K g ε (af i)) := by
  refine PE.imp (Dn hN hv hd hcd) fun σ H Q ⟨α, env, h, s, w⟩ => ?_
  unfold af at w
  cases e : env[i]? with
  | none => rw [e] at w; exact w.elim
  | some d =>
    cases d with
    | none => rw [e] at w; exact w.elim
    | some d =>
      rw [e] at w
      obtain ⟨v, hv, rd⟩ := s.vs.vars i d e
      exact ⟨v, hv, aK.now w s.heap rd⟩
theorem yk {v : V} {d : D} {Q : VK} {σ : St} {H : Hp} (rd : ∀ α, aG X.K g α H d v) (t : tM X.K g ε (cC d) σ H Q) : tC v σ H Q := by
  obtain ⟨α, env, h, s, w⟩ := t
  exact aK.now w s.heap (rd α)
theorem au {i j pos} : PE X (.Constant (.int i) j pos) (tM X.K g ε (cC (.int i))) := PE.imp CD fun _ _ _ t => yk (fun _ => .int i) t
theorem m9 {i j pos} : PE X (.Constant (.bool i) j pos) (tM X.K g ε (cC (.bl i))) := PE.imp Eb fun _ _ _ t => yk (fun _ => .bl i) t
theorem sd {x : Str} {i : Int} {t : Tok} {pos : Pos} (hg : Gl X x) (hm : X.mg x = some (.int i t)) (hd : (x == ("__debug__" : Str)) = false := by decide) : PE X (.Name x pos) (tM X.K g ε (cC (.int i))) :=
  PE.imp (Al (v := .int i) hg hm ⟨t, rfl⟩ hd) fun _ _ _ t => yk (fun _ => .int i) t
theorem pR {f : D -> D -> Hh -> R D} {r : R2} {K : PySem.W.Frag} (im : dA K g ε f r) {σ : St} {H : Hp} {Q : VK} (t : tM K g ε (ar f ma mb) σ H Q) : tOp r (tM K g ε ma) (tM K g ε mb) σ H Q := by
  obtain ⟨α, env, h, s, w⟩ := t
  refine tM.use s w.bind fun d1 h1 v1 H1 α1 e1 s1 r1 w1 => ?_
  refine tM.use s1 (w1.ext e1).bind fun d2 h2 v2 H2 α2 e2 s2 r2 w2 => ?_
  exact im α2 H2 h2 d1 d2 v1 v2 Q s2.heap (r1.ext e2) r2 ((w2.ext e2).mono fun _ _ _ p => p.ext (e1.trans e2))
theorem aH {op : Operator} {r : R2} {f : D -> D -> Hh -> R D} (ho : OpR X (binaryOp op) r) (im : dA X.K g ε f r) (ha : PE X a (tM X.K g ε ma)) (hb : PE X b (tM X.K g ε mb)) : PE X (.BinOp a op b pos) (tM X.K g ε (ar f ma mb)) :=
  PE.imp (DT ho ha hb) fun _ _ _ t => pR im t
theorem gY {op : CmpOp} {r : R2} {f : D -> D -> Hh -> R D} (ho : OpR X (compareOp op) r) (im : dA X.K g ε f r) (ha : PE X a (tM X.K g ε ma)) (hb : PE X b (tM X.K g ε mb)) (hm : behindInMarks op b = false) : PE X (.Compare a [op] [b] pos) (tM X.K g ε (ar f ma mb)) :=
  PE.imp (BC ho ha hb hm) fun _ _ _ t => pR im t
theorem sL {K : PySem.W.Frag} {m : ME} {t : TE} (ht : ∀ σ H Q, tM K g ε m σ H Q -> t σ H Q) {σ : St} {H : Hp} {Q : Bool -> Hp -> Prop} (w : tMT K g ε (ay asB m) σ H Q) : yJ t σ H Q := by
  obtain ⟨α, env, h, s, w⟩ := w
  refine ht _ _ _ (tM.use s w.bind fun d1 h1 v1 H1 α1 e1 s1 r1 w1 => ?_)
  unfold asB at w1
  cases r1 with
  | bl k => exact ⟨k, rfl, w1 H1 α1 e1 s1.heap⟩
  | _ => exact w1.elim
theorem ba {op : CmpOp} {r : R2} {f : D -> D -> Hh -> R D} (ho : OpR X (compareOp op) r) (im : dA X.K g ε f r) (ha : PE X a (tM X.K g ε ma)) (hb : PE X b (tM X.K g ε mb)) (hm : behindInMarks op b = false) : PT X (.Compare a [op] [b] pos) (tMT X.K g ε (ay asB (ar f ma mb))) :=
  PT.imp (Af ho ha hb hm) fun _ _ _ t => sL (fun _ _ _ u => pR im u) t
theorem o6 {f f' : D -> D -> Hh -> R D} {r r' : R2} {K : PySem.W.Frag} (im : dA K g ε f r) (im' : dA K g ε f' r') {σ : St} {H : Hp} {Q : VK} (t : tM K g ε (kK f f' ma mb mc) σ H Q) : t9 r r' (tM K g ε ma) (tM K g ε mb) (tM K g ε mc) σ H Q := by
  obtain ⟨α, env, h, s, w⟩ := t
  refine tM.use s w.bind fun d1 h1 v1 H1 α1 e1 s1 r1 w1 => ?_
  refine tM.use s1 (w1.ext e1).bind fun d2 h2 v2 H2 α2 e2 s2 r2 w2 => ?_
  refine im α2 H2 h2 d1 d2 v1 v2 _ s2.heap (r1.ext e2) r2 ((w2.ext e2).bind.mono fun z h3 _ w3 v3 H3 α3 e3 hr3 r3 => ?_)
  have w4 := w3.bind
  unfold asB at w4
  cases r3 with
  | bl k =>
    refine ⟨k, rfl, ?_⟩
    have s3 := s2.ext e3 hr3
    cases k with
    | true =>
      have w5 : WQ K g ε α2 H2 ((mc env h3).bind fun w h5 => f' d2 w h5) _ := w4
      rw [if_pos rfl]
      refine tM.use s3 (w5.ext e3).bind fun d4 h4 v4 H4 α4 e4 s4 r4 w6 => ?_
      exact im' α4 H4 h4 d2 d4 v2 v4 Q s4.heap (r2.ext (e3.trans e4)) r4 ((w6.ext e4).mono fun _ _ _ p => p.ext (e1.trans (e2.trans (e3.trans e4))))
    | false =>
      rw [if_neg Bool.false_ne_true]
      have w5 : aK K g α H Q (.bl false) h3 := w4
      exact w5 _ H3 α3 (e1.trans (e2.trans e3)) s3.heap (.bl false)
  | _ => exact w4.elim
theorem yu {op op' : CmpOp} {r r' : R2} {f f' : D -> D -> Hh -> R D} (ho : OpR X (compareOp op) r) (ho' : OpR X (compareOp op') r') (im : dA X.K g ε f r) (im' : dA X.K g ε f' r') (ha : PE X a (tM X.K g ε ma)) (hb : PE X b (tM X.K g ε mb)) (hc : PE X c (tM X.K g ε mc))
    (hm : lastMarks [op, op'] [b, c] = false := by with_unfolding_all rfl) : PE X (.Compare a [op, op'] [b, c] pos) (tM X.K g ε (kK f f' ma mb mc)) := PE.imp (xv ho ho' ha hb hc hm) fun _ _ _ t => o6 im im' t
theorem yy {op op' : CmpOp} {r r' : R2} {f f' : D -> D -> Hh -> R D} (ho : OpR X (compareOp op) r) (ho' : OpR X (compareOp op') r') (im : dA X.K g ε f r) (im' : dA X.K g ε f' r') (ha : PE X a (tM X.K g ε ma)) (hb : PE X b (tM X.K g ε mb)) (hc : PE X c (tM X.K g ε mc))
    (hm : lastMarks [op, op'] [b, c] = false := by with_unfolding_all rfl) : PT X (.Compare a [op, op'] [b, c] pos) (tMT X.K g ε (ay asB (kK f f' ma mb mc))) := PT.imp (xB ho ho' ha hb hc hm) fun _ _ _ t => sL (fun _ _ _ u => o6 im im' u) t
theorem pq {op : UnaryOp} {r : V -> Hp -> VK -> Prop} {f : D -> Hh -> R D} (ho : UnR X (unaryOp op) r) (im : E7 X.K g ε f r) (ha : PE X a (tM X.K g ε ma)) : PE X (.UnaryOp op a pos) (tM X.K g ε (cUn f ma)) :=
  PE.imp (D2 ho ha) fun σ H Q ⟨α, env, h, s, w⟩ => tM.use s w.bind fun d1 h1 v1 H1 α1 e1 s1 r1 w1 => im α1 H1 h1 d1 v1 Q s1.heap r1 (w1.post e1)
theorem dq {r : R2} {f : D -> D -> Hh -> R D} (hr : IxR X r) (im : dA X.K g ε f r) (ha : PE X a (tM X.K g ε ma)) (hb : PE X b (tM X.K g ε mb)) (hs : vk b) : PE X (.Subscript a b pos) (tM X.K g ε (ar f ma mb)) :=
  PE.imp (E6 hr ha hb hs) fun _ _ _ t => pR im t
theorem fk {f : D -> Hh -> R Bool} (im : D5 X.K g ε f (fun x H Q => ∃ k, Bu X.K x H k /\ Q k H)) (ha : PE X a (tM X.K g ε ma)) (he : ∀ whole, isTrue a X.env whole = (do let v ← whole; standAt a.pos; holding [v] (truthy v))) : PT X a (tMT X.K g ε (ay f ma)) :=
  PT.imp (yL ha he) fun σ H Q ⟨α, env, h, s, w⟩ => tM.use s w.bind fun d1 h1 v1 H1 α1 e1 s1 r1 w1 => im α1 H1 h1 d1 v1 Q s1.heap r1 (w1.EH e1)
theorem kU {mt : MT} (ha : PT X a (tMT X.K g ε mt)) : PT X (.UnaryOp .Not a pos) (tMT X.K g ε (j6 mt)) :=
  PT.imp (Dl ha) fun σ H Q ⟨α, env, h, s, w⟩ => tMT.use s w.bind fun d1 h1 H1 α1 e1 s1 w1 => w1 H1 α1 e1 s1.heap
end
section
variable {X : Cx} {g : GG} {ε : EE} {a b c e : Expr} {es : List Expr} {rest : List Expr} {ma mb mc me : ME} {mt mu : MT} {pos : Pos}
theorem AK (ha : PT X a (tMT X.K g ε mt)) : PW X (.BoolOp .And [a] pos) (tMT X.K g ε mt) := pw_and1 ha
theorem qO (ha : PT X a (tMT X.K g ε mt)) : PW X (.BoolOp .Or [a] pos) (tMT X.K g ε mt) := pw_or1 ha
theorem CI (ha : PT X a (tMT X.K g ε mt)) (hb : PW X (.BoolOp .And (b :: rest) pos) (tMT X.K g ε mu)) : PW X (.BoolOp .And (a :: b :: rest) pos) (tMT X.K g ε (zf mt mu)) :=
  PW.imp (pw_and ha hb) fun σ H Q ⟨α, env, h, s, w⟩ => tMT.use s w.bind fun d1 h1 H1 α1 e1 s1 w1 => by
    cases d1 with
    | true => rw [if_pos rfl] at w1 ⊢; exact tMT.use s1 (w1.ext e1) fun d2 h2 H2 α2 e2 s2 w2 => w2 H2 α2 (e1.trans e2) s2.heap
    | false => rw [if_neg Bool.false_ne_true] at w1 ⊢; exact w1 H1 α1 e1 s1.heap
theorem uS (ha : PT X a (tMT X.K g ε mt)) (hb : PW X (.BoolOp .Or (b :: rest) pos) (tMT X.K g ε mu)) : PW X (.BoolOp .Or (a :: b :: rest) pos) (tMT X.K g ε (nZ mt mu)) :=
  PW.imp (pw_or ha hb) fun σ H Q ⟨α, env, h, s, w⟩ => tMT.use s w.bind fun d1 h1 H1 α1 e1 s1 w1 => by
    cases d1 with
    | true => rw [if_pos rfl] at w1 ⊢; exact w1 H1 α1 e1 s1.heap
    | false => rw [if_neg Bool.false_ne_true] at w1 ⊢; exact tMT.use s1 (w1.ext e1) fun d2 h2 H2 α2 e2 s2 w2 => w2 H2 α2 (e1.trans e2) s2.heap
theorem rN (hc : PT X c (tMT X.K g ε mt)) (ha : PE X a (tM X.K g ε ma)) (hb : PE X b (tM X.K g ε mb)) : PE X (.IfExp c a b pos) (tM X.K g ε (cIf mt ma mb)) :=
  PE.imp (zI hc ha hb) fun σ H Q ⟨α, env, h, s, w⟩ => tMT.use s w.bind fun d1 h1 H1 α1 e1 s1 w1 => by
    cases d1 with
    | true => rw [if_pos rfl] at w1 ⊢; exact tM.use s1 (w1.ext e1) fun d2 h2 v2 H2 α2 e2 s2 r2 w2 => w2 v2 H2 α2 (e1.trans e2) s2.heap r2
    | false => rw [if_neg Bool.false_ne_true] at w1 ⊢; exact tM.use s1 (w1.ext e1) fun d2 h2 v2 H2 α2 e2 s2 r2 w2 => w2 v2 H2 α2 (e1.trans e2) s2.heap r2
theorem yC {op} (h : PE X a (tM X.K g ε ma)) : PE X (.BoolOp op [a] pos) (tM X.K g ε ma) := Dq h
theorem zG {K : PySem.W.Frag} {α : List Addr} {H H1 : Hp} {α1 : List Addr} {d : D} {v : V} {h : Hh} {β : Type} {f : Bool -> Hh -> R β} {k : β -> Hh -> Prop} (r : aG K g α1 H1 d v) (w : WQ K g ε α H ((asB d h).bind f) k) : ∃ b, v = .bl b /\ d = .bl b /\ WQ K g ε α H (f b h) k := by
  cases r with
  | bl b => exact ⟨b, rfl, rfl, w⟩
  | _ => exact w.elim
theorem xZ (ha : PE X a (tM X.K g ε ma)) (hb : PE X (.BoolOp .And (b :: rest) pos) (tM X.K g ε mb)) : PE X (.BoolOp .And (a :: b :: rest) pos) (tM X.K g ε (uY ma mb)) :=
  PE.imp (CB ha hb) fun σ H Q ⟨α, env, h, s, w⟩ => tM.use s w.bind fun d1 h1 v1 H1 α1 e1 s1 r1 w1 => by
    obtain ⟨k, rfl, rfl, w2⟩ := zG r1 w1
    refine ⟨k, rfl, ?_⟩
    cases k with
    | true => rw [if_pos rfl] at w2 ⊢; exact tM.use s1 (w2.ext e1) fun d2 h2 v2 H2 α2 e2 s2 r2 w2 => w2 v2 H2 α2 (e1.trans e2) s2.heap r2
    | false => rw [if_neg Bool.false_ne_true] at w2 ⊢; exact w2 _ H1 α1 e1 s1.heap (.bl false)
theorem C4 (ha : PE X a (tM X.K g ε ma)) : PE X (.UnaryOp .Not a pos) (tM X.K g ε (zx ma)) :=
  PE.imp (Dc ha) fun σ H Q ⟨α, env, h, s, w⟩ => tM.use s w.bind fun d1 h1 v1 H1 α1 e1 s1 r1 w1 => by
    obtain ⟨k, rfl, rfl, w2⟩ := zG r1 w1
    exact ⟨k, rfl, w2 _ H1 α1 e1 s1.heap (.bl _)⟩
variable {mr : MA}
theorem ai : PA X [] (tMA X.K g ε ak) := PA.imp nc fun σ H Q ⟨α, env, h, s, w⟩ => w [] H α Ext.refl s.heap .nil
theorem ag (ha : PE X e (tM X.K g ε ma)) (hr : PA X es (tMA X.K g ε mr)) (hs : starEach (e :: es) X.env = (false, eval e X.env) :: starEach es X.env := by rfl) : PA X (e :: es) (tMA X.K g ε (aa ma mr)) :=
  PA.imp (iT ha hr hs) fun σ H Q ⟨α, env, h, s, w⟩ => tM.use s w.bind fun d1 h1 v1 H1 α1 e1 s1 r1 w1 => tMA.use s1 (w1.ext e1).bind fun d2 h2 v2 H2 α2 e2 s2 r2 w2 => w2 _ H2 α2 (e1.trans e2) s2.heap (.cons (r1.ext e2) r2)
noncomputable def gi : List D -> Hh -> R D := fun ds h => if ds.length <= 1000000 then .ok (.tup ds) h else .bad
theorem aK.tup {K : PySem.W.Frag} {α : List Addr} {H : Hp} {h : Hh} {ds : List D} {vs : List V} {Q : VK} {p : Addr} (w : aK K g α H Q (.tup ds) h) (r : aP K g α H h) (rd : aw K g α H ds vs) (n : H p = none) : Q (.ref p) (upd H p (.tup vs)) :=
  w _ _ α (Ext.fresh n) (r.grow n) (.tup a_ (rd.ext (Ext.fresh n)))
theorem WQ.eD {K : PySem.W.Frag} {α : List Addr} {H : Hp} {β : Type} {c : Prop} [Decidable c] {r : R β} {k : β -> Hh -> Prop} (w : WQ K g ε α H (if c then r else .bad) k) : c /\ WQ K g ε α H r k := by
  by_cases h : c
  · rw [if_pos h] at w; exact ⟨h, w⟩
  · rw [if_neg h] at w; exact w.elim
theorem fG {n : Nat} (h : n <= 1000000) : n <= sizeLine := by rw [sizeLine_eq]; omega
theorem h9 {x1} (ha : PA X es (tMA X.K g ε mr)) : PE X (.Tuple es x1 pos) (tM X.K g ε (ah gi mr)) :=
  PE.imp (C2 ha) fun σ H Q ⟨α, env, h, s, w⟩ => tMA.use s w.bind fun d1 h1 v1 H1 α1 e1 s1 r1 w1 => by
    obtain ⟨hl, w2⟩ := WQ.eD w1
    exact ⟨fG (by rw [<- r1.length]; exact hl), fun p hp => aK.tup (aK.ext e1 w2) s1.heap r1 hp⟩
theorem yl {f : List D -> Hh -> R D} {r : List V -> Hp -> VK -> Prop} {K : PySem.W.Frag} (im : oy K g ε f r) {σ : St} {H : Hp} {Q : VK} (t : tM K g ε (ah f mr) σ H Q) : tCB r (tMA K g ε mr) σ H Q := by
  obtain ⟨α, env, h, s, w⟩ := t
  exact tMA.use s w.bind fun d1 h1 v1 H1 α1 e1 s1 r1 w1 => im α1 H1 h1 d1 v1 Q s1.heap r1 (w1.post e1)
theorem aD {id : String} {x : Str} {p : Pos} {f : List D -> Hh -> R D} {r : List V -> Hp -> VK -> Prop} (hc : bK X (.builtin id) r) (im : oy X.K g ε f r) (hg : Gl X x) (hm : X.mg x = none) (hv : bootBuiltins x = some (.builtin id)) (ha : PA X (e :: es) (tMA X.K g ε mr)) (hn : x ≠ "__name__" := by decide) (hdb : (x == ("__debug__" : Str)) = false := by decide)
    (he : starEach (e :: es) X.env = (false, eval e X.env) :: starEach es X.env := by rfl) (hpl : (backTo pos (starEach es X.env)).any (·.1) = false := by rfl) : PE X (.Call (.Name x p) (e :: es) [] pos) (tM X.K g ε (ah f mr)) :=
  PE.imp (sZ hc hg hm hv ha hn hdb he hpl) fun _ _ _ t => yl im t
theorem eZ {id : String} {x : Str} {p : Pos} {f : List D -> Hh -> R D} {r : List V -> Hp -> VK -> Prop} (hc : bK X (.type id) r) (im : oy X.K g ε f r) (hg : Gl X x) (hm : X.mg x = none) (hv : bootBuiltins x = some (.type id)) (ha : PA X (e :: es) (tMA X.K g ε mr)) (hn : x ≠ "__name__" := by decide) (hdb : (x == ("__debug__" : Str)) = false := by decide)
    (he : starEach (e :: es) X.env = (false, eval e X.env) :: starEach es X.env := by rfl) (hpl : (backTo pos (starEach es X.env)).any (·.1) = false := by rfl) : PE X (.Call (.Name x p) (e :: es) [] pos) (tM X.K g ε (ah f mr)) :=
  PE.imp (gv hc hg hm hv ha hn hdb he hpl) fun _ _ _ t => yl im t
end
noncomputable def bf : MS := fun env h => .ok (.nx env) h
noncomputable def wK : MS := fun env h => .ok (.bk env) h
noncomputable def aE (a b : MS) : MS := fun env h => (a env h).bind fun fl h1 => match fl with
  | .nx e => b e h1
  | fl => .ok fl h1
noncomputable def iI (a : ME) : MS := fun env h => (a env h).bind fun _ h1 => .ok (.nx env) h1
noncomputable def bu (a : ME) : MS := fun env h => (a env h).bind fun d h1 => .ok (.rt d) h1
noncomputable def cp (c : MT) (a b : MS) : MS := fun env h => (c env h).bind fun x h1 => if x = true then a env h1 else b env h1
noncomputable def a9 (i : Nat) (a : ME) : MS := fun env h => (a env h).bind fun d h1 => .ok (.nx (env.set i (some d))) h1
noncomputable def vX (i : Nat) (f : D -> D -> Hh -> R D) (a : ME) : MS := fun env h => (af i env h).bind fun x h0 => (a env h0).bind fun y h1 => (f x y h1).bind fun z h2 => .ok (.nx (env.set i (some z))) h2
noncomputable def jD (f : D -> D -> D -> Hh -> R Unit) (o i v : ME) : MS := fun env h => (v env h).bind fun x h1 => (o env h1).bind fun y h2 => (i env h2).bind fun z h3 => (f y z x h3).bind fun _ h4 => .ok (.nx env) h4
noncomputable def CN : MS := fun _ _ => .bad
section
variable {X : Cx} {g : GG} {ε : EE} {e : Expr} {me : ME} {ms mu : MS} {mt : MT} {st : Stmt} {rest : List Stmt} {pos : Pos}
theorem cT.nx {K : PySem.W.Frag} {α α' : List Addr} {H H' : Hp} {env : En} {σ : St} {h' : Hh} {E : Ends} (s : cT K g α' H' env σ h') (e : Ext K α H α' H') (w : cu K g α H E (.nx env) h') : E.nx σ H' := w H' α' e s.heap σ s.vs
theorem bw : PSs X [] (tMS X.K g ε bf) := PSs.imp Bb fun E σ H ⟨α, env, h, s, w⟩ => s.nx Ext.refl w
theorem BH : PS X (.Break pos) (tMS X.K g ε wK) := PS.imp zd fun E σ H ⟨α, env, h, s, w⟩ => (show cu X.K g α H E (.bk env) h from w) H α Ext.refl s.heap σ s.vs
theorem tMS.use {K : PySem.W.Frag} {α : List Addr} {H : Hp} {env : En} {σ : St} {h : Hh} {m : MS} {E : Ends} {k : Fl -> Hh -> Prop} (s : cT K g α H env σ h) (w : WQ K g ε α H (m env h) k)
    (q : ∀ fl h' H' α', Ext K α H α' H' -> aP K g α' H' h' -> k fl h' -> match fl with
      | .nx e => ∀ σ', cT K g α' H' e σ' h' -> E.nx σ' H'
      | .bk e => ∀ σ', cT K g α' H' e σ' h' -> E.bk σ' H'
      | .ct e => ∀ σ', cT K g α' H' e σ' h' -> E.ct σ' H'
      | .rt d => ∀ v, aG K g α' H' d v -> E.rt v H') : tMS K g ε m E σ H :=
  ⟨α, env, h, s, w.mono fun fl h' _ kk H' α' e r => by
    have := q fl h' H' α' e r kk
    cases fl with
    | nx e => exact fun σ' v => this σ' ⟨r, v⟩
    | bk e => exact fun σ' v => this σ' ⟨r, v⟩
    | ct e => exact fun σ' v => this σ' ⟨r, v⟩
    | rt d => exact this⟩
theorem av (h1 : PS X st (tMS X.K g ε ms)) (h2 : PSs X rest (tMS X.K g ε mu)) : PSs X (st :: rest) (tMS X.K g ε (aE ms mu)) :=
  PSs.imp (ya h1 h2) fun E σ H ⟨α, env, h, s, w⟩ => tMS.use s w.bind fun fl h' H' α' e r kk => by
    cases fl with
    | nx env' => exact fun σ' s' => ⟨α', env', h', s', WQ.uN e kk⟩
    | bk env' => exact fun σ' s' => (show cu X.K g α H E (.bk env') h' from kk) H' α' e r σ' s'.vs
    | ct env' => exact fun σ' s' => (show cu X.K g α H E (.ct env') h' from kk) H' α' e r σ' s'.vs
    | rt d => exact fun v rv => (show cu X.K g α H E (.rt d) h' from kk) H' α' e r v rv
theorem ax (h1 : PS X st (tMS X.K g ε ms)) : PSs X [st] (tMS X.K g ε ms) := zZ h1
theorem kh (he : PE X e (tM X.K g ε me)) (hs : swapsWith e none pos.line X.env = pure false := by rfl) : PS X (.Expr e pos) (tMS X.K g ε (iI me)) :=
  PS.imp (AI he hs) fun E σ H ⟨α, env, h, s, w⟩ => tM.use s w.bind fun d1 h1 v1 H1 α1 e1 s1 r1 w1 => s1.nx e1 w1
theorem br (he : PE X e (tM X.K g ε me)) : PS X (.Return (some e) pos) (tMS X.K g ε (bu me)) :=
  PS.imp (Dg he) fun E σ H ⟨α, env, h, s, w⟩ => tM.use s w.bind fun d1 h1 v1 H1 α1 e1 s1 r1 w1 => (show cu X.K g α H E (.rt d1) h1 from w1) H1 α1 e1 s1.heap v1 r1
theorem fU {c : Expr} {A B : List Stmt} (hc : PT X c (tMT X.K g ε mt)) (ha : PSs X A (tMS X.K g ε ms)) (hb : PSs X B (tMS X.K g ε mu)) : PS X (.If c A B pos) (tMS X.K g ε (cp mt ms mu)) :=
  PS.imp (EM hc ha hb) fun E σ H ⟨α, env, h, s, w⟩ => tMT.use s w.bind fun d1 h1 H1 α1 e1 s1 w1 => by
    cases d1 with
    | true => rw [if_pos rfl] at w1 ⊢; exact ⟨α1, env, h1, s1, WQ.uN e1 w1⟩
    | false => rw [if_neg Bool.false_ne_true] at w1 ⊢; exact ⟨α1, env, h1, s1, WQ.uN e1 w1⟩
theorem bR {i : Nat} {x : Str} {pos' : Pos} (hN : X.N.Nodup) (hi : X.N[i]? = some x) (hx : Loc X.env.scope x) (he : PE X e (tM X.K g ε me)) (hs : swapsWith e (some (.Name x pos')) pos.line X.env = pure false := by rfl) (hf : X.fn x = true \/ X.env.scope.names.lookup x = some .local := by first | exact .inl rfl | exact .inr rfl | assumption) :
    PS X (.Assign [.Name x pos'] e pos) (tMS X.K g ε (a9 i me)) :=
  PS.imp (DC hN hi hx he hs hf) fun E σ H ⟨α, env, h, s, w⟩ => tM.use s w.bind fun d1 h1 v1 H1 α1 e1 s1 r1 w1 => (show cu X.K g α H E (.nx (env.set i (some d1))) h1 from w1) H1 α1 e1 s1.heap _ (s1.vs.set r1)
theorem BM {i : Nat} {x : Str} {op : Operator} {ti : TIp} {f : D -> D -> Hh -> R D} {pos' : Pos} (hN : X.N.Nodup) (hi : X.N[i]? = some x) (hx : Loc X.env.scope x) (he : PE X e (tM X.K g ε me)) (ho : PIp X op ti) (im : dA X.K g ε f ti) (hf : X.fn x = true \/ X.env.scope.names.lookup x = some .local := by first | exact .inl rfl | exact .inr rfl | assumption) :
    PS X (.AugAssign (.Name x pos') op e pos) (tMS X.K g ε (vX i f me)) :=
  PS.imp (Cd hN hi hx he ho hf) fun E σ H ⟨α, env, h, s, w⟩ => by
    have w0 := w.bind
    unfold af at w0
    cases ei : env[i]? with
    | none => rw [ei] at w0; exact w0.elim
    | some d =>
      cases d with
      | none => rw [ei] at w0; exact w0.elim
      | some d =>
        rw [ei] at w0
        have w1 : WQ X.K g ε α H ((me env h).bind _) _ := w0
        obtain ⟨v, hv, rd⟩ := s.vs.vars i d ei
        refine ⟨v, hv, tM.use s w1.bind fun d1 h1 v1 H1 α1 e1 s1 r1 w2 => ?_⟩
        refine im α1 H1 h1 d d1 v v1 _ s1.heap (rd.ext e1) r1 ((w2.ext e1).bind.mono fun z h2 _ w3 v3 H3 α3 e3 hr3 r3 => ?_)
        exact (show cu X.K g α H E (.nx _) h2 from w3) H3 α3 (e1.trans e3) hr3 _ ((s1.vs.ext e3).set r3)
noncomputable def Eu (K : PySem.W.Frag) (g : GG) (ε : EE) (f : D -> D -> D -> Hh -> R Unit) (t : yU) : Prop :=
  ∀ (α : List Addr) (H : Hp) (h : Hh) (o i v : D) (x y z : V) (Q : Hp -> Prop), aP K g α H h -> aG K g α H o x -> aG K g α H i y -> aG K g α H v z -> WQ K g ε α H (f o i v h) (fun _ h' => ∀ H' α', Ext K α H α' H' -> aP K g α' H' h' -> Q H') -> t x y z H Q
theorem uZ {o i : Expr} {mo mi : ME} {t : yU} {f : D -> D -> D -> Hh -> R Unit} {p : Pos} (he : PE X e (tM X.K g ε me)) (ho : PE X o (tM X.K g ε mo)) (hi : PE X i (tM X.K g ε mi)) (hp : Cp X t) (im : Eu X.K g ε f t)
    (ha : ∀ v, assign (.Subscript o i p) X.env v = (do
      let ov ← holding [v] (eval o X.env)
      let iv ← holding [v, ov] (eval i X.env)
      standAt p
      holding [v, ov, iv] (setItem ov iv v)
      release [v, ov, iv] []) := by intro _; rfl)
    (hs : swapsWithSole [.Subscript o i p] e pos.line X.env = pure false := by rfl) (hw : swappedStores [.Subscript o i p] e X.env = pure none := by rfl)
    (h1 : (assignEach [.Subscript o i p] X.env).map (·.2) = [assign (.Subscript o i p) X.env] := by rfl) : PS X (.Assign [.Subscript o i p] e pos) (tMS X.K g ε (jD f mo mi me)) :=
  PS.imp (CP he (DB ho hi hp ha) hs hw h1) fun E σ H ⟨α, env, h, s, w⟩ => tM.use s w.bind fun d1 h1 v1 H1 α1 e1 s1 r1 w1 => tM.use s1 (w1.ext e1).bind fun d2 h2 v2 H2 α2 e2 s2 r2 w2 => tM.use s2 (w2.ext e2).bind fun d3 h3 v3 H3 α3 e3 s3 r3 w3 => by
    refine im α3 H3 h3 d2 d3 d1 v2 v3 v1 _ s3.heap (r2.ext e3) r3 ((r1.ext e2).ext e3) ((w3.ext e3).bind.mono fun _ h4 _ w4 H4 α4 e4 hr4 => ?_)
    exact (show cu X.K g α H E (.nx env) h4 from w4) H4 α4 (e1.trans (e2.trans (e3.trans e4))) hr4 _ (s3.vs.ext e4)
end
theorem uE {X : Cx} {pins : List (Addr × Obj)} {σ : St} {H : Hp} {s : Shared} {p : Addr} {u : HO} (I : Inv X pins σ H s) (h : H p = some u) (mu : Mut (some u)) : ∃ o, Inv X pins σ (upd H p (.frz o u)) s := by
  obtain ⟨o, ho⟩ : ∃ o, s.heap.get? p = some o := by
    have hl := (I.hok p _ h).lt
    cases e : s.heap.get? p with
    | some o => exact ⟨o, rfl⟩
    | none => 
      have q := I.hok p _ h
      cases u with
      | lst xs => obtain ⟨_, _, _, _, e'⟩ := q; rw [e] at e'; cases e'
      | dK kvs => obtain ⟨_, _, _, _, o, _, _, e', _⟩ := q; rw [e] at e'; cases e'
      | dT kvs => obtain ⟨_, _, _, _, o, _, _, e', _⟩ := q; rw [e] at e'; cases e'
      | set S n => obtain ⟨o, _, _, _, e', _⟩ := q; rw [e] at e'; cases e'
      | ins C dx fs => obtain ⟨_, _, _, e', _⟩ := q; rw [e] at e'; cases e'
      | ext φ => obtain ⟨_, ⟨_, e'⟩, _⟩ := q; rw [e] at e'; cases e'
      | _ => exact absurd mu (fun z => z)
  have nt : ∀ b xs, H b = some (.tup xs) -> b ≠ p := fun b xs e z => by subst z; rw [h] at e; cases e; exact mu
  have nf : ∀ b o u, H b = some (.frz o u) -> b ≠ p := fun b o u e z => by subst z; rw [h] at e; cases e; exact mu
  have nb : ∀ b ps, H b = some (.tbl ps) -> b ≠ p := fun b ps e z => by subst z; rw [h] at e; cases e; exact mu
  have no : ∀ b y, H b = some (.own y) -> b ≠ p := fun b ps e z => by subst z; rw [h] at e; cases e; exact mu
  have hok : HOk X.prog X.w (upd H p (.frz o u)) s.heap := fun b v q => by
    by_cases hb : b = p
    · subst hb
      rw [a_] at q; cases q
      exact ⟨ho, (I.hok b _ h).ki (fun _ _ _ z => z) (fun c z => by rw [aI (no c _ z)]; exact z) fun c xs z => by rw [aI (nt c xs z)]; exact z⟩
    · rw [aI hb] at q
      exact (I.hok b v q).ki (fun _ _ _ z => z) (fun c z => by rw [aI (no c _ z)]; exact z) fun c xs z => by rw [aI (nt c xs z)]; exact z
  refine ⟨o, ?_⟩
  have np : ∀ b, H b = none -> b ≠ p := fun b e z => by subst z; rw [h] at e; cases e
  have := I.un (H' := upd H p (.frz o u)) (h' := s.heap) (t' := s.toks) ⟨fun b o q _ _ _ => q, fun b o q _ _ _ => ⟨o.slots, q⟩, fun b v q n _ => (by rw [aI (np b n)]; exact n), fun b o q _ => ⟨o, q⟩, fun b xs q => (by rw [aI (nt b xs q)]; exact q), fun b o v q => (by rw [aI (nf b o v q)]; exact q), fun b ps q => ⟨#[], by rw [aI (nb b ps q), q]; simp⟩⟩ hok
  exact this
noncomputable def jL (Q : VK) : VK := fun v H => Q v H \/ ∃ p u, v = .ref p /\ H p = some u /\ Mut (some u) /\ ∀ o, Q v (upd H p (.frz o u))
theorem EP.frz {X : Cx} {pins : List (Addr × Obj)} {σ : St} {Q : VK} {u : Value} {s' : Shared} (h : EP X pins σ (jL Q) u s') : EP X pins σ Q u s' := by
  obtain ⟨v, H', I, r, q | ⟨p, u, rfl, e, m, q⟩⟩ := h
  · exact ⟨v, H', I, r, q⟩
  · obtain ⟨o, I'⟩ := uE I e m
    exact ⟨_, _, I', r, q o⟩
theorem PE.frz {X : Cx} {e : Expr} {t : TE} (h : PE X e t) : PE X e fun σ H Q => t σ H (jL Q) := fun pins s σ H Q I w => thn (h pins s σ H _ I w) fun _ _ z => EP.frz z
theorem OpR.frz {X : Cx} {f : Value -> Value -> Sem Value} {r : R2} (h : OpR X f r) : OpR X f fun x y H Q => r x y H (jL Q) := fun pins s σ H x y v u Q I rx ry q => thn (h pins s σ H x y v u _ I rx ry q) fun _ _ z => EP.frz z
noncomputable def Ed (D : Ends) : Ends := { D with nx := fun σ H => D.nx σ H \/ ∃ p u, H p = some u /\ Mut (some u) /\ ∀ o, D.nx σ (upd H p (.frz o u)) }
theorem PS.frz {X : Cx} {st : Stmt} {t : TS} (h : PS X st t) : PS X st fun E σ H => t (Ed E) σ H := fun pins s σ H E I w => thn (h pins s σ H _ I w) fun fl s' z => by
  cases fl with
  | next =>
    obtain ⟨σ', H', I, q | ⟨p, u, e, m, q⟩⟩ := z
    · exact ⟨σ', H', I, q⟩
    · obtain ⟨o, I'⟩ := uE I e m
      exact ⟨σ', _, I', q o⟩
  | brk => exact z
  | cont => exact z
  | ret u => exact z
theorem Ao {E : Ends} {σ : St} {i : Nat} {v : V} {H1 : Hp} (z : jL (fun v H1 => E.nx (σ.set i (some v)) H1) v H1) : (Ed E).nx (σ.set i (some v)) H1 := by
  rcases z with z | ⟨p, u, _, e, m, q⟩
  · exact .inl z
  · exact .inr ⟨p, u, e, m, q⟩
noncomputable abbrev NL := List D -> Hh -> R D
noncomputable def lZ : NL := fun ys h2 => .ok (.ref h2.length) (h2 ++ [O.lst ys])
noncomputable def aN : NL := fun ys h2 => .ok (.frl ys) h2
class kM (nl : NL) : Prop where
  at' : ∀ {K : PySem.W.Frag} {g : GG} {ε : EE} {α1 α2 : List Addr} {H1 H2 : Hp} {h : Hh} {as : List D} {ys : List V} {acc : Addr} {Q : D -> Hh -> Prop} {R : VK}, WQ K g ε α1 H1 (nl as h) Q -> (∀ d h', Q d h' -> aK K g α1 H1 R d h') -> Ext K α1 H1 α2 H2 -> aP K g α2 H2 h -> aw K g α2 H2 as ys -> H2 acc = some (.lst ys) -> acc ∉ α2 -> H1 acc = none -> jL R (.ref acc) H2
instance : kM lZ where
  at' := fun {K g ε α1 α2 H1 H2 h as ys acc Q R} w hq x2 hr2 ra ha hna hacc => by
    have x3 : Ext K α1 H1 (α2 ++ [acc]) H2 := ⟨x2.toEx0.trans (Ex0.refl.more _), x2.kept, fun p z n => by
      rcases List.mem_append.mp z with z | z
      · exact x2.new p z n
      · rw [List.mem_singleton.mp z]; exact hacc⟩
    refine .inl (hq _ _ w _ H2 (α2 ++ [acc]) x3 (hr2.adopt hna ⟨ys, ha, ra.ex0 (Ex0.refl.more _)⟩) (.ref ?_))
    rw [<- hr2.len, List.getElem?_append_right (Nat.le_refl _)]; simp
instance : kM aN where
  at' := fun {K g ε α1 α2 H1 H2 h as ys acc Q R} w hq x2 hr2 ra ha hna hacc => by
    refine .inr ⟨acc, _, rfl, ha, trivial, fun o => ?_⟩
    have soft : Bq H2 acc := .inr ⟨_, ha, fun _ z => (nomatch z), fun _ _ z => (nomatch z), fun _ z => nomatch z⟩
    have x6 : Ex0 K α2 H2 α2 (upd H2 acc (.frz o (.lst ys))) := Ex0.upd soft
    refine hq _ _ w _ _ α2 ⟨x2.toEx0.trans x6, fun p u z n nt => ?_, x2.new⟩ (hr2.off soft hna) (.frl ⟨o, a_⟩ (ra.ex0 x6))
    rw [aI (bc z hacc)]; exact x2.kept p u z n nt
theorem NL.post {nl : NL} [kM nl] {K : PySem.W.Frag} {g : GG} {ε : EE} {α : List Addr} {H : Hp} {h : Hh} {ds : List D} {vs : List V} {Q : VK} {p : Addr} (w : WQ K g ε α H (nl ds h) (aK K g α H Q)) (r : aP K g α H h) (rd : aw K g α H ds vs) (n : H p = none) : jL Q (.ref p) (upd H p (.lst vs)) :=
  kM.at' w (fun _ _ z => z) (Ext.fresh n) (r.grow n) (rd.ext (Ext.fresh n)) a_ (r.free n) n
noncomputable def ij (nl : NL) : List D -> Hh -> R D := fun ds h => if ds.length <= 1000000 then nl ds h else .bad
theorem ip {X : Cx} {g : GG} {ε : EE} {es : List Expr} {mr : MA} {pos : Pos} {nl : NL} [kM nl] (ha : PA X es (tMA X.K g ε mr)) : PE X (.List es pos) (tM X.K g ε (ah (ij nl) mr)) :=
  PE.imp (PE.frz (DI ha)) fun σ H Q ⟨α, env, h, s, w⟩ => tMA.use s w.bind fun d1 h1 v1 H1 α1 e1 s1 r1 w1 => by
    obtain ⟨hl, w2⟩ := WQ.eD w1
    exact ⟨fG (by rw [<- r1.length]; exact hl), fun p hp => NL.post (w2.post e1) s1.heap r1 hp⟩
noncomputable def aA (h : Hh) (n : Nat) : Option (List D) := match h[n]? with
  | some (.lst ds) => some ds
  | _ => none
inductive Src where
  | snap (ds : List D)
  | live (n : Nat)
  | liveE (n : Nat)
noncomputable abbrev MI := En -> Hh -> R Src
noncomputable abbrev Rdr := Hh -> Nat -> Option (Option D)
noncomputable def Src.rdr : Src -> Rdr
  | .snap ds => fun _ i => some ds[i]?
  | .live n => fun h i => (aA h n).map fun ds => ds[i]?
  | .liveE n => fun h i => (aA h n).map fun ds => (ds[i]?).map fun d => D.tup [.int i, d]
noncomputable def Src.fuel (s : Src) (h : Hh) : Nat := match s with
  | .snap ds => ds.length
  | .live n => ((aA h n).getD []).length
  | .liveE n => ((aA h n).getD []).length
noncomputable def Reads (K : PySem.W.Frag) (g : GG) (J : It) (rd : Rdr) (α₀ : List Addr) (aX : Hp) : Prop :=
  ∀ (α : List Addr) (H : Hp) (h : Hh), Ext K α₀ aX α H -> aP K g α H h -> ∀ i, match rd h i with
    | none => True
    | some none => J.stop i H
    | some (some d) => J.go i H /\ ∀ x H', J.yld i H x H' -> ∃ α', Ext K α H α' H' /\ aP K g α' H' h /\ aG K g α' H' d x
noncomputable def tMI (K : PySem.W.Frag) (g : GG) (ε : EE) (m : MI) : TI := fun σ H T => ∃ α env h, cT K g α H env σ h /\ WQ K g ε α H (m env h) fun sr h' => ∀ J H' α', Ext K α H α' H' -> aP K g α' H' h' -> Reads K g J sr.rdr α' H' -> T J H'
theorem PI.imp {X : Cx} {tg e : Expr} {t t' : TI} (h : PI X tg e t) (i : ∀ σ H Q, t' σ H Q -> t σ H Q) : PI X tg e t' := fun pins s σ H Q I w => h pins s σ H Q I (i σ H Q w)
noncomputable def ft (rd : Rdr) (tg : D -> En -> Hh -> R En) (body : MS) : Nat -> Nat -> En -> Hh -> R Fl
  | k, i, env, h => match rd h i with
    | none => .bad
    | some none => .ok (.nx env) h
    | some (some d) => match k with
      | 0 => .bad
      | k + 1 => (tg d env h).bind fun e1 h1 => (body e1 h1).bind fun fl h2 => match fl with
        | .nx e => ft rd tg body k (i + 1) e h2
        | .ct e => ft rd tg body k (i + 1) e h2
        | .bk e => .ok (.nx e) h2
        | .rt d => .ok (.rt d) h2
noncomputable def eP (tg : D -> En -> Hh -> R En) (body : MS) : List D -> En -> Hh -> R Fl
  | [], env, h => .ok (.nx env) h
  | d :: ds, env, h => (tg d env h).bind fun e1 h1 => (body e1 h1).bind fun fl h2 => match fl with
    | .nx e => eP tg body ds e h2
    | .ct e => eP tg body ds e h2
    | .bk e => .ok (.nx e) h2
    | .rt d => .ok (.rt d) h2
theorem AF (tg : D -> En -> Hh -> R En) (body : MS) (all : List D) : ∀ (ds : List D) (i : Nat) (env : En) (h : Hh), all.drop i = ds -> ft (Src.snap all).rdr tg body ds.length i env h = eP tg body ds env h := by
  intro ds
  induction ds with
  | nil =>
    intro i env h e
    have : all[i]? = none := by
      have := congrArg List.length e
      simp at this
      exact List.getElem?_eq_none (by omega)
    unfold ft eP Src.rdr
    simp [this]
  | cons d ds ih =>
    intro i env h e
    have h0 : all[i]? = some d := by
      have := congrArg (fun l => l[0]?) e
      simpa using this
    have h1 : all.drop (i + 1) = ds := by
      have := congrArg List.tail e
      simpa using this
    unfold ft eP
    have : (Src.snap all).rdr h i = some (some d) := by unfold Src.rdr; simp [h0]
    rw [this]
    show ((tg d env h).bind _) = _
    congr 1
    funext e1 h2
    congr 1
    funext fl h3
    cases fl with
    | nx e => exact ih (i + 1) e h3 h1
    | ct e => exact ih (i + 1) e h3 h1
    | bk e => rfl
    | rt d => rfl
noncomputable def dO (mi : MI) (tg : D -> En -> Hh -> R En) (body : MS) : MS := fun env h => (mi env h).bind fun sr h1 => match sr with
  | .snap ds => eP tg body ds env h1
  | .live n => ft (Src.live n).rdr tg body ((aA h1 n).getD []).length 0 env h1
  | .liveE n => ft (Src.liveE n).rdr tg body ((aA h1 n).getD []).length 0 env h1
theorem Ag {mi : MI} {tg : D -> En -> Hh -> R En} {body : MS} {env : En} {h : Hh} : dO mi tg body env h = (mi env h).bind fun sr h1 => ft sr.rdr tg body (sr.fuel h1) 0 env h1 := by
  unfold dO
  congr 1
  funext sr h1
  cases sr with
  | snap ds => exact (AF tg body ds ds 0 env h1 rfl).symm
  | live n => rfl
  | liveE n => rfl
noncomputable def gN (i : Nat) : D -> En -> Hh -> R En := fun d env h => .ok (env.set i (some d)) h
noncomputable def gT2 (i j : Nat) : D -> En -> Hh -> R En := fun d env h => match d with
  | .tup [x, y] => .ok ((env.set i (some x)).set j (some y)) h
  | _ => .bad
noncomputable def C1 (K : PySem.W.Frag) (g : GG) (ε : EE) (tg : D -> En -> Hh -> R En) (t : TG) : Prop :=
  ∀ (α : List Addr) (H : Hp) (h : Hh) (env : En) (σ : St) (d : D) (x : V) (Q : St -> Hp -> Prop), cT K g α H env σ h -> aG K g α H d x →
    WQ K g ε α H (tg d env h) (fun e1 h1 => ∀ σ' H' α', Ext K α H α' H' -> cT K g α' H' e1 σ' h1 -> Q σ' H') -> t x σ H Q
theorem eA {K : PySem.W.Frag} {g : GG} {ε : EE} {i : Nat} : C1 K g ε (gN i) (jP i) := fun α H h env σ d x Q s r w => w _ H α Ext.refl ⟨s.heap, s.vs.set r⟩
theorem zg {K : PySem.W.Frag} {g : GG} {ε : EE} {i j : Nat} : C1 K g ε (gT2 i j) (Ec K 2 (xM (jP i) (xM (jP j) EZ))) := fun α H h env σ d x Q s r w => by
  unfold gT2 at w
  cases r with
  | tup hq rs =>
    cases rs with
    | nil => exact w.elim
    | cons ra rr =>
      cases rr with
      | nil => exact w.elim
      | cons rb rr =>
        cases rr with
        | nil => exact ⟨_, _, rfl, SqT.of hq, rfl, _, _, rfl, _, _, rfl, rfl, w _ H α Ext.refl ⟨s.heap, (s.vs.set ra).set rb⟩⟩
        | cons _ _ => exact w.elim
  | _ => exact w.elim
section
variable {X : Cx} {g : GG} {ε : EE}
theorem hG {tg iter : Expr} {body : List Stmt} {mi : MI} {t : TG} {fg : D -> En -> Hh -> R En} {mb : MS} {pos : Pos} (hp : PassesOwn (model X.prog X.w) X.A X.env X.xe) (hc : X.calm = true) (hi : PI X tg iter (tMI X.K g ε mi)) (hg : PG X tg t) (ig : C1 X.K g ε fg t) (hb : PSs X body (tMS X.K g ε mb))
    (hs : ∀ x, foldedSetIterable iter X.env x = pure x := by intro _; rfl) : PS X (.For tg iter body [] pos) (tMS X.K g ε (dO mi fg mb)) := by
  refine PS.imp (Df hp hc hi hg hb hs) fun E σ H ⟨α, env, h, s, w⟩ => ?_
  rw [Ag] at w
  refine ⟨α, env, h, s, w.bind.mono fun sr h1 _ w1 J H1 α1 e1 hr1 rd => ?_⟩
  refine ⟨fun i m σ H => ∃ α env h, Ext X.K α1 H1 α H /\ cT X.K g α H env σ h /\ WQ X.K g ε α H (ft sr.rdr fg mb m i env h) (cu X.K g α H E), ⟨sr.fuel h1, α1, env, h1, Ext.refl, s.ext e1 hr1, w1.uN e1⟩, ?_⟩
  rintro i m σ2 H2 ⟨α2, env2, h2, x2, s2, w2⟩
  have q := rd α2 H2 h2 x2 s2.heap i
  unfold ft at w2
  cases e : sr.rdr h2 i with
  | none => rw [e] at w2; exact w2.elim
  | some od =>
    rw [e] at w2 q
    cases od with
    | none => exact .inl ⟨q, s2.nx Ext.refl w2⟩
    | some d =>
      cases m with
      | zero => exact w2.elim
      | succ m =>
        have w3 := WQ.bind (show WQ X.K g ε α2 H2 ((fg d env2 h2).bind _) _ from w2)
        refine .inr ⟨q.1, fun σ' H' => ∃ α env h, Ext X.K α1 H1 α H' /\ cT X.K g α H' env σ' h /\ WQ X.K g ε α H' (ft sr.rdr fg mb m (i + 1) env h) (cu X.K g α H' E), fun σ' H' z => ⟨m, Nat.lt_succ_self _, z⟩, fun x H3 y => ?_⟩
        obtain ⟨α3, x3, hr3, rx⟩ := q.2 x H3 y
        refine ig α3 H3 h2 env2 σ2 d x _ (s2.ext x3 hr3) rx ((w3.ext x3).mono fun e4 h4 _ w4 σ4 H4 α4 x4 s4 => ?_)
        refine tMS.use s4 ((w4.ext x3).ext x4).bind fun fl h5 H5 α5 x5 hr5 w5 => ?_
        have tr : Ext X.K α2 H2 α5 H5 := x3.trans (x4.trans x5)
        cases fl with
        | nx e => exact fun σ' s' => ⟨α5, e, h5, x2.trans tr, s', ((w5.ext x5)).mono fun _ _ _ p => p.ext tr⟩
        | ct e => exact fun σ' s' => ⟨α5, e, h5, x2.trans tr, s', ((w5.ext x5)).mono fun _ _ _ p => p.ext tr⟩
        | bk e => exact fun σ' s' => (show cu X.K g α2 H2 E (.nx e) h5 from w5) H5 α5 tr hr5 σ' s'.vs
        | rt d => exact fun v rv => (show cu X.K g α2 H2 E (.rt d) h5 from w5) H5 α5 tr hr5 v rv
theorem aP.lst {K : PySem.W.Frag} {α : List Addr} {H : Hp} {h : Hh} {n : Nat} {ds : List D} (r : aP K g α H h) (e : aA h n = some ds) {p : Addr} (hp : α[n]? = some p) : ∃ vs, H p = some (.lst vs) /\ aw K g α H ds vs := by
  unfold aA at e
  cases o : h[n]? with
  | none => rw [o] at e; cases e
  | some o' =>
    rw [o] at e
    have q := r.here n p o' hp o
    cases o' with
    | lst ds' => cases e; obtain ⟨vs, a, b⟩ := q; exact ⟨vs, a, b⟩
    | set n => cases e
    | dic k => cases e
    | dit k => cases e
noncomputable def uc : D -> Hh -> R Src
  | .tup ds, h => .ok (.snap ds) h
  | .frl ds, h => .ok (.snap ds) h
  | .scr ds, h => .ok (.snap ds) h
  | .ref n, h => match aA h n with
    | some _ => .ok (.live n) h
    | none => .bad
  | _, _ => .bad
noncomputable def cU (a : ME) : MI := fun env h => (a env h).bind uc
noncomputable def G3 (K : PySem.W.Frag) (tl : TE) : TI := fun σ H R => tl σ H fun x H1 => ∃ a, x = .ref a /\ (((∃ xs, SqL K H1 a xs) /\ R (Itl K a) H1) \/ ((∃ xs, SqT K H1 a xs) /\ R (Itt K a) H1))
theorem B7 {tg l : Expr} {tl : TE} (hl : PE X l tl) : PI X tg l (G3 X.K tl) := by
  intro pins s σ H R I h
  refine thn (hl pins s σ H _ I h) fun v s1 ⟨x, H1, I1, r1, q1⟩ => ?_
  obtain ⟨a, e, q⟩ := q1
  subst e
  cases r1
  rcases q with ⟨⟨xs, hq⟩, q⟩ | ⟨⟨xs, hq⟩, q⟩
  · obtain ⟨its, rv, p, hz⟩ := I1.list hq
    refine wpAny_pyIter_list p.isList ?_
    refine ⟨s1.heap.objs.size, [s1.heap.objs.size], _, _, H1, rfl, I1.kept (t' := s1.toks) fun b o e => Heap.get?_push_of_some _ e, we a _, ⟨_, Heap.get?_push_size _ rfl, rfl, rfl⟩, fun b hb => ?_, q⟩
    have e : b = s1.heap.objs.size := by simpa using hb
    subst e
    exact I1.A5 (Nat.le_refl _) (I1.hok.fresh (Nat.le_refl _))
  · obtain ⟨its, rv, p, hz⟩ := I1.tuple hq
    refine wpAny_pyIter_tuple (show s1.heap.IsTuple a its.toArray from p) ?_
    refine ⟨s1.heap.objs.size, [s1.heap.objs.size], _, _, H1, rfl, I1.kept (t' := s1.toks) fun b o e => Heap.get?_push_of_some _ e, uk a _, ⟨_, Heap.get?_push_size _ rfl, rfl, rfl⟩, fun b hb => ?_, q⟩
    have e : b = s1.heap.objs.size := by simpa using hb
    subst e
    exact I1.A5 (Nat.le_refl _) (I1.hok.fresh (Nat.le_refl _))
theorem vW {K : PySem.W.Frag} {α : List Addr} {H : Hp} {a : Addr} {ds : List D} {vs : List V} (hq' : H a = some (.tup vs)) (rs : aw K g α H ds vs) : Reads K g (Itt K a) (Src.snap ds).rdr α H := by
  intro α2 H2 h2 x2 hr i
  have hq2 : SqT K H2 a vs := SqT.of (x2.tup _ _ hq')
  have rs2 := rs.ext x2
  show match some ds[i]? with | none => True | some none => _ | some (some d) => _
  cases e : ds[i]? with
  | none =>
    have : ds.length <= i := List.getElem?_eq_none_iff.mp e
    exact ⟨vs, hq2, by rw [<- rs.length]; exact this⟩
  | some d =>
    obtain ⟨v, ev, rv⟩ := rs2.get e
    refine ⟨⟨vs, v, hq2, ev⟩, fun x H' y => ?_⟩
    obtain ⟨e1, e2⟩ := y
    subst e1
    have := e2 vs hq2
    rw [ev] at this
    cases this
    exact ⟨α2, Ext.refl, hr, rv⟩
theorem pk {K : PySem.W.Frag} {α : List Addr} {H : Hp} {a : Addr} {ds : List D} {vs : List V} (hq : Fro K H a vs) (rs : aw K g α H ds vs) : Reads K g (Itl K a) (Src.snap ds).rdr α H := by
  intro α2 H2 h2 x2 hr i
  have hq2 := x2.fro _ _ hq
  have rs2 := rs.ext x2
  show match some ds[i]? with | none => True | some none => _ | some (some d) => _
  cases e : ds[i]? with
  | none =>
    have : ds.length <= i := List.getElem?_eq_none_iff.mp e
    exact ⟨vs, hq2.sq, by rw [<- rs.length]; exact this⟩
  | some d =>
    obtain ⟨v, ev, rv⟩ := rs2.get e
    refine ⟨⟨vs, v, hq2.sq, ev⟩, fun x H' y => ?_⟩
    obtain ⟨e1, e2⟩ := y
    subst e1
    have := e2 vs hq2.sq
    rw [ev] at this
    cases this
    exact ⟨α2, Ext.refl, hr, rv⟩
theorem xg {K : PySem.W.Frag} {α : List Addr} {H : Hp} {a : Addr} {n : Nat} (ha : α[n]? = some a) : Reads K g (Itl K a) (Src.live n).rdr α H := by
  intro α2 H2 h2 x2 hr i
  show match (aA h2 n).map fun ds => ds[i]? with | none => True | some none => _ | some (some d) => _
  cases e : aA h2 n with
  | none => trivial
  | some ds =>
    obtain ⟨vs, hq', rs⟩ := hr.lst e (x2.get ha)
    have hq : SqL K H2 a vs := SqL.of hq'
    show match some ds[i]? with | none => True | some none => _ | some (some d) => _
    cases ei : ds[i]? with
    | none =>
      have : ds.length <= i := List.getElem?_eq_none_iff.mp ei
      exact ⟨vs, hq, by rw [<- rs.length]; exact this⟩
    | some d =>
      obtain ⟨v, ev, rv⟩ := rs.get ei
      refine ⟨⟨vs, v, hq, ev⟩, fun x H' y => ?_⟩
      obtain ⟨e1, e2⟩ := y
      subst e1
      have := e2 vs hq
      rw [ev] at this
      cases this
      exact ⟨α2, Ext.refl, hr, rv⟩
theorem fQ {tg e : Expr} {me : ME} (he : PE X e (tM X.K g ε me)) : PI X tg e (tMI X.K g ε (cU me)) :=
  PI.imp (B7 he) fun σ H T ⟨α, env, h, s, w⟩ => tM.use s w.bind fun d1 h1 v1 H1 α1 e1 s1 r1 w1 => by
    unfold uc at w1
    cases r1 with
    | tup hq rs => exact ⟨_, rfl, .inr ⟨⟨_, SqT.of hq⟩, w1 _ H1 α1 e1 s1.heap (vW hq rs)⟩⟩
    | frl hq rs => exact ⟨_, rfl, .inl ⟨⟨_, hq.sq⟩, w1 _ H1 α1 e1 s1.heap (pk hq.fro rs)⟩⟩
    | scr hq rs => exact ⟨_, rfl, .inl ⟨⟨_, hq.sq⟩, w1 _ H1 α1 e1 s1.heap (pk hq rs)⟩⟩
    | @ref n p hp =>
      cases el : aA h1 n with
      | none => simp only [el] at w1; exact w1.elim
      | some ds =>
        simp only [el] at w1
        obtain ⟨vs, hq, _⟩ := s1.heap.lst el hp
        exact ⟨p, rfl, .inl ⟨⟨_, SqL.of hq⟩, w1 _ H1 α1 e1 s1.heap (xg hp)⟩⟩
    | _ => exact w1.elim
noncomputable def gu (ds : List D) : List D := (List.range ds.length).map fun (i : Nat) => D.tup [.int i, ds.getD i .non]
noncomputable def sO : D -> Hh -> R Src
  | .tup ds, h => .ok (.snap (gu ds)) h
  | .frl ds, h => .ok (.snap (gu ds)) h
  | .ref n, h => match aA h n with
    | some _ => .ok (.liveE n) h
    | none => .bad
  | _, _ => .bad
noncomputable def kq (a : ME) : MI := fun env h => (a env h).bind sO
theorem pe {ds : List D} {i : Nat} : (gu ds)[i]? = (ds[i]?).map fun d => D.tup [.int i, d] := by
  unfold gu
  rw [List.getElem?_map]
  by_cases hi : i < ds.length
  · have e : ds.getD i .non = ds[i] := by rw [List.getD_eq_getElem?_getD, List.getElem?_eq_getElem hi]; rfl
    rw [List.getElem?_range hi, List.getElem?_eq_getElem hi, Option.map_some, Option.map_some, e]
  · rw [List.getElem?_eq_none (by simpa using hi), List.getElem?_eq_none (by omega)]; rfl
theorem mW {K : PySem.W.Frag} {α : List Addr} {H : Hp} {h : Hh} {i : Nat} {d : D} {v : V} {p : Addr} (hr : aP K g α H h) (rv : aG K g α H d v) (hp : H p = none) :
    ∃ α', Ext K α H α' (upd H p (.tup [.int i, v])) /\ aP K g α' (upd H p (.tup [.int i, v])) h /\ aG K g α' (upd H p (.tup [.int i, v])) (.tup [.int i, d]) (.ref p) :=
  ⟨α, Ext.fresh hp, hr.grow hp, .tup a_ (.cons (.int _) (.cons (rv.ext (Ext.fresh hp)) .nil))⟩
theorem tN {K : PySem.W.Frag} {α : List Addr} {H : Hp} {a : Addr} {ds : List D} {vs : List V} (hq' : H a = some (.tup vs)) (rs : aw K g α H ds vs) : Reads K g (Iet K a) (Src.snap (gu ds)).rdr α H := by
  intro α2 H2 h2 x2 hr i
  have hq2 : SqT K H2 a vs := SqT.of (x2.tup _ _ hq')
  have rs2 := rs.ext x2
  show match some (gu ds)[i]? with | none => True | some none => _ | some (some d) => _
  rw [pe]
  cases e : ds[i]? with
  | none =>
    have : ds.length <= i := List.getElem?_eq_none_iff.mp e
    exact ⟨vs, hq2, by rw [<- rs.length]; exact this⟩
  | some d =>
    obtain ⟨v, ev, rv⟩ := rs2.get e
    refine ⟨⟨vs, v, hq2, ev⟩, fun x H' y => ?_⟩
    obtain ⟨p, v', e1, hp, e2, e3⟩ := y
    subst e1 e3
    have := e2 vs hq2
    rw [ev] at this
    cases this
    exact mW hr rv hp
theorem sf {K : PySem.W.Frag} {α : List Addr} {H : Hp} {a : Addr} {ds : List D} {vs : List V} (hq : Fro K H a vs) (rs : aw K g α H ds vs) : Reads K g (Iel K a) (Src.snap (gu ds)).rdr α H := by
  intro α2 H2 h2 x2 hr i
  have hq2 : SqL K H2 a vs := (x2.fro _ _ hq).sq
  have rs2 := rs.ext x2
  show match some (gu ds)[i]? with | none => True | some none => _ | some (some d) => _
  rw [pe]
  cases e : ds[i]? with
  | none =>
    have : ds.length <= i := List.getElem?_eq_none_iff.mp e
    exact ⟨vs, hq2, by rw [<- rs.length]; exact this⟩
  | some d =>
    obtain ⟨v, ev, rv⟩ := rs2.get e
    refine ⟨⟨vs, v, hq2, ev⟩, fun x H' y => ?_⟩
    obtain ⟨p, v', e1, hp, e2, e3⟩ := y
    subst e1 e3
    have := e2 vs hq2
    rw [ev] at this
    cases this
    exact mW hr rv hp
theorem rF {K : PySem.W.Frag} {α : List Addr} {H : Hp} {a : Addr} {n : Nat} (ha : α[n]? = some a) : Reads K g (Iel K a) (Src.liveE n).rdr α H := by
  intro α2 H2 h2 x2 hr i
  show match (aA h2 n).map fun ds => (ds[i]?).map fun d => D.tup [.int i, d] with | none => True | some none => _ | some (some d) => _
  cases e : aA h2 n with
  | none => trivial
  | some ds =>
    obtain ⟨vs, hq', rs⟩ := hr.lst e (x2.get ha)
    have hq : SqL K H2 a vs := SqL.of hq'
    show match some ((ds[i]?).map fun d => D.tup [.int i, d]) with | none => True | some none => _ | some (some d) => _
    cases ei : ds[i]? with
    | none =>
      have : ds.length <= i := List.getElem?_eq_none_iff.mp ei
      exact ⟨vs, hq, by rw [<- rs.length]; exact this⟩
    | some d =>
      obtain ⟨v, ev, rv⟩ := rs.get ei
      refine ⟨⟨vs, v, hq, ev⟩, fun x H' y => ?_⟩
      obtain ⟨p, v', e1, hp, e2, e3⟩ := y
      subst e1 e3
      have := e2 vs hq
      rw [ev] at this
      cases this
      exact mW hr rv hp
theorem vH {elts : List Expr} {kt : Nat} {tp p pos : Pos} {e : Expr} {me : ME} (hg : Gl X "enumerate") (hm : X.mg "enumerate" = none) (he : PE X e (tM X.K g ε me)) (hs : starEach [e] X.env = [(false, eval e X.env)] := by rfl) : PI X (.Tuple elts kt tp) (.Call (.Name "enumerate" p) [e] [] pos) (tMI X.K g ε (kq me)) :=
  PI.imp (AJ hg hm he hs) fun σ H T ⟨α, env, h, s, w⟩ => tM.use s w.bind fun d1 h1 v1 H1 α1 e1 s1 r1 w1 => by
    unfold sO at w1
    cases r1 with
    | tup hq rs => exact ⟨_, rfl, .inr ⟨⟨_, SqT.of hq⟩, w1 _ H1 α1 e1 s1.heap (tN hq rs)⟩⟩
    | frl hq rs => exact ⟨_, rfl, .inl ⟨⟨_, hq.sq⟩, w1 _ H1 α1 e1 s1.heap (sf hq.fro rs)⟩⟩
    | @ref n p hp =>
      cases el : aA h1 n with
      | none => simp only [el] at w1; exact w1.elim
      | some ds =>
        simp only [el] at w1
        obtain ⟨vs, hq, _⟩ := s1.heap.lst el hp
        exact ⟨p, rfl, .inl ⟨⟨_, SqL.of hq⟩, w1 _ H1 α1 e1 s1.heap (rF hp)⟩⟩
    | _ => exact w1.elim
noncomputable def bE (lo : Int) (n : Nat) : List D := (List.range n).map fun (i : Nat) => D.int (lo + i)
noncomputable def dz : List D -> Hh -> R Src
  | [.int j], h => if j.natAbs <= 1000000 then .ok (.snap (bE 0 j.toNat)) h else .bad
  | _, _ => .bad
noncomputable def tw : List D -> Hh -> R Src
  | [.int i, .int j], h => if i.natAbs <= 1000000 /\ j.natAbs <= 1000000 then .ok (.snap (bE i (j - i).toNat)) h else .bad
  | _, _ => .bad
noncomputable def cS (f : List D -> Hh -> R Src) (a : MA) : MI := fun env h => (a env h).bind f
theorem o7 {K : PySem.W.Frag} {α : List Addr} {H : Hp} {lo : Int} {n : Nat} : Reads K g (Itr lo n) (Src.snap (bE lo n)).rdr α H := by
  intro α2 H2 h2 x2 hr i
  show match some (bE lo n)[i]? with | none => True | some none => _ | some (some d) => _
  unfold bE
  rw [List.getElem?_map]
  by_cases hi : i < n
  · rw [List.getElem?_range hi]
    refine ⟨hi, fun x H' y => ?_⟩
    obtain ⟨e1, e2⟩ := y
    subst e1 e2
    exact ⟨α2, Ext.refl, hr, .int _⟩
  · rw [List.getElem?_eq_none (by simpa using hi)]
    exact Nat.le_of_not_lt hi
theorem cN {tg a : Expr} {ma : MA} {p pos : Pos} (hg : Gl X "range") (hm : X.mg "range" = none) (ha : PA X [a] (tMA X.K g ε ma)) (hs : starEach [a] X.env = [(false, eval a X.env)] := by rfl) : PI X tg (.Call (.Name "range" p) [a] [] pos) (tMI X.K g ε (cS dz ma)) :=
  PI.imp (wu hg hm ha hs) fun σ H T ⟨α, env, h, s, w⟩ => tMA.use s w.bind fun d1 h1 v1 H1 α1 e1 s1 r1 w1 => by
    unfold dz at w1
    cases r1 with
    | nil => exact w1.elim
    | cons ra rr =>
      cases rr with
      | cons _ _ => cases ra <;> exact w1.elim
      | nil =>
        cases ra with
        | int j =>
          obtain ⟨hj, w2⟩ := WQ.eD w1
          exact ⟨j, rfl, by omega, by omega, w2 _ H1 α1 e1 s1.heap o7⟩
        | _ => exact w1.elim
theorem uO {tg a b : Expr} {ma : MA} {p pos : Pos} (hg : Gl X "range") (hm : X.mg "range" = none) (ha : PA X [a, b] (tMA X.K g ε ma)) (hs : starEach [a, b] X.env = [(false, eval a X.env), (false, eval b X.env)] := by rfl) (hs2 : starEach [b] X.env = [(false, eval b X.env)] := by rfl) : PI X tg (.Call (.Name "range" p) [a, b] [] pos) (tMI X.K g ε (cS tw ma)) :=
  PI.imp (wC hg hm ha hs hs2) fun σ H T ⟨α, env, h, s, w⟩ => tMA.use s w.bind fun d1 h1 v1 H1 α1 e1 s1 r1 w1 => by
    unfold tw at w1
    split at w1
    · cases r1 with
      | cons ra rr =>
        cases ra
        cases rr with
        | cons rb rr =>
          cases rb
          cases rr
          obtain ⟨hj, w2⟩ := WQ.eD w1
          exact ⟨_, _, rfl, ⟨by omega, by omega, by omega, by omega⟩, w2 _ H1 α1 e1 s1.heap o7⟩
    · exact w1.elim
noncomputable def gA (c : MT) (b : MS) : Nat -> En -> Hh -> R Fl
  | 0, _, _ => .bad
  | k + 1, env, h => (c env h).bind fun x h1 => if x = true then (b env h1).bind fun fl h2 => match fl with
      | .nx e => gA c b k e h2
      | .ct e => gA c b k e h2
      | .bk e => .ok (.nx e) h2
      | .rt d => .ok (.rt d) h2
    else .ok (.nx env) h1
noncomputable def qJ (fuel : Nat) (c : MT) (b : MS) : MS := fun env h => gA c b fuel env h
theorem A8 {c : Expr} {body : List Stmt} {mc : MT} {mb : MS} {pos : Pos} (fuel : Nat) (hp : PassesOwn (model X.prog X.w) X.A X.env X.xe) (hc : PT X c (tMT X.K g ε mc)) (hb : PSs X body (tMS X.K g ε mb)) : PS X (.While c body [] pos) (tMS X.K g ε (qJ fuel mc mb)) := by
  refine PS.imp (yw hp hc hb) fun E σ H ⟨α, env, h, s, w⟩ => ?_
  refine ⟨fun m σ H => ∃ α env h, cT X.K g α H env σ h /\ WQ X.K g ε α H (gA mc mb m env h) (cu X.K g α H E), ⟨fuel, α, env, h, s, w⟩, ?_⟩
  rintro m σ2 H2 ⟨α2, env2, h2, s2, w2⟩
  cases m with
  | zero => exact w2.elim
  | succ m =>
    refine tMT.use s2 (WQ.bind (show WQ X.K g ε α2 H2 ((mc env2 h2).bind _) _ from w2)) fun b h3 H3 α3 x3 s3 w3 => ?_
    cases b with
    | false => rw [if_neg Bool.false_ne_true] at w3 ⊢; exact s3.nx x3 w3
    | true =>
      rw [if_pos rfl] at w3 ⊢
      refine ⟨fun σ' H' => ∃ α env h, cT X.K g α H' env σ' h /\ WQ X.K g ε α H' (gA mc mb m env h) (cu X.K g α H' E), fun σ' H' z => ⟨m, Nat.lt_succ_self _, z⟩, ?_⟩
      refine tMS.use s3 (w3.ext x3).bind fun fl h5 H5 α5 x5 hr5 w5 => ?_
      have tr : Ext X.K α2 H2 α5 H5 := x3.trans x5
      cases fl with
      | nx e => exact fun σ' s' => ⟨α5, e, h5, s', (w5.ext x5).mono fun _ _ _ p => p.ext tr⟩
      | ct e => exact fun σ' s' => ⟨α5, e, h5, s', (w5.ext x5).mono fun _ _ _ p => p.ext tr⟩
      | bk e => exact fun σ' s' => (show cu X.K g α2 H2 E (.nx e) h5 from w5) H5 α5 tr hr5 σ' s'.vs
      | rt d => exact fun v rv => (show cu X.K g α2 H2 E (.rt d) h5 from w5) H5 α5 tr hr5 v rv
end
noncomputable abbrev E00 : EE := fun _ _ _ => False
noncomputable abbrev MF := List D -> Hh -> R D
noncomputable def cw (n : Nat) (m : MS) : MF := fun ds h => (m (ds.map some ++ List.replicate (n - ds.length) none) h).bind fun fl h1 => match fl with
  | .rt d => .ok d h1
  | .nx _ => .ok .non h1
  | _ => .bad
noncomputable def spG (K : PySem.W.Frag) (g : GG) (ε : XK -> EE) (np : Nat) (m : MF) : Sp := fun vs H Q E => vs.length = np /\ ∃ α ds h, aw K g α H ds vs /\ aP K g α H h /\ WQ K g (ε E) α H (m ds h) (aK K g α H Q)
noncomputable abbrev spM (K : PySem.W.Frag) (g : GG) (np : Nat) (m : MF) : Sp := spG K g (fun _ => E00) np m
theorem oW {K : PySem.W.Frag} {g : GG} {α : List Addr} {H : Hp} {N : List Str} {ds : List D} {vs : List V} (r : aw K g α H ds vs) : ka K g α H (ds.map some ++ List.replicate (N.length - ds.length) none) (start N vs) := by
  have hl := r.length
  refine ⟨by simp [start, hl], fun i d h => ?_⟩
  by_cases hi : i < ds.length
  · rw [List.getElem?_append_left (by simpa using hi), List.getElem?_map] at h
    cases e : ds[i]? with
    | none => rw [e] at h; cases h
    | some d' =>
      rw [e] at h
      cases h
      obtain ⟨v, ev, rv⟩ := r.get e
      refine ⟨v, ?_, rv⟩
      unfold start
      rw [List.getElem?_append_left (by simp; omega), List.getElem?_map, ev]
      rfl
  · rw [List.getElem?_append_right (by simpa using hi), List.getElem?_replicate] at h
    split at h <;> cases h
section
variable {P : Program} {w : World} {K : PySem.W.Frag} {mg : Str -> Option Value} {base : Heap} {g : GG}
theorem dN {x qual : Str} {st : Stmt} {f : Addr} {fd : FuncData} {N ps : List Str} {k : Nat} {mb : MS} (F : Fun K x qual st f fd) (S : aL N ps (ao st))
    (hb : ∀ (cdv : Value) (A : Around) (outer : List Env) (s : Shared) (H : Hp) (E : XK), eV k (A.deeper (envOfC qual (ao st) s.heap.objs.size f cdv)) →
      PSs (jq CX0 P w K mg base N qual (ao st) f cdv A outer s H E).nox (cZ st) (tMS K g E00 mb)) : df P w K mg base CX0 (k + 1) f fd ps (spM K g ps.length (cw N.length mb)) := by
  refine F.ok S (fun vs H Q E h => h.1) fun cdv A outer s H vs Q E hr h => ⟨_, hb cdv A outer s H E hr, ?_⟩
  obtain ⟨hl, α, ds, h, rs, hh, w⟩ := h
  refine tMS.use ⟨hh, oW rs⟩ w.bind fun fl h' H' α' e r kk => ?_
  cases fl with
  | nx e' => exact fun σ' s' => (show aK K g α H Q .non h' from kk) _ H' α' e r .non
  | bk e' => exact kk.elim
  | ct e' => exact kk.elim
  | rt d => exact fun v rv => (show aK K g α H Q d h' from kk) _ H' α' e r rv
end
section
variable {X : Cx} {g : GG}
theorem aC {k : Nat} {f : Addr} {fd : FuncData} {ps : List Str} {m : MF} {np : Nat} {x : Str} {p pos : Pos} {e : Expr} {es : List Expr} {mr : MA} (F : df X.prog X.w X.K X.mg X.base CX0 k f fd ps (spM X.K g np m)) (hr : eV k X.A) (hg : Gl X x) (hm : X.mg x = some (.ref f)) (hk : PySem.W.keepIn X.K (.ref f) = true) (hb : Binds X.K fd ps [])
    (ha : PA X (e :: es) (tMA X.K g E00 mr)) (hlen : ∀ env h ds h', mr env h = .ok ds h' -> ds.length = np) (hdb : (x == ("__debug__" : Str)) = false := by decide) (he : starEach (e :: es) X.env = (false, eval e X.env) :: starEach es X.env := by rfl) (hpl : (backTo pos (starEach es X.env)).any (·.1) = false := by rfl) :
    PE X (.Call (.Name x p) (e :: es) [] pos) (tM X.K g E00 (ah m mr)) :=
  PE.imp (AW F hr hg hm hk hb .nil Fg ha hdb he hpl) fun σ H Q ⟨α, env, h, s, w⟩ => ⟨α, env, h, s, w.bind.mono fun d1 h1 eq w1 v1 H1 α1 e1 hr1 r1 => by
    show spM X.K g np m (v1 ++ []) H1 Q E0
    rw [List.append_nil]
    refine ⟨?_, α1, d1, h1, r1, hr1, w1.post e1⟩
    rw [<- r1.length]
    exact hlen env h d1 h1 eq⟩
theorem aB : ∀ env h ds h', ak env h = .ok ds h' -> ds.length = 0 := fun env h ds h' e => by cases e; rfl
theorem aj {a : ME} {r : MA} {n : Nat} (q : ∀ env h ds h', r env h = .ok ds h' -> ds.length = n) : ∀ env h ds h', aa a r env h = .ok ds h' -> ds.length = n + 1 := fun env h ds h' e => by
  unfold aa at e
  cases e1 : a env h with
  | ok d h1 =>
    rw [e1] at e
    cases e2 : r env h1 with
    | ok ds2 h2 =>
      have e3 : (R.ok (d :: ds2) h2 : R (List D)) = .ok ds h' := by simpa [R.bind, e2] using e
      cases e3
      simp [q env h1 ds2 h' e2]
    | err x h2 => simp [R.bind, e2] at e
    | bad => simp [R.bind, e2] at e
  | err x h2 => rw [e1] at e; cases e
  | bad => rw [e1] at e; cases e
end
noncomputable def jZ (ix : List Nat) (env : En) (d : D) : En := some d :: ix.map fun i => (env[i]?).join
noncomputable def tt1 : MT := fun _ h => .ok true h
noncomputable def hV (rd : Rdr) (tt : MT) (te : ME) (ee : D -> En) : Nat -> Nat -> List D -> Hh -> R (List D)
  | k, i, acc, h => match rd h i with
    | none => .bad
    | some none => .ok acc h
    | some (some d) => match k with
      | 0 => .bad
      | k + 1 => (tt (ee d) h).bind fun b h1 => if b = true then (te (ee d) h1).bind fun y h2 => hV rd tt te ee k (i + 1) (acc ++ [y]) h2 else hV rd tt te ee k (i + 1) acc h1
noncomputable def b8 (tt : MT) (te : ME) (ee : D -> En) : List D -> Hh -> R (List D)
  | [], h => .ok [] h
  | d :: ds, h => (tt (ee d) h).bind fun b h1 => if b = true then (te (ee d) h1).bind fun y h2 => (b8 tt te ee ds h2).bind fun ys h3 => .ok (y :: ys) h3 else b8 tt te ee ds h1
theorem cx {β γ δ : Type} (r : R β) (f : β -> Hh -> R γ) (k : γ -> Hh -> R δ) : (r.bind f).bind k = r.bind fun b h => (f b h).bind k := by cases r <;> rfl
theorem xW (tt : MT) (te : ME) (ee : D -> En) (all : List D) : ∀ (ds : List D) (i : Nat) (acc : List D) (h : Hh), all.drop i = ds -> hV (Src.snap all).rdr tt te ee ds.length i acc h = (b8 tt te ee ds h).bind fun ys h' => .ok (acc ++ ys) h' := by
  intro ds
  induction ds with
  | nil =>
    intro i acc h e
    have : all[i]? = none := by
      have := congrArg List.length e
      simp at this
      exact List.getElem?_eq_none (by omega)
    unfold hV b8 Src.rdr
    simp [this, R.bind]
  | cons d ds ih =>
    intro i acc h e
    have h0 : all[i]? = some d := by
      have := congrArg (fun l => l[0]?) e
      simpa using this
    have h1 : all.drop (i + 1) = ds := by
      have := congrArg List.tail e
      simpa using this
    unfold hV b8
    have : (Src.snap all).rdr h i = some (some d) := by unfold Src.rdr; simp [h0]
    rw [this]
    show ((tt (ee d) h).bind _) = _
    rw [cx]
    congr 1
    funext b h2
    cases b with
    | false => rw [if_neg Bool.false_ne_true, if_neg Bool.false_ne_true]; exact ih (i + 1) acc h2 h1
    | true =>
      rw [if_pos rfl, if_pos rfl, cx]
      congr 1
      funext y h3
      rw [cx]
      have := ih (i + 1) (acc ++ [y]) h3 h1
      rw [this]
      congr 1
      funext ys h4
      show R.ok (acc ++ [y] ++ ys) h4 = R.ok (acc ++ (y :: ys)) h4
      simp
noncomputable def bA (nl : NL) (mi : MI) (ix : List Nat) (tt : MT) (te : ME) : ME := fun env h => (mi env h).bind fun sr h1 => if sr.fuel h1 <= 1000000 then
  (match sr with
    | .snap ds => b8 tt te (jZ ix env) ds h1
    | .live n => hV (Src.live n).rdr tt te (jZ ix env) ((aA h1 n).getD []).length 0 [] h1
    | .liveE n => hV (Src.liveE n).rdr tt te (jZ ix env) ((aA h1 n).getD []).length 0 [] h1).bind nl else .bad
theorem xD {nl : NL} {mi : MI} {ix : List Nat} {tt : MT} {te : ME} {env : En} {h : Hh} : bA nl mi ix tt te env h = (mi env h).bind fun sr h1 => if sr.fuel h1 <= 1000000 then (hV sr.rdr tt te (jZ ix env) (sr.fuel h1) 0 [] h1).bind nl else .bad := by
  unfold bA
  congr 1
  funext sr h1
  cases sr with
  | snap ds =>
    have := xW tt te (jZ ix env) ds ds 0 [] h1 rfl
    simp only [List.nil_append] at this
    have e : (Src.snap ds).fuel h1 = ds.length := rfl
    rw [e, this, cx]
    rfl
  | live n => rfl
  | liveE n => rfl
theorem Ab {K : PySem.W.Frag} {g : GG} {α : List Addr} {H : Hp} {env : En} {σ : St} {ix : List Nat} {d : D} {v : V} (s : ka K g α H env σ) (r : aG K g α H d v) : ka K g α H (jZ ix env d) ((oS ix σ).set 0 (some v)) := by
  refine ⟨by simp [jZ, oS], fun i e h => ?_⟩
  cases i with
  | zero =>
    have : d = e := by simpa [jZ] using h
    subst this
    exact ⟨v, by simp [oS], r⟩
  | succ i =>
    have h' : (ix.map fun i => (env[i]?).join)[i]? = some (some e) := by simpa [jZ] using h
    rw [List.getElem?_map] at h'
    cases ei : ix[i]? with
    | none => rw [ei] at h'; cases h'
    | some j =>
      rw [ei] at h'
      have h2 : (env[j]?).join = some e := by simpa using h'
      cases ej : env[j]? with
      | none => rw [ej] at h2; cases h2
      | some oe =>
        rw [ej] at h2
        have h3 : oe = some e := by simpa using h2
        subst h3
        obtain ⟨u, eu, ru⟩ := s.vars j e ej
        refine ⟨u, ?_, ru⟩
        simp only [oS, List.set_cons_zero, List.getElem?_cons_succ, List.getElem?_map, ei, Option.map_some, eu]
        rfl
section
variable {X : Cx} {g : GG}
theorem nz : PTs X [] (tMT X.K g E00 tt1) := fun pins s σ H Q I ⟨α, env, h, s', w⟩ => Bo pins s σ H Q I (w H α Ext.refl s'.heap)
theorem fT {c : Expr} {mt : MT} (h : PT X c (tMT X.K g E00 mt)) : PTs X [c] (tMT X.K g E00 mt) := BB h
theorem tG {K : PySem.W.Frag} {nl : NL} [kM nl] {mi : MI} {tt : MT} {te : ME} {ix : List Nat} {σ : St} {H : Hp} {Q R : VK} (hR : ∀ v H, jL Q v H -> R v H) (t : tM K g E00 (bA nl mi ix tt te) σ H Q) : BN (tMI K g E00 mi) ix (tMT K g E00 tt) (tM K g E00 te) σ H R := by
  obtain ⟨α, env, h, s, w⟩ := t
  rw [xD] at w
  refine ⟨α, env, h, s, w.bind.mono fun sr h1 _ w1 J H1 α1 e1 hr1 rd => fun acc hacc => ?_⟩
  obtain ⟨hf, w1⟩ := WQ.eD w1
  have s1 := s.ext e1 hr1
  refine ⟨fun i m ys H => ∃ α h as, Ext K α1 H1 α H /\ aP K g α H h /\ aw K g α H as ys /\ H acc = some (.lst ys) /\ acc ∉ α /\ as.length + m <= 1000000 ∧
    WQ K g E00 α1 H1 ((hV sr.rdr tt te (jZ ix env) m i as h).bind nl) (aK K g α1 H1 Q),
    ⟨sr.fuel h1, α1, h1, [], Ext.fresh hacc, hr1.grow hacc, .nil, a_, hr1.free hacc, by simpa using hf, w1.post e1⟩, ?_⟩
  rintro i m ys H2 ⟨α2, h2, as, x2, hr2, ra, ha, hna, hm, w2⟩
  have q := rd α2 H2 h2 x2 hr2 i
  unfold hV at w2
  cases e : sr.rdr h2 i with
  | none => rw [e] at w2; exact w2.elim
  | some od =>
    rw [e] at w2 q
    cases od with
    | none =>
      refine .inl ⟨q, ?_⟩
      exact hR _ _ <| kM.at' (show WQ K g E00 α1 H1 (nl as h2) _ from w2) (fun _ _ z => z) x2 hr2 ra ha hna hacc
    | some d =>
      cases m with
      | zero => exact w2.elim
      | succ m =>
        rw [cx] at w2
        have w3 := WQ.bind (show WQ K g E00 α1 H1 ((tt (jZ ix env d) h2).bind _) _ from w2)
        refine .inr ⟨q.1, fun x H3 y => ?_⟩
        obtain ⟨α3, x3, hr3, rx⟩ := q.2 x H3 y
        have ha3 := x3.keep _ _ ha hna
        have hna3 : acc ∉ α3 := fun z => by have := x3.new _ z hna; rw [ha] at this; cases this
        have s3 : cT K g α3 H3 (jZ ix env d) ((oS ix σ).set 0 (some x)) h2 := ⟨hr3, Ab (s1.vs.ext (x2.trans x3)) rx⟩
        refine tMT.use s3 ((w3.ext x2).ext x3) fun b h4 H4 α4 x4 s4 w4 => ?_
        have ha4 := x4.keep _ _ ha3 hna3
        have hna4 : acc ∉ α4 := fun z => by have := x4.new _ z hna3; rw [ha3] at this; cases this
        cases b with
        | false =>
          rw [if_neg Bool.false_ne_true] at w4 ⊢
          exact ⟨m, Nat.lt_succ_self _, α4, h4, as, x2.trans (x3.trans x4), s4.heap, ra.ext (x3.trans x4), ha4, hna4, by omega, w4⟩
        | true =>
          rw [if_pos rfl] at w4 ⊢
          rw [cx] at w4
          refine tM.use s4 (((WQ.bind w4).ext x2).ext (x3.trans x4)) fun y h5 v5 H5 α5 x5 s5 r5 w5 => ?_
          have ha5 := x5.keep _ _ ha4 hna4
          have hna5 : acc ∉ α5 := fun z => by have := x5.new _ z hna4; rw [ha4] at this; cases this
          have soft : Bq H5 acc := .inr ⟨_, ha5, fun _ z => (nomatch z), fun _ _ z => (nomatch z), fun _ z => nomatch z⟩
          have x6 : Ex0 K α5 H5 α5 (upd H5 acc (.lst (ys ++ [v5]))) := Ex0.upd soft
          have tr := x2.trans (x3.trans (x4.trans x5))
          refine ⟨ha5, ?_, m, Nat.lt_succ_self _, α5, h5, as ++ [y], ⟨tr.toEx0.trans x6, fun p o z n nt => ?_, tr.new⟩, s5.heap.off soft hna5, ((ra.ext (x3.trans (x4.trans x5))).append (.cons r5 .nil)).ex0 x6, a_, hna5, by rw [List.length_append]; simp; omega, w5⟩
          · rw [<- ra.length, sizeLine_eq]; omega
          · rw [aI (bc z hacc)]; exact tr.kept p o z n nt
end
noncomputable def sml (i : Int) : Bool := decide (i.natAbs < 2 ^ 1900)
theorem mI {i : Int} (h : sml i = true) : Builtin.Int.intBits i <= 1900 := by
  have h' : i.natAbs < 2 ^ 1900 := of_decide_eq_true h
  unfold Builtin.Int.intBits
  split
  · omega
  · rename_i z
    have z' : i.natAbs ≠ 0 := by
      intro q
      apply z
      have : i = 0 := Int.natAbs_eq_zero.mp q
      rw [this]; rfl
    have := (Nat.log2_lt z').mpr h'
    omega
theorem pQ {i : Int} (h : sml i = true) : i.natAbs.log2 < 1900 := by
  have h' : i.natAbs < 2 ^ 1900 := of_decide_eq_true h
  by_cases z : i.natAbs = 0
  · rw [z]; decide
  · exact (Nat.log2_lt z).mpr h'
theorem Dj {i : Int} (h : i.natAbs <= 10 ^ 560) : sml i = true := by
  refine decide_eq_true (Nat.lt_of_le_of_lt h (by decide +kernel))
section
variable {X : Cx} {K : PySem.W.Frag} {g : GG} {ε : EE}
theorem OpR.or {f : Value -> Value -> Sem Value} {r r' : R2} (h : OpR X f r) (h' : OpR X f r') : OpR X f (fun x y H Q => r x y H Q \/ r' x y H Q) := fun pins s σ H x y v u Q I rx ry q => q.elim (h pins s σ H x y v u Q I rx ry) (h' pins s σ H x y v u Q I rx ry)
noncomputable def kg (d : D) (h : Hh) : Option (List D) := match d with
  | .frl ds => some ds
  | .ref n => aA h n
  | _ => none
theorem qL {α : List Addr} {H : Hp} {h : Hh} {d : D} {x : V} {ds : List D} (r : aP K g α H h) (rd : aG K g α H d x) (e : kg d h = some ds) : ∃ p vs, x = .ref p /\ Rd H p (.lst vs) /\ aw K g α H ds vs := by
  unfold kg at e
  cases rd with
  | frl hq rs => cases e; exact ⟨_, _, rfl, hq.rd, rs⟩
  | ref hp => obtain ⟨vs, hv, rs⟩ := r.lst e hp; exact ⟨_, vs, rfl, .inl hv, rs⟩
  | _ => cases e
noncomputable def BR : R2 := fun x y H Q => ∃ l b xs zs, x = .ref l /\ y = .ref b /\ Rd H l (.lst xs) /\ Rd H b (.lst zs) /\ xs.length + zs.length <= sizeLine /\ ∀ p, H p = none -> Q (.ref p) (upd H p (.lst (xs ++ zs)))
theorem AH {X : Cx} {pins : List (Addr × Obj)} {σ : St} {H : Hp} {s : Shared} {l : Addr} {xs : List V} (I : Inv X pins σ H s) (h : Rd H l (.lst xs)) : ∃ (its : List Value) (n : Nat), xs.length <= sizeLine /\ Vals xs its /\ xs.length = its.length /\ s.heap.get? l = some { cls := .type "list", data := .seq its.toArray n } := by
  obtain ⟨z, its, n, r, e⟩ := h.ok I.hok
  exact ⟨its, n, z, r, r.length, e⟩
theorem AG : OpR X (binaryOp .Add) BR := by
  intro pins s σ H x y v u Q I rx ry h
  obtain ⟨l, b, xs, zs, rfl, rfl, hH, hB, hz, q⟩ := h
  cases rx
  cases ry
  obtain ⟨its, n, z, r, hl, e⟩ := AH I hH
  obtain ⟨its2, n2, z2, r2, hl2, e2⟩ := AH I hB
  refine PySem.P.add_list e e2 ?_ (by rw [List.size_toArray, List.size_toArray]; omega)
  have ea : its.toArray ++ its2.toArray = (its ++ its2).toArray := by simp
  rw [ea]
  exact ⟨.ref _, _, I.Ds (t' := s.toks) (r.append r2) (by rw [List.length_append]; omega), rfl, q _ I.fresh⟩
noncomputable def cQ (nl : NL) : D -> D -> Hh -> R D := fun x y h => match x, y with
  | .int i, .int j => .ok (.int (i + j)) h
  | .tup a, .tup b => if a.length + b.length <= 1000000 then .ok (.tup (a ++ b)) h else .bad
  | .str a, .str b => if a.length + b.length <= 1000000 then .ok (.str (a ++ b)) h else .bad
  | x, y => match kg x h, kg y h with
    | some a, some b => if a.length + b.length <= 1000000 then nl (a ++ b) h else .bad
    | _, _ => .bad
noncomputable abbrev yr (K : PySem.W.Frag) : R2 := fun x y H Q => (rI0 fun i j => .int (i + j)) x y H Q \/ (BD K x y H Q \/ zA K x y H Q) \/ BR x y H Q \/ ∃ i j, x = .str i /\ y = .str j /\ i.length + j.length <= sizeLine /\ Q (.str (i ++ j)) H
theorem dg : OpR X (binaryOp .Add) (fun x y H Q => yr X.K x y H (jL Q)) := OpR.frz (OpR.or CY (OpR.or (OpR.or Ap yW) (OpR.or AG uz)))
theorem aK.vY {α : List Addr} {H : Hp} {h : Hh} {Q : VK} {d : D} {v : V} (p : aK K g α H Q d h) (r : aP K g α H h) (rd : aG K g α H d v) : jL Q v H := .inl (p.now r rd)
theorem dk {nl : NL} [kM nl] : dA K g ε (cQ nl) (fun x y H Q => yr K x y H (jL Q)) := by
  intro α H h a b x y Q r ra rb w
  have gen : ∀ {a b : D} {x y : V}, aG K g α H a x -> aG K g α H b y -> WQ K g ε α H (match kg a h, kg b h with
    | some a, some b => if a.length + b.length <= 1000000 then nl (a ++ b) h else .bad
    | _, _ => .bad) (aK K g α H Q) -> yr K x y H (jL Q) := by
    intro a b x y ra rb w
    cases e1 : kg a h with
    | none => simp only [e1] at w; exact w.elim
    | some da =>
      cases e2 : kg b h with
      | none => simp only [e1, e2] at w; exact w.elim
      | some db =>
        simp only [e1, e2] at w
        obtain ⟨p, va, rfl, hva, rsa⟩ := qL r ra e1
        obtain ⟨q, vb, rfl, hvb, rsb⟩ := qL r rb e2
        obtain ⟨hl, w⟩ := WQ.eD w
        refine .inr (.inr (.inl ⟨p, q, va, vb, rfl, rfl, hva, hvb, fG (by rw [<- rsa.length, <- rsb.length]; exact hl), fun l hl' => ?_⟩))
        exact NL.post w r (rsa.append rsb) hl'
  unfold cQ at w
  split at w
  · cases ra
    cases rb
    exact .inl ⟨_, _, rfl, rfl, aK.vY w r (.int _)⟩
  · cases ra with
    | @tup da pa va ha rsa =>
      cases rb with
      | @tup db pb vb hb rsb =>
        obtain ⟨hl, w⟩ := WQ.eD w
        refine .inr (.inl ?_)
        cases va with
        | nil =>
          cases rsa
          exact .inr ⟨_, _, _, rfl, rfl, SqT.of ha, SqT.of hb, aK.vY w r (.tup hb rsb)⟩
        | cons z zs =>
          refine .inl ⟨_, _, _, _, rfl, rfl, SqT.of ha, SqT.of hb, by simp, fG (by rw [<- rsa.length, <- rsb.length]; exact hl), fun e => ?_, fun _ p hp => .inl (aK.tup w r (rsa.append rsb) hp)⟩
          subst e
          cases rsb
          refine aK.vY w r (.tup ha ?_)
          rw [List.append_nil]; exact rsa
  · cases ra
    cases rb
    obtain ⟨hl, w⟩ := WQ.eD w
    exact .inr (.inr (.inr ⟨_, _, rfl, rfl, fG hl, aK.vY w r (.str _)⟩))
  · exact gen ra rb w
noncomputable def bV : D -> D -> Hh -> R D
  | .int i, .int j, h => .ok (.int (i - j)) h
  | _, _, _ => .bad
theorem cj : dA K g ε bV (rI0 fun i j => .int (i - j)) := by
  intro α H h a b x y Q r ra rb w
  unfold bV at w
  cases ra with
  | int i =>
    cases rb with
    | int j => exact ⟨i, j, rfl, rfl, aK.now w r (.int _)⟩
    | _ => exact w.elim
  | _ => exact w.elim
noncomputable def BY : R2 := fun x y H Q => ∃ l k xs, x = .ref l /\ y = .int k /\ Rd H l (.lst xs) /\ -(2 ^ 63) <= k /\ k < 2 ^ 63 /\ xs.length * k.toNat <= sizeLine ∧
  ∀ p, H p = none -> Q (.ref p) (upd H p (.lst (List.replicate k.toNat xs).flatten))
theorem Aj : OpR X (binaryOp .Mult) BY := by
  intro pins s σ H x y v u Q I rx ry h
  obtain ⟨l, k, xs, rfl, rfl, hH, h1, h2, hz, q⟩ := h
  cases rx
  obtain ⟨t, rfl⟩ := ry
  obtain ⟨its, n, z, r, hl, e⟩ := AH I hH
  have hlen : its.toArray.size * k.toNat <= sizeLine := by rw [List.size_toArray, <- hl]; exact hz
  have hcap : ¬ its.toArray.size * k.toNat > (2 ^ 63 - 1) / 8 := by
    have : (sizeLine : Nat) <= (2 ^ 63 - 1) / 8 := by decide
    omega
  have hfit : ¬ (!Builtin.List.listFitsIndex k) = true := by
    rw [fitsIndex_both h1 h2]
    exact Bool.false_ne_true
  have hlong : ¬ Builtin.List.listTooLong (its.toArray.size * k.toNat) = true := by
    rw [rB hlen]
    exact Bool.false_ne_true
  have hnew : List.foldl (fun x1 x2 => x1 ++ x2) #[] (List.replicate (if its.toArray.isEmpty = true then 0 else k.toNat) its.toArray) = (List.replicate k.toNat its).flatten.toArray := by
    have f0 : ∀ m : Nat, List.foldl (fun x1 x2 => x1 ++ x2) #[] (List.replicate m its.toArray) = (List.replicate m its).flatten.toArray := fun m => by
      have := foldl_rep its m []
      rw [List.nil_append] at this
      exact this
    rw [f0]
    cases its with
    | nil => simp
    | cons a r' => rw [if_neg (by simp)]
  refine wpAny_binaryOp_repeat_ref (T := "list") (U := "int") (by decide) ⟨_, e, rfl⟩ (fun s' => typeIs_int s' k t) noFill_list_mul F.fills_int_mul F.slot_int_rmul repeat_list F.slot_int_index.lookup
    (call_meets F.slot_int_rmul (typeIs_int s k t) F.entry_int_rmul (F.args_int_rmul_2 _ _) (int___rmul___int_list k t l its.toArray n)
      ⟨e, rfl, ⟨_, e, rfl⟩, call_meets F.slot_list_mul ⟨_, e, rfl⟩ F.entry_list_mul (F.args_list_mul_2 _ _) (AutoListH.list___mul___list_int_3 l its.toArray n k t hfit hcap hlong) ⟨e, ?_⟩⟩)
  rw [hnew]
  exact ⟨.ref _, _, I.Ds (t' := s.toks) (r.rep k.toNat) (by rw [len_rep, Nat.mul_comm]; exact hz), rfl, q _ I.fresh⟩
noncomputable def tW (nl : NL) : D -> D -> Hh -> R D := fun x y h => match x, y with
  | .int i, .int j => if sml i = true /\ sml j = true then .ok (.int (i * j)) h else .bad
  | x, .int k => match kg x h with
    | some ds => if k.natAbs <= 1000000 /\ ds.length * k.toNat <= 1000000 then nl (List.replicate k.toNat ds).flatten h else .bad
    | none => .bad
  | _, _ => .bad
theorem Bs : OpR X (binaryOp .Mult) (rI (fun i j => sml i = true /\ sml j = true) fun i j => .int (i * j)) := opI fun _ _ _ _ _ _ _ hc q => mul_int q (IntMulOk.of_bits (Nat.le_trans (mI hc.1) (by decide)) (Nat.le_trans (mI hc.2) (by decide)))
noncomputable abbrev zu : R2 := fun x y H Q => (rI (fun i j => sml i = true /\ sml j = true) fun i j => .int (i * j)) x y H Q \/ BY x y H Q
theorem ub : OpR X (binaryOp .Mult) (fun x y H Q => zu x y H (jL Q)) := OpR.frz (OpR.or Bs Aj)
theorem uo {nl : NL} [kM nl] : dA K g ε (tW nl) (fun x y H Q => zu x y H (jL Q)) := by
  intro α H h a b x y Q r ra rb w
  have gen : ∀ {a : D} {k : Int} {x : V}, aG K g α H a x -> WQ K g ε α H (match kg a h with
    | some ds => if k.natAbs <= 1000000 /\ ds.length * k.toNat <= 1000000 then nl (List.replicate k.toNat ds).flatten h else .bad
    | none => .bad) (aK K g α H Q) -> zu x (.int k) H (jL Q) := by
    intro a k x ra w
    cases e1 : kg a h with
    | none => simp only [e1] at w; exact w.elim
    | some ds =>
      simp only [e1] at w
      obtain ⟨hl, w⟩ := WQ.eD w
      obtain ⟨p, vs, rfl, hv, rs⟩ := qL r ra e1
      refine .inr ⟨p, k, vs, rfl, rfl, hv, by omega, by omega, fG (by rw [<- rs.length]; exact hl.2), fun l hl' => ?_⟩
      exact NL.post w r (rs.flat k.toNat) hl'
  unfold tW at w
  split at w
  · cases ra
    cases rb
    obtain ⟨hc, w⟩ := WQ.eD w
    exact .inl ⟨_, _, rfl, rfl, hc, aK.vY w r (.int _)⟩
  · cases rb
    exact gen ra w
  · exact w.elim
noncomputable def y0 : D -> D -> Hh -> R D
  | .int i, .int j, h => if 0 < j /\ sml j = true then .ok (.int (i / j)) h else .bad
  | _, _, _ => .bad
theorem tD : OpR X (binaryOp .FloorDiv) (rI (fun i j => 0 < j /\ sml j = true) fun i j => .int (i / j)) := opI fun i j _ _ _ _ _ hc q => by
  have e : i.fdiv j = i / j := Int.fdiv_eq_ediv_of_nonneg _ (by omega)
  refine floordiv_int (by omega) ?_ (.inl (PyProof.noPylong_of_log2 (Nat.lt_trans (pQ hc.2) (by decide))))
  rw [e]; exact q
theorem zw : dA K g ε y0 (rI (fun i j => 0 < j /\ sml j = true) fun i j => .int (i / j)) := by
  intro α H h a b x y Q r ra rb w
  unfold y0 at w
  cases ra with
  | int i =>
    cases rb with
    | int j =>
      obtain ⟨hc, w⟩ := WQ.eD w
      exact ⟨i, j, rfl, rfl, hc, aK.now w r (.int _)⟩
    | _ => exact w.elim
  | _ => exact w.elim
noncomputable def i3 : D -> D -> Hh -> R D
  | .int i, .int j, h => if 0 < j then .ok (.int (i % j)) h else .bad
  | _, _, _ => .bad
theorem iR : dA K g ε i3 (rI (fun _ j => 0 < j) fun i j => .int (i % j)) := by
  intro α H h a b x y Q r ra rb w
  unfold i3 at w
  cases ra with
  | int i =>
    cases rb with
    | int j =>
      obtain ⟨hc, w⟩ := WQ.eD w
      exact ⟨i, j, rfl, rfl, hc, aK.now w r (.int _)⟩
    | _ => exact w.elim
  | _ => exact w.elim
noncomputable def Am : D -> D -> Hh -> R D
  | .int i, .int j, h => if 0 <= j /\ j.natAbs <= 1000 /\ sml i = true then .ok (.int (i ^ j.toNat)) h else .bad
  | _, _, _ => .bad
theorem By : OpR X (binaryOp .Pow) (rI (fun i j => 0 <= j /\ j.natAbs <= 1000 /\ sml i = true) fun i j => .int (i ^ j.toNat)) := opI fun i j _ _ _ _ _ hc q => pow_int hc.1 (by
  have := mI hc.2.2
  have h1 : ((Builtin.Int.intBits i : Nat) : Int) <= 1900 := by exact_mod_cast this
  calc ((Builtin.Int.intBits i : Nat) : Int) * j <= 1900 * j := Int.mul_le_mul_of_nonneg_right h1 hc.1
    _ <= 1900 * 1000 := Int.mul_le_mul_of_nonneg_left (show j <= 1000 by have := hc.2.1; omega) (by decide)
    _ <= 2 ^ 27 := by decide) q
theorem CH : dA K g ε Am (rI (fun i j => 0 <= j /\ j.natAbs <= 1000 /\ sml i = true) fun i j => .int (i ^ j.toNat)) := by
  intro α H h a b x y Q r ra rb w
  unfold Am at w
  cases ra with
  | int i =>
    cases rb with
    | int j =>
      obtain ⟨hc, w⟩ := WQ.eD w
      exact ⟨i, j, rfl, rfl, hc, aK.now w r (.int _)⟩
    | _ => exact w.elim
  | _ => exact w.elim
noncomputable def kr : D -> Hh -> R D
  | .int i, h => .ok (.int (-i)) h
  | _, _ => .bad
theorem ko : E7 K g ε kr (rU fun i => .int (-i)) := by
  intro α H h a x Q r ra w
  unfold kr at w
  cases ra with
  | int i => exact ⟨i, rfl, aK.now w r (.int _)⟩
  | _ => exact w.elim
noncomputable def wV (p : Int -> Int -> Bool) : D -> D -> Hh -> R D
  | .int i, .int j, h => .ok (.bl (p i j)) h
  | _, _, _ => .bad
noncomputable def ltI : Int -> Int -> Bool
  | .ofNat a, .ofNat b => Nat.blt a b
  | .ofNat _, .negSucc _ => false
  | .negSucc _, .ofNat _ => true
  | .negSucc a, .negSucc b => Nat.blt b a
theorem nQ : ltI = fun i j => decide (i < j) := by
  funext i j
  cases i with
  | ofNat a =>
    cases j with
    | ofNat b =>
      show Nat.blt a b = _
      rw [Bool.eq_iff_iff, Nat.blt_eq, decide_eq_true_iff]
      exact Int.ofNat_lt.symm
    | negSucc b => exact (decide_eq_false (by have : Int.ofNat a = (a : Int) := rfl; omega)).symm
  | negSucc a =>
    cases j with
    | ofNat b => exact (decide_eq_true (by have : Int.ofNat b = (b : Int) := rfl; omega)).symm
    | negSucc b =>
      show Nat.blt b a = _
      rw [Bool.eq_iff_iff, Nat.blt_eq, decide_eq_true_iff]
      omega
noncomputable def leI (i j : Int) : Bool := !ltI j i
theorem pT : leI = fun i j => decide (i <= j) := by
  funext i j
  unfold leI
  rw [nQ, Bool.eq_iff_iff]
  simp
noncomputable def dLt : D -> D -> Hh -> R D := wV ltI
noncomputable def dLe : D -> D -> Hh -> R D := wV leI
noncomputable def dGt : D -> D -> Hh -> R D := wV fun i j => ltI j i
noncomputable def dGe : D -> D -> Hh -> R D := wV fun i j => leI j i
theorem pX {p : Int -> Int -> Bool} : dA K g ε (wV p) (rI0 fun i j => .bl (p i j)) := by
  intro α H h a b x y Q r ra rb w
  unfold wV at w
  cases ra with
  | int i =>
    cases rb with
    | int j => exact ⟨i, j, rfl, rfl, aK.now w r (.bl _)⟩
    | _ => exact w.elim
  | _ => exact w.elim
theorem lu : dA K g ε dLt (rI0 fun i j => .bl (decide (i < j))) := by
  unfold dLt; rw [nQ]; exact pX
theorem vG : dA K g ε dLe (rI0 fun i j => .bl (decide (i <= j))) := by
  unfold dLe; rw [pT]; exact pX
theorem vy : dA K g ε dGt (rI0 fun i j => .bl (decide (j < i))) := by
  unfold dGt; rw [nQ]; exact pX
theorem El : dA K g ε dGe (rI0 fun i j => .bl (decide (j <= i))) := by
  unfold dGe; rw [pT]; exact pX
noncomputable def iF (d : D) (h : Hh) : Option (List D) := match d with
  | .tup ds => some ds
  | .frl ds => some ds
  | .scr ds => some ds
  | .ref n => aA h n
  | _ => none
theorem qf {α : List Addr} {H : Hp} {h : Hh} {d : D} {x : V} {ds : List D} (r : aP K g α H h) (rd : aG K g α H d x) (e : iF d h = some ds) : ∃ p vs, x = .ref p /\ (SqL K H p vs \/ SqT K H p vs) /\ aw K g α H ds vs := by
  unfold iF at e
  cases rd with
  | tup hq rs => cases e; exact ⟨_, _, rfl, .inr (SqT.of hq), rs⟩
  | frl hq rs => cases e; exact ⟨_, _, rfl, .inl hq.sq, rs⟩
  | scr hq rs => cases e; exact ⟨_, _, rfl, .inl hq.sq, rs⟩
  | ref hp => obtain ⟨vs, hv, rs⟩ := r.lst e hp; exact ⟨_, vs, rfl, .inl (SqL.of hv), rs⟩
  | _ => cases e
noncomputable def dIx : D -> D -> Hh -> R D := fun a b h => match iF a h, b with
  | some ds, .int i => match atI ds i with
    | some d => .ok d h
    | none => .bad
  | _, _ => .bad
theorem Ar {α : List Addr} {H : Hp} {ds : List D} {vs : List V} {i : Int} {d : D} (rs : aw K g α H ds vs) (e : atI ds i = some d) : ∃ v, atI vs i = some v /\ aG K g α H d v := by
  unfold atI at e ⊢
  rw [<- rs.length]
  cases e1 : ixN ds.length i with
  | none => rw [e1] at e; cases e
  | some j =>
    rw [e1] at e
    exact rs.get e
theorem dm : dA K g ε dIx (rIx K) := by
  intro α H h a b x y Q r ra rb w
  unfold dIx at w
  cases e1 : iF a h with
  | none => simp only [e1] at w; exact w.elim
  | some ds =>
    simp only [e1] at w
    obtain ⟨p, vs, rfl, hq, rs⟩ := qf r ra e1
    cases rb with
    | int i =>
      cases e2 : atI ds i with
      | none => simp only [e2] at w; exact w.elim
      | some d =>
        simp only [e2] at w
        obtain ⟨v, ev, rv⟩ := Ar rs e2
        rcases hq with hq | hq
        · exact .inl ⟨p, vs, i, v, rfl, rfl, hq, ev, aK.now w r rv⟩
        · exact .inr (.inl ⟨p, vs, i, v, rfl, rfl, hq, ev, aK.now w r rv⟩)
    | _ => exact w.elim
noncomputable def k9 : D -> D -> D -> Hh -> R Unit := fun o i v h => match o, i with
  | .ref n, .int k => match aA h n with
    | some ds => match ixN ds.length k with
      | some j => .ok () (h.set n (.lst (ds.set j v)))
      | none => .bad
    | none => .bad
  | _, _ => .bad
theorem rX : Eu K g ε k9 BP := by
  intro α H h o i v x y z Q r ro ri rv w
  unfold k9 at w
  cases ro with
  | @ref n p hp =>
    cases ri with
    | int k =>
      cases e1 : aA h n with
      | none => simp only [e1] at w; exact w.elim
      | some ds =>
        simp only [e1] at w
        cases e2 : ixN ds.length k with
        | none => simp only [e2] at w; exact w.elim
        | some j =>
          simp only [e2] at w
          obtain ⟨vs, hv, rs⟩ := r.lst e1 hp
          refine ⟨p, vs, k, j, rfl, rfl, hv, by rw [<- rs.length]; exact e2, ?_⟩
          have x := Ext.write (o := .lst (vs.set j z)) r hp
          exact w _ α x (r.write hp ⟨_, a_, (rs.set rv j).ext x⟩)
    | _ => exact w.elim
  | _ => exact w.elim
noncomputable def cutD (xs : List D) (lo hi : Option Int) : List D := (xs.drop (HT.sIx xs.length 0 lo)).take (HT.sIx xs.length xs.length hi - HT.sIx xs.length 0 lo)
theorem jG {α : List Addr} {H : Hp} {ds : List D} {vs : List V} (rs : aw K g α H ds vs) (lo hi : Option Int) : aw K g α H (cutD ds lo hi) (oh vs lo hi) := by
  unfold cutD oh
  rw [<- rs.length]
  exact (rs.drop _).take _
noncomputable abbrev MO := En -> Hh -> R (Option Int)
noncomputable def cY : MO := fun _ h => .ok none h
noncomputable def eR (a : ME) : MO := fun env h => (a env h).bind fun d h1 => match d with
  | .int i => .ok (some i) h1
  | _ => .bad
noncomputable def tMO (K : PySem.W.Frag) (g : GG) (ε : EE) (m : MO) : TO := fun σ H Q => ∃ α env h, cT K g α H env σ h /\ WQ K g ε α H (m env h) fun o h' => ∀ H' α', Ext K α H α' H' -> aP K g α' H' h' -> Q o H'
theorem PO.imp {e : Option Expr} {t t' : TO} (h : PO X e t) (i : ∀ σ H Q, t' σ H Q -> t σ H Q) : PO X e t' := fun pins s σ H Q I w => h pins s σ H Q I (i σ H Q w)
theorem j4 : PO X none (tMO X.K g ε cY) := PO.imp Ad fun σ H Q ⟨α, env, h, s, w⟩ => w H α Ext.refl s.heap
theorem gG {e : Expr} {me : ME} (he : PE X e (tM X.K g ε me)) : PO X (some e) (tMO X.K g ε (eR me)) := PO.imp (BA he) fun σ H Q ⟨α, env, h, s, w⟩ => tM.use s w.bind fun d1 h1 v1 H1 α1 e1 s1 r1 w1 => by
  cases r1 with
  | int i => exact ⟨i, rfl, w1 H1 α1 e1 s1.heap⟩
  | _ => exact w1.elim
noncomputable def wd (nl : NL) : D -> Option Int -> Option Int -> Hh -> R D := fun d lo hi h => match d with
  | .tup ds => .ok (.tup (cutD ds lo hi)) h
  | .frl ds => nl (cutD ds lo hi) h
  | .scr ds => nl (cutD ds lo hi) h
  | .ref n => match aA h n with
    | some ds => nl (cutD ds lo hi) h
    | none => .bad
  | _ => .bad
noncomputable def dD (nl : NL) (a : ME) (l u : MO) : ME := fun env h => (a env h).bind fun x h1 => (l env h1).bind fun lo h2 => (u env h2).bind fun hi h3 => wd nl x lo hi h3
theorem tMO.use {α : List Addr} {H : Hp} {env : En} {σ : St} {h : Hh} {m : MO} {Q : Option Int -> Hp -> Prop} {k : Option Int -> Hh -> Prop} (s : cT K g α H env σ h) (w : WQ K g ε α H (m env h) k)
    (q : ∀ d h' H' α', Ext K α H α' H' -> cT K g α' H' env σ h' -> k d h' -> Q d H') : tMO K g ε m σ H Q :=
  ⟨α, env, h, s, w.mono fun d h' _ kk H' α' e r => q d h' H' α' e (s.ext e r) kk⟩
theorem gq {nl : NL} [kM nl] {e : Expr} {me : ME} {lo hi : Option Expr} {ml mh : MO} {p2 pos : Pos} (he : PE X e (tM X.K g ε me)) (hl : PO X lo (tMO X.K g ε ml)) (hu : PO X hi (tMO X.K g ε mh)) : PE X (.Subscript e (.Slice lo hi none p2) pos) (tM X.K g ε (dD nl me ml mh)) :=
  PE.imp (PE.frz (xA (SlR.or AX (SlR.or DJ Bg)) he hl hu)) fun σ H Q ⟨α, env, h, s, w⟩ => tM.use s w.bind fun d1 h1 v1 H1 α1 e1 s1 r1 w1 => tMO.use s1 (w1.ext e1).bind fun o2 h2 H2 α2 e2 s2 w2 => tMO.use s2 (w2.ext e2).bind fun o3 h3 H3 α3 e3 s3 w3 => by
    have tr := e1.trans (e2.trans e3)
    have r3 := r1.ext (e2.trans e3)
    have w4 := (w3.ext e3).mono fun _ _ _ p => aK.ext tr p
    unfold wd at w4
    cases r3 with
    | @frl ds p vs hq rs => exact .inl ⟨_, _, rfl, hq.sq, fun l hl => NL.post w4 s3.heap (jG rs _ _) hl⟩
    | @scr ds p vs hq rs => exact .inl ⟨_, _, rfl, hq.sq, fun l hl => NL.post w4 s3.heap (jG rs _ _) hl⟩
    | @ref n p hp =>
      cases e1 : aA h3 n with
      | none => simp only [e1] at w4; exact w4.elim
      | some ds =>
        simp only [e1] at w4
        obtain ⟨vs, hv, rs⟩ := s3.heap.lst e1 hp
        exact .inl ⟨_, _, rfl, SqL.of hv, fun l hl => NL.post w4 s3.heap (jG rs _ _) hl⟩
    | @tup ds p vs hq rs =>
      refine .inr ?_
      by_cases hw : HT.sIx vs.length 0 o2 = 0 /\ HT.sIx vs.length vs.length o3 = vs.length
      · refine .inr ⟨_, _, rfl, SqT.of hq, hw.1, hw.2, ?_⟩
        refine aK.vY w4 s3.heap (.tup hq ?_)
        have : oh vs o2 o3 = vs := by unfold oh; rw [hw.1, hw.2]; simp
        have q := jG rs o2 o3
        rw [this] at q
        exact q
      · exact .inl ⟨_, _, rfl, SqT.of hq, hw, fun l hl => .inl (aK.tup w4 s3.heap (jG rs _ _) hl)⟩
    | _ => exact w4.elim
end
noncomputable def eU : D -> Bool
  | .non => true | .bl _ => true | .int _ => true | .str _ => true
  | _ => false
noncomputable def eqF : D -> D -> Bool
  | .non, .non => true
  | .bl a, .bl b => a == b
  | .bl a, .int b => (if a then 1 else 0) == b
  | .int a, .bl b => a == (if b then 1 else 0)
  | .int a, .int b => a == b
  | .str a, .str b => a == b
  | _, _ => false
noncomputable def eqL (f : D -> D -> Option Bool) : List D -> List D -> Option Bool
  | x :: xs, y :: ys => match f x y, eqL f xs ys with
    | some b, some c => some (b && c)
    | _, _ => none
  | [], [] => some true
  | _, _ => some false
inductive Vw where
  | fl | tp (ds : List D) | ls (ds : List D) | no
noncomputable def vw (d : D) (h : Hh) : Vw := match d with
  | .non => .fl | .bl _ => .fl | .int _ => .fl | .str _ => .fl
  | .tup ds => .tp ds
  | .frl ds => .ls ds
  | .scr ds => .ls ds
  | .ref n => match aA h n with
    | some ds => .ls ds
    | none => .no
  | _ => .no
noncomputable def eqD : Nat -> Hh -> D -> D -> Option Bool
  | 0, _, _, _ => none
  | k + 1, h, a, b => match vw a h, vw b h with
    | .fl, .fl => some (eqF a b)
    | .tp xs, .tp ys => eqL (eqD k h) xs ys
    | .ls xs, .ls ys => if xs.length = ys.length then eqL (eqD k h) xs ys else some false
    | .fl, .tp _ => some false
    | .fl, .ls _ => some false
    | .tp _, .fl => some false
    | .tp _, .ls _ => some false
    | .ls _, .fl => some false
    | .ls _, .tp _ => some false
    | _, _ => none
section
variable {K : PySem.W.Frag} {g : GG} {α : List Addr} {H : Hp} {h : Hh}
theorem nk {f : D -> D -> Option Bool} (hf : ∀ a b x c, aG K g α H a x -> aG K g α H b x -> f a b = some c -> c = true) : ∀ {xs ys : List D} {vs : List V} {c : Bool}, aw K g α H xs vs -> aw K g α H ys vs -> eqL f xs ys = some c -> c = true
  | _, _, _, _, .nil, .nil, e => by simp [eqL] at e; exact e
  | _, _, _, c, .cons r t, .cons r' t', e => by
    unfold eqL at e
    split at e
    · rename_i b c' h1 h2
      have e1 := hf _ _ _ _ r r' h1
      have e2 := nk hf t t' h2
      subst e1 e2
      exact (Option.some.inj e).symm
    · cases e
theorem lq {d : D} {x : V} (rd : aG K g α H d x) (e : vw d h = .fl) : eU d = true := by
  cases rd with
  | ref hp => unfold vw at e; simp only at e; split at e <;> cases e
  | _ => first | rfl | cases e
theorem lr {d : D} {x : V} {ds : List D} (rd : aG K g α H d x) (e : vw d h = .tp ds) : ∃ p vs, x = .ref p /\ SqT K H p vs /\ aw K g α H ds vs := by
  cases rd with
  | tup hp rs => cases e; exact ⟨_, _, rfl, SqT.of hp, rs⟩
  | ref hp => unfold vw at e; simp only at e; split at e <;> cases e
  | _ => cases e
theorem lh {d : D} {x : V} {ds : List D} (r : aP K g α H h) (rd : aG K g α H d x) (e : vw d h = .ls ds) : ∃ p vs, x = .ref p /\ SqL K H p vs /\ aw K g α H ds vs := by
  cases rd with
  | frl hp rs => cases e; exact ⟨_, _, rfl, hp.sq, rs⟩
  | scr hp rs => cases e; exact ⟨_, _, rfl, hp.sq, rs⟩
  | @ref n p hp =>
    unfold vw at e
    simp only at e
    cases el : aA h n with
    | none => rw [el] at e; cases e
    | some ds' =>
      rw [el] at e; cases e
      obtain ⟨vs, hv, rs⟩ := r.lst el hp
      exact ⟨_, _, rfl, SqL.of hv, rs⟩
  | _ => cases e
theorem vp {f : D -> D -> Option Bool} : ∀ {xs ys : List D} {c : Bool}, eqL f xs ys = some c →
    (∀ (j : Nat) (x y : D), xs[j]? = some x -> ys[j]? = some y -> ∃ b, f x y = some b) /\ c = ((List.range (min xs.length ys.length)).all (fun j => ((f (xs.getD j .non) (ys.getD j .non)).getD false)) && xs.length == ys.length)
  | [], [], c, e => by
    simp [eqL] at e
    refine ⟨fun j x y h => by simp at h, ?_⟩
    simp [<- e]
  | [], _ :: _, c, e => by
    simp [eqL] at e
    exact ⟨fun j x y h => by simp at h, by simp [<- e]⟩
  | _ :: _, [], c, e => by
    simp [eqL] at e
    exact ⟨fun j x y _ h => by simp at h, by simp [<- e]⟩
  | x :: xs, y :: ys, c, e => by
    unfold eqL at e
    split at e
    · rename_i b c' h1 h2
      obtain ⟨q1, q2⟩ := vp h2
      refine ⟨fun j x' y' hx hy => ?_, ?_⟩
      · cases j with
        | zero => simp at hx hy; subst hx hy; exact ⟨b, h1⟩
        | succ j => exact q1 j x' y' (by simpa using hx) (by simpa using hy)
      · have e' := (Option.some.inj e).symm
        rw [e', q2]
        have hm : min (x :: xs).length (y :: ys).length = min xs.length ys.length + 1 := by simp [Nat.succ_min_succ]
        rw [hm, List.range_succ_eq_map, List.all_cons, List.all_map]
        have h0 : (f ((x :: xs).getD 0 .non) ((y :: ys).getD 0 .non)).getD false = b := by
          show (f x y).getD false = b
          rw [h1]; rfl
        rw [h0]
        have hlen : ((x :: xs).length == (y :: ys).length) = (xs.length == ys.length) := by simp
        rw [hlen, Bool.and_assoc]
        rfl
    · cases e
end
section
variable {X : Cx} {g : GG} {pins : List (Addr × Obj)} {σ : St} {H : Hp} {s : Shared} {α : List Addr} {h : Hh}
open PySem.SeqAt
theorem Bp {A : Around} {a b : D} {x y : V} {u v : Value} {K : PySem.W.Frag} (ra : aG K g α H a x) (rb : aG K g α H b y) (ru : RelV x u) (rv : RelV y v) (fa : eU a = true) (fb : eU b = true) :
    EqAt A s u v (eqF a b) /\ RcAt A s u v (eqF a b) /\ RcNeAt A s u v (!eqF a b) := by
  cases ra with
  | non =>
    cases ru
    cases rb with
    | non => cases rv; exact ⟨.same _, .none_none, .none_none⟩
    | bl z => cases rv; exact ⟨.none_bool z, .none_bool z, .none_bool z⟩
    | int z => obtain ⟨t, rfl⟩ := rv; exact ⟨.none_int z t, .none_int z t, .none_int z t⟩
    | str z => obtain ⟨t, rfl⟩ := rv; exact ⟨.none_str z t, .none_str z t, .none_str z t⟩
    | _ => cases fb
  | bl q =>
    cases ru
    cases rb with
    | non => cases rv; exact ⟨.bool_none q, .bool_none q, .bool_none q⟩
    | bl z => cases rv; exact ⟨.bool_bool q z, .bool_bool q z, .bool_bool q z⟩
    | int z => obtain ⟨t, rfl⟩ := rv; exact ⟨.bool_int q z t, .bool_int q z t, .bool_int q z t⟩
    | str z => obtain ⟨t, rfl⟩ := rv; exact ⟨.bool_str q z t, .bool_str q z t, .bool_str q z t⟩
    | _ => cases fb
  | int q =>
    obtain ⟨t', rfl⟩ := ru
    cases rb with
    | non => cases rv; exact ⟨.int_none q t', .int_none q t', .int_none q t'⟩
    | bl z => cases rv; exact ⟨.int_bool q t' z, .int_bool q t' z, .int_bool q t' z⟩
    | int z => obtain ⟨t, rfl⟩ := rv; exact ⟨.int_int q t' z t, .int_int q t' z t, .int_int q t' z t⟩
    | str z => obtain ⟨t, rfl⟩ := rv; exact ⟨.int_str q t' z t, .int_str q t' z t, .int_str q t' z t⟩
    | _ => cases fb
  | str q =>
    obtain ⟨t', rfl⟩ := ru
    cases rb with
    | non => cases rv; exact ⟨.str_none q t', .str_none q t', .str_none q t'⟩
    | bl z => cases rv; exact ⟨.str_bool q t' z, .str_bool q t' z, .str_bool q t' z⟩
    | int z => obtain ⟨t, rfl⟩ := rv; exact ⟨.str_int q t' z t, .str_int q t' z t, .str_int q t' z t⟩
    | str z => obtain ⟨t, rfl⟩ := rv; exact ⟨.str_str q t' z t, .str_str q t' z t, .str_str q t' z t⟩
    | _ => cases fb
  | _ => cases fa
theorem sC {A : Around} {b : D} {y : V} {v : Value} {p : Addr} {its : Array Value} {K : PySem.W.Frag} (ht : s.heap.IsTuple p its) (hu : A.units < cLine) (rb : aG K g α H b y) (rv : RelV y v) (fb : eU b = true) :
    (EqAt A s (.ref p) v false /\ RcAt A s (.ref p) v false /\ RcNeAt A s (.ref p) v true) /\ (EqAt A s v (.ref p) false /\ RcAt A s v (.ref p) false /\ RcNeAt A s v (.ref p) true) := by
  cases rb with
  | non => cases rv; exact ⟨⟨.tuple_none ht hu, .tuple_none ht hu, .tuple_none ht hu⟩, .none_tuple ht hu, .none_tuple ht hu, .none_tuple ht hu⟩
  | bl z => cases rv; exact ⟨⟨.tuple_bool z ht hu, .tuple_bool z ht hu, .tuple_bool z ht hu⟩, .bool_tuple z ht hu, .bool_tuple z ht hu, .bool_tuple z ht hu⟩
  | int z => obtain ⟨t, rfl⟩ := rv; exact ⟨⟨.tuple_int z t ht hu, .tuple_int z t ht hu, .tuple_int z t ht hu⟩, .int_tuple z t ht hu, .int_tuple z t ht hu, .int_tuple z t ht hu⟩
  | str z => obtain ⟨t, rfl⟩ := rv; exact ⟨⟨.tuple_str z t ht hu, .tuple_str z t ht hu, .tuple_str z t ht hu⟩, .str_tuple z t ht hu, .str_tuple z t ht hu, .str_tuple z t ht hu⟩
  | _ => cases fb
theorem sY {A : Around} {b : D} {y : V} {v : Value} {p : Addr} {its : Array Value} {K : PySem.W.Frag} (ht : s.heap.IsList p its) (hu : A.units < cLine) (rb : aG K g α H b y) (rv : RelV y v) (fb : eU b = true) :
    (EqAt A s (.ref p) v false /\ RcAt A s (.ref p) v false /\ RcNeAt A s (.ref p) v true) /\ (EqAt A s v (.ref p) false /\ RcAt A s v (.ref p) false /\ RcNeAt A s v (.ref p) true) := by
  cases rb with
  | non => cases rv; exact ⟨⟨.list_none ht hu, .list_none ht hu, .list_none ht hu⟩, .none_list ht hu, .none_list ht hu, .none_list ht hu⟩
  | bl z => cases rv; exact ⟨⟨.list_bool z ht hu, .list_bool z ht hu, .list_bool z ht hu⟩, .bool_list z ht hu, .bool_list z ht hu, .bool_list z ht hu⟩
  | int z => obtain ⟨t, rfl⟩ := rv; exact ⟨⟨.list_int z t ht hu, .list_int z t ht hu, .list_int z t ht hu⟩, .int_list z t ht hu, .int_list z t ht hu, .int_list z t ht hu⟩
  | str z => obtain ⟨t, rfl⟩ := rv; exact ⟨⟨.list_str z t ht hu, .list_str z t ht hu, .list_str z t ht hu⟩, .str_list z t ht hu, .str_list z t ht hu, .str_list z t ht hu⟩
  | _ => cases fb
theorem rG {A : Around} {k : Nat} {ds es : List D} {vs us : List V} {its jts : List Value} {c : Bool} (r : aP X.K g α H h)
    (ih : ∀ (a b : D) (x y : V) (u v : Value) (c : Bool), aG X.K g α H a x -> aG X.K g α H b y -> RelV x u -> RelV y v -> eqD k h a b = some c -> EqAt A.in1 s u v c)
    (rs : aw X.K g α H ds vs) (rt : aw X.K g α H es us) (rv : Vals vs its) (ru : Vals us jts) (e : eqL (eqD k h) ds es = some c) :
    (∀ j (h1 : j < its.toArray.size) (h2 : j < jts.toArray.size), EqAt A.in1 s its.toArray[j] jts.toArray[j] ((fun (j : Nat) => (eqD k h (ds.getD j .non) (es.getD j .non)).getD false) j)) ∧
    c = ((List.range (min its.toArray.size jts.toArray.size)).all (fun (j : Nat) => (eqD k h (ds.getD j .non) (es.getD j .non)).getD false) && its.toArray.size == jts.toArray.size) := by
  obtain ⟨q1, q2⟩ := vp e
  have l1 : its.toArray.size = ds.length := by rw [List.size_toArray, <- rv.length, rs.length]
  have l2 : jts.toArray.size = es.length := by rw [List.size_toArray, <- ru.length, rt.length]
  refine ⟨fun j h1 h2 => ?_, by rw [l1, l2]; exact q2⟩
  have hd : ds[j]? = some (ds.getD j .non) := by rw [List.getD_eq_getElem?_getD, List.getElem?_eq_getElem (by omega)]; rfl
  have he : es[j]? = some (es.getD j .non) := by rw [List.getD_eq_getElem?_getD, List.getElem?_eq_getElem (by omega)]; rfl
  obtain ⟨b, hb⟩ := q1 j _ _ hd he
  obtain ⟨x, hx, rx⟩ := rs.get hd
  obtain ⟨y, hy, ry⟩ := rt.get he
  obtain ⟨u, hu, rxu⟩ := rv.get hx
  obtain ⟨v, hv, ryv⟩ := ru.get hy
  have eu : its.toArray[j] = u := by
    have := List.getElem?_eq_getElem (l := its) (i := j) (by simpa using h1)
    rw [hu] at this
    simpa using (Option.some.inj this).symm
  have ev : jts.toArray[j] = v := by
    have := List.getElem?_eq_getElem (l := jts) (i := j) (by simpa using h2)
    rw [hv] at this
    simpa using (Option.some.inj this).symm
  rw [eu, ev]
  show EqAt A.in1 s u v ((eqD k h (ds.getD j .non) (es.getD j .non)).getD false)
  rw [hb]
  exact ih _ _ _ _ _ _ _ rx ry rxu ryv hb
theorem uP (I : Inv X pins σ H s) {p : Addr} {vs us : List V} (a : SqT X.K H p vs) (b : SqL X.K H p us) : False := by
  obtain ⟨its, r1, ⟨o, e, c, _⟩, _⟩ := I.tuple a
  obtain ⟨jts, r2, ⟨o', n', e', c', _⟩, _⟩ := I.list b
  rw [e] at e'; cases e'; rw [c] at c'; injection c' with z; exact absurd z (by decide)
theorem nM (I : Inv X pins σ H s) (r : aP X.K g α H h) : ∀ (k : Nat) (a b : D) (x : V) (c : Bool), aG X.K g α H a x -> aG X.K g α H b x -> eqD k h a b = some c -> c = true
  | 0, _, _, _, _, _, _, e => by cases e
  | k + 1, a, b, x, c, ra, rb, e => by
    unfold eqD at e
    cases ea : vw a h with
    | no => simp [ea] at e
    | fl =>
      have fa := lq ra ea
      cases eb : vw b h with
      | no => simp [ea, eb] at e
      | fl =>
        simp only [ea, eb] at e
        cases e
        have fb := lq rb eb
        cases ra with
        | non => cases rb with
          | non => rfl
        | bl z => cases rb with
          | bl _ => simp [eqF]
        | int z => cases rb with
          | int _ => simp [eqF]
        | str z => cases rb with
          | str _ => simp [eqF]
        | _ => cases fa
      | tp ds => obtain ⟨p, vs, rfl, _⟩ := lr rb eb; cases ra <;> cases fa
      | ls ds => obtain ⟨p, vs, rfl, _⟩ := lh r rb eb; cases ra <;> cases fa
    | tp da =>
      obtain ⟨p, va, rfl, hp, rs⟩ := lr ra ea
      cases eb : vw b h with
      | no => simp [ea, eb] at e
      | fl => have fb := lq rb eb; cases rb <;> cases fb
      | tp db =>
        simp only [ea, eb] at e
        obtain ⟨q, vb, hpq, hq, rt⟩ := lr rb eb
        cases hpq
        have := I.kT hp hq
        subst this
        exact nk (fun a b x c => nM I r k a b x c) rs rt e
      | ls db =>
        obtain ⟨q, vb, hpq, hq, rt⟩ := lh r rb eb
        cases hpq
        exact (uP I hp hq).elim
    | ls da =>
      obtain ⟨p, va, rfl, hp, rs⟩ := lh r ra ea
      cases eb : vw b h with
      | no => simp [ea, eb] at e
      | fl => have fb := lq rb eb; cases rb <;> cases fb
      | tp db =>
        obtain ⟨q, vb, hpq, hq, rt⟩ := lr rb eb
        cases hpq
        exact (uP I hq hp).elim
      | ls db =>
        simp only [ea, eb] at e
        obtain ⟨q, vb, hpq, hq, rt⟩ := lh r rb eb
        cases hpq
        have := I.mD hp hq
        subst this
        rw [if_pos (by rw [rs.length, rt.length])] at e
        exact nk (fun a b x c => nM I r k a b x c) rs rt e
theorem t7 (I : Inv X pins σ H s) (r : aP X.K g α H h) : ∀ (k : Nat) (A : Around) (a b : D) (x y : V) (u v : Value) (c : Bool), A.units + k < cLine -> aG X.K g α H a x -> aG X.K g α H b y -> RelV x u -> RelV y v -> eqD k h a b = some c →
    EqAt A s u v c /\ RcAt A s u v c /\ RcNeAt A s u v (!c)
  | 0, _, _, _, _, _, _, _, _, _, _, _, _, _, e => by cases e
  | k + 1, A, a, b, x, y, u, v, c, hu, ra, rb, ru, rv, e => by
    have hu0 : A.units < cLine := by omega
    have ih : ∀ (a b : D) (x y : V) (u v : Value) (c : Bool), aG X.K g α H a x -> aG X.K g α H b y -> RelV x u -> RelV y v -> eqD k h a b = some c -> EqAt A.in1 s u v c :=
      fun a b x y u v c h1 h2 h3 h4 h5 => (t7 I r k A.in1 a b x y u v c (by show A.units + 1 + k < _; omega) h1 h2 h3 h4 h5).1
    have whole := fun x ra rb => nM I r (k + 1) a b x c ra rb e
    unfold eqD at e
    cases ea : vw a h with
    | no => simp [ea] at e
    | fl =>
      have fa := lq ra ea
      cases eb : vw b h with
      | no => simp [ea, eb] at e
      | fl => simp only [ea, eb] at e; cases e; exact Bp ra rb ru rv fa (lq rb eb)
      | tp db =>
        simp only [ea, eb] at e; cases e
        obtain ⟨q, vb, rfl, hq, rt⟩ := lr rb eb
        cases rv
        obtain ⟨its, r1, ht, _⟩ := I.tuple hq
        exact (sC ht hu0 ra ru fa).2
      | ls db =>
        simp only [ea, eb] at e; cases e
        obtain ⟨q, vb, rfl, hq, rt⟩ := lh r rb eb
        cases rv
        obtain ⟨its, r1, ht, _⟩ := I.list hq
        exact (sY ht.isList hu0 ra ru fa).2
    | tp da =>
      obtain ⟨p, va, rfl, hp, rs⟩ := lr ra ea
      cases ru
      obtain ⟨its, r1, ht, _⟩ := I.tuple hp
      cases eb : vw b h with
      | no => simp [ea, eb] at e
      | fl => simp only [ea, eb] at e; cases e; exact (sC ht hu0 rb rv (lq rb eb)).1
      | tp db =>
        simp only [ea, eb] at e
        obtain ⟨q, vb, rfl, hq, rt⟩ := lr rb eb
        cases rv
        obtain ⟨jts, r2, ht2, _⟩ := I.tuple hq
        obtain ⟨h1, h2⟩ := rG r ih rs rt r1 r2 e
        have rc : RcAt A s (.ref p) (.ref q) c := by rw [h2]; exact RcAt.tuples ht ht2 hu0 h1
        refine ⟨?_, rc, by rw [h2]; exact RcNeAt.tuples ht ht2 hu0 h1⟩
        by_cases hpq : p = q
        · subst hpq
          rw [whole _ ra rb]
          exact .same _
        · exact .of_refs hpq rc
      | ls db =>
        simp only [ea, eb] at e; cases e
        obtain ⟨q, vb, rfl, hq, rt⟩ := lh r rb eb
        cases rv
        obtain ⟨jts, r2, ht2, _⟩ := I.list hq
        exact ⟨.tuple_list ht ht2.isList hu0, .tuple_list ht ht2.isList hu0, .tuple_list ht ht2.isList hu0⟩
    | ls da =>
      obtain ⟨p, va, rfl, hp, rs⟩ := lh r ra ea
      cases ru
      obtain ⟨its, r1, ht', _⟩ := I.list hp
      have ht := ht'.isList
      cases eb : vw b h with
      | no => simp [ea, eb] at e
      | fl => simp only [ea, eb] at e; cases e; exact (sY ht hu0 rb rv (lq rb eb)).1
      | tp db =>
        simp only [ea, eb] at e; cases e
        obtain ⟨q, vb, rfl, hq, rt⟩ := lr rb eb
        cases rv
        obtain ⟨jts, r2, ht2, _⟩ := I.tuple hq
        exact ⟨.list_tuple ht ht2 hu0, .list_tuple ht ht2 hu0, .list_tuple ht ht2 hu0⟩
      | ls db =>
        simp only [ea, eb] at e
        obtain ⟨q, vb, rfl, hq, rt⟩ := lh r rb eb
        cases rv
        obtain ⟨jts, r2, ht2', _⟩ := I.list hq
        have ht2 := ht2'.isList
        have l1 : its.toArray.size = da.length := by rw [List.size_toArray, <- r1.length, rs.length]
        have l2 : jts.toArray.size = db.length := by rw [List.size_toArray, <- r2.length, rt.length]
        have fin : RcAt A s (.ref p) (.ref q) c /\ RcNeAt A s (.ref p) (.ref q) (!c) := by
          by_cases hl : da.length = db.length
          · rw [if_pos hl] at e
            obtain ⟨h1, h2⟩ := rG r ih rs rt r1 r2 e
            have hsz : its.toArray.size = jts.toArray.size := by omega
            have h2' : c = (List.range its.toArray.size).all (fun (j : Nat) => (eqD k h (da.getD j .non) (db.getD j .non)).getD false) := by
              rw [h2, <- hsz, Nat.min_self]; simp
            exact ⟨by rw [h2']; exact RcAt.lists ht ht2 hsz hu0 h1, by rw [h2']; exact RcNeAt.lists ht ht2 hsz hu0 h1⟩
          · rw [if_neg hl] at e
            have e2 : c = false := (Option.some.inj e).symm
            have hsz : (its.toArray.size != jts.toArray.size) = true := by
              rw [l1, l2]; simpa using hl
            rw [e2]
            exact ⟨RcAt.lists_lengths ht ht2 hsz hu0, RcNeAt.lists_lengths ht ht2 hsz hu0⟩
        refine ⟨?_, fin⟩
        by_cases hpq : p = q
        · subst hpq
          rw [whole _ ra rb]
          exact .same _
        · exact .of_refs hpq fin.1
noncomputable abbrev eqN : Nat := 12
noncomputable def dEq : D -> D -> Hh -> R D := fun a b h => match eqD eqN h a b with
  | some c => .ok (.bl c) h
  | none => .bad
noncomputable def dNe : D -> D -> Hh -> R D := fun a b h => match eqD eqN h a b with
  | some c => .ok (.bl (!c)) h
  | none => .bad
noncomputable def Bd (K : PySem.W.Frag) (g : GG) (neg : Bool) : R2 := fun x y H Q => ∃ α h a b c, aP K g α H h /\ aG K g α H a x /\ aG K g α H b y /\ eqD eqN h a b = some c /\ Q (.bl (if neg then !c else c)) H
theorem dJ (hu : X.A.units + 64 < cLine) : OpR X (compareOp .Eq) (Bd X.K g false) := by
  intro pins s σ H x y v u Q I rx ry ⟨α, h, a, b, c, r, ra, rb, e, q⟩
  exact (t7 I r eqN X.A a b x y v u c (by show X.A.units + 12 < _; omega) ra rb rx ry e).2.1 _ _ _ _ ⟨.bl c, H, I, rfl, q⟩
theorem ik (hu : X.A.units + 64 < cLine) : OpR X (compareOp .NotEq) (Bd X.K g true) := by
  intro pins s σ H x y v u Q I rx ry ⟨α, h, a, b, c, r, ra, rb, e, q⟩
  exact (t7 I r eqN X.A a b x y v u c (by show X.A.units + 12 < _; omega) ra rb rx ry e).2.2 _ _ _ _ ⟨.bl (!c), H, I, rfl, q⟩
theorem fE {ε : EE} {K : PySem.W.Frag} : dA K g ε dEq (Bd K g false) := by
  intro α H h a b x y Q r ra rb w
  unfold dEq at w
  cases e : eqD eqN h a b with
  | none => simp only [e] at w; exact w.elim
  | some c => simp only [e] at w; exact ⟨α, h, a, b, c, r, ra, rb, e, aK.now w r (.bl _)⟩
theorem lA {ε : EE} {K : PySem.W.Frag} : dA K g ε dNe (Bd K g true) := by
  intro α H h a b x y Q r ra rb w
  unfold dNe at w
  cases e : eqD eqN h a b with
  | none => simp only [e] at w; exact w.elim
  | some c => simp only [e] at w; exact ⟨α, h, a, b, c, r, ra, rb, e, aK.now w r (.bl _)⟩
end
noncomputable def g_ (f : D -> Option PyData) : List D -> Option (List PyData)
  | [] => some []
  | d :: ds => match f d, g_ f ds with
    | some p, some ps => some (p :: ps)
    | _, _ => none
noncomputable def toPy : Nat -> Hh -> D -> Option PyData
  | 0, _, _ => none
  | k + 1, h, d => match d with
    | .non => some .none
    | .bl b => some (.bool b)
    | .int i => if sml i = true then some (.int i) else none
    | .str x => if x.cps.toList.all (fun c => decide (c < 16 ^ 8)) = true then some (.str x) else none
    | .tup ds => (g_ (toPy k h) ds).map .tuple
    | .frl ds => (g_ (toPy k h) ds).map .list
    | .ref n => match aA h n with
      | some ds => (g_ (toPy k h) ds).map .list
      | none => none
    | _ => none
structure DX (k : Nat) (d : PyData) : Prop where
  sh : d.showable = true
  nd : d.hasDict = false
  dp : d.depth <= k
  lv : d.leavesShort 1921 = true
structure Fi (k : Nat) (ds : List PyData) : Prop where
  sh : PyData.showableAll ds = true
  nd : PyData.hasDictAll ds = false
  dp : PyData.depthAll ds <= k
  lv : PyData.leavesShortAll 1921 ds = true
section
variable {K : PySem.W.Frag} {g : GG} {α : List Addr} {H : Hp} {h : Hh}
theorem jT {f : D -> Option PyData} {k : Nat} (hf : ∀ d x p, aG K g α H d x -> f d = some p -> RdD K H x p /\ DX k p) : ∀ {ds : List D} {vs : List V} {ps : List PyData}, aw K g α H ds vs -> g_ f ds = some ps →
    Fi k ps /\ vs.length = ps.length /\ ∀ (i : Nat) x d, vs[i]? = some x -> ps[i]? = some d -> RdD K H x d
  | _, _, _, .nil, e => by
    cases e
    exact ⟨⟨by simp [PyData.showableAll], by simp [PyData.hasDictAll], by simp [PyData.depthAll], by simp [PyData.leavesShortAll]⟩, rfl, fun i x d h => by simp at h⟩
  | _, _, _, .cons r t, e => by
    unfold g_ at e
    split at e
    · rename_i p ps h1 h2
      cases e
      obtain ⟨a1, a2⟩ := hf _ _ _ r h1
      obtain ⟨b1, b2, b3⟩ := jT hf t h2
      refine ⟨⟨by rw [PyData.showableAll, a2.sh, b1.sh]; rfl, by rw [PyData.hasDictAll, a2.nd, b1.nd]; rfl, by rw [PyData.depthAll]; exact Nat.max_le.mpr ⟨a2.dp, b1.dp⟩, by rw [PyData.leavesShortAll, a2.lv, b1.lv]; rfl⟩, by simp [b2], fun i x d hx hd => ?_⟩
      cases i with
      | zero => simp at hx hd; subst hx hd; exact a1
      | succ i => exact b3 i x d (by simpa using hx) (by simpa using hd)
    · cases e
theorem l_ (r : aP K g α H h) : ∀ (k : Nat) (d : D) (x : V) (p : PyData), aG K g α H d x -> toPy k h d = some p -> RdD K H x p /\ DX k p
  | 0, _, _, _, _, e => by cases e
  | k + 1, d, x, p, rd, e => by
    unfold toPy at e
    cases rd with
    | non => cases e; exact ⟨.non, by simp [PyData.showable], by simp [PyData.hasDict], by simp [PyData.depth], by simp [PyData.leavesShort]⟩
    | bl b => cases e; exact ⟨.bl b, by simp [PyData.showable], by simp [PyData.hasDict], by simp [PyData.depth], by simp [PyData.leavesShort]⟩
    | int i =>
      simp only at e
      split at e
      · rename_i hs
        cases e
        have hl : i.natAbs.log2 < 1920 := Nat.lt_trans (pQ hs) (by decide)
        exact ⟨.int i, by simp [PyData.showable, hl], by simp [PyData.hasDict], by simp [PyData.depth], by simp only [PyData.leavesShort, decide_eq_true_eq]; exact int_text_len_1921 hl⟩
      · cases e
    | str z =>
      simp only at e
      split at e
      · rename_i hs
        cases e
        exact ⟨.str z, by simp [PyData.showable], by simp [PyData.hasDict], by simp [PyData.depth], by simpa only [PyData.leavesShort] using hs⟩
      · cases e
    | tup hp rs =>
      simp only at e
      cases e1 : g_ (toPy k h) _ with
      | none => rw [e1] at e; cases e
      | some ps =>
        rw [e1] at e
        cases e
        obtain ⟨b1, b2, b3⟩ := jT (fun d x p => l_ r k d x p) rs e1
        exact ⟨.tup (SqT.of hp) b2 b3, by rw [PyData.showable]; exact b1.sh, by rw [PyData.hasDict]; exact b1.nd, by rw [PyData.depth]; exact Nat.succ_le_succ b1.dp, by rw [PyData.leavesShort]; exact b1.lv⟩
    | @ref n p hp =>
      simp only at e
      cases el : aA h n with
      | none => rw [el] at e; cases e
      | some ds =>
        rw [el] at e
        simp only at e
        obtain ⟨vs, hv, rs⟩ := r.lst el hp
        cases e1 : g_ (toPy k h) ds with
        | none => rw [e1] at e; cases e
        | some ps =>
          rw [e1] at e
          cases e
          obtain ⟨b1, b2, b3⟩ := jT (fun d x p => l_ r k d x p) rs e1
          exact ⟨.lst (SqL.of hv) b2 b3, by rw [PyData.showable]; exact b1.sh, by rw [PyData.hasDict]; exact b1.nd, by rw [PyData.depth]; exact Nat.succ_le_succ b1.dp, by rw [PyData.leavesShort]; exact b1.lv⟩
    | frl hp rs =>
      simp only at e
      cases e1 : g_ (toPy k h) _ with
      | none => rw [e1] at e; cases e
      | some ps =>
        rw [e1] at e
        cases e
        obtain ⟨b1, b2, b3⟩ := jT (fun d x p => l_ r k d x p) rs e1
        exact ⟨.lst hp.sq b2 b3, by rw [PyData.showable]; exact b1.sh, by rw [PyData.hasDict]; exact b1.nd, by rw [PyData.depth]; exact Nat.succ_le_succ b1.dp, by rw [PyData.leavesShort]; exact b1.lv⟩
    | fn _ => cases e
    | edic _ => cases e
    | exc _ _ _ _ _ => cases e
    | clo => cases e
    | scr _ _ => cases e
end
noncomputable def ur (d : D) (h : Hh) : R D := match toPy 12 h d with
  | some p => if p.bulk <= 8000 then .ok (.str p.shown) h else .bad
  | none => .bad
noncomputable def dP : List D -> Hh -> R D := fun ds h => match ds with
  | [.int i] => if sml i = true then .ok (.str (toString i)) h else .bad
  | [.tup ds] => ur (.tup ds) h
  | [.ref n] => ur (.ref n) h
  | [.frl ds] => ur (.frl ds) h
  | _ => .bad
section
variable {X : Cx} {K : PySem.W.Frag} {g : GG} {ε : EE}
noncomputable abbrev tR (K : PySem.W.Frag) : List V -> Hp -> VK -> Prop := fun vs H Q => (∃ p d, vs = [.ref p] /\ RdD K H (.ref p) d /\ d.showable = true /\ d.hasDict = false /\ d.depth <= 60 /\ d.shown.length <= sizeLine /\ Q (.str d.shown) H) \/ ∃ i, vs = [.int i] /\ i.natAbs.log2 < 1920 /\ Q (.str (toString i)) H
theorem iU (hg : X.A.guards = some []) (hu : X.A.units + 64 < cLine) : bK X (.builtin "repr") (tR X.K) := bK.or (wc hg hu) tQ
theorem iS : oy K g ε dP (tR K) := by
  intro α H h a x Q r ra w
  unfold dP at w
  cases ra with
  | nil => exact w.elim
  | cons rd rr =>
    cases rr with
    | cons _ _ => cases rd <;> exact w.elim
    | nil =>
      have gen : ∀ {d : D} {v : V}, aG K g α H d v -> (∃ p, v = .ref p) -> WQ K g ε α H (ur d h) (aK K g α H Q) -> tR K [v] H Q := by
        intro d v rd ⟨p, hp⟩ w
        subst hp
        unfold ur at w
        cases e : toPy 12 h d with
        | none => simp only [e] at w; exact w.elim
        | some pd =>
          simp only [e] at w
          obtain ⟨hb, w⟩ := WQ.eD w
          obtain ⟨q1, q2⟩ := l_ r 12 d _ pd rd e
          have := PyData.shown_le_bulk 1921 (by decide) pd q2.lv
          exact .inl ⟨p, pd, rfl, q1, q2.sh, q2.nd, Nat.le_trans q2.dp (by decide), by rw [sizeLine_eq]; omega, aK.now w r (.str _)⟩
      cases rd with
      | int i =>
        obtain ⟨hs, w⟩ := WQ.eD w
        exact .inr ⟨i, rfl, Nat.lt_trans (pQ hs) (by decide), aK.now w r (.str _)⟩
      | tup hp rs => exact gen (.tup hp rs) ⟨_, rfl⟩ w
      | ref hp => exact gen (.ref hp) ⟨_, rfl⟩ w
      | frl hp rs => exact gen (.frl hp rs) ⟨_, rfl⟩ w
      | _ => exact w.elim
noncomputable def bT : List D -> Hh -> R D := fun ds h => match ds with
  | [.tup ds] => .ok (.int ds.length) h
  | [.frl ds] => .ok (.int ds.length) h
  | [.scr ds] => .ok (.int ds.length) h
  | [.str x] => if x.length <= 1000000 then .ok (.int x.length) h else .bad
  | [.ref n] => match h[n]? with
    | some (.lst ds) => .ok (.int ds.length) h
    | some (.set k) => .ok (.int k.length) h
    | _ => .bad
  | _ => .bad
noncomputable abbrev BQ (K : PySem.W.Frag) : List V -> Hp -> VK -> Prop := fun xs H Q => (∃ p ys, xs = [.ref p] /\ (SqL K H p ys \/ SqT K H p ys) /\ Q (.int ys.length) H) \/ (∃ p S n, xs = [.ref p] /\ H p = some (.set S n) /\ Q (.int n) H) \/ ∃ z, xs = [.str z] /\ z.length <= sizeLine /\ Q (.int z.length) H
theorem bS : bK X (.builtin "len") (BQ X.K) := bK.or qE (bK.or n8 pW)
theorem nL {α : List Addr} {H : Hp} {h : Hh} {ds : List D} {vs : List V} {f : List D -> Hh -> R D} {Q : VK} (hf : ∀ d e r h, f (d :: e :: r) h = .bad) (hf0 : ∀ h, f [] h = .bad) (rs : aw K g α H ds vs) (w : WQ K g ε α H (f ds h) (aK K g α H Q)) : ∃ d v, ds = [d] /\ vs = [v] /\ aG K g α H d v := by
  cases rs with
  | nil => rw [hf0] at w; exact w.elim
  | cons r t =>
    cases t with
    | nil => exact ⟨_, _, rfl, rfl, r⟩
    | cons _ _ => rw [hf] at w; exact w.elim
theorem bM : oy K g ε bT (BQ K) := by
  intro α H h a x Q r ra w
  obtain ⟨d, v, rfl, rfl, rd⟩ := nL (f := bT) (fun d _ _ _ => by cases d <;> rfl) (fun _ => rfl) ra w
  unfold bT at w
  cases rd with
  | tup hp rs => exact .inl ⟨_, _, rfl, .inr (SqT.of hp), aK.now w r (by rw [<- rs.length]; exact .int _)⟩
  | frl hp rs => exact .inl ⟨_, _, rfl, .inl hp.sq, aK.now w r (by rw [<- rs.length]; exact .int _)⟩
  | scr hp rs => exact .inl ⟨_, _, rfl, .inl hp.sq, aK.now w r (by rw [<- rs.length]; exact .int _)⟩
  | str z =>
    obtain ⟨hl, w⟩ := WQ.eD w
    exact .inr (.inr ⟨z, rfl, fG hl, aK.now w r (.int _)⟩)
  | @ref n p hp =>
    simp only at w
    cases e : h[n]? with
    | none => rw [e] at w; exact w.elim
    | some o =>
      rw [e] at w
      have q := r.here n p o hp e
      cases o with
      | lst ds => obtain ⟨vs, hv, rs⟩ := q; exact .inl ⟨p, vs, rfl, .inl (SqL.of hv), aK.now w r (by rw [<- rs.length]; exact .int _)⟩
      | set k => exact .inr (.inl ⟨p, _, _, rfl, q, aK.now w r (.int _)⟩)
      | dic k => exact w.elim
      | dit k => exact w.elim
  | _ => exact w.elim
noncomputable def gb : List D -> Hh -> R D := fun ds h => match ds with
  | [.tup ds] => .ok (.tup ds) h
  | [.frl ds] => .ok (.tup ds) h
  | [.ref n] => match aA h n with
    | some ds => .ok (.tup ds) h
    | none => .bad
  | _ => .bad
theorem j_ : oy K g ε gb (fun xs H Q => ∃ p ys, xs = [.ref p] /\ ((SqL K H p ys /\ ∀ l, H l = none -> Q (.ref l) (upd H l (.tup ys))) \/ (SqT K H p ys /\ Q (.ref p) H))) := by
  intro α H h a x Q r ra w
  obtain ⟨d, v, rfl, rfl, rd⟩ := nL (f := gb) (fun d _ _ _ => by cases d <;> rfl) (fun _ => rfl) ra w
  unfold gb at w
  cases rd with
  | tup hp rs => exact ⟨_, _, rfl, .inr ⟨SqT.of hp, aK.now w r (.tup hp rs)⟩⟩
  | frl hp rs => exact ⟨_, _, rfl, .inl ⟨hp.sq, fun l hl => aK.tup w r rs hl⟩⟩
  | @ref n p hp =>
    simp only at w
    cases e : aA h n with
    | none => rw [e] at w; exact w.elim
    | some ds =>
      rw [e] at w
      obtain ⟨vs, hv, rs⟩ := r.lst e hp
      exact ⟨p, vs, rfl, .inl ⟨SqL.of hv, fun l hl => aK.tup w r rs hl⟩⟩
  | _ => exact w.elim
noncomputable def intsOf : List D -> Option (List Int)
  | [] => some []
  | .int i :: ds => (intsOf ds).map (i :: ·)
  | _ :: _ => none
theorem fI : ∀ {ds : List D} {ns : List Int}, intsOf ds = some ns -> ds = ns.map D.int
  | [], ns, e => by cases e; rfl
  | .int i :: ds, ns, e => by
    unfold intsOf at e
    cases e1 : intsOf ds with
    | none => rw [e1] at e; cases e
    | some ms => rw [e1] at e; cases e; rw [fI e1]; rfl
  | .non :: _, _, e => by cases e
  | .bl _ :: _, _, e => by cases e
  | .str _ :: _, _, e => by cases e
  | .tup _ :: _, _, e => by cases e
  | .frl _ :: _, _, e => by cases e
  | .ref _ :: _, _, e => by cases e
  | .fn _ :: _, _, e => by cases e
  | .edic :: _, _, e => by cases e
  | .exc _ _ :: _, _, e => by cases e
  | .clo _ _ :: _, _, e => by cases e
  | .scr _ :: _, _, e => by cases e
theorem gC : ∀ (ns : List Int), intsOf (ns.map D.int) = some ns
  | [] => rfl
  | n :: r => by rw [List.map_cons, intsOf, gC r]; rfl
noncomputable def xl : List D -> Hh -> R D := fun ds h => match ds with
  | [.tup ds] => match intsOf ds with
    | some ns => if ns.length <= 4000 then .ok (.ref h.length) (h ++ [.set (unl ns)]) else .bad
    | none => .bad
  | _ => .bad
theorem Ct : oy K g ε xl (fun vs H Q => ∃ p ns, vs = [.ref p] /\ SqT K H p (ns.map V.int) /\ ns.length + 1 < scanBound /\ ∀ l, H l = none -> Q (.ref l) (upd H l (.set (fun k => (unl ns).any (· == k)) (unl ns).length))) := by
  intro α H h a x Q r ra w
  obtain ⟨d, v, rfl, rfl, rd⟩ := nL (f := xl) (fun d _ _ _ => by cases d <;> rfl) (fun _ => rfl) ra w
  unfold xl at w
  cases rd with
  | tup hp rs =>
    simp only at w
    cases e : intsOf _ with
    | none => rw [e] at w; exact w.elim
    | some ns =>
      rw [e] at w
      obtain ⟨hl, w⟩ := WQ.eD w
      have e2 := fI e
      subst e2
      have e3 := rs.vd
      subst e3
      refine ⟨_, ns, rfl, SqT.of hp, by show ns.length + 1 < 4096; omega, fun l hn => ?_⟩
      refine (show aK K g α H Q _ _ from w) _ _ (α ++ [l]) (Ext.push hn) (r.push hn a_) (.ref ?_)
      rw [<- r.len, List.getElem?_append_right (Nat.le_refl _)]; simp
  | _ => exact w.elim
noncomputable def yX : List D -> Hh -> R D := fun ds h => match ds with
  | [.int i, .int j] => .ok (.int (if j > i then j else i)) h
  | _ => .bad
theorem xU {α : List Addr} {H : Hp} {h : Hh} {ds : List D} {vs : List V} {t : Int -> Int -> Int} {Q : VK} (r : aP K g α H h) (rs : aw K g α H ds vs) (w : WQ K g ε α H (match ds with | [.int i, .int j] => .ok (.int (t i j)) h | _ => .bad) (aK K g α H Q)) : ∃ i j, vs = [.int i, .int j] /\ Q (.int (t i j)) H := by
  split at w
  · cases rs with
    | cons r1 t1 =>
      cases r1
      cases t1 with
      | cons r2 t2 =>
        cases r2
        cases t2
        exact ⟨_, _, rfl, aK.now w r (.int _)⟩
  · exact w.elim
theorem Bn : oy K g ε yX (fun xs H Q => ∃ i j, xs = [.int i, .int j] /\ Q (.int (if j > i then j else i)) H) := fun α H h a x Q r ra w => xU (t := fun i j => if j > i then j else i) r ra w
noncomputable def xO : List D -> Hh -> R D := fun ds h => match ds with
  | [.int i] => .ok (.int i) h
  | [.bl b] => .ok (.int (if b then 1 else 0)) h
  | _ => .bad
theorem DF : oy K g ε xO (fun xs H Q => (∃ i, xs = [.int i] /\ Q (.int i) H) \/ ∃ k, xs = [.bl k] /\ Q (.int (if k then 1 else 0)) H) := by
  intro α H h a x Q r ra w
  obtain ⟨d, v, rfl, rfl, rd⟩ := nL (f := xO) (fun d _ _ _ => by cases d <;> rfl) (fun _ => rfl) ra w
  unfold xO at w
  cases rd with
  | int i => exact .inl ⟨i, rfl, aK.now w r (.int _)⟩
  | bl b => exact .inr ⟨b, rfl, aK.now w r (.int _)⟩
  | _ => exact w.elim
noncomputable def tyD (d : D) (h : Hh) : Option String := match d with
  | .non => some "NoneType"
  | .bl _ => some "bool"
  | .int _ => some "int"
  | .str _ => some "str"
  | .tup _ => some "tuple"
  | .frl _ => some "list"
  | .edic => some "dict"
  | .ref n => match h[n]? with
    | some (.lst _) => some "list"
    | some (.dic _) => some "dict"
    | some (.dit _) => some "dict"
    | _ => none
  | _ => none
noncomputable def uM (t n : String) : Option Bool :=
  if n = "int" then (if t = "int" then some true else if t = "bool" then some true else if t = "NoneType" \/ t = "str" \/ t = "tuple" \/ t = "list" \/ t = "dict" then some false else none)
  else if n = "bool" \/ n = "tuple" \/ n = "list" \/ n = "str" then (if t = n then some true else if t = "int" \/ t = "bool" \/ t = "NoneType" \/ t = "str" \/ t = "tuple" \/ t = "list" \/ t = "dict" then some false else none)
  else none
noncomputable def tH (n : String) : D -> Hh -> R D := fun d h => match tyD d h with
  | some t => match uM t n with
    | some b => .ok (.bl b) h
    | none => .bad
  | none => .bad
theorem E9 {α : List Addr} {H : Hp} {h : Hh} {d : D} {v : V} {t : String} (r : aP K g α H h) (rd : aG K g α H d v) (e : tyD d h = some t) : ji K H v (.type t) := by
  unfold tyD at e
  cases rd with
  | non => cases e; exact .non
  | bl b => cases e; exact .bl b
  | int i => cases e; exact .int i
  | str i => cases e; exact .str i
  | tup hp rs => cases e; exact .tup hp
  | frl hp rs => cases e; obtain ⟨o, hp⟩ := hp; exact .frz hp
  | edic hp => cases e; exact .fc hp
  | @ref n p hp =>
    simp only at e
    cases eo : h[n]? with
    | none => rw [eo] at e; cases e
    | some o =>
      rw [eo] at e
      have q := r.here n p o hp eo
      cases o with
      | lst ds => cases e; obtain ⟨vs, hv, _⟩ := q; exact .lst hv
      | set k => cases e
      | dic k => cases e; obtain ⟨vs, hv, _⟩ := q; exact .dK hv
      | dit k => cases e; obtain ⟨vs, hv, _⟩ := q; exact .dT hv
  | _ => cases e
theorem Bi (K : PySem.W.Frag) : PySem.W.kitOne K (.type "int") (.type "int") = some true /\ PySem.W.kitOne K (.type "bool") (.type "int") = some true /\ PySem.W.kitOne K (.type "NoneType") (.type "int") = some false /\ PySem.W.kitOne K (.type "str") (.type "int") = some false
    /\ PySem.W.kitOne K (.type "tuple") (.type "int") = some false /\ PySem.W.kitOne K (.type "list") (.type "int") = some false /\ PySem.W.kitOne K (.type "dict") (.type "int") = some false := ⟨rfl, rfl, rfl, rfl, rfl, rfl, rfl⟩
theorem yO (K : PySem.W.Frag) : PySem.W.kitOne K (.type "int") (.type "bool") = some false /\ PySem.W.kitOne K (.type "bool") (.type "bool") = some true /\ PySem.W.kitOne K (.type "NoneType") (.type "bool") = some false /\ PySem.W.kitOne K (.type "str") (.type "bool") = some false
    /\ PySem.W.kitOne K (.type "tuple") (.type "bool") = some false /\ PySem.W.kitOne K (.type "list") (.type "bool") = some false /\ PySem.W.kitOne K (.type "dict") (.type "bool") = some false := ⟨rfl, rfl, rfl, rfl, rfl, rfl, rfl⟩
theorem kit_tuple (K : PySem.W.Frag) : PySem.W.kitOne K (.type "int") (.type "tuple") = some false /\ PySem.W.kitOne K (.type "bool") (.type "tuple") = some false /\ PySem.W.kitOne K (.type "NoneType") (.type "tuple") = some false /\ PySem.W.kitOne K (.type "str") (.type "tuple") = some false
    /\ PySem.W.kitOne K (.type "tuple") (.type "tuple") = some true /\ PySem.W.kitOne K (.type "list") (.type "tuple") = some false /\ PySem.W.kitOne K (.type "dict") (.type "tuple") = some false := ⟨rfl, rfl, rfl, rfl, rfl, rfl, rfl⟩
theorem xY (K : PySem.W.Frag) : PySem.W.kitOne K (.type "int") (.type "list") = some false /\ PySem.W.kitOne K (.type "bool") (.type "list") = some false /\ PySem.W.kitOne K (.type "NoneType") (.type "list") = some false /\ PySem.W.kitOne K (.type "str") (.type "list") = some false
    /\ PySem.W.kitOne K (.type "tuple") (.type "list") = some false /\ PySem.W.kitOne K (.type "list") (.type "list") = some true /\ PySem.W.kitOne K (.type "dict") (.type "list") = some false := ⟨rfl, rfl, rfl, rfl, rfl, rfl, rfl⟩
theorem AR (K : PySem.W.Frag) : PySem.W.kitOne K (.type "int") (.type "str") = some false /\ PySem.W.kitOne K (.type "bool") (.type "str") = some false /\ PySem.W.kitOne K (.type "NoneType") (.type "str") = some false /\ PySem.W.kitOne K (.type "str") (.type "str") = some true
    /\ PySem.W.kitOne K (.type "tuple") (.type "str") = some false /\ PySem.W.kitOne K (.type "list") (.type "str") = some false /\ PySem.W.kitOne K (.type "dict") (.type "str") = some false := ⟨rfl, rfl, rfl, rfl, rfl, rfl, rfl⟩
theorem Dd {t n : String} {b : Bool} (e : uM t n = some b) : PySem.W.kitOne K (.type t) (.type n) = some b := by
  unfold uM at e
  obtain ⟨a1, a2, a3, a4, a5, a6, a7⟩ := Bi K
  obtain ⟨b1, b2, b3, b4, b5, b6, b7⟩ := yO K
  obtain ⟨c1, c2, c3, c4, c5, c6, c7⟩ := kit_tuple K
  obtain ⟨d1, d2, d3, d4, d5, d6, d7⟩ := xY K
  obtain ⟨e1, e2, e3, e4, e5, e6, e7⟩ := AR K
  split at e
  · rename_i hn; subst hn
    split at e
    · rename_i h; subst h; cases e; exact a1
    · split at e
      · rename_i h; subst h; cases e; exact a2
      · split at e
        · rename_i h; cases e; rcases h with rfl | rfl | rfl | rfl | rfl <;> assumption
        · cases e
  · split at e
    · rename_i hn
      split at e
      · rename_i h; subst h; cases e; rcases hn with rfl | rfl | rfl | rfl <;> assumption
      · rename_i hne
        split at e
        · rename_i h; cases e; rcases hn with rfl | rfl | rfl | rfl <;> rcases h with rfl | rfl | rfl | rfl | rfl | rfl | rfl <;> first | assumption | exact absurd rfl hne
        · cases e
    · cases e
theorem ux {e : Expr} {me : ME} {n : String} {x : Str} {p1 p2 pos : Pos} (he : PE X e (tM X.K g ε me)) (hg : Gl X "isinstance") (hm : X.mg "isinstance" = none) (hg2 : Gl X x) (hm2 : X.mg x = none) (hb : bootBuiltins x = some (.type n)) (hn : x ≠ "__name__" := by decide) (hd : (x == ("__debug__" : Str)) = false := by decide)
    (hs1 : starEach [e, .Name x p2] X.env = (false, eval e X.env) :: starEach [.Name x p2] X.env := by rfl) (hs2 : starEach [.Name x p2] X.env = [(false, eval (.Name x p2) X.env)] := by rfl) (hpl : (backTo pos (starEach [.Name x p2] X.env)).any (·.1) = false := by rfl) :
    PE X (.Call (.Name "isinstance" p1) [e, .Name x p2] [] pos) (tM X.K g ε (cUn (tH n) me)) :=
  PE.imp (sZ sX hg hm PyProof.Rows.boot_isinstance (iT he (iT (Ac (v := .ty n) hg2 hm2 hb rfl hn hd) nc hs2) hs1) (by decide) (by decide) hs1 hpl) fun σ H Q ⟨α, env, h, s, w⟩ => tM.use s w.bind fun d1 h1 v1 H1 α1 e1 s1 r1 w1 => by
    unfold tH at w1
    cases et : tyD d1 h1 with
    | none => simp only [et] at w1; exact w1.elim
    | some t =>
      simp only [et] at w1
      cases es : uM t n with
      | none => simp only [es] at w1; exact w1.elim
      | some b =>
        simp only [es] at w1
        exact ⟨v1, .type t, n, b, rfl, E9 s1.heap r1 et, Dd es, aK.now (aK.ext e1 w1) s1.heap (.bl b)⟩
end
section
variable {X : Cx} {K : PySem.W.Frag} {g : GG} {ε : EE}
noncomputable def km : D -> Hh -> R Bool := fun d h => match d with
  | .non => .ok false h
  | .bl b => .ok b h
  | .int i => .ok (i != 0) h
  | .tup ds => .ok (!ds.isEmpty) h
  | .frl ds => .ok (!ds.isEmpty) h
  | .ref n => match aA h n with
    | some ds => .ok (!ds.isEmpty) h
    | none => .bad
  | _ => .bad
theorem aw.isEmpty {α : List Addr} {H : Hp} {ds : List D} {vs : List V} (r : aw K g α H ds vs) : ds.isEmpty = vs.isEmpty := by cases r <;> rfl
theorem jw : D5 K g ε km (fun x H Q => ∃ k, Bu K x H k /\ Q k H) := by
  intro α H h a x Q r ra w
  unfold km at w
  have now : ∀ {b : Bool}, lC K g α H Q b h -> Q b H := fun p => p H α Ext.refl r
  cases ra with
  | non => exact ⟨false, rfl, now w⟩
  | bl b => exact ⟨b, rfl, now w⟩
  | int i => exact ⟨_, rfl, now w⟩
  | tup hp rs => exact ⟨_, .inr (.inl ⟨_, SqT.of hp, rfl⟩), now (by rw [<- rs.isEmpty]; exact w)⟩
  | frl hp rs => exact ⟨_, .inl ⟨_, hp.sq, rfl⟩, now (by rw [<- rs.isEmpty]; exact w)⟩
  | @ref n p hp =>
    simp only at w
    cases e : aA h n with
    | none => rw [e] at w; exact w.elim
    | some ds =>
      rw [e] at w
      obtain ⟨vs, hv, rs⟩ := r.lst e hp
      exact ⟨_, .inl ⟨vs, SqL.of hv, rfl⟩, now (by rw [<- rs.isEmpty]; exact w)⟩
  | _ => exact w.elim
theorem xx {α : List Addr} {H : Hp} {d : D} {v : V} (r : aG K g α H d v) (f : eU d = true) : jg v = true := by
  cases r <;> first | rfl | cases f
theorem D9 {α : List Addr} {H : Hp} {d e : D} {v u : V} (r : aG K g α H d v) (q : aG K g α H e u) (f : eU d = true) (f' : eU e = true) : eqF d e = eqV v u := by
  cases r <;> first | (cases f; done) | (cases q <;> first | rfl | cases f')
theorem BK {α : List Addr} {H : Hp} : ∀ {ds : List D} {vs : List V}, aw K g α H ds vs -> ds.all eU = true -> vs.all jg = true
  | _, _, .nil, _ => rfl
  | _, _, .cons r t, f => by
    rw [List.all_cons, Bool.and_eq_true] at f ⊢
    exact ⟨xx r f.1, BK t f.2⟩
theorem BS {α : List Addr} {H : Hp} {e : D} {u : V} (q : aG K g α H e u) (f' : eU e = true) : ∀ {ds : List D} {vs : List V}, aw K g α H ds vs -> ds.all eU = true -> (ds.any fun d => eqF d e) = vs.any fun y => eqV y u
  | _, _, .nil, _ => rfl
  | _, _, .cons r t, f => by
    rw [List.all_cons, Bool.and_eq_true] at f
    rw [List.any_cons, List.any_cons, D9 r q f.1 f', BS q f' t f.2]
noncomputable def dIn (neg : Bool) : D -> D -> Hh -> R D := fun a b h => match iF b h with
  | some ds => if eU a = true /\ ds.all eU = true then .ok (.bl (if neg then !(ds.any fun d => eqF d a) else ds.any fun d => eqF d a)) h else .bad
  | none => .bad
theorem vo {neg : Bool} : dA K g ε (dIn neg) (rIn K neg) := by
  intro α H h a b x y Q r ra rb w
  unfold dIn at w
  cases e : iF b h with
  | none => rw [e] at w; exact w.elim
  | some ds =>
    rw [e] at w
    obtain ⟨p, vs, rfl, hq, rs⟩ := qf r rb e
    obtain ⟨⟨f1, f2⟩, w⟩ := WQ.eD w
    refine ⟨p, vs, rfl, hq, xx ra f1, BK rs f2, ?_⟩
    have e2 : (ds.any fun d => eqF d a) = inV x vs := BS ra f1 rs f2
    rw [<- e2]
    exact aK.now w r (.bl _)
noncomputable def wb : List D -> Option (List D)
  | [.int j] => if j.natAbs <= 1000000 then some (bE 0 j.toNat) else none
  | [.int i, .int j] => if (i.natAbs <= 1000000 /\ j.natAbs <= 1000000) /\ (j - i).toNat <= 1000000 then some (bE i (j - i).toNat) else none
  | _ => none
noncomputable def fZ (nl : NL) : List D -> Hh -> R D := fun ds h => match wb ds with
  | some xs => nl xs h
  | none => .bad
theorem zl (lo : Int) (n : Nat) {α : List Addr} {H : Hp} : aw K g α H (bE lo n) ((oK lo 1 n).map V.int) := by
  have e : bE lo n = (oK lo 1 n).map D.int := by
    unfold bE oK
    rw [List.map_map]
    apply List.map_congr_left
    intro i _
    simp
  rw [e]
  exact aw.ints _
theorem AB {α : List Addr} {H : Hp} {ds : List D} {vs : List V} {xs : List D} (r : aw K g α H ds vs) (e : wb ds = some xs) :
    (∃ j, vs = [.int j] /\ ly 0 j 1 j.toNat /\ xs = bE 0 j.toNat) \/ ∃ i j, vs = [.int i, .int j] /\ ly i j 1 (j - i).toNat /\ xs = bE i (j - i).toNat := by
  unfold wb at e
  split at e
  · rename_i j
    split at e
    · rename_i hj
      cases e
      cases r with
      | cons r1 t =>
        cases r1
        cases t
        refine .inl ⟨j, rfl, ?_, rfl⟩
        have := yo (a := 0) (b := j) (by omega) (by omega) (by omega) (by omega) (by omega)
        rw [Int.sub_zero] at this
        exact this
    · cases e
  · rename_i i j
    split at e
    · rename_i hj
      cases e
      cases r with
      | cons r1 t =>
        cases r1
        cases t with
        | cons r2 t =>
          cases r2
          cases t
          exact .inr ⟨i, j, rfl, yo (by omega) (by omega) (by omega) (by omega) (by omega), rfl⟩
    · cases e
  · cases e
theorem DK : bK X (.type "range") (fun vs H Q => (∃ j, vs = [.int j] /\ ∀ p, H p = none -> Q (.ref p) (upd H p (l4 p 0 j 1))) \/ ∃ i j, vs = [.int i, .int j] /\ ∀ p, H p = none -> Q (.ref p) (upd H p (l4 p i j 1))) := bK.or wN vU
section
variable {e : Expr} {es : List Expr} {mr : MA} {p1 p2 q1 q2 : Pos}
theorem r8 {nl : NL} [kM nl] (hc : X.calm = true) (hg : Gl X "list") (hm : X.mg "list" = none) (hg2 : Gl X "range") (hm2 : X.mg "range" = none) (ha : PA X (e :: es) (tMA X.K g ε mr))
    (he : starEach (e :: es) X.env = (false, eval e X.env) :: starEach es X.env := by rfl) (hpl : (backTo q2 (starEach es X.env)).any (·.1) = false := by rfl)
    (he1 : starEach [.Call (.Name "range" p2) (e :: es) [] q2] X.env = [(false, eval (.Call (.Name "range" p2) (e :: es) [] q2) X.env)] := by rfl) (hpl1 : (backTo q1 (starEach [] X.env)).any (·.1) = false := by rfl) :
    PE X (.Call (.Name "list" p1) [.Call (.Name "range" p2) (e :: es) [] q2] [] q1) (tM X.K g ε (ah (fZ nl) mr)) :=
  PE.imp (PE.frz (gv (nX hc) hg hm PyProof.Rows.boot_list (iT (gv DK hg2 hm2 PyProof.Rows.boot_range ha (by decide) (by decide) he hpl) nc he1) (by decide) (by decide) he1 hpl1)) fun σ H Q ⟨α, env, h, s, w⟩ => tMA.use s w.bind fun d1 h1 v1 H1 α1 e1 s1 r1 w1 => by
    unfold fZ at w1
    cases er : wb d1 with
    | none => rw [er] at w1; exact w1.elim
    | some xs =>
      rw [er] at w1
      rcases AB r1 er with ⟨j, rfl, ok, rfl⟩ | ⟨i, j, rfl, ok, rfl⟩
      · refine .inl ⟨j, rfl, fun p hp => ⟨p, 0, j, 1, j.toNat, rfl, a_, ok, fun l hl => ?_⟩⟩
        have x := Ext.fresh (K := X.K) (α := α1) (o := l4 p 0 j 1) hp
        exact NL.post ((w1.post e1).post x) (s1.heap.grow hp) (zl 0 j.toNat) hl
      · refine .inr ⟨i, j, rfl, fun p hp => ⟨p, i, j, 1, (j - i).toNat, rfl, a_, ok, fun l hl => ?_⟩⟩
        have x := Ext.fresh (K := X.K) (α := α1) (o := l4 p i j 1) hp
        exact NL.post ((w1.post e1).post x) (s1.heap.grow hp) (zl i (j - i).toNat) hl
end
noncomputable def isL (d : D) (h : Hh) : Bool := match d with
  | .ref n => (aA h n).isSome
  | .frl _ => true
  | _ => false
noncomputable def iK (f : D -> List D -> Hh -> R D) (o : ME) (a : MA) : ME := fun env h => (o env h).bind fun x h1 => if isL x h1 = true then (a env h1).bind fun xs h2 => f x xs h2 else .bad
theorem Bv {α : List Addr} {H : Hp} {h : Hh} {d : D} {x : V} (r : aP K g α H h) (rd : aG K g α H d x) (e : isL d h = true) : tyV K "list" x H := by
  unfold isL at e
  cases rd with
  | @ref n p hp =>
    simp only at e
    obtain ⟨ds, e⟩ := Option.isSome_iff_exists.mp e
    obtain ⟨vs, hv, _⟩ := r.lst e hp
    exact .inl ⟨rfl, vs, SqL.of hv⟩
  | frl hq rs => exact .inl ⟨rfl, _, hq.sq⟩
  | _ => cases e
theorem uC {o e : Expr} {es : List Expr} {mo : ME} {mr : MA} {name : Str} {apos cpos : Pos} {id : String} {r : V -> List V -> Hp -> VK -> Prop} {f : D -> List D -> Hh -> R D} (slot : Slot "list" name id) (hty : typeOf (.builtin id) = pure (.type "method_descriptor")) (hm : MtM X id r) (im : Ax X.K g ε f r) (ho : PE X o (tM X.K g ε mo)) (ha : PA X (e :: es) (tMA X.K g ε mr))
    (hbase : attributeBase o name X.env (eval o X.env) = eval o X.env := by rfl)
    (hfew : ((backTo cpos (starEach (e :: es) X.env)).all (fun x => !x.1) && (backToKw cpos (keywordEach [] X.env)).all (fun x => x.1.isSome)
      && decide ((e :: es).length + ([] : List Keyword).length + (if ([] : List Keyword).isEmpty then 0 else 1) < 30)) = true := by rfl)
    (hline : (apos.endLine == cpos.line) = true := by rfl) (hs : starEach (e :: es) X.env = (false, eval e X.env) :: starEach es X.env := by rfl) (hplain : (backTo cpos (starEach es X.env)).any (·.1) = false := by rfl) :
    PE X (.Call (.Attribute o name apos) (e :: es) [] cpos) (tM X.K g ε (iK f mo mr)) :=
  PE.imp (Ep PySem.F.plainAttrs_list slot hty hm ho ha hbase hfew hline hs hplain) fun σ H Q ⟨α, env, h, s, w⟩ => tM.use s w.bind fun d1 h1 v1 H1 α1 e1 s1 r1 w1 => by
    obtain ⟨hl, w1⟩ := WQ.eD w1
    refine ⟨Bv s1.heap r1 hl, tMA.use s1 (w1.ext e1).bind fun d2 h2 v2 H2 α2 e2 s2 r2 w2 => ?_⟩
    exact im α2 H2 h2 d1 d2 v1 v2 Q s2.heap (r1.ext e2) r2 ((w2.ext e2).mono fun _ _ _ p => aK.ext (e1.trans e2) p)
noncomputable def gP : D -> List D -> Hh -> R D := fun o ds h => match o, ds with
  | .ref n, [d] => match aA h n with
    | some xs => if xs.length < 1000000 then .ok .non (h.set n (.lst (xs ++ [d]))) else .bad
    | none => .bad
  | _, _ => .bad
theorem vP : Ax K g ε gP vf := by
  intro α H h o a y x Q r ro ra w
  unfold gP at w
  cases ro with
  | @ref n p hp =>
    cases ra with
    | nil => exact w.elim
    | @cons d v _ _ rd rr =>
      cases rr with
      | cons _ _ => exact w.elim
      | nil =>
        simp only at w
        cases e : aA h n with
        | none => rw [e] at w; exact w.elim
        | some xs =>
          rw [e] at w
          obtain ⟨hl, w⟩ := WQ.eD w
          obtain ⟨vs, hv, rs⟩ := r.lst e hp
          refine ⟨p, vs, _, rfl, rfl, hv, by rw [<- rs.length, sizeLine_eq]; omega, ?_⟩
          have x := Ext.write (o := .lst (vs ++ [v])) r hp
          exact (show aK K g α H Q _ _ from w) _ _ α x (r.write hp ⟨_, a_, (rs.append (.cons rd .nil)).ext x⟩) .non
  | _ => exact w.elim
noncomputable def rJ : V -> List V -> Hp -> VK -> Prop := fun x vs H Q => ∃ l b xs zs, x = .ref l /\ vs = [.ref b] /\ H l = some (.lst xs) /\ Rd H b (.lst zs) /\ xs.length + zs.length <= sizeLine /\ Q .non (upd H l (.lst (xs ++ zs)))
theorem uv : MtM X "list.extend" rJ := by
  intro pins s σ H x vs v us Q I rx rv h
  obtain ⟨l, b, xs, zs, rfl, rfl, hH, hB, hz, q⟩ := h
  cases rx
  obtain ⟨u, rfl, ru⟩ := rv.one
  cases ru
  obtain ⟨z, its, n, r, hl, e⟩ := I.Cw hH
  obtain ⟨its2, n2, z2, r2, hl2, e2⟩ := AH I hB
  have hsz : its.toArray.size + its2.toArray.size <= sizeLine := by rw [List.size_toArray, List.size_toArray]; omega
  have hlong : ¬ (!its.toArray.isEmpty && Builtin.List.listTooLong (its.toArray.size + its2.toArray.size)) = true := by
    rw [rB hsz, Bool.and_false]
    exact Bool.false_ne_true
  refine call_meets F.slot_list_extend ⟨_, e, rfl⟩ F.entry_list_extend (F.args_list_extend_2 _ _)
    (AutoSeq1.list_extend_list_list_0 l its.toArray n b its2.toArray n2 hlong (by rw [List.size_toArray]; omega) (by omega)) ⟨e, e2, ?_⟩
  refine ⟨.non, _, I.Dx (its' := its ++ its2) hH e (by simp) (r.append r2) ?_, rfl, q⟩
  rw [List.length_append]
  omega
noncomputable def fH : D -> List D -> Hh -> R D := fun o ds h => match o, ds with
  | .ref n, [d] => match aA h n, kg d h with
    | some xs, some ys => if xs.length + ys.length <= 1000000 then .ok .non (h.set n (.lst (xs ++ ys))) else .bad
    | _, _ => .bad
  | _, _ => .bad
theorem wo : Ax K g ε fH rJ := by
  intro α H h o a y x Q r ro ra w
  unfold fH at w
  cases ro with
  | @ref n p hp =>
    cases ra with
    | nil => exact w.elim
    | cons rd rr =>
      cases rr with
      | cons _ _ => exact w.elim
      | nil =>
        simp only at w
        cases e : aA h n with
        | none => rw [e] at w; exact w.elim
        | some xs =>
          rw [e] at w
          cases e2 : kg _ h with
          | none => rw [e2] at w; exact w.elim
          | some ys =>
            rw [e2] at w
            obtain ⟨hl, w⟩ := WQ.eD w
            obtain ⟨vs, hv, rs⟩ := r.lst e hp
            obtain ⟨q, us, rfl, hu, rt⟩ := qL r rd e2
            refine ⟨p, q, vs, us, rfl, rfl, hv, hu, fG (by rw [<- rs.length, <- rt.length]; exact hl), ?_⟩
            have x := Ext.write (o := .lst (vs ++ us)) r hp
            exact (show aK K g α H Q _ _ from w) _ _ α x (r.write hp ⟨_, a_, (rs.append rt).ext x⟩) .non
  | _ => exact w.elim
theorem lz (ns : List Int) : ∀ k, k <= ns.length -> preSum (fun i => ns.getD i 0) k = (ns.take k).sum
  | 0, _ => by simp [preSum]
  | k + 1, h => by
    rw [preSum, lz ns k (by omega), List.take_succ, List.sum_append]
    rw [List.getD_eq_getElem?_getD, List.getElem?_eq_getElem (by omega)]
    simp
theorem e9 (hc : X.calm = true) : bK X (.builtin "sum") (fun vs H Q => ∃ (p : Addr) (ns : List Int), vs = [.ref p] /\ (SqL X.K H p (ns.map V.int) \/ SqT X.K H p (ns.map V.int)) /\ Q (.int ns.sum) H) := by
  intro pins s σ H xs us Q I r h
  obtain ⟨p, ns, rfl, hq, q⟩ := h
  obtain ⟨u, rfl, rx⟩ := vals1 r
  cases rx
  have hh : X.A.in1.handled = none := I.ok.hd hc
  have fin : ∀ {its : List Value} {o : Obj}, Vals (ns.map V.int) its -> ∀ s', Moved [s.heap.objs.size] (fun a b => b = a) { s with heap := s.heap.push o } s' -> ∀ t', EP X pins σ Q (.int (preSum (fun i => ns.getD i 0) its.toArray.size) t') s' := fun {its o} rv s' mv t' => by
    have hl : its.toArray.size = ns.length := by rw [List.size_toArray, <- rv.length, List.length_map]
    have keep : ∀ b u, s.heap.get? b = some u -> s'.heap.get? b = some u := fun b u e => mv.heap b u (by simp; exact Nat.ne_of_lt (Heap.lt_size e)) (Heap.get?_push_of_some _ e)
    have I' : Inv X pins σ H s' := by
      obtain ⟨hp, gs, dr, tk, os⟩ := s'
      have e1 : gs = s.gens := mv.gens
      have e2 : dr = s.drawn := mv.drawn
      have e3 : os = s.os := mv.os
      subst e1 e2 e3
      exact I.kept (h' := hp) (t' := tk) keep
    refine ⟨.int ns.sum, H, I', ⟨t', ?_⟩, q⟩
    rw [hl, lz ns _ (Nat.le_refl _), List.take_length]
  have val : ∀ {its : List Value}, Vals (ns.map V.int) its -> ∀ i v, its.toArray[i]? = some v -> ∃ t : Tok, v = Value.int (ns.getD i 0) t := fun {its} rv i v e => by
    obtain ⟨x, hx, rxv⟩ := rv.get' (show its[i]? = some v by simpa using e)
    rw [List.getElem?_map] at hx
    cases en : ns[i]? with
    | none => rw [en] at hx; cases hx
    | some z =>
      rw [en] at hx
      cases hx
      obtain ⟨t, e⟩ := rxv
      exact ⟨t, by rw [List.getD_eq_getElem?_getD, en]; exact e⟩
  rcases hq with hq | hq
  · obtain ⟨its, rv, pl, hz⟩ := I.list hq
    have plt : p < s.heap.objs.size := by obtain ⟨o, e, _⟩ := pl.isList; exact Heap.lt_size e
    have hne : p ≠ s.heap.objs.size := Nat.ne_of_lt plt
    refine call_sum_walkAnyS (wpAny_pyIter_list pl.isList ?_)
    refine ⟨s.heap.objs.size, _, _, _, its.toArray.size, _, _, fun i => ns.getD i 0, rfl, (Walks.list (prog := X.prog) (w := X.w) hh s.heap.objs.size p hne its.toArray).toS, ⟨⟨_, Heap.get?_push_size _ rfl, rfl, rfl⟩, ?_⟩, fun b hb => ?_, val rv, fun s' t' mv => fin rv s' mv t'⟩
    · exact pl.isList.at fun o e => Heap.get?_push_of_some _ e
    · simp at hb
      rcases hb with rfl | rfl
      · exact Heap.lt_size (Heap.get?_push_size _ rfl)
      · exact Nat.lt_trans plt (Heap.lt_size (Heap.get?_push_size _ rfl))
  · obtain ⟨its, rv, pl, hz⟩ := I.tuple hq
    have pt : s.heap.IsTuple p its.toArray := pl
    have hne : p ≠ s.heap.objs.size := Nat.ne_of_lt pl.lt
    refine call_sum_walkAnyS (wpAny_pyIter_tuple pt ?_)
    refine ⟨s.heap.objs.size, _, _, _, its.toArray.size, _, _, fun i => ns.getD i 0, rfl, (Walks.tuple (prog := X.prog) (w := X.w) hh s.heap.objs.size p hne its.toArray).toS, ⟨⟨_, Heap.get?_push_size _ rfl, rfl, rfl⟩, ?_⟩, fun b hb => ?_, val rv, fun s' t' mv => fin rv s' mv t'⟩
    · exact pt.at fun o e => Heap.get?_push_of_some _ e
    · simp at hb
      rcases hb with rfl | rfl
      · exact Heap.lt_size (Heap.get?_push_size _ rfl)
      · exact Nat.lt_trans pl.lt (Heap.lt_size (Heap.get?_push_size _ rfl))
noncomputable def iZ : List D -> Hh -> R D := fun ds h => match ds with
  | [d] => match iF d h with
    | some xs => match intsOf xs with
      | some ns => .ok (.int ns.sum) h
      | none => .bad
    | none => .bad
  | _ => .bad
theorem kP : oy K g ε iZ (fun vs H Q => ∃ (p : Addr) (ns : List Int), vs = [.ref p] /\ (SqL K H p (ns.map V.int) \/ SqT K H p (ns.map V.int)) /\ Q (.int ns.sum) H) := by
  intro α H h a x Q r ra w
  obtain ⟨d, v, rfl, rfl, rd⟩ := nL (f := iZ) (fun _ _ _ _ => rfl) (fun _ => rfl) ra w
  unfold iZ at w
  simp only at w
  cases e : iF d h with
  | none => rw [e] at w; exact w.elim
  | some ds =>
    rw [e] at w
    simp only at w
    cases e2 : intsOf ds with
    | none => rw [e2] at w; exact w.elim
    | some ns =>
      rw [e2] at w
      obtain ⟨p, vs, rfl, hq, rs⟩ := qf r rd e
      have e3 := fI e2
      subst e3
      have e4 := rs.vd
      subst e4
      exact ⟨p, ns, rfl, hq, aK.now w r (.int _)⟩
noncomputable def sy : D -> D -> Hh -> R D
  | .int i, .int j, h => .ok (.int (i + j)) h
  | _, _, _ => .bad
theorem Dt : dA K g ε sy (ipI fun i j => i + j) := by
  intro α H h a b x y Q r ra rb w
  unfold sy at w
  cases ra with
  | int i =>
    cases rb with
    | int j => exact ⟨i, j, rfl, rfl, aK.now w r (.int _)⟩
    | _ => exact w.elim
  | _ => exact w.elim
theorem Dh : dA K g ε bV (ipI fun i j => i - j) := by
  intro α H h a b x y Q r ra rb w
  unfold bV at w
  cases ra with
  | int i =>
    cases rb with
    | int j => exact ⟨i, j, rfl, rfl, aK.now w r (.int _)⟩
    | _ => exact w.elim
  | _ => exact w.elim
end
section
variable {P : Program} {w : World} {K : PySem.W.Frag} {mg : Str -> Option Value} {base : Heap} {g : GG}
noncomputable def aJ (K : PySem.W.Frag) (mg : Str -> Option Value) (x : Str) (st : Stmt) : Prop := ∃ f fd, mg x = some (.ref f) /\ Fun K x x st f fd
noncomputable def bO (K : PySem.W.Frag) (x : Str) (st : Stmt) : Prop := ∃ f fd, PySem.W.nsIn K mainGlobals x = some (some (.ref f)) /\ Fun K x x st f fd
theorem bg {x : Str} {st : Stmt} {f : Addr} {oc : Value} {od an : Option Addr} {osl : Array (Option Value)} {kV doc pm cdv ct : Value} (a : PySem.W.nsIn K mainGlobals x = some (some (.ref f)))
    (l : K.lookup f = some ⟨oc, od, .func (PySem.W.fnOf x x (gM st) (cZ st) (ao st) .none kV doc pm an cdv ct), osl⟩) (c : PySem.W.codeIn K cdv x = true) (k : PySem.W.keepIn K (.ref f) = true) : bO K x st := ⟨f, _, a, x_ l c k⟩
theorem aJ.of {h : Heap} {x : Str} {st : Stmt} (X : K.In h) (G : h.Ns mainGlobals mg) (d : bO K x st) : aJ K mg x st :=
  let ⟨f, fd, a, F⟩ := d; ⟨f, fd, PySem.W.mg_of X G a, F⟩
noncomputable def Has (P : Program) (w : World) (K : PySem.W.Frag) (mg : Str -> Option Value) (base : Heap) (g : GG) (x : Str) (k : Nat) (ps : List Str) (m : MF) : Prop :=
  ∃ f fd, df P w K mg base CX0 k f fd ps (spM K g ps.length m) /\ PySem.W.keepIn K (.ref f) = true /\ Binds K fd ps [] /\ mg x = some (.ref f) /\ ∃ (oc : Value) (od : Option Addr) (osl : Array (Option Value)), K.lookup f = some ⟨oc, od, .func fd, osl⟩
noncomputable def gOf (mg : Str -> Option Value) : GG := fun x => match mg x with
  | some (.ref f) => some f
  | _ => none
theorem aO {x : Str} {st : Stmt} {f : Addr} {fd : FuncData} (F : Fun K x x st f fd) : ∃ (oc : Value) (od : Option Addr) (osl : Array (Option Value)), K.lookup f = some ⟨oc, od, .func fd, osl⟩ := by
  obtain ⟨oc, od, kV, doc, pm, an, cdv, ct, osl, rfl, lk, hcd⟩ := F.ex
  exact ⟨oc, od, osl, lk⟩
theorem B9 {x : Str} {st : Stmt} {f : Addr} {fd : FuncData} {k : Nat} {ps : List Str} {m : MF} (F : Fun K x x st f fd) (hm : mg x = some (.ref f)) (h : Has P w K mg base g x k ps m) : df P w K mg base CX0 k f fd ps (spM K g ps.length m) := by
  obtain ⟨f2, fd2, G, _, _, hm2, oc, od, osl, l2⟩ := h
  obtain ⟨oc', od', osl', l1⟩ := aO F
  rw [hm] at hm2
  cases hm2
  rw [l1] at l2
  cases l2
  exact G
end
section
variable {X : Cx} {K : PySem.W.Frag} {g : GG} {ε : EE}
noncomputable def B2 (lo st : Int) (n : Nat) : List D := (oK lo st n).map D.int
noncomputable def Be : List D -> Option (List D)
  | [.int a, .int b, .int c] => if Builtin.Range.small a b c = true /\ 0 <= Builtin.Range.rangeSize a b c /\ (Builtin.Range.rangeSize a b c).natAbs <= 1000000 /\ c ≠ 0 /\ c.natAbs < 1073741824 then some (B2 a c (Builtin.Range.rangeSize a b c).toNat) else none
  | _ => none
noncomputable def uA : List D -> Hh -> R D := fun ds h => match Be ds with
  | some xs => .ok (.tup xs) h
  | none => .bad
theorem y_ {α : List Addr} {H : Hp} {ds : List D} {vs : List V} {xs : List D} (r : aw K g α H ds vs) (e : Be ds = some xs) :
    ∃ a b c n, vs = [.int a, .int b, .int c] /\ c ≠ 0 /\ c.natAbs < 1073741824 /\ ly a b c n /\ xs = B2 a c n := by
  unfold Be at e
  split at e
  · rename_i a b c
    split at e
    · rename_i hc
      cases e
      cases r with
      | cons r1 t =>
        cases t with
        | cons r2 t =>
          cases t with
          | cons r3 t =>
            cases t; cases r1; cases r2; cases r3
            exact ⟨a, b, c, _, rfl, hc.2.2.2.1, hc.2.2.2.2, ⟨hc.1, by omega, by omega⟩, rfl⟩
    · cases e
  · cases e
section
variable {e : Expr} {es : List Expr} {mr : MA} {p1 p2 q1 q2 : Pos}
theorem zC (hc : X.calm = true) (hg : Gl X "tuple") (hm : X.mg "tuple" = none) (hg2 : Gl X "range") (hm2 : X.mg "range" = none) (ha : PA X (e :: es) (tMA X.K g ε mr))
    (he : starEach (e :: es) X.env = (false, eval e X.env) :: starEach es X.env := by rfl) (hpl : (backTo q2 (starEach es X.env)).any (·.1) = false := by rfl)
    (he1 : starEach [.Call (.Name "range" p2) (e :: es) [] q2] X.env = [(false, eval (.Call (.Name "range" p2) (e :: es) [] q2) X.env)] := by rfl) (hpl1 : (backTo q1 (starEach [] X.env)).any (·.1) = false := by rfl) :
    PE X (.Call (.Name "tuple" p1) [.Call (.Name "range" p2) (e :: es) [] q2] [] q1) (tM X.K g ε (ah uA mr)) :=
  PE.imp (gv (m7 hc) hg hm PyProof.Rows.boot_tuple (iT (gv wL hg2 hm2 PyProof.Rows.boot_range ha (by decide) (by decide) he hpl) nc he1) (by decide) (by decide) he1 hpl1) fun σ H Q ⟨α, env, h, s, w⟩ => tMA.use s w.bind fun d1 h1 v1 H1 α1 e1 s1 r1 w1 => by
    unfold uA at w1
    cases er : Be d1 with
    | none => rw [er] at w1; exact w1.elim
    | some xs =>
      rw [er] at w1
      obtain ⟨a, b, c, n, rfl, c0, c1, ok, rfl⟩ := y_ r1 er
      refine ⟨a, b, c, rfl, c0, c1, fun p hp => ⟨p, a, b, c, n, rfl, a_, ok, fun l hl => ?_⟩⟩
      have x := Ext.fresh (K := X.K) (α := α1) (o := l4 p a b c) hp
      exact aK.tup (aK.ext (e1.trans x) w1) (s1.heap.grow hp) (aw.ints _) hl
end
end
mutual
noncomputable def eX (k : Nat) : D -> Bool
  | .ref n => decide (n < k)
  | .tup ds => bz k ds
  | .frl ds => bz k ds
  | .scr ds => bz k ds
  | .clo _ ds => bz k ds
  | _ => true
noncomputable def bz (k : Nat) : List D -> Bool
  | [] => true
  | d :: ds => eX k d && bz k ds
end
noncomputable def nY (k : Nat) : O -> Bool
  | .lst ds => bz k ds
  | .set _ => true
  | .dic kvs => bz k (kvs.map (·.2))
  | .dit kvs => bz k (kvs.map (·.2))
noncomputable def kD (f : D -> Option D) : List D -> Option (List D)
  | [] => some []
  | d :: ds => match f d, kD f ds with
    | some e, some es => some (e :: es)
    | _, _ => none
noncomputable def fc (k : Nat) (h : Hh) : Nat -> D -> Option D
  | 0, _ => none
  | f + 1, d => match d with
    | .ref n => if n < k then some (.ref n) else match aA h n with
      | some ds => (kD (fc k h f) ds).map .frl
      | none => none
    | .tup ds => (kD (fc k h f) ds).map .tup
    | .frl ds => (kD (fc k h f) ds).map .frl
    | .scr _ => none
    | .clo f ds => if bz 0 ds = true then some (.clo f ds) else none
    | d => some d
noncomputable def cR (h : Hh) : D -> Hh -> R D := fun d h' => if (h'.take h.length).all (nY h.length) = true then match fc h.length h' 8 d with
  | some e => .ok e (h'.take h.length)
  | none => .bad else .bad
open Classical in
noncomputable def jz (S : Addr -> Prop) (o : Addr -> Obj) (H : Hp) : Hp := fun p => if S p then (H p).map (.frz (o p)) else H p
theorem Dz {P : Program} {w : World} {H : Hp} {h : Heap} {p : Addr} {u : HO} (q : bC P w H h p u) (mu : Mut (some u)) : ∃ o, h.get? p = some o := by
  cases u with
  | lst xs => obtain ⟨_, _, _, _, e'⟩ := q; exact ⟨_, e'⟩
  | dK kvs => obtain ⟨_, _, _, _, o, _, _, e', _⟩ := q; exact ⟨_, e'⟩
  | dT kvs => obtain ⟨_, _, _, _, o, _, _, e', _⟩ := q; exact ⟨_, e'⟩
  | set S n => obtain ⟨o, _, _, _, e', _⟩ := q; exact ⟨_, e'⟩
  | ins C dx fs => obtain ⟨_, _, _, e', _⟩ := q; exact ⟨_, e'⟩
  | ext φ => obtain ⟨_, ⟨_, e'⟩, _⟩ := q; exact ⟨_, e'⟩
  | _ => exact absurd mu (fun z => z)
theorem Dm {outer : List Env} {P : Program} {w : World} {H : Hp} {s : Shared} {Q Q' : VK} {u : Value} {s' : Shared} (h : CE outer P w H s Q' u s')
    (hQ : ∀ v H', Q' v H' -> ∃ S : Addr -> Prop, (∀ p, S p -> ∃ u, H' p = some u /\ Mut (some u)) /\ ∀ o : Addr -> Obj, Q v (jz S o H')) : CE outer P w H s Q u s' := by
  obtain ⟨v, H', os, bare, un, hok, r, q⟩ := h
  obtain ⟨S, hS, q⟩ := hQ v H' q
  have hS1 : ∀ p, S p -> ∀ u, H' p = some u -> Mut (some u) := fun p z u e => by obtain ⟨u', e', m⟩ := hS p z; rw [e] at e'; cases e'; exact m
  have off : ∀ (o : Addr -> Obj) b u, H' b = some u -> ¬ Mut (some u) -> jz S o H' b = some u := fun o b u e m => by
    unfold jz
    rw [if_neg fun z => m (hS1 b z u e)]; exact e
  have offn : ∀ (o : Addr -> Obj) b, H' b = none -> jz S o H' b = none := fun o b e => by
    unfold jz
    split
    · rw [e]; rfl
    · exact e
  let o : Addr -> Obj := fun b => (s'.heap.get? b).getD { cls := .none, data := .fields #[] }
  refine ⟨v, jz S o H', os, bare, ⟨un.keep, un.slot, fun b ob e n hx => offn o b (un.free b ob e n hx), un.there, fun b xs e => off o b _ (un.lY b xs e) fun z => z, fun b ob xs e => off o b _ (un.ku b ob xs e) fun z => z, fun b ps e => ?_⟩, ?_, r, q o⟩
  · obtain ⟨more, e1⟩ := un.lG b ps e
    exact ⟨more, off o b _ e1 fun z => z⟩
  · intro b u e
    have st : ∀ u, bC P w H' s'.heap b u -> bC P w (jz S o H') s'.heap b u := fun u x => x.ki (fun _ _ _ z => z) (fun c z => off o c _ z fun z => z) fun c xs z => off o c _ z fun z => z
    unfold jz at e
    split at e
    · rename_i hb
      obtain ⟨u', e', m⟩ := hS b hb
      rw [e'] at e
      cases e
      have x := hok b u' e'
      obtain ⟨ob, eo⟩ := Dz x m
      refine ⟨?_, st _ x⟩
      show s'.heap.get? b = some ((s'.heap.get? b).getD _)
      rw [eo]; rfl
    · exact st u (hok b u e)
section
variable {K : PySem.W.Frag} {g : GG} {α α' : List Addr} {H H' H2 : Hp} {k : Nat}
structure tu (K : PySem.W.Frag) (α α' : List Addr) (H' H2 : Hp) (k : Nat) : Prop where
  pre : ∀ n, n < k -> α[n]? = α'[n]?
  tup : ∀ p xs, H' p = some (.tup xs) -> H2 p = some (.tup xs)
  frz : ∀ p (o : Obj) (u : HO), H' p = some (.frz o u) -> H2 p = some (.frz o u)
mutual
theorem mm (L : tu K α α' H' H2 k) : ∀ {d : D} {v : V}, eX k d = true -> aG K g α' H' d v -> aG K g α H2 d v
  | _, _, _, .non => .non
  | _, _, _, .bl b => .bl b
  | _, _, _, .int i => .int i
  | _, _, _, .str x => .str x
  | _, _, hl, .ref h => .ref (by rw [L.pre _ (by simpa [eX] using hl)]; exact h)
  | _, _, hl, .tup h r => .tup (L.tup _ _ h) (eB L (by simpa [eX] using hl) r)
  | _, _, hl, .frl h r => .frl (let ⟨o, h⟩ := h; ⟨o, L.frz _ _ _ h⟩) (eB L (by simpa [eX] using hl) r)
  | _, _, hl, .scr h r => .scr (h.elim (fun ⟨o, h⟩ => .inl ⟨o, L.frz _ _ _ h⟩) .inr) (eB L (by simpa [eX] using hl) r)
  | _, _, _, .fn h => .fn h
  | _, _, _, .edic h => .edic (L.frz _ _ _ h)
  | _, _, _, .exc hg h hc hd hf => .exc hg (L.frz _ _ _ h) hc hd (hf.elim .inl fun ⟨dx, od, a, b⟩ => .inr ⟨dx, od, a, L.frz _ _ _ b⟩)
  | _, _, hl, .clo h l hc hd hv cs r => .clo (L.frz _ _ _ h) l (L.frz _ _ _ hc) hd hv (L2.Paired.om cs fun _ _ ⟨c, o, u, l, a, b⟩ => ⟨c, o, u, l, L.frz _ _ _ a, b⟩) (eB L (by simpa [eX] using hl) r)
theorem eB (L : tu K α α' H' H2 k) : ∀ {ds : List D} {vs : List V}, bz k ds = true -> aw K g α' H' ds vs -> aw K g α H2 ds vs
  | _, _, _, .nil => .nil
  | _, _, hl, .cons r t => by
    simp only [bz, Bool.and_eq_true] at hl
    exact .cons (mm L hl.1 r) (eB L hl.2 t)
end
theorem j2 {f : D -> Option D} (hf : ∀ d e v, f d = some e -> aG K g α' H' d v -> aG K g α H2 e v) : ∀ {ds es : List D} {vs : List V}, kD f ds = some es -> aw K g α' H' ds vs -> aw K g α H2 es vs
  | [], es, _, e, .nil => by cases e; exact .nil
  | d :: ds, es, _, e, .cons r t => by
    unfold kD at e
    split at e
    · rename_i e1 es1 h1 h2
      cases e
      exact .cons (hf _ _ _ h1 r) (j2 hf h2 t)
    · cases e
theorem mq {h' hx : Hh} (L : tu K α α' H' H2 k) (r : aP K g α' H' h') (hx' : ∀ n ds, aA hx n = some ds -> aA h' n = some ds) (fz : ∀ n p ds vs, k <= n -> aA hx n = some ds -> α'[n]? = some p -> H' p = some (.lst vs) -> Fr1 H2 p vs) :
    ∀ (f : Nat) (d e : D) (v : V), fc k hx f d = some e -> aG K g α' H' d v -> aG K g α H2 e v
  | 0, _, _, _, e, _ => by cases e
  | f + 1, d, e, v, he, rd => by
    unfold fc at he
    cases rd with
    | non => cases he; exact .non
    | bl b => cases he; exact .bl b
    | int i => cases he; exact .int i
    | str x => cases he; exact .str x
    | fn h => cases he; exact .fn h
    | edic h => cases he; exact .edic (L.frz _ _ _ h)
    | exc hg h hc hd hf => cases he; exact .exc hg (L.frz _ _ _ h) hc hd (hf.elim .inl fun ⟨dx, od, a, b⟩ => .inr ⟨dx, od, a, L.frz _ _ _ b⟩)
    | scr _ _ => cases he
    | clo h l hc hd hv cs rs =>
      simp only at he
      split at he
      · rename_i lo
        cases he
        exact .clo (L.frz _ _ _ h) l (L.frz _ _ _ hc) hd hv (L2.Paired.om cs fun _ _ ⟨c, o, u, l, a, b⟩ => ⟨c, o, u, l, L.frz _ _ _ a, b⟩) (eB (k := 0) ⟨fun n hn => absurd hn (Nat.not_lt_zero _), L.tup, L.frz⟩ lo rs)
      · cases he
    | tup h rs =>
      simp only at he
      cases e1 : kD (fc k hx f) _ with
      | none => rw [e1] at he; cases he
      | some es => rw [e1] at he; cases he; exact .tup (L.tup _ _ h) (j2 (fun d e v => mq L r hx' fz f d e v) e1 rs)
    | frl h rs =>
      simp only at he
      cases e1 : kD (fc k hx f) _ with
      | none => rw [e1] at he; cases he
      | some es => rw [e1] at he; cases he; exact .frl (let ⟨o, h⟩ := h; ⟨o, L.frz _ _ _ h⟩) (j2 (fun d e v => mq L r hx' fz f d e v) e1 rs)
    | @ref n p hp =>
      simp only at he
      split at he
      · rename_i hn
        cases he
        exact .ref (by rw [L.pre n hn]; exact hp)
      · rename_i hn
        cases el : aA hx n with
        | none => rw [el] at he; cases he
        | some ds =>
          rw [el] at he
          simp only at he
          cases e1 : kD (fc k hx f) ds with
          | none => rw [e1] at he; cases he
          | some es =>
            rw [e1] at he; cases he
            obtain ⟨vs, hv, rs⟩ := r.lst (hx' n ds el) hp
            exact .frl (fz n p ds vs (by omega) el hp hv) (j2 (fun d e v => mq L r hx' fz f d e v) e1 rs)
end
theorem sI {β : Type} {l : List β} {k n : Nat} {x : β} (e : (l.take k)[n]? = some x) : n < k /\ l[n]? = some x := by
  rw [List.getElem?_take] at e
  split at e
  · exact ⟨by assumption, e⟩
  · cases e
theorem vz {α α' : List Addr} (h : α <+: α') {n : Nat} (hn : n < α.length) : α[n]? = α'[n]? := by
  obtain ⟨t, rfl⟩ := h
  rw [List.getElem?_append_left hn]
theorem Ah {β : Type} {l : List β} {f : β -> Bool} (h : l.all f = true) {n : Nat} {x : β} (e : l[n]? = some x) : f x = true := List.all_eq_true.mp h x (List.mem_of_getElem? e)
theorem xF {K : PySem.W.Frag} {g : GG} {α α' α2 : List Addr} {H H' H2 : Hp} {h h' : Hh} (r0 : α.length = h.length) (e : Ext K α H α' H') (r : aP K g α' H' h') (hl : (h'.take h.length).all (nY h.length) = true)
    (L : tu K α2 α' H' H2 h.length) (kp : ∀ n p u, n < h.length -> α'[n]? = some p -> H' p = some u -> H2 p = some u) : ∀ (n : Nat) (p : Addr) (o : O), n < h.length -> α'[n]? = some p -> (h'.take h.length)[n]? = some o -> OAt K g α2 H2 p o := by
  intro n p o hn hp ho
  have lo := Ah hl ho
  obtain ⟨_, ho'⟩ := sI ho
  have q := r.here n p o hp ho'
  cases o with
  | lst ds => obtain ⟨vs, a, b⟩ := q; exact ⟨vs, kp n p _ hn hp a, eB L lo b⟩
  | set m => exact kp n p _ hn hp q
  | dic kvs =>
    obtain ⟨kws, a, b⟩ := q
    refine ⟨kws, kp n p _ hn hp a, ?_⟩
    replace lo : bz h.length (kvs.map (·.2)) = true := lo
    clear a ho ho'
    induction b with
    | nil => exact .nil
    | cons x t ih =>
      simp only [List.map_cons, bz, Bool.and_eq_true] at lo
      exact .cons ⟨x.1, mm L lo.1 x.2⟩ (ih lo.2)
  | dit kvs =>
    obtain ⟨kws, a, b⟩ := q
    refine ⟨kws, kp n p _ hn hp a, ?_⟩
    replace lo : bz h.length (kvs.map (·.2)) = true := lo
    clear a ho ho'
    induction b with
    | nil => exact .nil
    | cons x t ih =>
      simp only [List.map_cons, bz, Bool.and_eq_true] at lo
      exact .cons ⟨x.1, mm L lo.1 x.2⟩ (ih lo.2)
section
variable {P : Program} {w : World} {K : PySem.W.Frag} {mg : Str -> Option Value} {base : Heap} {g : GG} {k np : Nat} {f : Addr} {fd : FuncData} {ps : List Str} {m : MF}
theorem j7 {CX : CXT} {ε : XK -> EE} (F : df P w K mg base CX k f fd ps (spG K g ε np m)) : df P w K mg base CX k f fd ps (spG K g ε np fun ds h => (m ds h).bind (cR h)) := by
  refine ⟨fun vs H Q E h => ?_, fun A outer s H args us vs Q E hr e0 hb hv hsp => ?_⟩
  · obtain ⟨hl, α, ds, h, rs, hh, w⟩ := h
    exact F.len vs H (fun _ _ => True) E ⟨hl, α, ds, h, rs, hh, w.bind.mono fun _ _ _ _ _ _ _ _ _ _ => trivial⟩
  · obtain ⟨hl, α, ds, h, rs, hh, w⟩ := hsp
    refine codeAny_mono (F.run A outer s H args us vs (fun v H' => ∃ α' d h', Ext K α H α' H' /\ aP K g α' H' h' /\ aG K g α' H' d v /\ WQ K g (ε E) α H (cR h d h') (aK K g α H Q)) E hr e0 hb hv ⟨hl, α, ds, h, rs, hh, w.bind.mono fun d h' _ w1 v H' α' e r rd => ⟨α', d, h', e, r, rd, w1⟩⟩) fun res s' q => ?_
    cases res with
    | error e => exact q
    | ok fl =>
      cases fl with
      | ret u =>
        refine Dm (show CE outer P _ H s _ u s' from q) fun v H' ⟨α', d, h', e, r, rd, w⟩ => ?_
        refine ⟨fun p => ∃ n ds, h.length <= n /\ α'[n]? = some p /\ aA h' n = some ds, fun p ⟨n, ds, _, hp, hn⟩ => ?_, fun o => ?_⟩
        · obtain ⟨vs, hv, _⟩ := r.lst hn hp
          exact ⟨_, hv, trivial⟩
        · unfold cR at w
          obtain ⟨hl, w⟩ := WQ.eD w
          cases ez : fc h.length h' 8 d with
          | none => rw [ez] at w; exact w.elim
          | some e' =>
            rw [ez] at w
            generalize hS : (fun p => ∃ n ds, h.length <= n /\ α'[n]? = some p /\ aA h' n = some ds) = S
            have inS : ∀ p, S p ↔ ∃ n ds, h.length <= n /\ α'[n]? = some p /\ aA h' n = some ds := fun p => by rw [<- hS]
            have k0 : α.length = h.length := hh.len
            have notS : ∀ p u, H' p = some u -> (∀ vs, u ≠ .lst vs) -> ¬ S p := fun p u e1 e2 z => by
              obtain ⟨n, ds, _, hp, hn⟩ := (inS p).mp z
              obtain ⟨vs, hv, _⟩ := r.lst hn hp
              rw [e1] at hv; cases hv; exact e2 vs rfl
            have off : ∀ p, ¬ S p -> jz S o H' p = H' p := fun p z => by unfold jz; rw [if_neg z]
            have offT : ∀ (p : Addr) (ps : Array Value), H' p = some (.tbl ps) -> jz S o H' p = some (.tbl ps) := fun p ps z => by rw [off p (notS p _ z fun vs z => nomatch z)]; exact z
            have L : tu K α α' H' (jz S o H') h.length := ⟨fun n hn => vz e.pre (by omega), fun p xs z => by rw [off p (notS p _ z fun vs z => nomatch z)]; exact z, fun p o u z => by rw [off p (notS p _ z fun vs z => nomatch z)]; exact z⟩
            have kp : ∀ n p u, n < h.length -> α'[n]? = some p -> H' p = some u -> jz S o H' p = some u := fun n p u hn hp e1 => by
              rw [off p fun z => ?_]; exact e1
              obtain ⟨m, ds, hm, hp', _⟩ := (inS p).mp z
              have := r.inj n m p hp hp'
              omega
            have rd2 : aG K g α (jz S o H') e' v := mq L r (fun _ _ z => z) (fun n p ds vs hn hl hp hv => ⟨o p, by unfold jz; rw [if_pos ((inS p).mpr ⟨n, ds, hn, hp, hl⟩), hv]; rfl⟩) 8 d e' v ez rd
            refine (show aK K g α H Q e' (h'.take h.length) from w) v _ α ⟨⟨List.prefix_refl _, fun p xs z => L.tup p xs (e.tup p xs z), fun p o u z => L.frz p o u (e.frz p o u z), fun p ps z => (e.tbl p ps z).imp fun _ q => offT p _ q⟩, fun p u z n nt => ?_, fun _ z n => absurd z n⟩ ⟨?_, fun n m p h1 h2 => hh.inj n m p h1 h2, fun n p ob h1 h2 => ?_, r.tab.mono offT L.frz⟩ rd2
            · rw [off p fun z' => ?_]; exact e.kept p u z n nt
              obtain ⟨m, ds, _, hp', _⟩ := (inS p).mp z'
              have := e.new p (List.mem_of_getElem? hp') n
              rw [z] at this; cases this
            · rw [List.length_take, <- r.len, k0]
              have := e.pre.length_le
              omega
            · have hn : n < h.length := (sI h2).1
              rw [vz e.pre (by omega)] at h1
              exact xF k0 e r hl L kp n p ob hn h1 h2
      | next => exact q
      | brk => exact q
      | cont => exact q
end
section
variable {X : Cx} {g : GG} {ε : EE} {K : PySem.W.Frag}
noncomputable def p9 (m : MF) : MF := fun ds h => if bz 0 ds = true then match m ds [] with
    | .ok d _ => if eX 0 d = true then .ok d h else .bad
    | _ => .bad
  else m ds h
theorem u4 {α α' : List Addr} {H H' : Hp} (e : Ext K [] H α' H') : Ext K α H α H' :=
  ⟨⟨List.prefix_refl _, e.tup, e.frz, e.tbl⟩, fun p o h _ t => e.kept p o h (by simp) t, fun p a b => absurd a b⟩
theorem yV {α α' : List Addr} {H H' : Hp} {h : Hh} (e : Ext K [] H α' H') (r : aP K g α H h) (t : iL K H') : aP K g α H' h :=
  ⟨r.len, r.inj, fun n p o a b => (r.here n p o a b).ex0 (u4 (α := α) e).toEx0 fun u hu => e.kept p u hu (by simp) (by obtain ⟨u', e1, _, _, e4⟩ := (r.here n p o a b).isS; rw [hu] at e1; cases e1; exact e4), t⟩
theorem yY {np : Nat} {m : MF} {vs : List V} {H : Hp} {Q : VK} {E} (h : spM K g np (p9 m) vs H Q E) : spM K g np m vs H Q E := by
  obtain ⟨hl, α, ds, h, rs, hh, w⟩ := h
  unfold p9 at w
  by_cases lo : bz 0 ds = true
  · rw [if_pos lo] at w
    cases e : m ds [] with
    | bad => rw [e] at w; exact w.elim
    | err x h1 => rw [e] at w; exact w.elim
    | ok d h1 =>
      rw [e] at w
      simp only at w
      obtain ⟨ld, w⟩ := WQ.eD w
      refine ⟨hl, [], ds, [], eB ⟨fun n hn => absurd hn (Nat.not_lt_zero _), fun _ _ z => z, fun _ _ _ z => z⟩ lo rs, ⟨rfl, fun n m p a => by simp at a, fun n p o a => by simp at a, hh.tab⟩, ?_⟩
      rw [e]
      exact fun v H' α' ex hr' rd => (show aK K g α H Q d h from w) v H' α (u4 ex) (yV ex hh hr'.tab) (mm ⟨fun n hn => absurd hn (Nat.not_lt_zero _), fun _ _ z => z, fun _ _ _ z => z⟩ ld rd)
  · rw [if_neg lo] at w
    exact ⟨hl, α, ds, h, rs, hh, w⟩
theorem zt {P : Program} {w : World} {mg : Str -> Option Value} {base : Heap} {k np : Nat} {f : Addr} {fd : FuncData} {ps : List Str} {m : MF} (F : df P w K mg base CX0 k f fd ps (spM K g np m)) : df P w K mg base CX0 k f fd ps (spM K g np (p9 m)) :=
  ⟨fun vs H Q E h => F.len vs H Q E (yY h), fun A outer s H args us vs Q E hr e0 hb hv hsp => F.run A outer s H args us vs Q E hr e0 hb hv (yY hsp)⟩
end
theorem jr {P : Program} {w : World} {H : Hp} {h : Heap} {p : Addr} {o : Obj} (ok : HOk P w H h) (e : H p = some (AtO p o)) : h.get? p = some o := (show bC P w H h p (AtO p o) from ok p _ e).1
theorem eY {a : Str} {b : Pos} {rest : List Expr} {env : Env} : starEach (.Name a b :: rest) env = (false, eval (.Name a b) env) :: starEach rest env := by rfl
theorem iW {pos : Pos} {t : Sem Value} {r : List (Bool × Sem Value)} : backTo pos ((false, t) :: r) = (false, t) :: backTo pos r := rfl
theorem lg {env : Env} {pos : Pos} {x : Str} {p2 : Pos} : ∀ qs : List (Str × Pos), (backTo pos (starEach (qs.map (fun y => Expr.Name y.1 y.2) ++ [.Name x p2]) env)).any (·.1) = false
  | [] => by rw [List.map_nil, List.nil_append, eY, iW]; rfl
  | q :: qs => by
    rw [List.map_cons, List.cons_append, eY, iW, List.any_cons, lg qs]; rfl
section
variable {P : Program} {w : World} {K : PySem.W.Frag} {mg : Str -> Option Value} {base : Heap} {H : Hp} {clos : List (Str × Addr)} {scope : Scope} {env : Env} {A : Around} {E : Value -> Shared -> Prop} {s : Shared} {m : Str -> Option Value}
theorem oP {x : Str} {p2 pos : Pos} {u : Value} (hs : env.scope.kind = .function) (hcl : env.cells = clos) (hok : HOk P w H s.heap) (hx : env.kindOf x = some .local) (hxd : (x == ("__debug__" : Str)) = false) (hn : s.heap.Ns env.locals m) (hm : m x = some u) :
    ∀ (qs : List (Str × Pos)) (vs : List V) (Q : List Value -> Shared -> Prop), j5 H clos (qs.map (·.1)) vs -> (∀ y ∈ qs.map (·.1), env.kindOf y = some .free /\ (y == ("__debug__" : Str)) = false /\ (y == ("__classdict__" : Str)) = false) →
      (∀ us, Vals vs us -> Q (us ++ [u]) s) -> wpAny (model P w) A (spliced (backTo pos (starEach (qs.map (fun y => Expr.Name y.1 y.2) ++ [.Name x p2]) env))) Q E s
  | [], _, Q, .nil, _, h => by
    rw [List.map_nil, List.nil_append, eY, iW]
    exact Calls.spliced_cons (wpAny_Name (wpAny_loadName_local hs hx hn hm (Calls.spliced_nil (h [] .nil))) hxd)
  | q :: qs, _, Q, .cons ⟨c, o, z, hl, hc, hd, r⟩ t, hf, h => by
    rw [List.map_cons, List.cons_append, eY, iW]
    obtain ⟨f1, f2, f3⟩ := hf q.1 (by simp)
    refine Calls.spliced_cons (wpAny_Name (wpAny_loadName_free (v := z) hs f1 (by rw [hcl]; exact hl) ⟨o, jr hok hc, hd⟩ ?_ f3) f2)
    exact oP hs hcl hok hx hxd hn hm qs _ _ t (fun y hy => hf y (by simp only [List.map_cons, List.mem_cons]; exact .inr hy)) fun us r2 => h (z :: us) (.cons r r2)
end
theorem zW {P : Program} {w : World} {K : PySem.W.Frag} {mg : Str -> Option Value} {base : Heap} {k : Nat} {f : Addr} {fd : FuncData} {ps : List Str} {sp : Sp} {fn x qual : Str} {ys : List Str} {params : Arguments} {body : Expr} {scope : Scope}
    (F : df P w K mg base CX0 k f fd ps sp) (hkp : PySem.W.keepIn K (.ref f) = true) (hb : Binds K fd ps []) (hm : mg fn = some (.ref f)) (T : sP fn x qual ys params body scope)
    {A : Around} {outer : List Env} {s : Shared} {H : Hp} {u : Value} {v : V} {Q : VK} {E E1 : XK} {p c' : Addr} {clos : List (Str × Addr)} {pm ctv : Value} {oc : Obj} {vc : Array Value} {t : Tok} {cv : List V} (hr : eV (k + 1) A) (e0 : wy P w K mg base A outer s H)
    (hp : H p = some (AtO p (PySem.W.kla_obj "<lambda>" qual params body scope clos pm c' ctv))) (hc : H c' = some (AtO c' oc)) (hd : oc.data = .fields vc) (hv : vc[1]? = some (.str qual t)) (cs : j5 H clos ys cv) (rv : RelV v u)
    (h : sp (cv ++ [v]) H Q E1) : codeAny (model P w) A (.call (.ref p) ⟨[u], []⟩) (CR CX0 outer P w H s Q E) s := by
  refine PySem.W.kla_callFunE hr.depth (jr e0.hok hp) rfl T.co T.gen rfl ⟨c', oc, vc, t, rfl, jr e0.hok hc, hd, hv⟩ ?_
  rw [T.bind]
  refine wpAny_pure (wpAny_newFunctionEnv T.Cs (by intro y hy; simp at hy; subst hy; exact T.loc) (fun h₁ hns hsb => ?_) T.kind)
  have keep1 : ∀ b o, s.heap.get? b = some o -> h₁.get? b = some o := fun b o e => hsb.extBut b o (Nat.ne_of_lt (Heap.lt_size e)) (Heap.get?_push_of_some _ e)
  refine ⟨(e0.mod.nolimit.keeps fun b o e => (e0.bs b o e).1).keeps keep1, ?_⟩
  show codeAny _ _ (.expr body (PySem.W.envX qual scope s.heap.objs.size p (.ref c') clos)) _ _
  refine PySem.W.kla_codeExpr ?_
  obtain ⟨p0, p2, p3, qs, rfl, rfl⟩ := T.tx
  have KX : K.In h₁ := (e0.mod.kin.keeps fun b o e => (e0.bs b o e).1).keeps keep1
  have hok1 : HOk P w H h₁ := e0.hok.kept keep1
  refine wpAny_Call_Name_kw (Calls.Name_function_global T.kind T.glob (Calls.loadGlobal_global ((e0.mod.glob.keeps fun b o e => (e0.bs b o e).1).keeps keep1) hm ?_) T.nd.1)
  have hL : frs (PySem.W.envX qual scope s.heap.objs.size p (.ref c') clos :: outer) = s.heap.objs.size :: frs outer := rfl
  have sz : s.heap.objs.size <= h₁.objs.size := by
    by_cases z : s.heap.objs.size = 0
    · rw [z]; exact Nat.zero_le _
    · exact Nat.le_of_lt hns.lt
  have e1 : wy P w K mg base (A.deeper (PySem.W.envX qual scope s.heap.objs.size p (.ref c') clos)) (PySem.W.envX qual scope s.heap.objs.size p (.ref c') clos :: outer) { s with heap := h₁, toks := s.toks + 1 } H :=
    ⟨Around.frames_deeper e0.frames, e0.mod, fun b o e => ⟨keep1 b o (e0.bs b o e).1, (e0.bs b o e).2⟩, Nat.le_trans e0.bsz sz,
      Heap.FunFrames.cons (by show scope.kind ≠ _; rw [T.kind]; decide) rfl hns (Heap.get?_none_of_le e0.bsz) (Heap.FunFrames.of_keeps (fun b o e _ => ⟨o, keep1 b o e, rfl⟩) e0.lX),
      fun b hb' => by
        rw [hL] at hb'
        rcases List.mem_cons.mp hb' with z | z
        · rw [z]; exact e0.hok.fresh (Nat.le_refl _)
        · exact e0.frf b z, hok1, e0.bare⟩
  have fin : ∀ us : List Value, Vals cv us -> wpAny (model P w) (A.deeper (PySem.W.envX qual scope s.heap.objs.size p (.ref c') clos)) (call (.ref f) ([] ++ (us ++ [u]))) (fun z s' => CR CX0 outer P w H s Q E (.ok (.ret z)) s')
      (fun e' s' => wpAny (model P w) (A.deeper (PySem.W.envX qual scope s.heap.objs.size p (.ref c') clos)) (leaving (PySem.W.envX qual scope s.heap.objs.size p (.ref c') clos) e') (fun _ s'' => CR CX0 outer P w H s Q E (.error e') s'') (fun e'' s'' => CR CX0 outer P w H s Q E (.error e'') s'') s') { s with heap := h₁, toks := s.toks + 1 } := fun us r2 => by
    have rr : Vals (cv ++ [v]) (us ++ [u]) := r2.append (.cons rv .nil)
    have hl : (us ++ [u]).length = ps.length := by rw [<- rr.length]; exact F.len _ _ _ _ h
    have hb2 := hb { s with heap := h₁, toks := s.toks + 1 } (us ++ [u]) KX (by rw [List.append_nil]; exact hl)
    rw [List.append_nil] at hb2
    refine wpAny_call (codeAny_mono (F.run _ _ _ H ⟨us ++ [u], []⟩ (us ++ [u]) (cv ++ [v]) Q E1 (hr.deeper _) e1 hb2 rr h) fun r s' hq => ?_)
    cases r with
    | error e => exact False.elim hq
    | ok fl =>
      cases fl with
      | ret z =>
        obtain ⟨y, H', os, bare, un, hok, r, q⟩ := (show CE _ P w H _ Q z s' from hq)
        have old : ∀ {b : Addr} {o : Obj}, s.heap.get? b = some o -> b ∉ frs outer -> b ∉ frs (PySem.W.envX qual scope s.heap.objs.size p (.ref c') clos :: outer) := fun {b o} e n z => by
          rw [hL] at z
          rcases List.mem_cons.mp z with z | z
          · exact absurd (Heap.lt_size e) (by rw [z]; exact Nat.lt_irrefl _)
          · exact n z
        exact ⟨y, H', os, bare, ⟨fun b o e n hb' hx => un.keep b o (keep1 b o e) n (old e hb') hx, fun b o e n hb' hx => un.slot b o (keep1 b o e) n (by rw [hL]; exact List.mem_cons_of_mem _ hb') hx, fun b o e n hx => un.free b o (keep1 b o e) n hx, fun b o e hx => un.there b o (keep1 b o e) hx, un.lY, un.ku, un.lG⟩, hok, r, q⟩
      | next => exact False.elim hq
      | brk => exact False.elim hq
      | cont => exact False.elim hq
  have main := oP (P := P) (w := w) (H := H) (clos := clos) (env := PySem.W.envX qual scope s.heap.objs.size p (.ref c') clos) (A := A.deeper (PySem.W.envX qual scope s.heap.objs.size p (.ref c') clos)) (s := { s with heap := h₁, toks := s.toks + 1 }) (x := x) (p2 := p2) (pos := p3) (u := u)
    (E := fun e' s' => wpAny (model P w) (A.deeper (PySem.W.envX qual scope s.heap.objs.size p (.ref c') clos)) (leaving (PySem.W.envX qual scope s.heap.objs.size p (.ref c') clos) e') (fun _ s'' => CR CX0 outer P w H s Q E (.error e') s'') (fun e'' s'' => CR CX0 outer P w H s Q E (.error e'') s'') s')
    T.kind rfl hok1 T.loc T.nd.2 hns (by simp) qs cv (fun us s2 => K.In s2.heap /\ wpAny (model P w) (A.deeper (PySem.W.envX qual scope s.heap.objs.size p (.ref c') clos)) (call (.ref f) ([] ++ us)) (fun z s' => CR CX0 outer P w H s Q E (.ok (.ret z)) s')
      (fun e' s' => wpAny (model P w) (A.deeper (PySem.W.envX qual scope s.heap.objs.size p (.ref c') clos)) (leaving (PySem.W.envX qual scope s.heap.objs.size p (.ref c') clos) e') (fun _ s'' => CR CX0 outer P w H s Q E (.error e') s'') (fun e'' s'' => CR CX0 outer P w H s Q E (.error e'') s'') s') s2) cs T.free fun us r2 => ⟨KX, fin us r2⟩
  cases qs with
  | nil => exact PySem.W.callWith_K (h₀ := h₁) KX hkp main eY rfl
  | cons q qs => exact PySem.W.callWith_K (h₀ := h₁) KX hkp main eY (lg qs)
noncomputable def gO (tab : Str -> Option (Nat × MF)) (f : ME) (a : MA) : ME := fun env h => (f env h).bind fun d h1 => match d with
  | .clo x ds => match tab x with
    | some (np, m) => if ds.length + 1 = np then (a env h1).bind fun es h2 => m (ds ++ es) h2 else .bad
    | none => .bad
  | _ => .bad
theorem mB {X : Cx} {g : GG} {k : Nat} {tab : Str -> Option (Nat × MF)} {fe e : Expr} {pos : Pos} {mf : ME} {mr : MA}
    (T : ∀ x np m, tab x = some (np, m) -> ∃ f fd ps, X.mg x = some (.ref f) /\ df X.prog X.w X.K X.mg X.base CX0 k f fd ps (spM X.K g np m) /\ PySem.W.keepIn X.K (.ref f) = true /\ Binds X.K fd ps [])
    (hr : eV (k + 1) X.A) (hf : PE X fe (tM X.K g E00 mf)) (ha : PA X [e] (tMA X.K g E00 mr)) (hlen : ∀ env h ds h', mr env h = .ok ds h' -> ds.length = 1)
    (hc : eval (.Call fe [e] [] pos) X.env = (do callWith pos (← eval fe X.env) [] (backTo pos (starEach [e] X.env)) (backToKw pos (keywordEach [] X.env))) := by rfl)
    (he : starEach [e] X.env = (false, eval e X.env) :: starEach [] X.env := by rfl) :
    PE X (.Call fe [e] [] pos) (tM X.K g E00 (gO tab mf mr)) := by
  intro pins s σ H Q I ⟨α, env, h, s0, w⟩
  refine Call_ (thn (hf pins s σ H (fun v H1 => ∃ α1 h1 p o clos ys cv c' oc qual t vc x ds np m, v = .ref p /\ H1 p = some (AtO p o) /\ B4 x clos ys o c' qual /\ H1 c' = some (AtO c' oc) /\ oc.data = .fields vc /\ vc[1]? = some (.str qual t) /\ j5 H1 clos ys cv /\ aw X.K g α1 H1 ds cv ∧
      tab x = some (np, m) /\ ds.length + 1 = np /\ cT X.K g α1 H1 env σ h1 /\ WQ X.K g E00 α1 H1 ((mr env h1).bind fun es h2 => m (ds ++ es) h2) (aK X.K g α1 H1 Q)) I ?_) fun v s1 ⟨x, H1, I1, r1, q1⟩ => ?_) hc
  · refine tM.use s0 w.bind fun d1 h1 v1 H1 α1 e1 s1 r1 w1 => ?_
    cases r1 with
    | @clo x ds p o clos ys vs c' oc qual t vc hp hl hc' hd hv cs rs =>
      simp only at w1
      cases et : tab x with
      | none => rw [et] at w1; exact w1.elim
      | some q =>
        obtain ⟨np, m⟩ := q
        rw [et] at w1
        obtain ⟨hn, w1⟩ := WQ.eD w1
        exact ⟨α1, h1, p, o, clos, ys, vs, c', oc, qual, t, vc, x, ds, np, m, rfl, hp, hl, hc', hd, hv, cs, rs, et, hn, s1, WQ.post e1 w1⟩
    | _ => exact w1.elim
  · obtain ⟨α1, h1, p, o, clos, ys, cv, c', oc, qual, t, vc, x, ds, np, m, rfl, hp, ⟨params, body, scope, pm, ctv, xa, rfl, tx⟩, hc', hd, hv, cs, rs, et, hn, s2, w2⟩ := q1
    cases r1
    obtain ⟨f, fd, ps, hm, F, hk, hb⟩ := T x np m et
    have fn : ∀ {h : Heap}, h.get? p = some (PySem.W.kla_obj "<lambda>" qual params body scope clos pm c' ctv) -> PySem.W.FnAt p h := fun e => ⟨_, _, _, _, e⟩
    refine PySem.W.callWith_F (fn (jr I1.hok hp)) (thn (ha pos pins s1 σ H1 (fun vs H2 => ∃ v, vs = [v] /\ H2 p = some (AtO p (PySem.W.kla_obj "<lambda>" qual params body scope clos pm c' ctv)) /\ H2 c' = some (AtO c' oc) /\ j5 H2 clos ys cv /\ spM X.K g np m (cv ++ [v]) H2 Q E0) I1 ?_) fun us s3 ⟨vs, H2, I2, r, v, ev, hp2, hc2, cs2, q⟩ => ⟨fn (jr I2.hok hp2), ?_⟩) he rfl
    · refine ⟨α1, env, h1, s2, w2.bind.mono fun es h3 eq w3 v3 H3 α3 e3 hr3 r3 => ?_⟩
      have l1 := hlen env h1 es h3 eq
      obtain ⟨d, rfl⟩ : ∃ d, es = [d] := List.length_eq_one_iff.mp l1
      cases r3 with
      | @cons _ v _ _ rd rn =>
        cases rn
        refine ⟨v, rfl, e3.frz _ _ _ hp, e3.frz _ _ _ hc', L2.Paired.om cs fun _ _ ⟨c, o, u, l, a, b⟩ => ⟨c, o, u, l, e3.frz _ _ _ a, b⟩, ?_, α3, ds ++ [d], h3, (rs.ext e3).append (.cons rd .nil), hr3, w3.post e3⟩
        rw [List.length_append, <- rs.length]; exact hn
    · subst ev
      cases r with
      | @cons _ u _ _ ru rn =>
        cases rn
        refine wpAny_call (codeAny_mono (zW F hk hb hm tx (E := E0) hr I2.ES hp2 hc2 hd hv cs2 ru q) fun r s' hq => ?_)
        cases r with
        | error e => exact False.elim hq
        | ok fl =>
          cases fl with
          | ret u => exact I2.after hq
          | next => exact False.elim hq
          | brk => exact False.elim hq
          | cont => exact False.elim hq
open Classical in
noncomputable def mkH (S : Addr -> Prop) (h2 : Heap) (PT : Addr) (T : Array Value) (H1 : Hp) : Hp := fun b => if S b then (h2.get? b).map (AtO b) else if b = PT then some (.tbl T) else H1 b
structure MkS (P : Program) (w : World) (S : Addr -> Prop) (h1 h2 : Heap) (PT : Addr) (ps more : Array Value) (H1 : Hp) : Prop where
  hok : HOk P w H1 h1
  hPT : H1 PT = some (.tbl ps)
  k : ∀ b o, b ≠ PT -> h1.get? b = some o -> h2.get? b = some o
  hT : h2.get? PT = some (PySem.W.tabObj (ps ++ more))
  hS : ∀ b, S b -> b ≠ PT /\ (∃ o, h2.get? b = some o) /\ (H1 b = none \/ ∃ o, H1 b = some (AtO b o))
section
variable {P : Program} {w : World} {S : Addr -> Prop} {h0 h1 h2 : Heap} {PT : Addr} {ps more : Array Value} {H H1 : Hp} {K : PySem.W.Frag} {g : GG} {α : List Addr} {h : Hh} {fs : List Addr}
theorem MkS.at_ (M : MkS P w S h1 h2 PT ps more H1) {b : Addr} (hb : S b) {o : Obj} (e : h2.get? b = some o) : mkH S h2 PT (ps ++ more) H1 b = some (AtO b o) := by
  unfold mkH; rw [if_pos hb, e]; rfl
theorem MkS.pt (M : MkS P w S h1 h2 PT ps more H1) : mkH S h2 PT (ps ++ more) H1 PT = some (.tbl (ps ++ more)) := by
  unfold mkH; rw [if_neg fun z => (M.hS PT z).1 rfl, if_pos rfl]
theorem MkS.off (M : MkS P w S h1 h2 PT ps more H1) {b : Addr} {o : HO} (e : H1 b = some o) (n : b ≠ PT) : mkH S h2 PT (ps ++ more) H1 b = some o := by
  by_cases hb : S b
  · obtain ⟨_, ⟨o2, e2⟩, z | ⟨o1, z⟩⟩ := M.hS b hb
    · rw [e] at z; cases z
    · rw [e] at z; cases z
      have e1 := M.k b o1 n (jr M.hok e)
      exact M.at_ hb e1
  · unfold mkH; rw [if_neg hb, if_neg n]; exact e
theorem MkS.non (M : MkS P w S h1 h2 PT ps more H1) {b : Addr} (e : H1 b = none) (n : ¬ S b) : mkH S h2 PT (ps ++ more) H1 b = none := by
  unfold mkH; rw [if_neg n, if_neg (bc M.hPT e).symm]; exact e
theorem MkS.Gi (M : MkS P w S h1 h2 PT ps more H1) : HOk P w (mkH S h2 PT (ps ++ more) H1) h2 := by
  intro b u e
  by_cases hb : S b
  · obtain ⟨_, ⟨o2, e2⟩, _⟩ := M.hS b hb
    rw [M.at_ hb e2] at e
    cases e
    exact ⟨e2, e2, ⟨o2, e2⟩, fun a c x y => y _ x⟩
  · by_cases hp : b = PT
    · subst hp
      rw [M.pt] at e
      cases e
      exact M.hT
    · have e1 : H1 b = some u := by unfold mkH at e; rw [if_neg hb, if_neg hp] at e; exact e
      refine (M.hok b u e1).ki (fun c x hc hx => M.k c x ?_ hx) (fun c z => M.off z fun q => ?_) fun c xs z => M.off z fun q => ?_
      · rcases hc with rfl | hc
        · exact hp
        · rintro rfl; rw [M.hPT] at hc; cases hc
      · subst q; rw [M.hPT] at z; cases z
      · subst q; rw [M.hPT] at z; cases z
theorem MkS.un (M : MkS P w S h1 h2 PT ps more H1) (u : Un fs [] H H1 h0 h1) (hn : ∀ b, S b -> h0.objs.size <= b \/ H1 b ≠ none) : Un fs [] H (mkH S h2 PT (ps ++ more) H1) h0 h2 := by
  have nt : ∀ b o, h0.get? b = some o -> H b = none -> b ≠ PT := fun b o e n => (bc M.hPT (u.free b o e n (by simp))).symm
  refine ⟨fun b o e n hf hx => M.k b o (nt b o e n) (u.keep b o e n hf hx), fun b o e n hf hx => ?_, fun b o e n hx => ?_, fun b o e hx => ?_, fun b xs e => M.off (u.lY b xs e) fun z => ?_, fun b o x e => M.off (u.ku b o x e) fun z => ?_, fun b qs e => ?_⟩
  · obtain ⟨sl, e1⟩ := u.slot b o e n hf hx
    exact ⟨sl, M.k b _ (nt b o e n) e1⟩
  · have z := u.free b o e n hx
    refine M.non z fun hb => ?_
    rcases hn b hb with q | q
    · exact absurd (Heap.lt_size e) (Nat.not_lt.mpr q)
    · exact q z
  · obtain ⟨o1, e1⟩ := u.there b o e hx
    by_cases z : b = PT
    · exact ⟨_, z ▸ M.hT⟩
    · exact ⟨o1, M.k b o1 z e1⟩
  · have := u.lY b xs e; rw [z, M.hPT] at this; cases this
  · have := u.ku b o x e; rw [z, M.hPT] at this; cases this
  · obtain ⟨m1, e1⟩ := u.lG b qs e
    by_cases z : b = PT
    · subst z
      rw [M.hPT] at e1
      cases e1
      exact ⟨m1 ++ more, by rw [M.pt, Array.append_assoc]⟩
    · exact ⟨m1, M.off e1 z⟩
theorem MkS.ext (M : MkS P w S h1 h2 PT ps more H1) : Ext K α H1 α (mkH S h2 PT (ps ++ more) H1) :=
  ⟨⟨List.prefix_refl _, fun p xs e => M.off e (fun z => by rw [z, M.hPT] at e; cases e), fun p o x e => M.off e (fun z => by rw [z, M.hPT] at e; cases e), fun p qs e => by
    by_cases z : p = PT
    · subst z
      rw [M.hPT] at e; cases e
      exact ⟨more, M.pt⟩
    · exact ⟨#[], by rw [M.off e z]; simp⟩⟩, fun p o e _ t => M.off e (fun z => by rw [z, M.hPT] at e; cases e; exact t _ rfl), fun _ z n => absurd z n⟩
theorem MkS.FV (M : MkS P w S h1 h2 PT ps more H1) (r : aP K g α H1 h) {ns : Pos × Str} (uq : ∀ f q, jI K f = some q -> q.1 = PT -> q.2 = ns) (t : tK (mkH S h2 PT (ps ++ more) H1) (PT, ns)) : aP K g α (mkH S h2 PT (ps ++ more) H1) h := by
  refine ⟨r.len, r.inj, fun n p o a b => (r.here n p o a b).ex0 M.ext.toEx0 fun x e => M.off e fun z => ?_, fun f q e => ?_⟩
  · obtain ⟨u, e1, _, _, nt⟩ := r.mem (List.mem_of_getElem? a)
    rw [z, M.hPT] at e1; cases e1; exact nt _ rfl
  · by_cases z : q.1 = PT
    · have := uq f q e z
      obtain ⟨a, b⟩ := q
      cases z; cases this
      exact t
    · rcases r.tab f q e with x | ⟨c', oc, vc, tk, x, hc, hd⟩
      · exact .inl (M.off x z)
      · exact .inr ⟨c', oc, vc, tk, M.off x z, M.off hc (fun y => by rw [y, M.hPT] at hc; cases hc), hd⟩
end
theorem xk {h h' : Heap} {mg : Str -> Option Value} {PT : Addr} (k : ∀ b o, h.get? b = some o -> h'.get? b = some o) (x : h.BuiltinsAt mg PT) : h'.BuiltinsAt mg PT :=
  let ⟨bm, o, a, b, c, d, e, r⟩ := x; ⟨bm, o, a, b, c, d, k _ _ e, r⟩
noncomputable def Made (X : Cx) (g : GG) (α : List Addr) (h : Hh) (H1 : Hp) (s1 : Shared) (d : D) (u : Value) (s2 : Shared) : Prop := ∃ p H2, u = .ref p /\ s2.os = s1.os /\ s2.gens = s1.gens /\ HOk X.prog X.w H2 s2.heap /\ Un X.fs [] X.aX H2 X.aM.heap s2.heap /\ Ext X.K α H1 α H2 /\ aP X.K g α H2 h /\ aG X.K g α H2 d (.ref p) ∧
  (∀ b o, H1 b = none -> s1.heap.get? b = some o -> s2.heap.get? b = some o) /\ (∀ b o, s1.heap.get? b = some o -> H1 b = none -> (∀ x c, X.env.cells.lookup x = some c -> c ≠ b) -> H2 b = none)
theorem xJ {X : Cx} {g : GG} {pins : List (Addr × Obj)} {σ : St} {H1 : Hp} {s1 : Shared} {α : List Addr} {h : Hh} {params : Arguments} {body : Expr} {scope : Scope} {pos : Pos} {clos : List (Str × Addr)} {c PT f : Addr} {lf x ql : Str} {ys : List Str} {vs : List V} {ds : List D} {E : Value -> Shared -> Prop}
    (J : Inv X pins σ H1 s1) (hex : X.ex = []) (hdef : defaultsOf params X.env = ([], [])) (hq : X.env.qual ++ "<lambda>" = ql) (hcode : X.env.code = .ref c) (C : PySem.W.codeHdIn X.K c PT = true) (hB : X.base.BuiltinsAt X.mg PT) (hgP : mainGlobals ≠ PT)
    (hmk : jI X.K f = some (PT, pos, ql)) (uq : ∀ f q, jI X.K f = some q -> q.1 = PT -> q.2 = (pos, ql)) (hcl : closureFor scope X.env = pure clos) (hcs : ∀ y c, clos.lookup y = some c -> X.env.cells.lookup y = some c) (hfn : ∀ y, X.fn y = true)
    (T : sP lf x ql ys params body scope) (hr : aP X.K g α H1 h) (hvs : Paired (fun y v => (∃ c, clos.lookup y = some c) /\ X.env.kindOf y = some .cell /\ ∃ i : Nat, X.N[i]? = some y /\ σ[i]? = some (some v)) ys vs) (rds : aw X.K g α H1 ds vs) :
    wpAny (model X.prog X.w) X.A (eval (.Lambda params body scope pos) X.env) (Made X g α h H1 s1 (.clo lf ds)) E s1 := by
  subst hq
  refine PySem.W.kla_eval hdef ?_
  have Ch : PySem.W.CodeHd s1.heap c PT := PySem.W.codeHd_of_K J.kIn C
  have hg : s1.heap.Ns mainGlobals X.mg := J.mod.glob.keeps J.bk
  have hb := xk J.bk hB
  obtain ⟨m, hns, hloc⟩ := J.loc
  have fin : ∀ (h' : Heap) (tk : Tok) (c' : Addr) (ctv : Value) (oc : Obj) (vc : Array Value) (t : Tok) (ps more : Array Value), H1 PT = some (.tbl ps) -> (∀ b o, b ≠ PT -> s1.heap.get? b = some o -> h'.get? b = some o) -> s1.heap.objs.size <= h'.objs.size -> h'.get? PT = some (PySem.W.tabObj (ps ++ more)) →
      ps ++ more = #[rawInt pos.line, rawInt pos.col, .ref c'] -> h'.get? c' = some oc -> oc.data = .fields vc -> vc[1]? = some (.str (X.env.qual ++ "<lambda>") t) -> c' ≠ PT -> ((H1 c' = none /\ s1.heap.objs.size <= c') \/ H1 c' = some (AtO c' oc)) →
      Made X g α h H1 s1 (.clo lf ds) (.ref h'.objs.size) { s1 with heap := h'.push (PySem.W.kla_obj "<lambda>" (X.env.qual ++ "<lambda>") params body scope clos ((X.mg "__name__").getD .none) c' ctv), toks := tk } := by
    intro h' tk c' ctv oc vc t ps more hPT hk hsz hT hT2 hc hd hv hcP hc1
    have kp : ∀ b o, h'.get? b = some o -> (h'.push (PySem.W.kla_obj "<lambda>" (X.env.qual ++ "<lambda>") params body scope clos ((X.mg "__name__").getD .none) c' ctv)).get? b = some o := fun b o e => Heap.get?_push_of_some _ e
    have pp : (h'.push (PySem.W.kla_obj "<lambda>" (X.env.qual ++ "<lambda>") params body scope clos ((X.mg "__name__").getD .none) c' ctv)).get? h'.objs.size = some (PySem.W.kla_obj "<lambda>" (X.env.qual ++ "<lambda>") params body scope clos ((X.mg "__name__").getD .none) c' ctv) := Heap.get?_push_size _ rfl
    have M : MkS X.prog X.w (fun b => b = h'.objs.size \/ b = c' \/ ∃ y, clos.lookup y = some b) s1.heap (h'.push (PySem.W.kla_obj "<lambda>" (X.env.qual ++ "<lambda>") params body scope clos ((X.mg "__name__").getD .none) c' ctv)) PT ps more H1 := by
      refine ⟨J.hok, hPT, fun b o n e => kp b o (hk b o n e), kp _ _ hT, fun b hb => ?_⟩
      rcases hb with rfl | rfl | ⟨y, hy⟩
      · exact ⟨fun z => absurd (Heap.lt_size hT) (by rw [<- z]; exact Nat.lt_irrefl _), ⟨_, pp⟩, .inl (J.hok.fresh hsz)⟩
      · refine ⟨hcP, ⟨_, kp _ _ hc⟩, ?_⟩
        rcases hc1 with ⟨z, _⟩ | z
        · exact .inl z
        · exact .inr ⟨_, z⟩
      · have z := J.hX y b (hcs y b hy)
        obtain ⟨v, o, e, _⟩ := J.cell y b (hcs y b hy)
        have n := (bc hPT z).symm
        exact ⟨n, ⟨o, kp _ _ (hk b o n e)⟩, .inl z⟩
    have atp := M.at_ (.inl rfl) pp
    have atc := M.at_ (.inr (.inl rfl)) (kp _ _ hc)
    refine ⟨h'.objs.size, _, rfl, rfl, rfl, M.Gi, M.un (hex ▸ J.base) fun b hb => ?_, M.ext, M.FV hr uq (.inr ⟨c', oc, vc, t, ?_, atc, hd, hv⟩), ?_, fun b o n e => kp b o (hk b o (bc hPT n).symm e), fun b o e n hcc => M.non n fun hb => ?_⟩
    · rcases hb with rfl | rfl | ⟨y, hy⟩
      · exact .inl (Nat.le_trans J.sz hsz)
      · rcases hc1 with ⟨_, z⟩ | z
        · exact .inl (Nat.le_trans J.sz z)
        · exact .inr (by rw [z]; exact fun q => nomatch q)
      · exact .inl (J.ok.cab y b (hfn y) (hcs y b hy))
    · rw [M.pt, hT2]
    · refine .clo atp ⟨params, body, scope, _, ctv, x, rfl, T⟩ atc hd hv (L2.Paired.om hvs fun y v ⟨⟨cc, hcc⟩, kd, i, hN, hσ⟩ => ?_) (rds.ext M.ext)
      obtain ⟨u, ru, lk⟩ := hloc i y v hN hσ (.inr (.inl kd))
      rcases lk with ⟨z, _⟩ | ⟨_, c2, hc2, o, e, hdo⟩
      · rw [kd] at z; cases z
      · rw [hcs y cc hcc] at hc2
        cases hc2
        have z := J.hX y cc (hcs y cc hcc)
        exact ⟨cc, o, u, hcc, M.at_ (.inr (.inr ⟨y, hcc⟩)) (kp _ _ (hk cc o (bc hPT z).symm e)), hdo, ru⟩
    · rcases hb with rfl | rfl | ⟨y, hy⟩
      · exact absurd (Heap.lt_size e) (Nat.not_lt.mpr hsz)
      · rcases hc1 with ⟨_, z⟩ | z
        · exact absurd (Heap.lt_size e) (Nat.not_lt.mpr z)
        · rw [n] at z; cases z
      · exact hcc y b (hcs y b hy) rfl
  rcases hr.tab f _ hmk with hPT | ⟨c', oc, vc, t, hPT, hc, hd, hv⟩
  · have hP : s1.heap.get? PT = some (PySem.W.tabObj #[]) := J.hok PT _ hPT
    refine PySem.W.kla_makeFunction hcl J.ok.glob hg hcode Ch hP trivial rfl hgP hb fun c' ctv h' tk hx hge hlt hrec htb => ?_
    obtain ⟨c2, oc, vc, t, z, hc, hd, hv⟩ := hrec
    cases z
    refine fin h' tk c' ctv oc vc t _ _ hPT (fun b o n e => hx b o n e) (by omega) htb (by simp) hc hd hv (fun z => ?_) (.inl ⟨J.hok.fresh hge, hge⟩)
    exact absurd (Heap.lt_size hP) (by rw [<- z]; exact Nat.not_lt.mpr hge)
  · have hP : s1.heap.get? PT = some (PySem.W.tabObj #[rawInt pos.line, rawInt pos.col, .ref c']) := J.hok PT _ hPT
    refine PySem.W.kla_makeFunctionHit (cv := .ref c') hcl J.ok.glob hg hcode Ch hP trivial (by simp [codeAmong, rawInt]) hb fun ctv h' tk hk hsz => ?_
    refine fin h' tk c' ctv oc vc t _ #[] hPT (fun b o n e => hk b o e) hsz (by rw [Array.append_empty]; exact hk _ _ hP) (by simp) (hk _ _ (jr J.hok hc)) hd hv (fun z => ?_) (.inr hc)
    rw [z, hPT] at hc; cases hc
theorem sE {last : Stmt} {env : Env} : ∀ rows : List Stmt, execs (rows ++ [last]) env = (execs rows env >>= fun f => match f with
    | .next => exec last env
    | f => pure f)
  | [] => by
    show (exec last env >>= fun f => match f with | .next => pure .next | f => pure f) = _
    rw [show (execs [] env : Sem Flow) = pure .next from rfl, pure_bind]
    refine Eq.trans ?_ (bind_pure _)
    congr 1
    funext f
    cases f <;> rfl
  | r :: rows => by
    show (exec r env >>= fun f => match f with | .next => execs (rows ++ [last]) env | f => pure f) = ((exec r env >>= fun f => match f with | .next => execs rows env | f => pure f) >>= _)
    rw [bind_assoc]
    congr 1
    funext f
    cases f with
    | next => exact sE rows
    | ret v => exact (pure_bind _ _).symm
    | brk => exact (pure_bind _ _).symm
    | cont => exact (pure_bind _ _).symm
theorem A3 {CX : CXT} {P : Program} {w : World} {K : PySem.W.Frag} {mg : Str -> Option Value} {base : Heap} {k : Nat} {f : Addr} {name qual : Str} {params : Arguments} {body rows : List Stmt} {last : Stmt} {scope : Scope} {dV kV doc pm cdv ct oc : Value} {an od : Option Addr}
    {osl : Array (Option Value)} {N ps : List Str} {sp : Sp} (lk : K.lookup f = some ⟨oc, od, .func (PySem.W.fnOf name qual params body scope dV kV doc pm an cdv ct), osl⟩) (hcd : PySem.W.codeIn K cdv qual = true) (S : aL N ps scope)
    (len : ∀ vs H Q E, sp vs H Q E -> vs.length = ps.length) (hbd : body = rows ++ [last])
    (hbody : ∀ (A : Around) (outer : List Env) (s : Shared) (H : Hp) (vs : List V) (Q : VK) (E : XK), eV k (A.deeper (envOfC qual scope s.heap.objs.size f cdv)) -> sp vs H Q E →
      ∃ t R, PSs (jq CX P w K mg base N qual scope f cdv A outer s H E) rows t /\ t { nx := R, rt := fun _ _ => False } (start N vs) H /\ ∀ σ H1 s1, Inv (jq CX P w K mg base N qual scope f cdv A outer s H E) [] σ H1 s1 -> R σ H1 →
        wpAny (model P w) (jq CX P w K mg base N qual scope f cdv A outer s H E).A (exec last (envOfC qual scope s.heap.objs.size f cdv)) (fun fl s2 => ∃ u, fl = .ret u /\ CE outer P w H s Q u s2) (jq CX P w K mg base N qual scope f cdv A outer s H E).xe s1) :
    df P w K mg base CX (k + 1) f (PySem.W.fnOf name qual params body scope dV kV doc pm an cdv ct) ps sp := by
  subst hbd
  refine ⟨len, fun A outer s H args us vs Q E hr e0 hb r hsp => ?_⟩
  have hl := len _ _ _ _ hsp
  have KX : K.In s.heap := e0.mod.kin.keeps fun b o e => (e0.bs b o e).1
  have lim : s.heap.NoLimit := e0.mod.nolimit.keeps fun b o e => (e0.bs b o e).1
  have hkind : ∀ y ∈ ps.zip us, scope.names.lookup y.1 = some .local \/ (scope.names.lookup y.1 = some .cell /\ ((cellsFrom (s.heap.objs.size + 1) scope.names []).lookup y.1).isSome = true) := fun ⟨n, v⟩ hy => by
    rcases S.par n (List.of_mem_zip hy).1 with q | q
    · exact .inl q
    · exact .inr ⟨q, PySem.W.cellsFrom_some _ _ _ (.inl q)⟩
  refine codeAny_call_function hr.depth (KX _ _ lk) rfl S.co S.gen rfl (PySem.W.codeRec_of KX hcd) (hb _ _ _ _ ?_)
  refine wpAny_newFunctionEnv_cells S.kind hkind fun env he s1 x => ?_
  subst he
  refine ⟨lim.keeps x.toInCall.keep, codeAny_func ?_⟩
  obtain ⟨t, R, ht, hq, hlast⟩ := hbody A outer s H vs Q E (hr.deeper _) hsp
  have I : Inv (jq CX P w K mg base N qual scope f cdv A outer s H E) [] (start N vs) H s1 := pH S hr.hd e0 hl r x
  rw [sE]
  refine wpAny_mono (wpAny_bind (thn (ht [] s1 (start N vs) H _ I hq) fun fl s' hs => ?_)) (Q := fun fl s2 => ∃ u, fl = Flow.ret u /\ CE outer P w H s Q u s2) (fun fl s' hs => ?_) fun e s' hs => hs
  · cases fl with
    | next =>
      obtain ⟨σ', H', J, q⟩ := hs
      exact hlast σ' H' s' J q
    | ret u => obtain ⟨_, _, _, _, _, q⟩ := hs; exact False.elim q
    | brk => obtain ⟨_, _, _, q⟩ := hs; exact False.elim q
    | cont => obtain ⟨_, _, _, q⟩ := hs; exact False.elim q
  · obtain ⟨u, rfl, q⟩ := hs
    exact q
noncomputable def tX : List Nat -> En -> Option (List D)
  | [], _ => some []
  | i :: r, e => match (e[i]? : Option (Option D)), tX r e with
    | some (some d), some ds => some (d :: ds)
    | _, _ => none
noncomputable def AQ (n : Nat) (m : MS) (lf : Str) (ix : List Nat) : MF := fun ds h => (m (ds.map some ++ List.replicate (n - ds.length) none) h).bind fun fl h1 => match fl with
  | .nx e => (match tX ix e with
    | some cs => .ok (.clo lf cs) h1
    | none => .bad)
  | _ => .bad
theorem sU {K : PySem.W.Frag} {g : GG} {α : List Addr} {H : Hp} {N : List Str} {σ : St} {e : En} (v : ka K g α H e σ) : ∀ {ix : List Nat} {ys : List Str} {cs : List D}, ix.map (fun i => N[i]?) = ys.map some -> tX ix e = some cs →
    ∃ vs, Paired (fun y v => ∃ i : Nat, N[i]? = some y /\ σ[i]? = some (some v)) ys vs /\ aw K g α H cs vs
  | [], [], _, _, h => by cases h; exact ⟨[], .nil, .nil⟩
  | [], _ :: _, _, e, _ => by cases e
  | _ :: _, [], _, e, _ => by cases e
  | i :: ix, y :: ys, cs, hi, h => by
    simp only [List.map_cons, List.cons.injEq] at hi
    unfold tX at h
    split at h
    · rename_i d ds e1 e2
      cases h
      obtain ⟨u, hu, ru⟩ := v.vars i d e1
      obtain ⟨vs, p, r⟩ := sU v hi.2 e2
      exact ⟨u :: vs, .cons ⟨i, hi.1, hu⟩ p, .cons ru r⟩
    · cases h
noncomputable def mkU (K : PySem.W.Frag) : Bool := (K.filterMap fun p => jI K p.1).all fun a => (K.filterMap fun p => jI K p.1).all fun b => !(Nat.beq a.1 b.1) || decide (a.2 = b.2)
theorem zJ {K : PySem.W.Frag} {f : Addr} {o : Obj} (h : K.lookup f = some o) : ∃ p ∈ K, p.1 = f := by
  induction K with
  | nil => cases h
  | cons q r ih =>
    rw [List.lookup_cons] at h
    split at h
    · rename_i e; exact ⟨q, List.mem_cons_self .., (beq_iff_eq.mp e).symm⟩
    · obtain ⟨p, a, b⟩ := ih h; exact ⟨p, List.mem_cons_of_mem _ a, b⟩
theorem qH {K : PySem.W.Frag} {f : Addr} {q : Addr × Pos × Str} (h : jI K f = some q) : q ∈ K.filterMap fun p => jI K p.1 := by
  cases e : K.lookup f with
  | none => unfold jI at h; rw [e] at h; cases h
  | some o =>
    obtain ⟨p, hp, e1⟩ := zJ e
    exact List.mem_filterMap.mpr ⟨p, hp, by rw [e1]; exact h⟩
theorem Cg {K : PySem.W.Frag} (u : mkU K = true) {f f' : Addr} {q q' : Addr × Pos × Str} (h : jI K f = some q) (h' : jI K f' = some q') (e : q'.1 = q.1) : q'.2 = q.2 := by
  have := List.all_eq_true.mp (List.all_eq_true.mp u q' (qH h')) q (qH h)
  rw [e, show Nat.beq q.1 q.1 = true from Nat.beq_refl _] at this
  simpa using this
structure Mkr (K : PySem.W.Frag) (mg : Str -> Option Value) (base : Heap) (fd : FuncData) (c PT : Addr) : Prop where
  code : fd.code = .ref c
  hd : PySem.W.codeHdIn K c PT = true
  bat : base.BuiltinsAt mg PT
  ne : mainGlobals ≠ PT
  uq : mkU K = true
theorem Aw {K : PySem.W.Frag} {c PT : Addr} (e : PySem.W.codeHdIn K c PT = true) : ∃ k d vs s, K.lookup c = some ⟨k, d, .fields vs, s⟩ /\ vs[11]? = some (.ref PT) := by
  unfold PySem.W.codeHdIn at e
  split at e
  · rename_i vs _ hk
    simp only [Bool.and_eq_true] at e
    obtain ⟨⟨⟨⟨⟨e1, _⟩, _⟩, _⟩, _⟩, _⟩ := e
    split at e1
    · rename_i P' h11
      have hP : P' = PT := beq_iff_eq.mp e1
      subst hP
      exact ⟨_, _, vs, _, hk, h11⟩
    · cases e1
  · cases e
theorem Bf {K : PySem.W.Frag} {f c PT : Addr} {fd : FuncData} {pos : Pos} {oc : Value} {od : Option Addr} {osl : Array (Option Value)} (lk : K.lookup f = some ⟨oc, od, .func fd, osl⟩) (hc : fd.code = .ref c) (C : PySem.W.codeHdIn K c PT = true) (hm : Au fd = some pos) :
    jI K f = some (PT, pos, fd.qualname ++ ".<locals>." ++ "<lambda>") := by
  obtain ⟨k, d, vs, s, e, e11⟩ := Aw C
  unfold jI
  rw [lk]
  simp only [hm, hc, e, e11]
section
variable {P : Program} {w : World} {K : PySem.W.Frag} {mg : Str -> Option Value} {base : Heap} {g : GG}
theorem Ex {x : Str} {st : Stmt} {f : Addr} {fd : FuncData} {N ps : List Str} {k : Nat} {mb : MS} {rows : List Stmt} {params : Arguments} {body : Expr} {scope : Scope} {pos rpos : Pos} {lf y : Str} {ys : List Str} {ix : List Nat} {c PT : Addr} (F : Fun K x x st f fd) (S : aL N ps (ao st)) (M : Mkr K mg base fd c PT)
    (hbd : cZ st = rows ++ [.Return (some (.Lambda params body scope pos)) rpos]) (hdef : ∀ env, defaultsOf params env = ([], []))
    (hcl : ∀ (L : Addr) (cdv : Value), ∃ clos, closureFor scope (envOfC x (ao st) L f cdv) = pure clos /\ (∀ z c, clos.lookup z = some c -> (envOfC x (ao st) L f cdv).cells.lookup z = some c) /\ ∀ z ∈ ys, ∃ c, clos.lookup z = some c)
    (hys : ∀ z ∈ ys, (ao st).names.lookup z = some .cell) (hix : ix.map (fun i => N[i]?) = ys.map some) (T : sP lf y (x ++ ".<locals>." ++ "<lambda>") ys params body scope)
    (hb : ∀ (cdv : Value) (A : Around) (outer : List Env) (s : Shared) (H : Hp) (E : XK), eV k (A.deeper (envOfC x (ao st) s.heap.objs.size f cdv)) →
      PSs (jq CX0 P w K mg base N x (ao st) f cdv A outer s H E).nox rows (tMS K g E00 mb)) : df P w K mg base CX0 (k + 1) f fd ps (spM K g ps.length (AQ N.length mb lf ix)) := by
  obtain ⟨oc, od, kV, doc, pm, an, cdv, ct, osl, rfl, lk, hcd⟩ := F.ex
  have hmk : Au (PySem.W.fnOf x x (gM st) (cZ st) (ao st) .none kV doc pm an cdv ct) = some pos := by
    unfold Au PySem.W.fnOf
    dsimp only
    rw [hbd, List.getLast?_concat]
  have hT := Bf lk M.code M.hd hmk
  obtain rfl : cdv = .ref c := M.code
  refine A3 lk hcd S (fun vs H Q E h => h.1) hbd fun A outer s H vs Q E hr hsp => ?_
  obtain ⟨hl, α, ds, h, rs, hh, w1⟩ := hsp
  refine ⟨_, fun σ H1 => ∃ α1 e h1 cs, Ext K α H α1 H1 /\ cT K g α1 H1 e σ h1 /\ tX ix e = some cs /\ aK K g α H Q (.clo lf cs) h1, (hb (.ref c) A outer s H E hr).nox, ?_, fun σ H1 s1 J hR => ?_⟩
  · refine tMS.use ⟨hh, oW rs⟩ w1.bind fun fl h' H' α' e r kk => ?_
    cases fl with
    | nx e' =>
      intro σ' s'
      dsimp only at kk
      cases ec : tX ix e' with
      | none => rw [ec] at kk; exact kk.elim
      | some cs => rw [ec] at kk; exact ⟨α', e', h', cs, e, s', ec, kk⟩
    | bk e' => exact kk.elim
    | ct e' => exact kk.elim
    | rt d => exact kk.elim
  · obtain ⟨α1, e, h1, cs, ex, sr, ec, po⟩ := hR
    obtain ⟨clos, hc1, hc2, hc3⟩ := hcl s.heap.objs.size (.ref c)
    obtain ⟨vs', pv, rds⟩ := sU sr.vs hix ec
    have pv2 : Paired (fun z v => (∃ c, clos.lookup z = some c) /\ (ao st).names.lookup z = some .cell /\ ∃ i : Nat, N[i]? = some z /\ σ[i]? = some (some v)) ys vs' := by
      clear ec rds hix T hcl
      induction pv with
      | nil => exact .nil
      | cons q t ih => exact .cons ⟨hc3 _ (List.mem_cons_self ..), hys _ (List.mem_cons_self ..), q⟩ (ih (fun z hz => hys z (List.mem_cons_of_mem _ hz)) (fun z hz => hc3 z (List.mem_cons_of_mem _ hz)))
    refine wpAny_Return_some (thn (xJ (X := jq CX0 P w K mg base N x (ao st) f (.ref c) A outer s H E) (g := g) (α := α1) (h := h1) J rfl (hdef _) rfl rfl M.hd M.bat M.ne hT (fun f' q e1 e2 => Cg M.uq hT e1 e2) hc1 hc2 (fun _ => rfl) T sr.heap pv2 rds) fun u s2 md => ?_)
    obtain ⟨p, H2, rfl, os, gn, hok, un, ex2, hr2, rd, _, _⟩ := md
    exact ⟨_, rfl, .ref p, H2, os.trans J.os, by rw [gn]; exact J.bare, un, hok, rfl, po _ H2 α1 (ex.trans ex2) hr2 rd⟩
end
noncomputable def hZ (ts : List Addr) (Hs : Hp) : Hp := fun b => if b ∈ ts then some (.tbl #[]) else Hs b
theorem vR {P : Program} {w : World} {K : PySem.W.Frag} {mg mb : Str -> Option Value} {k : Nat} {fa a : Addr} {fd : FuncData} {x : Str} {sp : Sp} {s₁ : Shared} {vs : List Value} {ns : List Int} {ts : List Addr}
    (KX : K.In s₁.heap) (hns : s₁.heap.Ns mainGlobals mg) (hb : s₁.heap.Ns builtinsNs mb) (hbb : ∀ x : Str, x ≠ "__name__" -> mb x = bootBuiltins x) (hlim : s₁.heap.NoLimit) (hg : s₁.gens = #[])
    (hbm : ∃ bm ob, mg "__builtins__" = some (.ref bm) /\ bm ≠ builtinsNs /\ s₁.heap.get? bm = some ob /\ ob.cls = .type "module" /\ ob.dict = some builtinsNs /\ ob.data = .plain)
    (hts : ∀ P ∈ ts, s₁.heap.get? P = some (PySem.W.tabObj #[])) (hct : ∀ P ∈ ts, ∃ c, PySem.W.CodeHd s₁.heap c P) (hKt : ∀ P ∈ ts, K.lookup P = none)
    (ha : s₁.heap.get? a = some { cls := .type "list", data := .seq vs.toArray }) (hi : IntsAre vs ns) (hl : ns.length <= sizeLine) (hr : eV k callerA)
    (F : ∀ base : Heap, K.In base -> base.Ns mainGlobals mg -> (∀ P ∈ ts, base.BuiltinsAt mg P) -> df P w K mg base CX0 k fa fd [x] sp) (hbind : ∀ (s : Shared) (u : Value), BindsTo s fd ⟨[u], []⟩ [(x, u)])
    (hsp : ∀ H : Hp, (∀ P ∈ ts, H P = some (.tbl #[])) -> Fro K H a (ns.map V.int) -> sp [.ref a] H (fun v _ => v = .bl true) fun _ _ _ => False) :
    codeAny (model P w) callerA (.call (.ref fa) ⟨[.ref a], []⟩) (fun r s' => r = .ok (.ret (.bool true)) /\ OldK s₁.heap s'.heap /\ s'.os = s₁.os /\ AllBare s'.gens) s₁ := by
  have rv := o4 hi
  have lenV := hi.length
  have aT : a ∉ ts := fun z => by rw [hts a z] at ha; cases ha
  have core : ∀ Hs : Hp, F9 Hs -> Fro K (hZ ts Hs) a (ns.map V.int) -> HOk P w Hs s₁.heap -> (∀ b, Hs b ≠ none -> b = a) -> (Hs a ≠ none -> K.lookup a = none) →
      codeAny (model P w) callerA (.call (.ref fa) ⟨[.ref a], []⟩) (fun r s' => r = .ok (.ret (.bool true)) /\ OldK s₁.heap s'.heap /\ s'.os = s₁.os /\ AllBare s'.gens) s₁ := by
    intro Hs hO hS hok0 hA hK
    have inT : ∀ {b : Addr}, b ∈ ts -> hZ ts Hs b = some (.tbl #[]) := fun h => by unfold hZ; rw [if_pos h]
    have offT : ∀ {b : Addr}, b ∉ ts -> hZ ts Hs b = Hs b := fun h => by unfold hZ; rw [if_neg h]
    have hok : HOk P w (hZ ts Hs) s₁.heap := fun b u e => by
      by_cases hb : b ∈ ts
      · rw [inT hb] at e; cases e; exact hts b hb
      · rw [offT hb] at e
        refine (hok0 b u e).ki (fun _ _ _ z => z) (fun c z => ?_) fun c xs z => ?_
        · rcases hO c with q | ⟨_, _, q⟩
          · rw [z] at q; cases q
          · rw [z] at q; cases q
        · rcases hO c with q | ⟨_, _, q⟩
          · rw [z] at q; cases q
          · rw [z] at q; cases q
    have non : ∀ {b : Addr} {o : Obj}, s₁.heap.get? b = some o -> (∀ a n, o.data ≠ .seq a n) -> (∀ a, o.data ≠ .fields a) -> hZ ts Hs b = none := fun {b o} e d1 d2 => by
      by_cases hb : b ∈ ts
      · rw [hts b hb] at e; cases e; exact absurd rfl (d2 _)
      · rw [offT hb]
        cases q : Hs b with
        | none => rfl
        | some u =>
          have e' : b = a := hA b (by rw [q]; simp)
          subst e'
          rw [ha] at e; cases e; exact absurd rfl (d1 _ _)
    have base_of : ∀ {b : Addr} {o : Obj}, s₁.heap.get? b = some o -> hZ ts Hs b = none -> (n5 s₁.heap (hZ ts Hs)).get? b = some o := fun e n => yx e n
    have nsK : ∀ {b : Addr} {m : Str -> Option Value}, s₁.heap.Ns b m -> (n5 s₁.heap (hZ ts Hs)).Ns b m := fun {b m} ⟨o, es, ep, e, d, r⟩ => ⟨o, es, ep, base_of e (non e (fun _ _ z => by rw [d] at z; cases z) fun _ z => by rw [d] at z; cases z), d, r⟩
    have hKb : K.In (n5 s₁.heap (hZ ts Hs)) := fun b o e => base_of (KX b o e) (by
      have hb : b ∉ ts := fun z => by rw [hKt b z] at e; cases e
      rw [offT hb]
      cases q : Hs b with
      | none => rfl
      | some u =>
        have e' : b = a := hA b (by rw [q]; simp)
        subst e'
        rw [hK (by rw [q]; simp)] at e; cases e)
    have hM : Mod K mg (n5 s₁.heap (hZ ts Hs)) := ⟨hKb, nsK hns, ⟨mb, nsK hb, hbb⟩, let ⟨mc, h1, h2⟩ := hlim; ⟨mc, nsK h1, h2⟩⟩
    have hBA : ∀ P ∈ ts, (n5 s₁.heap (hZ ts Hs)).BuiltinsAt mg P := fun PT hP => by
      obtain ⟨bm, ob, b1, b2, b3, b4, b5, b6⟩ := hbm
      refine ⟨bm, ob, b1, b2, fun z => ?_, fun z => ?_, base_of b3 (non b3 (fun _ _ z => by rw [b6] at z; cases z) fun _ z => by rw [b6] at z; cases z), b4, b5, b6⟩
      · obtain ⟨o, es, ep, e, d, _⟩ := hns
        rw [<- z, b3] at e; cases e; rw [b6] at d; cases d
      · rw [z, hts PT hP] at b3; cases b3; cases b6
    have e0 : wy P w K mg (n5 s₁.heap (hZ ts Hs)) callerA [] s₁ (hZ ts Hs) := ⟨rfl, hM, fun b o e => Bt e, Nat.le_of_eq (xf _ _), trivial, fun b hb => absurd (show b ∈ ([] : List Addr) from hb) (by simp), hok, .of_eq hg⟩
    refine codeAny_mono ((F _ hKb (nsK hns) hBA).run callerA [] s₁ (hZ ts Hs) ⟨[.ref a], []⟩ [.ref a] [.ref a] _ _ hr e0 (hbind s₁ (.ref a)) (.cons rfl .nil) (hsp _ (fun P hP => inT hP) hS)) fun r s' h => ?_
    cases r with
    | error e => exact h.elim
    | ok fl =>
      cases fl with
      | next => exact False.elim h
      | brk => exact False.elim h
      | cont => exact False.elim h
      | ret u =>
        obtain ⟨v, H', os, bare, un, hok', r', q⟩ := h
        have q' : v = .bl true := q
        subst q'
        obtain rfl : u = Value.bool true := r'
        have old : ∀ b o, s₁.heap.get? b = some o -> b ∉ ts -> s'.heap.get? b = some o := fun b o e hb => by
          cases q : hZ ts Hs b with
          | none => exact un.keep b o e q (by intro z; exact absurd (show b ∈ ([] : List Addr) from z) (by simp)) (by simp)
          | some u =>
            rw [offT hb] at q
            rcases hO b with z | ⟨ob, xs, z⟩
            · rw [q] at z; cases z
            · have z2 := un.ku b ob _ ((offT hb).trans z)
              obtain ⟨e1, _⟩ := hok0 b _ z
              obtain ⟨e2, _⟩ := hok' b _ z2
              rw [e] at e1; cases e1
              exact e2
        have grown : ∀ b ∈ ts, ∃ ps, s'.heap.get? b = some (PySem.W.tabObj ps) := fun b hb => by
          obtain ⟨more, e1⟩ := un.lG b _ (inT hb)
          exact ⟨_, hok' b _ e1⟩
        refine ⟨rfl, ⟨fun b o e => ?_, fun b o e => ?_⟩, os, bare⟩
        · by_cases hb : b ∈ ts
          · obtain ⟨ps, e1⟩ := grown b hb
            obtain ⟨c, C⟩ := hct b hb
            have e2 := hts b hb
            rw [e] at e2; cases e2
            exact .inr (.inl ⟨(C.tab (hts b hb)).isCodeTable, rfl, #[], ps, rfl, by rw [e1]; simp⟩)
          · exact .inl (old b o e hb)
        · by_cases hb : b ∈ ts
          · obtain ⟨ps, e1⟩ := grown b hb; exact ⟨_, e1⟩
          · exact ⟨o, old b o e hb⟩
  cases hk : K.lookup a with
  | some o =>
    have e := KX a o hk
    rw [ha] at e
    cases e
    refine core (fun _ => none) (fun _ => .inl rfl) (.inr ⟨_, vs.toArray, _, hk, rfl, rfl, rfl, by rw [List.size_toArray, lenV]; exact hl, by simpa using rv⟩) (fun b u z => by have z' : (none : Option HO) = some u := z; cases z') (fun b z => absurd rfl z) fun z => absurd rfl z
  | none =>
    refine core (fun b => if b = a then some (.frz { cls := .type "list", data := .seq vs.toArray } (.lst (ns.map V.int))) else none) (fun b => ?_) (.inl ⟨{ cls := .type "list", data := .seq vs.toArray }, ?_⟩) (fun b u z => ?_) (fun b z => ?_) fun _ => hk
    · by_cases hb : b = a
      · exact .inr ⟨_, _, if_pos hb⟩
      · exact .inl (if_neg hb)
    · unfold hZ; rw [if_neg aT]; exact if_pos rfl
    · by_cases hb : b = a
      · have z' := (if_pos hb).symm.trans z
        cases z'
        subst hb
        exact ⟨ha, by rw [List.length_map]; exact hl, vs, _, rv, ha⟩
      · have z' := (if_neg hb).symm.trans z
        cases z'
    · by_cases hb : b = a
      · exact hb
      · exact absurd (if_neg hb) z
noncomputable def tabOf (K : PySem.W.Frag) (c : Addr) : Addr := match K.lookup c with
  | some ⟨_, _, .fields vs, _⟩ => (match (vs[11]? : Option Value) with | some (.ref P) => P | _ => 0)
  | _ => 0
noncomputable def De (K : PySem.W.Frag) (ts : List Addr) : Bool := (K.filterMap fun p => jI K p.1).all (fun q => ts.any (Nat.beq q.1)) && ts.all fun P => (K.lookup P).isNone && K.any fun p => match p.2.data with
  | .func fd => (match fd.code with
    | .ref c => PySem.W.codeHdIn K c P
    | _ => false)
  | _ => false
noncomputable def C9 (K : PySem.W.Frag) (ts : List Addr) (x : Str) (st : Stmt) : Prop := ∃ f fd c, PySem.W.nsIn K mainGlobals x = some (some (.ref f)) /\ Fun K x x st f fd /\ fd.code = .ref c /\ PySem.W.codeHdIn K c (tabOf K c) = true /\ ts.any (Nat.beq (tabOf K c)) = true /\ Nat.beq mainGlobals (tabOf K c) = false
noncomputable def AD (K : PySem.W.Frag) (mg : Str -> Option Value) (base : Heap) (x : Str) (st : Stmt) : Prop := ∀ f fd, mg x = some (.ref f) -> Fun K x x st f fd -> ∃ c PT, Mkr K mg base fd c PT
theorem Es {K : PySem.W.Frag} {ts : List Addr} {x : Str} {st : Stmt} {f c : Addr} {oc : Value} {od an : Option Addr} {osl : Array (Option Value)} {kV doc pm ct : Value} (a : PySem.W.nsIn K mainGlobals x = some (some (.ref f)))
    (l : K.lookup f = some ⟨oc, od, .func (PySem.W.fnOf x x (gM st) (cZ st) (ao st) .none kV doc pm an (.ref c) ct), osl⟩) (cc : PySem.W.codeIn K (.ref c) x = true) (k : PySem.W.keepIn K (.ref f) = true)
    (h1 : PySem.W.codeHdIn K c (tabOf K c) = true) (h2 : ts.any (Nat.beq (tabOf K c)) = true) (h3 : Nat.beq mainGlobals (tabOf K c) = false) : C9 K ts x st := ⟨f, _, c, a, x_ l cc k, rfl, h1, h2, h3⟩
theorem AD.of {K : PySem.W.Frag} {mg : Str -> Option Value} {base h : Heap} {ts : List Addr} {x : Str} {st : Stmt} (X : K.In h) (G : h.Ns mainGlobals mg) (hB : ∀ P ∈ ts, base.BuiltinsAt mg P) (hU : mkU K = true) (m : C9 K ts x st) : AD K mg base x st := by
  intro f fd hm F
  obtain ⟨f2, fd2, c, a, F2, hc, h1, h2, h3⟩ := m
  have hm2 := PySem.W.mg_of X G a
  rw [hm] at hm2
  cases hm2
  obtain ⟨oc, od, osl, l1⟩ := aO F
  obtain ⟨oc', od', osl', l2⟩ := aO F2
  rw [l1] at l2
  cases l2
  obtain ⟨P, hP, e⟩ := List.any_eq_true.mp h2
  have e := Nat.eq_of_beq_eq_true e
  refine ⟨c, tabOf K c, hc, h1, hB _ (by rw [e]; exact hP), fun z => ?_, hU⟩
  rw [<- z, Nat.beq_refl] at h3; cases h3
theorem Bh {k : Nat} {m : MF} {l : PySem.W.OpenLaw} {q : Program} {loose : List Str} {XP : (Str -> Option Value) -> Heap -> Prop} {YP : World -> Heap -> Prop} {d : DefRec} {K : Params -> PySem.W.Frag} {ts : List Addr} (hn : l.most = some 63) (hdf : d.params.defaults = []) (hr : eV k callerA)
    (hY : ∀ (w : World) (h : Heap), YP w h -> (K w.params).In h) (hT : ∀ (w : World) (h : Heap), YP w h -> ∀ P ∈ ts, h.get? P = some (PySem.W.tabObj #[])) (hI : ∀ P, De (K P) ts = true)
    (ok : ∀ ns : List Int, ns.length <= 63 -> ∃ h, m [.scr (ns.map D.int)] [] = .ok (.bl true) h)
    (F : ∀ (w : World) (mg : Str -> Option Value) (fa : Addr) (h : Heap), (K w.params).In h -> h.Ns mainGlobals mg -> mg d.name = some (.ref fa) →
      ∃ fd : FuncData, (∀ (s : Shared) (u : Value), BindsTo s fd ⟨[u], []⟩ [("_law_script", u)]) /\ ∀ base : Heap, (K w.params).In base -> base.Ns mainGlobals mg -> (∀ P ∈ ts, base.BuiltinsAt mg P) -> df l.prog w (K w.params) mg base CX0 k fa fd ["_law_script"] (spM (K w.params) (gOf mg) 1 m)) :
    PySem.W.WalkO q loose XP YP l.row.toRowW d [] (fun f vs => PySem.call f vs) := by
  refine Att.rL hn hdf fun w aM s₁ mg mb fa o pm cd doc a vs ns G Y ho hd hcd hmg hobj hints hlen hg => ?_
  have KX := hY w _ Y
  obtain ⟨fd, hb, hF⟩ := F w mg fa _ KX G.T.g hmg
  have i := hI w.params
  unfold De at i
  obtain ⟨i1, i2⟩ := Bool.and_eq_true_iff.mp i
  have tq : ∀ P ∈ ts, ∃ c, (K w.params).lookup P = none /\ PySem.W.codeHdIn (K w.params) c P = true := fun P hP => by
    have z := Bool.and_eq_true_iff.mp (List.all_eq_true.mp i2 P hP)
    obtain ⟨p, _, y⟩ := List.any_eq_true.mp z.2
    split at y
    · split at y
      · rename_i c _; exact ⟨c, by simpa using z.1, y⟩
      · cases y
    · cases y
  refine vR (sp := fun vs H Q _ => ∃ a ns, vs = [V.ref a] /\ ns.length <= 63 /\ (∀ P ∈ ts, H P = some (.tbl #[])) /\ Fro (K w.params) H a (ns.map V.int) /\ ∀ v H', v = V.bl true -> Q v H') KX G.T.g G.T.b G.T.builtins G.T.nolimit hg G.T.bmain (hT w _ Y) (fun P hP => let ⟨c, _, e⟩ := tq P hP; ⟨c, PySem.W.codeHd_of_K KX e⟩) (fun P hP => let ⟨_, e, _⟩ := tq P hP; e) hobj hints (Nat.le_trans hlen (by decide)) hr
    (fun base kb nb bb => (hF base kb nb bb).imp fun vs H Q E z => ?_) hb (fun H h1 h2 => ⟨a, ns, rfl, hlen, h1, h2, fun _ _ z => z⟩)
  obtain ⟨a, ns, rfl, hl, hO, hS, hQ⟩ := z
  obtain ⟨hh, e⟩ := ok ns hl
  refine ⟨rfl, [], [.scr (ns.map D.int)], [], .cons (.scr hS (aw.ints ns)) .nil, ⟨rfl, fun n m p z => by simp at z, fun n p o z => by simp at z, fun f q e => .inl (hO _ ?_)⟩, ?_⟩
  · obtain ⟨p, hp, z⟩ := List.any_eq_true.mp (List.all_eq_true.mp i1 q (qH e))
    rw [Nat.eq_of_beq_eq_true z]
    exact hp
  · rw [e]
    intro v H' α' _ _ rd
    cases rd
    exact hQ _ _ rfl
noncomputable def iw (cells : List (Str × Addr)) : List (Str × NameKind) -> List (Str × Addr) -> List (Str × Addr)
  | [], cs => cs
  | (n, k) :: r, cs => iw cells r (if k == .free then (n, (cells.lookup n).getD 0) :: cs else cs)
theorem uD {env : Env} : ∀ (ns : List (Str × NameKind)) (cs : List (Str × Addr)), (∀ q ∈ ns, q.2 = .free -> (env.cells.lookup q.1).isSome = true) →
    (forIn ns cs fun (x : Str × NameKind) (r : List (Str × Addr)) => match x with
      | (name, kind) => if (kind == .free) = true then do let c ← cellOf env name; pure (ForInStep.yield ((name, c) :: r)) else pure (ForInStep.yield r) : Sem (List (Str × Addr))) = pure (iw env.cells ns cs)
  | [], cs, _ => by rfl
  | (n, k) :: r, cs, h => by
    rw [List.forIn_cons]
    have ih := fun cs => uD (env := env) r cs fun q hq => h q (List.mem_cons_of_mem _ hq)
    by_cases hk : (k == .free) = true
    · obtain ⟨c, hc⟩ := Option.isSome_iff_exists.mp (h (n, k) (List.mem_cons_self ..) (beq_iff_eq.mp hk))
      have hc : env.cells.lookup n = some c := hc
      simp only [hk, if_true, iw, hc, Option.getD_some, cellOf, pure_bind]
      exact ih _
    · simp only [Bool.not_eq_true] at hk
      simp only [hk, Bool.false_eq_true, if_false, iw, pure_bind]
      exact ih _
theorem Ay {scope : Scope} {env : Env} (h : ∀ q ∈ scope.names, q.2 = .free -> (env.cells.lookup q.1).isSome = true) : closureFor scope env = pure (iw env.cells scope.names []) := by
  exact (congrArg (fun m : Sem (List (Str × Addr)) => m >>= fun s => pure s) (uD scope.names [] h)).trans (pure_bind _ _)
theorem tF {cells : List (Str × Addr)} {z : Str} {c : Addr} : ∀ (ns : List (Str × NameKind)) (cs : List (Str × Addr)), (∀ q ∈ ns, q.2 = .free -> (cells.lookup q.1).isSome = true) -> (∀ z c, cs.lookup z = some c -> cells.lookup z = some c) -> (iw cells ns cs).lookup z = some c -> cells.lookup z = some c
  | [], cs, _, h, e => h z c e
  | (n, k) :: r, cs, hf, h, e => by
    refine tF r _ (fun q hq => hf q (List.mem_cons_of_mem _ hq)) (fun z c => ?_) e
    split
    · rename_i hk
      rw [List.lookup_cons]
      split
      · rename_i hz
        intro q
        cases q
        obtain ⟨c, hc⟩ := Option.isSome_iff_exists.mp (hf (n, k) (List.mem_cons_self ..) (beq_iff_eq.mp hk))
        rw [beq_iff_eq.mp hz, hc]; rfl
      · exact h z c
    · exact h z c
theorem oV {cells : List (Str × Addr)} {z : Str} : ∀ (ns : List (Str × NameKind)) (cs : List (Str × Addr)), (∃ c, cs.lookup z = some c) -> ∃ c, (iw cells ns cs).lookup z = some c
  | [], cs, h => h
  | (n, k) :: r, cs, h => by
    refine oV r _ ?_
    split
    · rw [List.lookup_cons]
      split
      · exact ⟨_, rfl⟩
      · exact h
    · exact h
theorem sj {cells : List (Str × Addr)} {z : Str} : ∀ (ns : List (Str × NameKind)) (cs : List (Str × Addr)), (z, NameKind.free) ∈ ns -> ∃ c, (iw cells ns cs).lookup z = some c
  | (n, k) :: r, cs, h => by
    rcases List.mem_cons.mp h with e | e
    · cases e
      refine oV r _ ?_
      rw [if_pos (by rfl), List.lookup_cons]
      simp
    · exact sj r _ e
section
variable {P : Program} {w : World} {K : PySem.W.Frag} {mg : Str -> Option Value} {base : Heap} {g : GG}
theorem DG {x : Str} {st : Stmt} {f : Addr} {fd : FuncData} {N ps : List Str} {k : Nat} {mb : MS} (rows : List Stmt) {params : Arguments} {body : Expr} {scope : Scope} {pos rpos : Pos} (lf y : Str) (ys : List Str) (ix : List Nat) {c PT : Addr} (F : Fun K x x st f fd) (S : aL N ps (ao st)) (M : Mkr K mg base fd c PT)
    (hbd : cZ st = rows ++ [.Return (some (.Lambda params body scope pos)) rpos]) (hdef : ∀ env, defaultsOf params env = ([], []))
    (hfr : ∀ q ∈ scope.names, q.2 = .free -> (ao st).names.lookup q.1 = some .cell) (hyf : ∀ z ∈ ys, (z, NameKind.free) ∈ scope.names)
    (hix : ix.map (fun i => N[i]?) = ys.map some) (T : sP lf y (x ++ ".<locals>." ++ "<lambda>") ys params body scope)
    (hb : ∀ (cdv : Value) (A : Around) (outer : List Env) (s : Shared) (H : Hp) (E : XK), eV k (A.deeper (envOfC x (ao st) s.heap.objs.size f cdv)) →
      PSs (jq CX0 P w K mg base N x (ao st) f cdv A outer s H E).nox rows (tMS K g E00 mb)) : df P w K mg base CX0 (k + 1) f fd ps (spM K g ps.length (AQ N.length mb lf ix)) := by
  refine Ex (rows := rows) (lf := lf) (y := y) (ys := ys) (ix := ix) F S M hbd hdef (fun L cdv => ?_) (fun z hz => hfr (z, .free) (hyf z hz) rfl) hix T hb
  have hs : ∀ q ∈ scope.names, q.2 = .free -> ((envOfC x (ao st) L f cdv).cells.lookup q.1).isSome = true := fun q hq e => PySem.W.cellsFrom_some _ _ _ (.inl (hfr q hq e))
  exact ⟨_, Ay hs, fun z c e => tF scope.names [] hs (fun _ _ z => nomatch z) e, fun z hz => sj scope.names [] (hyf z hz)⟩
end
end L2.FE
namespace L2.FE
open PySem
section
variable {β γ : Type} {h h1 : Hh} {env : En}
@[simp] theorem cn {b : β} {f : β -> Hh -> R γ} : (R.ok b h).bind f = f b h := Eq.trans rfl rfl
@[simp] theorem DY {f : β -> Hh -> R γ} : (R.bad).bind f = .bad := Eq.trans rfl rfl
@[simp] theorem D_ {c : Prop} [Decidable c] {a b : R β} {f : β -> Hh -> R γ} : (if c then a else b).bind f = if c then a.bind f else b.bind f := by split <;> rfl
@[simp] theorem e_C {d : D} : cC d env h = .ok d h := Eq.trans rfl rfl
@[simp] theorem GB {d : D} {r : En} : af 0 (some d :: r) h = .ok d h := Eq.trans rfl rfl
@[simp] theorem FY {i : Nat} {x : Option D} {r : En} : af (i + 1) (x :: r) h = af i r h := Eq.trans rfl rfl
@[simp] theorem D8 {f : D -> D -> Hh -> R D} {a b : ME} : ar f a b env h = (a env h).bind fun x h1 => (b env h1).bind fun y h2 => f x y h2 := Eq.trans rfl rfl
@[simp] theorem HE {f : D -> Hh -> R D} {a : ME} : cUn f a env h = (a env h).bind fun x h1 => f x h1 := Eq.trans rfl rfl
@[simp] theorem Hl : ak env h = .ok [] h := Eq.trans rfl rfl
@[simp] theorem FI {a : ME} {r : MA} : aa a r env h = (a env h).bind fun x h1 => (r env h1).bind fun xs h2 => .ok (x :: xs) h2 := Eq.trans rfl rfl
@[simp] theorem FX {f : List D -> Hh -> R D} {a : MA} : ah f a env h = (a env h).bind f := Eq.trans rfl rfl
@[simp] theorem Fs {f : D -> List D -> Hh -> R D} {o : ME} {a : MA} : iK f o a env h = (o env h).bind fun x h1 => if isL x h1 = true then (a env h1).bind fun xs h2 => f x xs h2 else .bad := Eq.trans rfl rfl
@[simp] theorem CG {f : D -> Hh -> R Bool} {a : ME} : ay f a env h = (a env h).bind f := Eq.trans rfl rfl
@[simp] theorem G2 {a : MT} : j6 a env h = (a env h).bind fun b h1 => .ok (!b) h1 := Eq.trans rfl rfl
@[simp] theorem FJ {a b : MT} : zf a b env h = (a env h).bind fun x h1 => if x = true then b env h1 else .ok false h1 := Eq.trans rfl rfl
@[simp] theorem Ha {a b : MT} : nZ a b env h = (a env h).bind fun x h1 => if x = true then .ok true h1 else b env h1 := Eq.trans rfl rfl
@[simp] theorem HG {c : MT} {a b : ME} : cIf c a b env h = (c env h).bind fun x h1 => if x = true then a env h1 else b env h1 := Eq.trans rfl rfl
@[simp] theorem G8 {b : Bool} : asB (.bl b) h = .ok b h := Eq.trans rfl rfl
@[simp] theorem F7 {a b : ME} : uY a b env h = (a env h).bind fun x h1 => (asB x h1).bind fun k h2 => if k = true then b env h2 else .ok (.bl false) h2 := Eq.trans rfl rfl
@[simp] theorem GD {a : ME} : zx a env h = (a env h).bind fun x h1 => (asB x h1).bind fun k h2 => .ok (.bl (!k)) h2 := Eq.trans rfl rfl
@[simp] theorem Fo {f f' : D -> D -> Hh -> R D} {a b c : ME} : kK f f' a b c env h = (a env h).bind fun x h1 => (b env h1).bind fun y h2 => (f x y h2).bind fun z h3 => (asB z h3).bind fun k h4 => if k = true then (c env h4).bind fun w h5 => f' y w h5 else .ok (.bl false) h4 := Eq.trans rfl rfl
@[simp] theorem DQ : cY env h = .ok none h := Eq.trans rfl rfl
noncomputable def B5 : D -> Hh -> R (Option Int) := fun d h1 => match d with
  | .int i => .ok (some i) h1
  | _ => .bad
@[simp] theorem Fw {i : Int} : B5 (.int i) h = .ok (some i) h := Eq.trans rfl rfl
@[simp] theorem F_ {a : ME} : eR a env h = (a env h).bind B5 := Eq.trans rfl rfl
@[simp] theorem Fj {nl : NL} {a : ME} {l u : MO} : dD nl a l u env h = (a env h).bind fun x h1 => (l env h1).bind fun lo h2 => (u env h2).bind fun hi h3 => wd nl x lo hi h3 := Eq.trans rfl rfl
@[simp] theorem GW : bf env h = .ok (.nx env) h := Eq.trans rfl rfl
@[simp] theorem G6 : wK env h = .ok (.bk env) h := Eq.trans rfl rfl
noncomputable def A2 (b : MS) : Fl -> Hh -> R Fl := fun fl h1 => match fl with
  | .nx e => b e h1
  | fl => .ok fl h1
@[simp] theorem HJ {b : MS} {e : En} : A2 b (.nx e) h = b e h := Eq.trans rfl rfl
@[simp] theorem HI {b : MS} {e : En} : A2 b (.bk e) h = .ok (.bk e) h := Eq.trans rfl rfl
@[simp] theorem HH {b : MS} {d : D} : A2 b (.rt d) h = .ok (.rt d) h := Eq.trans rfl rfl
@[simp] theorem G9 {a b : MS} : aE a b env h = (a env h).bind (A2 b) := by
  unfold aE
  first | rfl | (congr 1; funext fl h1; cases fl <;> rfl)
@[simp] theorem Gj {a : ME} : iI a env h = (a env h).bind fun _ h1 => .ok (.nx env) h1 := Eq.trans rfl rfl
@[simp] theorem Hw {a : ME} : bu a env h = (a env h).bind fun d h1 => .ok (.rt d) h1 := Eq.trans rfl rfl
@[simp] theorem Hy {c : MT} {a b : MS} : cp c a b env h = (c env h).bind fun x h1 => if x = true then a env h1 else b env h1 := Eq.trans rfl rfl
@[simp] theorem Hd {i : Nat} {a : ME} : a9 i a env h = (a env h).bind fun d h1 => .ok (.nx (env.set i (some d))) h1 := Eq.trans rfl rfl
@[simp] theorem HF {i : Nat} {d : D} : gN i d env h = .ok (env.set i (some d)) h := Eq.trans rfl rfl
@[simp] theorem E3 {i j : Nat} {x y : D} : gT2 i j (.tup [x, y]) env h = .ok ((env.set i (some x)).set j (some y)) h := Eq.trans rfl rfl
@[simp] theorem Hi {i : Nat} {f : D -> D -> Hh -> R D} {a : ME} : vX i f a env h = (af i env h).bind fun x h0 => (a env h0).bind fun y h1 => (f x y h1).bind fun z h2 => .ok (.nx (env.set i (some z))) h2 := Eq.trans rfl rfl
@[simp] theorem Fq {f : D -> D -> D -> Hh -> R Unit} {o i v : ME} : jD f o i v env h = (v env h).bind fun x h1 => (o env h1).bind fun y h2 => (i env h2).bind fun z h3 => (f y z x h3).bind fun _ h4 => .ok (.nx env) h4 := Eq.trans rfl rfl
noncomputable def Cm : Fl -> Hh -> R D := fun fl h1 => match fl with
  | .rt d => .ok d h1
  | .nx _ => .ok .non h1
  | _ => .bad
@[simp] theorem HD {d : D} : Cm (.rt d) h = .ok d h := Eq.trans rfl rfl
@[simp] theorem HC {e : En} : Cm (.nx e) h = .ok .non h := Eq.trans rfl rfl
theorem bG {n : Nat} {m : MS} {ds : List D} : cw n m ds h = (m (ds.map some ++ List.replicate (n - ds.length) none) h).bind Cm := by
  unfold cw
  first | rfl | (congr 1; funext fl h1; cases fl <;> rfl)
section
variable {nl : NL}
@[simp] theorem F8 {i j : Int} : cQ nl (.int i) (.int j) h = .ok (.int (i + j)) h := Eq.trans rfl rfl
@[simp] theorem Fv {i j : Int} : sy (.int i) (.int j) h = .ok (.int (i + j)) h := Eq.trans rfl rfl
@[simp] theorem Gk {i j : Int} : bV (.int i) (.int j) h = .ok (.int (i - j)) h := Eq.trans rfl rfl
@[simp] theorem GK {i : Int} : kr (.int i) h = .ok (.int (-i)) h := Eq.trans rfl rfl
@[simp] theorem Hc {i j : Int} : dLt (.int i) (.int j) h = .ok (.bl (decide (i < j))) h := by unfold dLt; rw [nQ]; rfl
@[simp] theorem Hu {i j : Int} : dLe (.int i) (.int j) h = .ok (.bl (decide (i <= j))) h := by unfold dLe; rw [pT]; rfl
@[simp] theorem Hk {i j : Int} : dGt (.int i) (.int j) h = .ok (.bl (decide (j < i))) h := by unfold dGt; rw [nQ]; rfl
@[simp] theorem Hm {i j : Int} : dGe (.int i) (.int j) h = .ok (.bl (decide (j <= i))) h := by unfold dGe; rw [pT]; rfl
@[simp] theorem G0 {i j : Int} : tW nl (.int i) (.int j) h = if sml i = true /\ sml j = true then .ok (.int (i * j)) h else .bad := Eq.trans rfl rfl
@[simp] theorem GZ {i j : Int} : y0 (.int i) (.int j) h = if 0 < j /\ sml j = true then .ok (.int (i / j)) h else .bad := Eq.trans rfl rfl
@[simp] theorem F6 {i j : Int} : i3 (.int i) (.int j) h = if 0 < j then .ok (.int (i % j)) h else .bad := Eq.trans rfl rfl
@[simp] theorem GA {i j : Int} : Am (.int i) (.int j) h = if 0 <= j /\ j.natAbs <= 1000 /\ sml i = true then .ok (.int (i ^ j.toNat)) h else .bad := Eq.trans rfl rfl
@[simp] theorem FU {i j : Int} : yX [.int i, .int j] h = .ok (.int (max i j)) h := by
  have : (if j > i then j else i) = max i j := by split <;> omega
  rw [<- this]; rfl
@[simp] theorem FT {b : Bool} : xO [.bl b] h = .ok (.int (if b then 1 else 0)) h := Eq.trans rfl rfl
@[simp] theorem HB {ds : List D} : gi ds h = if ds.length <= 1000000 then .ok (.tup ds) h else .bad := Eq.trans rfl rfl
@[simp] theorem G7 {ds : List D} : ij nl ds h = if ds.length <= 1000000 then nl ds h else .bad := Eq.trans rfl rfl
@[simp] theorem FH {ds : List D} : lZ ds h = .ok (.ref h.length) (h ++ [.lst ds]) := Eq.trans rfl rfl
@[simp] theorem Gm {ds : List D} : aN ds h = .ok (.frl ds) h := Eq.trans rfl rfl
@[simp] theorem GX {ds : List D} : bT [.tup ds] h = .ok (.int ds.length) h := Eq.trans rfl rfl
@[simp] theorem FP {ds : List D} : bT [.frl ds] h = .ok (.int ds.length) h := Eq.trans rfl rfl
@[simp] theorem Gw {ds : List D} : bT [.scr ds] h = .ok (.int ds.length) h := Eq.trans rfl rfl
noncomputable def ixK (ds : List D) (i : Int) (h : Hh) : R D := match atI ds i with
  | some d => .ok d h
  | none => .bad
@[simp] theorem BG {ds : List D} {i : Int} : dIx (.tup ds) (.int i) h = ixK ds i h := Eq.trans rfl rfl
@[simp] theorem Hv {ds : List D} {i : Int} : dIx (.frl ds) (.int i) h = ixK ds i h := Eq.trans rfl rfl
@[simp] theorem Hr {ds : List D} {i : Int} : dIx (.scr ds) (.int i) h = ixK ds i h := Eq.trans rfl rfl
theorem ph {n : Nat} {ds : List D} {i : Int} (e : aA h n = some ds) : dIx (.ref n) (.int i) h = ixK ds i h := by
  have z : iF (.ref n) h = some ds := e
  delta dIx; rw [z]; rfl
theorem ym {ds : List D} {i : Int} {d : D} (e : atI ds i = some d) : ixK ds i h = .ok d h := by simp only [ixK, e]
theorem zy {β : Type} {xs : List β} {j : Nat} {v : β} {i : Int} (h : xs[j]? = some v) (e : i = (j : Int)) : atI xs i = some v := by rw [e]; exact AM h
theorem l7 {ds : List D} {i : Int} {j : Nat} {d : D} (e : i = (j : Int)) (e2 : ds[j]? = some d) : ixK ds i h = .ok d h := ym (zy e2 e)
noncomputable def gI (ns : List Int) (i : Nat) : Int := ns.getD i 0
theorem gm {ns : List Int} {j : Nat} (hj : j < ns.length) : gI ns j = ns[j] := by
  unfold gI; rw [List.getD_eq_getElem?_getD, List.getElem?_eq_getElem hj]; rfl
theorem l6 {ns : List Int} {i : Int} {j : Nat} (e : i = (j : Int)) (hj : j < ns.length) : ixK (ns.map D.int) i h = .ok (.int (gI ns j)) h := by
  refine l7 e ?_
  rw [List.getElem?_map, List.getElem?_eq_getElem hj, gm hj]; rfl
@[simp] theorem HA {d : D} {ds : List D} : ixK (d :: ds) 0 h = .ok d h := l7 (j := 0) rfl rfl
@[simp] theorem G_ {d d1 : D} {ds : List D} : ixK (d :: d1 :: ds) 1 h = .ok d1 h := l7 (j := 1) rfl rfl
theorem yq {β : Type} {xs : List β} {x : β} : atI (xs ++ [x]) (-1) = some x := by
  unfold atI ixN
  rw [if_neg (by decide), if_pos (by simp; omega)]
  have : ((-1 : Int) + ((xs ++ [x]).length : Nat)).toNat = xs.length := by simp; omega
  rw [this]; simp
@[simp] theorem r6 {xs : List D} {x : D} : ixK (xs ++ [x]) (-1) h = .ok x h := ym yq
@[simp] theorem GS {ds : List D} {lo hi : Option Int} : wd nl (.tup ds) lo hi h = .ok (.tup (cutD ds lo hi)) h := Eq.trans rfl rfl
@[simp] theorem F0 {ds : List D} {lo hi : Option Int} : wd nl (.frl ds) lo hi h = nl (cutD ds lo hi) h := Eq.trans rfl rfl
@[simp] theorem GQ {ds : List D} {lo hi : Option Int} : wd nl (.scr ds) lo hi h = nl (cutD ds lo hi) h := Eq.trans rfl rfl
@[simp] theorem Gz {a b : List D} : cQ nl (.tup a) (.tup b) h = if a.length + b.length <= 1000000 then .ok (.tup (a ++ b)) h else .bad := Eq.trans rfl rfl
@[simp] theorem Gr {a b : List D} : cQ nl (.frl a) (.frl b) h = if a.length + b.length <= 1000000 then nl (a ++ b) h else .bad := Eq.trans rfl rfl
@[simp] theorem GL {ds : List D} : gb [.frl ds] h = .ok (.tup ds) h := Eq.trans rfl rfl
@[simp] theorem FG {ns : List Int} : iZ [.frl (ns.map D.int)] h = .ok (.int ns.sum) h := by simp only [iZ, iF, gC]
@[simp] theorem GR {b : Bool} : km (.bl b) h = .ok b h := Eq.trans rfl rfl
@[simp] theorem G4 {i j : Int} : dEq (.int i) (.int j) h = .ok (.bl (i == j)) h := Eq.trans rfl rfl
@[simp] theorem Hb {i j : Int} : dNe (.int i) (.int j) h = .ok (.bl (!(i == j))) h := Eq.trans rfl rfl
@[simp] theorem Hz {i j : Str} : dNe (.str i) (.str j) h = .ok (.bl (!(i == j))) h := Eq.trans rfl rfl
@[simp] theorem D0 {i j : Bool} : dEq (.bl i) (.bl j) h = .ok (.bl (i == j)) h := Eq.trans rfl rfl
@[simp] theorem u6 {i : Int} : dP [.int i] h = if sml i = true then .ok (.str (toString i)) h else .bad := Eq.trans rfl rfl
@[simp] theorem GI {i : Int} : tH "int" (.int i) h = .ok (.bl true) h := Eq.trans rfl rfl
@[simp] theorem Gx {i : Int} : tH "bool" (.int i) h = .ok (.bl false) h := Eq.trans rfl rfl
@[simp] theorem Gp {ds : List D} : tH "tuple" (.tup ds) h = .ok (.bl true) h := Eq.trans rfl rfl
@[simp] theorem DW {j : Int} : fZ nl [.int j] h = if j.natAbs <= 1000000 then nl (bE 0 j.toNat) h else .bad := by
  by_cases z : j.natAbs <= 1000000
  · rw [if_pos z]; simp only [fZ, wb, if_pos z]
  · rw [if_neg z]; simp only [fZ, wb, if_neg z]
@[simp] theorem jV {ds : List D} {t : Hh} : aA (h ++ .lst ds :: t) h.length = some ds := by
  unfold aA; rw [List.getElem?_append_right (Nat.le_refl _)]; simp
@[simp] theorem qV {o o' : O} {t : Hh} : (h ++ o :: t).set h.length o' = h ++ o' :: t := by
  rw [List.set_append_right _ _ (Nat.le_refl _)]; simp
@[simp] theorem xI {o : O} {p p' : O} {t : Hh} : (h ++ o :: p :: t).set (h.length + 1) p' = h ++ o :: p' :: t := by
  rw [List.set_append_right _ _ (by omega)]; simp
theorem zc {n : Nat} {ds : List D} (e : aA h n = some ds) : isL (.ref n) h = true := by simp [isL, e]
theorem zK {n : Nat} {ds : List D} {d : D} (e : aA h n = some ds) : gP (.ref n) [d] h = if ds.length < 1000000 then .ok .non (h.set n (.lst (ds ++ [d]))) else .bad := by delta gP; dsimp only; rw [e]
theorem Cq {n : Nat} {ds : List D} (e : aA h n = some ds) : bT [.ref n] h = .ok (.int ds.length) h := by
  unfold aA at e
  split at e
  · rename_i ds' q; cases e; delta bT; dsimp only; rw [q]
  · cases e
theorem qv {n : Nat} {ds : List D} {i : Int} {j : Nat} {v : D} (e : aA h n = some ds) (e2 : ixN ds.length i = some j) : k9 (.ref n) (.int i) v h = .ok () (h.set n (.lst (ds.set j v))) := by delta k9; dsimp only; rw [e]; dsimp only; rw [e2]
theorem yS {n : Nat} {xs ys : List D} {d : D} (e : aA h n = some xs) (e2 : kg d h = some ys) : fH (.ref n) [d] h = if xs.length + ys.length <= 1000000 then .ok .non (h.set n (.lst (xs ++ ys))) else .bad := by delta fH; dsimp only; rw [e, e2]
@[simp] theorem Fu {k : List Int} {t : Hh} : bT [.ref h.length] (h ++ .set k :: t) = .ok (.int k.length) (h ++ .set k :: t) := by
  have : (h ++ O.set k :: t)[h.length]? = some (.set k) := by rw [List.getElem?_append_right (Nat.le_refl _)]; simp
  delta bT; dsimp only; rw [this]
@[simp] theorem Gq {ns : List Int} : xl [.tup (ns.map D.int)] h = if ns.length <= 4000 then .ok (.ref h.length) (h ++ [.set (unl ns)]) else .bad := by delta xl; dsimp only; rw [gC]
@[simp] theorem v_ {ds ys : List D} {t : Hh} : fH (.ref h.length) [.frl ys] (h ++ .lst ds :: t) = if ds.length + ys.length <= 1000000 then .ok .non (h ++ .lst (ds ++ ys) :: t) else .bad := by rw [yS jV rfl, qV]
end
@[simp] theorem GC {a : MA} : cS dz a env h = (a env h).bind dz := Eq.trans rfl rfl
@[simp] theorem Gg {a : MA} : cS tw a env h = (a env h).bind tw := Eq.trans rfl rfl
@[simp] theorem FF {j : Int} : dz [.int j] h = if j.natAbs <= 1000000 then .ok (.snap (bE 0 j.toNat)) h else .bad := Eq.trans rfl rfl
@[simp] theorem GP {i j : Int} : tw [.int i, .int j] h = if i.natAbs <= 1000000 /\ j.natAbs <= 1000000 then .ok (.snap (bE i (j - i).toNat)) h else .bad := Eq.trans rfl rfl
@[simp] theorem Hx {a : ME} : cU a env h = (a env h).bind uc := Eq.trans rfl rfl
@[simp] theorem Gd {a : ME} : kq a env h = (a env h).bind sO := Eq.trans rfl rfl
@[simp] theorem Hf {ds : List D} : uc (.tup ds) h = .ok (.snap ds) h := Eq.trans rfl rfl
@[simp] theorem He {ds : List D} : uc (.frl ds) h = .ok (.snap ds) h := Eq.trans rfl rfl
@[simp] theorem Fm {ds : List D} : sO (.frl ds) h = .ok (.snap (gu ds)) h := Eq.trans rfl rfl
theorem Em {n : Nat} {ds : List D} (e : aA h n = some ds) : uc (.ref n) h = .ok (.live n) h := by simp only [uc, e]
noncomputable def Bz (tg : D -> En -> Hh -> R En) (body : MS) (env : En) : Src -> Hh -> R Fl := fun sr h1 => match sr with
  | .snap ds => eP tg body ds env h1
  | .live n => ft (Src.live n).rdr tg body ((aA h1 n).getD []).length 0 env h1
  | .liveE n => ft (Src.liveE n).rdr tg body ((aA h1 n).getD []).length 0 env h1
@[simp] theorem FN {tg : D -> En -> Hh -> R En} {body : MS} {ds : List D} : Bz tg body env (.snap ds) h = eP tg body ds env h := Eq.trans rfl rfl
@[simp] theorem Hg {mi : MI} {tg : D -> En -> Hh -> R En} {body : MS} : dO mi tg body env h = (mi env h).bind (Bz tg body env) := by
  unfold dO
  congr 1
noncomputable def EU (nl : NL) (tt : MT) (te : ME) (ee : D -> En) : Src -> Hh -> R D := fun sr h1 => if sr.fuel h1 <= 1000000 then
  (match sr with
    | .snap ds => b8 tt te ee ds h1
    | .live n => hV (Src.live n).rdr tt te ee ((aA h1 n).getD []).length 0 [] h1
    | .liveE n => hV (Src.liveE n).rdr tt te ee ((aA h1 n).getD []).length 0 [] h1).bind nl else .bad
@[simp] theorem GF {nl : NL} {mi : MI} {ix : List Nat} {tt : MT} {te : ME} : bA nl mi ix tt te env h = (mi env h).bind (EU nl tt te (jZ ix env)) := Eq.trans rfl rfl
@[simp] theorem Fx {nl : NL} {tt : MT} {te : ME} {ee : D -> En} {ds : List D} : EU nl tt te ee (.snap ds) h = if ds.length <= 1000000 then (b8 tt te ee ds h).bind nl else .bad := Eq.trans rfl rfl
@[simp] theorem DN {lo : Int} {n : Nat} : (bE lo n).length = n := by simp [bE]
@[simp] theorem Ho {ix : List Nat} : jZ ix env = fun d => some d :: ix.map fun i => (env[i]?).join := Eq.trans rfl rfl
@[simp] theorem EX : tt1 env h = .ok true h := Eq.trans rfl rfl
@[simp] theorem Fp {f : Nat} {c : MT} {b : MS} : qJ f c b env h = gA c b f env h := Eq.trans rfl rfl
noncomputable def CZ (tg : D -> En -> Hh -> R En) (body : MS) (ds : List D) : Fl -> Hh -> R Fl := fun fl h2 => match fl with
  | .nx e => eP tg body ds e h2
  | .ct e => eP tg body ds e h2
  | .bk e => .ok (.nx e) h2
  | .rt d => .ok (.rt d) h2
theorem j8 {tg : D -> En -> Hh -> R En} {body : MS} : eP tg body [] env h = .ok (.nx env) h := rfl
theorem gk {tg : D -> En -> Hh -> R En} {body : MS} {d : D} {ds : List D} : eP tg body (d :: ds) env h = (tg d env h).bind fun e1 h1 => (body e1 h1).bind (CZ tg body ds) := rfl
@[simp] theorem G5 {tg : D -> En -> Hh -> R En} {body : MS} {ds : List D} {e : En} : CZ tg body ds (.nx e) h = eP tg body ds e h := Eq.trans rfl rfl
@[simp] theorem Hj {tg : D -> En -> Hh -> R En} {body : MS} {ds : List D} {e : En} : CZ tg body ds (.bk e) h = .ok (.nx e) h := Eq.trans rfl rfl
theorem wY (ns : List Int) : gu (ns.map D.int) = (List.range ns.length).map fun (i : Nat) => D.tup [.int i, .int (gI ns i)] := by
  unfold gu
  rw [List.length_map]
  apply List.map_congr_left
  intro i hi
  have hi : i < ns.length := List.mem_range.mp hi
  rw [List.getD_eq_getElem?_getD, List.getElem?_map, List.getElem?_eq_getElem hi, gm hi]; rfl
theorem sH {σ X : Type} {tg : D -> En -> Hh -> R En} {body : MS} (E : σ -> En) (G : σ -> Hh) (enc : X -> D) (f : σ -> X -> σ) (I : List X -> σ -> Prop) (st : ∀ s x r, I (x :: r) s -> I r (f s x) /\ ((tg (enc x) (E s) (G s)).bind body = .ok (.nx (E (f s x))) (G (f s x)) \/ (tg (enc x) (E s) (G s)).bind body = .ok (.ct (E (f s x))) (G (f s x)))) :
    ∀ (xs : List X) (s : σ), I xs s -> eP tg body (xs.map enc) (E s) (G s) = .ok (.nx (E (xs.foldl f s))) (G (xs.foldl f s)) /\ I [] (xs.foldl f s)
  | [], s, i => ⟨rfl, i⟩
  | x :: xs, s, i => by
    obtain ⟨i1, e⟩ := st s x xs i
    obtain ⟨e2, i2⟩ := sH E G enc f I st xs (f s x) i1
    refine ⟨?_, i2⟩
    rw [List.map_cons, eP]
    rw [<- cx]
    rcases e with e | e <;> rw [e] <;> exact e2
theorem comp_map {X : Type} {tt : MT} {te : ME} {ee : D -> En} (enc : X -> D) (p : X -> Bool) (g : X -> D) : ∀ (xs : List X), (∀ x ∈ xs, tt (ee (enc x)) h = .ok (p x) h /\ (p x = true -> te (ee (enc x)) h = .ok (g x) h)) →
    b8 tt te ee (xs.map enc) h = .ok ((xs.filter p).map g) h
  | [], _ => rfl
  | x :: xs, st => by
    obtain ⟨e1, e2⟩ := st x List.mem_cons_self
    have ih := comp_map enc p g xs fun y hy => st y (List.mem_cons_of_mem _ hy)
    rw [List.map_cons, b8, e1, cn]
    cases hp : p x with
    | false => rw [if_neg Bool.false_ne_true, ih, List.filter_cons_of_neg (by simp [hp])]
    | true => rw [if_pos rfl, e2 hp, cn, ih, cn, List.filter_cons_of_pos hp, List.map_cons]
theorem sN {X : Type} {te : ME} {ee : D -> En} (enc : X -> D) (g : X -> D) (xs : List X) (st : ∀ x ∈ xs, te (ee (enc x)) h = .ok (g x) h) : b8 tt1 te ee (xs.map enc) h = .ok (xs.map g) h := by
  have := comp_map (tt := tt1) (ee := ee) (h := h) enc (fun _ => true) g xs fun x hx => ⟨rfl, fun _ => st x hx⟩
  rw [List.filter_eq_self.mpr fun _ _ => rfl] at this
  exact this
theorem dQ (n : Nat) : bE 0 n = (List.range n).map fun (i : Nat) => D.int i := by
  unfold bE
  apply List.map_congr_left
  intro i _
  rw [Int.zero_add]
theorem nh {n : Nat} {tt : MT} {te : ME} {ee : D -> En} (p : Nat -> Bool) (g : Nat -> D) (st : ∀ i, i < n -> tt (ee (.int (i : Nat))) h = .ok (p i) h /\ (p i = true -> te (ee (.int (i : Nat))) h = .ok (g i) h)) :
    b8 tt te ee (bE 0 n) h = .ok (((List.range n).filter p).map g) h := by
  rw [dQ, comp_map (fun (i : Nat) => D.int i) p g (List.range n) fun i hi => st i (List.mem_range.mp hi)]
theorem pF {n : Nat} {te : ME} {ee : D -> En} (g : Nat -> D) (st : ∀ i, i < n -> te (ee (.int (i : Nat))) h = .ok (g i) h) :
    b8 tt1 te ee (bE 0 n) h = .ok ((List.range n).map g) h := by
  rw [dQ, sN (fun (i : Nat) => D.int i) g (List.range n) fun i hi => st i (List.mem_range.mp hi)]
noncomputable def Wf (h : Hh) : Prop := h.all (nY h.length) = true
mutual
theorem wt {j k : Nat} (h : j <= k) : ∀ (d : D), eX j d = true -> eX k d = true
  | .non, _ => rfl | .bl _, _ => rfl | .int _, _ => rfl | .str _, _ => rfl | .fn _, _ => rfl | .edic, _ => rfl | .exc _ _, _ => rfl
  | .clo _ ds, e => by simp only [eX] at e ⊢; exact cD h ds e
  | .ref n, e => by simp only [eX, decide_eq_true_eq] at e ⊢; omega
  | .tup ds, e => by simp only [eX] at e ⊢; exact cD h ds e
  | .frl ds, e => by simp only [eX] at e ⊢; exact cD h ds e
  | .scr ds, e => by simp only [eX] at e ⊢; exact cD h ds e
theorem cD {j k : Nat} (h : j <= k) : ∀ (ds : List D), bz j ds = true -> bz k ds = true
  | [], _ => rfl
  | d :: ds, e => by
    simp only [bz, Bool.and_eq_true] at e ⊢
    exact ⟨wt h d e.1, cD h ds e.2⟩
end
theorem w_ {j k : Nat} (h : j <= k) (o : O) (e : nY j o = true) : nY k o = true := by
  cases o with
  | lst ds => exact cD h ds e
  | set n => rfl
  | dic kvs => exact cD h _ e
  | dit kvs => exact cD h _ e
theorem iX {k : Nat} : ∀ {ds : List D}, (∀ d ∈ ds, eX k d = true) -> bz k ds = true
  | [], _ => rfl
  | d :: ds, h => by simp only [bz, Bool.and_eq_true]; exact ⟨h d List.mem_cons_self, iX fun e he => h e (List.mem_cons_of_mem _ he)⟩
@[simp] theorem oZ {X : Type} {k : Nat} {f : X -> D} {xs : List X} (h : ∀ x, eX k (f x) = true) : bz k (xs.map f) = true := iX fun d hd => by
  obtain ⟨x, _, rfl⟩ := List.mem_map.mp hd; exact h x
@[simp] theorem m4 {k : Nat} {ns : List Int} : bz k (ns.map D.int) = true := oZ fun _ => rfl
theorem Wf.nil : Wf [] := rfl
theorem Wf.app {h : Hh} {o : O} (w : Wf h) (l : nY (h.length + 1) o = true) : Wf (h ++ [o]) := by
  unfold Wf at w ⊢
  rw [List.all_append, List.length_append, List.length_singleton]
  simp only [List.all_cons, List.all_nil, Bool.and_true, Bool.and_eq_true]
  refine ⟨?_, l⟩
  rw [List.all_eq_true] at w ⊢
  exact fun x hx => w_ (Nat.le_succ _) x (w x hx)
noncomputable def deep : Nat -> D -> Bool
  | 0, _ => false
  | f + 1, d => match d with
    | .ref _ => false
    | .scr _ => false
    | .tup ds => ds.all (deep f)
    | .frl ds => ds.all (deep f)
    | .clo _ ds => bz 0 ds
    | _ => true
theorem j3 {f : D -> Option D} : ∀ {ds : List D}, (∀ d ∈ ds, f d = some d) -> kD f ds = some ds
  | [], _ => rfl
  | d :: ds, h => by simp only [kD, h d List.mem_cons_self, j3 fun e he => h e (List.mem_cons_of_mem _ he)]
theorem gx {k : Nat} {h : Hh} : ∀ (f : Nat) (d : D), deep f d = true -> fc k h f d = some d
  | 0, _, e => by cases e
  | f + 1, d, e => by
    unfold deep at e
    unfold fc
    cases d with
    | ref n => cases e
    | scr n => cases e
    | tup ds => simp only [List.all_eq_true] at e; show Option.map D.tup (kD (fc k h f) ds) = _; rw [j3 (f := fc k h f) fun d hd => gx f d (e d hd)]; rfl
    | frl ds => simp only [List.all_eq_true] at e; show Option.map D.frl (kD (fc k h f) ds) = _; rw [j3 (f := fc k h f) fun d hd => gx f d (e d hd)]; rfl
    | clo g ds => show (if bz 0 ds = true then some (D.clo g ds) else none) = _; rw [if_pos (show bz 0 ds = true from e)]
    | _ => rfl
theorem jn {d : D} {t : Hh} (w : Wf h) (e : deep 8 d = true) : cR h d (h ++ t) = .ok d h := by
  unfold cR
  rw [List.take_left' rfl, if_pos (show h.all (nY h.length) = true from w), gx 8 d e]
theorem v9 {ds : List D} {t : Hh} (w : Wf h) (e : ds.all (deep 7) = true) : cR h (.ref h.length) (h ++ .lst ds :: t) = .ok (.frl ds) h := by
  unfold cR
  rw [List.take_left' rfl, if_pos (show h.all (nY h.length) = true from w)]
  have : fc h.length (h ++ .lst ds :: t) 8 (.ref h.length) = some (.frl ds) := by
    unfold fc
    simp only [Nat.lt_irrefl, if_false, jV]
    rw [List.all_eq_true] at e
    rw [j3 fun d hd => gx 7 d (e d hd)]; rfl
  rw [this]
@[simp] theorem Ee {f : Nat} {i : Int} : deep (f + 1) (.int i) = true := rfl
@[simp] theorem Fn {f : Nat} {i : Bool} : deep (f + 1) (.bl i) = true := rfl
@[simp] theorem EC {f : Nat} {i : Str} : deep (f + 1) (.str i) = true := rfl
@[simp] theorem Ez {f : Nat} : deep (f + 1) .non = true := rfl
@[simp] theorem DM {f : Nat} : deep (f + 1) .edic = true := rfl
@[simp] theorem DS {f : Nat} {ds : List D} : deep (f + 1) (.tup ds) = ds.all (deep f) := rfl
@[simp] theorem EN {f : Nat} {ds : List D} : deep (f + 1) (.frl ds) = ds.all (deep f) := rfl
end
noncomputable def Ok {β : Type} (r : R β) (Q : β -> Hh -> Prop) : Prop := ∃ b h, r = .ok b h /\ Q b h
section
variable {β γ : Type} {Q : β -> Hh -> Prop} {h h1 h2 : Hh}
theorem Ok.mono {r : R β} {Q' : β -> Hh -> Prop} (o : Ok r Q) (q : ∀ b h, Q b h -> Q' b h) : Ok r Q' := let ⟨b, h, e, z⟩ := o; ⟨b, h, e, q b h z⟩
end
theorem qY {X : Type} {tg : D -> En -> Hh -> R En} {body : MS} {QS : Fl -> Hh -> Prop} (enc : X -> D) (I : En -> Hh -> Prop) :
    ∀ (xs : List X) (env : En) (h : Hh), I env h -> (∀ x e h, x ∈ xs -> I e h -> Ok ((tg (enc x) e h).bind body) fun fl h2 => match fl with
      | .nx e => I e h2
      | .ct e => I e h2
      | .bk e => QS (.nx e) h2
      | .rt d => QS (.rt d) h2) -> (∀ e h, I e h -> QS (.nx e) h) -> Ok (eP tg body (xs.map enc) env h) QS
  | [], env, h, i, _, q => ⟨_, _, rfl, q _ _ i⟩
  | x :: xs, env, h, i, st, q => by
    obtain ⟨fl, h2, e, z⟩ := st x env h List.mem_cons_self i
    rw [List.map_cons, eP, <- cx, e, cn]
    cases fl with
    | nx e' => exact qY enc I xs e' h2 z (fun y e h hy => st y e h (List.mem_cons_of_mem _ hy)) q
    | ct e' => exact qY enc I xs e' h2 z (fun y e h hy => st y e h (List.mem_cons_of_mem _ hy)) q
    | bk e => exact ⟨_, _, rfl, z⟩
    | rt d => exact ⟨_, _, rfl, z⟩
end L2.FE
namespace L2.FE
open PySem PySem.Spec PyProof.Rows
noncomputable def gj (h : Hh) (n : Nat) : Option (List (Key × D)) := match h[n]? with
  | some (.dic kvs) => some kvs
  | _ => none
noncomputable def eI : List (Key × D) -> Key -> Option D
  | [], _ => none
  | p :: r, k => if p.1 = k then some p.2 else eI r k
noncomputable def putD (kvs : List (Key × D)) (k : Key) (d : D) : List (Key × D) :=
  if (kvs.any fun kv => decide (kv.1 = k)) = true then kvs.map (fun kv => if kv.1 = k then (kv.1, d) else kv) else kvs ++ [(k, d)]
noncomputable abbrev PD (K : PySem.W.Frag) (g : GG) (α : List Addr) (H : Hp) : List (Key × D) -> List (Key × V) -> Prop := Paired (fun (a : Key × D) (b : Key × V) => a.1 = b.1 /\ aG K g α H a.2 b.2)
section
variable {K : PySem.W.Frag} {g : GG} {α : List Addr} {H : Hp} {h : Hh}
theorem aP.dic {n : Nat} {p : Addr} {kvs : List (Key × D)} (r : aP K g α H h) (e : gj h n = some kvs) (hp : α[n]? = some p) : ∃ kws, H p = some (.dK kws) /\ PD K g α H kvs kws := by
  unfold gj at e
  cases eo : h[n]? with
  | none => rw [eo] at e; cases e
  | some o =>
    rw [eo] at e
    cases o with
    | dic k => cases e; exact r.here n p _ hp eo
    | _ => cases e
theorem PD.val (k : Key) : ∀ {kvs : List (Key × D)} {kws : List (Key × V)}, PD K g α H kvs kws -> (eI kvs k = none /\ jC kws k = none) \/ ∃ d v, eI kvs k = some d /\ jC kws k = some v /\ aG K g α H d v
  | _, _, .nil => .inl ⟨rfl, rfl⟩
  | p :: r, q :: t, .cons c rr => by
    by_cases e : p.1 = k
    · exact .inr ⟨p.2, q.2, if_pos e, jH (c.1 ▸ e), c.2⟩
    · rw [show eI (p :: r) k = eI r k from if_neg e, jK (c.1 ▸ e)]
      exact PD.val k rr
theorem PD.any (k : Key) : ∀ {kvs : List (Key × D)} {kws : List (Key × V)}, PD K g α H kvs kws -> (kvs.any fun kv => decide (kv.1 = k)) = kws.any fun kv => decide (kv.1 = k)
  | _, _, .nil => rfl
  | p :: r, q :: t, .cons c rr => by rw [List.any_cons, List.any_cons, PD.any k rr, c.1]
theorem PD.wx (k : Key) {d : D} {v : V} (rd : aG K g α H d v) : ∀ {kvs : List (Key × D)} {kws : List (Key × V)}, PD K g α H kvs kws →
    PD K g α H (kvs.map fun kv => if kv.1 = k then (kv.1, d) else kv) (kws.map fun kv => if kv.1 = k then (kv.1, v) else kv)
  | _, _, .nil => .nil
  | p :: r, q :: t, .cons c rr => by
    refine .cons ?_ (PD.wx k rd rr)
    dsimp only
    by_cases e : p.1 = k
    · rw [if_pos e, if_pos (c.1 ▸ e)]; exact ⟨c.1, rd⟩
    · rw [if_neg e, if_neg (c.1 ▸ e)]; exact c
theorem PD.snoc {x : Key × D} {y : Key × V} (c : x.1 = y.1 /\ aG K g α H x.2 y.2) : ∀ {kvs : List (Key × D)} {kws : List (Key × V)}, PD K g α H kvs kws -> PD K g α H (kvs ++ [x]) (kws ++ [y])
  | _, _, .nil => .cons c .nil
  | _ :: _, _ :: _, .cons b rr => .cons b (PD.snoc c rr)
theorem PD.put (k : Key) {d : D} {v : V} (rd : aG K g α H d v) {kvs : List (Key × D)} {kws : List (Key × V)} (r : PD K g α H kvs kws) : PD K g α H (putD kvs k d) (putK kws k v) := by
  unfold putD putK
  rw [PD.any k r]
  split
  · exact PD.wx k rd r
  · exact PD.snoc ⟨rfl, rd⟩ r
theorem PD.ext {α' : List Addr} {H' : Hp} {kvs : List (Key × D)} {kws : List (Key × V)} (e : Ext K α H α' H') (r : PD K g α H kvs kws) : PD K g α' H' kvs kws := Paired.EI e.toEx0 r
theorem PD.length : ∀ {kvs : List (Key × D)} {kws : List (Key × V)}, PD K g α H kvs kws -> kvs.length = kws.length
  | _, _, .nil => rfl
  | _ :: _, _ :: _, .cons _ rr => congrArg (· + 1) (PD.length rr)
theorem aK.dic {Q : VK} {kvs : List (Key × D)} {kws : List (Key × V)} {p : Addr} (w : aK K g α H Q (.ref h.length) (h ++ [.dic kvs])) (r : aP K g α H h) (rs : PD K g α H kvs kws) (hp : H p = none) : Q (.ref p) (upd H p (.dK kws)) := by
  have x := Ext.push (K := K) (α := α) (o := .dK kws) hp
  exact w _ _ _ x (r.push hp ⟨_, a_, rs.ext x⟩) (.ref (by rw [<- r.len]; simp))
end
noncomputable def nN : D -> Option Key
  | .int i => some (.inl i)
  | .str x => some (.inr x)
  | _ => none
theorem uf {K : PySem.W.Frag} {g : GG} {α : List Addr} {H : Hp} {d : D} {v : V} {k : Key} (r : aG K g α H d v) (e : nN d = some k) : v = kV k := by
  cases r <;> cases e <;> rfl
noncomputable def oX : ME := fun _ h => .ok (.ref h.length) (h ++ [.dic []])
noncomputable def pf : D -> D -> Hh -> R D := fun o i h => match o, nN i with
  | .ref n, some k => match gj h n with
    | some kvs => match eI kvs k with
      | some d => .ok d h
      | none => .bad
    | none => .bad
  | _, _ => .bad
noncomputable def oQ : D -> D -> D -> Hh -> R Unit := fun o i v h => match o, nN i with
  | .ref n, some k => match gj h n with
    | some kvs => if kvs.length < 1000000 then .ok () (h.set n (.dic (putD kvs k v))) else .bad
    | none => .bad
  | _, _ => .bad
section
variable {X : Cx} {g : GG} {ε : EE} {o i e f : Expr} {mo mi me mf : ME} {pos : Pos}
theorem un1 {A : Around} (h : A.units + 64 < cLine) : A.units + 1 < cLine := by omega
theorem A0 : PE X (.Dict [] [] pos) (tM X.K g ε oX) :=
  PE.imp xQ fun σ H Q ⟨α, env, h, s, w⟩ p hp => aK.dic (show aK X.K g α H Q _ _ from w) s.heap .nil hp
theorem Aq (hu : X.A.units + 1 < cLine) (ho : PE X o (tM X.K g ε mo)) (hi : PE X i (tM X.K g ε mi)) (hs : CK i) : PE X (.Subscript o i pos) (tM X.K g ε (ar pf mo mi)) :=
  PE.imp (Br hu ho hi hs) fun σ H Q ⟨α, env, h, s, w⟩ => tM.use s w.bind fun d1 h1 v1 H1 α1 e1 s1 r1 w1 => tM.use s1 (w1.ext e1).bind fun d2 h2 v2 H2 α2 e2 s2 r2 w2 => by
    unfold pf at w2
    cases ek : nN d2 with
    | none => rw [ek] at w2; cases d1 <;> exact w2.elim
    | some k =>
      rw [ek] at w2
      cases r1 with
      | @ref n p hp =>
        simp only at w2
        cases ed : gj h2 n with
        | none => rw [ed] at w2; exact w2.elim
        | some kvs =>
          rw [ed] at w2
          have hp2 : α2[n]? = some p := by
            obtain ⟨l, rfl⟩ := e2.toEx0.pre
            rw [List.getElem?_append_left]
            · exact hp
            · by_cases hl : n < α1.length
              · exact hl
              · rw [List.getElem?_eq_none (by omega)] at hp; cases hp
          obtain ⟨kws, hd, rs⟩ := s2.heap.dic ed hp2
          simp only at w2
          rcases rs.val k with ⟨ev, _⟩ | ⟨d, v, ev, ew, rv⟩
          · rw [ev] at w2; exact w2.elim
          · rw [ev] at w2
            refine ⟨p, v, rfl, ?_, aK.now (aK.ext (e1.trans e2) (show aK X.K g α H Q d h2 from w2)) s2.heap rv⟩
            rw [uf r2 ek, <- ew]
            exact qM.k hd
      | _ => exact w2.elim
theorem Dr {p : Pos} (hu : X.A.units + 1 < cLine) (he : PE X e (tM X.K g ε me)) (ho : PE X o (tM X.K g ε mo)) (hi : PE X i (tM X.K g ε mi))
    (hs : swapsWith e (some (.Subscript o i p)) pos.line X.env = pure false := by rfl) : PS X (.Assign [.Subscript o i p] e pos) (tMS X.K g ε (jD oQ mo mi me)) :=
  PS.imp (A6 hu ho hi he hs) fun E σ H ⟨α, env, h, s, w⟩ => tM.use s w.bind fun d1 h1 v1 H1 α1 e1 s1 r1 w1 => tM.use s1 (w1.ext e1).bind fun d2 h2 v2 H2 α2 e2 s2 r2 w2 => tM.use s2 (w2.ext e2).bind fun d3 h3 v3 H3 α3 e3 s3 r3 w3 => by
    have w4 := (w3.ext e3).bind
    unfold oQ at w4
    cases ek : nN d3 with
    | none => rw [ek] at w4; cases d2 <;> exact w4.elim
    | some k =>
      rw [ek] at w4
      cases (r2.ext e3) with
      | @ref n p hp =>
        simp only at w4
        cases ed : gj h3 n with
        | none => rw [ed] at w4; exact w4.elim
        | some kvs =>
          rw [ed] at w4
          obtain ⟨hl, w4⟩ := WQ.eD w4
          obtain ⟨kws, hd, rs⟩ := s3.heap.dic ed hp
          refine ⟨p, _, rfl, by rw [uf r3 ek]; exact yR.k hd (by rw [<- rs.length, sizeLine_eq]; omega), ?_⟩
          have x := Ext.write (o := .dK (putK kws k v1)) s3.heap hp
          have ra := (r1.ext e2).ext e3
          exact (show cu X.K g α H E (.nx env) _ from w4) _ _ (e1.trans (e2.trans (e3.trans x))) (s3.heap.write hp ⟨_, a_, (rs.put k ra).ext x⟩) _ (s3.vs.ext x)
      | _ => exact w4.elim
end
section
variable {X : Cx} {g : GG} {ε : EE} {K : PySem.W.Frag}
noncomputable def eqI (i : Int) : Value -> Bool
  | .int c _ => c == i
  | _ => false
theorem jY : ∀ {ns : List Int} {us : List Value} {m : Nat} (h : m < us.length), Vals (ns.map V.int) us -> ∃ (h' : m < ns.length) (t : Tok), us[m] = Value.int ns[m] t
  | [], _, m, h, .nil => absurd h (Nat.not_lt_zero _)
  | n :: ns, _, 0, h, .cons r t => by obtain ⟨t, e⟩ := r; exact ⟨Nat.zero_lt_succ _, t, e⟩
  | n :: ns, _ :: us, m + 1, h, .cons r t => by
    obtain ⟨h', t', e⟩ := jY (m := m) (by simpa using h) t
    exact ⟨by simpa using h', t', by simpa using e⟩
end
theorem us0 {P : List Value -> Prop} {us : List Value} (hl : us.length = 0) (h : P []) : P us := by cases us with | nil => exact h | cons _ _ => cases hl
theorem us1 {P : List Value -> Prop} {us : List Value} (hl : us.length = 1) (h : ∀ a, P [a]) : P us := by cases us with | nil => cases hl | cons a us => exact us0 (P := fun us => P (a :: us)) (Nat.succ.inj hl) (h a)
theorem us2 {P : List Value -> Prop} {us : List Value} (hl : us.length = 2) (h : ∀ a b, P [a, b]) : P us := by cases us with | nil => cases hl | cons a us => exact us1 (P := fun us => P (a :: us)) (Nat.succ.inj hl) (h a)
theorem us3 {P : List Value -> Prop} {us : List Value} (hl : us.length = 3) (h : ∀ a b c, P [a, b, c]) : P us := by cases us with | nil => cases hl | cons a us => exact us2 (P := fun us => P (a :: us)) (Nat.succ.inj hl) (h a)
theorem us4 {P : List Value -> Prop} {us : List Value} (hl : us.length = 4) (h : ∀ a b c d, P [a, b, c, d]) : P us := by cases us with | nil => cases hl | cons a us => exact us3 (P := fun us => P (a :: us)) (Nat.succ.inj hl) (h a)
theorem i4 {fd : FuncData} {ps : List Str} {us : List Value} (hl : us.length = 1) (h : ∀ a : Value, bindArgs fd ⟨[a], []⟩ = pure (ps.zip [a])) : bindArgs fd ⟨us, []⟩ = pure (ps.zip us) := us1 (P := fun us => bindArgs fd ⟨us, []⟩ = pure (ps.zip us)) hl h
theorem vV {fd : FuncData} {ps : List Str} {us : List Value} (hl : us.length = 2) (h : ∀ a b : Value, bindArgs fd ⟨[a, b], []⟩ = pure (ps.zip [a, b])) : bindArgs fd ⟨us, []⟩ = pure (ps.zip us) := us2 (P := fun us => bindArgs fd ⟨us, []⟩ = pure (ps.zip us)) hl h
theorem vT {fd : FuncData} {ps : List Str} {us : List Value} (hl : us.length = 3) (h : ∀ a b c : Value, bindArgs fd ⟨[a, b, c], []⟩ = pure (ps.zip [a, b, c])) : bindArgs fd ⟨us, []⟩ = pure (ps.zip us) := us3 (P := fun us => bindArgs fd ⟨us, []⟩ = pure (ps.zip us)) hl h
theorem E4 {fd : FuncData} {ps : List Str} {us : List Value} (hl : us.length = 4) (h : ∀ a b c d : Value, bindArgs fd ⟨[a, b, c, d], []⟩ = pure (ps.zip [a, b, c, d])) : bindArgs fd ⟨us, []⟩ = pure (ps.zip us) := us4 (P := fun us => bindArgs fd ⟨us, []⟩ = pure (ps.zip us)) hl h
section
variable {X : Cx} {g : GG} {ε : EE} {K : PySem.W.Frag}
noncomputable def vD : V -> List V -> Hp -> VK -> Prop := fun x vs H Q => ∃ (l : Addr) (ns : List Int) (i : Int) (j : Nat), x = .ref l /\ vs = [.int i] /\ H l = some (.lst (ns.map V.int)) /\ ns.findIdx? (· == i) = some j /\ ns.length < 1000000 /\ Q .non (upd H l (.lst ((ns.map V.int).take j ++ (ns.map V.int).drop (j + 1))))
theorem wZ : MtM X "list.remove" vD := by
  intro pins s σ H x vs v us Q I rx rv h
  obtain ⟨l, ns, i, j, rfl, rfl, hH, hj, hz, q⟩ := h
  cases rx
  obtain ⟨u, rfl, ru⟩ := rv.one
  obtain ⟨t0, rfl⟩ := ru
  obtain ⟨z, its, n, r, hl, e⟩ := I.Cw hH
  obtain ⟨hlt, hit, hno⟩ := List.findIdx?_eq_some_iff_getElem.mp hj
  have hlen : its.length = ns.length := by have := r.length; simpa using this.symm
  refine call_meets F.slot_list_remove ⟨_, e, rfl⟩ F.entry_list_remove (F.args_list_remove_2 _ _) (MeetsSeq.list_remove l its.toArray n (.int i t0) (eqI i) (fun y hy => ?_) j (by simpa [hlen] using hlt) ?_ ?_ ?_) ⟨e, ?_⟩
  · obtain ⟨m, hm, e'⟩ := List.getElem_of_mem (by simpa using hy : y ∈ its)
    obtain ⟨h', t', e2⟩ := jY hm r
    rw [<- e', e2]
    exact MeetsSeq.EqGives.int _ _ _ _
  · obtain ⟨h', t', e2⟩ := jY (m := j) (by omega) r
    show eqI i its[j] = true
    rw [e2]; exact hit
  · intro m hm h2
    obtain ⟨h', t', e2⟩ := jY (m := m) (by simpa using hm) r
    show eqI i its[m] = false
    rw [e2]
    have := hno m h2
    simpa [eqI] using this
  · rw [List.size_toArray, sizeLine_eq]; omega
  · refine ⟨.non, _, I.Dx (its' := its.take j ++ its.drop (j + 1)) hH e ?_ ((r.take j).append (r.drop (j + 1))) ?_, rfl, q⟩
    · apply Array.toList_inj.mp
      simp [Array.toList_eraseIdxIfInBounds, List.eraseIdx_eq_take_drop_succ]
    · have : ((ns.map V.int).take j ++ (ns.map V.int).drop (j + 1)).length <= ns.length := by simp; omega
      exact Nat.le_trans this (Nat.le_trans (Nat.le_of_lt hz) (by rw [sizeLine_eq]; decide))
noncomputable def gQ : D -> List D -> Hh -> R D := fun o ds h => match o, ds with
  | .ref n, [.int i] => match aA h n with
    | some xs => match intsOf xs with
      | some ns => match ns.findIdx? (· == i) with
        | some j => if ns.length < 1000000 then .ok .non (h.set n (.lst (xs.take j ++ xs.drop (j + 1)))) else .bad
        | none => .bad
      | none => .bad
    | none => .bad
  | _, _ => .bad
theorem wF : Ax K g ε gQ vD := by
  intro α H h o a y x Q r ro ra w
  unfold gQ at w
  split at w
  · split at w
    · split at w
      · split at w
        · rename_i n i _ xs e _ ns e2 _ j e5
          obtain ⟨hl, w⟩ := WQ.eD w
          cases ro with
          | @ref _ p hp =>
            cases ra with
            | cons rd rr =>
              cases rd
              cases rr
              obtain ⟨vs, hv, rs⟩ := r.lst e hp
              have e3 := fI e2
              subst e3
              have e4 := rs.vd
              subst e4
              refine ⟨p, ns, i, j, rfl, rfl, hv, e5, hl, ?_⟩
              have x := Ext.write (o := .lst ((ns.map V.int).take j ++ (ns.map V.int).drop (j + 1))) r hp
              exact (show aK K g α H Q _ _ from w) _ _ α x (r.write hp ⟨_, a_, ((rs.take j).append (rs.drop (j + 1))).ext x⟩) .non
        · exact w.elim
      · exact w.elim
    · exact w.elim
  · exact w.elim
end
section
variable {P : Program} {w : World} {K : PySem.W.Frag} {mg : Str -> Option Value} {base : Heap} {g : GG} {k n : Nat} {f : Addr} {fd : FuncData} {ps : List Str}
theorem A7 (e : n = ps.length) : df P w K mg base CX0 k f fd ps (spM K g n fun _ _ => .bad) := ⟨fun vs H Q E h => h.1.trans e, fun A outer s H args us vs Q E _ _ _ _ ⟨_, α, ds, h, _, _, w⟩ => w.elim⟩
end
end L2.FE
namespace L2.Srt
open PySem PySem.W PyProof.Rows
section
variable {n : Nat} {key : Nat -> Int}
structure Pm (n : Nat) (p : Array Nat) : Prop where
  size : p.size = n
  perm : p.Perm (List.range n).toArray
theorem Pm.lt {p : Array Nat} (h : Pm n p) {i : Nat} (hi : i < n) : p.getD i 0 < n := by
  have hi' : i < p.size := by rw [h.size]; exact hi
  have e : p.getD i 0 = p[i] := by simp [Array.getD, hi']
  rw [e]
  have := h.perm.mem_iff.mp (Array.getElem_mem hi')
  simpa using this
variable (inj : ∀ i j, i < n -> j < n -> key i = key j -> i = j)
include inj
omit inj in
omit inj in
omit inj in
omit inj in
omit inj in
omit inj in
end
end L2.Srt
namespace L2.Srt
open PySem PySem.W PyProof.Rows PySem.Calls
section
variable {prog : Program} {w : World} {A : Around} {E : Value -> Shared -> Prop} {s : Shared} {vs : List Value}
inductive Prs (h : Heap) : List Value -> List (Int × Int) -> Prop
  | nil : Prs h [] []
  | cons {a : Addr} {o : Obj} {k : Nat} {t u : Tok} {x y : Int} {vs : List Value} {ps : List (Int × Int)} : h.get? a = some o -> o.cls = .type "tuple" -> o.data = .seq #[.int x t, .int y u] k -> Prs h vs ps -> Prs h (.ref a :: vs) ((x, y) :: ps)
theorem Prs.len {h : Heap} {vs : List Value} {ps : List (Int × Int)} (r : Prs h vs ps) : vs.length = ps.length := by
  induction r with
  | nil => rfl
  | cons _ _ _ _ ih => simp [ih]
end
end L2.Srt
namespace L2
open PySem PySem.Spec PyProof.Rows L2.Srt
inductive PrV (K : PySem.W.Frag) (H : Hp) : List V -> List (Int × Int) -> Prop
  | nil : PrV K H [] []
  | cons {a : Addr} {x y : Int} {xs : List V} {ps : List (Int × Int)} : SqT K H a [.int x, .int y] -> PrV K H xs ps -> PrV K H (.ref a :: xs) ((x, y) :: ps)
section
variable {X : Cx}
theorem PrV.len {K : PySem.W.Frag} {H : Hp} {xs : List V} {ps : List (Int × Int)} (r : PrV K H xs ps) : xs.length = ps.length := by
  induction r with
  | nil => rfl
  | cons _ _ ih => simp [ih]
end
end L2
namespace L2.FE
open PySem PySem.Spec PyProof.Rows
noncomputable def setOf (h : Hh) (n : Nat) : Option (List Int) := match h[n]? with
  | some (.set ns) => some ns
  | _ => none
section
variable {X : Cx} {g : GG} {ε : EE} {K : PySem.W.Frag}
theorem aP.set {α : List Addr} {H : Hp} {h : Hh} {n : Nat} {p : Addr} {ns : List Int} (r : aP K g α H h) (e : setOf h n = some ns) (hp : α[n]? = some p) : H p = some (.set (fun k => ns.any (· == k)) ns.length) := by
  unfold setOf at e
  cases eo : h[n]? with
  | none => rw [eo] at e; cases e
  | some o =>
    rw [eo] at e
    cases o with
    | set k => cases e; exact r.here n p _ hp eo
    | _ => cases e
end
noncomputable def BZ (h : Hh) (n : Nat) : Option (List (List Key × D)) := match h[n]? with
  | some (.dit kvs) => some kvs
  | _ => none
noncomputable abbrev PDT (K : PySem.W.Frag) (g : GG) (α : List Addr) (H : Hp) : List (List Key × D) -> List (List Key × V) -> Prop := Paired (fun (a : List Key × D) (b : List Key × V) => a.1 = b.1 /\ aG K g α H a.2 b.2)
section
variable {K : PySem.W.Frag} {g : GG} {α : List Addr} {H : Hp} {h : Hh}
theorem aP.dit {n : Nat} {p : Addr} {kvs : List (List Key × D)} (r : aP K g α H h) (e : BZ h n = some kvs) (hp : α[n]? = some p) : ∃ kws, H p = some (.dT kws) /\ PDT K g α H kvs kws := by
  unfold BZ at e
  cases eo : h[n]? with
  | none => rw [eo] at e; cases e
  | some o =>
    rw [eo] at e
    cases o with
    | dit k => cases e; exact r.here n p _ hp eo
    | _ => cases e
theorem PDT.ext {α' : List Addr} {H' : Hp} {kvs : List (List Key × D)} {kws : List (List Key × V)} (e : Ext K α H α' H') (r : PDT K g α H kvs kws) : PDT K g α' H' kvs kws := Paired.E_ e.toEx0 r
theorem aK.dit {Q : VK} {kvs : List (List Key × D)} {kws : List (List Key × V)} {p : Addr} (w : aK K g α H Q (.ref h.length) (h ++ [.dit kvs])) (r : aP K g α H h) (rs : PDT K g α H kvs kws) (hp : H p = none) : Q (.ref p) (upd H p (.dT kws)) := by
  have x := Ext.push (K := K) (α := α) (o := .dT kws) hp
  exact w _ _ _ x (r.push hp ⟨_, a_, rs.ext x⟩) (.ref (by rw [<- r.len]; simp))
end
noncomputable abbrev vg : R2 := fun x y H Q => ∃ a o, y = .ref a /\ qM H a x o /\ Q (.bl (!o.isSome)) H
section
variable {X : Cx} {g : GG} {ε : EE} {o i e f : Expr} {mo mi me mf : ME} {pos : Pos}
theorem wR (hu : X.A.units + 64 < cLine) : OpR X (compareOp .NotIn) vg := by
  intro pins s σ H x y v u Q I rx ry ⟨a, o, e1, d, q⟩
  subst e1
  cases ry
  exact Aa (un1 hu) I d rx fun s' I' => ⟨.bl (!o.isSome), H, I', rfl, q⟩
end
end L2.FE
namespace L2
open PySem PySem.Spec PyProof.Rows
section
variable {prog : Program} {w : World} {A : Around} {R : Result -> Shared -> Prop} {s : Shared} {elt tg iter tg2 iter2 : Expr} {scope : Scope} {pos : Pos} {it acc : Value} {env : Env}
noncomputable abbrev e2 (elt tg iter tg2 iter2 : Expr) (scope : Scope) (pos : Pos) : Expr := .ListComp elt [⟨tg, iter, [], 0⟩, ⟨tg2, iter2, [], 0⟩] scope pos
end
end L2
namespace L2.FE
open PySem PySem.Spec PyProof.Rows
variable {X : Cx} {g : GG}
theorem vq {K : PySem.W.Frag} {ε : EE} {mi : MI} {ix : List Nat} {tt : TT} {te : TE} {σ : St} {H : Hp} {Q : VK} (t : BN (tMI K g ε mi) ix tt te σ H Q) : pO (tMI K g ε mi) 1 ix (jP 0) tt te σ H Q := by
  obtain ⟨α, env, h, s, w⟩ := t
  refine ⟨α, env, h, s, w.mono fun sr h1 _ z J H' α' e hr rd acc ha => ?_⟩
  obtain ⟨W, w0, st⟩ := z J H' α' e hr rd acc ha
  refine ⟨W, w0, fun i m ys H1 hw => (st i m ys H1 hw).imp id fun ⟨a, b⟩ => ⟨a, fun σ0 x H2 hc hy => ?_⟩⟩
  obtain ⟨ts, tl, rfl⟩ := hc
  match ts, tl with
  | [t0], _ => exact ⟨⟨[some x], rfl, rfl⟩, b x H2 hy⟩
theorem cb {nl : NL} [kM nl] {elt iter : Expr} {x : Str} {px : Pos} {ifs : List Expr} {scope osc : Scope} {pos : Pos} {mi : MI} {tt : MT} {te : ME} (ix : List Nat) (N' : List Str)
    (hxe : X.xe = fun _ _ => False) (hc : X.calm = true) (ho : X.env.scope = osc) (hN : N' = x :: ix.map fun i => (X.N[i]?).getD ("" : Str)) (hnd : N'.Nodup)
    (hall : (∀ y ∈ scope.names, y.2 = .free -> osc.names.lookup y.1 = some .cell) /\ (∀ y ∈ scope.names, y.2 ≠ .cell) /\ scope.kind = .function /\ (∀ y ∈ scope.names, y.2 = .local -> scope.names.lookup y.1 = some .local) /\ scope.names.lookup x = some .local /\ (∀ y ∈ N'.tail, scope.names.lookup y = some .free))
    (hi : PI X (.Name x px) iter (tMI X.K g E00 mi))
    (ht : ∀ cl C aM aX fp, PTs (cP X scope cl C aM aX fp N') ifs (tMT X.K g E00 tt))
    (he : ∀ cl C aM aX fp, PE (cP X scope cl C aM aX fp N') elt (tM X.K g E00 te))
    (hs : ∀ x, foldedSetIterable iter X.env x = pure x := by intro _; rfl) :
    PE X (.ListComp elt [⟨.Name x px, iter, ifs, 0⟩] scope pos) (tM X.K g E00 (bA nl mi ix tt te)) := by
  refine PE.imp (PE.frz (zi (tgr := jP 0) ix [x] N' hxe hc ho hN hnd ⟨hall.1, hall.2.1, hall.2.2.1, hall.2.2.2.1, fun y hy => hall.2.2.2.2.2 y (by rw [hN] at hy ⊢; exact hy)⟩ hi (fun cl C aM aX fp => b9 (X := cP X scope cl C aM aX fp N') hnd (show N'[0]? = some x by rw [hN]; rfl) (.inl (lookup_relabel_local hall.2.2.2.2.1)) (.inr (lookup_relabel_local hall.2.2.2.2.1))) ht he hs)) fun σ H Q t => ?_
  exact vq (tG (fun _ _ z => z) t)
theorem mO {nl : NL} [kM nl] {elt iter : Expr} {x z : Str} {px pz : Pos} {ifs : List Expr} {scope osc : Scope} {pos spos : Pos} {mi : MI} {tt : MT} {te : ME} {i : Nat} (ix : List Nat) (N' : List Str)
    (hxe : X.xe = fun _ _ => False) (hc : X.calm = true) (ho : X.env.scope = osc) (hN : N' = x :: ix.map fun i => (X.N[i]?).getD ("" : Str)) (hnd : N'.Nodup)
    (hall : (∀ y ∈ scope.names, y.2 = .free -> osc.names.lookup y.1 = some .cell) /\ (∀ y ∈ scope.names, y.2 ≠ .cell) /\ scope.kind = .function /\ (∀ y ∈ scope.names, y.2 = .local -> scope.names.lookup y.1 = some .local) /\ scope.names.lookup x = some .local /\ (∀ y ∈ N'.tail, scope.names.lookup y = some .free))
    (hi : PI X (.Name x px) iter (tMI X.K g E00 mi))
    (ht : ∀ cl C aM aX fp, PTs (cP X scope cl C aM aX fp N') ifs (tMT X.K g E00 tt))
    (he : ∀ cl C aM aX fp, PE (cP X scope cl C aM aX fp N') elt (tM X.K g E00 te))
    (hNN : X.N.Nodup) (hz : X.N[i]? = some z) (hl : X.env.scope.names.lookup z = some .local := by rfl)
    (hsw : swapsWith (.ListComp elt [⟨.Name x px, iter, ifs, 0⟩] scope pos) (some (.Name z pz)) spos.line X.env = pure true := by rfl)
    (hs : ∀ x, foldedSetIterable iter X.env x = pure x := by intro _; rfl) :
    PS X (.Assign [.Name z pz] (.ListComp elt [⟨.Name x px, iter, ifs, 0⟩] scope pos) spos) (tMS X.K g E00 (a9 i (bA nl mi ix tt te))) := by
  refine PS.imp (PS.frz (rZ (tgr := jP 0) ix [x] N' hxe hc ho hN hnd ⟨hall.1, hall.2.1, hall.2.2.1, hall.2.2.2.1, fun y hy => hall.2.2.2.2.2 y (by rw [hN] at hy ⊢; exact hy)⟩ hi (fun cl C aM aX fp => b9 (X := cP X scope cl C aM aX fp N') hnd (show N'[0]? = some x by rw [hN]; rfl) (.inl (lookup_relabel_local hall.2.2.2.2.1)) (.inr (lookup_relabel_local hall.2.2.2.2.1))) ht he hNN hz hl hsw hs)) fun E σ H ⟨α, env, h, s, w⟩ => vq (tG (nl := nl) (Q := fun v H1 => E.nx (σ.set i (some v)) H1) (fun v H1 z => Ao z) (tM.use s w.bind fun d1 h1 v1 H1 α1 e1 s1 r1 w1 => (show cu X.K g α H E (.nx (env.set i (some d1))) h1 from w1) H1 α1 e1 s1.heap _ (s1.vs.set r1)))
end L2.FE
namespace L2.FE
open PySem PySem.Spec PyProof.Rows
noncomputable def iV : D -> D -> Hh -> R D := fun i o h => match o, nN i with
  | .ref n, some k => match gj h n with
    | some kvs => .ok (.bl (!(eI kvs k).isSome)) h
    | none => .bad
  | _, _ => .bad
theorem wX {K : PySem.W.Frag} {g : GG} {ε : EE} : dA K g ε iV vg := by
  intro α H h a b x y Q r ra rb w
  unfold iV at w
  cases ek : nN a with
  | none => rw [ek] at w; cases b <;> exact w.elim
  | some k =>
    rw [ek] at w
    cases rb with
    | @ref n p hp =>
      simp only at w
      cases ed : gj h n with
      | none => rw [ed] at w; exact w.elim
      | some kvs =>
        rw [ed] at w
        obtain ⟨kws, hd, rs⟩ := r.dic ed hp
        have e := uf ra ek
        subst e
        refine ⟨p, jC kws k, rfl, qM.k hd, ?_⟩
        have : (eI kvs k).isSome = (jC kws k).isSome := by
          rcases rs.val k with ⟨ev, ew⟩ | ⟨d, v, ev, ew, _⟩ <;> rw [ev, ew] <;> rfl
        rw [<- this]
        exact aK.now w r (.bl _)
    | _ => exact w.elim
end L2.FE
namespace FC
open PySem L2 L2.FE
noncomputable def bI : MF := cw 2 (aE (cp (ay asB (ar dLt (af 1) (ah bT (aa (af 0) ak)))) (bu (ar dIx (af 0) (af 1))) bf)
    (bu (cC (.int 0))))
noncomputable def b0 : MF := cw 2 (aE (a9 1 (ah yX (aa (af 0) (aa (ar bV (cC (.int 0)) (af 0)) ak))))
    (bu (ah (ij lZ) (aa (af 1) (aa (ah xO (aa (ar dGe (af 1) (ar Am (cC (.int 10)) (cC (.int 18)))) ak)) (aa (ar i3 (af 1) (cC (.int 1000003))) ak))))))
noncomputable def du : MF := cw 1 (aE (a9 0 (ar i3 (ar (cQ aN) (af 0) (cC (.int 7919))) (cC (.int 2147483647))))
    (bu (ar i3 (ar (cQ aN) (ar (cQ aN) (ar (tW aN) (af 0) (af 0)) (ar (tW aN) (cC (.int 48271)) (af 0))) (cC (.int 12345))) (cC (.int 2147483629)))))
noncomputable def aS : MF := cw 3 (aE (cp (zf (ay asB (ar dEq (ar dIx (af 0) (cC (.int 1))) (cC (.int 1)))) (ay asB (ar dGt (ar dIx (af 0) (cC (.int 0))) (cC (.int 0))))) (aE (a9 2 (ar i3 (ar dIx (af 0) (cC (.int 0))) (af 1)))
    (aE (jD k9 (af 0) (cC (.int 0)) (ar y0 (ar dIx (af 0) (cC (.int 0))) (af 1)))
    (bu (af 2)))) bf)
    (aE (jD k9 (af 0) (cC (.int 2)) (ah du (aa (ar (cQ aN) (ah du (aa (ar dIx (af 0) (cC (.int 2))) ak)) (cC (.int 7))) ak)))
    (bu (ar i3 (ar y0 (ar dIx (af 0) (cC (.int 2))) (cC (.int 64))) (af 1)))))
noncomputable def aR : Nat -> MF
  | 0 => fun _ _ => .bad
  | d + 1 => cw 6 (aE (cp (ay asB (ar dEq (af 1) (cC (.int 0)))) (bu (cC (.int 1))) bf)
    (aE (a9 4 (ar (cQ aN) (ar (tW aN) (af 1) (cC (.int 32))) (af 2)))
    (aE (cp (ay asB (ar iV (af 4) (af 3))) (aE (a9 5 (ar dEq (ar i3 (ar bV (ar bV (af 0) (af 1)) (cC (.int 1))) (cC (.int 2))) (cC (.int 1))))
    (jD oQ (af 3) (af 4) (ah iZ (aa (bA aN (cS dz (aa (af 1) ak)) [0, 1, 3, 2, 5] (ay asB (ar dEq (ar dLt (af 0) (af 4)) (af 5))) (ah (aR d) (aa (af 1) (aa (ar bV (af 2) (cC (.int 1))) (aa (af 0) (aa (af 3) ak)))))) ak)))) bf)
    (bu (ar pf (af 3) (af 4))))))
theorem fK (d : Nat) : aR (d + 1) = cw 6 (aE (cp (ay asB (ar dEq (af 1) (cC (.int 0)))) (bu (cC (.int 1))) bf)
    (aE (a9 4 (ar (cQ aN) (ar (tW aN) (af 1) (cC (.int 32))) (af 2)))
    (aE (cp (ay asB (ar iV (af 4) (af 3))) (aE (a9 5 (ar dEq (ar i3 (ar bV (ar bV (af 0) (af 1)) (cC (.int 1))) (cC (.int 2))) (cC (.int 1))))
    (jD oQ (af 3) (af 4) (ah iZ (aa (bA aN (cS dz (aa (af 1) ak)) [0, 1, 3, 2, 5] (ay asB (ar dEq (ar dLt (af 0) (af 4)) (af 5))) (ah (aR d) (aa (af 1) (aa (ar bV (af 2) (cC (.int 1))) (aa (af 0) (aa (af 3) ak)))))) ak)))) bf)
    (bu (ar pf (af 3) (af 4)))))) := rfl
noncomputable def fh : MF := cw 1 (bu (uY (cUn (tH "int") (af 0)) (zx (cUn (tH "bool") (af 0)))))
noncomputable def cm : MF := cw 3 (bu (uY (ah fh (aa (af 0) ak)) (kK dLe dLe (af 1) (af 0) (af 2))))
noncomputable def bD : MF := cw 3 (cp (j6 (ay km (ah cm (aa (af 0) (aa (af 1) (aa (af 2) ak)))))) CN bf)
noncomputable def bh : MF := cw 1 (bu (ah uA (aa (cC (.int 1)) (aa (ar bV (af 0) (cC (.int 1))) (aa (cC (.int 2)) ak)))))
noncomputable def az : MF := cw 4 (aE (iI (ah bD (aa (af 0) (aa (cC (.int 1)) (aa (cC (.int 20)) ak)))))
    (aE (a9 1 (ah (ij aN) (aa (cC (.int 1)) ak)))
    (aE (dO (cS tw (aa (cC (.int 2)) (aa (ar (cQ aN) (af 0) (cC (.int 1))) ak))) (gN 2) (aE (a9 3 (ar (dIn false) (ar bV (af 2) (cC (.int 2))) (ah bh (aa (af 0) ak))))
    (a9 1 (bA aN (cS dz (aa (af 2) ak)) [3, 1] tt1 (ah iZ (aa (cIf (ay km (af 1)) (dD aN (af 2) (eR (af 0)) cY) (dD aN (af 2) cY (eR (af 0)))) ak))))))
    (bu (af 1)))))
noncomputable def a8 : MF := cw 1 (bu (ah iZ (aa (ah az (aa (af 0) ak)) ak)))
noncomputable def dh : MF := cw 1 (bu (ah gb (aa (bA aN (cS dz (aa (ar bV (ah bT (aa (af 0) ak)) (cC (.int 1))) ak)) [0] (ay asB (ar dGt (ar dIx (af 1) (af 0)) (ar dIx (af 1) (ar (cQ aN) (af 0) (cC (.int 1)))))) (af 0)) ak)))
noncomputable def cO : MF := cw 1 (aE (cp (ay asB (ar dEq (ah bT (aa (af 0) ak)) (cC (.int 0)))) (bu (cC (.int 0))) bf)
    (bu (ar bV (ar dIx (af 0) (cUn kr (cC (.int 1)))) (ah bT (aa (bA aN (cU (af 0)) [0] (ay asB (ar dLt (af 0) (ar dIx (af 1) (cUn kr (cC (.int 1)))))) (af 0)) ak)))))
noncomputable def bj : MF := cw 3 (aE (cp (ay asB (ar dEq (ah bT (aa (af 2) ak)) (cC (.int 0)))) (bu (ah iZ (aa (ar dIx (af 0) (cUn kr (cC (.int 1)))) ak))) bf)
    (aE (cp (ay asB (ar dNe (ah dh (aa (af 2) ak)) (ah gb (aa (bA aN (cU (af 1)) [2] (ay asB (ar dLt (af 0) (ar bV (ah bT (aa (af 1) ak)) (cC (.int 1))))) (af 0)) ak)))) (bu (cC (.int 0))) bf)
    (bu (ar dIx (ar dIx (af 0) (ar bV (ah bT (aa (af 0) ak)) (ah bT (aa (af 2) ak)))) (ah cO (aa (af 2) ak))))))
noncomputable def i6 : Str -> Option (Nat × MF) := fun x => if x = "just_count" then some (3, bj) else none
@[simp] theorem lR : i6 "just_count" = some (3, bj) := by kernel_rfl
noncomputable def bx : MF := cw 4 (aE (a9 3 (bA aN (cS dz (aa (af 0) ak)) [1] (ay asB (ar (dIn true) (af 0) (af 1))) (ar (cQ aN) (af 1) (ah gi (aa (af 0) ak)))))
    (bu (bA aN (cU (af 3)) [2] (ay asB (ar dGt (gO i6 (af 1) (aa (af 0) ak)) (cC (.int 0)))) (af 0))))
noncomputable def cg : MF := cw 7 (aE (a9 3 (ah gi ak))
    (aE (dO (cS dz (aa (af 0) ak)) (gN 4) (dO (cU (ah bx (aa (af 0) (aa (af 3) (aa (af 2) ak))))) (gN 5) (aE (a9 6 (gO i6 (af 2) (aa (af 5) ak)))
    (aE (cp (ay asB (ar dLt (af 1) (af 6))) (aE (a9 3 (af 5))
    wK) bf)
    (vX 1 bV (af 6))))))
    (bu (af 3))))
noncomputable def eC : MF := p9 (fun ds h => ((cw 6 (aE (a9 2 (ah (ij lZ) (aa (ah (ij aN) (aa (cC (.int 1)) ak)) ak)))
    (aE (dO (cS tw (aa (cC (.int 1)) (aa (af 0) ak))) (gN 3) (aE (a9 4 (ar dIx (af 2) (cUn kr (cC (.int 1)))))
    (aE (a9 5 (ar (dIn false) (ar bV (ar bV (af 0) (cC (.int 1))) (af 3)) (af 1)))
    (iI (iK gP (af 2) (aa (bA aN (cS dz (aa (ar (cQ aN) (af 3) (cC (.int 1))) ak)) [5, 4] tt1 (ah iZ (aa (cIf (ay km (af 1)) (dD aN (af 2) cY (eR (af 0))) (dD aN (af 2) (eR (af 0)) cY)) ak))) ak))))))
    (bu (af 2))))) ds h).bind (cR h))
noncomputable def aU : MF := AQ 3 (a9 2 (ah eC (aa (af 0) (aa (af 1) ak)))) "just_count" [2, 1]
noncomputable def bF : MF := cw 2 (aE (iI (ah bD (aa (af 1) (aa (cC (.int 0)) (aa (ar bV (ah a8 (aa (af 0) ak)) (cC (.int 1))) ak)))))
    (bu (ah cg (aa (af 0) (aa (af 1) (aa (ah aU (aa (af 0) (aa (ah bh (aa (af 0) ak)) ak))) ak))))))
noncomputable def e8 : MF := fun ds h => ((cw 8 (aE (a9 3 (ah gi ak))
    (aE (a9 4 (ah (fZ lZ) (aa (af 0) ak)))
    (aE (qJ 64 (ay asB (ar dNe (af 4) (ah (ij aN) ak))) (aE (dO (kq (af 4)) (gT2 5 6) (cp (nZ (ay asB (ar dEq (af 3) (ah gi ak))) (ay asB (ar dEq (ar dLt (af 6) (ar dIx (af 3) (cUn kr (cC (.int 1))))) (ar dEq (ar i3 (ah bT (aa (af 3) ak)) (cC (.int 2))) (cC (.int 0)))))) (aE (a9 7 (ah (aR 22) (aa (af 0) (aa (ar bV (ah bT (aa (af 4) ak)) (cC (.int 1))) (aa (af 5) (aa (af 2) ak))))))
    (aE (cp (ay asB (ar dLt (af 1) (af 7))) wK bf)
    (a9 1 (ar bV (af 1) (af 7))))) bf))
    (aE (a9 3 (ar (cQ aN) (af 3) (ah gi (aa (af 6) ak))))
    (iI (iK gQ (af 4) (aa (af 6) ak))))))
    (bu (af 3)))))) ds h).bind (cR h)
noncomputable def dF : MF := fun ds h => ((cw 2 (aE (cp (nZ (j6 (ay km (cUn (tH "tuple") (af 0)))) (j6 (ay asB (kK dLe dLe (cC (.int 1)) (ah bT (aa (af 0) ak)) (cC (.int 20)))))) (bu (cC (.bl false))) bf)
    (aE (dO (cU (af 0)) (gN 1) (cp (j6 (ay km (ah cm (aa (af 1) (aa (cC (.int 0)) (aa (ar bV (ah bT (aa (af 0) ak)) (cC (.int 1))) ak)))))) (bu (cC (.bl false))) bf))
    (bu (ar dEq (ah bT (aa (ah xl (aa (af 0) ak)) ak)) (ah bT (aa (af 0) ak))))))) ds h).bind (cR h)
noncomputable def cJ : MF := cw 1 (cp (j6 (ay km (ah dF (aa (af 0) ak)))) CN bf)
noncomputable def gU : MF := cw 1 (aE (iI (ah cJ (aa (af 0) ak)))
    (bu (ah dh (aa (af 0) ak))))
noncomputable def fD : MF := cw 1 (bu (ar dEq (ah gU (aa (af 0) ak)) (ah bh (aa (ah bT (aa (af 0) ak)) ak))))
noncomputable def cL : MF := cw 5 (aE (a9 2 (cC (.int 0)))
    (aE (dO (cS dz (aa (ah bT (aa (af 0) ak)) ak)) (gN 3) (dO (cU (ah bx (aa (ah bT (aa (af 0) ak)) (aa (dD aN (af 0) cY (eR (af 3))) (aa (af 1) ak))))) (gN 4) (cp (ay asB (ar dLt (ar dIx (af 4) (cUn kr (cC (.int 1)))) (ar dIx (af 0) (af 3)))) (vX 2 sy (gO i6 (af 1) (aa (af 4) ak))) bf)))
    (bu (af 2))))
noncomputable def aZ : MF := cw 1 (aE (cp (j6 (ay km (ah fD (aa (af 0) ak)))) CN bf)
    (bu (ah cL (aa (af 0) (aa (ah aU (aa (ah bT (aa (af 0) ak)) (aa (ah bh (aa (ah bT (aa (af 0) ak)) ak)) ak))) ak)))))
noncomputable def di : MF := p9 (fun ds h => ((cw 5 (aE (a9 1 (ah (ij aN) (aa (ah gi ak) ak)))
    (aE (dO (cS dz (aa (af 0) ak)) (gN 2) (aE (a9 3 (ah (ij lZ) ak))
    (aE (dO (cU (af 1)) (gN 4) (iI (iK fH (af 3) (aa (bA aN (cS dz (aa (af 0) ak)) [4] (ay asB (ar (dIn true) (af 0) (af 1))) (ar (cQ aN) (af 1) (ah gi (aa (af 0) ak)))) ak))))
    (a9 1 (af 3)))))
    (bu (af 1))))) ds h).bind (cR h))
noncomputable def bY : MF := cw 1 (bu (ah gb (aa (bA aN (cS dz (aa (ar bV (ah bT (aa (af 0) ak)) (cC (.int 1))) ak)) [0] (ay asB (ar dGt (ar dIx (af 1) (af 0)) (ar dIx (af 1) (ar (cQ aN) (af 0) (cC (.int 1)))))) (af 0)) ak)))
noncomputable def m3 : MF := fun ds h => ((cw 11 (aE (dO (kq (ar (cQ aN) (ah (ij aN) (aa (ah bI (aa (af 0) (aa (cC (.int 0)) ak))) ak)) (dD aN (af 0) (eR (cC (.int 1))) (eR (cC (.int 4)))))) (gT2 1 2) (aE (a9 3 (ah b0 (aa (af 2) ak)))
    (aE (a9 4 (ar (cQ aN) (cC (.int 1)) (ah aS (aa (af 3) (aa (cC (.int 20)) ak)))))
    (aE (a9 5 oX)
    (aE (a9 6 (ah iZ (aa (bA aN (cS dz (aa (af 4) ak)) [4, 5] tt1 (ah (aR 22) (aa (af 1) (aa (ar bV (af 1) (cC (.int 1))) (aa (af 0) (aa (af 2) ak)))))) ak)))
    (aE (cp (ay asB (ar dNe (ah dP (aa (ah a8 (aa (af 4) ak)) ak)) (ah dP (aa (af 6) ak)))) (bu (cC (.bl false))) bf)
    (aE (dO (cU (ah gi (aa (cC (.int 0)) (aa (ar bV (af 6) (cC (.int 1))) (aa (ah aS (aa (af 3) (aa (af 6) ak))) ak))))) (gN 7) (aE (a9 8 (ah bF (aa (af 4) (aa (af 7) ak))))
    (cp (nZ (ay asB (ar dNe (ah dP (aa (af 8) ak)) (ah dP (aa (ah e8 (aa (af 4) (aa (af 7) (aa (af 5) ak)))) ak)))) (ay asB (ar dNe (ah dP (aa (ah aZ (aa (af 8) ak)) ak)) (ah dP (aa (af 7) ak))))) (bu (cC (.bl false))) bf)))
    (cp (ay asB (ar dEq (af 1) (cC (.int 0)))) (aE (a9 4 (ar (cQ aN) (cC (.int 1)) (ah aS (aa (af 3) (aa (cC (.int 7)) ak)))))
    (aE (a9 9 (ah gb (aa (bA aN (cS dz (aa (ar bV (af 4) (cC (.int 1))) ak)) [] (ay asB (ar dEq (ar i3 (af 0) (cC (.int 2))) (cC (.int 1)))) (af 0)) ak)))
    (aE (a9 10 (bA aN (cU (ah di (aa (af 4) ak))) [9] (ay asB (ar dEq (ah bY (aa (af 0) ak)) (af 1))) (af 0)))
    (aE (cp (nZ (ay asB (ar dNe (bA aN (cS dz (aa (ah bT (aa (af 10) ak)) ak)) [4] tt1 (ah bF (aa (af 1) (aa (af 0) ak)))) (af 10))) (ay asB (ar dNe (ah a8 (aa (af 4) ak)) (ah bT (aa (af 10) ak))))) (bu (cC (.bl false))) bf)
    (cp (ay asB (ar dNe (bA aN (cU (af 10)) [] tt1 (ah aZ (aa (af 0) ak))) (ah (fZ aN) (aa (ah bT (aa (af 10) ak)) ak)))) (bu (cC (.bl false))) bf))))) bf))))))))
    (bu (cC (.bl true))))) ds h).bind (cR h)
noncomputable def aF (i : Nat) : Stmt := PySem.Challenge.pw_fallcounts_k74_zigzags_numbered.main.body.getD i (.Pass ⟨0, 0, 0, 0⟩)
structure Blt (mg : Str -> Option Value) : Prop where
  bool : mg "bool" = none
  enumerate : mg "enumerate" = none
  int : mg "int" = none
  isinstance : mg "isinstance" = none
  len : mg "len" = none
  list : mg "list" = none
  max : mg "max" = none
  range : mg "range" = none
  repr : mg "repr" = none
  set : mg "set" = none
  sum : mg "sum" = none
  tuple : mg "tuple" = none
section
variable {P : Program} {w : World} {K : PySem.W.Frag} {mg : Str -> Option Value} {base : Heap} {g : GG}
theorem lS : aL ["_law_script", "_law_k"] ["_law_script", "_law_k"] (ao (aF 32)) := ⟨rfl, rfl, rfl, by decide +kernel, rfl, by decide +kernel, by decide +kernel⟩
theorem kj (D : aJ K mg "_law_cell_at" (aF 32)) (T : Blt mg) : Has P w K mg base g "_law_cell_at" 1 ["_law_script", "_law_k"] bI := by
  obtain ⟨f, fd, hm, F⟩ := D
  refine ⟨f, fd, dN F lS (fun cdv A outer s H E hr => ?_), F.kp, F.binds (fun _ _ _ _ _ _ us hl => vV hl fun _ _ => rfl), hm, aO F⟩
  exact (@av _ _ _ _ _ _ _ (@fU _ _ _ _ _ _ _ _ _ _ (@ba _ _ _ _ _ _ _ _ _ _ _ lj lu (ae 1) (aD bS bM rfl T.len PySem.boot_len (@ag _ _ _ _ _ _ _ (ae 0) ai rfl)) (aV _)) (@ax _ _ _ _ _ (@br _ _ _ _ _ _ (@dq _ _ _ _ _ _ _ _ _ _ ck dm (ae 0) (ae 1) (fun _ _ => rfl)))) bw)
      (@ax _ _ _ _ _ (@br _ _ _ _ _ _ au)))
theorem ia : aL ["_law_cell", "_law_left"] ["_law_cell"] (ao (aF 34)) := ⟨rfl, rfl, rfl, by decide +kernel, rfl, by decide +kernel, by decide +kernel⟩
theorem lQ (D : aJ K mg "_law_pen_of" (aF 34)) (T : Blt mg) : Has P w K mg base g "_law_pen_of" 1 ["_law_cell"] b0 := by
  obtain ⟨f, fd, hm, F⟩ := D
  refine ⟨f, fd, dN F ia (fun cdv A outer s H E hr => ?_), F.kp, F.binds (fun _ _ _ _ _ _ us hl => i4 hl fun _ => rfl), hm, aO F⟩
  exact (@av _ _ _ _ _ _ _ (@bR _ _ _ _ _ _ 1 _ _ ia.nd rfl (by first | exact Or.inl rfl | exact Or.inr rfl) (aD (wA rfl) Bn rfl T.max PyProof.Rows.boot_max (@ag _ _ _ _ _ _ _ (ae 0) (@ag _ _ _ _ _ _ _ (@aH _ _ _ _ _ _ _ _ _ _ _ b_ cj au (ae 0)) ai rfl) rfl)) rfl (.inl rfl))
      (@ax _ _ _ _ _ (@br _ _ _ _ _ _ (@ip _ _ _ _ _ _ _ _ (@ag _ _ _ _ _ _ _ (ae 1) (@ag _ _ _ _ _ _ _ (eZ xj DF rfl T.int PyProof.Rows.boot_int (@ag _ _ _ _ _ _ _ (@gY _ _ _ _ _ _ _ _ _ _ _ Eo El (ae 1) (@aH _ _ _ _ _ _ _ _ _ _ _ By CH au au) (aV _)) ai rfl)) (@ag _ _ _ _ _ _ _ (@aH _ _ _ _ _ _ _ _ _ _ _ iP iR (ae 1) au) ai rfl) rfl) rfl)))))
theorem j1 : aL ["_law_seed"] ["_law_seed"] (ao (aF 33)) := ⟨rfl, rfl, rfl, by decide +kernel, rfl, by decide +kernel, by decide +kernel⟩
theorem oI (D : aJ K mg "_law_next" (aF 33)) (T : Blt mg) : Has P w K mg base g "_law_next" 1 ["_law_seed"] du := by
  obtain ⟨f, fd, hm, F⟩ := D
  refine ⟨f, fd, dN F j1 (fun cdv A outer s H E hr => ?_), F.kp, F.binds (fun _ _ _ _ _ _ us hl => i4 hl fun _ => rfl), hm, aO F⟩
  exact (@av _ _ _ _ _ _ _ (@bR _ _ _ _ _ _ 0 _ _ j1.nd rfl (by first | exact Or.inl rfl | exact Or.inr rfl) (@aH _ _ _ _ _ _ _ _ _ _ _ iP iR (@aH _ _ _ _ _ _ _ _ _ _ _ dg dk (ae 0) au) au) rfl (.inl rfl))
      (@ax _ _ _ _ _ (@br _ _ _ _ _ _ (@aH _ _ _ _ _ _ _ _ _ _ _ iP iR (@aH _ _ _ _ _ _ _ _ _ _ _ dg dk (@aH _ _ _ _ _ _ _ _ _ _ _ dg dk (@aH _ _ _ _ _ _ _ _ _ _ _ ub uo (ae 0) (ae 0)) (@aH _ _ _ _ _ _ _ _ _ _ _ ub uo au (ae 0))) au) au))))
theorem jQ : aL ["_law_pen", "_law_many", "_law_found"] ["_law_pen", "_law_many"] (ao (aF 35)) := ⟨rfl, rfl, rfl, by decide +kernel, rfl, by decide +kernel, by decide +kernel⟩
theorem og (D : aJ K mg "_law_draw" (aF 35)) (T : Blt mg) (fN : Has P w K mg base g "_law_next" 1 ["_law_seed"] du) : Has P w K mg base g "_law_draw" 2 ["_law_pen", "_law_many"] aS := by
  obtain ⟨f, fd, hm, F⟩ := D
  obtain ⟨zR, yT, ja, i_, i7, jf, _⟩ := fN
  refine ⟨f, fd, dN F jQ (fun cdv A outer s H E hr => ?_), F.kp, F.binds (fun _ _ _ _ _ _ us hl => vV hl fun _ _ => rfl), hm, aO F⟩
  exact (@av _ _ _ _ _ _ _ (@fU _ _ _ _ _ _ _ _ _ _ (PW.pt (@CI _ _ _ _ _ _ _ _ _ (@ba _ _ _ _ _ _ _ _ _ _ _ (dJ hr.units) fE (@dq _ _ _ _ _ _ _ _ _ _ ck dm (ae 0) au (fun _ _ => rfl)) au (aV _)) (@AK _ _ _ _ _ _ (@ba _ _ _ _ _ _ _ _ _ _ _ vL vy (@dq _ _ _ _ _ _ _ _ _ _ ck dm (ae 0) au (fun _ _ => rfl)) au (aV _))))) (@av _ _ _ _ _ _ _ (@bR _ _ _ _ _ _ 2 _ _ jQ.nd rfl (by first | exact Or.inl rfl | exact Or.inr rfl) (@aH _ _ _ _ _ _ _ _ _ _ _ iP iR (@dq _ _ _ _ _ _ _ _ _ _ ck dm (ae 0) au (fun _ _ => rfl)) (ae 1)) rfl (.inl rfl))
      (@av _ _ _ _ _ _ _ (uZ (@aH _ _ _ _ _ _ _ _ _ _ _ tD zw (@dq _ _ _ _ _ _ _ _ _ _ ck dm (ae 0) au (fun _ _ => rfl)) (ae 1)) (ae 0) au set_list rX)
      (@ax _ _ _ _ _ (@br _ _ _ _ _ _ (ae 2))))) bw)
      (@av _ _ _ _ _ _ _ (uZ (aC (ja.mono (by decide)) hr rfl jf i_ i7 (@ag _ _ _ _ _ _ _ (@aH _ _ _ _ _ _ _ _ _ _ _ dg dk (aC (ja.mono (by decide)) hr rfl jf i_ i7 (@ag _ _ _ _ _ _ _ (@dq _ _ _ _ _ _ _ _ _ _ ck dm (ae 0) au (fun _ _ => rfl)) ai rfl) (aj aB)) au) ai rfl) (aj aB)) (ae 0) au set_list rX)
      (@ax _ _ _ _ _ (@br _ _ _ _ _ _ (@aH _ _ _ _ _ _ _ _ _ _ _ iP iR (@aH _ _ _ _ _ _ _ _ _ _ _ tD zw (@dq _ _ _ _ _ _ _ _ _ _ ck dm (ae 0) au (fun _ _ => rfl)) au) (ae 1))))))
theorem jv : aL ["_law_n", "_law_left", "_law_less", "_law_known", "_law_key", "_law_falls_here"] ["_law_n", "_law_left", "_law_less", "_law_known"] (ao (aF 38)) := ⟨rfl, rfl, rfl, by decide +kernel, rfl, by decide +kernel, by decide +kernel⟩
theorem qG (D : aJ K mg "_law_on" (aF 38)) : Has P w K mg base g "_law_on" (0 + 0) ["_law_n", "_law_left", "_law_less", "_law_known"] (aR 0) := by
  obtain ⟨f, fd, hm, F⟩ := D
  exact ⟨f, fd, A7 rfl, F.kp, F.binds (fun _ _ _ _ _ _ us hl => E4 hl fun _ _ _ _ => rfl), hm, aO F⟩
theorem p_ (D : aJ K mg "_law_on" (aF 38)) (T : Blt mg) (dd : Nat) (Ca : Has P w K mg base g "_law_on" (0 + dd) ["_law_n", "_law_left", "_law_less", "_law_known"] (aR dd)) : Has P w K mg base g "_law_on" (0 + dd + 1) ["_law_n", "_law_left", "_law_less", "_law_known"] (aR (dd + 1)) := by
  rw [fK]
  obtain ⟨GJ, Ft, CF, DA, Dv, Dy, _⟩ := Ca
  obtain ⟨f, fd, hm, F⟩ := D
  refine ⟨f, fd, dN F jv (fun cdv A outer s H E hr => ?_), F.kp, F.binds (fun _ _ _ _ _ _ us hl => E4 hl fun _ _ _ _ => rfl), hm, aO F⟩
  exact (@av _ _ _ _ _ _ _ (@fU _ _ _ _ _ _ _ _ _ _ (@ba _ _ _ _ _ _ _ _ _ _ _ (dJ hr.units) fE (ae 1) au (aV _)) (@ax _ _ _ _ _ (@br _ _ _ _ _ _ au)) bw)
      (@av _ _ _ _ _ _ _ (@bR _ _ _ _ _ _ 4 _ _ jv.nd rfl (by first | exact Or.inl rfl | exact Or.inr rfl) (@aH _ _ _ _ _ _ _ _ _ _ _ dg dk (@aH _ _ _ _ _ _ _ _ _ _ _ ub uo (ae 1) au) (ae 2)) rfl (.inl rfl))
      (@av _ _ _ _ _ _ _ (@fU _ _ _ _ _ _ _ _ _ _ (@ba _ _ _ _ _ _ _ _ _ _ _ (wR hr.units) wX (ae 4) (ae 3) (by rfl)) (@av _ _ _ _ _ _ _ (@bR _ _ _ _ _ _ 5 _ _ jv.nd rfl (by first | exact Or.inl rfl | exact Or.inr rfl) (@gY _ _ _ _ _ _ _ _ _ _ _ (dJ hr.units) fE (@aH _ _ _ _ _ _ _ _ _ _ _ iP iR (@aH _ _ _ _ _ _ _ _ _ _ _ b_ cj (@aH _ _ _ _ _ _ _ _ _ _ _ b_ cj (ae 0) (ae 1)) au) au) au (aV _)) rfl (.inl rfl))
      (@ax _ _ _ _ _ (Dr (un1 hr.units) (aD (e9 rfl) kP rfl T.sum PyProof.Rows.boot_sum (@ag _ _ _ _ _ _ _ (cb (osc := ao (aF 38)) [0, 1, 3, 2, 5] ["_law_rank", "_law_n", "_law_left", "_law_known", "_law_less", "_law_falls_here"] rfl rfl rfl rfl (by decide +kernel) ⟨by decide +kernel, by decide +kernel, rfl, by decide +kernel, rfl, by decide +kernel⟩ (cN rfl T.range (@ag _ _ _ _ _ _ _ (ae 1) ai rfl))
        (fun cl C aM aX fp => (fT (@ba _ _ _ _ _ _ _ _ _ _ _ (dJ hr.units) fE (@gY _ _ _ _ _ _ _ _ _ _ _ lj lu (ae 0) (ae 4) (aV _)) (ae 5) (aV _)))) (fun cl C aM aX fp => (aC (CF.mono (by omega)) hr rfl Dy DA Dv (@ag _ _ _ _ _ _ _ (ae 1) (@ag _ _ _ _ _ _ _ (@aH _ _ _ _ _ _ _ _ _ _ _ b_ cj (ae 2) au) (@ag _ _ _ _ _ _ _ (ae 0) (@ag _ _ _ _ _ _ _ (ae 3) ai rfl) rfl) rfl) rfl) (aj (aj (aj (aj aB))))))) ai rfl)) (ae 3) (ae 4)))) bw)
      (@ax _ _ _ _ _ (@br _ _ _ _ _ _ (@Aq _ _ _ _ _ _ _ _ (un1 hr.units) (ae 3) (ae 4) (fun _ _ => rfl)))))))
theorem sR (D : aJ K mg "_law_on" (aF 38)) (T : Blt mg) : Has P w K mg base g "_law_on" 22 ["_law_n", "_law_left", "_law_less", "_law_known"] (aR 22) := by
  have q : ∀ dd, Has P w K mg base g "_law_on" (0 + dd) ["_law_n", "_law_left", "_law_less", "_law_known"] (aR dd) := fun dd => by
    induction dd with
    | zero => exact qG D
    | succ dd ih => exact p_ D T dd ih
  exact q 22
theorem se : aL ["thing"] ["thing"] (ao (aF 6)) := ⟨rfl, rfl, rfl, by decide +kernel, rfl, by decide +kernel, by decide +kernel⟩
theorem p7 (D : aJ K mg "is_whole" (aF 6)) (T : Blt mg) : Has P w K mg base g "is_whole" 1 ["thing"] fh := by
  obtain ⟨f, fd, hm, F⟩ := D
  refine ⟨f, fd, dN F se (fun cdv A outer s H E hr => ?_), F.kp, F.binds (fun _ _ _ _ _ _ us hl => i4 hl fun _ => rfl), hm, aO F⟩
  exact (@ax _ _ _ _ _ (@br _ _ _ _ _ _ (@xZ _ _ _ _ _ _ _ _ _ (ux (ae 0) rfl T.isinstance rfl T.int PyProof.Rows.boot_int) (@yC _ _ _ _ _ _ _ (@C4 _ _ _ _ _ _ (ux (ae 0) rfl T.isinstance rfl T.bool PyProof.Rows.boot_bool))))))
theorem pN : aL ["thing", "least", "most"] ["thing", "least", "most"] (ao (aF 7)) := ⟨rfl, rfl, rfl, by decide +kernel, rfl, by decide +kernel, by decide +kernel⟩
theorem oN (D : aJ K mg "is_within" (aF 7)) (T : Blt mg) (gK : Has P w K mg base g "is_whole" 1 ["thing"] fh) : Has P w K mg base g "is_within" 2 ["thing", "least", "most"] cm := by
  obtain ⟨f, fd, hm, F⟩ := D
  obtain ⟨A_, zS, qN, qj, pP, pZ, _⟩ := gK
  refine ⟨f, fd, dN F pN (fun cdv A outer s H E hr => ?_), F.kp, F.binds (fun _ _ _ _ _ _ us hl => vT hl fun _ _ _ => rfl), hm, aO F⟩
  exact (@ax _ _ _ _ _ (@br _ _ _ _ _ _ (@xZ _ _ _ _ _ _ _ _ _ (aC (qN.mono (by decide)) hr rfl pZ qj pP (@ag _ _ _ _ _ _ _ (ae 0) ai rfl) (aj aB)) (@yC _ _ _ _ _ _ _ (yu vt vt vG vG (ae 1) (ae 0) (ae 2))))))
theorem kn : aL ["thing", "least", "most"] ["thing", "least", "most"] (ao (aF 8)) := ⟨rfl, rfl, rfl, by decide +kernel, rfl, by decide +kernel, by decide +kernel⟩
theorem jS (D : aJ K mg "number_needed" (aF 8)) (T : Blt mg) (cy : Has P w K mg base g "is_within" 2 ["thing", "least", "most"] cm) : Has P w K mg base g "number_needed" 3 ["thing", "least", "most"] bD := by
  obtain ⟨f, fd, hm, F⟩ := D
  obtain ⟨oF, mU, fV, fP, f9, gg, _⟩ := cy
  refine ⟨f, fd, dN F kn (fun cdv A outer s H E hr => ?_), F.kp, F.binds (fun _ _ _ _ _ _ us hl => vT hl fun _ _ _ => rfl), hm, aO F⟩
  exact (@ax _ _ _ _ _ (@fU _ _ _ _ _ _ _ _ _ _ (@kU _ _ _ _ _ _ (@fk _ _ _ _ _ _ jw (aC (fV.mono (by decide)) hr rfl gg fP f9 (@ag _ _ _ _ _ _ _ (ae 0) (@ag _ _ _ _ _ _ _ (ae 1) (@ag _ _ _ _ _ _ _ (ae 2) ai rfl) rfl) rfl) (aj (aj (aj aB)))) (fun _ => rfl))) (@ax _ _ _ _ _ (PS.imp nG fun E σ H ⟨α, env, h, s, w⟩ => w.elim)) bw))
theorem nR : aL ["n"] ["n"] (ao (aF 26)) := ⟨rfl, rfl, rfl, by decide +kernel, rfl, by decide +kernel, by decide +kernel⟩
theorem mJ (D : aJ K mg "odd_places" (aF 26)) (T : Blt mg) : Has P w K mg base g "odd_places" 1 ["n"] bh := by
  obtain ⟨f, fd, hm, F⟩ := D
  refine ⟨f, fd, dN F nR (fun cdv A outer s H E hr => ?_), F.kp, F.binds (fun _ _ _ _ _ _ us hl => i4 hl fun _ => rfl), hm, aO F⟩
  exact (@ax _ _ _ _ _ (@br _ _ _ _ _ _ (zC rfl rfl T.tuple rfl T.range (@ag _ _ _ _ _ _ _ au (@ag _ _ _ _ _ _ _ (@aH _ _ _ _ _ _ _ _ _ _ _ b_ cj (ae 0) au) (@ag _ _ _ _ _ _ _ au ai rfl) rfl) rfl))))
theorem cV : aL ["n", "row", "size", "falls"] ["n"] (ao (aF 27)) := ⟨rfl, rfl, rfl, by decide +kernel, rfl, by decide +kernel, by decide +kernel⟩
theorem m6 (D : aJ K mg "zigzag_row" (aF 27)) (T : Blt mg) {dE : Tok} (cf : mg "MOST_NUMBERS" = some (.int 20 dE)) (bB : Has P w K mg base g "number_needed" 3 ["thing", "least", "most"] bD) (aQ : Has P w K mg base g "odd_places" 1 ["n"] bh) : Has P w K mg base g "zigzag_row" 4 ["n"] az := by
  obtain ⟨f, fd, hm, F⟩ := D
  obtain ⟨jW, ju, dH, dM, dG, dC, _⟩ := bB
  obtain ⟨fm, eJ, bQ, bJ, bP, bL, _⟩ := aQ
  refine ⟨f, fd, dN F cV (fun cdv A outer s H E hr => ?_), F.kp, F.binds (fun _ _ _ _ _ _ us hl => i4 hl fun _ => rfl), hm, aO F⟩
  exact (@av _ _ _ _ _ _ _ (kh (aC (dH.mono (by decide)) hr rfl dC dM dG (@ag _ _ _ _ _ _ _ (ae 0) (@ag _ _ _ _ _ _ _ au (@ag _ _ _ _ _ _ _ (sd rfl cf) ai rfl) rfl) rfl) (aj (aj (aj aB)))))
      (@av _ _ _ _ _ _ _ (@bR _ _ _ _ _ _ 1 _ _ cV.nd rfl (by first | exact Or.inl rfl | exact Or.inr rfl) (@ip _ _ _ _ _ _ _ _ (@ag _ _ _ _ _ _ _ au ai rfl)) rfl (.inl rfl))
      (@av _ _ _ _ _ _ _ (hG PassesOwn.never rfl (uO rfl T.range (@ag _ _ _ _ _ _ _ au (@ag _ _ _ _ _ _ _ (@aH _ _ _ _ _ _ _ _ _ _ _ dg dk (ae 0) au) ai rfl) rfl)) (b9 (i := 2) cV.nd rfl (by first | exact Or.inl rfl | exact Or.inr rfl)) eA (@av _ _ _ _ _ _ _ (@bR _ _ _ _ _ _ 3 _ _ cV.nd rfl (by first | exact Or.inl rfl | exact Or.inr rfl) (@gY _ _ _ _ _ _ _ _ _ _ _ oR vo (@aH _ _ _ _ _ _ _ _ _ _ _ b_ cj (ae 2) au) (aC (bQ.mono (by decide)) hr rfl bL bJ bP (@ag _ _ _ _ _ _ _ (ae 0) ai rfl) (aj aB)) (by rfl)) rfl (.inl rfl))
      (@ax _ _ _ _ _ (@bR _ _ _ _ _ _ 1 _ _ cV.nd rfl (by first | exact Or.inl rfl | exact Or.inr rfl) (cb (osc := ao (aF 27)) [3, 1] ["last", "falls", "row"] rfl rfl rfl rfl (by decide +kernel) ⟨by decide +kernel, by decide +kernel, rfl, by decide +kernel, rfl, by decide +kernel⟩ (cN rfl T.range (@ag _ _ _ _ _ _ _ (ae 2) ai rfl))
        (fun cl C aM aX fp => nz) (fun cl C aM aX fp => (aD (e9 rfl) kP rfl T.sum PyProof.Rows.boot_sum (@ag _ _ _ _ _ _ _ (@rN _ _ _ _ _ _ _ _ _ _ (@fk _ _ _ _ _ _ jw (ae 1) (fun _ => rfl)) (gq (ae 2) (@gG _ _ _ _ _ (ae 0)) j4) (gq (ae 2) j4 (@gG _ _ _ _ _ (ae 0)))) ai rfl)))) rfl (.inl rfl)))))
      (@ax _ _ _ _ _ (@br _ _ _ _ _ _ (ae 1))))))
theorem mL : aL ["n"] ["n"] (ao (aF 28)) := ⟨rfl, rfl, rfl, by decide +kernel, rfl, by decide +kernel, by decide +kernel⟩
theorem lT (D : aJ K mg "zigzag_many" (aF 28)) (T : Blt mg) (fo : Has P w K mg base g "zigzag_row" 4 ["n"] az) : Has P w K mg base g "zigzag_many" 5 ["n"] a8 := by
  obtain ⟨f, fd, hm, F⟩ := D
  obtain ⟨zz, xp, nK, m_, mY, mx, _⟩ := fo
  refine ⟨f, fd, dN F mL (fun cdv A outer s H E hr => ?_), F.kp, F.binds (fun _ _ _ _ _ _ us hl => i4 hl fun _ => rfl), hm, aO F⟩
  exact (@ax _ _ _ _ _ (@br _ _ _ _ _ _ (aD (e9 rfl) kP rfl T.sum PyProof.Rows.boot_sum (@ag _ _ _ _ _ _ _ (aC (nK.mono (by decide)) hr rfl mx m_ mY (@ag _ _ _ _ _ _ _ (ae 0) ai rfl) (aj aB)) ai rfl))))
theorem sF : aL ["numbers"] ["numbers"] (ao (aF 13)) := ⟨rfl, rfl, rfl, by decide +kernel, rfl, by decide +kernel, by decide +kernel⟩
theorem qI (D : aJ K mg "falls_in" (aF 13)) (T : Blt mg) : Has P w K mg base g "falls_in" 1 ["numbers"] dh := by
  obtain ⟨f, fd, hm, F⟩ := D
  refine ⟨f, fd, dN F sF (fun cdv A outer s H E hr => ?_), F.kp, F.binds (fun _ _ _ _ _ _ us hl => i4 hl fun _ => rfl), hm, aO F⟩
  exact (@ax _ _ _ _ _ (@br _ _ _ _ _ _ (eZ eh j_ rfl T.tuple PyProof.Rows.boot_tuple (@ag _ _ _ _ _ _ _ (cb (osc := ao (aF 13)) [0] ["place", "numbers"] rfl rfl rfl rfl (by decide +kernel) ⟨by decide +kernel, by decide +kernel, rfl, by decide +kernel, rfl, by decide +kernel⟩ (cN rfl T.range (@ag _ _ _ _ _ _ _ (@aH _ _ _ _ _ _ _ _ _ _ _ b_ cj (aD bS bM rfl T.len PySem.boot_len (@ag _ _ _ _ _ _ _ (ae 0) ai rfl)) au) ai rfl))
        (fun cl C aM aX fp => (fT (@ba _ _ _ _ _ _ _ _ _ _ _ vL vy (@dq _ _ _ _ _ _ _ _ _ _ ck dm (ae 1) (ae 0) (fun _ _ => rfl)) (@dq _ _ _ _ _ _ _ _ _ _ ck dm (ae 1) (@aH _ _ _ _ _ _ _ _ _ _ _ dg dk (ae 0) au) (fun _ _ => rfl)) (aV _)))) (fun cl C aM aX fp => (ae 0))) ai rfl))))
theorem ow : aL ["begun"] ["begun"] (ao (aF 16)) := ⟨rfl, rfl, rfl, by decide +kernel, rfl, by decide +kernel, by decide +kernel⟩
theorem my (D : aJ K mg "lower_left" (aF 16)) (T : Blt mg) : Has P w K mg base g "lower_left" 1 ["begun"] cO := by
  obtain ⟨f, fd, hm, F⟩ := D
  refine ⟨f, fd, dN F ow (fun cdv A outer s H E hr => ?_), F.kp, F.binds (fun _ _ _ _ _ _ us hl => i4 hl fun _ => rfl), hm, aO F⟩
  exact (@av _ _ _ _ _ _ _ (@fU _ _ _ _ _ _ _ _ _ _ (@ba _ _ _ _ _ _ _ _ _ _ _ (dJ hr.units) fE (aD bS bM rfl T.len PySem.boot_len (@ag _ _ _ _ _ _ _ (ae 0) ai rfl)) au (aV _)) (@ax _ _ _ _ _ (@br _ _ _ _ _ _ au)) bw)
      (@ax _ _ _ _ _ (@br _ _ _ _ _ _ (@aH _ _ _ _ _ _ _ _ _ _ _ b_ cj (@dq _ _ _ _ _ _ _ _ _ _ ck dm (ae 0) (@pq _ _ _ _ _ _ _ _ _ kX ko au) (fun _ _ => rfl)) (aD bS bM rfl T.len PySem.boot_len (@ag _ _ _ _ _ _ _ (cb (osc := ao (aF 16)) [0] ["number", "begun"] rfl rfl rfl rfl (by decide +kernel) ⟨by decide +kernel, by decide +kernel, rfl, by decide +kernel, rfl, by decide +kernel⟩ (@fQ _ _ _ _ _ _ (ae 0))
        (fun cl C aM aX fp => (fT (@ba _ _ _ _ _ _ _ _ _ _ _ lj lu (ae 0) (@dq _ _ _ _ _ _ _ _ _ _ ck dm (ae 1) (@pq _ _ _ _ _ _ _ _ _ kX ko au) (fun _ _ => rfl)) (aV _)))) (fun cl C aM aX fp => (ae 0))) ai rfl))))))
theorem n_ : aL ["rests", "some", "begun"] ["rests", "some", "begun"] (ao (aF 22)) := ⟨rfl, rfl, rfl, by decide +kernel, rfl, by decide +kernel, by decide +kernel⟩
theorem mS (D : aJ K mg "just_count" (aF 22)) (T : Blt mg) (cM : Has P w K mg base g "falls_in" 1 ["numbers"] dh) (fA : Has P w K mg base g "lower_left" 1 ["begun"] cO) : Has P w K mg base g "just_count" 2 ["rests", "some", "begun"] bj := by
  obtain ⟨f, fd, hm, F⟩ := D
  obtain ⟨pV, oG, g8, g7, gW, gZ, _⟩ := cM
  obtain ⟨xC, xn, mH, mR, mG, mw, _⟩ := fA
  refine ⟨f, fd, dN F n_ (fun cdv A outer s H E hr => ?_), F.kp, F.binds (fun _ _ _ _ _ _ us hl => vT hl fun _ _ _ => rfl), hm, aO F⟩
  exact (@av _ _ _ _ _ _ _ (@fU _ _ _ _ _ _ _ _ _ _ (@ba _ _ _ _ _ _ _ _ _ _ _ (dJ hr.units) fE (aD bS bM rfl T.len PySem.boot_len (@ag _ _ _ _ _ _ _ (ae 2) ai rfl)) au (aV _)) (@ax _ _ _ _ _ (@br _ _ _ _ _ _ (aD (e9 rfl) kP rfl T.sum PyProof.Rows.boot_sum (@ag _ _ _ _ _ _ _ (@dq _ _ _ _ _ _ _ _ _ _ ck dm (ae 0) (@pq _ _ _ _ _ _ _ _ _ kX ko au) (fun _ _ => rfl)) ai rfl)))) bw)
      (@av _ _ _ _ _ _ _ (@fU _ _ _ _ _ _ _ _ _ _ (@ba _ _ _ _ _ _ _ _ _ _ _ (ik hr.units) lA (aC (g8.mono (by decide)) hr rfl gZ g7 gW (@ag _ _ _ _ _ _ _ (ae 2) ai rfl) (aj aB)) (eZ eh j_ rfl T.tuple PyProof.Rows.boot_tuple (@ag _ _ _ _ _ _ _ (cb (osc := ao (aF 22)) [2] ["place", "begun"] rfl rfl rfl rfl (by decide +kernel) ⟨by decide +kernel, by decide +kernel, rfl, by decide +kernel, rfl, by decide +kernel⟩ (@fQ _ _ _ _ _ _ (ae 1))
        (fun cl C aM aX fp => (fT (@ba _ _ _ _ _ _ _ _ _ _ _ lj lu (ae 0) (@aH _ _ _ _ _ _ _ _ _ _ _ b_ cj (aD bS bM rfl T.len PySem.boot_len (@ag _ _ _ _ _ _ _ (ae 1) ai rfl)) au) (aV _)))) (fun cl C aM aX fp => (ae 0))) ai rfl)) (aV _)) (@ax _ _ _ _ _ (@br _ _ _ _ _ _ au)) bw)
      (@ax _ _ _ _ _ (@br _ _ _ _ _ _ (@dq _ _ _ _ _ _ _ _ _ _ ck dm (@dq _ _ _ _ _ _ _ _ _ _ ck dm (ae 0) (@aH _ _ _ _ _ _ _ _ _ _ _ b_ cj (aD bS bM rfl T.len PySem.boot_len (@ag _ _ _ _ _ _ _ (ae 0) ai rfl)) (aD bS bM rfl T.len PySem.boot_len (@ag _ _ _ _ _ _ _ (ae 2) ai rfl))) (fun _ _ => rfl)) (aC (mH.mono (by decide)) hr rfl mw mR mG (@ag _ _ _ _ _ _ _ (ae 2) ai rfl) (aj aB)) (fun _ _ => rfl))))))
theorem h_ : aL ["n", "begun", "many_with", "longer"] ["n", "begun", "many_with"] (ao (aF 17)) := ⟨rfl, rfl, rfl, by decide +kernel, rfl, by decide +kernel, by decide +kernel⟩
theorem lP (D : aJ K mg "longer_ones" (aF 17)) (T : Blt mg) (bo : Has P w K mg base g "just_count" 2 ["rests", "some", "begun"] bj) : Has P w K mg base g "longer_ones" 4 ["n", "begun", "many_with"] bx := by
  obtain ⟨f, fd, hm, F⟩ := D
  obtain ⟨iB, hW, cF, cB, cG, cK, _⟩ := bo
  have TC : ∀ x np m, i6 x = some (np, m) -> ∃ f fd ps, mg x = some (.ref f) /\ df P w K mg base CX0 2 f fd ps (spM K g np m) /\ PySem.W.keepIn K (.ref f) = true /\ Binds K fd ps [] := by
    intro x np m e
    unfold i6 at e
    by_cases aY : x = "just_count"
    · rw [if_pos aY] at e; cases e; rw [aY]; exact ⟨_, _, _, cK, cF.mono (by decide), cB, cG⟩
    rw [if_neg aY] at e
    cases e
  refine ⟨f, fd, dN F h_ (fun cdv A outer s H E hr => ?_), F.kp, F.binds (fun _ _ _ _ _ _ us hl => vT hl fun _ _ _ => rfl), hm, aO F⟩
  exact (@av _ _ _ _ _ _ _ (mO (osc := ao (aF 17)) [1] ["number", "begun"] rfl rfl rfl rfl (by decide +kernel) ⟨by decide +kernel, by decide +kernel, rfl, by decide +kernel, rfl, by decide +kernel⟩ (cN rfl T.range (@ag _ _ _ _ _ _ _ (ae 0) ai rfl))
        (fun cl C aM aX fp => (fT (@ba _ _ _ _ _ _ _ _ _ _ _ jE vo (ae 0) (ae 1) (by rfl)))) (fun cl C aM aX fp => (@aH _ _ _ _ _ _ _ _ _ _ _ dg dk (ae 1) (@h9 _ _ _ _ _ _ _ (@ag _ _ _ _ _ _ _ (ae 0) ai rfl)))) (i := 3) h_.nd rfl)
      (@ax _ _ _ _ _ (@br _ _ _ _ _ _ (cb (osc := ao (aF 17)) [2] ["one", "many_with"] rfl rfl rfl rfl (by decide +kernel) ⟨by decide +kernel, by decide +kernel, rfl, by decide +kernel, rfl, by decide +kernel⟩ (@fQ _ _ _ _ _ _ (ae 3))
        (fun cl C aM aX fp => (fT (@ba _ _ _ _ _ _ _ _ _ _ _ vL vy (mB TC hr (ae 1) (@ag _ _ _ _ _ _ _ (ae 0) ai rfl) (aj aB)) au (aV _)))) (fun cl C aM aX fp => (ae 0))))))
theorem bq : aL ["n", "number", "many_with", "begun", "place", "longer", "many"] ["n", "number", "many_with"] (ao (aF 18)) := ⟨rfl, rfl, rfl, by decide +kernel, rfl, by decide +kernel, by decide +kernel⟩
theorem jy (D : aJ K mg "order_numbered" (aF 18)) (T : Blt mg) (bX : Has P w K mg base g "longer_ones" 4 ["n", "begun", "many_with"] bx) (bo : Has P w K mg base g "just_count" 2 ["rests", "some", "begun"] bj) : Has P w K mg base g "order_numbered" 5 ["n", "number", "many_with"] cg := by
  obtain ⟨f, fd, hm, F⟩ := D
  obtain ⟨lW, kC, eK, eN, eF, eM, _⟩ := bX
  obtain ⟨iB, hW, cF, cB, cG, cK, _⟩ := bo
  have TC : ∀ x np m, i6 x = some (np, m) -> ∃ f fd ps, mg x = some (.ref f) /\ df P w K mg base CX0 3 f fd ps (spM K g np m) /\ PySem.W.keepIn K (.ref f) = true /\ Binds K fd ps [] := by
    intro x np m e
    unfold i6 at e
    by_cases aY : x = "just_count"
    · rw [if_pos aY] at e; cases e; rw [aY]; exact ⟨_, _, _, cK, cF.mono (by decide), cB, cG⟩
    rw [if_neg aY] at e
    cases e
  refine ⟨f, fd, dN F bq (fun cdv A outer s H E hr => ?_), F.kp, F.binds (fun _ _ _ _ _ _ us hl => vT hl fun _ _ _ => rfl), hm, aO F⟩
  exact (@av _ _ _ _ _ _ _ (@bR _ _ _ _ _ _ 3 _ _ bq.nd rfl (by first | exact Or.inl rfl | exact Or.inr rfl) (@h9 _ _ _ _ _ _ _ ai) rfl (.inl rfl))
      (@av _ _ _ _ _ _ _ (hG PassesOwn.never rfl (cN rfl T.range (@ag _ _ _ _ _ _ _ (ae 0) ai rfl)) (b9 (i := 4) bq.nd rfl (by first | exact Or.inl rfl | exact Or.inr rfl)) eA (@ax _ _ _ _ _ (hG PassesOwn.never rfl (@fQ _ _ _ _ _ _ (aC (eK.mono (by decide)) hr rfl eM eN eF (@ag _ _ _ _ _ _ _ (ae 0) (@ag _ _ _ _ _ _ _ (ae 3) (@ag _ _ _ _ _ _ _ (ae 2) ai rfl) rfl) rfl) (aj (aj (aj aB))))) (b9 (i := 5) bq.nd rfl (by first | exact Or.inl rfl | exact Or.inr rfl)) eA (@av _ _ _ _ _ _ _ (@bR _ _ _ _ _ _ 6 _ _ bq.nd rfl (by first | exact Or.inl rfl | exact Or.inr rfl) (mB TC hr (ae 2) (@ag _ _ _ _ _ _ _ (ae 5) ai rfl) (aj aB)) rfl (.inl rfl))
      (@av _ _ _ _ _ _ _ (@fU _ _ _ _ _ _ _ _ _ _ (@ba _ _ _ _ _ _ _ _ _ _ _ lj lu (ae 1) (ae 6) (aV _)) (@av _ _ _ _ _ _ _ (@bR _ _ _ _ _ _ 3 _ _ bq.nd rfl (by first | exact Or.inl rfl | exact Or.inr rfl) (ae 5) rfl (.inl rfl))
      (@ax _ _ _ _ _ BH)) bw)
      (@ax _ _ _ _ _ (BM (i := 1) bq.nd rfl (by first | exact Or.inl rfl | exact Or.inr rfl) (ae 6) C3 Dh)))))))
      (@ax _ _ _ _ _ (@br _ _ _ _ _ _ (ae 3)))))
theorem dB : aL ["n", "some", "rests", "left", "fewer", "falls"] ["n", "some"] (ao (aF 21)) := ⟨rfl, rfl, rfl, by decide +kernel, rfl, by decide +kernel, by decide +kernel⟩
theorem oj (D : aJ K mg "set_rests" (aF 21)) (T : Blt mg) : Has P w K mg base g "set_rests" 1 ["n", "some"] eC := by
  obtain ⟨f, fd, hm, F⟩ := D
  refine ⟨f, fd, zt (j7 (dN F dB (fun cdv A outer s H E hr => ?_))), F.kp, F.binds (fun _ _ _ _ _ _ us hl => vV hl fun _ _ => rfl), hm, aO F⟩
  exact (@av _ _ _ _ _ _ _ (@bR _ _ _ _ _ _ 2 _ _ dB.nd rfl (by first | exact Or.inl rfl | exact Or.inr rfl) (@ip _ _ _ _ _ _ _ _ (@ag _ _ _ _ _ _ _ (@ip _ _ _ _ _ _ _ _ (@ag _ _ _ _ _ _ _ au ai rfl)) ai rfl)) rfl (.inl rfl))
      (@av _ _ _ _ _ _ _ (hG PassesOwn.never rfl (uO rfl T.range (@ag _ _ _ _ _ _ _ au (@ag _ _ _ _ _ _ _ (ae 0) ai rfl) rfl)) (b9 (i := 3) dB.nd rfl (by first | exact Or.inl rfl | exact Or.inr rfl)) eA (@av _ _ _ _ _ _ _ (@bR _ _ _ _ _ _ 4 _ _ dB.nd rfl (by first | exact Or.inl rfl | exact Or.inr rfl) (@dq _ _ _ _ _ _ _ _ _ _ ck dm (ae 2) (@pq _ _ _ _ _ _ _ _ _ kX ko au) (fun _ _ => rfl)) rfl (.inl rfl))
      (@av _ _ _ _ _ _ _ (@bR _ _ _ _ _ _ 5 _ _ dB.nd rfl (by first | exact Or.inl rfl | exact Or.inr rfl) (@gY _ _ _ _ _ _ _ _ _ _ _ oR vo (@aH _ _ _ _ _ _ _ _ _ _ _ b_ cj (@aH _ _ _ _ _ _ _ _ _ _ _ b_ cj (ae 0) au) (ae 3)) (ae 1) (by rfl)) rfl (.inl rfl))
      (@ax _ _ _ _ _ (kh (uC PySem.F.slot_list_append PySem.F.type_list_append oU vP (ae 2) (@ag _ _ _ _ _ _ _ (cb (osc := ao (aF 21)) [5, 4] ["lower", "falls", "fewer"] rfl rfl rfl rfl (by decide +kernel) ⟨by decide +kernel, by decide +kernel, rfl, by decide +kernel, rfl, by decide +kernel⟩ (cN rfl T.range (@ag _ _ _ _ _ _ _ (@aH _ _ _ _ _ _ _ _ _ _ _ dg dk (ae 3) au) ai rfl))
        (fun cl C aM aX fp => nz) (fun cl C aM aX fp => (aD (e9 rfl) kP rfl T.sum PyProof.Rows.boot_sum (@ag _ _ _ _ _ _ _ (@rN _ _ _ _ _ _ _ _ _ _ (@fk _ _ _ _ _ _ jw (ae 1) (fun _ => rfl)) (gq (ae 2) j4 (@gG _ _ _ _ _ (ae 0))) (gq (ae 2) (@gG _ _ _ _ _ (ae 0)) j4)) ai rfl)))) ai rfl)))))))
      (@ax _ _ _ _ _ (@br _ _ _ _ _ _ (ae 2)))))
theorem hJ : aL ["n", "some", "rests"] ["n", "some"] (ao (aF 23)) := ⟨rfl, rfl, rfl, by decide +kernel, rfl, by decide +kernel, by decide +kernel⟩
theorem kZ (D : aJ K mg "just_counter" (aF 23)) (T : Blt mg) (MK : AD K mg base "just_counter" (aF 23)) (fO : Has P w K mg base g "set_rests" 1 ["n", "some"] eC) : Has P w K mg base g "just_counter" 2 ["n", "some"] aU := by
  obtain ⟨f, fd, hm, F⟩ := D
  obtain ⟨zP, yz, oE, oo, nS, oq, _⟩ := fO
  obtain ⟨c, PT, MK⟩ := MK f fd hm F
  refine ⟨f, fd, DG ((cZ (aF 23)).take 1) "just_count" "begun" ["rests", "some"] [2, 1] F hJ MK rfl (fun _ => rfl) (by decide +kernel) (by decide +kernel) rfl ⟨⟨_, _, _, [("rests", _), ("some", _)], rfl, rfl⟩, rfl, rfl, rfl, by decide +kernel, rfl, rfl, by decide +kernel, ⟨by decide, by decide⟩, fun _ _ _ _ _ => rfl⟩ (fun cdv A outer s H E hr => ?_), F.kp, F.binds (fun _ _ _ _ _ _ us hl => vV hl fun _ _ => rfl), hm, aO F⟩
  exact (@ax _ _ _ _ _ (@bR _ _ _ _ _ _ 2 _ _ hJ.nd rfl (by first | exact Or.inl rfl | exact Or.inr rfl) (aC (oE.mono (by decide)) hr rfl oq oo nS (@ag _ _ _ _ _ _ _ (ae 0) (@ag _ _ _ _ _ _ _ (ae 1) ai rfl) rfl) (aj (aj aB))) rfl (.inl rfl)))
theorem qw : aL ["n", "number"] ["n", "number"] (ao (aF 29)) := ⟨rfl, rfl, rfl, by decide +kernel, rfl, by decide +kernel, by decide +kernel⟩
theorem nV (D : aJ K mg "zigzag_at" (aF 29)) (T : Blt mg) (bB : Has P w K mg base g "number_needed" 3 ["thing", "least", "most"] bD) (bW : Has P w K mg base g "zigzag_many" 5 ["n"] a8) (dj : Has P w K mg base g "order_numbered" 5 ["n", "number", "many_with"] cg) (bH : Has P w K mg base g "just_counter" 2 ["n", "some"] aU) (aQ : Has P w K mg base g "odd_places" 1 ["n"] bh) : Has P w K mg base g "zigzag_at" 6 ["n", "number"] bF := by
  obtain ⟨f, fd, hm, F⟩ := D
  obtain ⟨jW, ju, dH, dM, dG, dC, _⟩ := bB
  obtain ⟨lI, lb, cW, cX, c_, de, _⟩ := bW
  obtain ⟨tV, tO, jx, jo, jt, jh, _⟩ := dj
  obtain ⟨kR, jN, dU, dX, dY, dZ, _⟩ := bH
  obtain ⟨fm, eJ, bQ, bJ, bP, bL, _⟩ := aQ
  refine ⟨f, fd, dN F qw (fun cdv A outer s H E hr => ?_), F.kp, F.binds (fun _ _ _ _ _ _ us hl => vV hl fun _ _ => rfl), hm, aO F⟩
  exact (@av _ _ _ _ _ _ _ (kh (aC (dH.mono (by decide)) hr rfl dC dM dG (@ag _ _ _ _ _ _ _ (ae 1) (@ag _ _ _ _ _ _ _ au (@ag _ _ _ _ _ _ _ (@aH _ _ _ _ _ _ _ _ _ _ _ b_ cj (aC (cW.mono (by decide)) hr rfl de cX c_ (@ag _ _ _ _ _ _ _ (ae 0) ai rfl) (aj aB)) au) ai rfl) rfl) rfl) (aj (aj (aj aB)))))
      (@ax _ _ _ _ _ (@br _ _ _ _ _ _ (aC (jx.mono (by decide)) hr rfl jh jo jt (@ag _ _ _ _ _ _ _ (ae 0) (@ag _ _ _ _ _ _ _ (ae 1) (@ag _ _ _ _ _ _ _ (aC (dU.mono (by decide)) hr rfl dZ dX dY (@ag _ _ _ _ _ _ _ (ae 0) (@ag _ _ _ _ _ _ _ (aC (bQ.mono (by decide)) hr rfl bL bJ bP (@ag _ _ _ _ _ _ _ (ae 0) ai rfl) (aj aB)) ai rfl) rfl) (aj (aj aB))) ai rfl) rfl) rfl) (aj (aj (aj aB)))))))
theorem cH : aL ["_law_n", "_law_number", "_law_known", "_law_found", "_law_left", "_law_rank", "_law_here", "_law_many"] ["_law_n", "_law_number", "_law_known"] (ao (aF 39)) := ⟨rfl, rfl, rfl, by decide +kernel, rfl, by decide +kernel, by decide +kernel⟩
theorem sQ (D : aJ K mg "_law_at" (aF 39)) (T : Blt mg) (dw : Has P w K mg base g "_law_on" 22 ["_law_n", "_law_left", "_law_less", "_law_known"] (aR 22)) : Has P w K mg base g "_law_at" 23 ["_law_n", "_law_number", "_law_known"] e8 := by
  obtain ⟨f, fd, hm, F⟩ := D
  obtain ⟨sx, qx, h8, iA, ib, ic, _⟩ := dw
  refine ⟨f, fd, j7 (dN F cH (fun cdv A outer s H E hr => ?_)), F.kp, F.binds (fun _ _ _ _ _ _ us hl => vT hl fun _ _ _ => rfl), hm, aO F⟩
  exact (@av _ _ _ _ _ _ _ (@bR _ _ _ _ _ _ 3 _ _ cH.nd rfl (by first | exact Or.inl rfl | exact Or.inr rfl) (@h9 _ _ _ _ _ _ _ ai) rfl (.inl rfl))
      (@av _ _ _ _ _ _ _ (@bR _ _ _ _ _ _ 4 _ _ cH.nd rfl (by first | exact Or.inl rfl | exact Or.inr rfl) (r8 rfl rfl T.list rfl T.range (@ag _ _ _ _ _ _ _ (ae 0) ai rfl)) rfl (.inl rfl))
      (@av _ _ _ _ _ _ _ (@A8 _ _ _ _ _ _ _ _ 64 PassesOwn.never (@ba _ _ _ _ _ _ _ _ _ _ _ (ik hr.units) lA (ae 4) (@ip _ _ _ _ _ _ _ _ ai) (aV _)) (@av _ _ _ _ _ _ _ (hG PassesOwn.never rfl (vH rfl T.enumerate (ae 4)) (zF rfl (ke (b9 (i := 5) cH.nd rfl (by first | exact Or.inl rfl | exact Or.inr rfl)) (ke (b9 (i := 6) cH.nd rfl (by first | exact Or.inl rfl | exact Or.inr rfl)) vI))) zg (@ax _ _ _ _ _ (@fU _ _ _ _ _ _ _ _ _ _ (PW.pt (@uS _ _ _ _ _ _ _ _ _ (@ba _ _ _ _ _ _ _ _ _ _ _ (dJ hr.units) fE (ae 3) (@h9 _ _ _ _ _ _ _ ai) (aV _)) (@qO _ _ _ _ _ _ (@ba _ _ _ _ _ _ _ _ _ _ _ (dJ hr.units) fE (@gY _ _ _ _ _ _ _ _ _ _ _ lj lu (ae 6) (@dq _ _ _ _ _ _ _ _ _ _ ck dm (ae 3) (@pq _ _ _ _ _ _ _ _ _ kX ko au) (fun _ _ => rfl)) (aV _)) (@gY _ _ _ _ _ _ _ _ _ _ _ (dJ hr.units) fE (@aH _ _ _ _ _ _ _ _ _ _ _ iP iR (aD bS bM rfl T.len PySem.boot_len (@ag _ _ _ _ _ _ _ (ae 3) ai rfl)) au) au (aV _)) (aV _))))) (@av _ _ _ _ _ _ _ (@bR _ _ _ _ _ _ 7 _ _ cH.nd rfl (by first | exact Or.inl rfl | exact Or.inr rfl) (aC (h8.mono (by decide)) hr rfl ic iA ib (@ag _ _ _ _ _ _ _ (ae 0) (@ag _ _ _ _ _ _ _ (@aH _ _ _ _ _ _ _ _ _ _ _ b_ cj (aD bS bM rfl T.len PySem.boot_len (@ag _ _ _ _ _ _ _ (ae 4) ai rfl)) au) (@ag _ _ _ _ _ _ _ (ae 5) (@ag _ _ _ _ _ _ _ (ae 2) ai rfl) rfl) rfl) rfl) (aj (aj (aj (aj aB))))) rfl (.inl rfl))
      (@av _ _ _ _ _ _ _ (@fU _ _ _ _ _ _ _ _ _ _ (@ba _ _ _ _ _ _ _ _ _ _ _ lj lu (ae 1) (ae 7) (aV _)) (@ax _ _ _ _ _ BH) bw)
      (@ax _ _ _ _ _ (@bR _ _ _ _ _ _ 1 _ _ cH.nd rfl (by first | exact Or.inl rfl | exact Or.inr rfl) (@aH _ _ _ _ _ _ _ _ _ _ _ b_ cj (ae 1) (ae 7)) rfl (.inl rfl))))) bw)))
      (@av _ _ _ _ _ _ _ (@bR _ _ _ _ _ _ 3 _ _ cH.nd rfl (by first | exact Or.inl rfl | exact Or.inr rfl) (@aH _ _ _ _ _ _ _ _ _ _ _ dg dk (ae 3) (@h9 _ _ _ _ _ _ _ (@ag _ _ _ _ _ _ _ (ae 6) ai rfl))) rfl (.inl rfl))
      (@ax _ _ _ _ _ (kh (uC PySem.F.slot_list_remove PySem.F.type_list_remove wZ wF (ae 4) (@ag _ _ _ _ _ _ _ (ae 6) ai rfl)))))))
      (@ax _ _ _ _ _ (@br _ _ _ _ _ _ (ae 3))))))
theorem jb : aL ["thing", "number"] ["thing"] (ao (aF 11)) := ⟨rfl, rfl, rfl, by decide +kernel, rfl, by decide +kernel, by decide +kernel⟩
theorem nu (D : aJ K mg "order_good" (aF 11)) (T : Blt mg) {dE : Tok} (cf : mg "MOST_NUMBERS" = some (.int 20 dE)) (cy : Has P w K mg base g "is_within" 2 ["thing", "least", "most"] cm) : Has P w K mg base g "order_good" 3 ["thing"] dF := by
  obtain ⟨f, fd, hm, F⟩ := D
  obtain ⟨oF, mU, fV, fP, f9, gg, _⟩ := cy
  refine ⟨f, fd, j7 (dN F jb (fun cdv A outer s H E hr => ?_)), F.kp, F.binds (fun _ _ _ _ _ _ us hl => i4 hl fun _ => rfl), hm, aO F⟩
  exact (@av _ _ _ _ _ _ _ (@fU _ _ _ _ _ _ _ _ _ _ (PW.pt (@uS _ _ _ _ _ _ _ _ _ (@kU _ _ _ _ _ _ (@fk _ _ _ _ _ _ jw (ux (ae 0) rfl T.isinstance rfl T.tuple PyProof.Rows.boot_tuple) (fun _ => rfl))) (@qO _ _ _ _ _ _ (@kU _ _ _ _ _ _ (yy vt vt vG vG au (aD bS bM rfl T.len PySem.boot_len (@ag _ _ _ _ _ _ _ (ae 0) ai rfl)) (sd rfl cf)))))) (@ax _ _ _ _ _ (@br _ _ _ _ _ _ m9)) bw)
      (@av _ _ _ _ _ _ _ (hG PassesOwn.never rfl (@fQ _ _ _ _ _ _ (ae 0)) (b9 (i := 1) jb.nd rfl (by first | exact Or.inl rfl | exact Or.inr rfl)) eA (@ax _ _ _ _ _ (@fU _ _ _ _ _ _ _ _ _ _ (@kU _ _ _ _ _ _ (@fk _ _ _ _ _ _ jw (aC (fV.mono (by decide)) hr rfl gg fP f9 (@ag _ _ _ _ _ _ _ (ae 1) (@ag _ _ _ _ _ _ _ au (@ag _ _ _ _ _ _ _ (@aH _ _ _ _ _ _ _ _ _ _ _ b_ cj (aD bS bM rfl T.len PySem.boot_len (@ag _ _ _ _ _ _ _ (ae 0) ai rfl)) au) ai rfl) rfl) rfl) (aj (aj (aj aB)))) (fun _ => rfl))) (@ax _ _ _ _ _ (@br _ _ _ _ _ _ m9)) bw)))
      (@ax _ _ _ _ _ (@br _ _ _ _ _ _ (@gY _ _ _ _ _ _ _ _ _ _ _ (dJ hr.units) fE (aD bS bM rfl T.len PySem.boot_len (@ag _ _ _ _ _ _ _ (eZ (qp rfl) Ct rfl T.set PyProof.Rows.boot_set (@ag _ _ _ _ _ _ _ (ae 0) ai rfl)) ai rfl)) (aD bS bM rfl T.len PySem.boot_len (@ag _ _ _ _ _ _ _ (ae 0) ai rfl)) (aV _))))))
theorem lJ : aL ["thing"] ["thing"] (ao (aF 12)) := ⟨rfl, rfl, rfl, by decide +kernel, rfl, by decide +kernel, by decide +kernel⟩
theorem k_ (D : aJ K mg "order_needed" (aF 12)) (T : Blt mg) (fq : Has P w K mg base g "order_good" 3 ["thing"] dF) : Has P w K mg base g "order_needed" 4 ["thing"] cJ := by
  obtain ⟨f, fd, hm, F⟩ := D
  obtain ⟨zq, xq, nD, nI, mN, mV, _⟩ := fq
  refine ⟨f, fd, dN F lJ (fun cdv A outer s H E hr => ?_), F.kp, F.binds (fun _ _ _ _ _ _ us hl => i4 hl fun _ => rfl), hm, aO F⟩
  exact (@ax _ _ _ _ _ (@fU _ _ _ _ _ _ _ _ _ _ (@kU _ _ _ _ _ _ (@fk _ _ _ _ _ _ jw (aC (nD.mono (by decide)) hr rfl mV nI mN (@ag _ _ _ _ _ _ _ (ae 0) ai rfl) (aj aB)) (fun _ => rfl))) (@ax _ _ _ _ _ (PS.imp nG fun E σ H ⟨α, env, h, s, w⟩ => w.elim)) bw))
theorem sT : aL ["order"] ["order"] (ao (aF 14)) := ⟨rfl, rfl, rfl, by decide +kernel, rfl, by decide +kernel, by decide +kernel⟩
theorem qt (D : aJ K mg "falls_of" (aF 14)) (T : Blt mg) (dR : Has P w K mg base g "order_needed" 4 ["thing"] cJ) (cM : Has P w K mg base g "falls_in" 1 ["numbers"] dh) : Has P w K mg base g "falls_of" 5 ["order"] gU := by
  obtain ⟨f, fd, hm, F⟩ := D
  obtain ⟨wg, vO, kO, kW, kN, kx, _⟩ := dR
  obtain ⟨pV, oG, g8, g7, gW, gZ, _⟩ := cM
  refine ⟨f, fd, dN F sT (fun cdv A outer s H E hr => ?_), F.kp, F.binds (fun _ _ _ _ _ _ us hl => i4 hl fun _ => rfl), hm, aO F⟩
  exact (@av _ _ _ _ _ _ _ (kh (aC (kO.mono (by decide)) hr rfl kx kW kN (@ag _ _ _ _ _ _ _ (ae 0) ai rfl) (aj aB)))
      (@ax _ _ _ _ _ (@br _ _ _ _ _ _ (aC (g8.mono (by decide)) hr rfl gZ g7 gW (@ag _ _ _ _ _ _ _ (ae 0) ai rfl) (aj aB)))))
theorem q_ : aL ["order"] ["order"] (ao (aF 25)) := ⟨rfl, rfl, rfl, by decide +kernel, rfl, by decide +kernel, by decide +kernel⟩
theorem oH (D : aJ K mg "is_zigzag" (aF 25)) (T : Blt mg) (gB : Has P w K mg base g "falls_of" 5 ["order"] gU) (aQ : Has P w K mg base g "odd_places" 1 ["n"] bh) : Has P w K mg base g "is_zigzag" 6 ["order"] fD := by
  obtain ⟨f, fd, hm, F⟩ := D
  obtain ⟨AN, zO, qU, qS, qX, qk, _⟩ := gB
  obtain ⟨fm, eJ, bQ, bJ, bP, bL, _⟩ := aQ
  refine ⟨f, fd, dN F q_ (fun cdv A outer s H E hr => ?_), F.kp, F.binds (fun _ _ _ _ _ _ us hl => i4 hl fun _ => rfl), hm, aO F⟩
  exact (@ax _ _ _ _ _ (@br _ _ _ _ _ _ (@gY _ _ _ _ _ _ _ _ _ _ _ (dJ hr.units) fE (aC (qU.mono (by decide)) hr rfl qk qS qX (@ag _ _ _ _ _ _ _ (ae 0) ai rfl) (aj aB)) (aC (bQ.mono (by decide)) hr rfl bL bJ bP (@ag _ _ _ _ _ _ _ (aD bS bM rfl T.len PySem.boot_len (@ag _ _ _ _ _ _ _ (ae 0) ai rfl)) ai rfl) (aj aB)) (aV _))))
theorem cq : aL ["order", "many_with", "number", "place", "longer"] ["order", "many_with"] (ao (aF 19)) := ⟨rfl, rfl, rfl, by decide +kernel, rfl, by decide +kernel, by decide +kernel⟩
theorem kG (D : aJ K mg "number_among" (aF 19)) (T : Blt mg) (bX : Has P w K mg base g "longer_ones" 4 ["n", "begun", "many_with"] bx) (bo : Has P w K mg base g "just_count" 2 ["rests", "some", "begun"] bj) : Has P w K mg base g "number_among" 5 ["order", "many_with"] cL := by
  obtain ⟨f, fd, hm, F⟩ := D
  obtain ⟨lW, kC, eK, eN, eF, eM, _⟩ := bX
  obtain ⟨iB, hW, cF, cB, cG, cK, _⟩ := bo
  have TC : ∀ x np m, i6 x = some (np, m) -> ∃ f fd ps, mg x = some (.ref f) /\ df P w K mg base CX0 3 f fd ps (spM K g np m) /\ PySem.W.keepIn K (.ref f) = true /\ Binds K fd ps [] := by
    intro x np m e
    unfold i6 at e
    by_cases aY : x = "just_count"
    · rw [if_pos aY] at e; cases e; rw [aY]; exact ⟨_, _, _, cK, cF.mono (by decide), cB, cG⟩
    rw [if_neg aY] at e
    cases e
  refine ⟨f, fd, dN F cq (fun cdv A outer s H E hr => ?_), F.kp, F.binds (fun _ _ _ _ _ _ us hl => vV hl fun _ _ => rfl), hm, aO F⟩
  exact (@av _ _ _ _ _ _ _ (@bR _ _ _ _ _ _ 2 _ _ cq.nd rfl (by first | exact Or.inl rfl | exact Or.inr rfl) au rfl (.inl rfl))
      (@av _ _ _ _ _ _ _ (hG PassesOwn.never rfl (cN rfl T.range (@ag _ _ _ _ _ _ _ (aD bS bM rfl T.len PySem.boot_len (@ag _ _ _ _ _ _ _ (ae 0) ai rfl)) ai rfl)) (b9 (i := 3) cq.nd rfl (by first | exact Or.inl rfl | exact Or.inr rfl)) eA (@ax _ _ _ _ _ (hG PassesOwn.never rfl (@fQ _ _ _ _ _ _ (aC (eK.mono (by decide)) hr rfl eM eN eF (@ag _ _ _ _ _ _ _ (aD bS bM rfl T.len PySem.boot_len (@ag _ _ _ _ _ _ _ (ae 0) ai rfl)) (@ag _ _ _ _ _ _ _ (gq (ae 0) j4 (@gG _ _ _ _ _ (ae 3))) (@ag _ _ _ _ _ _ _ (ae 1) ai rfl) rfl) rfl) (aj (aj (aj aB))))) (b9 (i := 4) cq.nd rfl (by first | exact Or.inl rfl | exact Or.inr rfl)) eA (@ax _ _ _ _ _ (@fU _ _ _ _ _ _ _ _ _ _ (@ba _ _ _ _ _ _ _ _ _ _ _ lj lu (@dq _ _ _ _ _ _ _ _ _ _ ck dm (ae 4) (@pq _ _ _ _ _ _ _ _ _ kX ko au) (fun _ _ => rfl)) (@dq _ _ _ _ _ _ _ _ _ _ ck dm (ae 0) (ae 3) (fun _ _ => rfl)) (aV _)) (@ax _ _ _ _ _ (BM (i := 2) cq.nd rfl (by first | exact Or.inl rfl | exact Or.inr rfl) (mB TC hr (ae 1) (@ag _ _ _ _ _ _ _ (ae 4) ai rfl) (aj aB)) CQ Dt)) bw)))))
      (@ax _ _ _ _ _ (@br _ _ _ _ _ _ (ae 2)))))
theorem kJ : aL ["order"] ["order"] (ao (aF 30)) := ⟨rfl, rfl, rfl, by decide +kernel, rfl, by decide +kernel, by decide +kernel⟩
theorem jM (D : aJ K mg "zigzag_number" (aF 30)) (T : Blt mg) (f7 : Has P w K mg base g "is_zigzag" 6 ["order"] fD) (dW : Has P w K mg base g "number_among" 5 ["order", "many_with"] cL) (bH : Has P w K mg base g "just_counter" 2 ["n", "some"] aU) (aQ : Has P w K mg base g "odd_places" 1 ["n"] bh) : Has P w K mg base g "zigzag_number" 7 ["order"] aZ := by
  obtain ⟨f, fd, hm, F⟩ := D
  obtain ⟨zN, yn, oD, oJ, ou, oM, _⟩ := f7
  obtain ⟨vZ, vx, k6, kH, kL, k8, _⟩ := dW
  obtain ⟨kR, jN, dU, dX, dY, dZ, _⟩ := bH
  obtain ⟨fm, eJ, bQ, bJ, bP, bL, _⟩ := aQ
  refine ⟨f, fd, dN F kJ (fun cdv A outer s H E hr => ?_), F.kp, F.binds (fun _ _ _ _ _ _ us hl => i4 hl fun _ => rfl), hm, aO F⟩
  exact (@av _ _ _ _ _ _ _ (@fU _ _ _ _ _ _ _ _ _ _ (@kU _ _ _ _ _ _ (@fk _ _ _ _ _ _ jw (aC (oD.mono (by decide)) hr rfl oM oJ ou (@ag _ _ _ _ _ _ _ (ae 0) ai rfl) (aj aB)) (fun _ => rfl))) (@ax _ _ _ _ _ (PS.imp nG fun E σ H ⟨α, env, h, s, w⟩ => w.elim)) bw)
      (@ax _ _ _ _ _ (@br _ _ _ _ _ _ (aC (k6.mono (by decide)) hr rfl k8 kH kL (@ag _ _ _ _ _ _ _ (ae 0) (@ag _ _ _ _ _ _ _ (aC (dU.mono (by decide)) hr rfl dZ dX dY (@ag _ _ _ _ _ _ _ (aD bS bM rfl T.len PySem.boot_len (@ag _ _ _ _ _ _ _ (ae 0) ai rfl)) (@ag _ _ _ _ _ _ _ (aC (bQ.mono (by decide)) hr rfl bL bJ bP (@ag _ _ _ _ _ _ _ (aD bS bM rfl T.len PySem.boot_len (@ag _ _ _ _ _ _ _ (ae 0) ai rfl)) ai rfl) (aj aB)) ai rfl) rfl) (aj (aj aB))) ai rfl) rfl) (aj (aj aB))))))
theorem dn : aL ["_law_n", "_law_found", "_law_turn", "_law_longer", "_law_begun"] ["_law_n"] (ao (aF 37)) := ⟨rfl, rfl, rfl, by decide +kernel, rfl, by decide +kernel, by decide +kernel⟩
theorem rg (D : aJ K mg "_law_all" (aF 37)) (T : Blt mg) : Has P w K mg base g "_law_all" 1 ["_law_n"] di := by
  obtain ⟨f, fd, hm, F⟩ := D
  refine ⟨f, fd, zt (j7 (dN F dn (fun cdv A outer s H E hr => ?_))), F.kp, F.binds (fun _ _ _ _ _ _ us hl => i4 hl fun _ => rfl), hm, aO F⟩
  exact (@av _ _ _ _ _ _ _ (@bR _ _ _ _ _ _ 1 _ _ dn.nd rfl (by first | exact Or.inl rfl | exact Or.inr rfl) (@ip _ _ _ _ _ _ _ _ (@ag _ _ _ _ _ _ _ (@h9 _ _ _ _ _ _ _ ai) ai rfl)) rfl (.inl rfl))
      (@av _ _ _ _ _ _ _ (hG PassesOwn.never rfl (cN rfl T.range (@ag _ _ _ _ _ _ _ (ae 0) ai rfl)) (b9 (i := 2) dn.nd rfl (by first | exact Or.inl rfl | exact Or.inr rfl)) eA (@av _ _ _ _ _ _ _ (@bR _ _ _ _ _ _ 3 _ _ dn.nd rfl (by first | exact Or.inl rfl | exact Or.inr rfl) (@ip _ _ _ _ _ _ _ _ ai) rfl (.inl rfl))
      (@av _ _ _ _ _ _ _ (hG PassesOwn.never rfl (@fQ _ _ _ _ _ _ (ae 1)) (b9 (i := 4) dn.nd rfl (by first | exact Or.inl rfl | exact Or.inr rfl)) eA (@ax _ _ _ _ _ (kh (uC PySem.F.slot_list_extend PySem.F.type_list_extend uv wo (ae 3) (@ag _ _ _ _ _ _ _ (cb (osc := ao (aF 37)) [4] ["_law_number", "_law_begun"] rfl rfl rfl rfl (by decide +kernel) ⟨by decide +kernel, by decide +kernel, rfl, by decide +kernel, rfl, by decide +kernel⟩ (cN rfl T.range (@ag _ _ _ _ _ _ _ (ae 0) ai rfl))
        (fun cl C aM aX fp => (fT (@ba _ _ _ _ _ _ _ _ _ _ _ jE vo (ae 0) (ae 1) (by rfl)))) (fun cl C aM aX fp => (@aH _ _ _ _ _ _ _ _ _ _ _ dg dk (ae 1) (@h9 _ _ _ _ _ _ _ (@ag _ _ _ _ _ _ _ (ae 0) ai rfl))))) ai rfl)))))
      (@ax _ _ _ _ _ (@bR _ _ _ _ _ _ 1 _ _ dn.nd rfl (by first | exact Or.inl rfl | exact Or.inr rfl) (ae 3) rfl (.inl rfl))))))
      (@ax _ _ _ _ _ (@br _ _ _ _ _ _ (ae 1)))))
theorem n9 : aL ["_law_row"] ["_law_row"] (ao (aF 36)) := ⟨rfl, rfl, rfl, by decide +kernel, rfl, by decide +kernel, by decide +kernel⟩
theorem mM (D : aJ K mg "_law_falls" (aF 36)) (T : Blt mg) : Has P w K mg base g "_law_falls" 1 ["_law_row"] bY := by
  obtain ⟨f, fd, hm, F⟩ := D
  refine ⟨f, fd, dN F n9 (fun cdv A outer s H E hr => ?_), F.kp, F.binds (fun _ _ _ _ _ _ us hl => i4 hl fun _ => rfl), hm, aO F⟩
  exact (@ax _ _ _ _ _ (@br _ _ _ _ _ _ (eZ eh j_ rfl T.tuple PyProof.Rows.boot_tuple (@ag _ _ _ _ _ _ _ (cb (osc := ao (aF 36)) [0] ["_law_place", "_law_row"] rfl rfl rfl rfl (by decide +kernel) ⟨by decide +kernel, by decide +kernel, rfl, by decide +kernel, rfl, by decide +kernel⟩ (cN rfl T.range (@ag _ _ _ _ _ _ _ (@aH _ _ _ _ _ _ _ _ _ _ _ b_ cj (aD bS bM rfl T.len PySem.boot_len (@ag _ _ _ _ _ _ _ (ae 0) ai rfl)) au) ai rfl))
        (fun cl C aM aX fp => (fT (@ba _ _ _ _ _ _ _ _ _ _ _ vL vy (@dq _ _ _ _ _ _ _ _ _ _ ck dm (ae 1) (ae 0) (fun _ _ => rfl)) (@dq _ _ _ _ _ _ _ _ _ _ ck dm (ae 1) (@aH _ _ _ _ _ _ _ _ _ _ _ dg dk (ae 0) au) (fun _ _ => rfl)) (aV _)))) (fun cl C aM aX fp => (ae 0))) ai rfl))))
theorem eO : aL ["_law_script", "_law_at_here", "_law_cell", "_law_pen", "_law_n", "_law_known", "_law_many", "_law_number", "_law_found", "_law_odd", "_law_some"] ["_law_script"] (ao (aF 40)) := ⟨rfl, rfl, rfl, by decide +kernel, rfl, by decide +kernel, by decide +kernel⟩
theorem Bx (D : aJ K mg "law" (aF 40)) (T : Blt mg) (d_ : Has P w K mg base g "_law_cell_at" 1 ["_law_script", "_law_k"] bI) (eQ : Has P w K mg base g "_law_pen_of" 1 ["_law_cell"] b0) (gc : Has P w K mg base g "_law_draw" 2 ["_law_pen", "_law_many"] aS) (dw : Has P w K mg base g "_law_on" 22 ["_law_n", "_law_left", "_law_less", "_law_known"] (aR 22)) (bW : Has P w K mg base g "zigzag_many" 5 ["n"] a8) (f6 : Has P w K mg base g "zigzag_at" 6 ["n", "number"] bF) (iO : Has P w K mg base g "_law_at" 23 ["_law_n", "_law_number", "_law_known"] e8) (dI : Has P w K mg base g "zigzag_number" 7 ["order"] aZ) (gF : Has P w K mg base g "_law_all" 1 ["_law_n"] di) (fw : Has P w K mg base g "_law_falls" 1 ["_law_row"] bY) : Has P w K mg base g "law" 24 ["_law_script"] m3 := by
  obtain ⟨f, fd, hm, F⟩ := D
  obtain ⟨wM, uH, kA, kE, kl, kF, _⟩ := d_
  obtain ⟨xo, wW, lK, lN, lU, lV, _⟩ := eQ
  obtain ⟨zM, zH, f_, fY, fW, fR, _⟩ := gc
  obtain ⟨sx, qx, h8, iA, ib, ic, _⟩ := dw
  obtain ⟨lI, lb, cW, cX, c_, de, _⟩ := bW
  obtain ⟨zQ, xt, jd, i9, i8, je, _⟩ := f6
  obtain ⟨BU, Bl, rH, rz, rD, r_, _⟩ := iO
  obtain ⟨uW, t8, fL, fM, fF, fJ, _⟩ := dI
  obtain ⟨zX, zT, qT, qz, qd, qP, _⟩ := gF
  obtain ⟨xH, xm, mK, mz, nB, nA, _⟩ := fw
  refine ⟨f, fd, j7 (dN F eO (fun cdv A outer s H E hr => ?_)), F.kp, F.binds (fun _ _ _ _ _ _ us hl => i4 hl fun _ => rfl), hm, aO F⟩
  exact (@av _ _ _ _ _ _ _ (hG PassesOwn.never rfl (vH rfl T.enumerate (@aH _ _ _ _ _ _ _ _ _ _ _ dg dk (@ip _ _ _ _ _ _ _ _ (@ag _ _ _ _ _ _ _ (aC (kA.mono (by decide)) hr rfl kF kE kl (@ag _ _ _ _ _ _ _ (ae 0) (@ag _ _ _ _ _ _ _ au ai rfl) rfl) (aj (aj aB))) ai rfl)) (gq (ae 0) (@gG _ _ _ _ _ au) (@gG _ _ _ _ _ au)))) (zF rfl (ke (b9 (i := 1) eO.nd rfl (by first | exact Or.inl rfl | exact Or.inr rfl)) (ke (b9 (i := 2) eO.nd rfl (by first | exact Or.inl rfl | exact Or.inr rfl)) vI))) zg (@av _ _ _ _ _ _ _ (@bR _ _ _ _ _ _ 3 _ _ eO.nd rfl (by first | exact Or.inl rfl | exact Or.inr rfl) (aC (lK.mono (by decide)) hr rfl lV lN lU (@ag _ _ _ _ _ _ _ (ae 2) ai rfl) (aj aB)) rfl (.inl rfl))
      (@av _ _ _ _ _ _ _ (@bR _ _ _ _ _ _ 4 _ _ eO.nd rfl (by first | exact Or.inl rfl | exact Or.inr rfl) (@aH _ _ _ _ _ _ _ _ _ _ _ dg dk au (aC (f_.mono (by decide)) hr rfl fR fY fW (@ag _ _ _ _ _ _ _ (ae 3) (@ag _ _ _ _ _ _ _ au ai rfl) rfl) (aj (aj aB)))) rfl (.inl rfl))
      (@av _ _ _ _ _ _ _ (@bR _ _ _ _ _ _ 5 _ _ eO.nd rfl (by first | exact Or.inl rfl | exact Or.inr rfl) A0 rfl (.inl rfl))
      (@av _ _ _ _ _ _ _ (@bR _ _ _ _ _ _ 6 _ _ eO.nd rfl (by first | exact Or.inl rfl | exact Or.inr rfl) (aD (e9 rfl) kP rfl T.sum PyProof.Rows.boot_sum (@ag _ _ _ _ _ _ _ (cb (osc := ao (aF 40)) [4, 5] ["_law_rank", "_law_n", "_law_known"] rfl rfl rfl rfl (by decide +kernel) ⟨by decide +kernel, by decide +kernel, rfl, by decide +kernel, rfl, by decide +kernel⟩ (cN rfl T.range (@ag _ _ _ _ _ _ _ (ae 4) ai rfl))
        (fun cl C aM aX fp => nz) (fun cl C aM aX fp => (aC (h8.mono (by decide)) hr rfl ic iA ib (@ag _ _ _ _ _ _ _ (ae 1) (@ag _ _ _ _ _ _ _ (@aH _ _ _ _ _ _ _ _ _ _ _ b_ cj (ae 1) au) (@ag _ _ _ _ _ _ _ (ae 0) (@ag _ _ _ _ _ _ _ (ae 2) ai rfl) rfl) rfl) rfl) (aj (aj (aj (aj aB))))))) ai rfl)) rfl (.inl rfl))
      (@av _ _ _ _ _ _ _ (@fU _ _ _ _ _ _ _ _ _ _ (@ba _ _ _ _ _ _ _ _ _ _ _ (ik hr.units) lA (aD (iU hr.gd hr.units) iS rfl T.repr PyProof.Rows.boot_repr (@ag _ _ _ _ _ _ _ (aC (cW.mono (by decide)) hr rfl de cX c_ (@ag _ _ _ _ _ _ _ (ae 4) ai rfl) (aj aB)) ai rfl)) (aD (iU hr.gd hr.units) iS rfl T.repr PyProof.Rows.boot_repr (@ag _ _ _ _ _ _ _ (ae 6) ai rfl)) (aV _)) (@ax _ _ _ _ _ (@br _ _ _ _ _ _ m9)) bw)
      (@av _ _ _ _ _ _ _ (hG PassesOwn.never rfl (@fQ _ _ _ _ _ _ (@h9 _ _ _ _ _ _ _ (@ag _ _ _ _ _ _ _ au (@ag _ _ _ _ _ _ _ (@aH _ _ _ _ _ _ _ _ _ _ _ b_ cj (ae 6) au) (@ag _ _ _ _ _ _ _ (aC (f_.mono (by decide)) hr rfl fR fY fW (@ag _ _ _ _ _ _ _ (ae 3) (@ag _ _ _ _ _ _ _ (ae 6) ai rfl) rfl) (aj (aj aB))) ai rfl) rfl) rfl))) (b9 (i := 7) eO.nd rfl (by first | exact Or.inl rfl | exact Or.inr rfl)) eA (@av _ _ _ _ _ _ _ (@bR _ _ _ _ _ _ 8 _ _ eO.nd rfl (by first | exact Or.inl rfl | exact Or.inr rfl) (aC (jd.mono (by decide)) hr rfl je i9 i8 (@ag _ _ _ _ _ _ _ (ae 4) (@ag _ _ _ _ _ _ _ (ae 7) ai rfl) rfl) (aj (aj aB))) rfl (.inl rfl))
      (@ax _ _ _ _ _ (@fU _ _ _ _ _ _ _ _ _ _ (PW.pt (@uS _ _ _ _ _ _ _ _ _ (@ba _ _ _ _ _ _ _ _ _ _ _ (ik hr.units) lA (aD (iU hr.gd hr.units) iS rfl T.repr PyProof.Rows.boot_repr (@ag _ _ _ _ _ _ _ (ae 8) ai rfl)) (aD (iU hr.gd hr.units) iS rfl T.repr PyProof.Rows.boot_repr (@ag _ _ _ _ _ _ _ (aC (rH.mono (by decide)) hr rfl r_ rz rD (@ag _ _ _ _ _ _ _ (ae 4) (@ag _ _ _ _ _ _ _ (ae 7) (@ag _ _ _ _ _ _ _ (ae 5) ai rfl) rfl) rfl) (aj (aj (aj aB)))) ai rfl)) (aV _)) (@qO _ _ _ _ _ _ (@ba _ _ _ _ _ _ _ _ _ _ _ (ik hr.units) lA (aD (iU hr.gd hr.units) iS rfl T.repr PyProof.Rows.boot_repr (@ag _ _ _ _ _ _ _ (aC (fL.mono (by decide)) hr rfl fJ fM fF (@ag _ _ _ _ _ _ _ (ae 8) ai rfl) (aj aB)) ai rfl)) (aD (iU hr.gd hr.units) iS rfl T.repr PyProof.Rows.boot_repr (@ag _ _ _ _ _ _ _ (ae 7) ai rfl)) (aV _))))) (@ax _ _ _ _ _ (@br _ _ _ _ _ _ m9)) bw))))
      (@ax _ _ _ _ _ (@fU _ _ _ _ _ _ _ _ _ _ (@ba _ _ _ _ _ _ _ _ _ _ _ (dJ hr.units) fE (ae 1) au (aV _)) (@av _ _ _ _ _ _ _ (@bR _ _ _ _ _ _ 4 _ _ eO.nd rfl (by first | exact Or.inl rfl | exact Or.inr rfl) (@aH _ _ _ _ _ _ _ _ _ _ _ dg dk au (aC (f_.mono (by decide)) hr rfl fR fY fW (@ag _ _ _ _ _ _ _ (ae 3) (@ag _ _ _ _ _ _ _ au ai rfl) rfl) (aj (aj aB)))) rfl (.inl rfl))
      (@av _ _ _ _ _ _ _ (@bR _ _ _ _ _ _ 9 _ _ eO.nd rfl (by first | exact Or.inl rfl | exact Or.inr rfl) (eZ eh j_ rfl T.tuple PyProof.Rows.boot_tuple (@ag _ _ _ _ _ _ _ (cb (osc := ao (aF 40)) [] ["_law_place"] rfl rfl rfl rfl (by decide +kernel) ⟨by decide +kernel, by decide +kernel, rfl, by decide +kernel, rfl, by decide +kernel⟩ (cN rfl T.range (@ag _ _ _ _ _ _ _ (@aH _ _ _ _ _ _ _ _ _ _ _ b_ cj (ae 4) au) ai rfl))
        (fun cl C aM aX fp => (fT (@ba _ _ _ _ _ _ _ _ _ _ _ (dJ hr.units) fE (@aH _ _ _ _ _ _ _ _ _ _ _ iP iR (ae 0) au) au (aV _)))) (fun cl C aM aX fp => (ae 0))) ai rfl)) rfl (.inl rfl))
      (@av _ _ _ _ _ _ _ (mO (osc := ao (aF 40)) [9] ["_law_one", "_law_odd"] rfl rfl rfl rfl (by decide +kernel) ⟨by decide +kernel, by decide +kernel, rfl, by decide +kernel, rfl, by decide +kernel⟩ (@fQ _ _ _ _ _ _ (aC (qT.mono (by decide)) hr rfl qP qz qd (@ag _ _ _ _ _ _ _ (ae 4) ai rfl) (aj aB)))
        (fun cl C aM aX fp => (fT (@ba _ _ _ _ _ _ _ _ _ _ _ (dJ hr.units) fE (aC (mK.mono (by decide)) hr rfl nA mz nB (@ag _ _ _ _ _ _ _ (ae 0) ai rfl) (aj aB)) (ae 1) (aV _)))) (fun cl C aM aX fp => (ae 0)) (i := 10) eO.nd rfl)
      (@av _ _ _ _ _ _ _ (@fU _ _ _ _ _ _ _ _ _ _ (PW.pt (@uS _ _ _ _ _ _ _ _ _ (@ba _ _ _ _ _ _ _ _ _ _ _ (ik hr.units) lA (cb (osc := ao (aF 40)) [4] ["_law_number", "_law_n"] rfl rfl rfl rfl (by decide +kernel) ⟨by decide +kernel, by decide +kernel, rfl, by decide +kernel, rfl, by decide +kernel⟩ (cN rfl T.range (@ag _ _ _ _ _ _ _ (aD bS bM rfl T.len PySem.boot_len (@ag _ _ _ _ _ _ _ (ae 10) ai rfl)) ai rfl))
        (fun cl C aM aX fp => nz) (fun cl C aM aX fp => (aC (jd.mono (by decide)) hr rfl je i9 i8 (@ag _ _ _ _ _ _ _ (ae 1) (@ag _ _ _ _ _ _ _ (ae 0) ai rfl) rfl) (aj (aj aB))))) (ae 10) (aV _)) (@qO _ _ _ _ _ _ (@ba _ _ _ _ _ _ _ _ _ _ _ (ik hr.units) lA (aC (cW.mono (by decide)) hr rfl de cX c_ (@ag _ _ _ _ _ _ _ (ae 4) ai rfl) (aj aB)) (aD bS bM rfl T.len PySem.boot_len (@ag _ _ _ _ _ _ _ (ae 10) ai rfl)) (aV _))))) (@ax _ _ _ _ _ (@br _ _ _ _ _ _ m9)) bw)
      (@ax _ _ _ _ _ (@fU _ _ _ _ _ _ _ _ _ _ (@ba _ _ _ _ _ _ _ _ _ _ _ (ik hr.units) lA (cb (osc := ao (aF 40)) [] ["_law_one"] rfl rfl rfl rfl (by decide +kernel) ⟨by decide +kernel, by decide +kernel, rfl, by decide +kernel, rfl, by decide +kernel⟩ (@fQ _ _ _ _ _ _ (ae 10))
        (fun cl C aM aX fp => nz) (fun cl C aM aX fp => (aC (fL.mono (by decide)) hr rfl fJ fM fF (@ag _ _ _ _ _ _ _ (ae 0) ai rfl) (aj aB)))) (r8 rfl rfl T.list rfl T.range (@ag _ _ _ _ _ _ _ (aD bS bM rfl T.len PySem.boot_len (@ag _ _ _ _ _ _ _ (ae 10) ai rfl)) ai rfl)) (aV _)) (@ax _ _ _ _ _ (@br _ _ _ _ _ _ m9)) bw)))))) bw)))))))))
      (@ax _ _ _ _ _ (@br _ _ _ _ _ _ m9)))
end
structure Text (K : PySem.W.Frag) (ts : List Addr) : Prop where
  e_ : bO K "_law_cell_at" (aF 32)
  gf : bO K "_law_pen_of" (aF 34)
  ie : bO K "_law_next" (aF 33)
  iE : bO K "_law_draw" (aF 35)
  kI : bO K "_law_on" (aF 38)
  js : bO K "is_whole" (aF 6)
  iy : bO K "is_within" (aF 7)
  eG : bO K "number_needed" (aF 8)
  gE : bO K "odd_places" (aF 26)
  gR : bO K "zigzag_row" (aF 27)
  fX : bO K "zigzag_many" (aF 28)
  jj : bO K "falls_in" (aF 13)
  gH : bO K "lower_left" (aF 16)
  gT : bO K "just_count" (aF 22)
  fS : bO K "longer_ones" (aF 17)
  dS : bO K "order_numbered" (aF 18)
  h7 : bO K "set_rests" (aF 21)
  fu : bO K "just_counter" (aF 23)
  iQ : bO K "zigzag_at" (aF 29)
  kY : bO K "_law_at" (aF 39)
  gD : bO K "order_good" (aF 11)
  ff : bO K "order_needed" (aF 12)
  jm : bO K "falls_of" (aF 14)
  iq : bO K "is_zigzag" (aF 25)
  fv : bO K "number_among" (aF 19)
  eL : bO K "zigzag_number" (aF 30)
  jA : bO K "_law_all" (aF 37)
  gX : bO K "_law_falls" (aF 36)
  zp : bO K "law" (aF 40)
  t6 : PySem.W.nsIn K mainGlobals "bool" = some none
  iN : PySem.W.nsIn K mainGlobals "enumerate" = some none
  yi : PySem.W.nsIn K mainGlobals "int" = some none
  gS : PySem.W.nsIn K mainGlobals "isinstance" = some none
  xK : PySem.W.nsIn K mainGlobals "len" = some none
  tU : PySem.W.nsIn K mainGlobals "list" = some none
  yP : PySem.W.nsIn K mainGlobals "max" = some none
  qR : PySem.W.nsIn K mainGlobals "range" = some none
  uy : PySem.W.nsIn K mainGlobals "repr" = some none
  yM : PySem.W.nsIn K mainGlobals "set" = some none
  xR : PySem.W.nsIn K mainGlobals "sum" = some none
  qZ : PySem.W.nsIn K mainGlobals "tuple" = some none
  cE : ∃ t, PySem.W.nsIn K mainGlobals "MOST_NUMBERS" = some (some (Value.int 20 t))
  aU : C9 K ts "just_counter" (aF 23)
theorem all_mk {P : Program} {w : World} {K : PySem.W.Frag} {h : Heap} {mg : Str -> Option Value} {fa : Addr} (X : K.In h) (G : h.Ns mainGlobals mg) (hfa : mg "law" = some (.ref fa)) {ts : List Addr} (hU : mkU K = true) (t : Text K ts) :
    ∃ fd : FuncData, (∀ (s : Shared) (v : Value), BindsTo s fd ⟨[v], []⟩ [("_law_script", v)]) /\ ∀ base : Heap, K.In base -> base.Ns mainGlobals mg -> (∀ P ∈ ts, base.BuiltinsAt mg P) -> df P w K mg base CX0 24 fa fd ["_law_script"] (spM K (gOf mg) 1 m3) := by
  have T : Blt mg := ⟨PySem.W.mg_none_of X G t.t6, PySem.W.mg_none_of X G t.iN, PySem.W.mg_none_of X G t.yi, PySem.W.mg_none_of X G t.gS, PySem.W.mg_none_of X G t.xK, PySem.W.mg_none_of X G t.tU, PySem.W.mg_none_of X G t.yP, PySem.W.mg_none_of X G t.qR, PySem.W.mg_none_of X G t.uy, PySem.W.mg_none_of X G t.yM, PySem.W.mg_none_of X G t.xR, PySem.W.mg_none_of X G t.qZ⟩
  obtain ⟨dE, cE⟩ := t.cE
  have cf := PySem.W.mg_of X G cE
  have nO := aJ.of X G t.e_
  have nW := aJ.of X G t.gf
  have rM := aJ.of X G t.ie
  have rA := aJ.of X G t.iE
  have wG := aJ.of X G t.kI
  have uu := aJ.of X G t.js
  have rT := aJ.of X G t.iy
  have l5 := aJ.of X G t.eG
  have qm := aJ.of X G t.gE
  have pK := aJ.of X G t.gR
  have n4 := aJ.of X G t.fX
  have tT := aJ.of X G t.jj
  have qF := aJ.of X G t.gH
  have pU := aJ.of X G t.gT
  have oA := aJ.of X G t.fS
  have kB := aJ.of X G t.dS
  have sJ := aJ.of X G t.h7
  have mE := aJ.of X G t.fu
  have tI := aJ.of X G t.iQ
  have xi := aJ.of X G t.kY
  have qo := aJ.of X G t.gD
  have mP := aJ.of X G t.ff
  have tP := aJ.of X G t.jm
  have tJ := aJ.of X G t.iq
  have ng := aJ.of X G t.fv
  have lH := aJ.of X G t.eL
  have tS := aJ.of X G t.jA
  have qA := aJ.of X G t.gX
  have DR := aJ.of X G t.zp
  obtain ⟨f, fd, hm, F⟩ := DR
  have e := hfa.symm.trans hm
  cases e
  refine ⟨fd, ?_, fun base _ _ hBA => ?_⟩
  · obtain ⟨oc, od, kV, doc, pm, an, cdv, ct, osl, rfl, lk, hcd⟩ := F.ex
    exact fun s v => .of_eq rfl
  · have d_ := kj (P := P) (w := w) (base := base) (g := gOf mg) nO T
    have eQ := lQ (P := P) (w := w) (base := base) (g := gOf mg) nW T
    have fN := oI (P := P) (w := w) (base := base) (g := gOf mg) rM T
    have gc := og (P := P) (w := w) (base := base) (g := gOf mg) rA T fN
    have dw := sR (P := P) (w := w) (base := base) (g := gOf mg) wG T
    have gK := p7 (P := P) (w := w) (base := base) (g := gOf mg) uu T
    have cy := oN (P := P) (w := w) (base := base) (g := gOf mg) rT T gK
    have bB := jS (P := P) (w := w) (base := base) (g := gOf mg) l5 T cy
    have aQ := mJ (P := P) (w := w) (base := base) (g := gOf mg) qm T
    have fo := m6 (P := P) (w := w) (base := base) (g := gOf mg) pK T cf bB aQ
    have bW := lT (P := P) (w := w) (base := base) (g := gOf mg) n4 T fo
    have cM := qI (P := P) (w := w) (base := base) (g := gOf mg) tT T
    have fA := my (P := P) (w := w) (base := base) (g := gOf mg) qF T
    have bo := mS (P := P) (w := w) (base := base) (g := gOf mg) pU T cM fA
    have bX := lP (P := P) (w := w) (base := base) (g := gOf mg) oA T bo
    have dj := jy (P := P) (w := w) (base := base) (g := gOf mg) kB T bX bo
    have fO := oj (P := P) (w := w) (base := base) (g := gOf mg) sJ T
    have bH := kZ (P := P) (w := w) (base := base) (g := gOf mg) mE T (AD.of X G hBA hU t.aU) fO
    have f6 := nV (P := P) (w := w) (base := base) (g := gOf mg) tI T bB bW dj bH aQ
    have iO := sQ (P := P) (w := w) (base := base) (g := gOf mg) xi T dw
    have fq := nu (P := P) (w := w) (base := base) (g := gOf mg) qo T cf cy
    have dR := k_ (P := P) (w := w) (base := base) (g := gOf mg) mP T fq
    have gB := qt (P := P) (w := w) (base := base) (g := gOf mg) tP T dR cM
    have f7 := oH (P := P) (w := w) (base := base) (g := gOf mg) tJ T gB aQ
    have dW := kG (P := P) (w := w) (base := base) (g := gOf mg) ng T bX bo
    have dI := jM (P := P) (w := w) (base := base) (g := gOf mg) lH T f7 dW bH aQ
    have gF := rg (P := P) (w := w) (base := base) (g := gOf mg) tS T
    have fw := mM (P := P) (w := w) (base := base) (g := gOf mg) qA T
    have AV := Bx (P := P) (w := w) (base := base) (g := gOf mg) ⟨_, _, hm, F⟩ T d_ eQ gc dw bW f6 iO dI gF fw
    exact B9 F hm AV
theorem walk {l : PySem.W.OpenLaw} {q : Program} {loose : List Str} {XP : (Str -> Option Value) -> Heap -> Prop} {YP : World -> Heap -> Prop} {d : DefRec} {K : Params -> PySem.W.Frag} {ts : List Addr} (hn : l.most = some 63) (hdf : d.params.defaults = [])
    (hY : ∀ (w : World) (h : Heap), YP w h -> (K w.params).In h) (hT : ∀ (w : World) (h : Heap), YP w h -> ∀ P ∈ ts, h.get? P = some (PySem.W.tabObj #[])) (hI : ∀ P, De (K P) ts = true)
    (ok : ∀ ns : List Int, ns.length <= 63 -> ∃ h, m3 [.scr (ns.map D.int)] [] = .ok (.bl true) h)
    (F : ∀ (w : World) (mg : Str -> Option Value) (fa : Addr) (h : Heap), (K w.params).In h -> h.Ns mainGlobals mg -> mg d.name = some (.ref fa) →
      ∃ fd : FuncData, (∀ (s : Shared) (u : Value), BindsTo s fd ⟨[u], []⟩ [("_law_script", u)]) /\ ∀ base : Heap, (K w.params).In base -> base.Ns mainGlobals mg -> (∀ P ∈ ts, base.BuiltinsAt mg P) -> df l.prog w (K w.params) mg base CX0 24 fa fd ["_law_script"] (spM (K w.params) (gOf mg) 1 m3)) :
    PySem.W.WalkO q loose XP YP l.row.toRowW d [] (fun f vs => PySem.call f vs) :=
  Bh (k := 24) hn hdf ⟨rfl, by decide, by decide, rfl⟩ hY hT hI ok F
theorem gw {i : Int} (h1 : -(10 ^ 30) <= i) (h2 : i <= 10 ^ 30) : sml i = true := Dj (Nat.le_trans (show i.natAbs <= 10 ^ 30 by omega) (by decide +kernel))
theorem Du {h : Hh} {n : Nat} {ds : List D} (e : aA h n = some ds) : n < h.length := by
  unfold aA at e
  by_cases hl : n < h.length
  · exact hl
  · rw [List.getElem?_eq_none (by omega)] at e; cases e
theorem vB {h : Hh} {n : Nat} {ds es : List D} (e : aA h n = some ds) : aA (h.set n (.lst es)) n = some es := by
  unfold aA; rw [List.getElem?_set_self (Du e)]
theorem j0 {h t : Hh} {n : Nat} {o : O} (hn : n < h.length) : (h ++ t).set n o = h.set n o ++ t := List.set_append_left _ _ hn
structure Pen where
  a : Int
  b : Int
  s : Int
noncomputable abbrev fC (p : Pen) : List D := [.int p.a, .int p.b, .int p.s]
noncomputable def nxt (x : Int) : Int := ((x + 7919) % 2147483647 * ((x + 7919) % 2147483647) + 48271 * ((x + 7919) % 2147483647) + 12345) % 2147483629
noncomputable def iC (p : Pen) (m : Int) : Int := if p.b = 1 /\ 0 < p.a then p.a % m else nxt (nxt p.s + 7) / 64 % m
noncomputable def lE (p : Pen) (m : Int) : Pen := if p.b = 1 /\ 0 < p.a then ⟨p.a / m, p.b, p.s⟩ else ⟨p.a, p.b, nxt (nxt p.s + 7)⟩
theorem A4 (p : Pen) {m : Int} (h : 0 < m) : 0 <= iC p m := by unfold iC; split <;> exact Int.emod_nonneg _ (by omega)
theorem yh (p : Pen) {m : Int} (h : 0 < m) : iC p m < m := by unfold iC; split <;> exact Int.emod_lt_of_pos _ h
@[simp] theorem F4 {x : Int} {h : Hh} : du [.int x] h = .ok (.int (nxt x)) h := by
  have h1 : 0 <= (x + 7919) % 2147483647 := Int.emod_nonneg _ (by decide)
  have h2 : (x + 7919) % 2147483647 < 2147483647 := Int.emod_lt_of_pos _ (by decide)
  have s1 : sml ((x + 7919) % 2147483647) = true := gw (by omega) (by omega)
  have s2 : sml 48271 = true := by decide +kernel
  simp [du, bG, s1, s2, nxt]
theorem CC {p : Pen} {m : Int} {h : Hh} {n : Nat} (e : aA h n = some (fC p)) (hm : 0 < m) (hm2 : m <= 10 ^ 20) : aS [.ref n, .int m] h = .ok (.int (iC p m)) (h.set n (.lst (fC (lE p m)))) := by
  have s1 : sml m = true := gw (by omega) (by omega)
  have s2 : sml 64 = true := by decide +kernel
  have i2 : ∀ (x y z : Int) (h : Hh), ixK [D.int x, .int y, .int z] 2 h = .ok (.int z) h := fun _ _ _ _ => rfl
  have n0 : ixN (fC p).length 0 = some 0 := rfl
  have n2 : ixN (fC p).length 2 = some 2 := rfl
  by_cases c : p.b = 1
  · by_cases c2 : 0 < p.a
    · simp [aS, bG, ph e, c, c2, hm, s1, qv e n0, iC, lE]
    · simp [aS, bG, ph e, c, c2, i2, qv e n2, ph (vB e), s1, s2, hm, iC, lE]
  · simp [aS, bG, ph e, c, i2, qv e n2, ph (vB e), s1, s2, hm, iC, lE]
@[simp] theorem qu {p : Pen} {m : Int} {h t : Hh} (hm : 0 < m /\ m <= 10 ^ 20) : aS [.ref h.length, .int m] (h ++ .lst (fC p) :: t) = .ok (.int (iC p m)) (h ++ .lst (fC (lE p m)) :: t) := by
  rw [CC jV hm.1 hm.2, qV]
noncomputable def sD (c : Int) : Pen := ⟨max c (0 - c), if max c (0 - c) ≥ 10 ^ 18 then 1 else 0, max c (0 - c) % 1000003⟩
@[simp] theorem Ht {c : Int} {h : Hh} : b0 [.int c] h = .ok (.ref h.length) (h ++ [.lst (fC (sD c))]) := by
  have s1 : sml 10 = true := by decide +kernel
  simp [b0, bG, s1, sD]
@[simp] theorem Ga {ns : List Int} {h : Hh} : bI [.scr (ns.map D.int), .int 0] h = .ok (.int (ns.headD 0)) h := by
  cases ns with
  | nil => simp [bI, bG]
  | cons c r => simp [bI, bG]
@[simp] theorem Fy {i : Int} {h : Hh} : fh [.int i] h = .ok (.bl true) h := by simp [fh, bG]
@[simp] theorem Eg {i a b : Int} {h : Hh} : cm [.int i, .int a, .int b] h = .ok (.bl (decide (a <= i /\ i <= b))) h := by
  by_cases z : a <= i <;> simp [cm, bG, z]
@[simp] theorem yZ {i a b : Int} {h : Hh} (hi : a <= i /\ i <= b) : bD [.int i, .int a, .int b] h = .ok .non h := by
  simp [bD, bG, hi]
structure Ord (n : Nat) (xs : List Int) : Prop where
  len : xs.length = n
  nd : xs.Nodup
  lo : ∀ x ∈ xs, 0 <= x
  hi : ∀ x ∈ xs, x < n
noncomputable def dy (lo : Int) (n : Nat) : List Int := (List.range n).map fun (i : Nat) => lo + i
theorem qB (lo : Int) (n : Nat) : bE lo n = (dy lo n).map D.int := by simp [bE, dy, List.map_map]
theorem kc (lo : Int) (n : Nat) : (dy lo n).length = n := by simp [dy]
theorem iJ (n : Nat) : Ord n (dy 0 n) := by
  refine ⟨kc _ _, ?_, ?_, ?_⟩
  · unfold dy List.Nodup
    rw [List.pairwise_map]
    exact List.Pairwise.imp (fun {a b} h e => h (by omega)) List.nodup_range
  · intro x hx; simp [dy] at hx; omega
  · intro x hx; simp [dy] at hx; omega
theorem Cz {n : Nat} {xs : List Int} {h : Hh} (o : Ord n xs) (h1 : 1 <= n) (h2 : n <= 20) (w : Wf h) : dF [.tup (xs.map D.int)] h = .ok (.bl true) h := by
  have hl := o.len
  obtain ⟨q, _⟩ := sH (tg := gN 1) (body := cp (j6 (ay km (ah cm (aa (af 1) (aa (cC (.int 0)) (aa (ar bV (ah bT (aa (af 0) ak)) (cC (.int 1))) ak)))))) (bu (cC (.bl false))) bf)
    (fun (s : Option D) => [some (.tup (xs.map D.int)), s]) (fun _ => h) D.int (fun s x => some (.int x)) (fun r s => ∀ x ∈ r, 0 <= x /\ x < n) (fun s x r hr => ⟨fun y hy => hr y (List.mem_cons_of_mem _ hy), .inl (by
      have := hr x List.mem_cons_self
      have z : 0 <= x /\ x <= ↑xs.length - 1 := by omega
      simp [z])⟩) xs none (fun x hx => ⟨o.lo x hx, o.hi x hx⟩)
  have c1 : (1 : Int) <= xs.length := by omega
  have c2 : (xs.length : Int) <= 20 := by omega
  have c3 : xs.length <= 4000 := by omega
  have c4 := wk o.nd
  simp [dF, bG, c1, c2, q, c3, c4]
  exact jn w rfl
theorem wm {n : Nat} {xs : List Int} {h : Hh} (o : Ord n xs) (h1 : 1 <= n) (h2 : n <= 20) (w : Wf h) : cJ [.tup (xs.map D.int)] h = .ok .non h := by
  simp [cJ, bG, Cz o h1 h2 w]
noncomputable def ky {X : Type} (xs : List X) (lo hi : Option Int) : List X := (xs.drop (HT.sIx xs.length 0 lo)).take (HT.sIx xs.length xs.length hi - HT.sIx xs.length 0 lo)
theorem kf {X : Type} (f : X -> D) (xs : List X) (lo hi : Option Int) : cutD (xs.map f) lo hi = (ky xs lo hi).map f := by
  unfold cutD ky
  rw [List.length_map, List.map_take, List.map_drop]
theorem vm {X : Type} (xs : List X) (k : Nat) : ky xs none (some (k : Int)) = xs.take k := by
  unfold ky
  rw [HT.rK, HT.vE]
  simp
theorem xb {X : Type} (xs : List X) (k : Nat) : ky xs (some (k : Int)) none = xs.drop k := by
  unfold ky
  rw [HT.rK, HT.vE]
  rcases Nat.le_total k xs.length with h | h
  · rw [Nat.min_eq_left h, List.take_of_length_le (by simp)]
  · rw [Nat.min_eq_right h]; simp [List.drop_eq_nil_of_le h]
noncomputable def shT (ns : List Int) : Str := PyData.shown (.tuple (ns.map PyData.int))
theorem nq {k : Nat} {h : Hh} : ∀ {ns : List Int}, (∀ x ∈ ns, sml x = true) -> g_ (toPy (k + 1) h) (ns.map D.int) = some (ns.map PyData.int)
  | [], _ => rfl
  | n :: r, hs => by
    have h1 : sml n = true := hs n List.mem_cons_self
    rw [List.map_cons, g_, nq (ns := r) fun x hx => hs x (List.mem_cons_of_mem _ hx)]
    simp [toPy, h1]
theorem pw : ∀ ns : List Int, PyData.bulkAll (ns.map PyData.int) = ns.length
  | [] => rfl
  | n :: r => by rw [List.map_cons, PyData.bulkAll, pw r, PyData.bulk, List.length_cons]; omega
theorem zU {h : Hh} {ns : List Int} (hs : ∀ x ∈ ns, sml x = true) (hl : ns.length <= 8000) : dP [.tup (ns.map D.int)] h = .ok (.str (shT ns)) h := by
  have e1 : toPy 12 h (.tup (ns.map D.int)) = some (.tuple (ns.map PyData.int)) := by
    show (g_ (toPy (10 + 1) h) (ns.map D.int)).map PyData.tuple = _
    rw [nq hs]; rfl
  have e2 : PyData.bulk (.tuple (ns.map PyData.int)) <= 8000 := by rw [PyData.bulk, pw]; exact hl
  show ur (.tup (ns.map D.int)) h = _
  delta ur; rw [e1]; exact if_pos e2
theorem uK (i : Int) : ∀ ns : List Int, ((ns.map D.int).any fun d => eqF d (.int i)) = ns.any (· == i)
  | [] => rfl
  | n :: r => by rw [List.map_cons, List.any_cons, List.any_cons, uK i r]; rfl
theorem wO (ns : List Int) : (ns.map D.int).all eU = true := by simp [eU]
@[simp] theorem D1 {neg : Bool} {i : Int} {ns : List Int} {h : Hh} : dIn neg (.int i) (.tup (ns.map D.int)) h = .ok (.bl (if neg then !(ns.any (· == i)) else ns.any (· == i))) h := by
  simp only [dIn, iF, eU, wO, and_self, if_true, uK]
theorem vi {i : Int} (h0 : 0 <= i) (h : i <= 1000000) : sml i = true := gw (by omega) (by omega)
noncomputable def uh (xs : List Int) : List Nat := (List.range (xs.length - 1)).filter fun i => decide (gI xs (i + 1) < gI xs i)
noncomputable def cz (xs : List Int) : List Int := (uh xs).map fun (i : Nat) => (i : Int)
theorem oT {xs : List Int} {h : Hh} {d : D} (hd : ∀ (i : Int), dIx d (.int i) h = ixK (xs.map D.int) i h) : b8 (ay asB (ar dGt (ar dIx (af 1) (af 0)) (ar dIx (af 1) (ar (cQ aN) (af 0) (cC (.int 1)))))) (af 0) (fun x => [some x, some d]) (bE 0 (xs.length - 1)) h = .ok ((cz xs).map D.int) h := by
  rw [nh (fun i => decide (gI xs (i + 1) < gI xs i)) (fun i => D.int i)]
  · simp [cz, uh, List.map_map]
  · intro i hi
    have e1 : ixK (xs.map D.int) (i : Int) h = .ok (.int (gI xs i)) h := l6 rfl (by omega)
    have e2 : ixK (xs.map D.int) ((i : Int) + 1) h = .ok (.int (gI xs (i + 1))) h := l6 (by omega) (by omega)
    simp [hd, e1, e2]
theorem Cf {h : Hh} (w : Wf h) (p : Pen) : Wf (h ++ [.lst (fC p)]) := w.app rfl
theorem xu (p : Pen) (m : Int) (h : 0 < m) : ∃ k : Nat, iC p m = (k : Int) /\ (k : Int) < m := by
  have h0 := A4 p h
  have h1 := yh p h
  exact ⟨(iC p m).toNat, by omega, by omega⟩
theorem vS (ns : List Int) (lo hi : Option Int) : cutD (ns.map D.int) lo hi = (ky ns lo hi).map D.int := kf _ _ _ _
theorem Ba {X : Type} (xs : List X) (lo hi : Option Int) : (ky xs lo hi).length <= xs.length := by
  unfold ky; rw [List.length_take, List.length_drop]; omega
noncomputable def sg (f : Nat -> Int) (n : Nat) : Int := ((List.range n).map f).sum
theorem Fd (f : Nat -> Int) : sg f 0 = 0 := rfl
theorem zr (l : List Int) (x : Int) : (l ++ [x]).sum = l.sum + x := by
  induction l with
  | nil => simp
  | cons a l ih => simp only [List.cons_append, List.sum_cons, ih]; omega
theorem wz (f : Nat -> Int) (n : Nat) : sg f (n + 1) = sg f n + f n := by
  unfold sg
  rw [List.range_succ, List.map_append]
  exact zr _ _
theorem mQ {f g : Nat -> Int} : ∀ {n : Nat}, (∀ i, i < n -> f i = g i) -> sg f n = sg g n
  | 0, _ => rfl
  | n + 1, h => by rw [wz, wz, mQ fun i hi => h i (by omega), h n (by omega)]
theorem rf {f : Nat -> Int} {n : Nat} (h : ∀ i, i < n -> f i = 0) : sg f n = 0 := by
  induction n with
  | zero => rfl
  | succ n ih => rw [wz, ih fun i hi => h i (by omega), h n (by omega)]; rfl
theorem qD (f : Nat -> Int) (p : Nat) : ∀ q, sg f (p + q) = sg f p + sg (fun i => f (p + i)) q
  | 0 => by simp [Fd]
  | q + 1 => by rw [<- Nat.add_assoc, wz, qD f p q, wz]; omega
theorem uR {f : Nat -> Int} {B : Nat} : ∀ {n : Nat}, (∀ i, i < n -> 0 <= f i /\ f i <= B) -> 0 <= sg f n /\ sg f n <= (n * B : Nat)
  | 0, _ => by simp [Fd]
  | n + 1, h => by
    have ih := uR (n := n) fun i hi => h i (by omega)
    have := h n (by omega)
    rw [wz, Nat.succ_mul]
    omega
noncomputable def lM : Nat -> Nat
  | 0 => 1
  | n + 1 => (n + 1) * lM n
structure Beg (n : Nat) (xs : List Int) : Prop where
  len : xs.length <= n
  nd : xs.Nodup
  lo : ∀ x ∈ xs, 0 <= x
  hi : ∀ x ∈ xs, x < n
theorem Beg.nil (n : Nat) : Beg n [] := ⟨Nat.zero_le _, List.nodup_nil, fun _ h => (nomatch h), fun _ h => (nomatch h)⟩
theorem Ord.beg {n : Nat} {xs : List Int} (o : Ord n xs) : Beg n xs := ⟨Nat.le_of_eq o.len, o.nd, o.lo, o.hi⟩
theorem Beg.take {n : Nat} {xs : List Int} (o : Beg n xs) (k : Nat) : Beg n (xs.take k) :=
  ⟨Nat.le_trans (by rw [List.length_take]; exact Nat.min_le_right _ _) o.len, o.nd.sublist (List.take_sublist _ _), fun x hx => o.lo x (List.mem_of_mem_take hx), fun x hx => o.hi x (List.mem_of_mem_take hx)⟩
noncomputable def g9 (r : Int -> Bool) (l : List Int) : Nat := (l.filter r).length
theorem gy (r : Int -> Bool) (x : Int) (l : List Int) : g9 r (x :: l) = (if r x = true then 1 else 0) + g9 r l := by
  unfold g9; rw [List.filter_cons]; split <;> simp [Nat.add_comm]
theorem yK (r : Int -> Bool) (v : Int) : ∀ l : List Int, g9 (fun x => r x && decide (x < v + 1)) l = g9 (fun x => r x && decide (x < v)) l + g9 (fun x => r x && decide (x = v)) l
  | [] => rfl
  | x :: l => by
    rw [gy, gy, gy, yK r v l]
    cases h : r x <;> simp
    by_cases a : x < v
    · have b : x < v + 1 := by omega
      have c : ¬ x = v := by omega
      simp [a, b, c]; omega
    · by_cases c : x = v
      · subst c
        have b : x < x + 1 := by omega
        simp [b]; omega
      · have b : ¬ x < v + 1 := by omega
        simp [a, b, c]
theorem t_ {r : Int -> Bool} : ∀ {l : List Int}, (∀ x ∈ l, r x = false) -> g9 r l = 0
  | [], _ => rfl
  | x :: l, h => by rw [gy, h x List.mem_cons_self, t_ fun y hy => h y (List.mem_cons_of_mem _ hy)]; rfl
theorem tY {r : Int -> Bool} {v : Int} : ∀ {l : List Int}, l.Nodup -> g9 (fun x => r x && decide (x = v)) l = if v ∈ l /\ r v = true then 1 else 0
  | [], _ => by simp [g9]
  | x :: l, nd => by
    obtain ⟨n1, n2⟩ := List.nodup_cons.mp nd
    rw [gy, tY n2]
    by_cases c : x = v
    · subst c
      cases h : r x <;> simp [n1, h]
    · have c' : ¬ v = x := fun z => c z.symm
      simp [c, c']
theorem pS {n : Nat} {xs : List Int} (b : Beg n xs) : ∀ v : Nat, v <= n -> g9 (fun x => !(xs.any (· == x)) && decide (x < (v : Int))) (dy 0 n) + g9 (fun x => true && decide (x < (v : Int))) xs = v
  | 0, _ => by
    rw [t_, t_]
    · intro x hx; have := b.lo x hx; simp; omega
    · intro x hx; have := (iJ n).lo x hx; simp; omega
  | v + 1, hv => by
    have ih := pS b v (by omega)
    have e : ((v + 1 : Nat) : Int) = (v : Int) + 1 := by omega
    rw [e, yK, yK, tY (iJ n).nd, tY b.nd]
    have m : (v : Int) ∈ dy 0 n := List.mem_map.mpr ⟨v, List.mem_range.mpr (by omega), by omega⟩
    by_cases c : (v : Int) ∈ xs
    · have a : xs.any (· == (v : Int)) = true := List.any_eq_true.mpr ⟨_, c, by simp⟩
      simp only [m, a, c, Bool.not_true, and_true, Bool.false_eq_true, and_false, if_false, if_true]
      omega
    · have a : xs.any (· == (v : Int)) = false := by
        rw [List.any_eq_false]; intro x hx z; exact c (beq_iff_eq.mp z ▸ hx)
      simp only [m, a, c, Bool.not_false, and_self, if_true, false_and, if_false]
      omega
noncomputable def bN (xs : List Int) : Int := gI xs (xs.length - 1)
noncomputable def lwI (xs : List Int) : Int := if xs.length = 0 then 0 else bN xs - ((xs.filter fun x => decide (x < bN xs)).length : Int)
noncomputable def aq (n : Nat) (xs : List Int) : List Int := (dy 0 n).filter fun x => !(xs.any (· == x))
theorem AY {xs : List Int} (h : xs.length ≠ 0) : bN xs ∈ xs := by
  unfold bN; rw [gm (by omega)]; exact List.getElem_mem _
theorem cI {n : Nat} {xs : List Int} (b : Beg n xs) : (aq n xs).length = n - xs.length := by
  have := pS b n (Nat.le_refl _)
  have e1 : g9 (fun x => !(xs.any (· == x)) && decide (x < (n : Int))) (dy 0 n) = (aq n xs).length := by
    unfold g9 aq
    rw [List.filter_congr]
    intro x hx; have := (iJ n).hi x hx; simp [this]
  have e2 : g9 (fun x => true && decide (x < (n : Int))) xs = xs.length := by
    unfold g9
    rw [List.filter_eq_self.mpr]
    intro x hx; have := b.hi x hx; simp [this]
  omega
theorem mX {n : Nat} {xs : List Int} (b : Beg n xs) (h : xs.length ≠ 0) : (((aq n xs).filter fun x => decide (x < bN xs)).length : Int) = lwI xs := by
  have m := AY h
  have h0 := b.lo _ m
  have h1 := b.hi _ m
  have := pS b (bN xs).toNat (by omega)
  rw [show (((bN xs).toNat : Nat) : Int) = bN xs by omega] at this
  have e1 : g9 (fun x => !(xs.any (· == x)) && decide (x < bN xs)) (dy 0 n) = ((aq n xs).filter fun x => decide (x < bN xs)).length := by
    unfold g9 aq
    rw [List.filter_filter]
    congr 2
    funext x
    exact Bool.and_comm _ _
  have e2 : g9 (fun x => true && decide (x < bN xs)) xs = (xs.filter fun x => decide (x < bN xs)).length := by
    unfold g9; simp
  unfold lwI
  rw [if_neg h]
  omega
theorem EV {n : Nat} {xs : List Int} (b : Beg n xs) : 0 <= lwI xs /\ lwI xs <= ((n - xs.length : Nat) : Int) := by
  by_cases h : xs.length = 0
  · unfold lwI; rw [if_pos h]; omega
  · rw [<- mX b h, <- cI b]
    have := List.length_filter_le (fun x => decide (x < bN xs)) (aq n xs)
    omega
theorem Beg.snoc {n : Nat} {xs : List Int} {x : Int} (b : Beg n xs) (h : x ∈ aq n xs) : Beg n (xs ++ [x]) := by
  obtain ⟨h1, h2⟩ := List.mem_filter.mp h
  have nx : x ∉ xs := fun z => by
    have : xs.any (· == x) = true := List.any_eq_true.mpr ⟨_, z, by simp⟩
    rw [this] at h2; cases h2
  have l := cI b
  have lp := List.length_pos_of_mem h
  refine ⟨by rw [List.length_append]; show xs.length + 1 <= n; omega, List.nodup_append.mpr ⟨b.nd, List.nodup_cons.mpr ⟨by simp, List.nodup_nil⟩, fun a ha c hc => ?_⟩, fun y hy => ?_, fun y hy => ?_⟩
  · simp at hc; subst hc; exact fun z => nx (z ▸ ha)
  · rcases List.mem_append.mp hy with z | z
    · exact b.lo y z
    · simp at z; subst z; exact (iJ n).lo _ h1
  · rcases List.mem_append.mp hy with z | z
    · exact b.hi y z
    · simp at z; subst z; exact (iJ n).hi _ h1
theorem tf {xs : List Int} {h : Hh} (h1 : xs.length ≠ 0) : ixK (xs.map D.int) (-1) h = .ok (.int (bN xs)) h := by
  have e : ixN (xs.map D.int).length (-1) = some (xs.length - 1) := by rw [List.length_map]; unfold ixN; simp; omega
  unfold ixK atI bN
  rw [e]
  simp [List.getElem?_eq_getElem (show xs.length - 1 < xs.length by omega), gm (show xs.length - 1 < xs.length by omega)]
theorem zL {xs : List Int} {h : Hh} (hl : xs.length <= 1000) : cO [.tup (xs.map D.int)] h = .ok (.int (lwI xs)) h := by
  unfold lwI
  by_cases c : xs.length = 0
  · have : xs = [] := List.eq_nil_of_length_eq_zero c
    subst this
    simp [cO, bG]
  · rw [if_neg c]
    have c' : ¬ (xs.length : Int) = 0 := by omega
    have ix := fun H : Hh => tf (h := H) c
    have q : b8 (ay asB (ar dLt (af 0) (ar dIx (af 1) (cUn kr (cC (.int 1)))))) (af 0) (fun x => [some x, some (.tup (xs.map D.int))]) (xs.map D.int) h = .ok ((xs.filter fun x => decide (x < bN xs)).map D.int) h :=
      comp_map D.int (fun x => decide (x < bN xs)) D.int xs fun x hx => ⟨by simp [ix], fun _ => by simp⟩
    have c0 : ¬ xs = [] := fun z => c (by rw [z]; rfl)
    have z6 : xs.length <= 1000000 := by omega
    simp [cO, bG, c, c', c0, ix, q, z6]
theorem tB {xs : List Int} {h : Hh} (hl : xs.length <= 1000) : dh [.tup (xs.map D.int)] h = .ok (.tup ((cz xs).map D.int)) h := by
  by_cases c : xs.length = 0
  · have : xs = [] := List.eq_nil_of_length_eq_zero c
    subst this
    kernel_rfl
  · have z1 : ((xs.length : Int) - 1).natAbs <= 1000000 := by omega
    have z2 : ((xs.length : Int) - 1).toNat = xs.length - 1 := by omega
    have z3 : xs.length - 1 <= 1000000 := by omega
    have q := oT (xs := xs) (h := h) (d := .tup (xs.map D.int)) (fun i => BG)
    simp [dh, bG, z1, z2, z3, q]
noncomputable def tpl (xs : List Int) : D := .tup (xs.map D.int)
theorem wq {n : Nat} {xs : List Int} {h : Hh} (hl : xs.length <= 1000) : b8 (ay asB (ar (dIn true) (af 0) (af 1))) (ar (cQ aN) (af 1) (ah gi (aa (af 0) ak))) (fun x => [some x, some (.tup (xs.map D.int))]) (bE 0 n) h = .ok ((aq n xs).map fun x => tpl (xs ++ [x])) h := by
  rw [qB, comp_map D.int (fun x => !(xs.any (· == x))) (fun x => tpl (xs ++ [x])) (dy 0 n) fun x hx => ⟨by simp, fun _ => by
    have z : xs.length + 1 <= 1000000 := by omega
    simp [tpl, z]⟩]
  rfl
theorem qW {σ : Type} {tg : D -> En -> Hh -> R En} {body : MS} (enc : Nat -> D) (N : Nat) (E : σ -> En) (G : σ -> Hh) (I : Nat -> σ -> Prop)
    (st : ∀ i s, i < N -> I i s -> ∃ s', I (i + 1) s' /\ (tg (enc i) (E s) (G s)).bind body = .ok (.nx (E s')) (G s')) :
    ∀ (k i : Nat) (s : σ), i + k = N -> I i s -> ∃ s', eP tg body ((List.range' i k).map enc) (E s) (G s) = .ok (.nx (E s')) (G s') /\ I N s' := by
  intro k
  induction k with
  | zero =>
    intro i s e hi
    have : i = N := by omega
    subst this
    exact ⟨s, rfl, hi⟩
  | succ k ih =>
    intro i s e hi
    obtain ⟨s1, a, b⟩ := st i s (by omega) hi
    obtain ⟨s2, c, d⟩ := ih (i + 1) s1 (by omega) a
    refine ⟨s2, ?_, d⟩
    rw [List.range'_succ, List.map_cons, eP, <- cx, b]
    exact c
theorem t5 {v : Int} : ∀ {L : List Int}, L.Pairwise (· < ·) -> ∀ (r : Nat) (hr : r < L.length), L[r] < v ↔ r < (L.filter fun x => decide (x < v)).length
  | [], _, r, hr => by simp at hr
  | a :: L, so, r, hr => by
    obtain ⟨h1, h2⟩ := List.pairwise_cons.mp so
    by_cases c : a < v
    · rw [List.filter_cons, if_pos (by simpa using c), List.length_cons]
      cases r with
      | zero => simp [c]
      | succ r =>
        have := t5 (v := v) h2 r (by simpa using hr)
        simp only [List.getElem_cons_succ]
        omega
    · have e : (a :: L).filter (fun x => decide (x < v)) = [] := by
        rw [List.filter_eq_nil_iff]
        intro x hx
        rcases List.mem_cons.mp hx with rfl | hx
        · simpa using c
        · have := h1 x hx; simp; omega
      rw [e]
      have : ¬ (a :: L)[r] < v := by
        have hm := List.getElem_mem hr
        rcases List.mem_cons.mp hm with z | z
        · rw [z]; exact c
        · have := h1 _ z; omega
      simp [this]
theorem Ei {L : List Int} (so : L.Pairwise (· < ·)) (r : Nat) (hr : r < L.length) : (L.filter fun x => decide (x < L[r])).length = r := by
  have h := fun s hs => t5 (v := L[r]) so s hs
  have lt : ∀ s (hs : s < L.length), L[s] < L[r] ↔ s < r := fun s hs => by
    constructor
    · intro z
      by_cases c : s < r
      · exact c
      · by_cases e : s = r
        · subst e; omega
        · have := List.pairwise_iff_getElem.mp so r s hr hs (by omega); omega
    · intro z; exact List.pairwise_iff_getElem.mp so s r hs hr z
  generalize (L.filter fun x => decide (x < L[r])).length = c at h
  by_cases c1 : c < r
  · have := (h c (by omega)).mp ((lt c (by omega)).mpr c1); omega
  · by_cases c2 : r < c
    · have := (lt r hr).mp ((h r hr).mpr c2); omega
    · omega
theorem yp {L l1 l2 : List Int} {x : Int} (so : L.Pairwise (· < ·)) (e : L = l1 ++ x :: l2) : (L.filter fun y => decide (y < x)) = l1 := by
  subst e
  rw [List.pairwise_append, List.pairwise_cons] at so
  rw [List.filter_append, List.filter_eq_self.mpr, List.filter_eq_nil_iff.mpr, List.append_nil]
  · intro y hy
    rcases List.mem_cons.mp hy with rfl | hy
    · simp
    · have := so.2.1.1 y hy; simp; omega
  · intro y hy
    have := so.2.2 y hy x List.mem_cons_self; simp; omega
theorem ER (n : Nat) : (dy 0 n).Pairwise (· < ·) := by
  unfold dy
  rw [List.pairwise_map]
  exact List.Pairwise.imp (fun {a b} h => by omega) List.pairwise_lt_range
theorem jR (n : Nat) (xs : List Int) : (aq n xs).Pairwise (· < ·) := (ER n).filter _
theorem pI {n : Nat} {xs : List Int} {x : Int} : aq n (xs ++ [x]) = (aq n xs).filter fun y => !(x == y) := by
  unfold aq
  rw [List.filter_filter]
  refine List.filter_congr fun y _ => ?_
  rw [List.any_append, Bool.not_or, Bool.and_comm]
  simp
theorem qQ {xs ys : List Int} {i : Nat} (h : i < xs.length) : gI (xs ++ ys) i = gI xs i := by
  rw [gm (by simp; omega), gm h, List.getElem_append_left h]
theorem yQ {xs : List Int} {x : Int} : gI (xs ++ [x]) xs.length = x := by
  rw [gm (by simp), List.getElem_append_right (Nat.le_refl _)]; simp
theorem wI {xs : List Int} {x : Int} : bN (xs ++ [x]) = x := by
  unfold bN; rw [List.length_append]; exact yQ
structure Cnt (n : Nat) (B : List Int -> Int) : Prop where
  pos : ∀ xs, Beg n xs -> 0 <= B xs
  sum : ∀ xs, Beg n xs -> xs.length < n -> B xs = ((aq n xs).map fun x => B (xs ++ [x])).sum
theorem uL {α : Type} (L : List Int) (f : Int -> α) : L.map f = (List.range L.length).map fun i => f (gI L i) := by
  refine List.ext_getElem (by simp) fun i h1 h2 => ?_
  rw [List.length_map] at h1
  simp [gm h1]
noncomputable def nxB (n : Nat) (B : List Int -> Int) (xs : List Int) : List Int := (aq n xs).filter fun x => decide (0 < B (xs ++ [x]))
noncomputable def gz (B : List Int -> Int) (xs l : List Int) : Int := (l.map fun x => B (xs ++ [x])).sum
theorem eE {B : List Int -> Int} {xs l : List Int} {x : Int} : gz B xs (x :: l) = B (xs ++ [x]) + gz B xs l := by unfold gz; rw [List.map_cons, List.sum_cons]
theorem uV {B : List Int -> Int} {xs : List Int} : ∀ {l : List Int}, (∀ x ∈ l, 0 <= B (xs ++ [x])) -> 0 <= gz B xs l
  | [], _ => Int.le_refl _
  | x :: l, h => by
    rw [eE]
    have := h x List.mem_cons_self
    have := uV (l := l) fun y hy => h y (List.mem_cons_of_mem _ hy)
    omega
theorem pL {B : List Int -> Int} {xs : List Int} {p : Int -> Bool} : ∀ {l : List Int}, (∀ x ∈ l, 0 <= B (xs ++ [x])) -> gz B xs ((l.filter fun x => decide (0 < B (xs ++ [x]))).filter p) = gz B xs (l.filter p)
  | [], _ => rfl
  | x :: l, h => by
    have h0 := h x List.mem_cons_self
    have ih := pL (p := p) (l := l) fun y hy => h y (List.mem_cons_of_mem _ hy)
    by_cases c : 0 < B (xs ++ [x])
    · rw [List.filter_cons, if_pos (by simpa using c), List.filter_cons, List.filter_cons]
      split
      · rw [eE, eE, ih]
      · exact ih
    · rw [List.filter_cons, if_neg (by simpa using c), List.filter_cons, ih]
      split
      · rw [eE]; omega
      · rfl
section
variable {n : Nat} {B : List Int -> Int} (C : Cnt n B)
include C
theorem Cnt.left {xs : List Int} (b : Beg n xs) : ∀ x ∈ aq n xs, 0 <= B (xs ++ [x]) := fun x hx => C.pos _ (b.snoc hx)
theorem Cnt.nx {xs : List Int} (b : Beg n xs) (hl : xs.length < n) : gz B xs (nxB n B xs) = B xs := by
  rw [C.sum xs b hl]
  have := pL (B := B) (xs := xs) (p := fun _ => true) (C.left b)
  have e : ∀ l : List Int, l.filter (fun _ => true) = l := fun l => List.filter_eq_self.mpr (by simp)
  rw [e, e] at this
  exact this
end
theorem Fc {n : Nat} {B : List Int -> Int} {xs : List Int} : (nxB n B xs).Pairwise (· < ·) := (jR n xs).filter _
theorem iY {n : Nat} {B : List Int -> Int} {xs : List Int} {x : Int} (h : x ∈ nxB n B xs) : x ∈ aq n xs := (List.mem_filter.mp h).1
noncomputable def eS (B : List Int -> Int) (xs : List Int) : List Int -> Int -> Option (Int × Int)
  | [], _ => none
  | x :: r, t => if t < B (xs ++ [x]) then some (x, t) else eS B xs r (t - B (xs ++ [x]))
theorem jX {B : List Int -> Int} {xs : List Int} : ∀ {l : List Int} {t : Int}, 0 <= t -> t < gz B xs l -> ∃ x t' l1 l2, l = l1 ++ x :: l2 /\ eS B xs l t = some (x, t') /\ t' = t - gz B xs l1 /\ 0 <= t' /\ t' < B (xs ++ [x])
  | [], t, h0, h1 => by simp [gz] at h1; omega
  | x :: l, t, h0, h1 => by
    rw [eE] at h1
    by_cases c : t < B (xs ++ [x])
    · exact ⟨x, t, [], l, rfl, by unfold eS; rw [if_pos c], by simp [gz], h0, c⟩
    · obtain ⟨y, t', l1, l2, e1, e2, e3, e4, e5⟩ := jX (B := B) (xs := xs) (l := l) (t := t - B (xs ++ [x])) (by omega) (by omega)
      exact ⟨y, t', x :: l1, l2, by rw [e1]; rfl, by unfold eS; rw [if_neg c]; exact e2, by rw [eE]; omega, e4, e5⟩
noncomputable def grd (n : Nat) (B : List Int -> Int) : Nat -> List Int -> Int -> List Int × Int
  | 0, xs, t => (xs, t)
  | j + 1, xs, t => match eS B xs (nxB n B xs) t with
    | some (x, t') => grd n B j (xs ++ [x]) t'
    | none => (xs, t)
noncomputable def rkL (n : Nat) (B : List Int -> Int) : List Int -> List Int -> Int
  | _, [] => 0
  | xs, y :: r => gz B xs ((aq n xs).filter fun x => decide (x < y)) + rkL n B (xs ++ [y]) r
theorem xV {n : Nat} {B : List Int -> Int} (C : Cnt n B) : ∀ (j : Nat) (xs : List Int) (t : Int), Beg n xs -> xs.length + j = n -> 0 <= t -> t < B xs →
    ∃ rest t', grd n B j xs t = (xs ++ rest, t') /\ rest.length = j /\ Beg n (xs ++ rest) /\ 0 <= t' /\ t' < B (xs ++ rest) /\ rkL n B xs rest = t - t'
  | 0, xs, t, b, hl, h0, h1 => ⟨[], t, by simp [grd], rfl, by simpa using b, h0, by simpa using h1, by simp [rkL]⟩
  | j + 1, xs, t, b, hl, h0, h1 => by
    rw [<- C.nx b (by omega)] at h1
    obtain ⟨x, t', l1, l2, e1, e2, e3, e4, e5⟩ := jX h0 h1
    have xin : x ∈ nxB n B xs := by rw [e1]; simp
    have b2 := b.snoc (iY xin)
    obtain ⟨rest, t2, g1, g2, g3, g4, g5, g6⟩ := xV C j (xs ++ [x]) t' b2 (by simp; omega) e4 e5
    rw [List.append_assoc] at g1 g3 g5
    refine ⟨x :: rest, t2, ?_, by simp [g2], g3, g4, g5, ?_⟩
    · unfold grd; rw [e2]; exact g1
    · unfold rkL
      rw [g6, <- pL (C.left b)]
      have := yp (Fc (n := n) (B := B) (xs := xs)) e1
      rw [show ((aq n xs).filter fun x => decide (0 < B (xs ++ [x]))) = nxB n B xs from rfl, this]
      omega
noncomputable def nJ (n : Nat) (B : List Int -> Int) (C : D) : Prop := ∃ x ds np m, C = .clo x ds /\ i6 x = some (np, m) /\ ds.length + 1 = np /\ ∀ xs h, Beg n xs -> m (ds ++ [.tup (xs.map D.int)]) h = .ok (.int (B xs)) h
theorem nj {n : Nat} {B : List Int -> Int} {C : D} (c : nJ n B C) {xs : List Int} {f : ME} {a : MA} {env : En} {h h1 h2 : Hh} (b : Beg n xs) (ef : f env h = .ok C h1) (ea : a env h1 = .ok [.tup (xs.map D.int)] h2) : gO i6 f a env h = .ok (.int (B xs)) h2 := by
  obtain ⟨x, ds, np, m, rfl, et, el, em⟩ := c
  unfold gO
  rw [ef]
  show (match i6 x with | some (np, m) => _ | none => _) = _
  rw [et]
  show (if ds.length + 1 = np then _ else _) = _
  rw [if_pos el, ea]
  exact em xs h2 b
theorem o9 {n : Nat} {B : List Int -> Int} {C : D} {xs : List Int} {h : Hh} (c : nJ n B C) (b : Beg n xs) (hn : n <= 1000) : bx [.int n, .tup (xs.map D.int), C] h = .ok (.frl ((nxB n B xs).map fun x => tpl (xs ++ [x]))) h := by
  have bl := b.len
  have q := wq (n := n) (xs := xs) (h := h) (by omega)
  have q2 : b8 (ay asB (ar dGt (gO i6 (af 1) (aa (af 0) ak)) (cC (.int 0)))) (af 0) (fun x => [some x, some C]) ((aq n xs).map fun x => tpl (xs ++ [x])) h = .ok ((nxB n B xs).map fun x => tpl (xs ++ [x])) h := by
    rw [comp_map (fun x => tpl (xs ++ [x])) (fun x => decide (0 < B (xs ++ [x]))) (fun x => tpl (xs ++ [x])) (aq n xs) fun x hx => ⟨by
      have e := nj (f := af 1) (a := aa (af 0) ak) (env := [some (tpl (xs ++ [x])), some C]) (h := h) (h1 := h) (h2 := h) c (b.snoc hx) (by simp) (by simp [tpl])
      simp only [CG, D8, e]
      simp, fun _ => by simp⟩]
    rfl
  have l1 : ((aq n xs).map fun x => tpl (xs ++ [x])).length <= 1000000 := by rw [List.length_map, cI b]; omega
  have z2 : (n : Int).natAbs <= 1000000 := by omega
  have z3 : n <= 1000000 := by omega
  generalize ((aq n xs).map fun x => tpl (xs ++ [x])) = W at *
  generalize ((nxB n B xs).map fun x => tpl (xs ++ [x])) = W2 at *
  generalize xs.map D.int = X at *
  simp [bx, bG, z2, z3, q, l1, q2]
noncomputable def ONB : MS := (aE (a9 6 (gO i6 (af 2) (aa (af 5) ak))) (aE (cp (ay asB (ar dLt (af 1) (af 6))) (aE (a9 3 (af 5)) wK) bf) (vX 1 bV (af 6))))
noncomputable def ONO : MS := (dO (cU (ah bx (aa (af 0) (aa (af 3) (aa (af 2) ak))))) (gN 5) ONB)
theorem B6 {n : Nat} {B : List Int -> Int} {C : D} (c : nJ n B C) {xs : List Int} {h : Hh} {y4 : Option D} (b : Beg n xs) : ∀ (l : List Int) (t x t' : Int) (y5 y6 : Option D), (∀ z ∈ l, z ∈ aq n xs) -> eS B xs l t = some (x, t') →
    ∃ z5 z6, eP (gN 5) ONB (l.map fun x => tpl (xs ++ [x])) [some (.int n), some (.int t), some C, some (.tup (xs.map D.int)), y4, y5, y6] h = .ok (.nx [some (.int n), some (.int t'), some C, some (tpl (xs ++ [x])), y4, z5, z6]) h
  | [], t, x, t', y5, y6, _, e => by cases e
  | z :: l, t, x, t', y5, y6, hl, e => by
    have cc := nj (f := af 2) (a := aa (af 5) ak) (env := [some (.int n), some (.int t), some C, some (.tup (xs.map D.int)), y4, some (tpl (xs ++ [z])), y6]) (h := h) (h1 := h) (h2 := h) c (b.snoc (hl z List.mem_cons_self)) (by simp) (by simp [tpl])
    rw [List.map_cons, gk]
    unfold eS at e
    split at e
    · rename_i c1
      cases e
      refine ⟨some (tpl (xs ++ [z])), some (.int (B (xs ++ [z]))), ?_⟩
      generalize tpl (xs ++ [z]) = Z at *
      generalize (l.map fun x => tpl (xs ++ [x])) = W
      simp [ONB, cc, c1]
    · rename_i c1
      obtain ⟨z5, z6, q⟩ := B6 c (xs := xs) (h := h) (y4 := y4) b l (t - B (xs ++ [z])) x t' (some (tpl (xs ++ [z]))) (some (.int (B (xs ++ [z])))) (fun y hy => hl y (List.mem_cons_of_mem _ hy)) e
      refine ⟨z5, z6, ?_⟩
      generalize tpl (xs ++ [z]) = Z at *
      generalize (l.map fun x => tpl (xs ++ [x])) = W at *
      have st : ONB [some (.int n), some (.int t), some C, some (.tup (xs.map D.int)), y4, some Z, y6] h = .ok (.nx [some (.int n), some (.int (t - B (xs ++ [z]))), some C, some (.tup (xs.map D.int)), y4, some Z, some (.int (B (xs ++ [z])))]) h := by simp [ONB, cc, c1]
      simp [st, q]
theorem Dw {n : Nat} {B : List Int -> Int} {C : D} {t : Int} {h : Hh} (K : Cnt n B) (c : nJ n B C) (hn : n <= 1000) (h0 : 0 <= t) (h1 : t < B []) : cg [.int n, .int t, C] h = .ok (.tup ((grd n B n [] t).1.map D.int)) h := by
  obtain ⟨s, lp, sl, sb, s0, s1, sg⟩ := qW (σ := List Int × Int × Option D × Option D × Option D) (tg := gN 4) (body := ONO) (fun (i : Nat) => D.int i) n (fun s => [some (.int n), some (.int s.2.1), some C, some (.tup (s.1.map D.int)), s.2.2.1, s.2.2.2.1, s.2.2.2.2]) (fun _ => h) (fun i s => s.1.length = i /\ Beg n s.1 /\ 0 <= s.2.1 /\ s.2.1 < B s.1 /\ grd n B (n - i) s.1 s.2.1 = grd n B n [] t) (fun i s hi hs => by
    obtain ⟨xs, u, y4, y5, y6⟩ := s
    obtain ⟨e1, b, u0, u1, eg⟩ := hs
    dsimp only at e1 b u0 u1 eg ⊢
    have u1' := u1
    rw [<- K.nx b (by omega)] at u1'
    obtain ⟨x, t', l1, l2, p1, p2, p3, p4, p5⟩ := jX u0 u1'
    have xin : x ∈ aq n xs := iY (by rw [p1]; simp)
    obtain ⟨z5, z6, q⟩ := B6 c (xs := xs) (h := h) (y4 := some (.int (i : Int))) b (nxB n B xs) u x t' y5 y6 (fun z hz => iY hz) p2
    refine ⟨(xs ++ [x], t', some (.int i), z5, z6), ⟨by simp [e1], b.snoc xin, p4, p5, ?_⟩, ?_⟩
    · rw [<- eg, show n - i = (n - (i + 1)) + 1 by omega]
      show _ = (match eS B xs (nxB n B xs) u with | some (x, t') => grd n B (n - (i + 1)) (xs ++ [x]) t' | none => (xs, u))
      rw [p2]
    · have lo := o9 (h := h) c b hn
      have ll : ((nxB n B xs).map fun x => tpl (xs ++ [x])).length <= 1000000 := by
        rw [List.length_map]
        have := List.length_filter_le (fun x => decide (0 < B (xs ++ [x]))) (aq n xs)
        rw [cI b] at this
        unfold nxB; omega
      dsimp only
      rw [show tpl (xs ++ [x]) = D.tup ((xs ++ [x]).map D.int) from rfl] at q
      generalize ((nxB n B xs).map fun x => tpl (xs ++ [x])) = W at *
      generalize (xs ++ [x]).map D.int = X2 at *
      generalize xs.map D.int = X at *
      simp [ONO, lo, q]) n 0 ([], t, none, none, none) (by omega) ⟨rfl, Beg.nil n, h0, h1, rfl⟩
  obtain ⟨xs, u, y4, y5, y6⟩ := s
  dsimp only at lp sl sb s0 s1 sg
  rw [Nat.sub_self] at sg
  have e : (grd n B n [] t).1 = xs := by rw [<- sg]; rfl
  rw [e]
  rw [<- List.range_eq_range', <- dQ, List.map_nil] at lp
  have z2 : (n : Int).natAbs <= 1000000 := by omega
  have z3 : n <= 1000000 := by omega
  have eq : cg = cw 7 (aE (a9 3 (ah gi ak)) (aE (dO (cS dz (aa (af 0) ak)) (gN 4) ONO) (bu (af 3)))) := rfl
  rw [eq]
  simp [bG, z2, z3, lp]
noncomputable def NAB : MS := (cp (ay asB (ar dLt (ar dIx (af 4) (cUn kr (cC (.int 1)))) (ar dIx (af 0) (af 3)))) (vX 2 sy (gO i6 (af 1) (aa (af 4) ak))) bf)
noncomputable def NAO : MS := (dO (cU (ah bx (aa (ah bT (aa (af 0) ak)) (aa (dD aN (af 0) cY (eR (af 3))) (aa (af 1) ak))))) (gN 4) NAB)
theorem xE {n : Nat} {B : List Int -> Int} {C : D} (c : nJ n B C) {xs os : List Int} {h : Hh} {p : Nat} (b : Beg n xs) (hp : p < os.length) : ∀ (l : List Int) (t : Int) (y4 : Option D), (∀ z ∈ l, z ∈ aq n xs) →
    ∃ z4, eP (gN 4) NAB (l.map fun x => tpl (xs ++ [x])) [some (.tup (os.map D.int)), some C, some (.int t), some (.int (p : Int)), y4] h = .ok (.nx [some (.tup (os.map D.int)), some C, some (.int (t + gz B xs (l.filter fun x => decide (x < gI os p)))), some (.int (p : Int)), z4]) h
  | [], t, y4, _ => ⟨y4, by simp [j8, gz]⟩
  | z :: l, t, y4, hl => by
    have io : ixK (os.map D.int) (p : Int) h = .ok (.int (gI os p)) h := l6 rfl hp
    have iz : dIx (tpl (xs ++ [z])) (.int (-1)) h = .ok (.int z) h := by
      have e : (xs ++ [z]).map D.int = xs.map D.int ++ [D.int z] := by simp
      unfold tpl; rw [e]; simp
    rw [List.map_cons, gk]
    by_cases c1 : z < gI os p
    · have cc := nj (f := af 1) (a := aa (af 4) ak) (env := [some (.tup (os.map D.int)), some C, some (.int t), some (.int (p : Int)), some (tpl (xs ++ [z]))]) (h := h) (h1 := h) (h2 := h) c (b.snoc (hl z List.mem_cons_self)) (by simp) (by simp [tpl])
      obtain ⟨z4, q⟩ := xE c (xs := xs) (os := os) (h := h) b hp l (t + B (xs ++ [z])) (some (tpl (xs ++ [z]))) (fun y hy => hl y (List.mem_cons_of_mem _ hy))
      refine ⟨z4, ?_⟩
      rw [List.filter_cons, if_pos (by simpa using c1), eE, <- Int.add_assoc]
      generalize tpl (xs ++ [z]) = Z at *
      generalize (l.map fun x => tpl (xs ++ [x])) = W at *
      generalize os.map D.int = X at *
      have st : NAB [some (.tup X), some C, some (.int t), some (.int (p : Int)), some Z] h = .ok (.nx [some (.tup X), some C, some (.int (t + B (xs ++ [z]))), some (.int (p : Int)), some Z]) h := by simp [NAB, io, iz, c1, cc]
      simp [st, q]
    · obtain ⟨z4, q⟩ := xE c (xs := xs) (os := os) (h := h) b hp l t (some (tpl (xs ++ [z]))) (fun y hy => hl y (List.mem_cons_of_mem _ hy))
      refine ⟨z4, ?_⟩
      rw [List.filter_cons, if_neg (by simpa using c1)]
      generalize tpl (xs ++ [z]) = Z at *
      generalize (l.map fun x => tpl (xs ++ [x])) = W at *
      generalize os.map D.int = X at *
      have st : NAB [some (.tup X), some C, some (.int t), some (.int (p : Int)), some Z] h = .ok (.nx [some (.tup X), some C, some (.int t), some (.int (p : Int)), some Z]) h := by simp [NAB, io, iz, c1]
      simp [st, q]
theorem zY {n : Nat} {B : List Int -> Int} {os : List Int} {i : Nat} (hi : i < os.length) : rkL n B (os.take i) (os.drop i) = gz B (os.take i) ((aq n (os.take i)).filter fun x => decide (x < gI os i)) + rkL n B (os.take (i + 1)) (os.drop (i + 1)) := by
  have e : os.drop i = gI os i :: os.drop (i + 1) := by rw [gm hi]; exact List.drop_eq_getElem_cons hi
  have e2 : os.take (i + 1) = os.take i ++ [gI os i] := by rw [gm hi]; exact List.take_succ_eq_append_getElem hi
  rw [e, e2]
  rfl
theorem Bm {n : Nat} {B : List Int -> Int} {C : D} {os : List Int} {h : Hh} (K : Cnt n B) (c : nJ n B C) (hn : n <= 1000) (o : Ord n os) : cL [.tup (os.map D.int), C] h = .ok (.int (rkL n B [] os)) h := by
  have ol := o.len
  obtain ⟨s, lp, si⟩ := qW (σ := Int × Option D × Option D) (tg := gN 3) (body := NAO) (fun (i : Nat) => D.int i) n (fun s => [some (.tup (os.map D.int)), some C, some (.int s.1), s.2.1, s.2.2]) (fun _ => h) (fun i s => s.1 + rkL n B (os.take i) (os.drop i) = rkL n B [] os) (fun i s hi hs => by
    obtain ⟨t, y3, y4⟩ := s
    dsimp only at hs ⊢
    have b : Beg n (os.take i) := o.beg.take i
    obtain ⟨z4, q⟩ := xE c (xs := os.take i) (os := os) (h := h) (p := i) b (by omega) (nxB n B (os.take i)) t y4 (fun z hz => iY hz)
    have sm := pL (B := B) (xs := os.take i) (p := fun x => decide (x < gI os i)) (K.left b)
    rw [show ((aq n (os.take i)).filter fun x => decide (0 < B (os.take i ++ [x]))) = nxB n B (os.take i) from rfl] at sm
    rw [sm] at q
    refine ⟨(t + gz B (os.take i) ((aq n (os.take i)).filter fun x => decide (x < gI os i)), some (.int i), z4), ?_, ?_⟩
    · dsimp only
      have rd := zY (n := n) (B := B) (os := os) (i := i) (by omega)
      omega
    · have lo := o9 (h := h) c b hn
      have ll : ((nxB n B (os.take i)).map fun x => tpl (os.take i ++ [x])).length <= 1000000 := by
        rw [List.length_map]
        have := List.length_filter_le (fun x => decide (0 < B (os.take i ++ [x]))) (aq n (os.take i))
        rw [cI b] at this
        unfold nxB; omega
      have ct : cutD (os.map D.int) none (some (i : Int)) = (os.take i).map D.int := by rw [kf, vm]
      have lx : (os.map D.int).length = n := by rw [List.length_map, ol]
      generalize ((nxB n B (os.take i)).map fun x => tpl (os.take i ++ [x])) = W at *
      generalize (os.take i).map D.int = X2 at *
      generalize os.map D.int = X at *
      have z9 : n <= 1000000 := by omega
      simp [NAO, lx, ct, lo, q, z9]) n 0 (0, none, none) (by omega) (by simp)
  obtain ⟨t, y3, y4⟩ := s
  dsimp only at lp si
  have e : t = rkL n B [] os := by
    rw [<- si, List.drop_eq_nil_of_le (by omega)]
    simp [rkL]
  subst e
  rw [<- List.range_eq_range', <- dQ] at lp
  have z2 : (n : Int).natAbs <= 1000000 := by omega
  have z3 : n <= 1000000 := by omega
  have lx : (os.map D.int).length = n := by rw [List.length_map, ol]
  have eq : cL = cw 5 (aE (a9 2 (cC (.int 0))) (aE (dO (cS dz (aa (ah bT (aa (af 0) ak)) ak)) (gN 3) NAO) (bu (af 2)))) := rfl
  rw [eq]
  generalize os.map D.int = X at *
  simp [bG, lx, z2, z3, lp]
theorem pM {n : Nat} {xs : List Int} (b : Beg n xs) {r : Nat} (hr : r < (aq n xs).length) : lwI (xs ++ [(aq n xs)[r]]) = r := by
  have so := jR n xs
  have b2 := b.snoc (List.getElem_mem hr)
  rw [<- mX b2 (by simp), wI, pI, List.filter_filter]
  have : ((aq n xs).filter fun y => decide (y < (aq n xs)[r]) && !((aq n xs)[r] == y)) = (aq n xs).filter fun y => decide (y < (aq n xs)[r]) := List.filter_congr fun y _ => by
    by_cases c : y < (aq n xs)[r]
    · have : ¬ (aq n xs)[r] = y := by omega
      simp [c, this]
    · simp [c]
  rw [this, Ei so r hr]
theorem Ae {n : Nat} {xs : List Int} (b : Beg n xs) (h : xs.length ≠ 0) {r : Nat} (hr : r < (aq n xs).length) : (aq n xs)[r] < bN xs ↔ (r : Int) < lwI xs := by
  rw [<- mX b h, t5 (v := bN xs) (jR n xs) r hr]
  omega
noncomputable def Jr (n : Nat) (fl : Nat -> Bool) : Nat -> Int -> Int
  | 0, _ => 1
  | m + 1, l => sg (fun r => if decide ((r : Int) < l) = fl (n - 2 - m) then Jr n fl m r else 0) (m + 1)
theorem rh (n : Nat) (fl : Nat -> Bool) : ∀ (m : Nat) (l : Int), 0 <= Jr n fl m l /\ Jr n fl m l <= lM m
  | 0, l => by unfold Jr lM; omega
  | m + 1, l => uR fun r _ => by
    have := rh n fl m r
    split <;> omega
noncomputable def fok (fl : Nat -> Bool) (xs : List Int) : Bool := (List.range (xs.length - 1)).all fun i => decide (gI xs (i + 1) < gI xs i) == fl i
theorem rC {fl : Nat -> Bool} {xs : List Int} {x : Int} (h : xs.length ≠ 0) : fok fl (xs ++ [x]) = (fok fl xs && (decide (x < bN xs) == fl (xs.length - 1))) := by
  unfold fok
  rw [List.length_append]
  show (List.range xs.length).all _ = _
  obtain ⟨m, hm⟩ : ∃ m, xs.length = m + 1 := ⟨xs.length - 1, by omega⟩
  rw [hm, List.range_succ, List.all_append, show m + 1 - 1 = m from rfl]
  have e1 : gI (xs ++ [x]) (m + 1) = x := by rw [<- hm]; exact yQ
  have e2 : gI (xs ++ [x]) m = bN xs := by unfold bN; rw [qQ (by omega), hm]; rfl
  simp only [List.all_cons, List.all_nil, Bool.and_true, e1, e2]
  congr 1
  rw [Bool.eq_iff_iff, List.all_eq_true, List.all_eq_true]
  refine forall_congr' fun i => forall_congr' fun hi => ?_
  have hi := List.mem_range.mp hi
  rw [qQ (by omega), qQ (by omega)]
noncomputable def jcV (n : Nat) (fl : Nat -> Bool) (xs : List Int) : Int := if xs.length = 0 then sg (fun r => Jr n fl (n - 1) r) n else if fok fl xs = true then Jr n fl (n - xs.length) (lwI xs) else 0
theorem Dk {n : Nat} {fl : Nat -> Bool} {xs : List Int} : 0 <= jcV n fl xs := by
  unfold jcV
  split
  · exact (uR (B := lM (n - 1)) fun r _ => rh n fl _ _).1
  · split
    · exact (rh n fl _ _).1
    · exact Int.le_refl _
theorem k7 : ∀ {a b : Nat}, a <= b -> lM a <= lM b
  | a, 0, h => by have : a = 0 := by omega
                  subst this; exact Nat.le_refl _
  | a, b + 1, h => by
    by_cases c : a = b + 1
    · subst c; exact Nat.le_refl _
    · have ih := k7 (a := a) (b := b) (by omega)
      show lM a <= (b + 1) * lM b
      rw [Nat.succ_mul]; omega
theorem xS {n : Nat} {fl : Nat -> Bool} {xs : List Int} (h1 : 1 <= n) (hn : n <= 20) : jcV n fl xs <= 10 ^ 20 := by
  have f20 : lM 20 <= 10 ^ 20 := by decide +kernel
  have m1 := k7 (a := n) (b := 20) hn
  unfold jcV
  split
  · have := (uR (f := fun r => Jr n fl (n - 1) r) (B := lM (n - 1)) (n := n) fun r _ => rh n fl _ _).2
    have e : n * lM (n - 1) = lM n := by
      obtain ⟨m, rfl⟩ : ∃ m, n = m + 1 := ⟨n - 1, by omega⟩
      rfl
    omega
  · split
    · have := (rh n fl (n - xs.length) (lwI xs)).2
      have := k7 (a := n - xs.length) (b := 20) (by omega)
      omega
    · omega
theorem iD {n : Nat} (fl : Nat -> Bool) (h1 : 1 <= n) : Cnt n (jcV n fl) := by
  refine ⟨fun xs _ => Dk, fun xs b hl => ?_⟩
  have ll := cI b
  by_cases c : xs.length = 0
  · have : xs = [] := List.eq_nil_of_length_eq_zero c
    subst this
    have el : aq n [] = dy 0 n := by unfold aq; rw [List.filter_eq_self.mpr]; intro x _; rfl
    rw [el, uL, kc]
    show sg _ n = _
    unfold sg
    congr 1
    refine List.map_congr_left fun r hr => ?_
    have hr := List.mem_range.mp hr
    have e : gI (dy 0 n) r = r := by rw [gm (by rw [kc]; exact hr)]; simp [dy]
    rw [e, List.nil_append]
    have l1 : lwI [(r : Int)] = r := by
      have : bN [(r : Int)] = r := rfl
      unfold lwI; rw [this]; simp
    show _ = (if ([(r : Int)] : List Int).length = 0 then _ else if fok fl [(r : Int)] = true then Jr n fl (n - 1) (lwI [(r : Int)]) else 0)
    rw [l1]
    rfl
  · obtain ⟨m, hm⟩ : ∃ m, n - xs.length = m + 1 := ⟨n - xs.length - 1, by omega⟩
    rw [hm] at ll
    rw [uL, ll]
    have key : ∀ r, r < m + 1 -> jcV n fl (xs ++ [gI (aq n xs) r]) = if fok fl xs = true then (if decide ((r : Int) < lwI xs) = fl (n - 2 - m) then Jr n fl m r else 0) else 0 := fun r hr => by
      have hr' : r < (aq n xs).length := by omega
      rw [gm hr']
      have l1 := pM b hr'
      have l2 := Ae b c hr'
      unfold jcV
      rw [if_neg (by simp), rC c, l1, List.length_append]
      have e3 : n - (xs.length + [(aq n xs)[r]].length) = m := by simp; omega
      rw [e3, show n - 2 - m = xs.length - 1 by omega]
      have e4 : decide ((aq n xs)[r] < bN xs) = decide ((r : Int) < lwI xs) := by rw [Bool.eq_iff_iff]; simpa using l2
      rw [e4]
      cases fok fl xs with
      | false => simp
      | true =>
        simp only [Bool.true_and, if_true]
        by_cases d : decide ((r : Int) < lwI xs) = fl (xs.length - 1)
        · rw [if_pos d, if_pos (by rw [d]; simp)]
        · rw [if_neg d, if_neg (by simpa using d)]
    unfold jcV
    rw [if_neg c, hm]
    have e5 : ((List.range (m + 1)).map fun i => jcV n fl (xs ++ [gI (aq n xs) i])) = (List.range (m + 1)).map fun (r : Nat) => if fok fl xs = true then (if decide ((r : Int) < lwI xs) = fl (n - 2 - m) then Jr n fl m r else 0) else 0 := List.map_congr_left fun r hr => key r (List.mem_range.mp hr)
    show _ = ((List.range (m + 1)).map fun i => jcV n fl (xs ++ [gI (aq n xs) i])).sum
    rw [e5]
    cases fok fl xs with
    | false =>
      have := rf (f := fun _ => (0 : Int)) (n := m + 1) fun _ _ => rfl
      simpa [sg] using this.symm
    | true => simp only [if_true]; rfl
theorem qb {n : Nat} {fl : Nat -> Bool} {xs : List Int} (h1 : 1 <= n) (h : xs.length = n) : jcV n fl xs = if fok fl xs = true then 1 else 0 := by
  unfold jcV
  rw [if_neg (by omega), show n - xs.length = 0 by omega]
  rfl
noncomputable def aW (n : Nat) (fl : Nat -> Bool) : List Int := ((List.range (n - 1)).filter fl).map fun (i : Nat) => (i : Int)
theorem ye {α : Type} {p q : α -> Bool} {l : List α} : l.filter p = l.filter q ↔ ∀ x ∈ l, p x = q x := by
  constructor
  · intro e x hx
    rw [Bool.eq_iff_iff]
    have : x ∈ l.filter p ↔ x ∈ l.filter q := by rw [e]
    simpa [hx] using this
  · exact fun h => List.filter_congr h
theorem tm : ∀ {m n : Nat}, m <= n -> (List.range n).filter (fun i => decide (i < m)) = List.range m
  | m, 0, h => by have : m = 0 := by omega
                  subst this; rfl
  | m, n + 1, h => by
    rw [List.range_succ, List.filter_append]
    by_cases c : m = n + 1
    · subst c
      rw [List.filter_eq_self.mpr (by intro x hx; have := List.mem_range.mp hx; simp; omega), List.range_succ]
      simp
    · rw [tm (by omega)]
      have : ¬ n < m := by omega
      simp [this]
theorem Bj {n len : Nat} {fl : Nat -> Bool} (h : len <= n) (h0 : len ≠ 0) : (aW n fl).filter (fun x => decide (x < (len : Int) - 1)) = ((List.range (len - 1)).filter fl).map fun (i : Nat) => (i : Int) := by
  unfold aW
  rw [List.filter_map, <- tm (m := len - 1) (n := n - 1) (by omega), List.filter_filter, List.filter_filter]
  congr 1
  refine List.filter_congr fun i _ => ?_
  rw [Bool.and_comm]
  congr 1
  show decide ((i : Int) < (len : Int) - 1) = decide (i < len - 1)
  rw [Bool.eq_iff_iff]; simp; omega
theorem map_inj {l1 l2 : List Nat} : (l1.map fun (i : Nat) => (i : Int)) = (l2.map fun (i : Nat) => (i : Int)) ↔ l1 = l2 := by
  constructor
  · intro e
    have := congrArg (List.map Int.toNat) e
    simpa [List.map_map, Function.comp_def] using this
  · rintro rfl; rfl
theorem uU {n : Nat} {fl : Nat -> Bool} {xs : List Int} (h : xs.length <= n) (h0 : xs.length ≠ 0) : cz xs = (aW n fl).filter (fun x => decide (x < (xs.length : Int) - 1)) ↔ fok fl xs = true := by
  rw [Bj h h0]
  unfold cz uh fok
  rw [map_inj, ye, List.all_eq_true]
  refine forall_congr' fun i => forall_congr' fun _ => ?_
  rw [beq_iff_eq]
theorem sv {n : Nat} {fl : Nat -> Bool} {xs : List Int} (h : xs.length = n) (h1 : 1 <= n) : fok fl xs = true ↔ cz xs = aW n fl := by
  rw [<- uU (n := n) (by omega) (by omega), List.filter_eq_self.mpr]
  intro x hx
  obtain ⟨i, hi, rfl⟩ := List.mem_map.mp hx
  have := List.mem_range.mp (List.mem_filter.mp hi).1
  simp; omega
theorem zE {n : Nat} {fl : Nat -> Bool} {p : Nat} (h : p < n - 1) : (aW n fl).any (· == (p : Int)) = fl p := by
  rw [Bool.eq_iff_iff, List.any_eq_true]
  unfold aW
  constructor
  · rintro ⟨x, hx, e⟩
    obtain ⟨i, hi, rfl⟩ := List.mem_map.mp hx
    have : i = p := by have := beq_iff_eq.mp e; omega
    subst this
    exact (List.mem_filter.mp hi).2
  · intro e
    exact ⟨p, List.mem_map.mpr ⟨p, List.mem_filter.mpr ⟨List.mem_range.mpr h, e⟩, rfl⟩, by simp⟩
theorem u_ {n : Nat} {fl : Nat -> Bool} {t : Int} (hn : 1 <= n) (h0 : 0 <= t) (h1 : t < jcV n fl []) : ∃ xs, (grd n (jcV n fl) n [] t).1 = xs /\ Ord n xs /\ cz xs = aW n fl /\ rkL n (jcV n fl) [] xs = t := by
  obtain ⟨rest, t', e1, e2, e3, e4, e5, e6⟩ := xV (iD fl hn) n [] t (Beg.nil n) (by simp) h0 h1
  rw [List.nil_append] at e1 e3 e5
  rw [qb hn e2] at e5
  by_cases c : fok fl rest = true
  · rw [if_pos c] at e5
    exact ⟨rest, by rw [e1], ⟨e2, e3.nd, e3.lo, e3.hi⟩, (sv e2 hn).mp c, by omega⟩
  · rw [if_neg c] at e5; omega
theorem gp (k : Nat) (h : Hh) : ∀ xs ys : List Int, eqL (eqD (k + 1) h) (xs.map D.int) (ys.map D.int) = some (decide (xs = ys))
  | [], [] => rfl
  | [], y :: ys => rfl
  | x :: xs, [] => rfl
  | x :: xs, y :: ys => by
    have ih := gp k h xs ys
    have e1 : eqD (k + 1) h (.int x) (.int y) = some (x == y) := rfl
    simp only [List.map_cons, eqL, e1, ih]
    by_cases a : x = y <;> by_cases b : xs = ys <;> simp [a, b]
theorem u3 {h : Hh} {xs ys : List Int} : dEq (.tup (xs.map D.int)) (.tup (ys.map D.int)) h = .ok (.bl (decide (xs = ys))) h := by
  have : eqD eqN h (.tup (xs.map D.int)) (.tup (ys.map D.int)) = some (decide (xs = ys)) := gp 10 h xs ys
  simp only [dEq, this]
noncomputable def bU (n : Nat) (fl : Nat -> Bool) (m : Nat) : List Int := (List.range (m + 1)).map fun (l : Nat) => Jr n fl m l
noncomputable def fj (xs : List Int) : D := .frl (xs.map D.int)
noncomputable def jrD (n : Nat) (fl : Nat -> Bool) (k : Nat) : List D := (List.range k).map fun m => fj (bU n fl m)
theorem m5 {n : Nat} {fl : Nat -> Bool} {m : Nat} : (bU n fl m).length = m + 1 := by simp [bU]
theorem o5 {n : Nat} {fl : Nat -> Bool} {m l : Nat} (h : l <= m + 1) : ((bU n fl m).take l).sum = sg (fun r => Jr n fl m r) l := by
  unfold bU sg
  rw [<- List.map_take, List.take_range, Nat.min_eq_left h]
theorem mZ {n : Nat} {fl : Nat -> Bool} {m : Nat} : (bU n fl m).sum = sg (fun r => Jr n fl m r) (m + 1) := rfl
theorem uT {n : Nat} {fl : Nat -> Bool} {m l : Nat} (h : l <= m + 1) (hf : fl (n - 2 - m) = true) : Jr n fl (m + 1) l = ((bU n fl m).take l).sum := by
  rw [o5 h]
  show sg (fun r => if decide ((r : Int) < (l : Int)) = fl (n - 2 - m) then Jr n fl m r else 0) (m + 1) = _
  rw [hf]
  have e := qD (fun r => if decide ((r : Int) < (l : Int)) = true then Jr n fl m r else 0) l (m + 1 - l)
  rw [show l + (m + 1 - l) = m + 1 by omega] at e
  rw [e, rf (f := fun i => if decide (((l + i : Nat) : Int) < (l : Int)) = true then Jr n fl m ((l + i : Nat) : Int) else 0) fun i _ => by
    rw [if_neg (by have : ¬ (((l + i : Nat) : Int) < (l : Int)) := by omega
                   rw [decide_eq_false this]; exact Bool.false_ne_true)], Int.add_zero]
  refine mQ fun i hi => ?_
  have : ((i : Int) < (l : Int)) := by omega
  simp [this]
theorem vK {n : Nat} {fl : Nat -> Bool} {m l : Nat} (h : l <= m + 1) (hf : fl (n - 2 - m) = false) : Jr n fl (m + 1) l = ((bU n fl m).drop l).sum := by
  have t := o5 (n := n) (fl := fl) h
  have s : ((bU n fl m).take l).sum + ((bU n fl m).drop l).sum = (bU n fl m).sum := by
    rw [<- List.sum_append, List.take_append_drop]
  rw [mZ, t] at s
  have e0 := qD (fun r => Jr n fl m r) l (m + 1 - l)
  rw [show l + (m + 1 - l) = m + 1 by omega] at e0
  show sg (fun r => if decide ((r : Int) < (l : Int)) = fl (n - 2 - m) then Jr n fl m r else 0) (m + 1) = _
  rw [hf]
  have e := qD (fun r => if decide ((r : Int) < (l : Int)) = false then Jr n fl m r else 0) l (m + 1 - l)
  rw [show l + (m + 1 - l) = m + 1 by omega] at e
  rw [e, rf (f := fun r => if decide ((r : Int) < (l : Int)) = false then Jr n fl m r else 0) fun i hi => by
    have : ((i : Int) < (l : Int)) := by omega
    simp [this], Int.zero_add]
  have e2 : sg (fun i => if decide (((l + i : Nat) : Int) < (l : Int)) = false then Jr n fl m ((l + i : Nat) : Int) else 0) (m + 1 - l) = sg (fun i => Jr n fl m ((l + i : Nat) : Int)) (m + 1 - l) := mQ fun i hi => by
    rw [if_pos (decide_eq_false (by omega))]
  rw [e2]
  omega
noncomputable def SRB : MS := (aE (a9 4 (ar dIx (af 2) (cUn kr (cC (.int 1))))) (aE (a9 5 (ar (dIn false) (ar bV (ar bV (af 0) (cC (.int 1))) (af 3)) (af 1))) (iI (iK gP (af 2) (aa (bA aN (cS dz (aa (ar (cQ aN) (af 3) (cC (.int 1))) ak)) [5, 4] tt1 (ah iZ (aa (cIf (ay km (af 1)) (dD aN (af 2) cY (eR (af 0))) (dD aN (af 2) (eR (af 0)) cY)) ak))) ak)))))
theorem yE (n : Nat) (fl : Nat -> Bool) (k : Nat) : jrD n fl (k + 1) = jrD n fl k ++ [fj (bU n fl k)] := by unfold jrD; rw [List.range_succ, List.map_append]; rfl
theorem vh {n : Nat} {fl : Nat -> Bool} {k : Nat} : (jrD n fl k).length = k := by simp [jrD]
theorem AA {n : Nat} {fl : Nat -> Bool} {m : Nat} {h : Hh} (hm : m <= 30) : b8 tt1 (ah iZ (aa (cIf (ay km (af 1)) (dD aN (af 2) cY (eR (af 0))) (dD aN (af 2) (eR (af 0)) cY)) ak)) (fun x => [some x, some (.bl (fl (n - 2 - m))), some (fj (bU n fl m))]) (bE 0 (m + 2)) h = .ok ((bU n fl (m + 1)).map D.int) h := by
  rw [pF (fun l => D.int (Jr n fl (m + 1) l)) (fun l hl => ?_)]
  · unfold bU; rw [List.map_map]; rfl
  · have ln : (bU n fl m).length = m + 1 := m5
    cases hf : fl (n - 2 - m) with
    | true =>
      rw [uT (by omega) hf]
      have ct : cutD ((bU n fl m).map D.int) none (some (l : Int)) = ((bU n fl m).take l).map D.int := by rw [kf, vm]
      generalize (bU n fl m).take l = J2 at *
      generalize hj : (bU n fl m).map D.int = J at *
      simp [fj, hj, ct]
    | false =>
      rw [vK (by omega) hf]
      have ct : cutD ((bU n fl m).map D.int) (some (l : Int)) none = ((bU n fl m).drop l).map D.int := by rw [kf, xb]
      generalize (bU n fl m).drop l = J2 at *
      generalize hj : (bU n fl m).map D.int = J at *
      simp [fj, hj, ct]
theorem x9 {n : Nat} {fl : Nat -> Bool} {h : Hh} (h1 : 1 <= n) (hn : n <= 20) : eC [.int n, .tup ((aW n fl).map D.int)] h = .ok (.frl (jrD n fl n)) h := by
  obtain ⟨s, lp, ei⟩ := qW (σ := List D × Option D × Option D × Option D) (tg := gN 3) (body := SRB) (fun (i : Nat) => D.int (1 + (i : Int))) (n - 1) (fun s => [some (.int n), some (.tup ((aW n fl).map D.int)), some (.ref 0), s.2.1, s.2.2.1, s.2.2.2]) (fun s => [.lst s.1]) (fun i s => s.1 = jrD n fl (i + 1)) (fun i s hi hs => by
    obtain ⟨d, y3, y4, y5⟩ := s
    dsimp only at hs ⊢
    subst hs
    refine ⟨(jrD n fl (i + 2), some (.int (1 + (i : Int))), some (fj (bU n fl i)), some (.bl (fl (n - 2 - i)))), rfl, ?_⟩
    have la : ixK (jrD n fl (i + 1)) (-1) [.lst (jrD n fl (i + 1))] = .ok (fj (bU n fl i)) [.lst (jrD n fl (i + 1))] := by rw [yE]; exact r6
    have q := AA (n := n) (fl := fl) (m := i) (h := [.lst (jrD n fl (i + 1))]) (by omega)
    have ii : (n : Int) - 1 - (1 + (i : Int)) = ((n - 2 - i : Nat) : Int) := by omega
    have sa := zE (n := n) (fl := fl) (p := n - 2 - i) (by omega)
    have inn := D1 (neg := false) (i := ((n - 2 - i : Nat) : Int)) (ns := aW n fl) (h := [.lst (jrD n fl (i + 1))])
    rw [sa] at inn
    have z1 : (1 + (i : Int) + 1).toNat = i + 2 := by omega
    have z2 : (1 + (i : Int) + 1).natAbs <= 1000000 := by omega
    have z3 : i + 2 <= 1000000 := by omega
    have ll : (jrD n fl (i + 1)).length < 1000000 := by rw [vh]; omega
    have ap : gP (.ref 0) [fj (bU n fl (i + 1))] [.lst (jrD n fl (i + 1))] = .ok .non [.lst (jrD n fl (i + 2))] := by
      rw [zK (show aA [O.lst (jrD n fl (i + 1))] 0 = some (jrD n fl (i + 1)) from rfl), if_pos ll, yE n fl (i + 1)]; rfl
    have il : isL (.ref 0) [O.lst (jrD n fl (i + 1))] = true := rfl
    have ix : dIx (.ref 0) (.int (-1)) [O.lst (jrD n fl (i + 1))] = .ok (fj (bU n fl i)) [O.lst (jrD n fl (i + 1))] := by rw [ph rfl]; exact la
    rw [show fj (bU n fl (i + 1)) = D.frl ((bU n fl (i + 1)).map D.int) from rfl] at ap
    generalize (bU n fl (i + 1)).map D.int = W at *
    generalize fj (bU n fl i) = F at *
    generalize jrD n fl (i + 1) = L1 at *
    generalize jrD n fl (i + 2) = L2 at *
    generalize (aW n fl).map D.int = S at *
    simp [SRB, ix, ii, inn, z1, z2, z3, q, il, ap]) (n - 1) 0 (jrD n fl 1, none, none, none) (by omega) rfl
  obtain ⟨d, y3, y4, y5⟩ := s
  dsimp only at lp ei
  rw [show n - 1 + 1 = n by omega] at ei
  subst ei
  have ir : bE 1 (n - 1) = (List.range' 0 (n - 1)).map fun (i : Nat) => D.int (1 + (i : Int)) := by unfold bE; rw [List.range_eq_range']
  rw [<- ir] at lp
  have e2 : eC = p9 (fun ds h => ((cw 6 (aE (a9 2 (ah (ij lZ) (aa (ah (ij aN) (aa (cC (.int 1)) ak)) ak))) (aE (dO (cS tw (aa (cC (.int 1)) (aa (af 0) ak))) (gN 3) SRB) (bu (af 2))))) ds h).bind (cR h)) := rfl
  have lo1 : bz 0 [.int (n : Int), .tup ((aW n fl).map D.int)] = true := by
    simp only [bz, eX, Bool.true_and, Bool.and_true]; exact m4
  have lo2 : eX 0 (.frl (jrD n fl n)) = true := by
    simp only [eX]
    exact iX fun d hd => by
      obtain ⟨m, _, rfl⟩ := List.mem_map.mp hd
      show bz 0 ((bU n fl m).map D.int) = true
      exact m4
  have ex := v9 (h := []) (t := []) (ds := jrD n fl n) Wf.nil (by
    rw [List.all_eq_true]
    intro d hd
    obtain ⟨m, _, rfl⟩ := List.mem_map.mp hd
    simp [fj, deep])
  have z2 : (n : Int).natAbs <= 1000000 := by omega
  have z3 : ((n : Int) - 1).toNat = n - 1 := by omega
  have z4 : n - 1 <= 1000000 := by omega
  have z5 : n <= 1000000 := by omega
  have r0 : jrD n fl 1 = [.frl [.int 1]] := rfl
  rw [r0] at lp
  simp only [List.nil_append, List.length_nil] at ex
  rw [e2]
  generalize jrD n fl n = W at *
  generalize (aW n fl).map D.int = S at *
  simp [p9, lo1, bG, lZ, z2, z3, z4, z5, lp, ex, lo2]
theorem DV {n : Nat} {fl : Nat -> Bool} {m : Nat} {i : Int} {h : Hh} (e : i = (m : Int)) (hm : m < n) : ixK (jrD n fl n) i h = .ok (fj (bU n fl m)) h := l7 e (by rw [jrD, List.getElem?_map, List.getElem?_range hm]; rfl)
theorem FR {n : Nat} {fl : Nat -> Bool} {xs : List Int} {h : Hh} (b : Beg n xs) (h1 : 1 <= n) (hn : n <= 20) : bj [.frl (jrD n fl n), .tup ((aW n fl).map D.int), .tup (xs.map D.int)] h = .ok (.int (jcV n fl xs)) h := by
  have bl := b.len
  have ln : (((jrD n fl n).length : Nat) : Int) = n := by rw [vh]
  have lx : (((xs.map D.int).length : Nat) : Int) = xs.length := by rw [List.length_map]
  unfold jcV
  by_cases c : xs.length = 0
  · rw [if_pos c]
    have : xs = [] := List.eq_nil_of_length_eq_zero c
    subst this
    have la : ixK (jrD n fl n) (-1) h = .ok (fj (bU n fl (n - 1))) h := by
      obtain ⟨m, rfl⟩ : ∃ m, n = m + 1 := ⟨n - 1, by omega⟩
      rw [yE]; exact r6
    have su : (bU n fl (n - 1)).sum = sg (fun r => Jr n fl (n - 1) r) n := by
      rw [mZ, show n - 1 + 1 = n by omega]
    rw [<- su]
    generalize bU n fl (n - 1) = J at *
    generalize jrD n fl n = W at *
    generalize (aW n fl).map D.int = S at *
    simp [bj, bG, la, fj]
  · rw [if_neg c]
    have c' : ¬ (xs.length : Int) = 0 := by omega
    have c0 : ¬ xs = [] := fun z => c (by rw [z]; rfl)
    have fa := tB (xs := xs) (h := h) (by omega)
    have lo := zL (xs := xs) (h := h) (by omega)
    have q : b8 (ay asB (ar dLt (af 0) (ar bV (ah bT (aa (af 1) ak)) (cC (.int 1))))) (af 0) (fun x => [some x, some (.tup (xs.map D.int))]) ((aW n fl).map D.int) h = .ok (((aW n fl).filter fun x => decide (x < (xs.length : Int) - 1)).map D.int) h :=
      comp_map D.int (fun x => decide (x < (xs.length : Int) - 1)) D.int (aW n fl) fun x hx => ⟨by simp, fun _ => by simp⟩
    have eq := u3 (h := h) (xs := cz xs) (ys := (aW n fl).filter fun x => decide (x < (xs.length : Int) - 1))
    have fi := uU (n := n) (fl := fl) bl c
    have ls : ((aW n fl).map D.int).length <= 1000000 := by
      rw [List.length_map, aW, List.length_map]
      have := List.length_filter_le fl (List.range (n - 1))
      simp at this; omega
    have lf : (((aW n fl).filter fun x => decide (x < (xs.length : Int) - 1)).map D.int).length <= 1000000 := by
      rw [List.length_map]
      have := List.length_filter_le (fun x => decide (x < (xs.length : Int) - 1)) (aW n fl)
      rw [List.length_map] at ls
      omega
    have ne : dNe (.tup ((cz xs).map D.int)) (.tup (((aW n fl).filter fun x => decide (x < (xs.length : Int) - 1)).map D.int)) h = .ok (.bl (!decide (fok fl xs = true))) h := by
      have e : eqD eqN h (.tup ((cz xs).map D.int)) (.tup (((aW n fl).filter fun x => decide (x < (xs.length : Int) - 1)).map D.int)) = some (decide (cz xs = (aW n fl).filter fun x => decide (x < (xs.length : Int) - 1))) := gp 10 h _ _
      simp only [dNe, e]
      congr 3
      exact decide_eq_decide.mpr fi
    obtain ⟨l0, l1⟩ := EV b
    have r1 : ixK (jrD n fl n) ((n : Int) - xs.length) h = .ok (fj (bU n fl (n - xs.length))) h := DV (by omega) (by omega)
    have r2 : dIx (fj (bU n fl (n - xs.length))) (.int (lwI xs)) h = .ok (.int (Jr n fl (n - xs.length) (lwI xs))) h := by
      show ixK ((bU n fl (n - xs.length)).map D.int) (lwI xs) h = _
      rw [l6 (j := (lwI xs).toNat) (by omega) (by rw [m5]; omega), gm (by rw [m5]; omega)]
      simp only [bU, List.getElem_map, List.getElem_range]
      rw [show (((lwI xs).toNat : Nat) : Int) = lwI xs by omega]
    generalize ((aW n fl).filter fun x => decide (x < (xs.length : Int) - 1)).map D.int = SF at *
    generalize (cz xs).map D.int = F1 at *
    generalize fj (bU n fl (n - xs.length)) = JJ at *
    generalize jrD n fl n = W at *
    generalize (aW n fl).map D.int = S at *
    generalize Jr n fl (n - xs.length) (lwI xs) = V at *
    generalize hl : (xs.length : Int) = L at *
    generalize xs.map D.int = X at *
    cases hf : fok fl xs with
    | true =>
      rw [hf] at ne
      simp [bj, bG, lx, c', fa, ls, q, lf, ne, ln, r1, lo, r2]
    | false =>
      rw [hf] at ne
      simp [bj, bG, lx, c', fa, ls, q, lf, ne]
theorem mF {n : Nat} {fl : Nat -> Bool} {h : Hh} (h1 : 1 <= n) (hn : n <= 20) : aU [.int n, .tup ((aW n fl).map D.int)] h = .ok (.clo "just_count" [.frl (jrD n fl n), .tup ((aW n fl).map D.int)]) h := by
  have r := x9 (n := n) (fl := fl) (h := h) h1 hn
  delta aU AQ
  simp [r, tX]
theorem zj {n : Nat} {fl : Nat -> Bool} (h1 : 1 <= n) (hn : n <= 20) : nJ n (jcV n fl) (.clo "just_count" [.frl (jrD n fl n), .tup ((aW n fl).map D.int)]) := ⟨_, _, 3, bj, rfl, lR, rfl, fun xs h b => FR b h1 hn⟩
noncomputable def tpI (b : List Int) : D := .tup (b.map D.int)
noncomputable def fB (n : Nat) (b : List Int) : List (List Int) := ((List.range n).filter fun (i : Nat) => !(b.any (· == (i : Int)))).map fun (i : Nat) => b ++ [(i : Int)]
noncomputable def allI (n : Nat) : Nat -> List (List Int)
  | 0 => [[]]
  | k + 1 => (allI n k).flatMap (fB n)
theorem qK (n : Nat) (b : List Int) : (fB n b).length <= n := by
  unfold fB
  rw [List.length_map]
  exact Nat.le_trans (List.length_filter_le _ _) (by simp)
theorem rS (n : Nat) : ∀ L : List (List Int), (L.flatMap (fB n)).length <= L.length * n
  | [] => by simp
  | b :: L => by
    rw [List.flatMap_cons, List.length_append, List.length_cons, Nat.succ_mul]
    have := qK n b; have := rS n L; omega
theorem l9 (n : Nat) : ∀ k, (allI n k).length <= n ^ k
  | 0 => by simp [allI]
  | k + 1 => by
    rw [allI, Nat.pow_succ]
    exact Nat.le_trans (rS n _) (Nat.mul_le_mul_right n (l9 n k))
theorem yg (n : Nat) : ∀ k, ∀ b ∈ allI n k, b.length = k /\ ∀ x ∈ b, 0 <= x /\ x < n
  | 0 => by intro b hb; simp [allI] at hb; subst hb; simp
  | k + 1 => by
    intro b hb
    rw [allI] at hb
    obtain ⟨c, hc, hb⟩ := List.mem_flatMap.mp hb
    obtain ⟨l, r⟩ := yg n k c hc
    unfold fB at hb
    obtain ⟨i, hi, rfl⟩ := List.mem_map.mp hb
    have hi := List.mem_range.mp (List.mem_filter.mp hi).1
    refine ⟨by simp [l], fun x hx => ?_⟩
    rcases List.mem_append.mp hx with hx | hx
    · exact r x hx
    · rw [List.mem_singleton.mp hx]; omega
theorem kS {n k : Nat} (hn : n <= 7) (hk : k <= 7) : n ^ k <= 900000 :=
  Nat.le_trans (Nat.pow_le_pow_left hn k) (Nat.le_trans (Nat.pow_le_pow_right (by decide) hk) (by decide))
theorem yF {n : Nat} {b : List Int} {h : Hh} (hb : b.length <= 1000) : b8 (ay asB (ar (dIn true) (af 0) (af 1))) (ar (cQ aN) (af 1) (ah gi (aa (af 0) ak))) (fun d => [some d, some (tpI b)]) (bE 0 n) h = .ok ((fB n b).map tpI) h := by
  have z : b.length + 1 <= 1000000 := by omega
  rw [nh (fun (i : Nat) => !(b.any (· == (i : Int)))) (fun (i : Nat) => tpI (b ++ [(i : Int)]))]
  · simp [fB, List.map_map]
    try rfl
  · intro i hi
    refine ⟨by simp [tpI], fun _ => by simp [tpI, z]⟩
theorem zB {σ X : Type} {tg : D -> En -> Hh -> R En} {body : MS} (n : Nat) (enc : X -> D) (xs : List X) (E : σ -> En) (G : σ -> Hh) (f : σ -> X -> σ) (I : Nat -> σ -> Prop) (hl : ∀ s, aA (G s) n = some (xs.map enc))
    (st : ∀ i x s, xs[i]? = some x -> I i s -> I (i + 1) (f s x) /\ (tg (enc x) (E s) (G s)).bind body = .ok (.nx (E (f s x))) (G (f s x))) :
    ∀ (k i : Nat) (s : σ), i + k = xs.length -> I i s -> ft (Src.live n).rdr tg body k i (E s) (G s) = .ok (.nx (E ((xs.drop i).foldl f s))) (G ((xs.drop i).foldl f s)) /\ I xs.length ((xs.drop i).foldl f s) := by
  intro k
  induction k with
  | zero =>
    intro i s e hi
    have : i = xs.length := by omega
    subst this
    rw [List.drop_length, List.foldl_nil]
    refine ⟨?_, hi⟩
    unfold ft
    simp [Src.rdr, hl]
  | succ k ih =>
    intro i s e hi
    have lt : i < xs.length := by omega
    obtain ⟨a, b⟩ := st i xs[i] s (List.getElem?_eq_getElem lt) hi
    have := ih (i + 1) (f s xs[i]) (by omega) a
    rw [List.drop_eq_getElem_cons lt, List.foldl_cons]
    refine ⟨?_, this.2⟩
    unfold ft
    have g : (Src.live n).rdr (G s) i = some (some (enc xs[i])) := by simp [Src.rdr, hl, List.getElem?_eq_getElem lt]
    rw [g]
    show (tg (enc xs[i]) (E s) (G s)).bind (fun e1 h1 => (body e1 h1).bind _) = _
    rw [<- cx, b]
    exact this.1
noncomputable def hpA (n t : Nat) : Hh := (List.range t).map fun k => O.lst ((allI n (k + 1)).map tpI)
theorem l8 (n t : Nat) : (hpA n t).length = t := by simp [hpA]
theorem ud {n t : Nat} {r : Hh} (k : Nat) (hk : k < t) : aA (hpA n t ++ r) k = some ((allI n (k + 1)).map tpI) := by
  unfold aA
  rw [List.getElem?_append_left (by rw [l8]; exact hk)]
  simp [hpA, hk]
theorem Fb (n t : Nat) : hpA n (t + 1) = hpA n t ++ [O.lst ((allI n (t + 1)).map tpI)] := by simp [hpA, List.range_succ]
noncomputable def BI : MS := iI (iK fH (af 3) (aa (bA aN (cS dz (aa (af 0) ak)) [4] (ay asB (ar (dIn true) (af 0) (af 1))) (ar (cQ aN) (af 1) (ah gi (aa (af 0) ak)))) ak))
theorem BE {n t : Nat} {b : List Int} {acc : List (List Int)} {d1 d2 : Option D} (hn : n <= 7) (hb : b.length <= 7) (ha : acc.length + (fB n b).length <= 1000000) : BI [some (.int n), d1, d2, some (.ref t), some (tpI b)] (hpA n t ++ [.lst (acc.map tpI)]) = .ok (.nx [some (.int n), d1, d2, some (.ref t), some (tpI b)]) (hpA n t ++ [.lst ((acc ++ fB n b).map tpI)]) := by
  have q := yF (n := n) (b := b) (h := hpA n t ++ [.lst (acc.map tpI)]) (by omega)
  have l : aA (hpA n t ++ [.lst (acc.map tpI)]) t = some (acc.map tpI) := by
    have := jV (h := hpA n t) (ds := acc.map tpI) (t := [])
    rw [l8] at this; exact this
  have ex : fH (.ref t) [.frl ((fB n b).map tpI)] (hpA n t ++ [.lst (acc.map tpI)]) = .ok .non (hpA n t ++ [.lst (acc.map tpI ++ (fB n b).map tpI)]) := by
    have := v_ (h := hpA n t) (ds := acc.map tpI) (ys := (fB n b).map tpI) (t := [])
    rw [l8, if_pos (by simpa using ha)] at this; exact this
  have z : n <= 1000000 := by omega
  simp [BI, zc l, z, q, ex]
theorem xr {n t : Nat} {d2 d4 : Option D} (hn : n <= 7) (ht : t + 2 <= 7) : ∃ d4', ft (Src.live t).rdr (gN 4) BI (allI n (t + 1)).length 0 [some (.int n), some (.ref t), d2, some (.ref (t + 1)), d4] (hpA n (t + 1) ++ [.lst []]) = .ok (.nx [some (.int n), some (.ref t), d2, some (.ref (t + 1)), d4']) (hpA n (t + 2)) := by
  have pl : (allI n (t + 1)).length * n <= 900000 := Nat.le_trans (Nat.mul_le_mul_right n (l9 n (t + 1))) (by rw [<- Nat.pow_succ]; exact kS hn ht)
  obtain ⟨q, q2⟩ := zB (σ := Option D × List (List Int)) (tg := gN 4) (body := BI) t tpI (allI n (t + 1)) (fun s => [some (.int n), some (.ref t), d2, some (.ref (t + 1)), s.1]) (fun s => hpA n (t + 1) ++ [.lst (s.2.map tpI)]) (fun s b => (some (tpI b), s.2 ++ fB n b))
    (fun i s => s.2.length <= i * n) (fun s => ud t (by omega)) (fun i x s hx hi => by
      have hx' : x ∈ allI n (t + 1) := List.mem_of_getElem? hx
      have lx := (yg n (t + 1) x hx').1
      have il : i < (allI n (t + 1)).length := (List.getElem?_eq_some_iff.mp hx).1
      have el := qK n x
      refine ⟨by simp only [List.length_append]; rw [Nat.succ_mul]; omega, ?_⟩
      have bd : s.2.length + (fB n x).length <= 1000000 := by
        have := Nat.mul_le_mul_right n (show i + 1 <= (allI n (t + 1)).length from il)
        rw [Nat.succ_mul] at this
        omega
      simp [BE (n := n) (t := t + 1) (b := x) (acc := s.2) (d1 := some (.ref t)) (d2 := d2) hn (by omega) bd]) (allI n (t + 1)).length 0 (d4, []) (by omega) (by simp)
  have fd : ∀ (L : List (List Int)) (s : Option D × List (List Int)), (L.foldl (fun (s : Option D × List (List Int)) b => (some (tpI b), s.2 ++ fB n b)) s).2 = s.2 ++ L.flatMap (fB n) := by
    intro L
    induction L with
    | nil => intro s; simp
    | cons b L ih => intro s; rw [List.foldl_cons, ih, List.flatMap_cons, List.append_assoc]
  rw [List.drop_zero, fd, List.nil_append] at q
  refine ⟨((allI n (t + 1)).foldl (fun (s : Option D × List (List Int)) b => (some (tpI b), s.2 ++ fB n b)) (d4, [])).1, ?_⟩
  rw [Fb n (t + 1), show allI n (t + 1 + 1) = (allI n (t + 1)).flatMap (fB n) from rfl]
  exact q
noncomputable def BO : MS := (aE (a9 3 (ah (ij lZ) ak)) (aE (dO (cU (af 1)) (gN 4) BI) (a9 1 (af 3))))
noncomputable def slot1 : Nat -> D
  | 0 => .frl [.tup []]
  | t + 1 => .ref t
theorem ED {n t : Nat} {d2 d3 d4 : Option D} (hn : n <= 7) (ht : t < n) : ∃ d3' d4', BO [some (.int n), some (slot1 t), d2, d3, d4] (hpA n t) = .ok (.nx [some (.int n), some (slot1 (t + 1)), d2, d3', d4']) (hpA n (t + 1)) := by
  cases t with
  | zero =>
    have b := BE (n := n) (t := 0) (b := []) (acc := []) (d1 := some (.frl [.tup []])) (d2 := d2) hn (by simp) (by have := qK n []; simp; omega)
    have e0 : hpA n 0 = [] := rfl
    have e1 : hpA n 1 = [.lst ((fB n []).map tpI)] := by simp [hpA, allI]
    rw [e0] at b
    simp only [List.nil_append, List.map_nil, tpI] at b
    refine ⟨some (.ref 0), some (.tup []), ?_⟩
    rw [e0, e1]
    simp [BO, slot1, gk, j8, b]
  | succ t =>
    obtain ⟨d4', q⟩ := xr (n := n) (t := t) (d2 := d2) (d4 := d4) hn (by omega)
    have l : aA (hpA n (t + 1) ++ [.lst []]) t = some ((allI n (t + 1)).map tpI) := ud t (by omega)
    refine ⟨some (.ref (t + 1)), d4', ?_⟩
    have nl : ∀ h : Hh, ij lZ [] h = .ok (.ref h.length) (h ++ [.lst []]) := fun h => by simp
    have sk : Bz (gN 4) BI [some (.int n), some (.ref t), d2, some (.ref (t + 1)), d4] (.live t) (hpA n (t + 1) ++ [.lst []]) = .ok (.nx [some (.int n), some (.ref t), d2, some (.ref (t + 1)), d4']) (hpA n (t + 2)) := by
      show ft (Src.live t).rdr (gN 4) BI ((aA (hpA n (t + 1) ++ [.lst []]) t).getD []).length 0 _ _ = _
      rw [l, Option.getD_some, List.length_map]
      exact q
    simp [BO, slot1, l8, Em l, sk]
theorem sM {n : Nat} (hn : n <= 7) : ∀ (k j : Nat) (d2 d3 d4 : Option D), j + k = n -> ∃ d2' d3' d4', eP (gN 2) BO (((List.range k).map fun i => j + i).map fun (i : Nat) => D.int i) [some (.int n), some (slot1 j), d2, d3, d4] (hpA n j) = .ok (.nx [some (.int n), some (slot1 n), d2', d3', d4']) (hpA n n)
  | 0, j, d2, d3, d4, e => ⟨d2, d3, d4, by
      have : j = n := by omega
      subst this
      simp [j8]⟩
  | k + 1, j, d2, d3, d4, e => by
    obtain ⟨e3, e4, b⟩ := ED (n := n) (t := j) (d2 := some (.int j)) (d3 := d3) (d4 := d4) hn (by omega)
    obtain ⟨d2', d3', d4', q⟩ := sM hn k (j + 1) (some (.int j)) e3 e4 (by omega)
    refine ⟨d2', d3', d4', ?_⟩
    have er : ((List.range (k + 1)).map fun i => j + i) = j :: (List.range k).map fun i => (j + 1) + i := by
      rw [List.range_succ_eq_map, List.map_cons, List.map_map]
      congr 1
      apply List.map_congr_left
      intro i _
      simp; omega
    rw [er, List.map_cons, gk]
    generalize (((List.range k).map fun i => (j + 1) + i).map fun (i : Nat) => D.int i) = TL at q ⊢
    simp [b, q]
theorem AZ {H : Hh} {k : Nat} {ds : List D} (e : aA H k = some ds) (l : ds.all (deep 7) = true) : cR [] (.ref k) H = .ok (.frl ds) [] := by
  have fz : fc 0 H 8 (.ref k) = some (.frl ds) := by
    unfold fc
    simp only [Nat.not_lt_zero, if_false, e]
    rw [j3 fun d hd => gx 7 d (List.all_eq_true.mp l d hd)]
    rfl
  unfold cR
  simp [fz]
theorem xN (L : List (List Int)) : (L.map tpI).all (deep 7) = true := by
  rw [List.all_map, List.all_eq_true]
  intro b _
  simp [tpI]
theorem AS (L : List (List Int)) : bz 0 (L.map tpI) = true := oZ fun b => by simp [tpI, eX]
theorem EY {n : Nat} (h1 : 1 <= n) (hn : n <= 7) (h : Hh) : di [.int n] h = .ok (.frl ((allI n n).map tpI)) h := by
  obtain ⟨d2, d3, d4, q⟩ := sM hn n 0 none none none (by omega)
  have q' : eP (gN 2) BO (bE 0 n) [some (.int n), some (.frl [.tup []]), none, none, none] [] = .ok (.nx [some (.int n), some (slot1 n), d2, d3, d4]) (hpA n n) := by
    rw [dQ]
    have : ((List.range n).map fun i => 0 + i) = List.range n := by simp
    rw [this] at q
    exact q
  obtain ⟨k, rfl⟩ : ∃ k, n = k + 1 := ⟨n - 1, by omega⟩
  have l : aA (hpA (k + 1) (k + 1)) k = some ((allI (k + 1) (k + 1)).map tpI) := by
    have := ud (n := k + 1) (t := k + 1) (r := []) k (by omega)
    simpa using this
  have ex := AZ l (xN _)
  have z : k + 1 <= 1000000 := by omega
  have me : di = p9 (fun ds h => ((cw 5 (aE (a9 1 (ah (ij aN) (aa (ah gi ak) ak))) (aE (dO (cS dz (aa (af 0) ak)) (gN 2) BO) (bu (af 1))))) ds h).bind (cR h)) := rfl
  have lo : bz 0 [D.int ((k + 1 : Nat) : Int)] = true := by simp [bz, eX]
  have lo2 : eX 0 (.frl ((allI (k + 1) (k + 1)).map tpI)) = true := by simp only [eX]; exact AS _
  rw [me]
  generalize hK : ((k + 1 : Nat) : Int) = K1 at q' lo ⊢
  have z1 : K1.natAbs <= 1000000 := by omega
  have z2 : K1.toNat = k + 1 := by omega
  simp [p9, lo, bG, z1, z2, q', slot1, ex, lo2]
noncomputable def fll (n : Nat) (B : List Int -> Int) : Nat -> List (List Int)
  | 0 => [[]]
  | m + 1 => (fll n B m).flatMap fun xs => (nxB n B xs).map fun x => xs ++ [x]
noncomputable def wsm (B : List Int -> Int) (L : List (List Int)) : Int := (L.map B).sum
theorem uI {B : List Int -> Int} {L1 L2 : List (List Int)} : wsm B (L1 ++ L2) = wsm B L1 + wsm B L2 := by unfold wsm; rw [List.map_append, List.sum_append]
theorem nF {B : List Int -> Int} {x : List Int} {L : List (List Int)} : wsm B (x :: L) = B x + wsm B L := by unfold wsm; rw [List.map_cons, List.sum_cons]
theorem vN {B : List Int -> Int} {xs l : List Int} : wsm B (l.map fun x => xs ++ [x]) = gz B xs l := by unfold wsm gz; rw [List.map_map]; rfl
theorem jJ {n : Nat} {B : List Int -> Int} : ∀ m, ∀ xs ∈ fll n B m, xs.length = m /\ Beg n xs
  | 0, xs, h => by simp [fll] at h; subst h; exact ⟨rfl, Beg.nil n⟩
  | m + 1, xs, h => by
    unfold fll at h
    obtain ⟨ys, hy, hx⟩ := List.mem_flatMap.mp h
    obtain ⟨x, hz, rfl⟩ := List.mem_map.mp hx
    obtain ⟨l, b⟩ := jJ m ys hy
    exact ⟨by simp [l], b.snoc (iY hz)⟩
theorem m8 {n : Nat} {B : List Int -> Int} (C : Cnt n B) : ∀ {L : List (List Int)}, (∀ xs ∈ L, Beg n xs /\ xs.length < n) -> wsm B (L.flatMap fun xs => (nxB n B xs).map fun x => xs ++ [x]) = wsm B L
  | [], _ => rfl
  | xs :: L, h => by
    obtain ⟨b, l⟩ := h xs List.mem_cons_self
    rw [List.flatMap_cons, uI, m8 C fun ys hy => h ys (List.mem_cons_of_mem _ hy), nF, vN, C.nx b l]
theorem tE {n : Nat} {B : List Int -> Int} (C : Cnt n B) {t : Int} (h0 : 0 <= t) (h1 : t < B []) : ∀ m, m <= n -> ∃ xs t' L1 L2, fll n B m = L1 ++ xs :: L2 /\ t' = t - wsm B L1 /\ 0 <= t' /\ t' < B xs /\ grd n B (n - m) xs t' = grd n B n [] t
  | 0, _ => ⟨[], t, [], [], rfl, by simp [wsm], h0, h1, rfl⟩
  | m + 1, hm => by
    obtain ⟨xs, t', L1, L2, e1, e2, e3, e4, e5⟩ := tE C h0 h1 m (by omega)
    obtain ⟨l, b⟩ := jJ m xs (by rw [e1]; simp)
    have e4' := e4
    rw [<- C.nx b (by omega)] at e4'
    obtain ⟨x, u, l1, l2, p1, p2, p3, p4, p5⟩ := jX e3 e4'
    refine ⟨xs ++ [x], u, (L1.flatMap fun xs => (nxB n B xs).map fun x => xs ++ [x]) ++ l1.map fun x => xs ++ [x], (l2.map fun x => xs ++ [x]) ++ L2.flatMap fun xs => (nxB n B xs).map fun x => xs ++ [x], ?_, ?_, p4, p5, ?_⟩
    · unfold fll
      rw [e1, List.flatMap_append, List.flatMap_cons, p1]
      simp
    · rw [uI, vN, m8 C fun ys hy => by
        obtain ⟨l, b⟩ := jJ m ys (by rw [e1]; simp [hy])
        exact ⟨b, by omega⟩]
      omega
    · rw [<- e5, show n - m = (n - (m + 1)) + 1 by omega]
      show _ = (match eS B xs (nxB n B xs) t' with | some (x, t') => grd n B (n - (m + 1)) (xs ++ [x]) t' | none => (xs, t'))
      rw [p2]
theorem qg {B : List Int -> Int} : ∀ {L : List (List Int)}, (∀ xs ∈ L, B xs = 1) -> wsm B L = L.length
  | [], _ => rfl
  | x :: L, h => by rw [nF, h x List.mem_cons_self, qg fun y hy => h y (List.mem_cons_of_mem _ hy), List.length_cons]; omega
theorem u7 {n : Nat} {B : List Int -> Int} (C : Cnt n B) : ∀ m, m <= n -> wsm B (fll n B m) = B []
  | 0, _ => by show wsm B [[]] = _; rw [nF]; show B [] + 0 = _; omega
  | m + 1, hm => by
    show wsm B ((fll n B m).flatMap _) = _
    rw [m8 C fun ys hy => by
      obtain ⟨l, b⟩ := jJ m ys hy
      exact ⟨b, by omega⟩, u7 C m (by omega)]
theorem z0 {n : Nat} {B : List Int -> Int} (h0 : 0 < B []) : ∀ m, ∀ xs ∈ fll n B m, 0 < B xs
  | 0, xs, h => by simp [fll] at h; subst h; exact h0
  | m + 1, xs, h => by
    unfold fll at h
    obtain ⟨ys, hy, hx⟩ := List.mem_flatMap.mp h
    obtain ⟨x, hz, rfl⟩ := List.mem_map.mp hx
    have := (List.mem_filter.mp hz).2
    simpa using this
theorem vj {n : Nat} {B : List Int -> Int} (h0 : 0 < B []) (F : ∀ xs, Beg n xs -> xs.length = n -> B xs = 0 \/ B xs = 1) : ∀ xs ∈ fll n B n, B xs = 1 := fun xs hx => by
  obtain ⟨l, b⟩ := jJ n xs hx
  have := z0 h0 n xs hx
  rcases F xs b l with z | z <;> omega
theorem Ce {n : Nat} {B : List Int -> Int} (C : Cnt n B) (F : ∀ xs, Beg n xs -> xs.length = n -> B xs = 0 \/ B xs = 1) {t : Nat} (h1 : (t : Int) < B []) : (fll n B n)[t]? = some (grd n B n [] t).1 := by
  obtain ⟨xs, t', L1, L2, e1, e2, e3, e4, e5⟩ := tE C (t := (t : Int)) (by omega) h1 n (Nat.le_refl _)
  have one := vj (by omega) F
  have w : wsm B L1 = L1.length := qg fun ys hy => one ys (by rw [e1]; simp [hy])
  have o1 := one xs (by rw [e1]; simp)
  have : L1.length = t := by omega
  rw [Nat.sub_self] at e5
  rw [<- e5, e1, <- this]
  show (L1 ++ xs :: L2)[L1.length]? = some xs
  simp
theorem Av {n : Nat} {B : List Int -> Int} (C : Cnt n B) (F : ∀ xs, Beg n xs -> xs.length = n -> B xs = 0 \/ B xs = 1) (h0 : 0 < B []) : ((fll n B n).length : Int) = B [] := by
  rw [<- qg (vj h0 F), u7 C n (Nat.le_refl _)]
theorem AO {n : Nat} {B : List Int -> Int} (C : Cnt n B) {xs : List Int} (b : Beg n xs) (hl : xs.length < n) (h : ¬ 0 < B xs) : nxB n B xs = [] := by
  have s := C.nx b hl
  have p := C.pos xs b
  cases e : nxB n B xs with
  | nil => rfl
  | cons x l =>
    have hx : x ∈ nxB n B xs := by rw [e]; exact List.mem_cons_self
    have h1 := (List.mem_filter.mp hx).2
    have h1 : 0 < B (xs ++ [x]) := by simpa using h1
    rw [e, eE] at s
    have := uV (B := B) (xs := xs) (l := l) fun y hy => C.left b y (iY (by rw [e]; exact List.mem_cons_of_mem _ hy))
    omega
theorem sV {n : Nat} {xs : List Int} : fB n xs = (aq n xs).map fun x => xs ++ [x] := by
  unfold fB aq dy
  rw [List.filter_map, List.map_map]
  simp only [Function.comp_def, Int.zero_add]
theorem qy {n : Nat} {B : List Int -> Int} (C : Cnt n B) : ∀ m, m <= n -> (∀ xs ∈ allI n m, xs.length = m /\ Beg n xs) /\ (0 < B [] -> (allI n m).filter (fun xs => decide (0 < B xs)) = fll n B m)
  | 0, _ => ⟨fun xs h => by simp [allI] at h; subst h; exact ⟨rfl, Beg.nil n⟩, fun h => by
    show List.filter _ [[]] = _
    rw [List.filter_cons, if_pos (by simpa using h)]; rfl⟩
  | m + 1, hm => by
    obtain ⟨i1, i2⟩ := qy C m (by omega)
    have key : ∀ L : List (List Int), (∀ xs ∈ L, xs.length = m /\ Beg n xs) -> (L.flatMap (fB n)).filter (fun xs => decide (0 < B xs)) = (L.filter fun xs => decide (0 < B xs)).flatMap fun xs => (nxB n B xs).map fun x => xs ++ [x] := by
      intro L
      induction L with
      | nil => intro _; rfl
      | cons xs L ih =>
        intro hL
        obtain ⟨l, b⟩ := hL xs List.mem_cons_self
        have ih := ih fun ys hy => hL ys (List.mem_cons_of_mem _ hy)
        rw [List.flatMap_cons, List.filter_append, ih, sV]
        have e : ((aq n xs).map fun x => xs ++ [x]).filter (fun xs => decide (0 < B xs)) = (nxB n B xs).map fun x => xs ++ [x] := by
          rw [List.filter_map]; rfl
        rw [e, List.filter_cons]
        by_cases c : 0 < B xs
        · rw [if_pos (by simpa using c), List.flatMap_cons]
        · rw [if_neg (by simpa using c), AO C b (by omega) c]; rfl
    refine ⟨fun xs h => ?_, fun h => ?_⟩
    · rw [allI] at h
      obtain ⟨ys, hy, hx⟩ := List.mem_flatMap.mp h
      rw [sV] at hx
      obtain ⟨x, hz, rfl⟩ := List.mem_map.mp hx
      obtain ⟨l, b⟩ := i1 ys hy
      exact ⟨by simp [l], b.snoc hz⟩
    · rw [allI, key _ i1, i2 h]; rfl
noncomputable def zrL : Nat -> List Int
  | 0 => [1]
  | 1 => [0, 1]
  | 2 => [1, 1, 0]
  | 3 => [0, 1, 2, 2]
  | 4 => [5, 5, 4, 2, 0]
  | 5 => [0, 5, 10, 14, 16, 16]
  | 6 => [61, 61, 56, 46, 32, 16, 0]
  | 7 => [0, 61, 122, 178, 224, 256, 272, 272]
  | 8 => [1385, 1385, 1324, 1202, 1024, 800, 544, 272, 0]
  | 9 => [0, 1385, 2770, 4094, 5296, 6320, 7120, 7664, 7936, 7936]
  | 10 => [50521, 50521, 49136, 46366, 42272, 36976, 30656, 23536, 15872, 7936, 0]
  | 11 => [0, 50521, 101042, 150178, 196544, 238816, 275792, 306448, 329984, 345856, 353792, 353792]
  | 12 => [2702765, 2702765, 2652244, 2551202, 2401024, 2204480, 1965664, 1689872, 1383424, 1053440, 707584, 353792, 0]
  | 13 => [0, 2702765, 5405530, 8057774, 10608976, 13010000, 15214480, 17180144, 18870016, 20253440, 21306880, 22014464, 22368256, 22368256]
  | 14 => [199360981, 199360981, 196658216, 191252686, 183194912, 172585936, 159575936, 144361456, 127181312, 108311296, 88057856, 66750976, 44736512, 22368256, 0]
  | 15 => [0, 199360981, 398721962, 595380178, 786632864, 969827776, 1142413712, 1301989648, 1446351104, 1573532416, 1681843712, 1769901568, 1836652544, 1881389056, 1903757312, 1903757312]
  | 16 => [19391512145, 19391512145, 19192151164, 18793429202, 18198049024, 17411416160, 16441588384, 15299174672, 13997185024, 12550833920, 10977301504, 9295457792, 7525556224, 5688903680, 3807514624, 1903757312, 0]
  | 17 => [0, 19391512145, 38783024290, 57975175454, 76768604656, 94966653680, 112378069840, 128819658224, 144118832896, 158116017920, 170666851840, 181644153344, 190939611136, 198465167360, 204154071040, 207961585664, 209865342976, 209865342976]
  | 18 => [2404879675441, 2404879675441, 2385488163296, 2346705139006, 2288729963552, 2211961358896, 2116994705216, 2004616635376, 1875796977152, 1731678144256, 1573562126336, 1402895274496, 1221251121152, 1030311510016, 831846342656, 627692271616, 419730685952, 209865342976, 0]
  | 19 => [0, 2404879675441, 4809759350882, 7195247514178, 9541952653184, 11830682616736, 14042643975632, 16159638680848, 18164255316224, 20040052293376, 21771730437632, 23345292563968, 24748187838464, 25969438959616, 26999750469632, 27831596812288, 28459289083904, 28879019769856, 29088885112832, 29088885112832]
  | _ => []
theorem zt0 (h : Hh) : az [.int 1] h = .ok (.frl ((zrL 0).map D.int)) h := by kernel_rfl
theorem zt1 (h : Hh) : az [.int 2] h = .ok (.frl ((zrL 1).map D.int)) h := by kernel_rfl
theorem zt2 (h : Hh) : az [.int 3] h = .ok (.frl ((zrL 2).map D.int)) h := by kernel_rfl
theorem zt3 (h : Hh) : az [.int 4] h = .ok (.frl ((zrL 3).map D.int)) h := by kernel_rfl
theorem zt4 (h : Hh) : az [.int 5] h = .ok (.frl ((zrL 4).map D.int)) h := by kernel_rfl
theorem zt5 (h : Hh) : az [.int 6] h = .ok (.frl ((zrL 5).map D.int)) h := by kernel_rfl
theorem zt6 (h : Hh) : az [.int 7] h = .ok (.frl ((zrL 6).map D.int)) h := by kernel_rfl
theorem zt7 (h : Hh) : az [.int 8] h = .ok (.frl ((zrL 7).map D.int)) h := by kernel_rfl
theorem zt8 (h : Hh) : az [.int 9] h = .ok (.frl ((zrL 8).map D.int)) h := by kernel_rfl
theorem zt9 (h : Hh) : az [.int 10] h = .ok (.frl ((zrL 9).map D.int)) h := by kernel_rfl
theorem FD (h : Hh) : az [.int 11] h = .ok (.frl ((zrL 10).map D.int)) h := by kernel_rfl
theorem Gv (h : Hh) : az [.int 12] h = .ok (.frl ((zrL 11).map D.int)) h := by kernel_rfl
theorem FQ (h : Hh) : az [.int 13] h = .ok (.frl ((zrL 12).map D.int)) h := by kernel_rfl
theorem GY (h : Hh) : az [.int 14] h = .ok (.frl ((zrL 13).map D.int)) h := by kernel_rfl
theorem F3 (h : Hh) : az [.int 15] h = .ok (.frl ((zrL 14).map D.int)) h := by kernel_rfl
theorem Gf (h : Hh) : az [.int 16] h = .ok (.frl ((zrL 15).map D.int)) h := by kernel_rfl
theorem FL (h : Hh) : az [.int 17] h = .ok (.frl ((zrL 16).map D.int)) h := by kernel_rfl
theorem GU (h : Hh) : az [.int 18] h = .ok (.frl ((zrL 17).map D.int)) h := by kernel_rfl
theorem FW (h : Hh) : az [.int 19] h = .ok (.frl ((zrL 18).map D.int)) h := by kernel_rfl
theorem GO (h : Hh) : az [.int 20] h = .ok (.frl ((zrL 19).map D.int)) h := by kernel_rfl
theorem C6 (n : Nat) (hn : n < 20) (h : Hh) : az [.int ((n : Int) + 1)] h = .ok (.frl ((zrL n).map D.int)) h := by
  match n, hn with
  | 0, _ => exact zt0 h
  | 1, _ => exact zt1 h
  | 2, _ => exact zt2 h
  | 3, _ => exact zt3 h
  | 4, _ => exact zt4 h
  | 5, _ => exact zt5 h
  | 6, _ => exact zt6 h
  | 7, _ => exact zt7 h
  | 8, _ => exact zt8 h
  | 9, _ => exact zt9 h
  | 10, _ => exact FD h
  | 11, _ => exact Gv h
  | 12, _ => exact FQ h
  | 13, _ => exact GY h
  | 14, _ => exact F3 h
  | 15, _ => exact Gf h
  | 16, _ => exact FL h
  | 17, _ => exact GU h
  | 18, _ => exact FW h
  | 19, _ => exact GO h
  | n + 20, hn => exact absurd hn (by omega)
noncomputable def odd (i : Nat) : Bool := decide (i % 2 = 1)
theorem Ew (n : Nat) (hn : n < 20) (h : Hh) : bh [.int ((n : Int) + 1)] h = .ok (.tup ((aW (n + 1) odd).map D.int)) h := by
  match n, hn with
  | 0, _ => kernel_rfl
  | 1, _ => kernel_rfl
  | 2, _ => kernel_rfl
  | 3, _ => kernel_rfl
  | 4, _ => kernel_rfl
  | 5, _ => kernel_rfl
  | 6, _ => kernel_rfl
  | 7, _ => kernel_rfl
  | 8, _ => kernel_rfl
  | 9, _ => kernel_rfl
  | 10, _ => kernel_rfl
  | 11, _ => kernel_rfl
  | 12, _ => kernel_rfl
  | 13, _ => kernel_rfl
  | 14, _ => kernel_rfl
  | 15, _ => kernel_rfl
  | 16, _ => kernel_rfl
  | 17, _ => kernel_rfl
  | 18, _ => kernel_rfl
  | 19, _ => kernel_rfl
  | n + 20, hn => exact absurd hn (by omega)
noncomputable def frN (n : Nat) (k : Nat -> Bool) : Bool := Nat.rec (k 0) (fun m _ => k (m + 1)) n
theorem Co (n : Nat) (k : Nat -> Bool) : frN n k = k n := by cases n <;> rfl
noncomputable def frI (x : Int) (k : Int -> Bool) : Bool := match x with
  | .ofNat n => frN n fun m => k (.ofNat m)
  | .negSucc n => k (.negSucc n)
theorem DH (x : Int) (k : Int -> Bool) : frI x k = k x := by
  cases x with
  | ofNat n => exact Co n fun m => k (.ofNat m)
  | negSucc n => rfl
noncomputable def frL : List Int -> (List Int -> Bool) -> Bool
  | [], k => k []
  | x :: xs, k => frI x fun y => frL xs fun ys => k (y :: ys)
theorem yD : ∀ (l : List Int) (k : List Int -> Bool), frL l k = k l
  | [], k => rfl
  | x :: xs, k => by unfold frL; rw [DH, yD]
noncomputable def x8 (n : Nat) (fl : Nat -> Bool) (m : Nat) (row : List Int) : List Int := (List.range (m + 2)).map fun l => if fl (n - 2 - m) = true then (row.take l).sum else (row.drop l).sum
theorem xX {n : Nat} {fl : Nat -> Bool} {m : Nat} : x8 n fl m (bU n fl m) = bU n fl (m + 1) := by
  unfold x8
  show _ = (List.range (m + 2)).map _
  refine List.map_congr_left fun l hl => ?_
  have hl := List.mem_range.mp hl
  by_cases c : fl (n - 2 - m) = true
  · rw [if_pos c, uT (by omega) c]
  · rw [if_neg c, vK (by omega) (by simpa using c)]
noncomputable def yb (n : Nat) (fl : Nat -> Bool) (v : Int) : Nat -> Nat -> List Int -> Bool
  | 0, _, row => decide (row.sum = v)
  | j + 1, m, row => frL (x8 n fl m row) fun row' => yb n fl v j (m + 1) row'
theorem uG {n : Nat} {fl : Nat -> Bool} {v : Int} : ∀ (j m : Nat), yb n fl v j m (bU n fl m) = true -> (bU n fl (m + j)).sum = v
  | 0, m, h => by simpa [yb] using h
  | j + 1, m, h => by
    unfold yb at h
    rw [yD, xX] at h
    have := uG j (m + 1) h
    rwa [show m + 1 + j = m + (j + 1) by omega] at this
theorem A9 : ∀ n, n < 20 -> yb (n + 1) odd (zrL n).sum n 0 [1] = true := by decide +kernel
theorem zk {n : Nat} (hn : n < 20) : (zrL n).sum = jcV (n + 1) odd [] := by
  have := uG (n := n + 1) (fl := odd) n 0 (A9 n hn)
  rw [<- this, Nat.zero_add, mZ]
  rfl
theorem pJ {n : Nat} (h1 : 1 <= n) (hn : n <= 20) (h : Hh) : a8 [.int n] h = .ok (.int (jcV n odd [])) h := by
  obtain ⟨k, rfl⟩ : ∃ k, n = k + 1 := ⟨n - 1, by omega⟩
  have q := C6 k (by omega) h
  rw [<- zk (by omega)]
  rw [show ((k + 1 : Nat) : Int) = (k : Int) + 1 by omega]
  simp [a8, bG, q]
theorem ze {n : Nat} (h1 : 1 <= n) (hn : n <= 20) (h : Hh) : bh [.int n] h = .ok (.tup ((aW n odd).map D.int)) h := by
  obtain ⟨k, rfl⟩ : ∃ k, n = k + 1 := ⟨n - 1, by omega⟩
  exact Ew k (by omega) h
theorem BW {n : Nat} {t : Int} {h : Hh} (h1 : 1 <= n) (hn : n <= 20) (t0 : 0 <= t) (t1 : t < jcV n odd []) : bF [.int n, .int t] h = .ok (.tup ((grd n (jcV n odd) n [] t).1.map D.int)) h := by
  have zm := pJ h1 hn h
  have z2 : (0 : Int) <= t /\ t <= jcV n odd [] - 1 := by omega
  have nn := yZ (h := h) z2
  have od := ze h1 hn h
  have jc := mF (n := n) (fl := odd) (h := h) h1 hn
  have e := Dw (h := h) (iD odd h1) (zj h1 hn) (by omega) t0 t1
  generalize jcV n odd [] = V at *
  generalize (grd n (jcV n odd) n [] t).1.map D.int = X at *
  generalize jrD n odd n = W at *
  generalize (aW n odd).map D.int = S at *
  simp [bF, bG, zm, nn, od, jc, e]
theorem zh {n : Nat} {os : List Int} {h : Hh} (h1 : 1 <= n) (hn : n <= 20) (o : Ord n os) (hf : cz os = aW n odd) (w : Wf h) : aZ [.tup (os.map D.int)] h = .ok (.int (rkL n (jcV n odd) [] os)) h := by
  have a := wm o h1 hn w
  have f := tB (xs := os) (h := h) (by rw [o.len]; omega)
  have od := ze h1 hn h
  have jc := mF (n := n) (fl := odd) (h := h) h1 hn
  have e := Bm (h := h) (iD odd h1) (zj h1 hn) (by omega) o
  have l : (((os.map D.int).length : Nat) : Int) = n := by rw [List.length_map, o.len]
  have eq := u3 (h := h) (xs := cz os) (ys := aW n odd)
  rw [hf] at eq f
  rw [decide_eq_true rfl] at eq
  generalize jrD n odd n = W at *
  generalize (aW n odd).map D.int = S at *
  generalize os.map D.int = X at *
  simp [aZ, fD, gU, bG, a, f, od, jc, e, l, eq]
structure KJ (P : Key -> Int -> Prop) (kvs : List (Key × D)) : Prop where
  nd : (kvs.map (·.1)).Nodup
  all : ∀ kv ∈ kvs, ∃ v, kv.2 = .int v /\ P kv.1 v
theorem r9 {k : Key} {d : D} : ∀ {kvs : List (Key × D)}, eI kvs k = some d -> (k, d) ∈ kvs
  | [], e => by cases e
  | p :: r, e => by
    unfold eI at e
    split at e
    · rename_i c
      cases e
      rw [<- c]
      exact List.mem_cons_self
    · exact List.mem_cons_of_mem _ (r9 e)
theorem nr {k : Key} : ∀ {kvs : List (Key × D)}, (eI kvs k = none /\ k ∉ kvs.map (·.1) /\ (kvs.any fun kv => decide (kv.1 = k)) = false) \/ ((∃ d, eI kvs k = some d) /\ (kvs.any fun kv => decide (kv.1 = k)) = true)
  | [] => .inl ⟨rfl, by simp, rfl⟩
  | p :: r => by
    unfold eI
    by_cases c : p.1 = k
    · exact .inr ⟨⟨p.2, if_pos c⟩, by simp [c]⟩
    · rw [if_neg c]
      rcases nr (kvs := r) (k := k) with ⟨a, b, e⟩ | ⟨a, e⟩
      · refine .inl ⟨a, fun h => ?_, by rw [List.any_cons, e]; simp [c]⟩
        rcases List.mem_cons.mp h with z | z
        · exact c z.symm
        · exact b z
      · exact .inr ⟨a, by rw [List.any_cons, e]; simp⟩
theorem sS {k : Key} {d : D} : ∀ {kvs : List (Key × D)}, (kvs.any fun kv => decide (kv.1 = k)) = true -> eI (kvs.map fun kv => if kv.1 = k then (kv.1, d) else kv) k = some d
  | [], e => by cases e
  | p :: r, e => by
    rw [List.map_cons]
    by_cases c : p.1 = k
    · rw [if_pos c]; unfold eI; rw [if_pos c]
    · rw [if_neg c]; unfold eI; rw [if_neg c]
      refine sS ?_
      rw [List.any_cons] at e
      simpa [c] using e
theorem rO {k : Key} {d : D} : ∀ {kvs : List (Key × D)}, eI kvs k = none -> eI (kvs ++ [(k, d)]) k = some d
  | [], _ => if_pos rfl
  | p :: r, e => by
    unfold eI at e
    split at e
    · cases e
    · rename_i c
      rw [List.cons_append]; unfold eI; rw [if_neg c]; exact rO e
theorem xP {kvs : List (Key × D)} {k : Key} {d : D} : eI (putD kvs k d) k = some d := by
  unfold putD
  rcases nr (kvs := kvs) (k := k) with ⟨a, b, e⟩ | ⟨a, e⟩
  · rw [if_neg (by rw [e]; exact Bool.false_ne_true)]; exact rO a
  · rw [if_pos e]; exact sS e
theorem KJ.put {P : Key -> Int -> Prop} {kvs : List (Key × D)} {k : Key} {v : Int} (r : KJ P kvs) (p : P k v) : KJ P (putD kvs k (.int v)) := by
  unfold putD
  rcases nr (kvs := kvs) (k := k) with ⟨a, b, e⟩ | ⟨a, e⟩
  · rw [if_neg (by rw [e]; exact Bool.false_ne_true)]
    refine ⟨?_, fun kv h => ?_⟩
    · rw [List.map_append]
      exact List.nodup_append.mpr ⟨r.nd, List.nodup_cons.mpr ⟨by simp, List.nodup_nil⟩, fun x hx y hy => by
        simp only [List.map_cons, List.map_nil, List.mem_singleton] at hy
        subst hy
        exact fun z => b (z ▸ hx)⟩
    · rcases List.mem_append.mp h with h | h
      · exact r.all kv h
      · rw [List.mem_singleton] at h; subst h; exact ⟨v, rfl, p⟩
  · rw [if_pos e]
    refine ⟨?_, fun kv h => ?_⟩
    · have : (kvs.map fun kv => if kv.1 = k then (kv.1, D.int v) else kv).map (·.1) = kvs.map (·.1) := by
        rw [List.map_map]
        refine List.map_congr_left fun kv _ => ?_
        show (if kv.1 = k then (kv.1, D.int v) else kv).1 = kv.1
        split <;> rfl
      rw [this]; exact r.nd
    · obtain ⟨kv', h', rfl⟩ := List.mem_map.mp h
      by_cases c : kv'.1 = k
      · rw [if_pos c]; exact ⟨v, rfl, by rw [c]; exact p⟩
      · rw [if_neg c]; exact r.all kv' h'
theorem p6 : ∀ (n : Nat) (xs : List Int), xs.Nodup -> (∀ x ∈ xs, 0 <= x /\ x < n) -> xs.length <= n
  | 0, xs, _, h => by
    cases xs with
    | nil => simp
    | cons x r => have := h x List.mem_cons_self; omega
  | n + 1, xs, nd, h => by
    by_cases hm : (n : Int) ∈ xs
    · have ih := p6 n (xs.erase n) (nd.erase _) (fun x hx => by
        obtain ⟨a, b⟩ := (List.Nodup.mem_erase_iff nd).mp hx
        have := h x b; omega)
      rw [List.length_erase_of_mem hm] at ih
      omega
    · have ih := p6 n xs nd (fun x hx => by
        have a := h x hx
        have b : x ≠ (n : Int) := fun e => hm (e ▸ hx)
        omega)
      omega
theorem KJ.len {P : Key -> Int -> Prop} {kvs : List (Key × D)} (r : KJ P kvs) (enc : Key -> Int) (N : Nat) (hE : ∀ k v, P k v -> 0 <= enc k /\ enc k < N) (hI : ∀ k k' v v', P k v -> P k' v' -> enc k = enc k' -> k = k') : kvs.length <= N := by
  have nd : ((kvs.map (·.1)).map enc).Nodup := by
    have key : ∀ l : List (Key), l.Nodup -> (∀ k ∈ l, ∃ v, P k v) -> (l.map enc).Nodup := by
      intro l
      induction l with
      | nil => intros; exact List.nodup_nil
      | cons k l ih =>
        intro nd h
        obtain ⟨n1, n2⟩ := List.nodup_cons.mp nd
        rw [List.map_cons]
        refine List.nodup_cons.mpr ⟨fun z => ?_, ih n2 fun k' hk => h k' (List.mem_cons_of_mem _ hk)⟩
        obtain ⟨k', hk', e⟩ := List.mem_map.mp z
        obtain ⟨v, p⟩ := h k List.mem_cons_self
        obtain ⟨v', p'⟩ := h k' (List.mem_cons_of_mem _ hk')
        exact n1 (hI k' k v' v p' p e ▸ hk')
    refine key _ r.nd fun k hk => ?_
    obtain ⟨kv, hkv, rfl⟩ := List.mem_map.mp hk
    obtain ⟨v, _, p⟩ := r.all kv hkv
    exact ⟨v, p⟩
  have := p6 N _ nd fun x hx => by
    obtain ⟨k, hk, rfl⟩ := List.mem_map.mp hx
    obtain ⟨kv, hkv, rfl⟩ := List.mem_map.mp hk
    obtain ⟨v, _, p⟩ := r.all kv hkv
    exact hE _ v p
  simpa using this
theorem KJ.val {P : Key -> Int -> Prop} {kvs : List (Key × D)} {k : Key} {d : D} (r : KJ P kvs) (e : eI kvs k = some d) : ∃ v, d = .int v /\ P k v := by
  obtain ⟨v, e1, p⟩ := r.all _ (r9 e)
  exact ⟨v, e1, p⟩
theorem mn {h : Hh} {m : Nat} {kvs : List (Key × D)} (hm : m < h.length) : gj (h.set m (.dic kvs)) m = some kvs := by
  unfold gj; rw [List.getElem?_set_self hm]
theorem zD {h : Hh} {m : Nat} {kvs : List (Key × D)} {d v : D} {k : Key} (e : gj h m = some kvs) (ek : nN d = some k) (ev : eI kvs k = some v) : pf (.ref m) d h = .ok v h := by
  delta pf; rw [ek]; dsimp only; rw [e]; dsimp only; rw [ev]
theorem yB {h : Hh} {m : Nat} {kvs : List (Key × D)} {d : D} {k : Key} (e : gj h m = some kvs) (ek : nN d = some k) : iV d (.ref m) h = .ok (.bl (!(eI kvs k).isSome)) h := by
  delta iV; rw [ek]; dsimp only; rw [e]
theorem CU {h : Hh} {m : Nat} {kvs : List (Key × D)} {d v : D} {k : Key} (e : gj h m = some kvs) (ek : nN d = some k) (hl : kvs.length < 1000000) : oQ (.ref m) d v h = .ok () (h.set m (.dic (putD kvs k v))) := by
  delta oQ; rw [ek]; dsimp only; rw [e]; exact if_pos hl
theorem KJ.low {P : Key -> Int -> Prop} {kvs : List (Key × D)} {j : Nat} (r : KJ P kvs) : nY j (.dic kvs) = true := by
  show bz j (kvs.map (·.2)) = true
  refine iX fun d hd => ?_
  obtain ⟨kv, hkv, rfl⟩ := List.mem_map.mp hd
  obtain ⟨v, e, _⟩ := r.all kv hkv
  rw [e]; rfl
theorem KJ.nil {P : Key -> Int -> Prop} : KJ P [] := ⟨List.nodup_nil, by simp⟩
noncomputable def PJ (n : Nat) (k : Key) (v : Int) : Prop := ∃ m l : Nat, k = .inl ((m : Int) * 32 + l) /\ m <= 20 /\ l <= 20 /\ v = Jr n odd m l
noncomputable def encJ : Key -> Int
  | .inl i => i
  | _ => 0
theorem B8 {n : Nat} {kvs : List (Key × D)} (r : KJ (PJ n) kvs) : kvs.length < 1000000 := by
  have := r.len encJ 6000 (fun k v ⟨m, l, e, h1, h2, _⟩ => by subst e; show 0 <= (m : Int) * 32 + l /\ (m : Int) * 32 + l < _; omega) (fun k k' v v' ⟨m, l, e, h1, h2, _⟩ ⟨m', l', e', h1', h2', _⟩ z => by
    subst e e'
    have z : (m : Int) * 32 + l = (m' : Int) * 32 + l' := z
    rw [z])
  omega
theorem yd {α : Type} (p : α -> Bool) (f : α -> Int) : ∀ L : List α, ((L.filter p).map f).sum = (L.map fun r => if p r = true then f r else 0).sum
  | [] => rfl
  | a :: L => by
    rw [List.filter_cons, List.map_cons, List.sum_cons, <- yd p f L]
    by_cases c : p a = true
    · rw [if_pos c, if_pos c, List.map_cons, List.sum_cons]
    · rw [if_neg c, if_neg c]; omega
theorem As {n m : Nat} (h : m + 1 <= n) : (((n : Int) - m - 1) % 2 == 1) = odd (n - 1 - m) := by
  unfold odd
  rw [Bool.eq_iff_iff]
  simp
  omega
theorem yG {q n : Nat} {h : Hh} (hq : q < h.length) (hn : n <= 20) : ∀ (d m : Nat) (l : Int) (kvs : List (Key × D)), KJ (PJ n) kvs -> m < d -> m + 1 <= n -> 0 <= l -> l <= m →
    ∃ kvs', KJ (PJ n) kvs' /\ aR d [.int n, .int m, .int l, .ref q] (h.set q (.dic kvs)) = .ok (.int (Jr n odd m l)) (h.set q (.dic kvs'))
  | 0, m, l, kvs, r, hd, hm, a0, a1 => by omega
  | d + 1, m, l, kvs, r, hd, hm, a0, a1 => by
    by_cases c1 : m = 0
    · subst c1
      refine ⟨kvs, r, ?_⟩
      rw [fK]
      show _ = R.ok (D.int 1) _
      simp [bG]
    · have c1' : ¬ (m : Int) = 0 := by omega
      have s1 : sml (m : Int) = true := vi (by omega) (by omega)
      have s32 : sml 32 = true := by decide +kernel
      obtain ⟨an, rfl⟩ : ∃ an : Nat, l = (an : Int) := ⟨l.toNat, by omega⟩
      have ek : nN (.int ((m : Int) * 32 + an)) = some (.inl ((m : Int) * 32 + an)) := rfl
      have ni := yB (d := .int ((m : Int) * 32 + an)) (mn (kvs := kvs) hq) ek
      cases ev : eI kvs (.inl ((m : Int) * 32 + an)) with
      | some dv =>
        obtain ⟨v, rfl, m', a', e, _, _, ve⟩ := r.val ev
        have gt := zD (mn (kvs := kvs) hq) ek ev
        have e : (m : Int) * 32 + an = (m' : Int) * 32 + a' := by injection e
        have e1 : m' = m := by omega
        have e3 : a' = an := by omega
        subst e1 e3
        rw [ev] at ni
        refine ⟨kvs, r, ?_⟩
        rw [fK, <- ve]
        simp [bG, c1, c1', ni, gt, s1, s32]
      | none =>
        rw [ev] at ni
        obtain ⟨m', rfl⟩ : ∃ m', m = m' + 1 := ⟨m - 1, by omega⟩
        have od := As (n := n) (m := m' + 1) hm
        rw [show n - 1 - (m' + 1) = n - 2 - m' by omega] at od
        have comp : ∀ (L : List Nat) (kvs : List (Key × D)), (∀ r ∈ L, r < m' + 1) -> KJ (PJ n) kvs -> ∃ kvs', KJ (PJ n) kvs' /\ b8 (ay asB (ar dEq (ar dLt (af 0) (af 4)) (af 5))) (ah (aR d) (aa (af 1) (aa (ar bV (af 2) (cC (.int 1))) (aa (af 0) (aa (af 3) ak))))) (fun x => [some x, some (.int (n : Int)), some (.int ((m' + 1 : Nat) : Int)), some (.ref q), some (.int (an : Int)), some (.bl (odd (n - 2 - m')))]) (L.map fun (r : Nat) => D.int r) (h.set q (.dic kvs)) = .ok (((L.filter fun (r : Nat) => decide ((r : Int) < (an : Int)) == odd (n - 2 - m')).map fun (r : Nat) => Jr n odd m' r).map D.int) (h.set q (.dic kvs')) := by
          intro L
          induction L with
          | nil => intro kvs _ r; exact ⟨kvs, r, rfl⟩
          | cons w L ih =>
            intro kvs hl r
            have hw := hl w List.mem_cons_self
            rw [List.map_cons, b8, List.filter_cons]
            have t0 : (ay asB (ar dEq (ar dLt (af 0) (af 4)) (af 5))) [some (.int (w : Int)), some (.int (n : Int)), some (.int ((m' + 1 : Nat) : Int)), some (.ref q), some (.int (an : Int)), some (.bl (odd (n - 2 - m')))] (h.set q (.dic kvs)) = .ok (decide ((w : Int) < (an : Int)) == odd (n - 2 - m')) (h.set q (.dic kvs)) := by simp
            rw [t0, cn]
            by_cases c : (decide ((w : Int) < (an : Int)) == odd (n - 2 - m')) = true
            · obtain ⟨k1, r1, e1⟩ := yG hq hn d m' w kvs r (by omega) (by omega) (by omega) (by omega)
              obtain ⟨k2, r2, e2⟩ := ih k1 (fun x hx => hl x (List.mem_cons_of_mem _ hx)) r1
              refine ⟨k2, r2, ?_⟩
              have nn : ((m' + 1 : Nat) : Int) - 1 = (m' : Int) := by omega
              have t : (ah (aR d) (aa (af 1) (aa (ar bV (af 2) (cC (.int 1))) (aa (af 0) (aa (af 3) ak))))) [some (.int (w : Int)), some (.int (n : Int)), some (.int ((m' + 1 : Nat) : Int)), some (.ref q), some (.int (an : Int)), some (.bl (odd (n - 2 - m')))] (h.set q (.dic kvs)) = .ok (.int (Jr n odd m' w)) (h.set q (.dic k1)) := by
                generalize ((m' + 1 : Nat) : Int) = M at nn ⊢
                simp [nn, e1]
              rw [if_pos c, t, cn, e2, cn, if_pos c]
              rfl
            · obtain ⟨k2, r2, e2⟩ := ih kvs (fun x hx => hl x (List.mem_cons_of_mem _ hx)) r
              refine ⟨k2, r2, ?_⟩
              rw [if_neg c, e2, if_neg c]
        obtain ⟨k1, r1, e1⟩ := comp (List.range (m' + 1)) kvs (fun r hr => List.mem_range.mp hr) r
        rw [<- dQ] at e1
        have sm : ((((List.range (m' + 1)).filter fun (r : Nat) => decide ((r : Int) < (an : Int)) == odd (n - 2 - m')).map fun (r : Nat) => Jr n odd m' r)).sum = Jr n odd (m' + 1) an := by
          rw [yd]
          show _ = sg _ (m' + 1)
          unfold sg
          congr 1
          refine List.map_congr_left fun r _ => ?_
          by_cases c : decide ((r : Int) < (an : Int)) = odd (n - 2 - m')
          · rw [if_pos c, if_pos (by rw [c]; simp)]
          · rw [if_neg c, if_neg (by simpa using c)]
        have pu := CU (v := .int (Jr n odd (m' + 1) an)) (mn (kvs := k1) hq) ek (B8 r1)
        rw [List.set_set] at pu
        have gt := zD (v := .int (Jr n odd (m' + 1) an)) (mn (kvs := putD k1 (.inl (((m' + 1 : Nat) : Int) * 32 + an)) (.int (Jr n odd (m' + 1) an))) hq) ek xP
        refine ⟨_, r1.put (k := .inl (((m' + 1 : Nat) : Int) * 32 + an)) (v := Jr n odd (m' + 1) an) ⟨m' + 1, an, rfl, by omega, by omega, rfl⟩, ?_⟩
        have z1 : ((m' + 1 : Nat) : Int).natAbs <= 1000000 := by omega
        have z2 : ((m' + 1 : Nat) : Int).toNat = m' + 1 := by omega
        have z3 : m' + 1 <= 1000000 := by omega
        rw [fK]
        generalize putD k1 (.inl (((m' + 1 : Nat) : Int) * 32 + an)) (.int (Jr n odd (m' + 1) an)) = k2 at *
        generalize (((List.range (m' + 1)).filter fun (r : Nat) => decide ((r : Int) < (an : Int)) == odd (n - 2 - m')).map fun (r : Nat) => Jr n odd m' r) = W at *
        generalize hM : ((m' + 1 : Nat) : Int) = M at *
        generalize odd (n - 2 - m') = O9 at *
        simp [bG, c1', ni, od, z1, z2, z3, e1, sm, pu, gt, s1, s32]
theorem C_ {n : Nat} {fl : Nat -> Bool} {xs : List Int} (b : Beg n xs) (c : xs.length ≠ 0) (hf : fok fl xs = true) {r : Nat} (hr : r < (aq n xs).length) : jcV n fl (xs ++ [(aq n xs)[r]]) = if decide ((aq n xs)[r] < bN xs) = fl (xs.length - 1) then Jr n fl ((aq n xs).length - 1) r else 0 := by
  have l1 := pM b hr
  have ll := cI b
  unfold jcV
  rw [if_neg (by simp), rC c, l1, List.length_append, hf, Bool.true_and]
  have e3 : n - (xs.length + [(aq n xs)[r]].length) = (aq n xs).length - 1 := by simp; omega
  rw [e3]
  by_cases d : decide ((aq n xs)[r] < bN xs) = fl (xs.length - 1)
  · rw [if_pos d, if_pos (by rw [d]; simp)]
  · rw [if_neg d, if_neg (by simpa using d)]
theorem zo (n : Nat) : aq n [] = dy 0 n := by unfold aq; rw [List.filter_eq_self.mpr]; intro x _; rfl
theorem Bw {n : Nat} {fl : Nat -> Bool} {r : Nat} (hr : r < (aq n []).length) : jcV n fl ([] ++ [(aq n [])[r]]) = Jr n fl ((aq n []).length - 1) r := by
  have l1 := pM (Beg.nil n) hr
  have ll := cI (Beg.nil n)
  unfold jcV
  rw [if_neg (by simp), l1]
  have e3 : n - ([] ++ [(aq n [])[r]]).length = (aq n []).length - 1 := by rw [ll]; simp
  rw [e3]
  rfl
theorem qC {B : List Int -> Int} {xs : List Int} : ∀ {l : List Int} {t : Int}, 0 <= t -> (∀ x ∈ l, 0 <= B (xs ++ [x])) -> eS B xs (l.filter fun x => decide (0 < B (xs ++ [x]))) t = eS B xs l t
  | [], _, _, _ => rfl
  | x :: l, t, h0, h => by
    have hx := h x List.mem_cons_self
    have hl := fun y hy => h y (List.mem_cons_of_mem _ hy)
    rw [List.filter_cons]
    by_cases c : 0 < B (xs ++ [x])
    · rw [if_pos (by simpa using c)]
      unfold eS
      by_cases d : t < B (xs ++ [x])
      · rw [if_pos d, if_pos d]
      · rw [if_neg d, if_neg d]; exact qC (by omega) hl
    · rw [if_neg (by simpa using c), qC h0 hl]
      conv => rhs; unfold eS
      rw [if_neg (by omega), show t - B (xs ++ [x]) = t by omega]
noncomputable def LAB : MS := (cp (nZ (ay asB (ar dEq (af 3) (ah gi ak))) (ay asB (ar dEq (ar dLt (af 6) (ar dIx (af 3) (cUn kr (cC (.int 1))))) (ar dEq (ar i3 (ah bT (aa (af 3) ak)) (cC (.int 2))) (cC (.int 0)))))) (aE (a9 7 (ah (aR 22) (aa (af 0) (aa (ar bV (ah bT (aa (af 4) ak)) (cC (.int 1))) (aa (af 5) (aa (af 2) ak)))))) (aE (cp (ay asB (ar dLt (af 1) (af 7))) wK bf) (a9 1 (ar bV (af 1) (af 7))))) bf)
noncomputable def LAW : MS := (aE (dO (kq (af 4)) (gT2 5 6) LAB) (aE (a9 3 (ar (cQ aN) (af 3) (ah gi (aa (af 6) ak)))) (iI (iK gQ (af 4) (aa (af 6) ak)))))
noncomputable def LAC : MT := (ay asB (ar dNe (af 4) (ah (ij aN) ak)))
noncomputable def hA (h : Hh) (q : Nat) (ls : List Int) (kvs : List (Key × D)) : Hh := (h ++ [O.lst (ls.map D.int)]).set q (.dic kvs)
theorem qc {h : Hh} {q : Nat} {ls : List Int} {kvs : List (Key × D)} (hq : q < h.length) : aA (hA h q ls kvs) h.length = some (ls.map D.int) := by
  unfold hA
  rw [j0 hq]
  have : (h.set q (.dic kvs)).length = h.length := List.length_set
  rw [<- this]; exact jV
theorem B3 {n q : Nat} {h : Hh} {xs : List Int} (hq : q < h.length) (h1 : 1 <= n) (hn : n <= 20) (b : Beg n xs) (hf : xs.length ≠ 0 -> fok odd xs = true) : ∀ (l : List Int) (i : Nat) (t x t' : Int) (kvs : List (Key × D)) (y5 y6 y7 : Option D), (aq n xs).drop i = l -> 0 <= t -> KJ (PJ n) kvs -> eS (jcV n odd) xs l t = some (x, t') →
    ∃ kvs' z5 z7, KJ (PJ n) kvs' /\ ft (Src.liveE h.length).rdr (gT2 5 6) LAB l.length i [some (.int n), some (.int t), some (.ref q), some (.tup (xs.map D.int)), some (.ref h.length), y5, y6, y7] (hA h q (aq n xs) kvs) = .ok (.nx [some (.int n), some (.int t'), some (.ref q), some (.tup (xs.map D.int)), some (.ref h.length), z5, some (.int x), z7]) (hA h q (aq n xs) kvs')
  | [], i, t, x, t', kvs, y5, y6, y7, _, _, _, e => by cases e
  | a :: l, i, t, x, t', kvs, y5, y6, y7, hd, t0, rk, e => by
    have il : i < (aq n xs).length := by
      by_cases c : i < (aq n xs).length
      · exact c
      · rw [List.drop_eq_nil_of_le (by omega)] at hd; cases hd
    have ha : (aq n xs)[i] = a /\ (aq n xs).drop (i + 1) = l := by
      rw [List.drop_eq_getElem_cons il] at hd
      exact ⟨(List.cons.inj hd).1, (List.cons.inj hd).2⟩
    have ll := cI b
    have lst := qc (ls := aq n xs) (kvs := kvs) hq
    have rd : (Src.liveE h.length).rdr (hA h q (aq n xs) kvs) i = some (some (.tup [.int i, .int a])) := by
      show (aA (hA h q (aq n xs) kvs) h.length).map _ = _
      rw [lst]
      show some (((aq n xs).map D.int)[i]?.map _) = _
      rw [List.getElem?_map, List.getElem?_eq_getElem il, ha.1]
      rfl
    have lenL : bT [.ref h.length] (hA h q (aq n xs) kvs) = .ok (.int ((aq n xs).length : Int)) (hA h q (aq n xs) kvs) := by
      have := Cq lst
      rw [List.length_map] at this; exact this
    -- what stands at a's turn
    have turn : ∃ k1 w7, KJ (PJ n) k1 /\ LAB [some (.int n), some (.int t), some (.ref q), some (.tup (xs.map D.int)), some (.ref h.length), some (.int i), some (.int a), y7] (hA h q (aq n xs) kvs) = .ok (if t < jcV n odd (xs ++ [a]) then .bk [some (.int n), some (.int t), some (.ref q), some (.tup (xs.map D.int)), some (.ref h.length), some (.int i), some (.int a), w7] else .nx [some (.int n), some (.int (t - jcV n odd (xs ++ [a]))), some (.ref q), some (.tup (xs.map D.int)), some (.ref h.length), some (.int i), some (.int a), w7]) (hA h q (aq n xs) k1) := by
      obtain ⟨k1, r1, e1⟩ := yG (q := q) (h := h ++ [O.lst ((aq n xs).map D.int)]) (by simp; omega) hn 22 ((aq n xs).length - 1) (i : Int) kvs rk (by omega) (by omega) (by omega) (by omega)
      have e1 : aR 22 [.int n, .int (((aq n xs).length - 1 : Nat) : Int), .int (i : Int), .ref q] (hA h q (aq n xs) kvs) = .ok (.int (Jr n odd ((aq n xs).length - 1) i)) (hA h q (aq n xs) k1) := e1
      rw [show (((aq n xs).length - 1 : Nat) : Int) = ((aq n xs).length : Int) - 1 by omega] at e1
      by_cases c : xs.length = 0
      · have : xs = [] := List.eq_nil_of_length_eq_zero c
        subst this
        have v := Bw (n := n) (fl := odd) il
        rw [ha.1] at v
        refine ⟨k1, some (.int (jcV n odd ([] ++ [a]))), r1, ?_⟩
        rw [<- v] at e1
        generalize jcV n odd ([] ++ [a]) = V at *
        generalize hA h q (aq n []) kvs = H0 at *
        generalize hA h q (aq n []) k1 = H1 at *
        generalize ((aq n []).length : Int) = LL at *
        have eq : dEq (.tup []) (.tup []) H0 = .ok (.bl true) H0 := rfl
        by_cases d : t < V <;> simp [LAB, eq, lenL, e1, d]
      · have hf := hf c
        have v := C_ (n := n) (fl := odd) b c hf il
        rw [ha.1] at v
        have eq : dEq (.tup (xs.map D.int)) (.tup []) (hA h q (aq n xs) kvs) = .ok (.bl false) (hA h q (aq n xs) kvs) := by
          have := u3 (h := hA h q (aq n xs) kvs) (xs := xs) (ys := [])
          rw [show ([] : List Int).map D.int = [] from rfl] at this
          rw [this]
          have : ¬ xs = [] := fun z => c (by rw [z]; rfl)
          simp [this]
        have la := fun H : Hh => tf (h := H) c
        have lx : (((xs.map D.int).length : Nat) : Int) = xs.length := by rw [List.length_map]
        have od : ((xs.length : Int) % 2 == 0) = odd (xs.length - 1) := by
          unfold odd; rw [Bool.eq_iff_iff]; simp; omega
        by_cases d : decide (a < bN xs) = odd (xs.length - 1)
        · rw [if_pos d] at v
          refine ⟨k1, some (.int (jcV n odd (xs ++ [a]))), r1, ?_⟩
          rw [<- v] at e1
          generalize jcV n odd (xs ++ [a]) = V at *
          generalize hA h q (aq n xs) kvs = H0 at *
          generalize hA h q (aq n xs) k1 = H1 at *
          generalize ((aq n xs).length : Int) = LL at *
          generalize (xs.length : Int) = XL at *
          generalize odd (xs.length - 1) = O9 at *
          generalize xs.map D.int = X at *
          by_cases g : t < V <;> simp [LAB, eq, la, lx, od, d, lenL, e1, g]
        · rw [if_neg d] at v
          refine ⟨kvs, y7, rk, ?_⟩
          have g : ¬ t < 0 := by omega
          rw [v, if_neg g, Int.sub_zero]
          have d2 : (decide (a < bN xs) == odd (xs.length - 1)) = false := by simpa using d
          generalize hA h q (aq n xs) kvs = H0 at *
          generalize ((aq n xs).length : Int) = LL at *
          generalize (xs.length : Int) = XL at *
          generalize odd (xs.length - 1) = O9 at *
          generalize xs.map D.int = X at *
          have d3 : ∀ H : Hh, dEq (.bl (decide (a < bN xs))) (.bl O9) H = .ok (.bl false) H := fun H => by rw [D0, d2]
          simp [LAB, eq, la, lx, od, d3]
    obtain ⟨k1, w7, r1, tr⟩ := turn
    have gt : gT2 5 6 (.tup [.int i, .int a]) [some (.int n), some (.int t), some (.ref q), some (.tup (xs.map D.int)), some (.ref h.length), y5, y6, y7] (hA h q (aq n xs) kvs) = .ok [some (.int n), some (.int t), some (.ref q), some (.tup (xs.map D.int)), some (.ref h.length), some (.int i), some (.int a), y7] (hA h q (aq n xs) kvs) := by simp
    unfold eS at e
    by_cases d : t < jcV n odd (xs ++ [a])
    · rw [if_pos d] at e tr
      cases e
      refine ⟨k1, some (.int i), w7, r1, ?_⟩
      rw [List.length_cons]
      unfold ft
      rw [rd]
      dsimp only
      rw [gt, cn, tr]
      rfl
    · rw [if_neg d] at e tr
      obtain ⟨k2, z5, z7, r2, e2⟩ := B3 hq h1 hn b hf l (i + 1) (t - jcV n odd (xs ++ [a])) x t' k1 (some (.int i)) (some (.int a)) w7 ha.2 (by omega) r1 e
      refine ⟨k2, z5, z7, r2, ?_⟩
      rw [List.length_cons]
      unfold ft
      rw [rd]
      dsimp only
      rw [gt, cn, tr]
      exact e2
theorem CT {l1 l2 : List Int} {x : Int} (h : x ∉ l1) : (l1 ++ x :: l2).findIdx? (· == x) = some l1.length := by
  induction l1 with
  | nil => simp [List.findIdx?_cons]
  | cons a l ih =>
    have na : ¬ a = x := fun z => h (by simp [z])
    rw [List.cons_append, List.findIdx?_cons, ih fun z => h (List.mem_cons_of_mem _ z)]
    simp [na]
theorem ne_nil {H : Hh} {p : Nat} {ds : List D} (e : aA H p = some ds) : dNe (.ref p) (.frl []) H = .ok (.bl (!decide (ds.length = 0))) H := by
  have v : vw (.ref p) H = .ls ds := by
    show (match aA H p with | some ds => Vw.ls ds | none => Vw.no) = _
    rw [e]
  have q : eqD eqN H (.ref p) (.frl []) = some (decide (ds.length = 0)) := by
    show eqD (11 + 1) H (.ref p) (.frl []) = _
    unfold eqD
    rw [v]
    cases ds <;> rfl
  simp only [dNe, q]
theorem sW {n q : Nat} {h : Hh} {T : Int} (hq : q < h.length) (h1 : 1 <= n) (hn : n <= 20) : ∀ (j f : Nat) (xs : List Int) (t : Int) (kvs : List (Key × D)) (y5 y6 y7 : Option D), j < f -> xs.length + j = n -> Beg n xs -> (xs.length ≠ 0 -> fok odd xs = true) -> 0 <= t -> t < jcV n odd xs -> KJ (PJ n) kvs →
    ∃ kvs' t' z5 z6 z7, KJ (PJ n) kvs' /\ gA LAC LAW f [some (.int n), some (.int t), some (.ref q), some (.tup (xs.map D.int)), some (.ref h.length), y5, y6, y7] (hA h q (aq n xs) kvs) = .ok (.nx [some (.int n), some (.int t'), some (.ref q), some (.tup ((grd n (jcV n odd) j xs t).1.map D.int)), some (.ref h.length), z5, z6, z7]) (hA h q [] kvs')
  | 0, f, xs, t, kvs, y5, y6, y7, hjf, hl, b, hf, t0, t1, r => by
    obtain ⟨f, rfl⟩ : ∃ f', f = f' + 1 := ⟨f - 1, by omega⟩
    have le : aq n xs = [] := List.eq_nil_of_length_eq_zero (by rw [cI b]; omega)
    rw [le]
    refine ⟨kvs, t, y5, y6, y7, r, ?_⟩
    have ls := qc (ls := []) (kvs := kvs) hq
    have e := ne_nil ls
    have c : LAC [some (.int n), some (.int t), some (.ref q), some (.tup (xs.map D.int)), some (.ref h.length), y5, y6, y7] (hA h q [] kvs) = .ok false (hA h q [] kvs) := by
      simp [LAC, e]
    unfold gA
    rw [c]
    rfl
  | j + 1, f, xs, t, kvs, y5, y6, y7, hjf, hl, b, hf, t0, t1, r => by
    obtain ⟨f, rfl⟩ : ∃ f', f = f' + 1 := ⟨f - 1, by omega⟩
    have C := iD odd h1
    have ll := cI b
    have sl := C.sum xs b (by omega)
    have t1' : t < gz (jcV n odd) xs (aq n xs) := by
      show t < ((aq n xs).map fun x => jcV n odd (xs ++ [x])).sum
      omega
    obtain ⟨x, t', l1, l2, p1, p2, p3, p4, p5⟩ := jX t0 t1'
    have xin : x ∈ aq n xs := by rw [p1]; simp
    have b2 := b.snoc xin
    have pn := qC (B := jcV n odd) (xs := xs) t0 (C.left b)
    rw [p2] at pn
    have f2 : fok odd (xs ++ [x]) = true := by
      by_cases c : fok odd (xs ++ [x]) = true
      · exact c
      · have : jcV n odd (xs ++ [x]) = 0 := by unfold jcV; rw [if_neg (by simp), if_neg c]
        omega
    obtain ⟨k1, z5, z7, r1, e1⟩ := B3 hq h1 hn b hf (aq n xs) 0 t x t' kvs y5 y6 y7 rfl t0 r p2
    obtain ⟨k2, u, v5, v6, v7, r2, e2⟩ := sW (T := T) hq h1 hn j f (xs ++ [x]) t' k1 z5 (some (.int x)) z7 (by omega) (by simp; omega) b2 (fun _ => f2) p4 p5 r1
    refine ⟨k2, u, v5, v6, v7, r2, ?_⟩
    have ls := qc (ls := aq n xs) (kvs := kvs) hq
    have ls1 := qc (ls := aq n xs) (kvs := k1) hq
    have ne := ne_nil ls
    have c : LAC [some (.int n), some (.int t), some (.ref q), some (.tup (xs.map D.int)), some (.ref h.length), y5, y6, y7] (hA h q (aq n xs) kvs) = .ok true (hA h q (aq n xs) kvs) := by
      have : ¬ aq n xs = [] := fun z => by rw [z] at ll; simp at ll; omega
      simp [LAC, ne, this]
    have nx : x ∉ l1 := by
      have so := jR n xs
      rw [p1, List.pairwise_append] at so
      intro z
      have := so.2.2 x z x List.mem_cons_self
      omega
    have le : aq n (xs ++ [x]) = l1 ++ l2 := by
      rw [pI, p1, List.filter_append, List.filter_cons]
      have so := jR n xs
      rw [p1, List.pairwise_append, List.pairwise_cons] at so
      rw [List.filter_eq_self.mpr (fun y hy => by have := so.2.2 y hy x List.mem_cons_self; simp; omega), List.filter_eq_self.mpr (fun y hy => by have := so.2.1.1 y hy; simp; omega)]
      simp
    have rm : gQ (.ref h.length) [.int x] (hA h q (aq n xs) k1) = .ok .non (hA h q (aq n (xs ++ [x])) k1) := by
      have fi := CT (l2 := l2) nx
      rw [<- p1] at fi
      have e : gQ (.ref h.length) [.int x] (hA h q (aq n xs) k1) = if (aq n xs).length < 1000000 then .ok .non ((hA h q (aq n xs) k1).set h.length (.lst (((aq n xs).map D.int).take l1.length ++ ((aq n xs).map D.int).drop (l1.length + 1)))) else .bad := by
        delta gQ
        dsimp only
        rw [ls1]
        dsimp only
        rw [gC]
        dsimp only
        rw [fi]
      rw [e, if_pos (by rw [ll]; omega), le]
      congr 1
      have e3 : ((aq n xs).map D.int).take l1.length ++ ((aq n xs).map D.int).drop (l1.length + 1) = (l1 ++ l2).map D.int := by
        have d1 : (l1 ++ x :: l2).drop (l1.length + 1) = l2 := by
          rw [show l1 ++ x :: l2 = (l1 ++ [x]) ++ l2 by simp]; exact List.drop_left' (by simp)
        rw [<- List.map_take, <- List.map_drop, <- List.map_append, p1, d1, List.take_left' rfl]
      rw [e3]
      unfold hA
      rw [j0 hq, j0 hq]
      have : (h.set q (.dic k1)).length = h.length := List.length_set
      rw [<- this, qV]
    have il := zc ls1
    have en : sO (.ref h.length) (hA h q (aq n xs) kvs) = .ok (.liveE h.length) (hA h q (aq n xs) kvs) := by
      show (match aA (hA h q (aq n xs) kvs) h.length with | some _ => _ | none => _) = _
      rw [ls]
    have sk : Bz (gT2 5 6) LAB [some (.int n), some (.int t), some (.ref q), some (.tup (xs.map D.int)), some (.ref h.length), y5, y6, y7] (.liveE h.length) (hA h q (aq n xs) kvs) = .ok (.nx [some (.int n), some (.int t'), some (.ref q), some (.tup (xs.map D.int)), some (.ref h.length), z5, some (.int x), z7]) (hA h q (aq n xs) k1) := by
      show ft (Src.liveE h.length).rdr (gT2 5 6) LAB ((aA (hA h q (aq n xs) kvs) h.length).getD []).length 0 _ _ = _
      rw [ls]
      show ft _ _ _ ((aq n xs).map D.int).length 0 _ _ = _
      rw [List.length_map]
      exact e1
    have z : (xs.map D.int).length + 1 <= 1000000 := by rw [List.length_map]; omega
    have ex : (xs ++ [x]).map D.int = xs.map D.int ++ [.int x] := by simp
    have w : LAW [some (.int n), some (.int t), some (.ref q), some (.tup (xs.map D.int)), some (.ref h.length), y5, y6, y7] (hA h q (aq n xs) kvs) = .ok (.nx [some (.int n), some (.int t'), some (.ref q), some (.tup ((xs ++ [x]).map D.int)), some (.ref h.length), z5, some (.int x), z7]) (hA h q (aq n (xs ++ [x])) k1) := by
      rw [ex]
      generalize hA h q (aq n xs) kvs = H0 at *
      generalize hA h q (aq n xs) k1 = H1 at *
      generalize hA h q (aq n (xs ++ [x])) k1 = H2 at *
      generalize xs.map D.int = X at *
      simp [LAW, en, sk, z, il, rm]
    have gr : grd n (jcV n odd) (j + 1) xs t = grd n (jcV n odd) j (xs ++ [x]) t' := by
      show (match eS (jcV n odd) xs (nxB n (jcV n odd) xs) t with | some (x, t') => grd n (jcV n odd) j (xs ++ [x]) t' | none => (xs, t)) = _
      rw [show nxB n (jcV n odd) xs = (aq n xs).filter (fun x => decide (0 < jcV n odd (xs ++ [x]))) from rfl, pn]
    rw [gr]
    unfold gA
    rw [c, cn, if_pos rfl, w, cn]
    exact e2
theorem DU {n q : Nat} {h : Hh} {t : Int} {kvs : List (Key × D)} (hq : q < h.length) (h1 : 1 <= n) (hn : n <= 20) (t0 : 0 <= t) (t1 : t < jcV n odd []) (r : KJ (PJ n) kvs) (w : Wf h) :
    ∃ kvs', KJ (PJ n) kvs' /\ e8 [.int n, .int t, .ref q] (h.set q (.dic kvs)) = .ok (.tup ((grd n (jcV n odd) n [] t).1.map D.int)) (h.set q (.dic kvs')) := by
  have L0 : (h.set q (.dic kvs)).length = h.length := List.length_set
  obtain ⟨k1, u, z5, z6, z7, r1, e1⟩ := sW (T := 0) hq h1 hn n 64 [] t kvs none none none (by omega) (by simp) (Beg.nil n) (fun z => absurd rfl z) t0 t1 r
  refine ⟨k1, r1, ?_⟩
  have L1 : (h.set q (.dic k1)).length = h.length := List.length_set
  have w1 : Wf (h.set q (.dic k1)) := by
    unfold Wf at w ⊢
    rw [List.length_set, List.all_eq_true] at *
    intro x hx
    rcases List.mem_or_eq_of_mem_set hx with hx | hx
    · exact w x hx
    · subst hx; exact r1.low
  have ex : cR (h.set q (.dic kvs)) (.tup ((grd n (jcV n odd) n [] t).1.map D.int)) (hA h q [] k1) = .ok (.tup ((grd n (jcV n odd) n [] t).1.map D.int)) (h.set q (.dic k1)) := by
    have e := jn (h := h.set q (.dic k1)) (t := [.lst []]) (d := .tup ((grd n (jcV n odd) n [] t).1.map D.int)) w1 (by simp)
    unfold cR at e ⊢
    rw [L1] at e
    rw [L0]
    unfold hA
    rw [j0 hq]
    exact e
  rw [zo] at e1
  have hi : h.set q (.dic kvs) ++ [O.lst ((dy 0 n).map D.int)] = hA h q (dy 0 n) kvs := by unfold hA; rw [j0 hq]
  have eq : e8 = fun ds h => ((cw 8 (aE (a9 3 (ah gi ak)) (aE (a9 4 (ah (fZ lZ) (aa (af 0) ak))) (aE (qJ 64 LAC LAW) (bu (af 3)))))) ds h).bind (cR h) := rfl
  have z2 : (n : Int).natAbs <= 1000000 := by omega
  have z3 : n <= 1000000 := by omega
  rw [List.map_nil] at e1
  rw [eq]
  generalize (grd n (jcV n odd) n [] t).1.map D.int = X at *
  generalize hA h q (dy 0 n) kvs = H0 at *
  generalize hA h q [] k1 = H1 at *
  simp [bG, z2, z3, lZ, L0, qB, hi, e1, ex]
noncomputable def B0 : MS := (aE (a9 8 (ah bF (aa (af 4) (aa (af 7) ak)))) (cp (nZ (ay asB (ar dNe (ah dP (aa (af 8) ak)) (ah dP (aa (ah e8 (aa (af 4) (aa (af 7) (aa (af 5) ak)))) ak)))) (ay asB (ar dNe (ah dP (aa (ah aZ (aa (af 8) ak)) ak)) (ah dP (aa (af 7) ak))))) (bu (cC (.bl false))) bf))
noncomputable def B1 : MS := (aE (a9 3 (ah b0 (aa (af 2) ak))) (aE (a9 4 (ar (cQ aN) (cC (.int 1)) (ah aS (aa (af 3) (aa (cC (.int 20)) ak))))) (aE (a9 5 oX) (aE (a9 6 (ah iZ (aa (bA aN (cS dz (aa (af 4) ak)) [4, 5] tt1 (ah (aR 22) (aa (af 1) (aa (ar bV (af 1) (cC (.int 1))) (aa (af 0) (aa (af 2) ak)))))) ak))) (aE (cp (ay asB (ar dNe (ah dP (aa (ah a8 (aa (af 4) ak)) ak)) (ah dP (aa (af 6) ak)))) (bu (cC (.bl false))) bf) (aE (dO (cU (ah gi (aa (cC (.int 0)) (aa (ar bV (af 6) (cC (.int 1))) (aa (ah aS (aa (af 3) (aa (af 6) ak))) ak))))) (gN 7) B0) (cp (ay asB (ar dEq (af 1) (cC (.int 0)))) (aE (a9 4 (ar (cQ aN) (cC (.int 1)) (ah aS (aa (af 3) (aa (cC (.int 7)) ak))))) (aE (a9 9 (ah gb (aa (bA aN (cS dz (aa (ar bV (af 4) (cC (.int 1))) ak)) [] (ay asB (ar dEq (ar i3 (af 0) (cC (.int 2))) (cC (.int 1)))) (af 0)) ak))) (aE (a9 10 (bA aN (cU (ah di (aa (af 4) ak))) [9] (ay asB (ar dEq (ah bY (aa (af 0) ak)) (af 1))) (af 0))) (aE (cp (nZ (ay asB (ar dNe (bA aN (cS dz (aa (ah bT (aa (af 10) ak)) ak)) [4] tt1 (ah bF (aa (af 1) (aa (af 0) ak)))) (af 10))) (ay asB (ar dNe (ah a8 (aa (af 4) ak)) (ah bT (aa (af 10) ak))))) (bu (cC (.bl false))) bf) (cp (ay asB (ar dNe (bA aN (cU (af 10)) [] tt1 (ah aZ (aa (af 0) ak))) (ah (fZ aN) (aa (ah bT (aa (af 10) ak)) ak)))) (bu (cC (.bl false))) bf))))) bf)))))))
theorem yA : m3 = fun ds h => ((cw 11 (aE (dO (kq (ar (cQ aN) (ah (ij aN) (aa (ah bI (aa (af 0) (aa (cC (.int 0)) ak))) ak)) (dD aN (af 0) (eR (cC (.int 1))) (eR (cC (.int 4)))))) (gT2 1 2) B1) (bu (cC (.bl true))))) ds h).bind (cR h) := rfl
noncomputable def xT : Prop := ∀ (ns : List Int) (i : Nat) (c : Int) (y3 y4 y5 y6 y7 y8 y9 y10 : Option D) (h : Hh), Wf h -> Ok (B1 [some (.scr (ns.map D.int)), some (.int i), some (.int c), y3, y4, y5, y6, y7, y8, y9, y10] h) fun fl h2 => ∃ z3 z4 z5 z6 z7 z8 z9 z10, fl = .nx [some (.scr (ns.map D.int)), some (.int i), some (.int c), z3, z4, z5, z6, z7, z8, z9, z10] /\ Wf h2
theorem CS (step : xT) (ns : List Int) (hl : ns.length <= 63) : ∃ h, m3 [.scr (ns.map D.int)] [] = .ok (.bl true) h := by
  have key : Ok (eP (gT2 1 2) B1 (gu (((ns.headD 0) :: ky ns (some 1) (some 4)).map D.int)) [some (.scr (ns.map D.int)), none, none, none, none, none, none, none, none, none, none] []) fun fl h2 => (∃ e, fl = .nx e) /\ Wf h2 := by
    rw [wY]
    refine qY (fun (i : Nat) => D.tup [.int i, .int (gI ((ns.headD 0) :: ky ns (some 1) (some 4)) i)]) (fun e h => (∃ y1 y2 y3 y4 y5 y6 y7 y8 y9 y10, e = [some (.scr (ns.map D.int)), y1, y2, y3, y4, y5, y6, y7, y8, y9, y10]) /\ Wf h) _ _ _ ⟨⟨_, _, _, _, _, _, _, _, _, _, rfl⟩, Wf.nil⟩ (fun x e h _ ⟨⟨y1, y2, y3, y4, y5, y6, y7, y8, y9, y10, e1⟩, w⟩ => ?_) (fun e h ⟨_, w⟩ => ⟨⟨_, rfl⟩, w⟩)
    subst e1
    simp only [E3, cn, List.set]
    refine (step ns x _ y3 y4 y5 y6 y7 y8 y9 y10 h w).mono fun fl h2 ⟨z3, z4, z5, z6, z7, z8, z9, z10, e2, w2⟩ => ?_
    subst e2
    exact ⟨⟨_, _, _, _, _, _, _, _, _, _, rfl⟩, w2⟩
  obtain ⟨fl, h2, e, ⟨e', rfl⟩, w⟩ := key
  have cl := Ba ns (some 1) (some 4)
  have c1 : 1 + (ky ns (some 1) (some 4)).length <= 1000000 := by omega
  have ex : cR [] (.bl true) h2 = .ok (.bl true) [] := by
    have := jn (h := []) (t := h2) (d := .bl true) Wf.nil rfl
    simpa using this
  refine ⟨[], ?_⟩
  have e2 : eP (gT2 1 2) B1 (gu (D.int (ns.headD 0) :: (ky ns (some 1) (some 4)).map D.int)) [some (.scr (ns.map D.int)), none, none, none, none, none, none, none, none, none, none] [] = .ok (.nx e') h2 := e
  rw [yA]
  simp [bG, vS, c1, e2, ex, -List.headD_eq_head?_getD]
theorem Ai {h : Hh} {n : Nat} {o : O} (w : Wf h) (l : nY h.length o = true) : Wf (h.set n o) := by
  unfold Wf at w ⊢
  rw [List.length_set, List.all_eq_true] at *
  intro x hx
  rcases List.mem_or_eq_of_mem_set hx with hx | hx
  · exact w x hx
  · subst hx; exact l
theorem vF {n : Nat} {h : Hh} {p : Pen} {kvs : List (Key × D)} (w : Wf h) (r : KJ (PJ n) kvs) : Wf (h ++ [.lst (fC p), .dic kvs]) := by
  have := (Cf w p).app (o := .dic kvs) r.low
  simpa using this
theorem iM {h : Hh} {p : Pen} {k1 k2 : List (Key × D)} : (h ++ [O.lst (fC p), .dic k1]).set (h.length + 1) (.dic k2) = h ++ [.lst (fC p), .dic k2] := xI
theorem um {n : Nat} (h1 : 1 <= n) (hn : n <= 20) : 0 < jcV n odd [] := by
  obtain ⟨k, rfl⟩ : ∃ k, n = k + 1 := ⟨n - 1, by omega⟩
  rw [<- zk (by omega)]
  have : ∀ k, k < 20 -> 0 < (zrL k).sum := by decide +kernel
  exact this k (by omega)
theorem pG {q n : Nat} {h : Hh} (hq : q < h.length) (h1 : 1 <= n) (hn : n <= 20) : ∀ (L : List Nat) (kvs : List (Key × D)), (∀ r ∈ L, r < n) -> KJ (PJ n) kvs -> ∃ kvs', KJ (PJ n) kvs' /\ b8 tt1 (ah (aR 22) (aa (af 1) (aa (ar bV (af 1) (cC (.int 1))) (aa (af 0) (aa (af 2) ak))))) (fun x => [some x, some (.int (n : Int)), some (.ref q)]) (L.map fun (r : Nat) => D.int r) (h.set q (.dic kvs)) = .ok ((L.map fun (r : Nat) => Jr n odd (n - 1) r).map D.int) (h.set q (.dic kvs'))
  | [], kvs, _, r => ⟨kvs, r, rfl⟩
  | w :: L, kvs, hl, r => by
    have hw := hl w List.mem_cons_self
    obtain ⟨k1, r1, e1⟩ := yG hq hn 22 (n - 1) w kvs r (by omega) (by omega) (by omega) (by omega)
    obtain ⟨k2, r2, e2⟩ := pG hq h1 hn L k1 (fun x hx => hl x (List.mem_cons_of_mem _ hx)) r1
    refine ⟨k2, r2, ?_⟩
    have nn : (n : Int) - 1 = ((n - 1 : Nat) : Int) := by omega
    rw [List.map_cons, b8, EX, cn, if_pos rfl]
    have t : (ah (aR 22) (aa (af 1) (aa (ar bV (af 1) (cC (.int 1))) (aa (af 0) (aa (af 2) ak))))) [some (.int (w : Int)), some (.int (n : Int)), some (.ref q)] (h.set q (.dic kvs)) = .ok (.int (Jr n odd (n - 1) w)) (h.set q (.dic k1)) := by
      simp [nn, e1]
    rw [t, cn, e2, cn]
    rfl
theorem Di {n : Nat} {os : List Int} (o : Ord n os) (hn : n <= 20) : ∀ x ∈ os, sml x = true := fun x hx => by
  have := o.lo x hx; have := o.hi x hx; exact vi (by omega) (by omega)
theorem yN {q n : Nat} {t : Int} {h : Hh} {kvs : List (Key × D)} {d0 d1 d2 d3 d6 d8 d9 d10 : Option D} (hq : q < h.length) (r : KJ (PJ n) kvs) (h1 : 1 <= n) (hn : n <= 20) (t0 : 0 <= t) (t1 : t < jcV n odd []) (w : Wf h) :
    ∃ kvs' z8, KJ (PJ n) kvs' /\ B0 [d0, d1, d2, d3, some (.int n), some (.ref q), d6, some (.int t), d8, d9, d10] (h.set q (.dic kvs)) = .ok (.nx [d0, d1, d2, d3, some (.int n), some (.ref q), d6, some (.int t), z8, d9, d10]) (h.set q (.dic kvs')) := by
  obtain ⟨xs, ex, ox, fx, rx⟩ := u_ h1 t0 t1
  have za := BW (h := h.set q (.dic kvs)) h1 hn t0 t1
  obtain ⟨k1, g1, la⟩ := DU hq h1 hn t0 t1 r w
  rw [ex] at za la
  have w2 : Wf (h.set q (.dic k1)) := Ai w g1.low
  have zn := zh h1 hn ox fx w2
  rw [rx] at zn
  have rp := fun H : Hh => zU (h := H) (Di ox hn) (by rw [ox.len]; omega)
  have jl := xS (n := n) (fl := odd) (xs := []) h1 hn
  have sm : sml t = true := gw (by omega) (by omega)
  have ri := fun H : Hh => u6 (i := t) (h := H)
  refine ⟨k1, some (.tup (xs.map D.int)), g1, ?_⟩
  generalize h.set q (.dic kvs) = H0 at *
  generalize h.set q (.dic k1) = H1 at *
  generalize shT xs = S1 at *
  generalize xs.map D.int = X at *
  simp [B0, za, la, rp, zn, ri, sm]
theorem zb {xs : List Int} {h : Hh} (hl : xs.length <= 1000) (h1 : 1 <= xs.length) : bY [.tup (xs.map D.int)] h = .ok (.tup ((cz xs).map D.int)) h := by
  have z1 : ((xs.length : Int) - 1).natAbs <= 1000000 := by omega
  have z2 : ((xs.length : Int) - 1).toNat = xs.length - 1 := by omega
  have z3 : xs.length - 1 <= 1000000 := by omega
  have q := oT (xs := xs) (h := h) (d := .tup (xs.map D.int)) (fun i => BG)
  simp [bY, bG, z1, z2, z3, q]
noncomputable def SS (n : Nat) : List (List Int) := (allI n n).filter fun x => decide (cz x = aW n odd)
theorem BF {n : Nat} (h1 : 1 <= n) : ∀ xs, Beg n xs -> xs.length = n -> jcV n odd xs = 0 \/ jcV n odd xs = 1 := fun xs _ l => by
  rw [qb h1 l]; split
  · exact .inr rfl
  · exact .inl rfl
theorem yc {n : Nat} (h1 : 1 <= n) (hn : n <= 20) : SS n = fll n (jcV n odd) n := by
  obtain ⟨a1, a2⟩ := qy (iD odd h1) n (Nat.le_refl _)
  rw [<- a2 (um h1 hn)]
  refine List.filter_congr fun x hx => ?_
  obtain ⟨l, b⟩ := a1 x hx
  rw [qb h1 l]
  have f := sv (fl := odd) l h1
  by_cases c : fok odd x = true
  · rw [if_pos c, decide_eq_true (f.mp c)]; rfl
  · rw [if_neg c, decide_eq_false fun z => c (f.mpr z)]; rfl
theorem xw {n : Nat} (h1 : 1 <= n) (hn : n <= 20) : ((SS n).length : Int) = jcV n odd [] := by
  rw [yc h1 hn]; exact Av (iD odd h1) (BF h1) (um h1 hn)
theorem BX {n t : Nat} (h1 : 1 <= n) (hn : n <= 20) (ht : t < (SS n).length) : (SS n)[t] = (grd n (jcV n odd) n [] t).1 := by
  have l := xw h1 hn
  have e := Ce (iD odd h1) (BF h1) (t := t) (by omega)
  have e2 : (SS n)[t]? = some (grd n (jcV n odd) n [] t).1 := by rw [yc h1 hn]; exact e
  rw [List.getElem?_eq_getElem ht] at e2
  exact Option.some.inj e2
theorem uX (k : Nat) (h : Hh) : ∀ L : List (List Int), eqL (eqD (k + 2) h) (L.map tpI) (L.map tpI) = some true
  | [] => rfl
  | x :: L => by
    have e : eqD (k + 2) h (tpI x) (tpI x) = some true := by
      show eqL (eqD (k + 1) h) (x.map D.int) (x.map D.int) = some true
      rw [gp]; simp
    rw [List.map_cons]
    unfold eqL
    rw [e, uX k h L]
    rfl
theorem Ck {h : Hh} {L : List (List Int)} : dNe (.frl (L.map tpI)) (.frl (L.map tpI)) h = .ok (.bl false) h := by
  have e : eqD eqN h (.frl (L.map tpI)) (.frl (L.map tpI)) = some true := by
    show (if (L.map tpI).length = (L.map tpI).length then eqL (eqD (9 + 2) h) (L.map tpI) (L.map tpI) else some false) = some true
    rw [if_pos rfl, uX]
  simp only [dNe, e]; rfl
theorem Ak {h : Hh} {L : List Int} : dNe (.frl (L.map D.int)) (.frl (L.map D.int)) h = .ok (.bl false) h := by
  have e : eqD eqN h (.frl (L.map D.int)) (.frl (L.map D.int)) = some true := by
    show (if (L.map D.int).length = (L.map D.int).length then eqL (eqD (10 + 1) h) (L.map D.int) (L.map D.int) else some false) = some true
    rw [if_pos rfl, gp]; simp
  simp only [dNe, e]; rfl
noncomputable def SMP : MS := (aE (a9 4 (ar (cQ aN) (cC (.int 1)) (ah aS (aa (af 3) (aa (cC (.int 7)) ak))))) (aE (a9 9 (ah gb (aa (bA aN (cS dz (aa (ar bV (af 4) (cC (.int 1))) ak)) [] (ay asB (ar dEq (ar i3 (af 0) (cC (.int 2))) (cC (.int 1)))) (af 0)) ak))) (aE (a9 10 (bA aN (cU (ah di (aa (af 4) ak))) [9] (ay asB (ar dEq (ah bY (aa (af 0) ak)) (af 1))) (af 0))) (aE (cp (nZ (ay asB (ar dNe (bA aN (cS dz (aa (ah bT (aa (af 10) ak)) ak)) [4] tt1 (ah bF (aa (af 1) (aa (af 0) ak)))) (af 10))) (ay asB (ar dNe (ah a8 (aa (af 4) ak)) (ah bT (aa (af 10) ak))))) (bu (cC (.bl false))) bf) (cp (ay asB (ar dNe (bA aN (cU (af 10)) [] tt1 (ah aZ (aa (af 0) ak))) (ah (fZ aN) (aa (ah bT (aa (af 10) ak)) ak)))) (bu (cC (.bl false))) bf)))))
theorem Cv {d0 d1 d2 d4 d5 d6 d7 d8 d9 d10 : Option D} {p : Pen} {h t : Hh} (w : ∀ p, Wf (h ++ .lst (fC p) :: t)) : ∃ z4 z9 z10 p', SMP [d0, d1, d2, some (.ref h.length), d4, d5, d6, d7, d8, d9, d10] (h ++ .lst (fC p) :: t) = .ok (.nx [d0, d1, d2, some (.ref h.length), z4, d5, d6, d7, d8, z9, z10]) (h ++ .lst (fC p') :: t) := by
  obtain ⟨b, eb, hb⟩ := xu p 7 (by decide)
  have d7' := qu (p := p) (h := h) (t := t) (m := 7) (by decide)
  rw [eb] at d7'
  generalize lE p 7 = p1 at d7'
  obtain ⟨n, hn⟩ : ∃ n : Nat, 1 + (b : Int) = n := ⟨1 + b, by omega⟩
  have h1 : 1 <= n := by omega
  have h2 : n <= 7 := by omega
  have wf := w p1
  generalize hH : h ++ O.lst (fC p1) :: t = H at *
  have q1 : b8 (ay asB (ar dEq (ar i3 (af 0) (cC (.int 2))) (cC (.int 1)))) (af 0) (fun x => [some x]) (bE 0 (n - 1)) H = .ok ((aW n odd).map D.int) H := by
    rw [nh (fun i => odd i) (fun i => D.int i)]
    · simp [aW, List.map_map]
    · intro i hi
      have e : ((i : Int) % 2 == 1) = odd i := by
        unfold odd; rw [Bool.eq_iff_iff]; simp; omega
      simp [e]
  have al := EY h1 h2 H
  obtain ⟨a1, _⟩ := qy (iD odd h1) n (Nat.le_refl _)
  have q2 : b8 (ay asB (ar dEq (ah bY (aa (af 0) ak)) (af 1))) (af 0) (fun x => [some x, some (.tup ((aW n odd).map D.int))]) ((allI n n).map tpI) H = .ok ((SS n).map tpI) H := by
    rw [comp_map tpI (fun x => decide (cz x = aW n odd)) tpI (allI n n) fun x hx => ⟨by
      obtain ⟨l, _⟩ := a1 x hx
      have f := zb (xs := x) (h := H) (by omega) (by omega)
      have eq := u3 (h := H) (xs := cz x) (ys := aW n odd)
      simp [tpI, f, eq], fun _ => by simp⟩]
    rfl
  have sl := xw h1 (by omega)
  have jl := xS (n := n) (fl := odd) (xs := []) h1 (by omega)
  have slen : (SS n).length <= 900000 := Nat.le_trans (List.length_filter_le _ _) (Nat.le_trans (l9 n n) (kS h2 h2))
  have q3 : b8 tt1 (ah bF (aa (af 1) (aa (af 0) ak))) (fun x => [some x, some (.int n)]) (bE 0 (SS n).length) H = .ok ((SS n).map tpI) H := by
    rw [pF (fun t => tpI (grd n (jcV n odd) n [] t).1) (fun t ht => by
      have e := BW (n := n) (t := (t : Int)) (h := H) h1 (by omega) (by omega) (by omega)
      simp [e, tpI])]
    congr 1
    refine List.ext_getElem (by simp) fun i h3 h4 => ?_
    rw [List.length_map] at h4
    simp only [List.getElem_map, List.getElem_range]
    rw [BX h1 (by omega) h4]
  have q4 : b8 tt1 (ah aZ (aa (af 0) ak)) (fun x => [some x]) ((SS n).map tpI) H = .ok ((dy 0 (SS n).length).map D.int) H := by
    rw [sN tpI (fun x => D.int (rkL n (jcV n odd) [] x)) (SS n) (fun x hx => by
      obtain ⟨hx1, hx2⟩ := List.mem_filter.mp hx
      obtain ⟨l, b⟩ := a1 x hx1
      have e := zh (h := H) h1 (by omega) ⟨l, b.nd, b.lo, b.hi⟩ (by simpa using hx2) wf
      simp [tpI, e])]
    congr 1
    refine List.ext_getElem (by simp [dy]) fun i h3 h4 => ?_
    rw [List.length_map] at h3
    simp only [List.getElem_map, dy, List.getElem_range]
    rw [BX h1 (by omega) h3]
    obtain ⟨xs, e1, _, _, e4⟩ := u_ (n := n) (fl := odd) (t := (i : Int)) h1 (by omega) (by omega)
    rw [e1, e4]; simp
  have zm := pJ h1 (by omega) H
  rw [<- sl] at zm
  have nt := Ck (h := H) (L := SS n)
  have ni := Ak (h := H) (L := dy 0 (SS n).length)
  have z1 : ((n : Int) - 1).natAbs <= 1000000 := by omega
  have z2 : ((n : Int) - 1).toNat = n - 1 := by omega
  have z3 : n - 1 <= 1000000 := by omega
  have l1 : ((allI n n).map tpI).length <= 1000000 := by
    rw [List.length_map]; exact Nat.le_trans (l9 n n) (Nat.le_trans (kS h2 h2) (by decide))
  have l2 : ((SS n).map tpI).length = (SS n).length := by simp
  have z4 : (SS n).length <= 1000000 := by omega
  have z5 : (((SS n).length : Nat) : Int).natAbs <= 1000000 := by omega
  have ls : ((aW n odd).map D.int).length <= 1000000 := by
    rw [List.length_map, aW, List.length_map]
    have := List.length_filter_le odd (List.range (n - 1))
    simp at this; omega
  refine ⟨some (.int n), some (.tup ((aW n odd).map D.int)), some (.frl ((SS n).map tpI)), p1, ?_⟩
  have ii := qB 0 (SS n).length
  have rl : ((dy 0 (SS n).length).map D.int).length <= 1000000 := by rw [List.length_map, kc]; omega
  generalize (dy 0 (SS n).length).map D.int = R1 at *
  generalize (aW n odd).map D.int = S1 at *
  generalize (allI n n).map tpI = A1 at *
  generalize hS : (SS n).map tpI = S2 at *
  generalize (SS n).length = SN at *
  rw [ii] at q3
  simp [SMP, d7', hn, z1, z2, z3, q1, ls, al, l1, q2, l2, z4, z5, ii, q3, nt, zm, q4, ni, rl, hH]
theorem Ef : B1 = (aE (a9 3 (ah b0 (aa (af 2) ak))) (aE (a9 4 (ar (cQ aN) (cC (.int 1)) (ah aS (aa (af 3) (aa (cC (.int 20)) ak))))) (aE (a9 5 oX) (aE (a9 6 (ah iZ (aa (bA aN (cS dz (aa (af 4) ak)) [4, 5] tt1 (ah (aR 22) (aa (af 1) (aa (ar bV (af 1) (cC (.int 1))) (aa (af 0) (aa (af 2) ak)))))) ak))) (aE (cp (ay asB (ar dNe (ah dP (aa (ah a8 (aa (af 4) ak)) ak)) (ah dP (aa (af 6) ak)))) (bu (cC (.bl false))) bf) (aE (dO (cU (ah gi (aa (cC (.int 0)) (aa (ar bV (af 6) (cC (.int 1))) (aa (ah aS (aa (af 3) (aa (af 6) ak))) ak))))) (gN 7) B0) (cp (ay asB (ar dEq (af 1) (cC (.int 0)))) SMP bf))))))) := rfl
theorem Bc : xT := by
  intro ns i c y3 y4 y5 y6 y7 y8 y9 y10 h w
  obtain ⟨b, eb, hb⟩ := xu (sD c) 20 (by decide)
  have d20 := qu (p := sD c) (h := h) (t := []) (m := 20) (by decide)
  rw [eb] at d20
  generalize lE (sD c) 20 = p1 at d20
  obtain ⟨n, hn⟩ : ∃ n : Nat, 1 + (b : Int) = n := ⟨1 + b, by omega⟩
  have h1 : 1 <= n := by omega
  have h2 : n <= 20 := by omega
  obtain ⟨k1, g1, e1⟩ := pG (q := h.length + 1) (h := h ++ [.lst (fC p1), .dic []]) (by simp) h1 h2 (List.range n) [] (fun r hr => List.mem_range.mp hr) KJ.nil
  rw [iM, iM, <- dQ] at e1
  have sm : ((List.range n).map fun (r : Nat) => Jr n odd (n - 1) r).sum = jcV n odd [] := rfl
  have zm := pJ h1 h2 (h ++ [.lst (fC p1), .dic k1])
  have bp := um h1 h2
  have bl := xS (n := n) (fl := odd) (xs := []) h1 h2
  have smv : sml (jcV n odd []) = true := gw (by omega) (by omega)
  have ri := fun H : Hh => u6 (i := jcV n odd []) (h := H)
  obtain ⟨t, et, bt⟩ := xu p1 (jcV n odd []) bp
  have dt := qu (p := p1) (h := h) (t := [.dic k1]) (m := jcV n odd []) ⟨bp, bl⟩
  rw [et] at dt
  generalize lE p1 (jcV n odd []) = p2 at dt
  have w9 := vF (p := p2) w g1
  obtain ⟨k3, z8, g3, e3⟩ := yN (n := n) (q := h.length + 1) (h := h ++ [.lst (fC p2), .dic k1]) (t := 0) (d0 := some (.scr (ns.map D.int))) (d1 := some (.int i)) (d2 := some (.int c)) (d3 := some (.ref h.length)) (d6 := some (.int (jcV n odd []))) (d8 := y8) (d9 := y9) (d10 := y10) (by simp) g1 h1 h2 (by omega) bp w9
  rw [iM, iM] at e3
  obtain ⟨k4, u8, g4, e4⟩ := yN (n := n) (q := h.length + 1) (h := h ++ [.lst (fC p2), .dic k1]) (t := jcV n odd [] - 1) (d0 := some (.scr (ns.map D.int))) (d1 := some (.int i)) (d2 := some (.int c)) (d3 := some (.ref h.length)) (d6 := some (.int (jcV n odd []))) (d8 := z8) (d9 := y9) (d10 := y10) (by simp) g3 h1 h2 (by omega) (by omega) w9
  rw [iM, iM] at e4
  obtain ⟨k5, v8, g5, e5⟩ := yN (n := n) (q := h.length + 1) (h := h ++ [.lst (fC p2), .dic k1]) (t := (t : Int)) (d0 := some (.scr (ns.map D.int))) (d1 := some (.int i)) (d2 := some (.int c)) (d3 := some (.ref h.length)) (d6 := some (.int (jcV n odd []))) (d8 := u8) (d9 := y9) (d10 := y10) (by simp) g4 h1 h2 (by omega) bt w9
  rw [iM, iM] at e5
  have z2 : (n : Int).natAbs <= 1000000 := by omega
  have z3 : n <= 1000000 := by omega
  rw [Ef]
  generalize (List.range n).map (fun (r : Nat) => Jr n odd (n - 1) r) = W at *
  generalize jcV n odd [] = V at *
  by_cases c0 : i = 0
  · subst c0
    obtain ⟨z4, z9, z10, p', bs⟩ := Cv (d0 := some (.scr (ns.map D.int))) (d1 := some (.int (0 : Nat))) (d2 := some (.int c)) (d4 := some (.int n)) (d5 := some (.ref (h.length + 1))) (d6 := some (.int V)) (d7 := some (.int t)) (d8 := v8) (d9 := y9) (d10 := y10) (p := p2) (h := h) (t := [.dic k5]) (fun p => vF w g5)
    simp only [Int.natCast_zero] at bs e3 e4 e5
    refine ⟨.nx [some (.scr (ns.map D.int)), some (.int (0 : Nat)), some (.int c), some (.ref h.length), z4, some (.ref (h.length + 1)), some (.int V), some (.int t), v8, z9, z10], h ++ [.lst (fC p'), .dic k5], ?_, ⟨_, _, _, _, _, _, _, _, rfl, vF w g5⟩⟩
    simp [d20, hn, oX, z2, z3, e1, sm, zm, ri, smv, dt, gk, j8, e3, e4, e5, bs]
  · have c0' : ¬ (i : Int) = 0 := by omega
    refine ⟨.nx [some (.scr (ns.map D.int)), some (.int i), some (.int c), some (.ref h.length), some (.int n), some (.ref (h.length + 1)), some (.int V), some (.int t), v8, y9, y10], h ++ [.lst (fC p2), .dic k5], ?_, ⟨_, _, _, _, _, _, _, _, rfl, vF w g5⟩⟩
    simp [d20, hn, oX, z2, z3, e1, sm, zm, ri, smv, dt, gk, j8, e3, e4, e5, c0, c0']
theorem CA (ns : List Int) (hl : ns.length <= 63) : ∃ h, m3 [.scr (ns.map D.int)] [] = .ok (.bl true) h := CS Bc ns hl
end FC
open PySem PySem.W PyProof.Rows
local macro_rules | `(tactic| o_head $H) => `(tactic| (refine holds_open (q := FC.Q) (loose := []) (Xt := (fun s => xlAt FC.Q [] s && recOk (RowW.records (OpenRow.toRowW (OpenLaw.row PySem.Challenge.rw_fallcounts_k74_zigzags_numbered))) s)) (XP := XL FC.Q []) (Yf := Hook.obs $H) (Ya := Hook.val $H) (YP := Hook.says $H) (N := 3602) (L2.FE.wD (by decide) (by kernel_rfl) (fun _ => by kernel_rfl) FC.E2 FC.Ey (fun w os => by kernel_rfl)) (Hook.of $H) (Hook.keeps $H) (fun s e => xl_of s (Bool.and_eq_true_iff.mp e).1) XL.keeps (by rfl) (by rfl) (by rfl) (fun s e => recFacts_of (Bool.and_eq_true_iff.mp e).2) (by rfl) (by first | assumption | decide +kernel) (by decide +kernel) ⟨rfl, rfl, rfl, rfl, rfl, by decide +kernel⟩ ?hw ?hc))
set_option maxRecDepth 100000 in
set_option maxHeartbeats 0 in
theorem PySem.Challenge.cw_fallcounts_k74_zigzags_numbered_holds : PySem.Challenge.rw_fallcounts_k74_zigzags_numbered.Holds := by
  w_on; o_law; k_head; w_witness2
  k_fill
  refine FC.walk (l := PySem.Challenge.rw_fallcounts_k74_zigzags_numbered) rfl rfl (fun w h Y => by first | exact PySem.W.kIn_of Y | exact PySem.W.km_in_of Y) (fun w h Y => PySem.W.km_tabs_of Y) (fun _ => by kernel_rfl) FC.CA ?F
  case F =>
    intro w mg fa h KX G hmg
    refine FC.all_mk KX G hmg (by kernel_rfl) ?T
    case T =>
      refine' ⟨?e_, ?gf, ?ie, ?iE, ?kI, ?js, ?iy, ?eG, ?gE, ?gR, ?fX, ?jj, ?gH, ?gT, ?fS, ?dS, ?h7, ?fu, ?iQ, ?kY, ?gD, ?ff, ?jm, ?iq, ?fv, ?eL, ?jA, ?gX, ?zp, ?t6, ?iN, ?yi, ?gS, ?xK, ?tU, ?yP, ?qR, ?uy, ?yM, ?xR, ?qZ, ?cE, ?aU⟩
      (case e_ => refine' L2.FE.bg ?a ?l ?c ?k; (case a => k_is); (case l => k_is); (case c => k_is); (case k => k_is))
      (case gf => refine' L2.FE.bg ?a ?l ?c ?k; (case a => k_is); (case l => k_is); (case c => k_is); (case k => k_is))
      (case ie => refine' L2.FE.bg ?a ?l ?c ?k; (case a => k_is); (case l => k_is); (case c => k_is); (case k => k_is))
      (case iE => refine' L2.FE.bg ?a ?l ?c ?k; (case a => k_is); (case l => k_is); (case c => k_is); (case k => k_is))
      (case kI => refine' L2.FE.bg ?a ?l ?c ?k; (case a => k_is); (case l => k_is); (case c => k_is); (case k => k_is))
      (case js => refine' L2.FE.bg ?a ?l ?c ?k; (case a => k_is); (case l => k_is); (case c => k_is); (case k => k_is))
      (case iy => refine' L2.FE.bg ?a ?l ?c ?k; (case a => k_is); (case l => k_is); (case c => k_is); (case k => k_is))
      (case eG => refine' L2.FE.bg ?a ?l ?c ?k; (case a => k_is); (case l => k_is); (case c => k_is); (case k => k_is))
      (case gE => refine' L2.FE.bg ?a ?l ?c ?k; (case a => k_is); (case l => k_is); (case c => k_is); (case k => k_is))
      (case gR => refine' L2.FE.bg ?a ?l ?c ?k; (case a => k_is); (case l => k_is); (case c => k_is); (case k => k_is))
      (case fX => refine' L2.FE.bg ?a ?l ?c ?k; (case a => k_is); (case l => k_is); (case c => k_is); (case k => k_is))
      (case jj => refine' L2.FE.bg ?a ?l ?c ?k; (case a => k_is); (case l => k_is); (case c => k_is); (case k => k_is))
      (case gH => refine' L2.FE.bg ?a ?l ?c ?k; (case a => k_is); (case l => k_is); (case c => k_is); (case k => k_is))
      (case gT => refine' L2.FE.bg ?a ?l ?c ?k; (case a => k_is); (case l => k_is); (case c => k_is); (case k => k_is))
      (case fS => refine' L2.FE.bg ?a ?l ?c ?k; (case a => k_is); (case l => k_is); (case c => k_is); (case k => k_is))
      (case dS => refine' L2.FE.bg ?a ?l ?c ?k; (case a => k_is); (case l => k_is); (case c => k_is); (case k => k_is))
      (case h7 => refine' L2.FE.bg ?a ?l ?c ?k; (case a => k_is); (case l => k_is); (case c => k_is); (case k => k_is))
      (case fu => refine' L2.FE.bg ?a ?l ?c ?k; (case a => k_is); (case l => k_is); (case c => k_is); (case k => k_is))
      (case iQ => refine' L2.FE.bg ?a ?l ?c ?k; (case a => k_is); (case l => k_is); (case c => k_is); (case k => k_is))
      (case kY => refine' L2.FE.bg ?a ?l ?c ?k; (case a => k_is); (case l => k_is); (case c => k_is); (case k => k_is))
      (case gD => refine' L2.FE.bg ?a ?l ?c ?k; (case a => k_is); (case l => k_is); (case c => k_is); (case k => k_is))
      (case ff => refine' L2.FE.bg ?a ?l ?c ?k; (case a => k_is); (case l => k_is); (case c => k_is); (case k => k_is))
      (case jm => refine' L2.FE.bg ?a ?l ?c ?k; (case a => k_is); (case l => k_is); (case c => k_is); (case k => k_is))
      (case iq => refine' L2.FE.bg ?a ?l ?c ?k; (case a => k_is); (case l => k_is); (case c => k_is); (case k => k_is))
      (case fv => refine' L2.FE.bg ?a ?l ?c ?k; (case a => k_is); (case l => k_is); (case c => k_is); (case k => k_is))
      (case eL => refine' L2.FE.bg ?a ?l ?c ?k; (case a => k_is); (case l => k_is); (case c => k_is); (case k => k_is))
      (case jA => refine' L2.FE.bg ?a ?l ?c ?k; (case a => k_is); (case l => k_is); (case c => k_is); (case k => k_is))
      (case gX => refine' L2.FE.bg ?a ?l ?c ?k; (case a => k_is); (case l => k_is); (case c => k_is); (case k => k_is))
      (case zp => refine' L2.FE.bg ?a ?l ?c ?k; (case a => k_is); (case l => k_is); (case c => k_is); (case k => k_is))
      (case t6 => k_is)
      (case iN => k_is)
      (case yi => k_is)
      (case gS => k_is)
      (case xK => k_is)
      (case tU => k_is)
      (case yP => k_is)
      (case qR => k_is)
      (case uy => k_is)
      (case yM => k_is)
      (case xR => k_is)
      (case qZ => k_is)
      (case cE => exact ⟨_, rfl⟩)
      (case aU => refine' L2.FE.Es ?a ?l ?c ?k ?h1 ?h2 ?h3; (case a => k_is); (case l => k_is); (case c => k_is); (case k => k_is); (case h1 => kernel_rfl); (case h2 => kernel_rfl); (case h3 => kernel_rfl))
