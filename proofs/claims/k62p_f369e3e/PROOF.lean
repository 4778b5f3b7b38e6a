import PyProof.Rows.All
import Wide.All
import OpenK.AllK
import Wide.FinOn
import Lean
import KE.KNestM
import PyProof.EqAt
import PyProof.EqKinds
import PyProof.TupleCall
import PyProof.EnumMake
import PyProof.Draws
import KE.KDictList
import KE.KTryMore
import KE.KEqDict
import PyProof.ExcInit
import PyProof.InstStoreFacts
import KE.KSortTup
import PySem.Challenge.RW_fallcounts_k62_laid_and_taken_up
set_option Elab.async false
set_option linter.all false
set_option maxRecDepth 100000
set_option maxHeartbeats 8000000
namespace L2.FE
open PySem PySem.W PySem.Calls
noncomputable def CN : List Obj -> BT -> Nat -> Option BT
  | [], t, _ => some t
  | o :: r, t, n => match ((t.ins n o).get n).isSome with
    | true => CN r (t.ins n o) (n + 1)
    | false => none
theorem sy {life : Life} : ∀ {r : List Obj} {t T : BT} {n : Nat} {a : Array Obj}, CN r t n = some T -> absHeap t n life = ⟨a, life⟩ -> absHeap T (n + r.length) life = ⟨a ++ r.toArray, life⟩
  | [], t, T, n, a, h, e => by cases h; simpa using e
  | o :: r, t, T, n, a, h, e => by
    unfold CN at h
    cases g : ((t.ins n o).get n).isSome with
    | false => rw [g] at h; cases h
    | true =>
      rw [g] at h
      have x : absHeap (t.ins n o) (n + 1) life = ⟨a.push o, life⟩ := by rw [absHeap_ins g, e]; rfl
      have := sy h x
      rw [List.length_cons, show n + (r.length + 1) = n + 1 + r.length by omega, this]
      simp
noncomputable def ve (p : Program) (w : World) (n₀ : Nat) (ann : Option Value) : Nat -> SharedT -> Thread -> Option SharedT
  | 0, _, _ => none
  | n + 1, s, t => match through t with
    | true => some s
    | false => match PySem.W.Fast.tw6613529449190102663 n₀ ann t with
      | false => none
      | true => match PySem.W.Fast.tw10156331382660048174 (PySem.W.Fast.tw11892475500146522536 PySem.W.Fast.tw14364793385576792824) p w s t with
        | some (s', t') => ve p w n₀ ann n s' t'
        | none => none
theorem tF {p : Program} {w : World} {n₀ : Nat} {ann : Option Value} : ∀ {n : Nat} {s r : SharedT} {t : Thread}, ve p w n₀ ann n s t = some r -> topRun treeTable p w n₀ ann n s.abs t = some r.abs
  | 0, _, _, _, h => by cases h
  | n + 1, s, r, t, h => by
    unfold ve at h
    unfold topRun
    cases ht : through t with
    | true => rw [ht] at h; cases h; rfl
    | false =>
      rw [ht, <- PySem.W.Fast.te6613529449190102663] at h
      cases hk : stepOk n₀ ann t with
      | false => simp only [hk] at h; cases h
      | true =>
        simp only [hk] at h
        rw [<- PySem.W.Fast.te10156331382660048174, <- PySem.W.Fast.te11892475500146522536, <- PySem.W.Fast.te14364793385576792824] at h
        cases hs : stepT (denote treeTable) p w s t with
        | none => rw [hs] at h; cases h
        | some x => obtain ⟨s₂, t₂⟩ := x; rw [hs] at h; rw [stepT_spec hs]; exact tF h
noncomputable def pA (p : Program) (w : World) (N : Nat) (os : OsState) : Option SharedT :=
  match (boot_heap w.params).isNs mainGlobals with
  | true => (CN (boot_heap w.params).objs.toList .nil 0).bind fun T => ve p w (boot_heap w.params).objs.size ((boot_heap w.params).nsMap mainGlobals (Str.ofString "__annotations__")) N ⟨T, (boot_heap w.params).objs.size, (boot_heap w.params).life, #[], boot_drawn, boot_toks, os⟩ (topStub p)
  | false => none
noncomputable def Ap (p : Program) (w : World) (s₁ : Shared) : Bool := staticsOk (PySem.W.Fast.tw5923862056798008813 p.main.body) (boot_heap w.params) s₁.heap && namesBound p s₁.heap && gensDone s₁ && laidKept (boot_heap w.params) s₁.heap
theorem wM {p q : Program} {loose : List Str} {Xt : Shared -> Bool} {α : Type} {Yf : Shared -> α} {Ya : World -> α} {N : Nat} (hN : Nat.ble 600 N = true) (e : opening p = plainProg p.main.scope.names) (f : ∀ s, fenceModules? p s = some s)
    (h1 : ∀ (w : World) (os : OsState), (pA p w N os).map (fun s => Ap p w s.abs) = some true)
    (h2 : ∀ (w : World) (os : OsState), (pA p w N os).map (fun s => PySem.W.Fast.tw4187177175401517315 q loose (PySem.W.Fast.tw5923862056798008813 p.main.body) Xt true s.abs) = some (openGood q loose))
    (h3 : ∀ (w : World) (os : OsState), (pA p w N os).map (fun s => Yf s.abs) = some (Ya w)) : LeftO p q loose Xt Yf Ya N := fun w => by
  obtain ⟨s, hs, e'⟩ := Option.map_eq_some_iff.mp (boot_open e hN f w)
  obtain ⟨H, gs, d, k, os⟩ := s
  obtain ⟨rfl, rfl, rfl, rfl⟩ : H = boot_heap w.params /\ gs = _ /\ d = boot_drawn /\ k = boot_toks := by simpa using e'
  obtain ⟨r, hr, l1⟩ := Option.map_eq_some_iff.mp (h1 w os)
  obtain ⟨r2, hr2, l2⟩ := Option.map_eq_some_iff.mp (h2 w os)
  obtain ⟨r3, hr3, l3⟩ := Option.map_eq_some_iff.mp (h3 w os)
  obtain rfl : r = r2 := Option.some.inj (hr.symm.trans hr2)
  obtain rfl : r = r3 := Option.some.inj (hr.symm.trans hr3)
  unfold Ap at l1
  rw [<- PySem.W.Fast.te5923862056798008813] at l1
  rw [<- PySem.W.Fast.te4187177175401517315, <- PySem.W.Fast.te5923862056798008813] at l2
  unfold pA at hr
  cases hn : (boot_heap w.params).isNs mainGlobals with
  | false => rw [hn] at hr; cases hr
  | true =>
    rw [hn] at hr
    obtain ⟨T, hT, hr⟩ := Option.bind_eq_some_iff.mp hr
    have z := sy (life := (boot_heap w.params).life) (n := 0) (a := #[]) hT rfl
    have z' : absHeap T (boot_heap w.params).objs.size (boot_heap w.params).life = boot_heap w.params := by
      rw [Nat.zero_add, Array.length_toList] at z
      rw [z]
      simp
    have hr := tF hr
    have st : (SharedT.mk T (boot_heap w.params).objs.size (boot_heap w.params).life #[] boot_drawn boot_toks os).abs = ⟨boot_heap w.params, #[], boot_drawn, boot_toks, os⟩ := by
      show Shared.mk _ _ _ _ _ = _
      rw [z']
    rw [st] at hr
    unfold openEnds
    rw [hs]
    show Option.map _ (topFrom treeTable p w N _) = _
    have t : topFrom treeTable p w N ⟨boot_heap w.params, #[], boot_drawn, boot_toks, os⟩ = some r.abs := by
      unfold topFrom
      dsimp only
      rw [hn]
      rw [hr]
      show (match staticsOk (importedModules p.main.body) (boot_heap w.params) r.abs.heap && namesBound p r.abs.heap && gensDone r.abs && laidKept (boot_heap w.params) r.abs.heap with | true => _ | false => _) = _
      rw [l1]
    rw [t]
    show some (openSeen q loose (importedModules p.main.body) Xt true r.abs, Yf r.abs) = _
    rw [l2, l3]
noncomputable def viewOf (p : Program) (keep : List Nat) : Program := { p with main := { p.main with body := keep.filterMap fun i => p.main.body[i]? } }
end L2.FE
section
open PySem PySem.W PyProof.Rows
noncomputable def FC.Q : Program := L2.FE.viewOf PySem.Challenge.pw_fallcounts_k62_laid_and_taken_up [1,2,3,4,5,6,7,8,10,11,13,14,15,17,18,19,20,21,22,24,25,26,27,28,29,30,31,32,33,34,35]
theorem FC.FP : ∀ (w : World) (os : OsState), (L2.FE.pA PySem.Challenge.pw_fallcounts_k62_laid_and_taken_up w 5022 os).map (fun s => L2.FE.Ap PySem.Challenge.pw_fallcounts_k62_laid_and_taken_up w s.abs) = some true := fun w os => by kernel_rfl
theorem FC.F4 : ∀ (w : World) (os : OsState), (L2.FE.pA PySem.Challenge.pw_fallcounts_k62_laid_and_taken_up w 5022 os).map (fun s => PySem.W.Fast.tw4187177175401517315 FC.Q [] (PySem.W.Fast.tw5923862056798008813 PySem.Challenge.pw_fallcounts_k62_laid_and_taken_up.main.body) (fun s => xlAt FC.Q [] s && recOk (RowW.records (OpenRow.toRowW (OpenLaw.row PySem.Challenge.rw_fallcounts_k62_laid_and_taken_up))) s) true s.abs) = some (openGood FC.Q []) := fun w os => by kernel_rfl
end
namespace L2
open PySem PySem.Spec PyProof.Rows
noncomputable abbrev Key := Sum Int Str
noncomputable def CT : Key -> Value -> Bool
  | .inl k, v => Value.isInt k v
  | .inr x, v => Value.isStrOf x v
noncomputable def Hz (w : World) : Key -> Int
  | .inl k => hashInt k
  | .inr x => hashStr w x
theorem bY : ∀ {k : Key} {v : Value}, CT k v = true -> (∃ i t, k = Sum.inl i /\ v = Value.int i t) \/ (∃ x t, k = Sum.inr x /\ v = Value.str x t)
  | .inl i, v, h => by
    obtain ⟨t, e⟩ := Value.isInt_shape (k := i) (v := v) h
    exact .inl ⟨i, t, rfl, e⟩
  | .inr x, v, h => by
    obtain ⟨t, e⟩ := Value.isStrOf_shape (x := x) (v := v) h
    exact .inr ⟨x, t, rfl, e⟩
theorem EI (a b : Int) : decide ((Sum.inl a : Key) = Sum.inl b) = (a == b) := by
  by_cases e : a = b
  · subst e; simp
  · have h : ¬ (Sum.inl a : Key) = Sum.inl b := fun q => e (Sum.inl.inj q)
    rw [decide_eq_false h]
    exact (beq_eq_false_iff_ne.mpr e).symm
theorem DJ (a b : Str) : decide ((Sum.inr a : Key) = Sum.inr b) = decide (a = b) := by
  by_cases e : a = b
  · subst e; simp
  · have h : ¬ (Sum.inr a : Key) = Sum.inr b := fun q => e (Sum.inr.inj q)
    rw [decide_eq_false h, decide_eq_false e]
theorem ET (a : Int) (b : Str) : decide ((Sum.inl a : Key) = Sum.inr b) = false := decide_eq_false (fun q => nomatch q)
theorem EY (a : Str) (b : Int) : decide ((Sum.inr a : Key) = Sum.inl b) = false := decide_eq_false (fun q => nomatch q)
noncomputable def qe (prog : Program) (w : World) : PySem.KeyKind prog w Key where
  is := CT
  hash := Hz w
  inj := fun v a b ha hb => by
    rcases bY ha with ⟨i, t, rfl, rfl⟩ | ⟨x, t, rfl, rfl⟩
    · rcases bY hb with ⟨j, u, rfl, e⟩ | ⟨y, u, rfl, e⟩
      · injection e with e1 _; rw [e1]
      · exact nomatch e
    · rcases bY hb with ⟨j, u, rfl, e⟩ | ⟨y, u, rfl, e⟩
      · exact nomatch e
      · injection e with e1 _; rw [e1]
  byValue := fun k v h => by
    rcases bY h with ⟨i, t, rfl, rfl⟩ | ⟨x, t, rfl, rfl⟩ <;> rfl
  pyHash := fun hv h => by
    rcases bY hv with ⟨i, t, rfl, rfl⟩ | ⟨x, t, rfl, rfl⟩
    · exact wpAny_pyHash_int h
    · exact wpAny_pyHash_str h
  eqBool := fun hu hv h => by
    rcases bY hu with ⟨i, t, rfl, rfl⟩ | ⟨x, t, rfl, rfl⟩
    · rcases bY hv with ⟨j, u, rfl, rfl⟩ | ⟨y, u, rfl, rfl⟩
      · rw [EI] at h; exact wpAny_eqBool_int h
      · rw [ET] at h; exact SeqAt.EqAt.int_str i t y u _ _ _ _ h
    · rcases bY hv with ⟨j, u, rfl, rfl⟩ | ⟨y, u, rfl, rfl⟩
      · rw [EY] at h; exact SeqAt.EqAt.str_int x t j u _ _ _ _ h
      · rw [DJ] at h; exact wpAny_eqBool_str h
  «strs» := fun k x t v h => by
    rcases bY h with ⟨i, u, rfl, e⟩ | ⟨y, u, rfl, e⟩
    · exact nomatch e
    · injection e with e1 _
      subst e1
      cases v <;> rfl
inductive V where
  | non | bl (b : Bool) | int (i : Int) | str (x : Str) | byt (b : Array UInt8) | flt (b : UInt64) | ref (a : Addr) | ty (n : String)
  deriving DecidableEq
noncomputable def RelV : V -> Value -> Prop
  | .non, u => u = Value.none
  | .bl b, u => u = Value.bool b
  | .int i, u => ∃ t, u = Value.int i t
  | .str x, u => ∃ t, u = Value.str x t
  | .byt b, u => ∃ t, u = Value.bytes b t
  | .flt b, u => ∃ t, u = Value.float b t
  | .ref a, u => u = Value.ref a
  | .ty n, u => u = Value.type n
noncomputable abbrev Vals : List V -> List Value -> Prop := Paired RelV
theorem Vals.length {xs : List V} {us : List Value} (r : Vals xs us) : xs.length = us.length := Paired.length r
theorem Vals.get : ∀ {xs : List V} {us : List Value} {i : Nat} {x : V}, Vals xs us -> xs[i]? = some x -> ∃ u, us[i]? = some u /\ RelV x u
  | _, _, _, _, .nil, e => by simp at e
  | _, _, 0, _, .cons r _, e => by simp at e; subst e; exact ⟨_, rfl, r⟩
  | _, _, i + 1, x, .cons _ t, e => by
    obtain ⟨u, h1, h2⟩ := Vals.get (i := i) (x := x) t (by simpa using e)
    exact ⟨u, by simpa using h1, h2⟩
theorem Vals.set {x : V} {u : Value} (r : RelV x u) : ∀ {xs : List V} {us : List Value} (i : Nat), Vals xs us -> Vals (xs.set i x) (us.set i u)
  | _, _, _, .nil => .nil
  | _, _, 0, .cons _ t => .cons r t
  | _, _, i + 1, .cons q t => .cons q (Vals.set r i t)
theorem Vals.append : ∀ {xs ys : List V} {us ws : List Value}, Vals xs us -> Vals ys ws -> Vals (xs ++ ys) (us ++ ws)
  | _, _, _, _, .nil, s => s
  | _, _, _, _, .cons r t, s => .cons r (Vals.append t s)
theorem Vals.take : ∀ {xs : List V} {us : List Value} (n : Nat), Vals xs us -> Vals (xs.take n) (us.take n)
  | _, _, 0, _ => .nil
  | _, _, _ + 1, .nil => .nil
  | _, _, n + 1, .cons r t => .cons r (Vals.take n t)
theorem Vals.drop : ∀ {xs : List V} {us : List Value} (n : Nat), Vals xs us -> Vals (xs.drop n) (us.drop n)
  | _, _, 0, r => r
  | _, _, _ + 1, .nil => .nil
  | _, _, n + 1, .cons _ t => Vals.drop n t
noncomputable def DA : Option V -> Option Value -> Prop
  | some v, some u => RelV v u
  | none, none => True
  | _, _ => False
noncomputable def KV {κ : Type} : List (κ × V) -> List (κ × Value) -> Prop := Paired fun (p : κ × V) (q : κ × Value) => p.1 = q.1 /\ RelV p.2 q.2
noncomputable def kV : Key -> V
  | .inl i => .int i
  | .inr x => .str x
inductive HO where
  | lst (xs : List V)
  | tup (xs : List V)
  | dK (kvs : List (Key × V)) | dT (kvs : List (List Key × V))
  | set (S : Int -> Bool) (n : Nat)
  | ins (C dx : Addr) (fs : List (Str × V))
  | own (x : Addr)
  | xd (fs : List (Str × V))
  | met (f x : Addr)
  | rng (lo hi : Int)
  | frz (o : Obj) (u : HO)
  | tbl (ps : Array Value)
  | ext (φ : Heap -> Prop)
noncomputable abbrev Hp := Addr -> Option HO
noncomputable def upd (H : Hp) (a : Addr) (o : HO) : Hp := fun b => if b = a then some o else H b
theorem aH {H : Hp} {a : Addr} {o : HO} : upd H a o a = some o := by unfold upd; rw [if_pos rfl]
theorem aA {H : Hp} {a b : Addr} {o : HO} (h : b ≠ a) : upd H a o b = H b := by unfold upd; rw [if_neg h]
theorem Bn {H : Hp} {a : Addr} {o u : HO} : upd (upd H a o) a u = upd H a u := by
  funext b; unfold upd; split <;> rfl
theorem aQ {H : Hp} {a b : Addr} {o : HO} (h : H a = some o) (h' : H b = none) : a ≠ b := by
  intro e; subst e; rw [h] at h'; cases h'
noncomputable def jm (h : Heap) (a : Addr) (its : Array Value) : Prop := ∃ o, h.get? a = some o /\ (o.cls = .type "tuple" /\ ∃ n, o.data = .seq its n) /\ o.dict = none
theorem jm.tup {h : Heap} {a : Addr} {its : Array Value} (x : jm h a its) : IsTup h a its := let ⟨o, e, ⟨c, n, d⟩, _⟩ := x; ⟨o, e, c, n, d⟩
theorem jm.new (h : Heap) (its : Array Value) : jm (h.push { cls := .type "tuple", data := .seq its }) h.objs.size its := ⟨_, Heap.get?_push_size _ rfl, ⟨rfl, _, rfl⟩, rfl⟩
section
variable (P : Program) (w : World)
noncomputable def bL (H : Hp) (h : Heap) (a : Addr) : HO -> Prop
  | .lst xs => xs.length <= sizeLine /\ ∃ (its : List Value) (n : Nat), Vals xs its /\ h.get? a = some { cls := .type "list", data := .seq its.toArray n }
  | .tup xs => xs.length <= sizeLine /\ ∃ its : List Value, Vals xs its /\ jm h a its.toArray
  | .dK kvs => kvs.length <= sizeLine /\ (a == sysModules) = false /\ ∃ vs, KV kvs vs /\ h.DictOf (qe P w) a vs
  | .dT kvs => kvs.length <= sizeLine /\ (a == sysModules) = false /\ ∃ xs : List (List Key × Addr × Value),
      Paired (fun (p : List Key × V) (q : List Key × Addr × Value) => p.1 = q.1 /\ H q.2.1 = some (.tup (p.1.map kV)) /\ RelV p.2 q.2.2) kvs xs ∧
      ∃ o es ep, h.get? a = some o /\ o.ExactDict /\ o.data = .dict es ep /\ es.toList = xs.map (entryOfKey (tupleKind (qe P w))) /\ (xs.map (·.1)).Nodup
  | .set S n => h.SetOf (intKind P w) a S n
  | .ins C dx fs => H dx = some (.own a) /\ fs.length <= 1000 /\ dx ≠ a /\ h.get? a = some (PySem.W.instObj C dx) ∧
      ∃ mA, h.Ns1 dx mA /\ (∀ f, DA (fs.lookup f) (mA f)) /\ PySem.Within mA (fs.map (·.1))
  | .own _ => ∃ o, h.get? a = some o
  | .xd fs => ∃ mA, h.Ns1 a mA /\ ∀ f, DA (fs.lookup f) (mA f)
  | .rng lo hi => ∃ t u v, h.get? a = some { cls := .type "range", data := .fields #[.int lo t, .int hi u, .int 1 v] }
  | .frz o u => h.get? a = some o /\ bL H h a u
  | .tbl ps => h.get? a = some { cls := .none, data := .fields ps }
  | .met f x => h.get? a = some (PySem.W.methodObj (.ref f) (.ref x))
  | .ext φ => φ h /\ (∃ o, h.get? a = some o) /\ ∀ h1 h2 : Heap, φ h1 -> (∀ o, h1.get? a = some o -> h2.get? a = some o) -> φ h2
noncomputable def HOk (H : Hp) (h : Heap) : Prop := ∀ a o, H a = some o -> bL P w H h a o
end
section
variable {P : Program} {w : World} {H H' : Hp} {h h' : Heap} {a : Addr} {o : HO}
theorem bL.lt (x : bL P w H h a o) : a < h.objs.size := by
  cases o with
  | lst xs => obtain ⟨_, _, _, _, e⟩ := x; exact Heap.lt_size e
  | tup xs => obtain ⟨_, _, _, _, e, _⟩ := x; exact Heap.lt_size e
  | dK kvs => obtain ⟨_, _, _, _, o, _, _, e, _⟩ := x; exact Heap.lt_size e
  | dT kvs => obtain ⟨_, _, _, _, o, _, _, e, _⟩ := x; exact Heap.lt_size e
  | set S n => obtain ⟨o, _, _, _, e, _⟩ := x; exact Heap.lt_size e
  | ins C dx fs => obtain ⟨_, _, _, e, _⟩ := x; exact Heap.lt_size e
  | own y => obtain ⟨_, e⟩ := x; exact Heap.lt_size e
  | xd fs => obtain ⟨_, ⟨_, _, _, e, _⟩, _⟩ := x; exact Heap.lt_size e
  | rng lo hi => obtain ⟨_, _, _, e⟩ := x; exact Heap.lt_size e
  | frz ob u => obtain ⟨e, _⟩ := x; exact Heap.lt_size e
  | tbl ps => exact Heap.lt_size (show h.get? a = some _ from x)
  | met f y => exact Heap.lt_size (show h.get? a = some _ from x)
  | ext φ => obtain ⟨_, ⟨_, e⟩, _⟩ := x; exact Heap.lt_size e
theorem Paired.Bj {α β : Type} {F G : α -> β -> Prop} : ∀ {l₁ : List α} {l₂ : List β}, Paired F l₁ l₂ -> (∀ a b, F a b -> G a b) -> Paired G l₁ l₂
  | _, _, .nil, _ => .nil
  | _, _, .cons r t, f => .cons (f _ _ r) (Paired.Bj t f)
theorem bL.j1 (x : bL P w H h a o) (k : ∀ b u, (b = a \/ H b = some (.own a)) -> h.get? b = some u -> h'.get? b = some u)
    (ho : ∀ b, H b = some (.own a) -> H' b = some (.own a)) (ht : ∀ b xs, H b = some (.tup xs) -> H' b = some (.tup xs)) : bL P w H' h' a o := by
  induction o with
  | lst xs => obtain ⟨z, its, n, r, e⟩ := x; exact ⟨z, its, n, r, k _ _ (.inl rfl) e⟩
  | tup xs => obtain ⟨z, its, r, ob, e, c⟩ := x; exact ⟨z, its, r, ob, k _ _ (.inl rfl) e, c⟩
  | dK kvs => obtain ⟨z, y, vs, r, ob, es, ep, e, c⟩ := x; exact ⟨z, y, vs, r, ob, es, ep, k _ _ (.inl rfl) e, c⟩
  | dT kvs =>
    obtain ⟨z, y, xs, r, ob, es, ep, e, c⟩ := x
    exact ⟨z, y, xs, Paired.Bj r fun p q z => ⟨z.1, ht _ _ z.2.1, z.2.2⟩, ob, es, ep, k _ _ (.inl rfl) e, c⟩
  | set S n => obtain ⟨ob, es, ep, t, e, c⟩ := x; exact ⟨ob, es, ep, t, k _ _ (.inl rfl) e, c⟩
  | ins C dx fs =>
    obtain ⟨d, z, ne, e, mA, ⟨od, es, ep, e2, c⟩, r⟩ := x
    exact ⟨ho _ d, z, ne, k _ _ (.inl rfl) e, mA, ⟨od, es, ep, k _ _ (.inr d) e2, c⟩, r⟩
  | own y => obtain ⟨ob, e⟩ := x; exact ⟨ob, k _ _ (.inl rfl) e⟩
  | xd fs => obtain ⟨mA, ⟨od, es, ep, e, c⟩, r⟩ := x; exact ⟨mA, ⟨od, es, ep, k _ _ (.inl rfl) e, c⟩, r⟩
  | rng lo hi => obtain ⟨t, u, v, e⟩ := x; exact ⟨t, u, v, k _ _ (.inl rfl) e⟩
  | frz ob u ih => obtain ⟨e, q⟩ := x; exact ⟨k _ _ (.inl rfl) e, ih q⟩
  | tbl ps =>
    have e : h.get? a = some { cls := .none, data := .fields ps } := x
    show h'.get? a = some { cls := .none, data := .fields ps }
    exact k a _ (.inl rfl) e
  | met f y =>
    have e : h.get? a = some (PySem.W.methodObj (.ref f) (.ref y)) := x
    show h'.get? a = some (PySem.W.methodObj (.ref f) (.ref y))
    exact k a _ (.inl rfl) e
  | ext φ => obtain ⟨p, ⟨o, e⟩, st⟩ := x; exact ⟨st _ _ p fun o q => k _ _ (.inl rfl) q, ⟨o, k _ _ (.inl rfl) e⟩, st⟩
theorem HOk.lt (x : HOk P w H h) (e : H a = some o) : a < h.objs.size := (x a o e).lt
theorem HOk.fresh (x : HOk P w H h) (e : h.objs.size <= a) : H a = none := by
  cases q : H a with
  | none => rfl
  | some u => exact absurd (Nat.lt_of_lt_of_le (x.lt q) e) (Nat.lt_irrefl _)
theorem HOk.kept (x : HOk P w H h) (k : ∀ b u, h.get? b = some u -> h'.get? b = some u) : HOk P w H h' := fun a o e =>
  (x a o e).j1 (fun b u _ q => k b u q) (fun _ q => q) fun _ _ q => q
theorem HOk.laid (x : HOk P w H h) (k : ∀ b u, h.get? b = some u -> h'.get? b = some u) (hp : h.objs.size <= a) (new : bL P w (upd H a o) h' a o) : HOk P w (upd H a o) h' := fun b u e => by
  have hn := x.fresh hp
  by_cases hb : b = a
  · subst hb; rw [aH] at e; cases e; exact new
  · rw [aA hb] at e
    exact (x b u e).j1 (fun c v _ q => k c v q) (fun c q => by rw [aA (aQ q hn)]; exact q) fun c xs q => by rw [aA (aQ q hn)]; exact q
end
noncomputable def Rd (H : Hp) (a : Addr) (u : HO) : Prop := H a = some u \/ ∃ o, H a = some (.frz o u)
theorem Rd.ok {P : Program} {w : World} {H : Hp} {h : Heap} {a : Addr} {u : HO} (r : Rd H a u) (x : HOk P w H h) : bL P w H h a u := by
  rcases r with r | ⟨o, r⟩
  · exact x a u r
  · obtain ⟨_, q⟩ := x a _ r
    exact q
noncomputable def Mut : Option HO -> Prop
  | some (.lst _) => True
  | some (.dK _) => True
  | some (.dT _) => True
  | some (.set _ _) => True
  | some (.ins _ _ _) => True
  | some (.ext _) => True
  | _ => False
section
variable {P : Program} {w : World} {H : Hp} {h h' : Heap} {x e : Addr} {o' : HO}
theorem HOk.write (ok : HOk P w H h) (mu : Mut (H x)) (he : e = x \/ H e = some (.own x)) (k : ∀ b u, b ≠ e -> h.get? b = some u -> h'.get? b = some u) (heo : ∃ u, h'.get? e = some u)
    (new : bL P w (upd H x o') h' x o') : HOk P w (upd H x o') h' := fun b u q => by
  have nown : ∀ c y, H c = some (.own y) -> c ≠ x := fun c y r z => by subst z; rw [r] at mu; exact mu
  have ntup : ∀ c xs, H c = some (.tup xs) -> c ≠ x := fun c xs r z => by subst z; rw [r] at mu; exact mu
  by_cases hb : b = x
  · subst hb; rw [aH] at q; cases q; exact new
  · rw [aA hb] at q
    by_cases hbe : b = e
    · have q' : H b = some (.own x) := by
        rcases he with z | z
        · exact absurd (hbe.trans z) hb
        · rw [hbe]; exact z
      rw [q] at q'; cases q'
      obtain ⟨v, hv⟩ := heo
      exact ⟨v, by rw [hbe]; exact hv⟩
    · refine (ok b u q).j1 (fun c v hc r => k c v ?_ r) (fun c r => by rw [aA (nown c b r)]; exact r) fun c xs r => by rw [aA (ntup c xs r)]; exact r
      rcases hc with rfl | hc
      · exact hbe
      · rintro rfl
        rcases he with z | z
        · exact nown c b hc z
        · rw [hc] at z; cases z; exact hb rfl
end
structure Un (fs ex : List Addr) (H H' : Hp) (h h' : Heap) : Prop where
  keep : ∀ b o, h.get? b = some o -> H b = none -> b ∉ fs -> b ∉ ex -> h'.get? b = some o
  slot : ∀ b o, h.get? b = some o -> H b = none -> b ∈ fs -> b ∉ ex -> ∃ sl, h'.get? b = some { o with slots := sl }
  free : ∀ b o, h.get? b = some o -> H b = none -> b ∉ ex -> H' b = none
  there : ∀ b o, h.get? b = some o -> b ∉ ex -> ∃ o', h'.get? b = some o'
  oA : ∀ b xs, H b = some (.tup xs) -> H' b = some (.tup xs)
  nz : ∀ b o u, H b = some (.frz o u) -> H' b = some (.frz o u)
  oh : ∀ b ps, H b = some (.tbl ps) -> ∃ more, H' b = some (.tbl (ps ++ more))
section
variable {fs fs' ex ex' : List Addr} {H H1 H2 : Hp} {h h1 h2 h' : Heap} {a x e : Addr} {o : HO}
theorem Un.any (u : Un fs ex H H1 h h1) {b : Addr} {ob : Obj} (q : h.get? b = some ob) (n : H b = none) (hx : b ∉ ex) : ∃ sl, h1.get? b = some { ob with slots := sl } := by
  by_cases hb : b ∈ fs
  · exact u.slot b ob q n hb hx
  · exact ⟨ob.slots, u.keep b ob q n hb hx⟩
theorem Un.kept (k : ∀ b u, h.get? b = some u -> h'.get? b = some u) : Un fs ex H H h h' :=
  ⟨fun b ob q _ _ _ => k b ob q, fun b ob q _ _ _ => ⟨ob.slots, k b ob q⟩, fun _ _ _ n _ => n, fun b ob q _ => ⟨ob, k b ob q⟩, fun _ _ q => q, fun _ _ _ q => q, fun _ ps q => ⟨#[], by rw [q]; simp⟩⟩
theorem Un.refl : Un fs ex H H h h := Un.kept fun _ _ q => q
theorem Un.laid (k : ∀ b u, h.get? b = some u -> h'.get? b = some u) (hp : h.objs.size <= a) (hn : H a = none) : Un fs ex H (upd H a o) h h' where
  keep := fun b u q _ _ _ => k b u q
  slot := fun b u q _ _ _ => ⟨u.slots, k b u q⟩
  free := fun b u q n _ => by rw [aA (Nat.ne_of_lt (Nat.lt_of_lt_of_le (Heap.lt_size q) hp))]; exact n
  there := fun b u q _ => ⟨u, k b u q⟩
  oA := fun b xs q => by rw [aA (aQ q hn)]; exact q
  nz := fun b u xs q => by rw [aA (aQ q hn)]; exact q
  oh := fun b ps q => ⟨#[], by rw [aA (aQ q hn), q]; simp⟩
theorem Un.write (mu : Mut (H x)) (he : e = x \/ H e = some (.own x)) (k : ∀ b u, b ≠ e -> h.get? b = some u -> h'.get? b = some u) (heo : ∃ u, h'.get? e = some u) : Un fs ex H (upd H x o) h h' := by
  have hx : ∀ b, H b = none -> b ≠ x := fun b n z => by subst z; rw [n] at mu; exact mu
  have hb : ∀ b, H b = none -> b ≠ e := fun b n z => by
    subst z
    rcases he with r | r
    · exact hx b n r
    · rw [n] at r; cases r
  have hm : ∀ b u, H b = some u -> ¬ Mut (some u) -> b ≠ x := fun b u q nm z => by subst z; rw [q] at mu; exact nm mu
  refine ⟨fun b u q n _ _ => k b u (hb b n) q, fun b u q n _ _ => ⟨u.slots, k b u (hb b n) q⟩, fun b u q n _ => by rw [aA (hx b n)]; exact n, fun b u q _ => ?_,
    fun b xs q => by rw [aA (hm b _ q fun z => z)]; exact q, fun b u xs q => by rw [aA (hm b _ q fun z => z)]; exact q, fun b ps q => ⟨#[], by rw [aA (hm b _ q fun z => z), q]; simp⟩⟩
  by_cases hbe : b = e
  · subst hbe; exact heo
  · exact ⟨u, k b u hbe q⟩
end
noncomputable def trk (h : Heap) (H : Hp) : List Addr := (List.range h.objs.size).filter fun a => (H a).isSome
noncomputable def pV (h : Heap) (H : Hp) : Heap := PySem.W.hideAll h (trk h H)
theorem xm (h : Heap) (H : Hp) : (pV h H).objs.size = h.objs.size := PySem.W.hideAll_size _ _
theorem y_ {h : Heap} {H : Hp} {b : Addr} {o : Obj} (e : h.get? b = some o) (n : H b = none) : (pV h H).get? b = some o :=
  PySem.W.hideAll_get _ e fun hm => by
    have q : (H b).isSome = true := (List.mem_filter.mp hm).2
    rw [n] at q; simp at q
theorem BV {h : Heap} {H : Hp} {b : Addr} {o : Obj} (e : (pV h H).get? b = some o) : h.get? b = some o /\ H b = none := by
  have e' : h.get? b = some o := PySem.W.of_hideAll (trk h H) e
  refine ⟨e', ?_⟩
  cases q : H b with
  | none => rfl
  | some x =>
    have hm : b ∈ trk h H := List.mem_filter.mpr ⟨List.mem_range.mpr (Heap.lt_size e'), by simp [q]⟩
    have z : (pV h H).get? b = none := PySem.W.hideAll_none (trk h H) hm
    rw [z] at e; cases e
structure Mod (K : PySem.W.Frag) (mg : Str -> Option Value) (base : Heap) : Prop where
  kin : K.In base
  glob : base.Ns mainGlobals mg
  blt : ∃ mb, base.Ns builtinsNs mb /\ ∀ x : Str, x ≠ "__name__" -> mb x = bootBuiltins x
  nolimit : base.NoLimit
structure Cx where
  prog : Program
  w : World
  K : PySem.W.Frag
  mg : Str -> Option Value
  base : Heap
  A : Around
  N : List Str
  ay : Shared
  aC : Hp
  env : Env
  outer : List Env
  stack : List Env
  ex : List Addr
  fn : Str -> Bool
  calm : Bool
  pn : List (Addr × Obj)
  xe : Value -> Shared -> Prop
noncomputable def frs (l : List Env) : List Addr := l.filterMap (·.frame)
noncomputable abbrev Cx.fs (X : Cx) : List Addr := frs X.outer
noncomputable def Vis (sc : Scope) (x : Str) : Prop := sc.names.lookup x = some .local \/ sc.names.lookup x = some .cell \/ sc.names.lookup x = some .free
noncomputable def Loc (sc : Scope) (x : Str) : Prop := sc.names.lookup x = some .local \/ sc.names.lookup x = some .cell
noncomputable def Look (env : Env) (h : Heap) (m : Str -> Option Value) (x : Str) (u : Value) : Prop :=
  (env.kindOf x = some .local /\ m x = some u) \/ ((env.kindOf x = some .cell \/ env.kindOf x = some .free) /\ ∃ c, env.cells.lookup x = some c /\ h.IsCell c (some u))
structure Cx.Ok (X : Cx) : Prop where
  mod : Mod X.K X.mg X.base
  kind : X.env.scope.kind = .function
  glob : X.env.globals = mainGlobals
  blt : X.env.builtins = builtinsNs
  above : X.ay.heap.objs.size <= X.env.locals
  inj : ∀ x y c, X.env.cells.lookup x = some c -> X.env.cells.lookup y = some c -> x = y
  has : ∀ x, (X.env.kindOf x = some .cell \/ X.env.kindOf x = some .free) -> ∃ c, X.env.cells.lookup x = some c
  cab : ∀ x c, X.fn x = true -> X.env.cells.lookup x = some c -> X.ay.heap.objs.size <= c
  hd : X.calm = true -> X.A.handled = none
  frames : X.A.frames = some X.stack
  stk : X.stack = X.outer \/ (X.stack = X.env :: X.outer /\ X.env.frame = some X.env.locals)
  exf : ∀ b ∈ X.ex, b ≠ X.env.locals /\ ∀ x c, X.env.cells.lookup x = some c -> c ≠ b
  bs : ∀ b o, X.base.get? b = some o -> X.ay.heap.get? b = some o /\ X.aC b = none
  bsz : X.base.objs.size <= X.ay.heap.objs.size
  oH : ∀ b o, X.base.get? b = some o -> b ∉ X.ex
  sW : ∀ b ∈ X.ex, b ∉ X.fs
  iZ : X.ay.heap.FunFrames X.base X.outer
  frf : ∀ b ∈ X.fs, X.aC b = none
structure Inv (X : Cx) (pins : List (Addr × Obj)) (σ : List (Option V)) (H : Hp) (s : Shared) : Prop where
  ok : X.Ok
  os : s.os = X.ay.os
  bare : AllBare s.gens
  base : Un X.fs X.ex X.aC H X.ay.heap s.heap
  loc : ∃ m, s.heap.Ns X.env.locals m /\ ∀ (i : Nat) (x : Str) (v : V), X.N[i]? = some x -> σ[i]? = some (some v) -> Vis X.env.scope x -> ∃ u, RelV v u /\ Look X.env s.heap m x u
  cell : ∀ x c, X.env.cells.lookup x = some c -> ∃ v, s.heap.IsCell c v
  free : H X.env.locals = none
  dC : ∀ x c, X.env.cells.lookup x = some c -> H c = none
  pin : ∀ p ∈ X.pn ++ pins, s.heap.get? p.1 = some p.2 /\ H p.1 = none /\ p.1 ≠ X.env.locals /\ p.1 ∉ X.fs /\ ∀ v, p.2.data ≠ .cell v
  hok : HOk X.prog X.w H s.heap
  len : σ.length = X.N.length
section
variable {X : Cx} {pins : List (Addr × Obj)} {σ : List (Option V)} {H H' : Hp} {s : Shared} {h' : Heap}
theorem Cx.Ok.Hf (ok : X.Ok) {b : Addr} {o : Obj} (e : X.base.get? b = some o) : b ∉ X.fs := fun hb => by
  have := (ok.iZ.mem hb).1
  rw [e] at this; cases this
theorem Inv.bs (I : Inv X pins σ H s) : ∀ b o, X.base.get? b = some o -> s.heap.get? b = some o /\ H b = none := fun b o e =>
  ⟨I.base.keep b o (I.ok.bs b o e).1 (I.ok.bs b o e).2 (I.ok.Hf e) (I.ok.oH b o e), I.base.free b o (I.ok.bs b o e).1 (I.ok.bs b o e).2 (I.ok.oH b o e)⟩
theorem Inv.bk (I : Inv X pins σ H s) : ∀ b o, X.base.get? b = some o -> s.heap.get? b = some o := fun b o e => (I.bs b o e).1
theorem Inv.mod (I : Inv X pins σ H s) : Mod X.K X.mg X.base := I.ok.mod
theorem Inv.kIn (I : Inv X pins σ H s) : X.K.In s.heap := I.ok.mod.kin.keeps I.bk
theorem Inv.lt (I : Inv X pins σ H s) : X.env.locals < s.heap.objs.size := let ⟨_, hn, _⟩ := I.loc; hn.lt
theorem Inv.sz (I : Inv X pins σ H s) : X.ay.heap.objs.size <= s.heap.objs.size := Nat.le_trans I.ok.above (Nat.le_of_lt I.lt)
theorem Inv.EM (I : Inv X pins σ H s) {a : Addr} (h : s.heap.objs.size <= a) : a ∉ X.fs := fun hb => by
  obtain ⟨_, o, ho, _⟩ := I.ok.iZ.mem hb
  exact absurd (Nat.lt_of_lt_of_le (Heap.lt_size ho) (Nat.le_trans I.sz h)) (Nat.lt_irrefl _)
theorem Inv.cne (I : Inv X pins σ H s) : ∀ x c, X.env.cells.lookup x = some c -> c ≠ X.env.locals := fun x c e z => by
  obtain ⟨v, o, ho, hd⟩ := I.cell x c e
  obtain ⟨m, ⟨o', es, ep, ho', hd', _⟩, _⟩ := I.loc
  rw [z, ho'] at ho; cases ho; rw [hd'] at hd; cases hd
theorem Inv.iZ (I : Inv X pins σ H s) : s.heap.FunFrames X.base X.outer := by
  have all : ∀ (l : List Env), (∀ b ∈ frs l, b ∈ X.fs) -> X.ay.heap.FunFrames X.base l -> s.heap.FunFrames X.base l := by
    intro l
    induction l with
    | nil => intro _ _; trivial
    | cons env r ih =>
      intro hs hl
      obtain ⟨hk, ⟨L, o, hf, hn, ho, hd⟩, hr⟩ := hl
      have hL : L ∈ X.fs := hs L (by unfold frs; rw [List.filterMap_cons, hf]; exact List.mem_cons_self)
      obtain ⟨sl, e⟩ := I.base.slot L o ho (I.ok.frf L hL) hL fun z => I.ok.sW L z hL
      exact ⟨hk, ⟨L, _, hf, hn, e, hd⟩, ih (fun b hb => hs b (by unfold frs; rw [List.filterMap_cons, hf]; exact List.mem_cons_of_mem _ hb)) hr⟩
  exact all X.outer (fun _ hb => hb) I.ok.iZ
theorem Inv.stack (I : Inv X pins σ H s) : s.heap.FunFrames X.base X.stack := by
  rcases I.ok.stk with e | ⟨e, hf⟩
  · rw [e]; exact I.iZ
  · rw [e]
    obtain ⟨m, hn, _⟩ := I.loc
    refine .cons (by rw [I.ok.kind]; decide) hf hn ?_ I.iZ
    exact Heap.get?_none_of_le (Nat.le_trans I.ok.bsz I.ok.above)
theorem Inv.fY (I : Inv X pins σ H s) : ∀ b ∈ frs X.stack, b ∈ X.env.locals :: X.fs := fun b hb => by
  rcases I.ok.stk with e | ⟨e, hf⟩
  · rw [e] at hb; exact List.mem_cons_of_mem _ hb
  · rw [e] at hb
    unfold frs at hb
    rw [List.filterMap_cons, hf] at hb
    exact hb
theorem Inv.lJ (I : Inv X pins σ H s) : ∀ b ∈ frs X.stack, H b = none := fun b hb => by
  rcases List.mem_cons.mp (I.fY b hb) with e | hb
  · rw [e]; exact I.free
  · obtain ⟨_, o, ho, _⟩ := I.ok.iZ.mem hb
    exact I.base.free b o ho (I.ok.frf b hb) fun z => I.ok.sW b z hb
theorem Inv.step {g' : Array GenState} {t' : Nat} {d' : Drawn} {ch : List Addr} (I : Inv X pins σ H s)
    (hch : ∀ b ∈ ch, (b ∈ X.ex \/ X.ay.heap.objs.size <= b) /\ b ≠ X.env.locals /\ (∀ x c, X.env.cells.lookup x = some c -> c ≠ b) /\ ∀ p ∈ X.pn ++ pins, p.1 ≠ b)
    (keep : ∀ b o, b ≠ X.env.locals -> b ∉ X.fs -> b ∉ ch -> s.heap.get? b = some o -> H b = none -> h'.get? b = some o)
    (slot : ∀ b o, b ≠ X.env.locals -> b ∈ X.fs -> b ∉ ch -> s.heap.get? b = some o -> H b = none -> ∃ sl, h'.get? b = some { o with slots := sl }) (free : ∀ b o, b ∉ ch -> s.heap.get? b = some o -> H b = none -> H' b = none)
    (there : ∀ b o, b ∉ ch -> s.heap.get? b = some o -> ∃ o', h'.get? b = some o')
    (oA : ∀ b xs, H b = some (.tup xs) -> H' b = some (.tup xs)) (nz : ∀ b o u, H b = some (.frz o u) -> H' b = some (.frz o u)) (oh : ∀ b ps, H b = some (.tbl ps) -> ∃ more, H' b = some (.tbl (ps ++ more)))
    (ns : ∀ m, s.heap.Ns X.env.locals m -> h'.Ns X.env.locals m) (hok : HOk X.prog X.w H' h') (hg : AllBare g') :
    Inv X pins σ H' { s with heap := h', gens := g', drawn := d', toks := t' } := by
  have neL : ∀ b o, X.ay.heap.get? b = some o -> b ≠ X.env.locals := fun b o e => Nat.ne_of_lt (Nat.lt_of_lt_of_le (Heap.lt_size e) I.ok.above)
  have neC : ∀ b o, X.ay.heap.get? b = some o -> b ∉ X.ex -> b ∉ ch := fun b o e hx hb => by
    rcases (hch b hb).1 with z | z
    · exact hx z
    · exact absurd (Nat.lt_of_lt_of_le (Heap.lt_size e) z) (Nat.lt_irrefl _)
  have cellK : ∀ x c, X.env.cells.lookup x = some c -> ∀ v, s.heap.IsCell c v -> h'.IsCell c v := fun x c e v ⟨o, ho, hd⟩ => by
    have nch : c ∉ ch := fun z => (hch c z).2.2.1 x c e rfl
    by_cases hc : c ∈ X.fs
    · obtain ⟨sl, q⟩ := slot c o (I.cne x c e) hc nch ho (I.dC x c e)
      exact ⟨_, q, hd⟩
    · exact ⟨o, keep c o (I.cne x c e) hc nch ho (I.dC x c e), hd⟩
  refine ⟨I.ok, I.os, hg, ⟨fun b o e n hb hx => ?_, fun b o e n hb hx => ?_, fun b o e n hx => ?_, fun b o e hx => ?_, fun b xs e => oA b xs (I.base.oA b xs e), fun b o xs e => nz b o xs (I.base.nz b o xs e), fun b ps e => ?_⟩, ?_, fun x c e => ?_, ?_, fun x c e => ?_, fun p hp => ?_, hok, I.len⟩
  · exact keep b o (neL b o e) hb (neC b o e hx) (I.base.keep b o e n hb hx) (I.base.free b o e n hx)
  · obtain ⟨sl, e1⟩ := I.base.slot b o e n hb hx
    obtain ⟨sl', e2⟩ := slot b _ (neL b o e) hb (neC b o e hx) e1 (I.base.free b o e n hx)
    exact ⟨sl', e2⟩
  · obtain ⟨o', e1⟩ := I.base.there b o e hx
    exact free b o' (neC b o e hx) e1 (I.base.free b o e n hx)
  · obtain ⟨o', e1⟩ := I.base.there b o e hx
    exact there b o' (neC b o e hx) e1
  · obtain ⟨m1, e1⟩ := I.base.oh b ps e
    obtain ⟨m2, e2⟩ := oh b _ e1
    exact ⟨m1 ++ m2, by rw [e2, Array.append_assoc]⟩
  · obtain ⟨m, hn, hl⟩ := I.loc
    refine ⟨m, ns m hn, fun i x v e1 e2 e3 => ?_⟩
    obtain ⟨u, r, l⟩ := hl i x v e1 e2 e3
    refine ⟨u, r, ?_⟩
    rcases l with l | ⟨k, c, e, z⟩
    · exact .inl l
    · exact .inr ⟨k, c, e, cellK x c e _ z⟩
  · obtain ⟨v, z⟩ := I.cell x c e
    exact ⟨v, cellK x c e v z⟩
  · obtain ⟨m, ⟨o, _, _, ho, _⟩, _⟩ := I.loc
    exact free _ o (fun z => (hch _ z).2.1 rfl) ho I.free
  · obtain ⟨v, o, ho, hd⟩ := I.cell x c e
    exact free c o (fun z => (hch c z).2.2.1 x c e rfl) ho (I.dC x c e)
  · obtain ⟨e, n, ne, nf, d⟩ := I.pin p hp
    have nch : p.1 ∉ ch := fun z => (hch p.1 z).2.2.2 p hp rfl
    exact ⟨keep p.1 p.2 ne nf nch e n, free p.1 p.2 nch e n, ne, nf, d⟩
theorem Inv.un {t' : Nat} (I : Inv X pins σ H s) (u : Un X.fs [] H H' s.heap h') (hok : HOk X.prog X.w H' h') : Inv X pins σ H' { s with heap := h', toks := t' } := by
  obtain ⟨m, ⟨o, es, ep, ho, r⟩, _⟩ := id I.loc
  obtain ⟨sl, hL⟩ := u.any ho I.free (by simp)
  exact I.step (g' := s.gens) (d' := s.drawn) (ch := []) (fun _ z => nomatch z) (fun b o _ hb _ e n => u.keep b o e n hb (by simp)) (fun b o _ hb _ e n => u.slot b o e n hb (by simp)) (fun b o _ e n => u.free b o e n (by simp)) (fun b o _ e => u.there b o e (by simp)) u.oA u.nz u.oh (fun m' hm => by
    obtain ⟨o', es', ep', ho', r'⟩ := hm
    rw [ho] at ho'; cases ho'
    exact ⟨_, es', ep', hL, r'⟩) hok I.bare
theorem Inv.call {g' : Array GenState} {t' : Nat} {d' : Drawn} {ch : List Addr} (I : Inv X pins σ H s) (u : Un (frs X.stack) ch H H' s.heap h') (hok : HOk X.prog X.w H' h') (hg : AllBare g')
    (hch : ∀ b ∈ ch, (b ∈ X.ex \/ X.ay.heap.objs.size <= b) /\ b ≠ X.env.locals /\ (∀ x c, X.env.cells.lookup x = some c -> c ≠ b) /\ ∀ p ∈ X.pn ++ pins, p.1 ≠ b) :
    Inv X pins σ H' { s with heap := h', gens := g', drawn := d', toks := t' } := by
  obtain ⟨m, ⟨o, es, ep, ho, r⟩, _⟩ := id I.loc
  obtain ⟨sl, hL⟩ := u.any ho I.free fun z => (hch _ z).2.1 rfl
  exact I.step (ch := ch) hch (fun b o hL hb hc e n => u.keep b o e n (fun z => (List.mem_cons.mp (I.fY b z)).elim hL hb) hc) (fun b o _ _ hc e n => u.any e n hc) (fun b o hc e n => u.free b o e n hc) (fun b o hc e => u.there b o e hc) u.oA u.nz u.oh (fun m' hm => by
    obtain ⟨o', es', ep', ho', r'⟩ := hm
    rw [ho] at ho'; cases ho'
    exact ⟨_, es', ep', hL, r'⟩) hok hg
theorem Inv.turned {t' : Nat} {it : Addr} (I : Inv X pins σ H s) (k : ∀ b o, b ≠ it -> s.heap.get? b = some o -> h'.get? b = some o) (hn : H it = none) (hL : it ≠ X.env.locals)
    (h1 : it ∈ X.ex \/ X.ay.heap.objs.size <= it) (h2 : ∀ x c, X.env.cells.lookup x = some c -> c ≠ it) (h3 : ∀ p ∈ X.pn ++ pins, p.1 ≠ it) : Inv X pins σ H { s with heap := h', toks := t' } := by
  have nit : ∀ b u, H b = some u -> b ≠ it := fun b u e z => by rw [z, hn] at e; cases e
  refine I.step (g' := s.gens) (d' := s.drawn) (ch := [it]) (fun b hb => ?_) (fun b o _ _ hc e _ => k b o (fun z => hc (by simp [z])) e) (fun b o _ _ hc e _ => ⟨o.slots, k b o (fun z => hc (by simp [z])) e⟩) (fun _ _ _ _ n => n)
    (fun b o hc e => ⟨o, k b o (fun z => hc (by simp [z])) e⟩) (fun _ _ e => e) (fun _ _ _ e => e) (fun b ps e => ⟨#[], by rw [e]; simp⟩) (fun m hm => ?_) (fun b u e => ?_) I.bare
  · have e : b = it := by simpa using hb
    subst e
    exact ⟨h1, hL, h2, h3⟩
  · obtain ⟨o, es, ep, ho, r⟩ := hm
    exact ⟨o, es, ep, k _ o (Ne.symm hL) ho, r⟩
  · refine (I.hok b u e).j1 (fun c v hc q => k c v ?_ q) (fun _ q => q) fun _ _ q => q
    rcases hc with z | z
    · rw [z]; exact nit b u e
    · exact nit c _ z
theorem Inv.tok (I : Inv X pins σ H s) (t : Nat) : Inv X pins σ H { s with toks := t } := I.un (h' := s.heap) (t' := t) Un.refl I.hok
theorem Inv.kept {t' : Nat} (I : Inv X pins σ H s) (k : ∀ b u, s.heap.get? b = some u -> h'.get? b = some u) : Inv X pins σ H { s with heap := h', toks := t' } := I.un (Un.kept k) (I.hok.kept k)
theorem Inv.laid {a : Addr} {o : HO} {t' : Nat} (I : Inv X pins σ H s) (k : ∀ b u, s.heap.get? b = some u -> h'.get? b = some u) (hp : s.heap.objs.size <= a) (new : bL X.prog X.w (upd H a o) h' a o) :
    Inv X pins σ (upd H a o) { s with heap := h', toks := t' } := I.un (Un.laid k hp (I.hok.fresh hp)) (I.hok.laid k hp new)
theorem Inv.write {x e : Addr} {o : HO} {t' : Nat} (I : Inv X pins σ H s) (mu : Mut (H x)) (he : e = x \/ H e = some (.own x)) (k : ∀ b u, b ≠ e -> s.heap.get? b = some u -> h'.get? b = some u) (heo : ∃ u, h'.get? e = some u)
    (new : bL X.prog X.w (upd H x o) h' x o) : Inv X pins σ (upd H x o) { s with heap := h', toks := t' } := I.un (Un.write mu he k heo) (I.hok.write mu he k heo new)
theorem Inv.jB {pins' : List (Addr × Obj)} (I : Inv X pins σ H s) (h : ∀ p ∈ pins', s.heap.get? p.1 = some p.2 /\ H p.1 = none /\ p.1 ≠ X.env.locals /\ p.1 ∉ X.fs /\ ∀ v, p.2.data ≠ .cell v) : Inv X pins' σ H s :=
  ⟨I.ok, I.os, I.bare, I.base, I.loc, I.cell, I.free, I.dC, fun p hp => (List.mem_append.mp hp).elim (fun z => I.pin p (List.mem_append_left _ z)) (h p), I.hok, I.len⟩
theorem rZ {N : List Str} (hN : N.Nodup) {i j : Nat} {x : Str} (a : N[i]? = some x) (b : N[j]? = some x) : i = j := by
  obtain ⟨h1, e1⟩ := List.getElem?_eq_some_iff.mp a
  obtain ⟨h2, e2⟩ := List.getElem?_eq_some_iff.mp b
  exact (List.getElem_inj hN).mp (e1.trans e2.symm)
theorem vU {M : Model} {A : Around} {E : Value -> Shared -> Prop} {i : Nat} {x : Str} {v : V} {u : Value} {Q : Unit -> Shared -> Prop} (I : Inv X pins σ H s) (hN : X.N.Nodup) (hi : X.N[i]? = some x) (hx : Loc X.env.scope x) (r : RelV v u)
    (h : ∀ s', Inv X pins (σ.set i (some v)) H s' -> (∃ a, Heap.SameBut a s.heap s'.heap /\ (a = X.env.locals \/ X.env.cells.lookup x = some a)) -> Q () s') (hf : X.fn x = true \/ X.env.scope.names.lookup x = some .local := by first | exact .inl rfl | exact .inr rfl | assumption) : wpAny M A (storeName X.env x u) Q E s := by
  obtain ⟨m, hn, hl⟩ := id I.loc
  have hcls : (X.env.scope.kind == .class || (X.env.scope.kind == .module && X.env.locals != X.env.globals)) = false := by rw [I.ok.kind]; rfl
  have hiσ : i < σ.length := by rw [I.len]; exact (List.getElem?_eq_some_iff.mp hi).1
  have cne := I.cne
  have tracked : ∀ {a : Addr} {h' : Heap}, (∃ o, s.heap.get? a = some o /\ H a = none) -> Heap.SameBut a s.heap h' -> HOk X.prog X.w H h' := fun {a h'} ha hs b ob e => by
    obtain ⟨_, _, hfree⟩ := ha
    refine (I.hok b ob e).j1 (fun c w' hc q => (hs.2 c ?_).trans q) (fun _ q => q) fun _ _ q => q
    rintro rfl
    rcases hc with rfl | hc
    · rw [hfree] at e; cases e
    · rw [hfree] at hc; cases hc
  rcases hx with hk | hk
  · refine wpAny_storeName_local hk hn (fun h' hn' hs => ?_) hcls
    obtain ⟨oL, _, _, hoL, _⟩ := id hn
    refine h _ ⟨I.ok, I.os, I.bare, ⟨fun b o e n hb hx => ?_, fun b o e n hb hx => ?_, I.base.free, fun b o e hx => ?_, I.base.oA, I.base.nz, I.base.oh⟩, ⟨_, hn', fun j y v' e1 e2 e3 => ?_⟩, fun y c e => ?_, I.free, I.dC, fun p hp => ?_, tracked ⟨oL, hoL, I.free⟩ hs, by simpa using I.len⟩ ⟨_, hs, .inl rfl⟩
    · exact (hs.2 b (Nat.ne_of_lt (Nat.lt_of_lt_of_le (Heap.lt_size e) I.ok.above))).trans (I.base.keep b o e n hb hx)
    · obtain ⟨sl, e1⟩ := I.base.slot b o e n hb hx
      exact ⟨sl, (hs.2 b (Nat.ne_of_lt (Nat.lt_of_lt_of_le (Heap.lt_size e) I.ok.above))).trans e1⟩
    · obtain ⟨o', e1⟩ := I.base.there b o e hx
      exact ⟨o', (hs.2 b (Nat.ne_of_lt (Nat.lt_of_lt_of_le (Heap.lt_size e) I.ok.above))).trans e1⟩
    · by_cases hj : j = i
      · subst hj
        rw [hi] at e1; cases e1
        rw [List.getElem?_set_self hiσ] at e2
        cases e2
        exact ⟨u, r, .inl ⟨hk, by simp⟩⟩
      · rw [List.getElem?_set_ne (Ne.symm hj)] at e2
        obtain ⟨u', r', q⟩ := hl j y v' e1 e2 e3
        refine ⟨u', r', ?_⟩
        rcases q with ⟨k, e⟩ | ⟨k, c, e, z⟩
        · refine .inl ⟨k, ?_⟩
          have : y ≠ x := fun e => hj (rZ hN e1 (e ▸ hi))
          simp [this, e]
        · exact .inr ⟨k, c, e, z.sameBut hs (cne y c e)⟩
    · obtain ⟨w', z⟩ := I.cell y c e
      exact ⟨w', z.sameBut hs (cne y c e)⟩
    · obtain ⟨e, n, ne, nf, d⟩ := I.pin p hp
      exact ⟨(hs.2 p.1 ne).trans e, n, ne, nf, d⟩
  · have hfn : X.fn x = true := by
      rcases hf with z | z
      · exact z
      · rw [z] at hk; cases hk
    obtain ⟨c, hc⟩ := I.ok.has x (.inl hk)
    obtain ⟨w', z⟩ := I.cell x c hc
    refine wpAny_storeName_cell I.ok.kind hk hc z (fun h' hc' hs => ?_)
    obtain ⟨oc, hoc, hocd⟩ := id z
    refine h { s with heap := h' } ⟨I.ok, I.os, I.bare, ⟨fun b o e n hb hx => ?_, fun b o e n hb hx => ?_, I.base.free, fun b o e hx => ?_, I.base.oA, I.base.nz, I.base.oh⟩, ⟨m, hn.sameBut hs (Ne.symm (cne x c hc)), fun j y v' e1 e2 e3 => ?_⟩, fun y c' e => ?_, I.free, I.dC, fun p hp => ?_, tracked ⟨oc, hoc, I.dC x c hc⟩ hs, by simpa using I.len⟩ ⟨c, hs, .inr hc⟩
    · exact (hs.2 b (Nat.ne_of_lt (Nat.lt_of_lt_of_le (Heap.lt_size e) (I.ok.cab x c hfn hc)))).trans (I.base.keep b o e n hb hx)
    · obtain ⟨sl, e1⟩ := I.base.slot b o e n hb hx
      exact ⟨sl, (hs.2 b (Nat.ne_of_lt (Nat.lt_of_lt_of_le (Heap.lt_size e) (I.ok.cab x c hfn hc)))).trans e1⟩
    · obtain ⟨o', e1⟩ := I.base.there b o e hx
      exact ⟨o', (hs.2 b (Nat.ne_of_lt (Nat.lt_of_lt_of_le (Heap.lt_size e) (I.ok.cab x c hfn hc)))).trans e1⟩
    · by_cases hj : j = i
      · subst hj
        rw [hi] at e1; cases e1
        rw [List.getElem?_set_self hiσ] at e2
        cases e2
        exact ⟨u, r, .inr ⟨.inl hk, c, hc, hc'⟩⟩
      · rw [List.getElem?_set_ne (Ne.symm hj)] at e2
        obtain ⟨u', r', q⟩ := hl j y v' e1 e2 e3
        refine ⟨u', r', ?_⟩
        rcases q with q | ⟨k, c', e, z'⟩
        · exact .inl q
        · refine .inr ⟨k, c', e, z'.sameBut hs ?_⟩
          rintro rfl
          exact hj (rZ hN e1 (I.ok.inj _ _ _ e hc ▸ hi))
    · by_cases hcc : c' = c
      · subst hcc; exact ⟨_, hc'⟩
      · obtain ⟨w2, z2⟩ := I.cell y c' e
        exact ⟨w2, z2.sameBut hs hcc⟩
    · obtain ⟨e, n, ne, nf, d⟩ := I.pin p hp
      refine ⟨(hs.2 p.1 ?_).trans e, n, ne, nf, d⟩
      intro q
      rw [q, hoc] at e
      have q' : oc = p.2 := Option.some.inj e
      exact d w' (by rw [<- q']; exact hocd)
theorem iJ {M : Model} {A : Around} {E : Value -> Shared -> Prop} {i : Nat} {x : Str} {v : V} {u : Value} {Q : Unit -> Shared -> Prop} (I : Inv X pins σ H s) (hN : X.N.Nodup) (hi : X.N[i]? = some x) (hx : Loc X.env.scope x) (r : RelV v u)
    (h : ∀ s', Inv X pins (σ.set i (some v)) H s' -> Q () s') (hf : X.fn x = true \/ X.env.scope.names.lookup x = some .local := by first | exact .inl rfl | exact .inr rfl | assumption) : wpAny M A (storeName X.env x u) Q E s :=
  vU I hN hi hx r (fun s' I' _ => h s' I') hf
theorem Inv.o9 {s' : Shared} {ch : List Addr} (I : Inv X pins σ H s) (ho : s'.os = s.os) (u : Un (frs X.stack) ch H H' s.heap s'.heap) (hok : HOk X.prog X.w H' s'.heap) (hg : AllBare s'.gens)
    (hch : ∀ b ∈ ch, (b ∈ X.ex \/ X.ay.heap.objs.size <= b) /\ b ≠ X.env.locals /\ (∀ x c, X.env.cells.lookup x = some c -> c ≠ b) /\ ∀ p ∈ X.pn ++ pins, p.1 ≠ b) : Inv X pins σ H' s' := by
  obtain ⟨h', g', d', t', o'⟩ := s'
  have e : o' = s.os := ho
  subst e
  exact I.call (g' := g') (t' := t') (d' := d') u hok hg hch
end
noncomputable abbrev XK := Value -> Option Addr -> Hp -> Prop
noncomputable abbrev St := List (Option V)
noncomputable abbrev VK := V -> Hp -> Prop
noncomputable abbrev TE := St -> Hp -> VK -> Prop
noncomputable abbrev TT := St -> Hp -> (Bool -> Hp -> Prop) -> Prop
noncomputable abbrev TA := St -> Hp -> (List V -> Hp -> Prop) -> Prop
structure Ends where
  nx : St -> Hp -> Prop
  rt : VK
  bk : St -> Hp -> Prop := fun _ _ => False
  ct : St -> Hp -> Prop := fun _ _ => False
noncomputable abbrev TS := Ends -> St -> Hp -> Prop
noncomputable def EP (X : Cx) (pins : List (Addr × Obj)) (σ : St) (Q : VK) (u : Value) (s' : Shared) : Prop := ∃ v H', Inv X pins σ H' s' /\ RelV v u /\ Q v H'
noncomputable def TP (X : Cx) (pins : List (Addr × Obj)) (σ : St) (Q : Bool -> Hp -> Prop) (b : Bool) (s' : Shared) : Prop := ∃ H', Inv X pins σ H' s' /\ Q b H'
noncomputable def AP (X : Cx) (pins : List (Addr × Obj)) (σ : St) (Q : List V -> Hp -> Prop) (us : List Value) (s' : Shared) : Prop := ∃ vs H', Inv X pins σ H' s' /\ Vals vs us /\ Q vs H'
noncomputable def SP (X : Cx) (pins : List (Addr × Obj)) (D : Ends) (f : Flow) (s' : Shared) : Prop :=
  match f with
  | .next => ∃ σ' H', Inv X pins σ' H' s' /\ D.nx σ' H'
  | .brk => ∃ σ' H', Inv X pins σ' H' s' /\ D.bk σ' H'
  | .cont => ∃ σ' H', Inv X pins σ' H' s' /\ D.ct σ' H'
  | .ret u => ∃ v σ' H', Inv X pins σ' H' s' /\ RelV v u /\ D.rt v H'
noncomputable def PE (X : Cx) (e : Expr) (t : TE) : Prop :=
  ∀ (pins : List (Addr × Obj)) (s : Shared) (σ : St) (H : Hp) (Q : VK), Inv X pins σ H s -> t σ H Q -> wpAny (model X.prog X.w) X.A (eval e X.env) (EP X pins σ Q) X.xe s
noncomputable def PT (X : Cx) (e : Expr) (t : TT) : Prop :=
  ∀ (pins : List (Addr × Obj)) (s : Shared) (σ : St) (H : Hp) (Q : Bool -> Hp -> Prop), Inv X pins σ H s -> t σ H Q -> wpAny (model X.prog X.w) X.A (isTrue e X.env (eval e X.env)) (TP X pins σ Q) X.xe s
noncomputable def PW (X : Cx) (e : Expr) (t : TT) : Prop :=
  ∀ (whole : Sem Value) (pins : List (Addr × Obj)) (s : Shared) (σ : St) (H : Hp) (Q : Bool -> Hp -> Prop), Inv X pins σ H s -> t σ H Q -> wpAny (model X.prog X.w) X.A (isTrue e X.env whole) (TP X pins σ Q) X.xe s
theorem PW.pt {X : Cx} {e : Expr} {t : TT} (h : PW X e t) : PT X e t := h _
noncomputable def PA (X : Cx) (es : List Expr) (t : TA) : Prop :=
  ∀ (pos : Pos) (pins : List (Addr × Obj)) (s : Shared) (σ : St) (H : Hp) (Q : List V -> Hp -> Prop), Inv X pins σ H s -> t σ H Q -> wpAny (model X.prog X.w) X.A (spliced (backTo pos (starEach es X.env))) (AP X pins σ Q) X.xe s
noncomputable def PS (X : Cx) (st : Stmt) (t : TS) : Prop :=
  ∀ (pins : List (Addr × Obj)) (s : Shared) (σ : St) (H : Hp) (D : Ends), Inv X pins σ H s -> t D σ H -> wpAny (model X.prog X.w) X.A (exec st X.env) (SP X pins D) X.xe s
noncomputable def PSs (X : Cx) (st : List Stmt) (t : TS) : Prop :=
  ∀ (pins : List (Addr × Obj)) (s : Shared) (σ : St) (H : Hp) (D : Ends), Inv X pins σ H s -> t D σ H -> wpAny (model X.prog X.w) X.A (execs st X.env) (SP X pins D) X.xe s
theorem thn {α : Type} {t : Sem α} {Q Q' : α -> Shared -> Prop} {M : Model} {A : Around} {E : Value -> Shared -> Prop} {s : Shared} (h : wpAny M A t Q E s) (hQ : ∀ a s, Q a s -> Q' a s) : wpAny M A t Q' E s := wpAny_mono h hQ fun _ _ x => x
section
variable {X : Cx}
noncomputable def Hg (i : Nat) : TE := fun σ H Q => ∃ v, σ[i]? = some (some v) /\ Q v H
noncomputable def tC (v : V) : TE := fun _ H Q => Q v H
theorem yw {i : Nat} {x : Str} {pos : Pos} (hN : X.N[i]? = some x) (hv : Vis X.env.scope x) (hd : (x == ("__debug__" : Str)) = false := by decide) (hcd : (x == ("__classdict__" : Str)) = false := by decide) : PE X (.Name x pos) (Hg i) := by
  intro pins s σ H Q I h
  obtain ⟨v, e, h⟩ := h
  obtain ⟨m, hn, hl⟩ := I.loc
  obtain ⟨u, r, l⟩ := hl i x v hN e hv
  have fin : EP X pins σ Q u s := ⟨v, H, I, r, h⟩
  rcases l with ⟨hk, hm⟩ | ⟨hk, c, hc, hcell⟩
  · exact wpAny_Name (wpAny_loadName_local I.ok.kind hk hn hm fin) hd
  · rcases hk with hk | hk
    · exact wpAny_Name (wpAny_loadName_cell I.ok.kind hk hc hcell fin) hd
    · exact wpAny_Name (wpAny_loadName_free I.ok.kind hk hc hcell fin hcd) hd
theorem yo {i j pos} : PE X (.Constant (.int i) j pos) (tC (.int i)) := fun _ _ _ H _ I h => wpAny_Constant_int ⟨.int i, H, I.tok _, ⟨_, rfl⟩, h⟩
theorem F0 {b j pos} : PE X (.Constant (.bool b) j pos) (tC (.bl b)) := fun _ _ _ H _ I h => Constant_bool ⟨.bl b, H, I, rfl, h⟩
theorem Dt {j pos} : PE X (.Constant .none j pos) (tC .non) := fun _ _ _ H _ I h => Constant_none ⟨.non, H, I, rfl, h⟩
theorem DC {x j pos} : PE X (.Constant (.str x) j pos) (tC (.str x)) := fun _ _ _ H _ I h => Calls.Constant_str ⟨.str x, H, I.tok _, ⟨_, rfl⟩, h⟩
noncomputable def Gl (X : Cx) (x : Str) : Prop := X.env.kindOf x = some .globalImplicit
theorem iU {E : Value -> Shared -> Prop} {pins : List (Addr × Obj)} {s : Shared} {σ : St} {H : Hp} {x : Str} {u : Value} {pos : Pos} {Q : Value -> Shared -> Prop} (I : Inv X pins σ H s) (hg : Gl X x) (hm : X.mg x = some u) (h : Q u s)
    (hd : (x == ("__debug__" : Str)) = false := by decide) : wpAny (model X.prog X.w) X.A (eval (.Name x pos) X.env) Q E s :=
  Calls.Name_function_global I.ok.kind hg (Calls.loadGlobal_global (by rw [I.ok.glob]; exact I.mod.glob.keeps I.bk) hm h) hd
theorem iC {E : Value -> Shared -> Prop} {pins : List (Addr × Obj)} {s : Shared} {σ : St} {H : Hp} {x : Str} {u : Value} {pos : Pos} {Q : Value -> Shared -> Prop} (I : Inv X pins σ H s) (hg : Gl X x) (hm : X.mg x = none) (hv : bootBuiltins x = some u) (h : Q u s)
    (hn : x ≠ "__name__" := by decide) (hd : (x == ("__debug__" : Str)) = false := by decide) : wpAny (model X.prog X.w) X.A (eval (.Name x pos) X.env) Q E s := by
  obtain ⟨mb, h1, h2⟩ := I.mod.blt
  exact Calls.Name_function_global I.ok.kind hg (Calls.loadGlobal_builtin (by rw [I.ok.glob]; exact I.mod.glob.keeps I.bk) hm (by rw [I.ok.blt]; exact h1.keeps I.bk) ((h2 x hn).trans hv) h) hd
theorem vf {x : Str} {v : V} {u : Value} {pos : Pos} (hg : Gl X x) (hm : X.mg x = some u) (r : RelV v u) (hd : (x == ("__debug__" : Str)) = false := by decide) : PE X (.Name x pos) (tC v) :=
  fun _ _ _ H _ I h => iU I hg hm ⟨v, H, I, r, h⟩ hd
theorem vH {x : Str} {v : V} {u : Value} {pos : Pos} (hg : Gl X x) (hm : X.mg x = none) (hv : bootBuiltins x = some u) (r : RelV v u) (hn : x ≠ "__name__" := by decide) (hd : (x == ("__debug__" : Str)) = false := by decide) : PE X (.Name x pos) (tC v) :=
  fun _ _ _ H _ I h => iC I hg hm hv ⟨v, H, I, r, h⟩ hn hd
variable {a b : Expr} {ta tb : TE} {pos : Pos}
variable {tA tB' : TT} {rest : List Expr}
noncomputable def Iy (t u : TT) : TT := fun σ H Q => t σ H fun c H1 => if c = true then u σ H1 Q else Q false H1
noncomputable def tOr (t u : TT) : TT := fun σ H Q => t σ H fun c H1 => if c = true then Q true H1 else u σ H1 Q
noncomputable def Ht (t : TT) : TT := fun σ H Q => t σ H fun c H1 => Q (!c) H1
theorem pw_and1 (ha : PT X a tA) : PW X (.BoolOp .And [a] pos) tA := by
  intro wh pins s σ H Q I h
  refine isTrue_and (thn (ha pins s σ H Q I h) fun c s1 e => ?_)
  cases c with
  | true => exact isTrue_and_nil e
  | false => exact e
theorem pw_or1 (ha : PT X a tA) : PW X (.BoolOp .Or [a] pos) tA := by
  intro wh pins s σ H Q I h
  refine isTrue_or (thn (ha pins s σ H Q I h) fun c s1 e => ?_)
  cases c with
  | false => exact isTrue_or_nil e
  | true => exact e
theorem pw_and (ha : PT X a tA) (hb : PW X (.BoolOp .And (b :: rest) pos) tB') : PW X (.BoolOp .And (a :: b :: rest) pos) (Iy tA tB') := by
  intro wh pins s σ H Q I h
  refine isTrue_and (thn (ha pins s σ H _ I h) fun c s1 ⟨H1, I1, q1⟩ => ?_)
  cases c with
  | true => exact hb wh pins s1 σ H1 Q I1 q1
  | false => exact ⟨H1, I1, q1⟩
theorem pw_or (ha : PT X a tA) (hb : PW X (.BoolOp .Or (b :: rest) pos) tB') : PW X (.BoolOp .Or (a :: b :: rest) pos) (tOr tA tB') := by
  intro wh pins s σ H Q I h
  refine isTrue_or (thn (ha pins s σ H _ I h) fun c s1 ⟨H1, I1, q1⟩ => ?_)
  cases c with
  | true => exact ⟨H1, I1, q1⟩
  | false => exact hb wh pins s1 σ H1 Q I1 q1
theorem DZ (ha : PT X a tA) : PT X (.UnaryOp .Not a pos) (Ht tA) := by
  intro pins s σ H Q I h
  exact isTrue_not (ha pins s σ H (fun c H1 => Q (!c) H1) I h)
noncomputable def Fv (ta tb : TE) : TE := fun σ H Q => ta σ H fun x H1 => ∃ c, x = .bl c /\ if c = true then tb σ H1 Q else Q (.bl false) H1
noncomputable def F9 (ta : TE) : TE := fun σ H Q => ta σ H fun x H1 => ∃ c, x = .bl c /\ Q (.bl (!c)) H1
theorem E4 {op} {t : TE} (h : PE X a t) : PE X (.BoolOp op [a] pos) t := fun pins s σ H Q I hw => BoolOp_one (h pins s σ H Q I hw)
theorem ER (ha : PE X a ta) (hb : PE X (.BoolOp .And (b :: rest) pos) tb) : PE X (.BoolOp .And (a :: b :: rest) pos) (Fv ta tb) := by
  intro pins s σ H Q I h
  refine BoolOp_and (thn (ha pins s σ H _ I h) fun v s1 ⟨x, H1, I1, r1, q1⟩ => ?_)
  obtain ⟨c, rfl, q1⟩ := q1
  cases r1
  refine wpAny_truthy_bool ?_
  cases c with
  | true => exact hb pins s1 σ H1 Q I1 q1
  | false => exact ⟨.bl false, H1, I1, rfl, q1⟩
theorem EL (ha : PE X a ta) : PE X (.UnaryOp .Not a pos) (F9 ta) := by
  intro pins s σ H Q I h
  refine UnaryOp_ (thn (ha pins s σ H _ I h) fun v s1 ⟨x, H1, I1, r1, q1⟩ => ?_)
  obtain ⟨c, rfl, q1⟩ := q1
  cases r1
  exact not_of (wpAny_truthy_bool ⟨.bl (!c), H1, I1, rfl, q1⟩)
noncomputable def tIf (t : TT) (ta tb : TE) : TE := fun σ H Q => t σ H fun c H1 => if c = true then ta σ H1 Q else tb σ H1 Q
theorem yK {c : Expr} (hc : PT X c tA) (ha : PE X a ta) (hb : PE X b tb) : PE X (.IfExp c a b pos) (tIf tA ta tb) := by
  intro pins s σ H Q I h
  refine wpAny_IfExp (thn (hc pins s σ H _ I h) fun d s1 ⟨H1, I1, q1⟩ => ?_)
  cases d with
  | true => exact ha pins s1 σ H1 Q I1 q1
  | false => exact hb pins s1 σ H1 Q I1 q1
end
noncomputable def SqL (K : PySem.W.Frag) (H : Hp) (a : Addr) (xs : List V) : Prop :=
  Rd H a (.lst xs) ∨
    ∃ (o : Obj) (its : Array Value) (n : Nat), K.lookup a = some o /\ o.cls = .type "list" /\ o.dict = none /\ o.data = .seq its n /\ its.size <= sizeLine /\ Vals xs its.toList
noncomputable def SqT (K : PySem.W.Frag) (H : Hp) (a : Addr) (xs : List V) : Prop :=
  Rd H a (.tup xs) ∨
    ∃ (o : Obj) (its : Array Value) (n : Nat), K.lookup a = some o /\ o.cls = .type "tuple" /\ o.data = .seq its n /\ its.size <= sizeLine /\ Vals xs its.toList
noncomputable def Iq : Value -> Option V
  | .none => some .non
  | .bool b => some (.bl b)
  | .int i _ => some (.int i)
  | .str x _ => some (.str x)
  | .bytes b _ => some (.byt b)
  | .float b _ => some (.flt b)
  | .ref a => some (.ref a)
  | .type n => some (.ty n)
  | _ => none
theorem RelV.abs {x : V} {u : Value} (r : RelV x u) : Iq u = some x := by
  cases x with
  | non => cases r; rfl
  | bl _ => cases r; rfl
  | int _ => obtain ⟨t, rfl⟩ := r; rfl
  | str _ => obtain ⟨t, rfl⟩ := r; rfl
  | byt _ => obtain ⟨t, rfl⟩ := r; rfl
  | flt _ => obtain ⟨t, rfl⟩ := r; rfl
  | ref _ => cases r; rfl
  | ty _ => cases r; rfl
theorem RelV.inj {x y : V} {u : Value} (r : RelV x u) (q : RelV y u) : x = y := Option.some.inj (r.abs.symm.trans q.abs)
theorem Vals.inj : ∀ {xs ys : List V} {us : List Value}, Vals xs us -> Vals ys us -> xs = ys
  | _, _, _, .nil, .nil => rfl
  | _, _, _, .cons r t, .cons r' t' => by rw [r.inj r', Vals.inj t t']
section
variable {X : Cx} {pins : List (Addr × Obj)} {σ : St} {H : Hp} {s : Shared} {a : Addr} {xs ys : List V}
theorem SqL.of {K : PySem.W.Frag} (h : H a = some (.lst xs)) : SqL K H a xs := .inl (.inl h)
theorem SqT.of {K : PySem.W.Frag} (h : H a = some (.tup xs)) : SqT K H a xs := .inl (.inl h)
theorem Inv.list (I : Inv X pins σ H s) (h : SqL X.K H a xs) : ∃ its : List Value, Vals xs its /\ PlainL s.heap a its.toArray /\ xs.length <= sizeLine := by
  rcases h with h | ⟨o, its, n, hk, hc, hd, hs, hz, r⟩
  · obtain ⟨z, its, n, r, e⟩ := h.ok I.hok
    exact ⟨its, r, ⟨_, n, e, rfl, rfl, rfl⟩, z⟩
  · refine ⟨its.toList, r, ⟨o, n, I.kIn a o hk, hc, hd, by simpa using hs⟩, ?_⟩
    have e := r.length
    simp only [Array.length_toList] at e
    omega
theorem Inv.tuple (I : Inv X pins σ H s) (h : SqT X.K H a xs) : ∃ its : List Value, Vals xs its /\ IsTup s.heap a its.toArray /\ xs.length <= sizeLine := by
  rcases h with h | ⟨o, its, n, hk, hc, hs, hz, r⟩
  · obtain ⟨z, its, r, p⟩ := h.ok I.hok
    exact ⟨its, r, p.tup, z⟩
  · refine ⟨its.toList, r, ⟨o, I.kIn a o hk, hc, n, by simpa using hs⟩, ?_⟩
    have e := r.length
    simp only [Array.length_toList] at e
    omega
theorem Inv.iG (I : Inv X pins σ H s) (h : SqL X.K H a xs) (h' : SqL X.K H a ys) : xs = ys := by
  obtain ⟨its, r, ⟨o, n, e, _, _, d⟩, _⟩ := I.list h
  obtain ⟨its', r', ⟨o', n', e', _, _, d'⟩, _⟩ := I.list h'
  rw [e] at e'; cases e'
  rw [d] at d'
  injection d' with d1 _
  have : its = its' := by simpa using congrArg Array.toList d1
  subst this
  exact r.inj r'
theorem Inv.gm (I : Inv X pins σ H s) (h : SqT X.K H a xs) (h' : SqT X.K H a ys) : xs = ys := by
  obtain ⟨its, r, ⟨o, e, _, n, d⟩, _⟩ := I.tuple h
  obtain ⟨its', r', ⟨o', e', _, n', d'⟩, _⟩ := I.tuple h'
  rw [e] at e'; cases e'
  rw [d] at d'
  injection d' with d1 _
  have : its = its' := by simpa using congrArg Array.toList d1
  subst this
  exact r.inj r'
end
noncomputable abbrev Cx.kn (X : Cx) (E : Value -> Shared -> Prop) : Cx := { X with xe := E }
noncomputable abbrev Cx.nox (X : Cx) : Cx := X.kn fun _ _ => False
theorem Cx.Ok.kn {X : Cx} (ok : X.Ok) (E : Value -> Shared -> Prop) : (X.kn E).Ok :=
  ⟨ok.mod, ok.kind, ok.glob, ok.blt, ok.above, ok.inj, ok.has, ok.cab, ok.hd, ok.frames, ok.stk, ok.exf, ok.bs, ok.bsz, ok.oH, ok.sW, ok.iZ, ok.frf⟩
theorem Cx.Ok.fc {X : Cx} {E : Value -> Shared -> Prop} (ok : (X.kn E).Ok) : X.Ok :=
  ⟨ok.mod, ok.kind, ok.glob, ok.blt, ok.above, ok.inj, ok.has, ok.cab, ok.hd, ok.frames, ok.stk, ok.exf, ok.bs, ok.bsz, ok.oH, ok.sW, ok.iZ, ok.frf⟩
section
variable {X : Cx} {pins : List (Addr × Obj)} {σ : St} {H : Hp} {s : Shared} {E : Value -> Shared -> Prop}
theorem Inv.kn (I : Inv X pins σ H s) (E : Value -> Shared -> Prop) : Inv (X.kn E) pins σ H s := ⟨I.ok.kn E, I.os, I.bare, I.base, I.loc, I.cell, I.free, I.dC, I.pin, I.hok, I.len⟩
theorem Inv.fc (I : Inv (X.kn E) pins σ H s) : Inv X pins σ H s := ⟨I.ok.fc, I.os, I.bare, I.base, I.loc, I.cell, I.free, I.dC, I.pin, I.hok, I.len⟩
theorem SP.fc {D : Ends} {f : Flow} {s' : Shared} (h : SP (X.kn E) pins D f s') : SP X pins D f s' := by
  cases f with
  | next => obtain ⟨σ', H', I, q⟩ := h; exact ⟨σ', H', I.fc, q⟩
  | brk => obtain ⟨σ', H', I, q⟩ := h; exact ⟨σ', H', I.fc, q⟩
  | cont => obtain ⟨σ', H', I, q⟩ := h; exact ⟨σ', H', I.fc, q⟩
  | ret u => obtain ⟨v, σ', H', I, r, q⟩ := h; exact ⟨v, σ', H', I.fc, r, q⟩
theorem PE.nox {e : Expr} {t : TE} (h : PE X.nox e t) : PE X e t := fun pins s σ H Q I hw =>
  wpAny_mono (h pins s σ H Q (I.kn _) hw) (fun _ _ ⟨v, H', I', r, q⟩ => ⟨v, H', I'.fc, r, q⟩) fun _ _ z => False.elim z
theorem PT.nox {e : Expr} {t : TT} (h : PT X.nox e t) : PT X e t := fun pins s σ H Q I hw =>
  wpAny_mono (h pins s σ H Q (I.kn _) hw) (fun _ _ ⟨H', I', q⟩ => ⟨H', I'.fc, q⟩) fun _ _ z => False.elim z
theorem PSs.nox {st : List Stmt} {t : TS} (h : PSs X.nox st t) : PSs X st t := fun pins s σ H D I hw =>
  wpAny_mono (h pins s σ H D (I.kn _) hw) (fun _ _ q => q.fc) fun _ _ z => False.elim z
end
section
variable {X : Cx} {st : Stmt} {rest : List Stmt} {t u : TS} {e : Expr} {te : TE} {pos : Pos}
noncomputable def FH : TS := fun D σ H => D.nx σ H
noncomputable def Hm (t u : TS) : TS := fun D σ H => t { D with nx := u D } σ H
theorem Bv : PSs X [] FH := fun _ _ σ H _ I h => wpAny_execs_nil ⟨σ, H, I, h⟩
theorem yz (h1 : PS X st t) (h2 : PSs X rest u) : PSs X (st :: rest) (Hm t u) := by
  intro pins s σ H D I h
  refine wpAny_execs_cons (thn (h1 pins s σ H { D with nx := u D } I h) fun f s1 q => ?_)
  cases f with
  | next =>
    obtain ⟨σ', H', I', q⟩ := q
    exact h2 pins s1 σ' H' D I' q
  | ret v => exact q
  | brk => exact q
  | cont => exact q
theorem uA (h1 : PS X st t) : PSs X [st] t := by
  intro pins s σ H D I h
  refine wpAny_execs_cons (thn (h1 pins s σ H D I h) fun f s1 q => ?_)
  cases f with
  | next => exact wpAny_execs_nil q
  | ret v => exact q
  | brk => exact q
  | cont => exact q
theorem Inv.quiet {pins : List (Addr × Obj)} {σ : St} {H : Hp} {s : Shared} (I : Inv X pins σ H s) : interactive X.env = false := by simp [interactive, I.ok.kind]
noncomputable def GK (te : TE) : TS := fun D σ H => te σ H fun _ H1 => D.nx σ H1
theorem A5 (he : PE X e te) (hs : swapsWith e none pos.line X.env = pure false := by rfl) : PS X (.Expr e pos) (GK te) := by
  intro pins s σ H D I h
  exact wpAny_Expr_any (thn (he pins s σ H _ I h) fun v s1 ⟨x, H1, I1, r1, q1⟩ => ⟨σ, H1, I1, q1⟩) I.quiet hs
noncomputable def Ic (te : TE) : TS := fun D σ H => te σ H D.rt
theorem yr (he : PE X e te) : PS X (.Return (some e) pos) (Ic te) := by
  intro pins s σ H D I h
  exact wpAny_Return_some (thn (he pins s σ H _ I h) fun v s1 ⟨x, H1, I1, r1, q1⟩ => ⟨x, σ, H1, I1, r1, q1⟩)
noncomputable def Il (c : TT) (t u : TS) : TS := fun D σ H => c σ H fun b H1 => if b = true then t D σ H1 else u D σ H1
theorem F8 {c : Expr} {a b : List Stmt} {tc : TT} (hc : PT X c tc) (ha : PSs X a t) (hb : PSs X b u) : PS X (.If c a b pos) (Il tc t u) := by
  intro pins s σ H D I h
  refine wpAny_If (thn (hc pins s σ H _ I h) fun d s1 ⟨H1, I1, q1⟩ => ?_)
  cases d with
  | true => exact ha pins s1 σ H1 D I1 q1
  | false => exact hb pins s1 σ H1 D I1 q1
noncomputable def DF : TS := fun _ _ _ => False
theorem AG : PS X st DF := fun _ _ _ _ _ _ h => h.elim
end
noncomputable abbrev TG := V -> St -> Hp -> (St -> Hp -> Prop) -> Prop
noncomputable abbrev TGs := List V -> St -> Hp -> (St -> Hp -> Prop) -> Prop
noncomputable def PG (X : Cx) (target : Expr) (t : TG) : Prop :=
  ∀ (pins : List (Addr × Obj)) (s : Shared) (σ : St) (H : Hp) (v : V) (u : Value) (Q : St -> Hp -> Prop), Inv X pins σ H s -> RelV v u -> t v σ H Q →
    wpAny (model X.prog X.w) X.A (assign target X.env u) (fun _ s' => ∃ σ' H', Inv X pins σ' H' s' /\ Q σ' H') X.xe s
noncomputable def PGs (X : Cx) (ts : List Expr) (t : TGs) : Prop :=
  ∀ (pins : List (Addr × Obj)) (s : Shared) (σ : St) (H : Hp) (vs : List V) (us : List Value) (Q : St -> Hp -> Prop), Inv X pins σ H s -> Vals vs us -> t vs σ H Q →
    wpAny (model X.prog X.w) X.A (assignInOrder ((assignEach ts X.env).map (·.2)) us) (fun _ s' => ∃ σ' H', Inv X pins σ' H' s' /\ Q σ' H') X.xe s
noncomputable abbrev yW := V -> V -> V -> Hp -> (Hp -> Prop) -> Prop
noncomputable def EO (X : Cx) (t : yW) : Prop :=
  ∀ (pins : List (Addr × Obj)) (s : Shared) (σ : St) (H : Hp) (o i v : V) (ov iv u : Value) (Q : Hp -> Prop), Inv X pins σ H s -> RelV o ov -> RelV i iv -> RelV v u -> t o i v H Q →
    wpAny (model X.prog X.w) X.A (setItem ov iv u) (fun _ s' => ∃ H', Inv X pins σ H' s' /\ Q H') X.xe s
section
variable {X : Cx} {pos : Pos}
noncomputable def eC (i : Nat) : TG := fun v σ H Q => Q (σ.set i (some v)) H
theorem bf {i : Nat} {x : Str} (hN : X.N.Nodup) (hi : X.N[i]? = some x) (hx : Loc X.env.scope x) (hf : X.fn x = true \/ X.env.scope.names.lookup x = some .local := by first | exact .inl rfl | exact .inr rfl | assumption) : PG X (.Name x pos) (eC i) := by
  intro pins s σ H v u Q I r h
  exact wpAny_assign_Name (iJ I hN hi hx r (fun s' I' => ⟨_, H, I', h⟩) hf)
noncomputable def yR : TGs := fun vs σ H Q => vs = [] /\ Q σ H
noncomputable def jQ (t : TG) (u : TGs) : TGs := fun vs σ H Q => ∃ v r, vs = v :: r /\ t v σ H fun σ' H' => u r σ' H' Q
theorem jK : PGs X [] yR := by
  intro pins s σ H vs us Q I r h
  obtain ⟨e, h⟩ := h
  subst e
  cases r
  exact assignInOrder_nil ⟨σ, H, I, h⟩
theorem dk {e : Expr} {es : List Expr} {t : TG} {u : TGs} (h1 : PG X e t) (h2 : PGs X es u)
    (hs : (assignEach (e :: es) X.env).map (·.2) = assign e X.env :: (assignEach es X.env).map (·.2) := by rfl) : PGs X (e :: es) (jQ t u) := by
  intro pins s σ H vs us Q I r h
  obtain ⟨v, vr, e1, h⟩ := h
  subst e1
  cases r with
  | cons r rr =>
    rw [hs]
    refine assignInOrder_cons (thn (h1 pins s σ H _ _ _ I r h) fun _ s1 ⟨σ1, H1, I1, q1⟩ => ?_)
    exact h2 pins s1 σ1 H1 _ _ Q I1 rr q1
noncomputable def Ae (K : PySem.W.Frag) (n : Nat) (t : TGs) : TG := fun v σ H Q => ∃ a xs, v = .ref a /\ SqT K H a xs /\ xs.length = n /\ t xs σ H Q
theorem lV {es : List Expr} {k : Nat} {t : TGs} {n : Nat} (hc : X.calm = true) (h : PGs X es t)
    (hn : (assignEach es X.env).length = n := by rfl) (hst : (assignEach es X.env).findIdx? (·.1) = none := by rfl) : PG X (.Tuple es k pos) (Ae X.K n t) := by
  intro pins s σ H v u Q I r hw
  obtain ⟨a, xs, e1, hq, hl, hw⟩ := hw
  subst e1
  cases r
  obtain ⟨its, rv, ht, hz⟩ := I.tuple hq
  refine assign_Tuple_tuple (I.ok.hd hc) ht (by simp [hn, <- hl, rv.length]) hst fun h' hx => ?_
  have I1 : Inv X pins σ H { s with heap := h' } := I.kept (t' := s.toks) fun b o e => hx b o (Nat.ne_of_lt (Heap.lt_size e)) e
  exact h pins _ σ H xs _ Q I1 (by simpa using rv) hw
noncomputable def Iu (to ti : TE) (t : yW) : TG := fun v σ H Q => to σ H fun o H1 => ti σ H1 fun i H2 => t o i v H2 fun H3 => Q σ H3
theorem DU {o i : Expr} {to ti : TE} {t : yW} (ho : PE X o to) (hi : PE X i ti) (hs : EO X t)
    (ha : ∀ v, assign (.Subscript o i pos) X.env v = (do
      let ov ← holding [v] (eval o X.env)
      let iv ← holding [v, ov] (eval i X.env)
      standAt pos
      holding [v, ov, iv] (setItem ov iv v)
      release [v, ov, iv] []) := by intro _; rfl) : PG X (.Subscript o i pos) (Iu to ti t) := by
  intro pins s σ H v u Q I r h
  rw [ha]
  refine wpAny_bind (wpAny_holding (thn (ho pins s σ H _ I h) fun ov s1 ⟨x, H1, I1, r1, q1⟩ => ?_))
  refine wpAny_bind (wpAny_holding (thn (hi pins s1 σ H1 _ I1 q1) fun iv s2 ⟨y, H2, I2, r2, q2⟩ => ?_))
  refine wpAny_bind (wpAny_standAt (wpAny_bind (wpAny_holding (thn (hs pins s2 σ H2 x y v ov iv u _ I2 r1 r2 r q2) fun _ s3 ⟨H3, I3, q3⟩ => ?_))))
  exact wpAny_release ⟨σ, H3, I3, q3⟩
noncomputable def GU (te : TE) (g : TG) : TS := fun D σ H => te σ H fun x H1 => g x σ H1 D.nx
theorem E_ {tg e : Expr} {te : TE} {g : TG} (he : PE X e te) (hg : PG X tg g) (hs : swapsWithSole [tg] e pos.line X.env = pure false := by rfl) (hw : swappedStores [tg] e X.env = pure none := by rfl)
    (h1 : (assignEach [tg] X.env).map (·.2) = [assign tg X.env] := by rfl) : PS X (.Assign [tg] e pos) (GU te g) := by
  intro pins s σ H D I h
  refine wpAny_Assign_stores (thn (he pins s σ H _ I h) fun v s1 ⟨x, H1, I1, r1, q1⟩ => ?_) hs hw
  rw [h1]
  exact thn (hg pins s1 σ H1 x v _ I1 r1 q1) fun _ s2 q => q
theorem DH {i : Nat} {x : Str} {e : Expr} {te : TE} {pos' : Pos} (hN : X.N.Nodup) (hi : X.N[i]? = some x) (hx : Loc X.env.scope x) (he : PE X e te) (hs : swapsWith e (some (.Name x pos')) pos.line X.env = pure false := by rfl) (hf : X.fn x = true \/ X.env.scope.names.lookup x = some .local := by first | exact .inl rfl | exact .inr rfl | assumption) :
    PS X (.Assign [.Name x pos'] e pos) (GU te (eC i)) := by
  intro pins s σ H D I h
  refine wpAny_Assign_Name (thn (he pins s σ H _ I h) fun v s1 ⟨y, H1, I1, r1, q1⟩ => ?_) hs
  exact iJ I1 hN hi hx r1 (fun s2 I2 => ⟨_, H1, I2, q1⟩) hf
noncomputable def He (i j : Nat) (ta : TA) : TS := fun D σ H => ta σ H fun vs H1 => ∃ v w, vs = [v, w] /\ D.nx ((σ.set i (some v)).set j (some w)) H1
theorem Ea {i j : Nat} {x y : Str} {a b : Expr} {ta : TA} {px py pt : Pos} {kt k2 pt2} (hc : X.calm = true) (hN : X.N.Nodup) (hi : X.N[i]? = some x) (hj : X.N[j]? = some y) (hij : i ≠ j)
    (hx : X.env.scope.names.lookup x = some .local) (hy : X.env.scope.names.lookup y = some .local) (ha : PA X [a, b] ta)
    (hw : swappedStores [.Tuple [.Name x px, .Name y py] kt pt] (.Tuple [a, b] k2 pt2) X.env = pure (some [x, y]))
    (hs : swapsWithSole [.Tuple [.Name x px, .Name y py] kt pt] (.Tuple [a, b] k2 pt2) pos.line X.env = pure false := by rfl) :
    PS X (.Assign [.Tuple [.Name x px, .Name y py] kt pt] (.Tuple [a, b] k2 pt2) pos) (He i j ta) := by
  intro pins s σ H D I h
  rw [exec_Assign_arm]
  refine wpAny_bind (wpAny_standAt ?_)
  rw [hs]
  refine wpAny_bind (wpAny_pure ?_)
  rw [if_neg (by decide)]
  refine wpAny_bind (Tuple_ (thn (ha _ pins s σ H _ I h) fun us s1 ⟨vs, H1, I1, r1, q1⟩ => ?_))
  obtain ⟨v, w, e1, q1⟩ := q1
  subst e1
  obtain ⟨u1, u2, rfl, rv, rw'⟩ : ∃ u1 u2, us = [u1, u2] /\ RelV v u1 /\ RelV w u2 := by
    cases r1 with
    | cons p q =>
      cases q with
      | cons p' q' =>
        cases q'
        exact ⟨_, _, rfl, p, p'⟩
  refine wpAny_newObj_type ?_ (by show 2 <= sizeLine; decide)
  have I2 : Inv X pins σ H1 { s1 with heap := s1.heap.push { cls := .type "tuple", data := .seq [u1, u2].toArray } } := I1.kept (t' := s1.toks) fun b o e => Heap.get?_push_of_some _ e
  rw [hw]
  refine wpAny_bind (wpAny_pure ?_)
  show wpAny (model X.prog X.w) X.A (do rule "assign.swapped-stores"; let items ← unpackItems (.ref s1.heap.objs.size) 2 none; assignInOrder [fun v => bindName X.env y v, fun v => bindName X.env x v] items.reverse; pure Flow.next) _ _ _
  refine wpAny_bind (wpAny_rule (wpAny_bind (unpackItems_tuple (items := #[u1, u2]) (I.ok.hd hc) (IsTup.new s1.heap _) fun h' hx' => ?_)))
  have I3 := I2.kept (h' := h') (t' := s1.toks) fun b o e => hx' b o (Nat.ne_of_lt (Heap.lt_size e)) e
  show wpAny _ _ (assignInOrder [fun v => bindName X.env y v, fun v => bindName X.env x v] [u2, u1] >>= fun _ => pure Flow.next) _ _ _
  refine wpAny_bind (assignInOrder_cons (wpAny_bindName (iJ I3 hN hj (.inl hy) rw' (fun s2 I4 => ?_) (.inr hy))))
  refine assignInOrder_cons (wpAny_bindName (iJ I4 hN hi (.inl hx) rv (fun s3 I5 => assignInOrder_nil (wpAny_pure ?_)) (.inr hx)))
  rw [List.set_comm _ _ (Ne.symm hij)] at I5
  exact ⟨_, H1, I5, q1⟩
end
section
variable {X : Cx} {pos : Pos}
noncomputable def Dw (c : TT) (tb : TS) : TS := fun D σ H => ∃ W : Nat -> St -> Hp -> Prop, (∃ m, W m σ H) /\ ∀ m σ H, W m σ H →
  c σ H fun b H1 => if b = true then ∃ N : St -> Hp -> Prop, (∀ σ' H', N σ' H' -> ∃ m', m' < m /\ W m' σ' H') /\ tb { D with nx := N, ct := N, bk := D.nx } σ H1 else D.nx σ H1
theorem xY {c : Expr} {body : List Stmt} {tc : TT} {tb : TS} (hp : PassesOwn (model X.prog X.w) X.A X.env X.xe) (hc : PT X c tc) (hb : PSs X body tb) : PS X (.While c body [] pos) (Dw tc tb) := by
  intro pins s σ H D I h
  obtain ⟨W, ⟨m0, w0⟩, turn⟩ := h
  refine wpAny_While (codeAny_whileLoop (fun n s' => ∃ σ' H', Inv X pins σ' H' s' /\ W n σ' H') ?_ m0 ⟨σ, H, I, w0⟩)
  rintro n s1 ⟨σ1, H1, I1, w1⟩
  refine wpAny_passesOwn hp (thn (hc pins s1 σ1 H1 _ I1 (turn n σ1 H1 w1)) fun b s2 ⟨H2, I2, q2⟩ => ?_)
  cases b with
  | true =>
    obtain ⟨N, hN, q2⟩ := q2
    rw [if_pos rfl]
    refine wpAny_passesOwn hp (thn (hb pins s2 σ1 H2 _ I2 q2) fun f s3 q3 => ?_)
    cases f with
    | next =>
      obtain ⟨σ3, H3, I3, n3⟩ := q3
      obtain ⟨m', hm, w3⟩ := hN σ3 H3 n3
      exact ⟨m', hm, σ3, H3, I3, w3⟩
    | cont =>
      obtain ⟨σ3, H3, I3, n3⟩ := q3
      obtain ⟨m', hm, w3⟩ := hN σ3 H3 n3
      exact ⟨m', hm, σ3, H3, I3, w3⟩
    | brk => exact q3
    | ret v => exact q3
  | false =>
    rw [if_neg Bool.false_ne_true]
    exact wpAny_execs_nil ⟨σ1, H2, I2, q2⟩
end
structure It where
  go : Nat -> Hp -> Prop
  yld : Nat -> Hp -> V -> Hp -> Prop
  stop : Nat -> Hp -> Prop
noncomputable def kH (X : Cx) (pins : List (Addr × Obj)) (H : Hp) (b : Addr) : Prop :=
  H b = none /\ b ≠ X.env.locals /\ b ∉ X.fs /\ (b ∈ X.ex \/ X.ay.heap.objs.size <= b) /\ (∀ x c, X.env.cells.lookup x = some c -> c ≠ b) /\ ∀ p ∈ X.pn ++ pins, p.1 ≠ b
theorem Inv.xa {X : Cx} {pins : List (Addr × Obj)} {σ : St} {H H' : Hp} {s : Shared} {b : Addr} (I : Inv X pins σ H s) (hb : s.heap.objs.size <= b) (hn : H' b = none) : kH X pins H' b := by
  refine ⟨hn, Nat.ne_of_gt (Nat.lt_of_lt_of_le I.lt hb), I.EM hb, .inr (Nat.le_trans I.sz hb), fun x c e z => ?_, fun p hp z => ?_⟩
  · obtain ⟨v, q⟩ := I.cell x c e
    exact absurd (Nat.lt_of_lt_of_le q.lt (by rw [z]; exact hb)) (Nat.lt_irrefl _)
  · exact absurd (Nat.lt_of_lt_of_le (Heap.lt_size (I.pin p hp).1) (by rw [z]; exact hb)) (Nat.lt_irrefl _)
structure Turn (P : Program) (w : World) (K : PySem.W.Frag) (tg : Expr) (J : It) (fp : List Addr) (it : Addr) (tn : Nat -> Heap -> Prop) : Prop where
  mem : it ∈ fp
  obj : ∀ i h, tn i h -> ∀ b ∈ fp, ∃ o, h.get? b = some o /\ ∀ v, o.data ≠ .cell v
  keep : ∀ i h h', tn i h -> (∀ b ∈ fp, ∀ o, h.get? b = some o -> h'.get? b = some o) -> tn i h'
  item : ∀ (X : Cx), X.prog = P -> X.w = w -> X.K = K -> X.calm = true -> ∀ (i : Nat) (pins : List (Addr × Obj)) (s : Shared) (σ : St) (H : Hp) (E : Value -> Shared -> Prop), Inv X pins σ H s -> (∀ b ∈ fp, kH X pins H b) -> tn i s.heap -> J.go i H →
    wpAny (model P w) X.A (pyNext (.ref it)) (fun r s1 => ∃ u, r = some u ∧
      wpAny (model P w) X.A (letOwnedTupleGo tg (.ref it) u) (fun _ s2 => ∃ x H', Inv X pins σ H' s2 /\ RelV x u /\ J.yld i H x H' /\ tn (i + 1) s2.heap /\ ∀ b ∈ fp, H' b = none) E s1) E s
  done : ∀ (X : Cx), X.prog = P -> X.w = w -> X.K = K -> X.calm = true -> ∀ (i : Nat) (pins : List (Addr × Obj)) (s : Shared) (σ : St) (H : Hp) (E : Value -> Shared -> Prop), Inv X pins σ H s -> (∀ b ∈ fp, kH X pins H b) -> tn i s.heap -> J.stop i H →
    wpAny (model P w) X.A (pyNext (.ref it)) (fun r s1 => r = none /\ Inv X pins σ H s1) E s
  self : ∀ (A : Around) (i : Nat) (s : Shared) (Q : Value -> Shared -> Prop) (E : Value -> Shared -> Prop), tn i s.heap -> Q (.ref it) s -> wpAny (model P w) A (pyIter (.ref it)) Q E s
noncomputable abbrev TI := St -> Hp -> (It -> Hp -> Prop) -> Prop
noncomputable def PIE (X : Cx) (pins : List (Addr × Obj)) (σ : St) (tg : Expr) (R : It -> Hp -> Prop) (itv : Value) (s2 : Shared) : Prop :=
  ∃ (it : Addr) (fp : List Addr) (tn : Nat -> Heap -> Prop) (J : It) (H' : Hp), itv = .ref it /\ Inv X pins σ H' s2 /\ Turn X.prog X.w X.K tg J fp it tn /\ tn 0 s2.heap /\ (∀ b ∈ fp, kH X pins H' b) /\ R J H'
noncomputable def PI (X : Cx) (tg iter : Expr) (wi : TI) : Prop :=
  ∀ (pins : List (Addr × Obj)) (s : Shared) (σ : St) (H : Hp) (R : It -> Hp -> Prop), Inv X pins σ H s -> wi σ H R →
    wpAny (model X.prog X.w) X.A (eval iter X.env) (fun v s1 => wpAny (model X.prog X.w) X.A (pyIter v) (PIE X pins σ tg R) X.xe s1) X.xe s
theorem vC {M : Model} {A : Around} {E : Value -> Shared -> Prop} {s : Shared} {tg : Expr} {it : Addr} {u : Value} {o : Obj} {n : String} {vs : Array Value} {Q : Unit -> Shared -> Prop} (ho : s.heap.get? it = some o) (hc : o.cls = .type n) (hd : o.data = .fields vs)
    (hn : ["enumerate", "zip", "dict_itemiterator", "dict_reverseitemiterator", "odict_iterator", "itertools.zip_longest", "itertools.pairwise"].contains n = false) (hQ : Q () s) : wpAny M A (letOwnedTupleGo tg (.ref it) u) Q E s := by
  unfold letOwnedTupleGo
  cases tg <;> first
    | exact wpAny_pure hQ
    | (cases u <;> first
        | exact wpAny_pure hQ
        | (refine wpAny_bind (wpAny_load ho ?_)
           rw [hc, hd]
           show wpAny M A (if (["enumerate", "zip", "dict_itemiterator", "dict_reverseitemiterator", "odict_iterator", "itertools.zip_longest", "itertools.pairwise"].contains n && vs[0]? == some (rawInt _)) = true then _ else _) Q E s
           rw [if_neg (by intro h; rw [hn, Bool.false_and] at h; cases h)]
           exact wpAny_pure hQ))
noncomputable def Itl (K : PySem.W.Frag) (a : Addr) : It :=
  ⟨fun i H => ∃ xs x, SqL K H a xs /\ xs[i]? = some x, fun i H x H' => H' = H /\ ∀ xs, SqL K H a xs -> xs[i]? = some x, fun i H => ∃ xs, SqL K H a xs /\ xs.length <= i⟩
noncomputable def Itt (K : PySem.W.Frag) (a : Addr) : It :=
  ⟨fun i H => ∃ xs x, SqT K H a xs /\ xs[i]? = some x, fun i H x H' => H' = H /\ ∀ xs, SqT K H a xs -> xs[i]? = some x, fun i H => ∃ xs, SqT K H a xs /\ xs.length <= i⟩
noncomputable def Itr (lo : Int) (n : Nat) : It := ⟨fun i _ => i < n, fun i H x H' => H' = H /\ x = .int (lo + i), fun i _ => n <= i⟩
theorem wq {P : Program} {w : World} {K : PySem.W.Frag} {tg : Expr} (a it : Addr) : Turn P w K tg (Itl K a) [it] it (fun i h => h.IsListIter it a i) where
  mem := by simp
  obj := fun i h st b hb => by
    have e : b = it := by simpa using hb
    subst e
    obtain ⟨o, e, c, d⟩ := st
    exact ⟨o, e, fun v z => by rw [d] at z; cases z⟩
  keep := fun i h h' st k => st.at fun o e => k it (by simp) o e
  item := by
    intro X hP hw hK hc i pins s σ H E I hf st hg
    subst hP hw hK
    obtain ⟨xs, x, hq, hx⟩ := hg
    obtain ⟨its, rv, p, hz⟩ := I.list hq
    obtain ⟨u, hu, ru⟩ := rv.get hx
    obtain ⟨f0, f1, f2, f3, f4, f5⟩ := hf it (by simp)
    refine wpAny_pyNext_list_item st p.isList (x := u) (by simpa using hu) fun h' st' sb => ?_
    have I1 : Inv X pins σ H { s with heap := h' } := I.turned (t' := s.toks) (fun b o hb e => (sb.2 b hb).trans e) f0 f1 f3 f4 f5
    obtain ⟨o, e, c, d⟩ := id st'
    exact ⟨u, rfl, vC (s := { s with heap := h' }) e c d (by decide) ⟨x, H, I1, ru, ⟨rfl, fun ys hy => by rw [I.iG hy hq]; exact hx⟩, st', fun b hb => (hf b hb).1⟩⟩
  done := by
    intro X hP hw hK hc i pins s σ H E I hf st hg
    subst hP hw hK
    obtain ⟨xs, hq, hx⟩ := hg
    obtain ⟨its, rv, p, hz⟩ := I.list hq
    obtain ⟨f0, f1, f2, f3, f4, f5⟩ := hf it (by simp)
    have hl := rv.length
    exact wpAny_pyNext_list_end (I.ok.hd hc) st p.isList (by simp; omega) fun h' eb => ⟨rfl, I.turned (t' := s.toks) (fun b o hb e => eb b o hb e) f0 f1 f3 f4 f5⟩
  self := fun _ _ _ _ _ st h => wpAny_pyIter_listiter st h
theorem tK {P : Program} {w : World} {K : PySem.W.Frag} {tg : Expr} (a it : Addr) : Turn P w K tg (Itt K a) [it] it (fun i h => h.IsTupleIter it a i) where
  mem := by simp
  obj := fun i h st b hb => by
    have e : b = it := by simpa using hb
    subst e
    obtain ⟨o, e, c, d⟩ := st
    exact ⟨o, e, fun v z => by rw [d] at z; cases z⟩
  keep := fun i h h' st k => st.at fun o e => k it (by simp) o e
  item := by
    intro X hP hw hK hc i pins s σ H E I hf st hg
    subst hP hw hK
    obtain ⟨xs, x, hq, hx⟩ := hg
    obtain ⟨its, rv, p, hz⟩ := I.tuple hq
    obtain ⟨u, hu, ru⟩ := rv.get hx
    obtain ⟨f0, f1, f2, f3, f4, f5⟩ := hf it (by simp)
    refine wpAny_pyNext_tuple_item st (show s.heap.IsTuple a its.toArray from p) (x := u) (by simpa using hu) fun h' st' sb => ?_
    have I1 : Inv X pins σ H { s with heap := h' } := I.turned (t' := s.toks) (fun b o hb e => (sb.2 b hb).trans e) f0 f1 f3 f4 f5
    obtain ⟨o, e, c, d⟩ := id st'
    exact ⟨u, rfl, vC (s := { s with heap := h' }) e c d (by decide) ⟨x, H, I1, ru, ⟨rfl, fun ys hy => by rw [I.gm hy hq]; exact hx⟩, st', fun b hb => (hf b hb).1⟩⟩
  done := by
    intro X hP hw hK hc i pins s σ H E I hf st hg
    subst hP hw hK
    obtain ⟨xs, hq, hx⟩ := hg
    obtain ⟨its, rv, p, hz⟩ := I.tuple hq
    obtain ⟨f0, f1, f2, f3, f4, f5⟩ := hf it (by simp)
    have hl := rv.length
    exact wpAny_pyNext_tuple_end (I.ok.hd hc) st (show s.heap.IsTuple a its.toArray from p) (by simp; omega) fun h' eb => ⟨rfl, I.turned (t' := s.toks) (fun b o hb e => eb b o hb e) f0 f1 f3 f4 f5⟩
  self := fun _ _ _ _ _ st h => wpAny_pyIter_tupleiter st h
theorem uu {P : Program} {w : World} {K : PySem.W.Frag} {tg : Expr} (it : Addr) (lo : Int) (n : Nat) : Turn P w K tg (Itr lo n) [it] it (fun i h => IsRangeIter h it (lo + (i : Nat) * 1) ((n : Int) - (i : Nat)) 1) where
  mem := by simp
  obj := fun i h st b hb => by
    have e : b = it := by simpa using hb
    subst e
    exact ⟨_, st, fun v z => by
      have z' : Data.fields _ = Data.cell v := z
      cases z'⟩
  keep := fun i h h' st k => k it (by simp) _ st
  item := by
    intro X hP hw hK hc i pins s σ H E I hf st hg
    subst hP hw hK
    obtain ⟨f0, f1, f2, f3, f4, f5⟩ := hf it (by simp)
    have W := Walks.range (prog := X.prog) (w := X.w) (I.ok.hd hc) it lo 1 n
    refine W.item i s _ _ hg st fun v h' tk hv st' kk => ?_
    obtain ⟨t, rfl⟩ := hv
    have I1 : Inv X pins σ H { s with heap := h', toks := tk } := I.turned (fun b o hb e => kk b o (by simpa using hb) e) f0 f1 f3 f4 f5
    refine ⟨_, rfl, vC (s := { s with heap := h', toks := tk }) (n := "range_iterator") st' rfl rfl (by decide) ⟨.int (lo + i), H, I1, ⟨t, ?_⟩, ⟨rfl, rfl⟩, st', fun b hb => (hf b hb).1⟩⟩
    rw [Int.mul_one]
  done := by
    intro X hP hw hK hc i pins s σ H E I hf st hg
    subst hP hw hK
    obtain ⟨f0, f1, f2, f3, f4, f5⟩ := hf it (by simp)
    exact wpAny_pyNext_range_end (I.ok.hd hc) st (by have : n <= i := hg; omega) fun h' eb => ⟨rfl, I.turned (t' := s.toks) (fun b o hb e => eb b o hb e) f0 f1 f3 f4 f5⟩
  self := fun _ _ _ _ _ st h => wpAny_pyIter_rangeiter st h
section
variable {X : Cx} {tg : Expr}
theorem zq {pins : List (Addr × Obj)} {σ : St} {H : Hp} {s : Shared} {R : It -> Hp -> Prop} {E : Value -> Shared -> Prop} {lo hi : Int} {t u v : Tok} {tk : Nat} (I : Inv X pins σ H s) (h1 : -(2 ^ 62) <= lo) (h2 : lo < 2 ^ 62) (h3 : -(2 ^ 62) <= hi) (h4 : hi < 2 ^ 62)
    (q : R (Itr lo (hi - lo).toNat) H) : wpAny (model X.prog X.w) X.A (pyIter (.ref s.heap.objs.size)) (PIE X pins σ tg R) E { s with heap := s.heap.push { cls := .type "range", data := .fields #[.int lo t, .int hi u, .int 1 v] }, toks := tk } := by
  refine wpAny_pyIter_range (IsRange.new ..) (small_one h1 h2 h3 h4) ?_
  have I1 : Inv X pins σ H { s with heap := s.heap.push { cls := .type "range", data := .fields #[.int lo t, .int hi u, .int 1 v] }, toks := tk } := I.kept fun b o e => Heap.get?_push_of_some _ e
  refine ⟨(s.heap.push { cls := .type "range", data := .fields #[.int lo t, .int hi u, .int 1 v] }).objs.size, [(s.heap.push { cls := .type "range", data := .fields #[.int lo t, .int hi u, .int 1 v] }).objs.size], _, _, H, rfl,
    I1.kept (t' := tk) fun b o e => Heap.get?_push_of_some _ e, uu _ lo (hi - lo).toNat, ?_, fun b hb => ?_, q⟩
  · have e1 : lo + ((0 : Nat) : Int) * 1 = lo := by simp
    have e2 : (((hi - lo).toNat : Nat) : Int) - ((0 : Nat) : Int) = Builtin.Range.rangeSize lo hi 1 := by rw [rangeSize_one]; split <;> omega
    show IsRangeIter _ _ (lo + ((0 : Nat) : Int) * 1) ((((hi - lo).toNat : Nat) : Int) - ((0 : Nat) : Int)) 1
    rw [e1, e2]
    exact Heap.get?_push_size _ rfl
  · have e : b = (s.heap.push { cls := .type "range", data := .fields #[.int lo t, .int hi u, .int 1 v] }).objs.size := by simpa using hb
    subst e
    exact I1.xa (Nat.le_refl _) (I1.hok.fresh (Nat.le_refl _))
noncomputable def Gu (ta : TA) : TI := fun σ H R => ta σ H fun vs H1 => ∃ j : Int, vs = [.int j] /\ -(2 ^ 62) <= j /\ j < 2 ^ 62 /\ R (Itr 0 j.toNat) H1
theorem wZ {a : Expr} {ta : TA} {p pos : Pos} (hg : Gl X "range") (hm : X.mg "range" = none) (ha : PA X [a] ta) (hs : starEach [a] X.env = [(false, eval a X.env)] := by rfl) : PI X tg (.Call (.Name "range" p) [a] [] pos) (Gu ta) := by
  intro pins s σ H R I h
  refine Call_ (iC I hg hm boot_range (PyProof.Rows.callWith_type1 (thn (ha pos pins s σ H _ I h) fun us s1 ⟨vs, H1, I1, r1, q1⟩ => ?_) hs rfl))
  obtain ⟨j, e, q1, q2, q⟩ := q1
  subst e
  cases r1 with
  | cons r rr =>
    cases rr
    obtain ⟨t, rfl⟩ := r
    exact call_range_1 (zq I1 (by omega) (by omega) q1 q2 (by simpa using q))
noncomputable def Ih (wi : TI) (g : TG) (tb : TS) : TS := fun D σ H => wi σ H fun J H1 => ∃ W : Nat -> Nat -> St -> Hp -> Prop, (∃ m, W 0 m σ H1) /\ ∀ i m σ H, W i m σ H →
  (J.stop i H /\ D.nx σ H) \/ (J.go i H /\ ∃ N : St -> Hp -> Prop, (∀ σ' H', N σ' H' -> ∃ m', m' < m /\ W (i + 1) m' σ' H') /\ ∀ x H', J.yld i H x H' -> g x σ H' fun σ2 H2 => tb { D with nx := N, ct := N, bk := D.nx } σ2 H2)
noncomputable def ir (fp : List Addr) (h : Heap) : List (Addr × Obj) := fp.filterMap fun b => (h.get? b).map fun o => (b, o)
theorem cU {fp : List Addr} {h : Heap} {b : Addr} {o : Obj} (hb : b ∈ fp) (e : h.get? b = some o) : (b, o) ∈ ir fp h := List.mem_filterMap.mpr ⟨b, hb, by rw [e]; rfl⟩
theorem wg {fp : List Addr} {h : Heap} {p : Addr × Obj} (hp : p ∈ ir fp h) : p.1 ∈ fp /\ h.get? p.1 = some p.2 := by
  obtain ⟨b, hb, e⟩ := List.mem_filterMap.mp hp
  cases q : h.get? b with
  | none => rw [q] at e; cases e
  | some o =>
    rw [q] at e
    have e' : (b, o) = p := Option.some.inj e
    subst e'
    exact ⟨hb, q⟩
theorem Inv.pinned {pins : List (Addr × Obj)} {σ : St} {H : Hp} {s : Shared} {fp : List Addr} (I : Inv X pins σ H s) (hf : ∀ b ∈ fp, kH X pins H b) (ho : ∀ b ∈ fp, ∃ o, s.heap.get? b = some o /\ ∀ v, o.data ≠ .cell v) : Inv X (pins ++ ir fp s.heap) σ H s :=
  I.jB fun p hp => (List.mem_append.mp hp).elim (fun z => I.pin p (List.mem_append_right _ z)) fun z => by
    obtain ⟨hb, e⟩ := wg z
    obtain ⟨f0, f1, f2, _⟩ := hf p.1 hb
    obtain ⟨o, e', d⟩ := ho p.1 hb
    rw [e] at e'; cases e'
    exact ⟨e, f0, f1, f2, d⟩
theorem Inv.gn {pins pl : List (Addr × Obj)} {σ : St} {H : Hp} {s : Shared} (I : Inv X (pins ++ pl) σ H s) : Inv X pins σ H s := I.jB fun p hp => I.pin p (List.mem_append_right _ (List.mem_append_left _ hp))
theorem DK {iter : Expr} {body : List Stmt} {wi : TI} {g : TG} {tb : TS} {pos : Pos} (hp : PassesOwn (model X.prog X.w) X.A X.env X.xe) (hc : X.calm = true) (hi : PI X tg iter wi) (hg : PG X tg g) (hb : PSs X body tb)
    (hs : ∀ x, foldedSetIterable iter X.env x = pure x := by intro _; rfl) : PS X (.For tg iter body [] pos) (Ih wi g tb) := by
  intro pins s σ H D I h
  refine wpAny_For (thn (hi pins s σ H _ I h) fun v s1 h1 => thn h1 fun itv s2 h2 => ?_) hs
  obtain ⟨it, fp, tn, J, H2, e, I2, T, st2, f2, W, ⟨m0, w0⟩, turn⟩ := h2
  subst e
  -- what stays true of the iterator's objects through the loop
  have stat : ∀ {H' : Hp}, (∀ b ∈ fp, H' b = none) -> ∀ b ∈ fp, kH X pins H' b := fun hn b hb => ⟨hn b hb, (f2 b hb).2⟩
  refine codeAny_forLoop_any (fun n s' => ∃ i σ' H', Inv X pins σ' H' s' /\ tn i s'.heap /\ (∀ b ∈ fp, H' b = none) /\ W i n σ' H') ?_ m0 ⟨0, σ, H2, I2, st2, fun b hb => (f2 b hb).1, w0⟩
  rintro n s3 ⟨i, σ3, H3, I3, st3, fr3, w3⟩
  rcases turn i n σ3 H3 w3 with ⟨stop, qn⟩ | ⟨go, N, hN, step⟩
  · refine wpAny_passesOwn hp (thn (T.done X rfl rfl rfl hc i pins s3 σ3 H3 X.xe I3 (stat fr3) st3 stop) fun r s4 ⟨hr, I4⟩ => ?_)
    subst hr
    exact wpAny_execs_nil ⟨σ3, H3, I4, qn⟩
  · refine wpAny_passesOwn hp (thn (T.item X rfl rfl rfl hc i pins s3 σ3 H3 X.xe I3 (stat fr3) st3 go) fun r s4 ⟨u, hr, h4⟩ => ?_)
    subst hr
    refine wpAny_passesOwn hp (thn h4 fun _ s5 ⟨x, H5, I5, r5, y5, st5, fr5⟩ => ?_)
    have I5' := I5.pinned (stat fr5) (T.obj _ _ st5)
    refine wpAny_passesOwn hp (thn (hg _ s5 σ3 H5 x u _ I5' r5 (step x H5 y5)) fun _ s6 ⟨σ6, H6, I6, q6⟩ => ?_)
    refine wpAny_passesOwn hp (thn (hb _ s6 σ6 H6 _ I6 q6) fun f s7 q7 => ?_)
    have again : ∀ {σ7 : St} {H7 : Hp}, Inv X (pins ++ ir fp s5.heap) σ7 H7 s7 -> N σ7 H7 -> ∃ m, m < n /\ ∃ i σ' H', Inv X pins σ' H' s7 /\ tn i s7.heap /\ (∀ b ∈ fp, H' b = none) /\ W i m σ' H' := fun {σ7 H7} I7 n7 => by
      obtain ⟨m', hm, w7⟩ := hN σ7 H7 n7
      refine ⟨m', hm, i + 1, σ7, H7, I7.gn, T.keep _ _ _ st5 fun b hb o e => (I7.pin (b, o) (List.mem_append_right _ (List.mem_append_right _ (cU hb e)))).1, fun b hb => ?_, w7⟩
      obtain ⟨o, e, d⟩ := T.obj _ _ st5 b hb
      exact (I7.pin (b, o) (List.mem_append_right _ (List.mem_append_right _ (cU hb e)))).2.1
    cases f with
    | next => obtain ⟨σ7, H7, I7, n7⟩ := q7; exact again I7 n7
    | cont => obtain ⟨σ7, H7, I7, n7⟩ := q7; exact again I7 n7
    | brk => obtain ⟨σ7, H7, I7, q7⟩ := q7; exact ⟨σ7, H7, I7.gn, q7⟩
    | ret v => obtain ⟨x7, σ7, H7, I7, r7, q7⟩ := q7; exact ⟨x7, σ7, H7, I7.gn, r7, q7⟩
end
noncomputable abbrev R2 := V -> V -> Hp -> VK -> Prop
noncomputable def OpR (X : Cx) (f : Value -> Value -> Sem Value) (r : R2) : Prop :=
  ∀ (pins : List (Addr × Obj)) (s : Shared) (σ : St) (H : Hp) (x y : V) (v u : Value) (Q : VK), Inv X pins σ H s -> RelV x v -> RelV y u -> r x y H Q →
    wpAny (model X.prog X.w) X.A (f v u) (EP X pins σ Q) X.xe s
noncomputable def UnR (X : Cx) (f : Value -> Sem Value) (r : V -> Hp -> VK -> Prop) : Prop :=
  ∀ (pins : List (Addr × Obj)) (s : Shared) (σ : St) (H : Hp) (x : V) (v : Value) (Q : VK), Inv X pins σ H s -> RelV x v -> r x H Q →
    wpAny (model X.prog X.w) X.A (f v) (EP X pins σ Q) X.xe s
noncomputable def a_ (X : Cx) (f : Value) (r : List V -> Hp -> VK -> Prop) : Prop :=
  ∀ (pins : List (Addr × Obj)) (s : Shared) (σ : St) (H : Hp) (xs : List V) (us : List Value) (Q : VK), Inv X pins σ H s -> Vals xs us -> r xs H Q →
    wpAny (model X.prog X.w) X.A (call f us) (EP X pins σ Q) X.xe s
noncomputable def Iv (X : Cx) (r : V -> Hp -> (Bool -> Hp -> Prop) -> Prop) : Prop :=
  ∀ (pins : List (Addr × Obj)) (s : Shared) (σ : St) (H : Hp) (x : V) (v : Value) (Q : Bool -> Hp -> Prop), Inv X pins σ H s -> RelV x v -> r x H Q →
    wpAny (model X.prog X.w) X.A (truthy v) (TP X pins σ Q) X.xe s
noncomputable def tOp (r : R2) (ta tb : TE) : TE := fun σ H Q => ta σ H fun x H1 => tb σ H1 fun y H2 => r x y H2 Q
noncomputable def tUn (r : V -> Hp -> VK -> Prop) (ta : TE) : TE := fun σ H Q => ta σ H fun x H1 => r x H1 Q
noncomputable def rI (C : Int -> Int -> Prop) (g : Int -> Int -> V) : R2 := fun x y H Q => ∃ i j, x = .int i /\ y = .int j /\ C i j /\ Q (g i j) H
noncomputable def rI0 (g : Int -> Int -> V) : R2 := fun x y H Q => ∃ i j, x = .int i /\ y = .int j /\ Q (g i j) H
noncomputable def rU (g : Int -> V) : V -> Hp -> VK -> Prop := fun x H Q => ∃ i, x = .int i /\ Q (g i) H
section
variable {X : Cx} {a b c : Expr} {ta tb tc : TE} {pos : Pos}
theorem DG (ha : PE X a ta) (hb : PE X b tb) {pins : List (Addr × Obj)} {s : Shared} {σ : St} {H : Hp} {R : V -> V -> Hp -> Prop} (I : Inv X pins σ H s)
    (h : ta σ H fun x H1 => tb σ H1 fun y H2 => R x y H2) {Q : Value -> Shared -> Prop} {f : Value -> Value -> Sem Value}
    (hf : ∀ v u s2 x y H2, Inv X pins σ H2 s2 -> RelV x v -> RelV y u -> R x y H2 -> wpAny (model X.prog X.w) X.A (f v u) Q X.xe s2) :
    wpAny (model X.prog X.w) X.A (eval a X.env) (fun v s₁ => wpAny (model X.prog X.w) X.A (eval b X.env) (fun u s₂ => wpAny (model X.prog X.w) X.A (f v u) Q X.xe s₂) X.xe s₁) X.xe s := by
  refine thn (ha pins s σ H _ I h) fun v s1 ⟨x, H1, I1, r1, q1⟩ => ?_
  refine thn (hb pins s1 σ H1 _ I1 q1) fun u s2 ⟨y, H2, I2, r2, q2⟩ => ?_
  exact hf v u s2 x y H2 I2 r1 r2 q2
theorem Gs {op : Operator} {r : R2} (ho : OpR X (binaryOp op) r) (ha : PE X a ta) (hb : PE X b tb) : PE X (.BinOp a op b pos) (tOp r ta tb) := by
  intro pins s σ H Q I h
  exact wpAny_BinOp (DG ha hb I h fun v u s2 x y H2 I2 rx ry q => ho pins s2 σ H2 x y v u Q I2 rx ry q)
theorem Dc {op : UnaryOp} {r : V -> Hp -> VK -> Prop} (ho : UnR X (unaryOp op) r) (ha : PE X a ta) : PE X (.UnaryOp op a pos) (tUn r ta) := by
  intro pins s σ H Q I h
  exact UnaryOp_ (thn (ha pins s σ H _ I h) fun v s1 ⟨x, H1, I1, r1, q1⟩ => ho pins s1 σ H1 x v Q I1 r1 q1)
theorem opI {f : Value -> Value -> Sem Value} {C : Int -> Int -> Prop} {g : Int -> Int -> Int}
    (rule : ∀ (i j : Int) (t u : Tok) (s : Shared) (Q : Value -> Shared -> Prop) (E : Value -> Shared -> Prop), C i j -> Q (.int (g i j) s.toks) { s with toks := s.toks + 1 } -> wpAny (model X.prog X.w) X.A (f (.int i t) (.int j u)) Q E s) :
    OpR X f (rI C fun i j => .int (g i j)) := by
  intro pins s σ H x y v u Q I rx ry h
  obtain ⟨i, j, rfl, rfl, hc, q⟩ := h
  obtain ⟨t, rfl⟩ := rx
  obtain ⟨t', rfl⟩ := ry
  exact rule i j t t' s _ _ hc ⟨.int (g i j), H, I.tok _, ⟨_, rfl⟩, q⟩
theorem Gh {f : Value -> Value -> Sem Value} {g : Int -> Int -> Int}
    (rule : ∀ (i j : Int) (t u : Tok) (s : Shared) (Q : Value -> Shared -> Prop) (E : Value -> Shared -> Prop), Q (.int (g i j) s.toks) { s with toks := s.toks + 1 } -> wpAny (model X.prog X.w) X.A (f (.int i t) (.int j u)) Q E s) :
    OpR X f (rI0 fun i j => .int (g i j)) := by
  intro pins s σ H x y v u Q I rx ry h
  obtain ⟨i, j, rfl, rfl, q⟩ := h
  obtain ⟨t, rfl⟩ := rx
  obtain ⟨t', rfl⟩ := ry
  exact rule i j t t' s _ _ ⟨.int (g i j), H, I.tok _, ⟨_, rfl⟩, q⟩
theorem Cd {f : Value -> Value -> Sem Value} {g : Int -> Int -> Bool}
    (rule : ∀ (i j : Int) (t u : Tok) (s : Shared) (Q : Value -> Shared -> Prop) (E : Value -> Shared -> Prop), Q (.bool (g i j)) s -> wpAny (model X.prog X.w) X.A (f (.int i t) (.int j u)) Q E s) :
    OpR X f (rI0 fun i j => .bl (g i j)) := by
  intro pins s σ H x y v u Q I rx ry h
  obtain ⟨i, j, rfl, rfl, q⟩ := h
  obtain ⟨t, rfl⟩ := rx
  obtain ⟨t', rfl⟩ := ry
  exact rule i j t t' s _ _ ⟨.bl (g i j), H, I, rfl, q⟩
theorem E3 : OpR X (binaryOp .Add) (rI0 fun i j => .int (i + j)) := Gh fun _ _ _ _ _ _ _ q => add_int q
theorem ku : OpR X (binaryOp .Sub) (rI0 fun i j => .int (i - j)) := Gh fun _ _ _ _ _ _ _ q => sub_int q
theorem nj : OpR X (binaryOp .Mod) (rI (fun _ j => 0 < j) fun i j => .int (i % j)) := opI fun i j _ _ _ _ _ hc q => by
  have h1 : (0 : Int) < j := hc
  exact mod_int' (by omega) (by rw [Int.fmod_eq_emod_of_nonneg i (by omega)]; exact q)
theorem unI {f : Value -> Sem Value} {g : Int -> Int}
    (rule : ∀ (i : Int) (t : Tok) (s : Shared) (Q : Value -> Shared -> Prop) (E : Value -> Shared -> Prop), Q (.int (g i) s.toks) { s with toks := s.toks + 1 } -> wpAny (model X.prog X.w) X.A (f (.int i t)) Q E s) :
    UnR X f (rU fun i => .int (g i)) := by
  intro pins s σ H x v Q I rx h
  obtain ⟨i, rfl, q⟩ := h
  obtain ⟨t, rfl⟩ := rx
  exact rule i t s _ _ ⟨.int (g i), H, I.tok _, ⟨_, rfl⟩, q⟩
theorem eV : UnR X (unaryOp .USub) (rU fun i => .int (-i)) := unI fun _ _ _ _ _ q => neg_int q
end
section
variable {X : Cx} {a b c : Expr} {ta tb tc : TE} {pos : Pos}
theorem vJ : OpR X (compareOp .Lt) (rI0 fun i j => .bl (decide (i < j))) := Cd fun _ _ _ _ _ _ _ q => lt_int q
theorem u_ : OpR X (compareOp .LtE) (rI0 fun i j => .bl (decide (i <= j))) := Cd fun _ _ _ _ _ _ _ q => le_int q
theorem sP : OpR X (compareOp .Gt) (rI0 fun i j => .bl (decide (j < i))) := Cd fun _ _ _ _ _ _ _ q => gt_int q
theorem Ge : OpR X (compareOp .GtE) (rI0 fun i j => .bl (decide (j <= i))) := Cd fun _ _ _ _ _ _ _ q => ge_int q
theorem bK (b : Expr) {op : CmpOp} (h : op ≠ .In := by decide) (h2 : op ≠ .NotIn := by decide) : behindInMarks op b = false := by
  have e1 : (op == CmpOp.In) = false := by cases op <;> first | rfl | exact absurd rfl h
  have e2 : (op == CmpOp.NotIn) = false := by cases op <;> first | rfl | exact absurd rfl h2
  cases b <;> simp [behindInMarks, e1, e2]
theorem Cc {op : CmpOp} {r : R2} (ho : OpR X (compareOp op) r) (ha : PE X a ta) (hb : PE X b tb) (hm : behindInMarks op b = false) : PE X (.Compare a [op] [b] pos) (tOp r ta tb) := by
  intro pins s σ H Q I h
  exact wpAny_Compare1 (DG ha hb I h fun v u s2 x y H2 I2 rx ry q => ho pins s2 σ H2 x y v u Q I2 rx ry q) hm
noncomputable def Ak (t : TE) : TT := fun σ H Q => t σ H fun x H' => ∃ k, x = .bl k /\ Q k H'
theorem Bh {op : CmpOp} {r : R2} (ho : OpR X (compareOp op) r) (ha : PE X a ta) (hb : PE X b tb) (hm : behindInMarks op b = false) : PT X (.Compare a [op] [b] pos) (Ak (tOp r ta tb)) := by
  intro pins s σ H Q I h
  refine wpAny_isTrue_Compare1 (thn (ha pins s σ H _ I h) fun v s1 ⟨x, H1, I1, r1, q1⟩ => thn (hb pins s1 σ H1 _ I1 q1) fun u s2 ⟨y, H2, I2, r2, q2⟩ =>
    thn (ho pins s2 σ H2 x y v u _ I2 r1 r2 q2) fun c s3 ⟨z, H3, I3, r3, k, e, q3⟩ => ?_) hm
  subst e
  cases r3
  exact wpAny_truthy_bool ⟨H3, I3, q3⟩
noncomputable def uw (r r' : R2) (ta tb tc : TE) : TE := fun σ H Q => ta σ H fun x H1 => tb σ H1 fun y H2 => r x y H2 fun z H3 => ∃ k, z = .bl k ∧
  (if k = true then tc σ H3 fun w' H4 => r' y w' H4 Q else Q (.bl false) H3)
theorem Am {op op' : CmpOp} {r r' : R2} (ho : OpR X (compareOp op) r) (ho' : OpR X (compareOp op') r') (ha : PE X a ta) (hb : PE X b tb) (hc : PE X c tc)
    (hm : lastMarks [op, op'] [b, c] = false := by with_unfolding_all rfl) : PE X (.Compare a [op, op'] [b, c] pos) (uw r r' ta tb tc) := by
  intro pins s σ H Q I h
  refine Compare_chain (thn (ha pins s σ H _ I h) fun v s1 ⟨x, H1, I1, r1, q1⟩ => chain_link (thn (hb pins s1 σ H1 _ I1 q1) fun u s2 ⟨y, H2, I2, r2, q2⟩ =>
    thn (ho pins s2 σ H2 x y v u _ I2 r1 r2 q2) fun d s3 ⟨z, H3, I3, r3, k, e, q3⟩ => ?_)) hm
  subst e
  cases r3
  refine wpAny_truthy_bool ?_
  cases k with
  | false => exact ite_ff ⟨.bl false, H3, I3, rfl, q3⟩
  | true => exact ite_tt (chain_last (thn (hc pins s3 σ H3 _ I3 q3) fun w' s4 ⟨z', H4, I4, r4, q4⟩ => ho' pins s4 σ H4 y z' u w' Q I4 r2 r4 q4))
theorem yc {op op' : CmpOp} {r r' : R2} (ho : OpR X (compareOp op) r) (ho' : OpR X (compareOp op') r') (ha : PE X a ta) (hb : PE X b tb) (hc : PE X c tc)
    (hm : lastMarks [op, op'] [b, c] = false := by with_unfolding_all rfl) : PT X (.Compare a [op, op'] [b, c] pos) (Ak (uw r r' ta tb tc)) := by
  intro pins s σ H Q I h
  refine isTrue_chain (thn (ha pins s σ H _ I h) fun v s1 ⟨x, H1, I1, r1, q1⟩ => test_link (thn (hb pins s1 σ H1 _ I1 q1) fun u s2 ⟨y, H2, I2, r2, q2⟩ =>
    thn (ho pins s2 σ H2 x y v u _ I2 r1 r2 q2) fun d s3 ⟨z, H3, I3, r3, k, e, q3⟩ => ?_)) hm
  subst e
  cases r3
  refine wpAny_truthy_bool ?_
  cases k with
  | false =>
    obtain ⟨k', e', q'⟩ := q3
    cases e'
    exact ite_ff ⟨H3, I3, q'⟩
  | true =>
    refine ite_tt (test_last (thn (hc pins s3 σ H3 _ I3 q3) fun w' s4 ⟨z', H4, I4, r4, q4⟩ => thn (ho' pins s4 σ H4 y z' u w' _ I4 r2 r4 q4) fun d' s5 ⟨z2, H5, I5, r5, k2, e2, q5⟩ => ?_))
    subst e2
    cases r5
    exact wpAny_truthy_bool ⟨H5, I5, q5⟩
noncomputable def A8 (K : PySem.W.Frag) (x : V) (H : Hp) (k : Bool) : Prop :=
  match x with
  | .non => k = false
  | .bl b => k = b
  | .int i => k = (i != 0)
  | .str y => y.length <= sizeLine /\ k = ((y.length : Int) != 0)
  | .byt y => y.size <= sizeLine /\ k = ((y.size : Int) != 0)
  | .ref p => (∃ xs, SqL K H p xs /\ k = !xs.isEmpty) \/ (∃ xs, SqT K H p xs /\ k = !xs.isEmpty) \/ ∃ kvs, H p = some (.dK kvs) /\ k = !kvs.isEmpty
  | _ => False
theorem tU {κ : Type} {kvs : List (κ × V)} {vs : List (κ × Value)} (r : KV kvs vs) : (!vs.isEmpty) = !kvs.isEmpty := by
  cases r <;> rfl
theorem mK {xs : List V} {its : List Value} (r : Vals xs its) : (!its.toArray.isEmpty) = !xs.isEmpty := by
  cases r <;> simp
theorem jt : (sizeLine : Nat) < 2 ^ 63 := by rw [sizeLine_eq]; decide
theorem EC : Iv X (fun x H Q => ∃ k, A8 X.K x H k /\ Q k H) := by
  intro pins s σ H x v Q I rx h
  obtain ⟨k, e, q⟩ := h
  have hl := jt
  have hs : sizeLine = 16777216 := sizeLine_eq
  cases x with
  | non =>
    cases rx
    have e' : k = false := e
    subst e'
    exact truthy_none ⟨H, I, q⟩
  | bl b =>
    cases rx
    have e' : k = b := e
    subst e'
    exact wpAny_truthy_bool ⟨H, I, q⟩
  | int i =>
    obtain ⟨t, rfl⟩ := rx
    have e' : k = (i != 0) := e
    subst e'
    exact PySem.P.truthy_int ⟨H, I, q⟩
  | str y =>
    obtain ⟨t, rfl⟩ := rx
    obtain ⟨hy, e'⟩ : y.length <= sizeLine /\ k = ((y.length : Int) != 0) := e
    subst e'
    exact PySem.P.truthy_str (by omega) ⟨H, I.tok _, q⟩
  | byt y =>
    obtain ⟨t, rfl⟩ := rx
    obtain ⟨hy, e'⟩ : y.size <= sizeLine /\ k = ((y.size : Int) != 0) := e
    subst e'
    exact PySem.W.truthy_bytes (by omega) ⟨H, I.tok _, q⟩
  | ref p =>
    cases rx
    have e' : (∃ xs, SqL X.K H p xs /\ k = !xs.isEmpty) \/ (∃ xs, SqT X.K H p xs /\ k = !xs.isEmpty) \/ ∃ kvs, H p = some (.dK kvs) /\ k = !kvs.isEmpty := e
    rcases e' with ⟨xs, hx, e'⟩ | ⟨xs, hx, e'⟩ | ⟨kvs, hx, e'⟩
    · subst e'
      obtain ⟨its, r, pl, hz⟩ := I.list hx
      have hlen := r.length
      exact wpAny_truthy_list pl.isList (by simp only [List.size_toArray]; omega) ⟨H, I.tok _, by rw [mK r]; exact q⟩
    · subst e'
      obtain ⟨its, r, pl, hz⟩ := I.tuple hx
      have hlen := r.length
      exact truthy_tuple pl (by simp only [List.size_toArray]; omega) ⟨H, I.tok _, by rw [mK r]; exact q⟩
    · subst e'
      obtain ⟨hz, hS, vs, r, m⟩ : kvs.length <= sizeLine /\ (p == sysModules) = false /\ ∃ vs, KV kvs vs /\ s.heap.DictOf (qe X.prog X.w) p vs := I.hok p _ hx
      have hlen : kvs.length = vs.length := Paired.length r
      exact wpAny_truthy_dict hS m (by omega) ⟨H, I.tok _, by rw [tU r]; exact q⟩
  | _ => exact (show False from e).elim
theorem zI (ha : PE X a ta) (he : ∀ whole, isTrue a X.env whole = (do let v ← whole; standAt a.pos; holding [v] (truthy v))) :
    PT X a (fun σ H Q => ta σ H fun x H' => ∃ k, A8 X.K x H' k /\ Q k H') := by
  intro pins s σ H Q I h
  exact isTrue_plain (thn (ha pins s σ H _ I h) fun v s1 ⟨x, H1, I1, r1, q1⟩ => EC pins s1 σ H1 x v Q I1 r1 q1) (he _)
theorem t7 : OpR X (binaryOp .Add) (fun x y H Q => ∃ i j, x = .str i /\ y = .str j /\ i.length + j.length <= sizeLine /\ Q (.str (i ++ j)) H) := by
  intro pins s σ H x y v u Q I rx ry h
  obtain ⟨i, j, rfl, rfl, hz, q⟩ := h
  obtain ⟨t, rfl⟩ := rx
  obtain ⟨t', rfl⟩ := ry
  exact add_str (fun t' tk => ⟨.str (i ++ j), H, I.tok _, ⟨_, rfl⟩, q⟩) hz
theorem vals1 {x : V} {us : List Value} (r : Vals [x] us) : ∃ u, us = [u] /\ RelV x u := by
  cases r with
  | cons r1 r2 => cases r2; exact ⟨_, rfl, r1⟩
theorem vals2 {x y : V} {us : List Value} (r : Vals [x, y] us) : ∃ u w', us = [u, w'] /\ RelV x u /\ RelV y w' := by
  cases r with
  | cons r1 r2 =>
    cases r2 with
    | cons r3 r4 => cases r4; exact ⟨_, _, rfl, r1, r3⟩
theorem wV (hc : X.calm = true) : a_ X (.builtin "max") (fun xs H Q => ∃ i j, xs = [.int i, .int j] /\ Q (.int (if j > i then j else i)) H) := by
  intro pins s σ H xs us Q I r h
  obtain ⟨i, j, rfl, q⟩ := h
  obtain ⟨u, w', rfl, ⟨t, rfl⟩, ⟨t', rfl⟩⟩ := vals2 r
  refine max_two_ints (I.ok.hd hc) fun h' tk k => ⟨_, H, I.kept k, ?_, q⟩
  by_cases hj : j > i
  · rw [if_pos hj, if_pos hj]; exact ⟨_, rfl⟩
  · rw [if_neg hj, if_neg hj]; exact ⟨_, rfl⟩
theorem vY : a_ X (.type "int") (fun xs H Q => (∃ i, xs = [.int i] /\ Q (.int i) H) \/ ∃ k, xs = [.bl k] /\ Q (.int (if k then 1 else 0)) H) := by
  intro pins s σ H xs us Q I r h
  rcases h with ⟨i, rfl, q⟩ | ⟨k, rfl, q⟩
  · obtain ⟨u, rfl, t, rfl⟩ := vals1 r
    exact call_int_int ⟨.int i, H, I, ⟨_, rfl⟩, q⟩
  · obtain ⟨u, rfl, r1⟩ := vals1 r
    cases r1
    exact call_int_bool ⟨.int (if k then 1 else 0), H, I.tok _, ⟨_, rfl⟩, q⟩
end
structure Dk (h : Heap) (x dx C : Addr) (mA : Str -> Option Value) : Prop where
  obj : h.get? x = some (PySem.W.instObj C dx)
  ns : h.Ns1 dx mA
  ne : dx ≠ x
theorem xj {h : Heap} {dx : Addr} {mA : Str -> Option Value} (n : h.Ns1 dx mA) : ∃ od, h.get? dx = some od /\ ∀ name, PySem.W.lookIn name od = some (mA name) := by
  obtain ⟨o, es, ep, ho, hd, hk, _, hm⟩ := n
  refine ⟨o, ho, fun name => ?_⟩
  have e := hm name
  unfold nsFind findBy at e
  rw [<- Array.find?_toList] at e
  unfold PySem.W.lookIn
  rw [hd]
  dsimp only
  split
  · rename_i y q
    rw [q] at e
    exact congrArg some e
  · rename_i q
    rw [q] at e
    have a : es.toList.any (·.refKey) = false := by
      rw [List.any_eq_false]
      intro y hy
      obtain ⟨z, t, hkey⟩ := hk y (Array.mem_toList_iff.mp hy)
      simp [DictEntry.refKey, hkey]
    have a' : ¬ es.toList.any (·.refKey) = true := by rw [a]; exact Bool.false_ne_true
    rw [if_neg a']
    exact congrArg some e
theorem Dk.look {h : Heap} {x dx C : Addr} {mA : Str -> Option Value} (I : Dk h x dx C mA) : ∃ od, PySem.W.InstAt h x (PySem.W.instObj C dx) C (some od) /\ ∀ name, PySem.W.lookIn name od = some (mA name) :=
  let ⟨od, ho, hl⟩ := xj I.ns
  ⟨od, ⟨I.obj, rfl, rfl, ho⟩, hl⟩
section
variable {P : Program} {w : World} {H H' : Hp} {h h' : Heap} {a C dx : Addr} {fs fs' : List (Str × V)}
theorem Co (hok : HOk P w H h) (e : H a = some (.ins C dx fs)) : ∃ mA, Dk h a dx C mA /\ (∀ f, DA (fs.lookup f) (mA f)) /\ PySem.Within mA (fs.map (·.1)) /\ fs.length <= 1000 /\ H dx = some (.own a) := by
  obtain ⟨d, z, ne, ob, mA, n, r, q⟩ := (show bL P w H h a (.ins C dx fs) from hok a _ e)
  exact ⟨mA, ⟨ob, n, ne⟩, r, q, z, d⟩
end
structure Cls (K : PySem.W.Frag) (C : Addr) : Prop where
  pg : PySem.W.plainGet K C Str.empty = true
  hd : PySem.W.hasDictIn K C = true
  po : PySem.W.plainOver K C = true
  sa : PySem.W.findIn K (.ref C) "__setattr__" = some (some (.builtin "object.__setattr__"))
theorem Cls.get {K : PySem.W.Frag} {C : Addr} (c : Cls K C) (f : Str) : PySem.W.plainGet K C f = true := c.pg
section
variable {X : Cx} {pins : List (Addr × Obj)} {σ : St} {H : Hp} {s : Shared} {A : Around} {E : Value -> Shared -> Prop} {Q : Value -> Shared -> Prop} {c : Value} {b : Bool}
inductive jj (K : PySem.W.Frag) (H : Hp) : V -> Value -> Prop where
  | non : jj K H .non (.type "NoneType")
  | bl (x : Bool) : jj K H (.bl x) (.type "bool")
  | int (i : Int) : jj K H (.int i) (.type "int")
  | str (x : Str) : jj K H (.str x) (.type "str")
  | flt (x : UInt64) : jj K H (.flt x) (.type "float")
  | lst {a : Addr} {xs : List V} (e : H a = some (.lst xs)) : jj K H (.ref a) (.type "list")
  | frz {a : Addr} {o : Obj} {xs : List V} (e : H a = some (.frz o (.lst xs))) : jj K H (.ref a) (.type "list")
  | tup {a : Addr} {xs : List V} (e : H a = some (.tup xs)) : jj K H (.ref a) (.type "tuple")
  | gX {a : Addr} {o : Obj} {kvs : List (Key × V)} (e : H a = some (.frz o (.dK kvs))) : jj K H (.ref a) (.type "dict")
  | dK {a : Addr} {kvs : List (Key × V)} (e : H a = some (.dK kvs)) : jj K H (.ref a) (.type "dict")
  | dT {a : Addr} {kvs : List (List Key × V)} (e : H a = some (.dT kvs)) : jj K H (.ref a) (.type "dict")
  | ins {a C dx : Addr} {fs : List (Str × V)} (e : H a = some (.ins C dx fs)) (cl : Cls K C) (ha : PySem.W.findIn K (.ref C) "__class__" = some (some (.builtin "object.__class__")))
      (hn : PySem.W.specialIn K (.builtin "object.__class__") "__get__" = some (some (.builtin "getset_descriptor.__get__"))) (htk : PySem.W.takesIn K (.builtin "object.__class__") = some true)
      (hm : PySem.W.mroIn K C (.type "object") = some true) : jj K H (.ref a) (.ref C)
theorem wA {x : V} {u t : Value} (I : Inv X pins σ H s) (rx : RelV x u) (ty : jj X.K H x t) (e : PySem.W.kitOne X.K t c = some b) (h : ∀ tk, Q (.bool b) { s with toks := tk }) :
    wpAny (model X.prog X.w) A (call (.builtin "isinstance") [u, c]) Q E s := by
  cases ty with
  | non => cases (show u = Value.none from rx); exact PySem.W.kia_one PySem.W.kitx_none I.kIn True.intro e (fun z => nomatch z) h
  | bl y => cases (show u = Value.bool y from rx); exact PySem.W.kia_one PySem.W.kitx_bool I.kIn True.intro e (fun z => nomatch z) h
  | int i => obtain ⟨t, q⟩ := (show ∃ t, u = Value.int i t from rx); cases q; exact PySem.W.kia_one PySem.W.kitx_int I.kIn True.intro e (fun z => nomatch z) h
  | str y => obtain ⟨t, q⟩ := (show ∃ t, u = Value.str y t from rx); cases q; exact PySem.W.kia_one PySem.W.kitx_str I.kIn True.intro e (fun z => nomatch z) h
  | flt y => obtain ⟨t, q⟩ := (show ∃ t, u = Value.float y t from rx); cases q; exact PySem.W.kia_one PySem.W.kitx_float I.kIn True.intro e (fun z => nomatch z) h
  | @lst a xs ea =>
    cases (show u = Value.ref a from rx)
    obtain ⟨_, _, n, _, h1⟩ := (show bL X.prog X.w H s.heap a (.lst xs) from I.hok a _ ea)
    exact PySem.W.kia_one PySem.W.kitx_list I.kIn ⟨_, h1, rfl⟩ e (fun z => nomatch z) h
  | @frz a ob xs ea =>
    cases (show u = Value.ref a from rx)
    obtain ⟨_, _, _, n, _, h1⟩ := (show bL X.prog X.w H s.heap a (.frz ob (.lst xs)) from I.hok a _ ea)
    exact PySem.W.kia_one PySem.W.kitx_list I.kIn ⟨_, h1, rfl⟩ e (fun z => nomatch z) h
  | @tup a xs ea =>
    cases (show u = Value.ref a from rx)
    obtain ⟨_, _, _, p⟩ := (show bL X.prog X.w H s.heap a (.tup xs) from I.hok a _ ea)
    obtain ⟨o, h1, ⟨h2, _⟩, _⟩ := p
    exact PySem.W.kia_one PySem.W.kitx_tuple I.kIn ⟨o, h1, h2⟩ e (fun z => nomatch z) h
  | @gX a ob kvs ea =>
    cases (show u = Value.ref a from rx)
    obtain ⟨_, _, _, vs, _, p⟩ := (show bL X.prog X.w H s.heap a (.frz ob (.dK kvs)) from I.hok a _ ea)
    obtain ⟨o, es, ep, h1, h2, _⟩ := p
    exact PySem.W.kia_one PySem.W.kitx_dict I.kIn ⟨o, h1, h2.1⟩ e (fun z => nomatch z) h
  | @dK a kvs ea =>
    cases (show u = Value.ref a from rx)
    obtain ⟨_, _, vs, _, p⟩ := (show bL X.prog X.w H s.heap a (.dK kvs) from I.hok a _ ea)
    obtain ⟨o, es, ep, h1, h2, _⟩ := p
    exact PySem.W.kia_one PySem.W.kitx_dict I.kIn ⟨o, h1, h2.1⟩ e (fun z => nomatch z) h
  | @dT a kvs ea =>
    cases (show u = Value.ref a from rx)
    obtain ⟨_, _, xs, _, o, es, ep, h1, h2, _⟩ := (show bL X.prog X.w H s.heap a (.dT kvs) from I.hok a _ ea)
    exact PySem.W.kia_one PySem.W.kitx_dict I.kIn ⟨o, h1, h2.1⟩ e (fun z => nomatch z) h
  | @ins a C dx fs ea cl ha hn htk hm =>
    cases (show u = Value.ref a from rx)
    obtain ⟨mA, O, _⟩ := Co I.hok ea
    obtain ⟨od, J, _⟩ := O.look
    exact PySem.W.kia_one (PySem.W.kitx_own (cl.get _) cl.hd ha hn htk hm) I.kIn J e (fun z => nomatch z) h
end
structure dq (k : Nat) (A : Around) : Prop where
  hd : A.handled = none
  dp : A.depth + 3 * k + 5 < recursionLimit
  un : A.units + 16 * k + 200 < cLine
  gd : A.guards = some []
theorem dq.mono {j k : Nat} {A : Around} (r : dq k A) (h : j <= k) : dq j A := ⟨r.hd, by have := r.dp; omega, by have := r.un; omega, r.gd⟩
theorem dq.deeper {k : Nat} {A : Around} (r : dq (k + 1) A) (env : Env) : dq k (A.deeper env) :=
  ⟨r.hd, by have := r.dp; show A.depth + 1 + 3 * k + 5 < _; omega, by have := r.un; show A.units + 3 + 16 * k + 200 < _; omega, r.gd⟩
theorem dq.depth {k : Nat} {A : Around} (r : dq k A) : A.depth < recursionLimit := by have := r.dp; omega
theorem dq.units {k : Nat} {A : Around} (r : dq k A) : A.units + 64 < cLine := by have := r.un; omega
noncomputable def Ee : TA := fun _ H Q => Q [] H
noncomputable def C7 (ta : TE) (tr : TA) : TA := fun σ H Q => ta σ H fun x H1 => tr σ H1 fun xs H2 => Q (x :: xs) H2
section
variable {X : Cx} {e : Expr} {es : List Expr} {te : TE} {t : TA} {pos : Pos}
theorem iz : PA X [] Ee := fun _ _ _ _ H Q I h => Calls.spliced_nil ⟨[], H, I, .nil, h⟩
theorem dH (ha : PE X e te) (hr : PA X es t) (hs : starEach (e :: es) X.env = (false, eval e X.env) :: starEach es X.env := by rfl) : PA X (e :: es) (C7 te t) := by
  intro pos pins s σ H Q I h
  rw [hs]
  show wpAny _ _ (spliced ((false, eval e X.env) :: backTo pos (starEach es X.env))) _ _ s
  refine Calls.spliced_cons (thn (ha pins s σ H _ I h) fun u s1 ⟨x, H1, I1, r1, q1⟩ => ?_)
  exact thn (hr pos pins s1 σ H1 _ I1 q1) fun us s2 ⟨xs, H2, I2, r2, q2⟩ => ⟨x :: xs, H2, I2, .cons r1 r2, q2⟩
noncomputable def Hd (t : TA) : TE := fun σ H Q => t σ H fun xs H1 => xs.length <= sizeLine /\ ∀ p, H1 p = none -> Q (.ref p) (upd H1 p (.tup xs))
noncomputable def Hj (t : TA) : TE := fun σ H Q => t σ H fun xs H1 => xs.length <= sizeLine /\ ∀ p, H1 p = none -> Q (.ref p) (upd H1 p (.lst xs))
theorem Ez {x1} (h : PA X es t) : PE X (.Tuple es x1 pos) (Hd t) := by
  intro pins s σ H Q I hq
  refine wpAny_Tuple_spliced (thn (h pos pins s σ H _ I hq) fun us s1 ⟨xs, H1, I1, r, z, q⟩ => ⟨by rw [<- r.length]; exact z, ?_⟩)
  have hf : H1 s1.heap.objs.size = none := I1.hok.fresh (Nat.le_refl _)
  refine ⟨.ref s1.heap.objs.size, upd H1 s1.heap.objs.size (.tup xs), I1.laid (t' := s1.toks) (fun b u e => Heap.get?_push_of_some _ e) (Nat.le_refl _) ?_, rfl, q _ hf⟩
  exact ⟨z, us, r, ⟨_, Heap.get?_push_size _ rfl, ⟨rfl, _, rfl⟩, rfl⟩⟩
theorem Em (h : PA X es t) : PE X (.List es pos) (Hj t) := by
  intro pins s σ H Q I hq
  refine wpAny_List_spliced (thn (h pos pins s σ H _ I hq) fun us s1 ⟨xs, H1, I1, r, z, q⟩ => ⟨by rw [<- r.length]; exact z, ?_⟩)
  have hf : H1 s1.heap.objs.size = none := I1.hok.fresh (Nat.le_refl _)
  refine ⟨.ref s1.heap.objs.size, upd H1 s1.heap.objs.size (.lst xs), I1.laid (t' := s1.toks) (fun b u e => Heap.get?_push_of_some _ e) (Nat.le_refl _) ?_, rfl, q _ hf⟩
  exact ⟨z, us, 0, r, Heap.get?_push_size _ rfl⟩
end
noncomputable abbrev Sp := List V -> Hp -> VK -> XK -> Prop
noncomputable abbrev CXT := List Env -> Hp -> Shared -> XK -> Value -> Shared -> Prop
structure yu (P : Program) (w : World) (K : PySem.W.Frag) (mg : Str -> Option Value) (base : Heap) (A : Around) (outer : List Env) (s : Shared) (H : Hp) : Prop where
  frames : A.frames = some outer
  mod : Mod K mg base
  bs : ∀ b o, base.get? b = some o -> s.heap.get? b = some o /\ H b = none
  bsz : base.objs.size <= s.heap.objs.size
  iZ : s.heap.FunFrames base outer
  frf : ∀ b ∈ frs outer, H b = none
  hok : HOk P w H s.heap
  bare : AllBare s.gens
noncomputable def CE (outer : List Env) (P : Program) (w : World) (H : Hp) (s : Shared) (Q : VK) (u : Value) (s' : Shared) : Prop :=
  ∃ v H', s'.os = s.os /\ AllBare s'.gens /\ Un (frs outer) [] H H' s.heap s'.heap /\ HOk P w H' s'.heap /\ RelV v u /\ Q v H'
noncomputable def CR (CX : CXT) (outer : List Env) (P : Program) (w : World) (H : Hp) (s : Shared) (Q : VK) (E : XK) (r : Result) (s' : Shared) : Prop :=
  match r with
  | .ok (.ret u) => CE outer P w H s Q u s'
  | .ok _ => False
  | .error e => CX outer H s E e s'
structure dQ (P : Program) (w : World) (K : PySem.W.Frag) (mg : Str -> Option Value) (base : Heap) (CX : CXT) (k : Nat) (f : Addr) (fd : FuncData) (ps : List Str) (sp : Sp) : Prop where
  len : ∀ vs H Q E, sp vs H Q E -> vs.length = ps.length
  run : ∀ (A : Around) (outer : List Env) (s : Shared) (H : Hp) (args : Args) (us : List Value) (vs : List V) (Q : VK) (E : XK), dq k A -> yu P w K mg base A outer s H -> BindsTo s fd args (ps.zip us) -> Vals vs us -> sp vs H Q E →
    codeAny (model P w) A (.call (.ref f) args) (CR CX outer P w H s Q E) s
theorem dQ.mono {P : Program} {w : World} {K : PySem.W.Frag} {mg : Str -> Option Value} {base : Heap} {CX : CXT} {j k : Nat} {f : Addr} {fd : FuncData} {ps : List Str} {sp : Sp} (F : dQ P w K mg base CX j f fd ps sp) (h : j <= k) :
    dQ P w K mg base CX k f fd ps sp := ⟨F.len, fun A outer s H args us vs Q E hr => F.run A outer s H args us vs Q E (hr.mono h)⟩
theorem dQ.imp {P : Program} {w : World} {K : PySem.W.Frag} {mg : Str -> Option Value} {base : Heap} {CX : CXT} {k : Nat} {f : Addr} {fd : FuncData} {ps : List Str} {sp sp' : Sp} (F : dQ P w K mg base CX k f fd ps sp)
    (h : ∀ vs H Q E, sp' vs H Q E -> sp vs H Q E) : dQ P w K mg base CX k f fd ps sp' :=
  ⟨fun vs H Q E q => F.len vs H Q E (h _ _ _ _ q), fun A outer s H args us vs Q E hr he hb hv hs => F.run A outer s H args us vs Q E hr he hb hv (h _ _ _ _ hs)⟩
section
variable {X : Cx} {pins : List (Addr × Obj)} {σ : St} {H : Hp} {s s' : Shared}
theorem Inv.Gp (I : Inv X pins σ H s) : yu X.prog X.w X.K X.mg X.base X.A X.stack s H :=
  ⟨I.ok.frames, I.ok.mod, I.bs, Nat.le_trans I.ok.bsz I.sz, I.stack, I.lJ, I.hok, I.bare⟩
theorem Inv.after {Q : VK} {u : Value} (I : Inv X pins σ H s) (h : CE X.stack X.prog X.w H s Q u s') : EP X pins σ Q u s' := by
  obtain ⟨v, H', os, bare, un, hok, r, q⟩ := h
  obtain ⟨hh, g, d, t, os'⟩ := s'
  obtain rfl : os' = s.os := os
  exact ⟨v, H', I.call (h' := hh) (g' := g) (d' := d) (t' := t) (ch := []) un hok bare (fun b z => absurd z (by simp)), r, q⟩
end
noncomputable def CQ (sp : Sp) (dvs : List V) (E : XK) (t : TA) : TE := fun σ H Q => t σ H fun vs H1 => sp (vs ++ dvs) H1 Q E
noncomputable def Binds (K : PySem.W.Frag) (fd : FuncData) (ps : List Str) (ds : List Value) : Prop :=
  ∀ (s : Shared) (us : List Value), K.In s.heap -> (us ++ ds).length = ps.length -> BindsTo s fd ⟨us, []⟩ (ps.zip (us ++ ds))
theorem Binds.all {K : PySem.W.Frag} {fd : FuncData} {ps : List Str} (h : ∀ us : List Value, us.length = ps.length -> bindArgs fd ⟨us, []⟩ = pure (ps.zip us)) : Binds K fd ps [] := fun s us _ hl => by
  rw [List.append_nil] at hl ⊢
  exact .of_eq (h us hl)
noncomputable def Passes (CX : CXT) (X : Cx) (E : XK) : Prop := ∀ (pins : List (Addr × Obj)) (σ : St) (H : Hp) (s : Shared) (e : Value) (s' : Shared), Inv X pins σ H s -> CX X.stack H s E e s' -> X.xe e s'
section
variable {X : Cx} {CX : CXT} {k : Nat} {f C : Addr} {fd : FuncData} {ps : List Str} {sp : Sp} {dvs : List V} {ds : List Value} {E : XK} {x m : Str} {p pos apos : Pos} {e o : Expr} {es : List Expr} {ta : TE} {t : TA}
theorem xN {pins : List (Addr × Obj)} {σ : St} {H : Hp} {s : Shared} {Q : VK} {us : List Value} {vs : List V} (F : dQ X.prog X.w X.K X.mg X.base CX k f fd ps sp) (hr : dq k X.A) (hb : Binds X.K fd ps ds) (hd : Vals dvs ds) (hx : Passes CX X E)
    (I : Inv X pins σ H s) (r : Vals vs us) (h : sp (vs ++ dvs) H Q E) : wpAny (model X.prog X.w) X.A (call (.ref f) us) (EP X pins σ Q) X.xe s := by
  have r2 : Vals (vs ++ dvs) (us ++ ds) := r.append hd
  have hl : (us ++ ds).length = ps.length := by rw [<- r2.length]; exact F.len _ _ _ _ h
  refine wpAny_call (codeAny_mono (F.run X.A X.stack s H ⟨us, []⟩ (us ++ ds) (vs ++ dvs) Q E hr I.Gp (hb s us I.kIn hl) r2 h) fun r s' hq => ?_)
  cases r with
  | error e => exact hx pins σ H s e s' I hq
  | ok fl =>
    cases fl with
    | ret u => exact I.after hq
    | next => exact False.elim hq
    | brk => exact False.elim hq
    | cont => exact False.elim hq
theorem uC (F : dQ X.prog X.w X.K X.mg X.base CX k f fd ps sp) (hr : dq k X.A) (hg : Gl X x) (hm : X.mg x = some (.ref f)) (hk : PySem.W.keepIn X.K (.ref f) = true) (hb : Binds X.K fd ps ds) (hd : Vals dvs ds) (hx : Passes CX X E)
    (ha : PA X (e :: es) t) (hdb : (x == ("__debug__" : Str)) = false := by decide) (he : starEach (e :: es) X.env = (false, eval e X.env) :: starEach es X.env := by rfl) (hpl : (backTo pos (starEach es X.env)).any (·.1) = false := by rfl) :
    PE X (.Call (.Name x p) (e :: es) [] pos) (CQ sp dvs E t) := by
  intro pins s σ H Q I h
  refine wpAny_Call_Name_kw (iU I hg hm ?_ hdb)
  refine PySem.W.callWith_K (h₀ := X.base) I.ok.mod.kin hk (thn (ha pos pins s σ H _ I h) fun us s1 ⟨vs, H1, I1, r, q⟩ => ⟨I1.kIn, ?_⟩) he hpl
  exact xN F hr hb hd hx I1 r q
end
structure aS (N P : List Str) (sc : Scope) : Prop where
  kind : sc.kind = .function
  co : sc.isCoroutine = false
  gen : sc.isGenerator = false
  nd : N.Nodup
  pre : N.take P.length = P
  par : ∀ x ∈ P, sc.names.lookup x = some .local \/ sc.names.lookup x = some .cell
  D1 : ∀ y ∈ sc.names, y.2 ≠ .free
theorem oS {kindOf : Str -> Option NameKind} {x : Str} : ∀ {binds : List (Str × Value)} {m : Str -> Option Value}, (∀ v, (x, v) ∉ binds) -> bindL kindOf binds m x = m x
  | [], _, _ => rfl
  | (n, v) :: r, m, h => by
    unfold bindL
    rw [oS fun w hw => h w (List.mem_cons_of_mem _ hw)]
    split
    · have : x ≠ n := by rintro rfl; exact h v List.mem_cons_self
      simp [this]
    · rfl
theorem pv {kindOf : Str -> Option NameKind} {x : Str} : ∀ {binds : List (Str × Value)} {m : Str -> Option Value}, (∀ v, (x, v) ∉ binds) -> bindC kindOf binds m x = m x
  | [], _, _ => rfl
  | (n, v) :: r, m, h => by
    unfold bindC
    rw [pv fun w hw => h w (List.mem_cons_of_mem _ hw)]
    split
    · rfl
    · have : x ≠ n := by rintro rfl; exact h v List.mem_cons_self
      simp [this]
theorem oX {kindOf : Str -> Option NameKind} {x : Str} {v : Value} : ∀ {P : List Str} {vs : List Value} {i : Nat} {m : Str -> Option Value}, P.Nodup -> P[i]? = some x -> vs[i]? = some v -> kindOf x = some .local →
    bindL kindOf (P.zip vs) m x = some v
  | [], _, _, _, _, h, _, _ => by simp at h
  | _ :: _, [], _, _, _, _, h, _ => by simp at h
  | p :: P, w :: vs, 0, m, nd, h1, h2, hk => by
    simp at h1 h2; subst h1; subst h2
    show bindL kindOf ((p, w) :: P.zip vs) m p = _
    unfold bindL
    rw [oS fun v hv => (List.nodup_cons.mp nd).1 (List.of_mem_zip hv).1, if_pos hk]
    simp
  | p :: P, w :: vs, i + 1, m, nd, h1, h2, hk => by
    show bindL kindOf ((p, w) :: P.zip vs) m x = _
    unfold bindL
    exact oX (i := i) (List.nodup_cons.mp nd).2 (by simpa using h1) (by simpa using h2) hk
theorem pE {kindOf : Str -> Option NameKind} {x : Str} {v : Value} : ∀ {P : List Str} {vs : List Value} {i : Nat} {m : Str -> Option Value}, P.Nodup -> P[i]? = some x -> vs[i]? = some v -> kindOf x ≠ some .local →
    bindC kindOf (P.zip vs) m x = some v
  | [], _, _, _, _, h, _, _ => by simp at h
  | _ :: _, [], _, _, _, _, h, _ => by simp at h
  | p :: P, w :: vs, 0, m, nd, h1, h2, hk => by
    simp at h1 h2; subst h1; subst h2
    show bindC kindOf ((p, w) :: P.zip vs) m p = _
    unfold bindC
    rw [pv fun v hv => (List.nodup_cons.mp nd).1 (List.of_mem_zip hv).1, if_neg hk]
    simp
  | p :: P, w :: vs, i + 1, m, nd, h1, h2, hk => by
    show bindC kindOf ((p, w) :: P.zip vs) m x = _
    unfold bindC
    exact pE (i := i) (List.nodup_cons.mp nd).2 (by simpa using h1) (by simpa using h2) hk
noncomputable def start (N : List Str) (vs : List V) : St := vs.map some ++ List.replicate (N.length - vs.length) none
noncomputable def jl (CX : CXT) (P : Program) (w : World) (K : PySem.W.Frag) (mg : Str -> Option Value) (base : Heap) (N : List Str) (qual : Str) (scope : Scope) (f : Addr) (cd : Value) (A : Around) (outer : List Env) (s : Shared) (H : Hp) (E : XK) : Cx where
  prog := P
  w := w
  K := K
  mg := mg
  base := base
  A := A.deeper (envOfC qual scope s.heap.objs.size f cd)
  N := N
  ay := s
  aC := H
  env := envOfC qual scope s.heap.objs.size f cd
  outer := outer
  stack := envOfC qual scope s.heap.objs.size f cd :: outer
  ex := []
  calm := true
  fn := fun _ => true
  pn := []
  xe := fun e s' => wpAny (model P w) (A.deeper (envOfC qual scope s.heap.objs.size f cd)) (leaving (envOfC qual scope s.heap.objs.size f cd) e) (fun _ s'' => CX outer H s E e s'') (fun e' s'' => CX outer H s E e' s'') s'
theorem se {sc : Scope} {n : Nat} {x : Str} (h : sc.names.lookup x = some .cell) : ∃ c, (cellsFrom n sc.names []).lookup x = some c := by
  have q := PySem.W.cellsFrom_some sc.names n [] (.inl h)
  exact Option.isSome_iff_exists.mp q
theorem pf {CX : CXT} {P : Program} {w : World} {K : PySem.W.Frag} {mg : Str -> Option Value} {base : Heap} {N ps : List Str} {qual : Str} {scope : Scope} {f : Addr} {cd : Value} {A : Around} {outer : List Env} {s s1 : Shared} {H : Hp} {E : XK} {us : List Value} {vs : List V}
    (S : aS N ps scope) (hd : A.handled = none) (e0 : yu P w K mg base A outer s H) (hl : vs.length = ps.length) (r : Vals vs us)
    (x : InCallC s s.heap.objs.size (bindL (envOfC qual scope s.heap.objs.size f cd).kindOf (ps.zip us) fun _ => none) (cellsFrom (s.heap.objs.size + 1) scope.names []) (bindC (envOfC qual scope s.heap.objs.size f cd).kindOf (ps.zip us) fun _ => none) s1) :
    Inv (jl CX P w K mg base N qual scope f cd A outer s H E) [] (start N vs) H s1 := by
  have hpl : ps.length <= N.length := by have := congrArg List.length S.pre; rw [List.length_take] at this; omega
  obtain ⟨h1, tk, rfl, hk⟩ := x.done
  have noA : ∀ b : Addr, b ∉ (jl CX P w K mg base N qual scope f cd A outer s H E).ex := fun b z => absurd (show b ∈ ([] : List Addr) from z) (by simp)
  refine ⟨⟨e0.mod, S.kind, rfl, rfl, Nat.le_refl _, fun y z c h1 h2 => ?_, fun y hy => ?_, fun y c _ h => ?_, fun _ => hd, Around.frames_deeper e0.frames, .inr ⟨rfl, rfl⟩, fun b z => absurd z (noA b), e0.bs, e0.bsz, fun b _ _ => noA b, fun b z => absurd z (noA b), e0.iZ, e0.frf⟩,
    rfl, e0.bare, Un.kept hk, ⟨_, x.toInCall.ns, fun i y v h1 h2 h3 => ?_⟩, fun y c h => ⟨_, x.cell y c h⟩, e0.hok.fresh (Nat.le_refl _), fun y c h => ?_, fun p hp => absurd (show p ∈ ([] : List (Addr × Obj)) from hp) (by simp), e0.hok.kept hk, ?_⟩
  · exact name_of_addr x.apart (PySem.mem_of_lookup h1) (PySem.mem_of_lookup h2)
  · have hy : scope.names.lookup y = some .cell \/ scope.names.lookup y = some .free := hy
    rcases hy with hy | hy
    · exact se hy
    · exact absurd rfl (S.D1 _ (PySem.mem_of_lookup hy))
  · exact Nat.le_of_lt (x.above y c (PySem.mem_of_lookup h))
  · have hi : i < vs.length := by
      unfold start at h2
      by_cases hi : i < vs.length
      · exact hi
      · rw [List.getElem?_append_right (by simpa using hi)] at h2
        rw [List.getElem?_replicate] at h2
        split at h2 <;> cases h2
    have ha : vs[i]? = some v := by
      unfold start at h2
      rw [List.getElem?_append_left (by simpa using hi), List.getElem?_map] at h2
      cases e : vs[i]? with
      | none => rw [e] at h2; cases h2
      | some a => rw [e] at h2; cases h2; rfl
    obtain ⟨u, hu, rv⟩ := r.get ha
    have hp : ps[i]? = some y := by
      rw [<- S.pre, List.getElem?_take_of_lt (by omega)]; exact h1
    have ndP : ps.Nodup := by rw [<- S.pre]; exact S.nd.sublist (List.take_sublist _ _)
    refine ⟨u, rv, ?_⟩
    rcases S.par y (List.mem_of_getElem? hp) with k | k
    · exact .inl ⟨k, oX ndP hp hu k⟩
    · obtain ⟨c, e⟩ := se (n := s.heap.objs.size + 1) k
      refine .inr ⟨.inl k, c, e, ?_⟩
      have q := x.cell y c e
      rw [pE ndP hp hu (by show scope.names.lookup y ≠ _; rw [k]; decide)] at q
      exact q
  · exact e0.hok.fresh (Nat.le_of_lt (x.above y c (PySem.mem_of_lookup h)))
  · unfold start
    show _ = N.length
    rw [List.length_append, List.length_map, List.length_replicate]
    omega
theorem C1 {CX : CXT} {P : Program} {w : World} {K : PySem.W.Frag} {mg : Str -> Option Value} {base : Heap} {k : Nat} {f : Addr} {name qual : Str} {params : Arguments} {body : List Stmt} {scope : Scope} {dV kV doc pm cdv ct oc : Value} {an od : Option Addr}
    {osl : Array (Option Value)} {N ps : List Str} {sp : Sp} (lk : K.lookup f = some ⟨oc, od, .func (PySem.W.fnOf name qual params body scope dV kV doc pm an cdv ct), osl⟩) (hcd : PySem.W.codeIn K cdv qual = true) (S : aS N ps scope)
    (len : ∀ vs H Q E, sp vs H Q E -> vs.length = ps.length)
    (hbody : ∀ (A : Around) (outer : List Env) (s : Shared) (H : Hp) (vs : List V) (Q : VK) (E : XK), dq k (A.deeper (envOfC qual scope s.heap.objs.size f cdv)) -> sp vs H Q E →
      ∃ t, PSs (jl CX P w K mg base N qual scope f cdv A outer s H E) body t /\ t { nx := fun _ H' => Q .non H', rt := Q } (start N vs) H) :
    dQ P w K mg base CX (k + 1) f (PySem.W.fnOf name qual params body scope dV kV doc pm an cdv ct) ps sp := by
  refine ⟨len, fun A outer s H args us vs Q E hr e0 hb r hsp => ?_⟩
  have hl := len _ _ _ _ hsp
  have KX : K.In s.heap := e0.mod.kin.keeps fun b o e => (e0.bs b o e).1
  have lim : s.heap.NoLimit := e0.mod.nolimit.keeps fun b o e => (e0.bs b o e).1
  have hkind : ∀ y ∈ ps.zip us, scope.names.lookup y.1 = some .local \/ (scope.names.lookup y.1 = some .cell /\ ((cellsFrom (s.heap.objs.size + 1) scope.names []).lookup y.1).isSome = true) := fun ⟨n, v⟩ hy => by
    rcases S.par n (List.of_mem_zip hy).1 with q | q
    · exact .inl q
    · exact .inr ⟨q, PySem.W.cellsFrom_some _ _ _ (.inl q)⟩
  refine codeAny_call_function hr.depth (KX _ _ lk) rfl S.co S.gen rfl (PySem.W.codeRec_of KX hcd) (hb _ _ _ _ ?_)
  refine wpAny_newFunctionEnv_cells S.kind hkind fun env he s1 x => ?_
  subst he
  refine ⟨lim.keeps x.toInCall.keep, codeAny_func ?_⟩
  obtain ⟨t, ht, hq⟩ := hbody A outer s H vs Q E (hr.deeper _) hsp
  have I : Inv (jl CX P w K mg base N qual scope f cdv A outer s H E) [] (start N vs) H s1 := pf S hr.hd e0 hl r x
  refine wpAny_mono (ht [] s1 (start N vs) H _ I hq) (fun fl s' hs => ?_) fun e s' hs => hs
  have fin : ∀ {σ' : St} {H' : Hp} {v : V} {u : Value}, Inv (jl CX P w K mg base N qual scope f cdv A outer s H E) [] σ' H' s' -> RelV v u -> Q v H' -> CE outer P w H s Q u s' :=
    fun {σ' H' v u} J rv q => ⟨v, H', J.os, J.bare, J.base, J.hok, rv, q⟩
  cases fl with
  | ret u =>
    obtain ⟨v, σ', H', J, rv, q⟩ := hs
    exact fin J rv q
  | next =>
    obtain ⟨σ', H', J, q⟩ := hs
    exact fin (v := V.non) (u := Value.none) J rfl q
  | brk =>
    obtain ⟨_, _, _, q⟩ := hs
    exact False.elim q
  | cont =>
    obtain ⟨_, _, _, q⟩ := hs
    exact False.elim q
section
variable {X : Cx} {x : Str} {p pos : Pos} {e : Expr} {es : List Expr} {t : TA} {id T : String} {r : List V -> Hp -> VK -> Prop}
noncomputable def tCB (r : List V -> Hp -> VK -> Prop) (t : TA) : TE := fun σ H Q => t σ H fun vs H1 => r vs H1 Q
theorem jD (hc : a_ X (.builtin id) r) (hg : Gl X x) (hm : X.mg x = none) (hv : bootBuiltins x = some (.builtin id)) (ha : PA X (e :: es) t) (hn : x ≠ "__name__" := by decide) (hdb : (x == ("__debug__" : Str)) = false := by decide)
    (he : starEach (e :: es) X.env = (false, eval e X.env) :: starEach es X.env := by rfl) (hpl : (backTo pos (starEach es X.env)).any (·.1) = false := by rfl) : PE X (.Call (.Name x p) (e :: es) [] pos) (tCB r t) := by
  intro pins s σ H Q I h
  refine wpAny_Call_Name_kw (iC I hg hm hv ?_ hn hdb)
  exact PyProof.Rows.callWith_builtin1 (thn (ha pos pins s σ H _ I h) fun us s1 ⟨vs, H1, I1, r1, q1⟩ => hc pins s1 σ H1 vs us Q I1 r1 q1) he hpl
theorem gb (hc : a_ X (.type T) r) (hg : Gl X x) (hm : X.mg x = none) (hv : bootBuiltins x = some (.type T)) (ha : PA X (e :: es) t) (hn : x ≠ "__name__" := by decide) (hdb : (x == ("__debug__" : Str)) = false := by decide)
    (he : starEach (e :: es) X.env = (false, eval e X.env) :: starEach es X.env := by rfl) (hpl : (backTo pos (starEach es X.env)).any (·.1) = false := by rfl) : PE X (.Call (.Name x p) (e :: es) [] pos) (tCB r t) := by
  intro pins s σ H Q I h
  refine wpAny_Call_Name_kw (iC I hg hm hv ?_ hn hdb)
  exact PyProof.Rows.callWith_type1 (thn (ha pos pins s σ H _ I h) fun us s1 ⟨vs, H1, I1, r1, q1⟩ => hc pins s1 σ H1 vs us Q I1 r1 q1) he hpl
theorem uj (hc : a_ X (.type T) r) (hg : Gl X x) (hm : X.mg x = none) (hv : bootBuiltins x = some (.type T)) (hn : x ≠ "__name__" := by decide) (hdb : (x == ("__debug__" : Str)) = false := by decide) :
    PE X (.Call (.Name x p) [] [] pos) (tCB r Ee) := by
  intro pins s σ H Q I h
  refine wpAny_Call_Name_kw (iC I hg hm hv ?_ hn hdb)
  exact PyProof.Rows.callWith_type0 (hc pins s σ H [] [] Q I .nil h)
end
end L2
namespace HT
open PySem PyProof.Rows
section
variable {prog : Program} {w : World} {A : Around} {E : Value -> Shared -> Prop} {s : Shared}
theorem BL {t b : Addr} {vs ws : List Value} {Q : Value -> Shared -> Prop} (ht : IsTup s.heap t vs.toArray) (hb : IsTup s.heap b ws.toArray) (hv : vs ≠ [])
    (h1 : ws = [] -> Q (.ref t) s) (h2 : ws ≠ [] -> Q (.ref s.heap.objs.size) { s with heap := s.heap.push { cls := .type "tuple", data := .seq (vs ++ ws).toArray } })
    (hsz : vs.length + ws.length <= sizeLine) : wpAny (model prog w) A (binaryOp .Add (.ref t) (.ref b)) Q E s := by
  obtain ⟨⟨cls, dd, data, sl⟩, ho, hc, n, hd⟩ := id ht
  obtain ⟨⟨cls2, dd2, data2, sl2⟩, ho2, hc2, n2, hd2⟩ := id hb
  simp only at hc hd hc2 hd2
  subst hc hd hc2 hd2
  have e : vs.toArray ++ ws.toArray = (vs ++ ws).toArray := by simp
  by_cases hw : ws = []
  · exact concat_meets ⟨_, ho, rfl⟩ ⟨_, ho2, rfl⟩ noFill_tuple_add seq_tuple_add PySem.F.slot_tuple_add PySem.F.entry_tuple_add (PySem.F.args_tuple_add_2 _ _)
      (tuple_addW1 t b vs.toArray ws.toArray n n2 dd dd2 sl sl2 (by simpa using hv) (by simp [hw])) ⟨ho, ho2, h1 hw⟩
  · refine concat_meets ⟨_, ho, rfl⟩ ⟨_, ho2, rfl⟩ noFill_tuple_add seq_tuple_add PySem.F.slot_tuple_add PySem.F.entry_tuple_add (PySem.F.args_tuple_add_2 _ _)
      (tuple_addW2 t b vs.toArray ws.toArray n n2 dd dd2 sl sl2 (by simpa using hv) (by simpa using hw) (by rw [List.size_toArray, List.size_toArray]; exact hsz)) ⟨ho, ho2, ?_⟩
    rw [e]
    exact h2 hw
noncomputable def sIx (n d : Nat) : Option Int -> Nat
  | none => d
  | some v => if v < 0 then (v + (n : Int)).toNat else min v.toNat n
theorem sf (n d : Nat) : sIx n d none = d := rfl
theorem vG (n d k : Nat) : sIx n d (some (k : Int)) = min k n := by
  show (if (k : Int) < 0 then ((k : Int) + (n : Int)).toNat else min (k : Int).toNat n) = min k n
  rw [if_neg (by omega), Int.toNat_natCast]
theorem El (n d : Nat) (hd : d <= n) (o : Option Int) : sIx n d o <= n := by
  cases o with
  | none => exact hd
  | some v =>
    show (if v < 0 then (v + (n : Int)).toNat else min v.toNat n) <= n
    by_cases hv : v < 0
    · rw [if_pos hv]; omega
    · rw [if_neg hv]; exact Nat.min_le_right _ _
theorem uG (v : Int) (n d : Nat) : (if v < 0 then max (v + (n : Int)) 0 else min v (n : Int)) = ((sIx n d (some v) : Nat) : Int) := by
  show (if v < 0 then max (v + (n : Int)) 0 else min v (n : Int)) = (((if v < 0 then (v + (n : Int)).toNat else min v.toNat n) : Nat) : Int)
  by_cases hv : v < 0
  · simp only [if_pos hv]; omega
  · simp only [if_neg hv]; omega
theorem tX (lo hi : Option Int) (n : Nat) : Builtin.Slice.sliceAdjust lo hi 1 (n : Int) = (((sIx n 0 lo : Nat) : Int), ((sIx n n hi : Nat) : Int)) := by
  have h1 : ¬ ((1 : Int) < 0) := by omega
  unfold Builtin.Slice.sliceAdjust
  simp only [h1, if_false]
  refine Prod.ext ?_ ?_
  · cases lo with
    | none => rfl
    | some v => exact uG v n 0
  · cases hi with
    | none => rfl
    | some v => exact uG v n n
theorem t9 (i j : Nat) : Builtin.Slice.slicePlaces (i : Int) (j : Int) 1 = j - i := by
  unfold Builtin.Slice.slicePlaces
  have h1 : (1 : Int) > 0 := by omega
  simp only [h1, if_true, Int.ediv_one]
  split <;> omega
theorem l_ {v : Value} {o : Option Int} {Q : Option Int -> Shared -> Prop} (p : IsPart v o) (h : Q o s) : wpAny (model prog w) A (Builtin.Slice.slicePartIndex v) Q E s := by
  cases p with
  | none => exact slicePart_none h
  | int i t => exact slicePart_int h
theorem gh {sl : Addr} {vl vu : Value} {lo hi : Option Int} {n : Nat} {Q : Int × Int × Nat -> Shared -> Prop} (hs : s.heap.IsSliceOf sl vl vu .none) (pl : IsPart vl lo) (pu : IsPart vu hi)
    (h : Q (((sIx n 0 lo : Nat) : Int), 1, sIx n n hi - sIx n 0 lo) s) : wpAny (model prog w) A (Builtin.Slice.sliceApplied (.ref sl) (pure (n : Int))) Q E s := by
  obtain ⟨os, hos, hcs, hds⟩ := id hs
  unfold Builtin.Slice.sliceApplied Builtin.Slice.sliceFields
  refine wpAny_bind (wpAny_bind (wpAny_field hos hds (x := vl) rfl (wpAny_bind (wpAny_field hos hds (x := vu) rfl (wpAny_bind (wpAny_field hos hds (x := .none) rfl (wpAny_pure ?_)))))))
  refine wpAny_bind (slicePart_none ?_)
  show wpAny _ _ (if ((1 : Int) == 0) = true then _ else _) _ _ s
  rw [if_neg (by decide)]
  refine wpAny_bind (l_ pl (wpAny_bind (l_ pu (wpAny_bind (wpAny_pure ?_)))))
  show wpAny _ _ (match Builtin.Slice.sliceAdjust lo hi 1 (n : Int) with | (lo, hi) => pure (lo, (1 : Int), Builtin.Slice.slicePlaces lo hi 1)) _ _ s
  rw [tX lo hi n]
  show wpAny _ _ (pure (((sIx n 0 lo : Nat) : Int), (1 : Int), Builtin.Slice.slicePlaces ((sIx n 0 lo : Nat) : Int) ((sIx n n hi : Nat) : Int) 1)) _ _ s
  rw [t9]
  exact wpAny_pure h
theorem zT (xs : Array Value) (i k : Nat) : ((List.range k).filterMap fun (m : Nat) => xs[((i : Int) + (m : Int) * 1).toNat]?).toArray = ((xs.toList.drop i).take k).toArray := by
  have e : (fun (m : Nat) => xs[((i : Int) + (m : Int) * 1).toNat]?) = fun m => xs[i + m]? := by
    funext m
    have : ((i : Int) + (m : Int) * 1).toNat = i + m := by omega
    rw [this]
  rw [e]
  have := pick_run xs i k
  rw [List.filterMap_map] at this
  have e2 : ((fun x => xs[x]?) ∘ fun x => i + x) = fun m => xs[i + m]? := rfl
  rw [e2] at this
  rw [this]
theorem jF {t sl : Addr} {items : Array Value} {vl vu : Value} {lo hi : Option Int} {Q : Value -> Shared -> Prop} (ht : IsTup s.heap t items) (hs : s.heap.IsSliceOf sl vl vu .none) (pl : IsPart vl lo) (pu : IsPart vu hi)
    (hw : ¬ (sIx items.size 0 lo = 0 /\ sIx items.size items.size hi = items.size))
    (h : Q (.ref s.heap.objs.size) { s with heap := s.heap.push { cls := .type "tuple", data := .seq ((items.toList.drop (sIx items.size 0 lo)).take (sIx items.size items.size hi - sIx items.size 0 lo)).toArray } })
    (hsz : items.size <= sizeLine) : wpAny (model prog w) A (getItem (.ref t) (.ref sl)) Q E s := by
  have htake : sizeOk (.seq ((items.toList.drop (sIx items.size 0 lo)).take (sIx items.size items.size hi - sIx items.size 0 lo)).toArray) := by
    show ((items.toList.drop (sIx items.size 0 lo)).take (sIx items.size items.size hi - sIx items.size 0 lo)).toArray.size <= sizeLine
    rw [List.size_toArray, List.length_take, List.length_drop, Array.length_toList]
    omega
  have hj : sIx items.size items.size hi <= items.size := El _ _ (Nat.le_refl _) hi
  obtain ⟨os, hos, hcs, hds⟩ := id hs
  have hTs : s.TypeIs (.ref sl) "slice" := ⟨os, hos, hcs⟩
  unfold getItem
  try with_reducible refine wpAny_holding ?_
  first | refine wpAny_bind (wpAny_pure ?_) | skip
  refine wpAny_bind (wpAny_sequenceKey ht.typeIs (by decide) ?_)
  refine wpAny_bind (wpAny_callSpecial?_slot (name := Str.ofString "__getitem__") ht.typeIs PyProof.Rows.slot_tuple_getitem
    (wpAny_call_entry PyProof.Rows.slot_tuple_getitem ht.typeIs entry_tuple_getitem ?_ (args_tuple_getitem _ _)))
  show wpAny _ _ (Builtin.Tuple.tupleItemsOf (.ref t) >>= _) _ _ s
  refine wpAny_bind (tupleItemsOf_ ht ?_)
  refine wpAny_bind (wpAny_typeOf hTs ?_)
  rw [if_pos (by decide)]
  refine wpAny_bind (gh hs pl pu ?_)
  have hno : ¬ ((((sIx items.size 0 lo : Nat) : Int) == 0 && (1 : Int) == 1 && (sIx items.size items.size hi - sIx items.size 0 lo) == items.size) = true) := by
    intro q
    rw [Bool.and_eq_true, Bool.and_eq_true] at q
    have q1 : ((sIx items.size 0 lo : Nat) : Int) = 0 := eq_of_beq q.1.1
    have q2 : sIx items.size items.size hi - sIx items.size 0 lo = items.size := eq_of_beq q.2
    exact hw ⟨by omega, by omega⟩
  show wpAny _ _ (if (((sIx items.size 0 lo : Nat) : Int) == 0 && (1 : Int) == 1 && (sIx items.size items.size hi - sIx items.size 0 lo) == items.size) = true then _ else _) _ _ s
  rw [if_neg hno, zT]
  first
    | exact wpAny_bind (m := Builtin.Tuple.tupleExact _) (wpAny_newObj_type (wpAny_pure ⟨_, rfl, wpAny_pure h⟩) htake)
    | exact wpAny_bind (m := Builtin.Tuple.tupleExact _) (wpAny_newObj_type (wpAny_bind (wpAny_pure (wpAny_pure ⟨_, rfl, wpAny_pure h⟩))) htake)
    | exact wpAny_bind (wpAny_bind (m := Builtin.Tuple.tupleExact _) (wpAny_newObj_type (wpAny_pure (wpAny_pure ⟨_, rfl, wpAny_pure h⟩)) htake))
    | exact wpAny_bind (wpAny_bind (m := Builtin.Tuple.tupleExact _) (wpAny_newObj_type (wpAny_pure ⟨_, rfl, wpAny_pure h⟩) htake))
end
end HT
namespace L2
open PySem PySem.Spec PyProof.Rows
noncomputable abbrev TO := St -> Hp -> (Option Int -> Hp -> Prop) -> Prop
noncomputable def PO (X : Cx) (e : Option Expr) (t : TO) : Prop :=
  ∀ (pins : List (Addr × Obj)) (s : Shared) (σ : St) (H : Hp) (Q : Option Int -> Hp -> Prop), Inv X pins σ H s -> t σ H Q →
    wpAny (model X.prog X.w) X.A (evalPart e X.env) (fun u s' => ∃ o H', Inv X pins σ H' s' /\ IsPart u o /\ Q o H') X.xe s
noncomputable def Cv : TO := fun _ H Q => Q none H
noncomputable def FD (t : TE) : TO := fun σ H Q => t σ H fun x H1 => ∃ i, x = .int i /\ Q (some i) H1
theorem intsAre_of {ns : List Int} : ∀ {us : List Value}, Vals (ns.map V.int) us -> IntsAre us ns := by
  induction ns with
  | nil => intro us r; rw [List.map_nil] at r; cases r; exact .nil
  | cons n ns ih =>
    intro us r
    rw [List.map_cons] at r
    cases r with
    | cons r1 r2 =>
      obtain ⟨t, e⟩ := r1
      subst e
      exact .cons n t (ih r2)
section
variable {X : Cx} {e : Expr} {te : TE} {lo hi : Option Expr} {tl th : TO} {pos p2 : Pos}
theorem A4 : PO X none Cv := by
  intro pins s σ H Q I h
  rw [evalPart_none]
  exact wpAny_pure ⟨none, H, I, .none, h⟩
theorem CO (h : PE X e te) : PO X (some e) (FD te) := by
  intro pins s σ H Q I hw
  rw [evalPart_some]
  refine thn (h pins s σ H _ I hw) fun u s1 ⟨x, H1, I1, r1, q1⟩ => ?_
  obtain ⟨i, rfl, q⟩ := q1
  obtain ⟨t, rfl⟩ := r1
  exact ⟨some i, H1, I1, .int i t, q⟩
noncomputable def SlR (X : Cx) (r : V -> Option Int -> Option Int -> Hp -> VK -> Prop) : Prop :=
  ∀ (pins : List (Addr × Obj)) (s : Shared) (σ : St) (H : Hp) (x : V) (v vl vu : Value) (lo hi : Option Int) (sl : Addr) (Q : VK), Inv X pins σ H s -> RelV x v -> s.heap.IsSliceOf sl vl vu .none -> IsPart vl lo -> IsPart vu hi -> r x lo hi H Q →
    ∃ T id, typeLookup (.type T) "__getitem__" = pure (some (.builtin id)) /\ s.TypeIs v T /\ wpAny (model X.prog X.w) X.A (getItem v (.ref sl)) (EP X pins σ Q) X.xe s
theorem SlR.or {r r' : V -> Option Int -> Option Int -> Hp -> VK -> Prop} (h : SlR X r) (h' : SlR X r') : SlR X (fun x lo hi H Q => r x lo hi H Q \/ r' x lo hi H Q) := by
  intro pins s σ H x v vl vu lo hi sl Q I rx hs pl pu q
  rcases q with q | q
  · exact h pins s σ H x v vl vu lo hi sl Q I rx hs pl pu q
  · exact h' pins s σ H x v vl vu lo hi sl Q I rx hs pl pu q
noncomputable def tSl (r : V -> Option Int -> Option Int -> Hp -> VK -> Prop) (te : TE) (tl th : TO) : TE := fun σ H Q => te σ H fun x H1 => tl σ H1 fun l H2 => th σ H2 fun u H3 => r x l u H3 Q
theorem zw {r : V -> Option Int -> Option Int -> Hp -> VK -> Prop} (hr : SlR X r) (he : PE X e te) (hl : PO X lo tl) (hu : PO X hi th) : PE X (.Subscript e (.Slice lo hi none p2) pos) (tSl r te tl th) := by
  intro pins s σ H Q I h
  refine Subscript_ (thn (he pins s σ H _ I h) fun v s1 ⟨x, H1, I1, r1, q1⟩ => ?_)
  refine wpAny_Slice (thn (hl pins s1 σ H1 _ I1 q1) fun vl s2 ⟨l, H2, I2, pl, q2⟩ => thn (hu pins s2 σ H2 _ I2 q2) fun vu s3 ⟨u, H3, I3, pu, q3⟩ => ?_)
  rw [evalPart_none]
  refine wpAny_pure ?_
  have I4 : Inv X pins σ H3 { s3 with heap := s3.heap.push { cls := .type "slice", data := .fields #[vl, vu, .none] } } := I3.kept (t' := s3.toks) fun b ob q => Heap.get?_push_of_some _ q
  obtain ⟨T, id, hT, ht, hg⟩ := hr pins { s3 with heap := s3.heap.push { cls := .type "slice", data := .fields #[vl, vu, .none] } } σ H3 x v vl vu l u s3.heap.objs.size Q I4 r1 (Heap.IsSliceOf.new ..) pl pu q3
  show wpAny (model X.prog X.w) X.A (subscriptTail e (.Slice lo hi none p2) v (.ref s3.heap.objs.size)) (EP X pins σ Q) X.xe { s3 with heap := s3.heap.push { cls := .type "slice", data := .fields #[vl, vu, .none] } }
  exact tail_any (ops := [.ref s3.heap.objs.size, v]) ht hT hg (by with_unfolding_all rfl)
noncomputable def nO (xs : List V) (lo hi : Option Int) : List V := (xs.drop (HT.sIx xs.length 0 lo)).take (HT.sIx xs.length xs.length hi - HT.sIx xs.length 0 lo)
theorem k6 (xs : List V) (lo hi : Option Int) : (nO xs lo hi).length <= xs.length := by
  unfold nO
  rw [List.length_take, List.length_drop]
  omega
noncomputable def Ii (K : PySem.W.Frag) : V -> Option Int -> Option Int -> Hp -> VK -> Prop := fun x lo hi H Q => ∃ a xs, x = .ref a /\ SqT K H a xs ∧
  ¬ (HT.sIx xs.length 0 lo = 0 /\ HT.sIx xs.length xs.length hi = xs.length) /\ ∀ p, H p = none -> Q (.ref p) (upd H p (.tup (nO xs lo hi)))
theorem EW : SlR X (Ii X.K) := by
  intro pins s σ H x v vl vu lo hi sl Q I rx hs pl pu h
  obtain ⟨a, xs, rfl, hx, hw, q⟩ := h
  cases rx
  obtain ⟨its, r, ht, hz⟩ := I.tuple hx
  have hlen : its.toArray.size = xs.length := by rw [List.size_toArray]; exact r.length.symm
  refine ⟨"tuple", _, PyProof.Rows.slot_tuple_getitem.lookup, ht.typeIs, ?_⟩
  refine HT.jF ht hs pl pu (by rw [hlen]; exact hw) ?_ (by rw [hlen]; exact hz)
  rw [hlen]
  refine ⟨.ref s.heap.objs.size, _, I.laid (t' := s.toks) (o := .tup (nO xs lo hi)) (fun b ob q => Heap.get?_push_of_some _ q) (Nat.le_refl _) ?_, rfl, q _ (I.hok.fresh (Nat.le_refl _))⟩
  exact ⟨Nat.le_trans (k6 xs lo hi) hz, _, (r.drop (HT.sIx xs.length 0 lo)).take (HT.sIx xs.length xs.length hi - HT.sIx xs.length 0 lo), jm.new _ _⟩
noncomputable def Dg (K : PySem.W.Frag) : R2 := fun x y H Q => ∃ a b xs ys, x = .ref a /\ y = .ref b /\ SqT K H a xs /\ SqT K H b ys /\ xs ≠ [] /\ xs.length + ys.length <= sizeLine ∧
  (ys = [] -> Q (.ref a) H) /\ (ys ≠ [] -> ∀ p, H p = none -> Q (.ref p) (upd H p (.tup (xs ++ ys))))
theorem Vals.pR {xs : List V} {us : List Value} (r : Vals xs us) : us = [] ↔ xs = [] := by
  cases r with
  | nil => simp
  | cons _ _ => simp
theorem Bc : OpR X (binaryOp .Add) (Dg X.K) := by
  intro pins s σ H x y v u Q I rx ry h
  obtain ⟨a, b, xs, ys, rfl, rfl, ha, hb, hx, hz, q1, q2⟩ := h
  cases rx
  cases ry
  obtain ⟨its, r1, p1, _⟩ := I.tuple ha
  obtain ⟨its2, r2, p2, _⟩ := I.tuple hb
  refine HT.BL p1 p2 (fun z => hx (r1.pR.mp z)) (fun z => ⟨.ref a, H, I, rfl, q1 (r2.pR.mp z)⟩) (fun z => ?_) (by rw [<- r1.length, <- r2.length]; exact hz)
  refine ⟨.ref s.heap.objs.size, _, I.laid (t' := s.toks) (o := .tup (xs ++ ys)) (fun b ob q => Heap.get?_push_of_some _ q) (Nat.le_refl _) ?_, rfl, q2 (fun w => z (r2.pR.mpr w)) _ (I.hok.fresh (Nat.le_refl _))⟩
  exact ⟨by rw [List.length_append]; exact hz, _, r1.append r2, jm.new _ _⟩
end
noncomputable def ixN (n : Nat) (i : Int) : Option Nat := if 0 <= i then (if i < n then some i.toNat else none) else if -(n : Int) <= i then some (i + n).toNat else none
noncomputable def atI {α : Type} (xs : List α) (i : Int) : Option α := (ixN xs.length i).bind fun j => xs[j]?
theorem qD {n : Nat} {i : Int} {j : Nat} (h : ixN n i = some j) : seqIndex? i n = some j /\ j < n /\ -(n : Int) <= i /\ i < n := by
  unfold ixN at h
  by_cases h0 : 0 <= i
  · rw [if_pos h0] at h
    by_cases h1 : i < n
    · rw [if_pos h1] at h
      have e : i.toNat = j := Option.some.inj h
      exact ⟨by rw [seqIndex_of h0 h1, e], by omega, by omega, h1⟩
    · rw [if_neg h1] at h; cases h
  · rw [if_neg h0] at h
    by_cases h1 : -(n : Int) <= i
    · rw [if_pos h1] at h
      have e : (i + n).toNat = j := Option.some.inj h
      exact ⟨by rw [seqIndex_neg (by omega) h1, e], by omega, h1, by omega⟩
    · rw [if_neg h1] at h; cases h
theorem qf {α : Type} {xs : List α} {i : Int} {v : α} (h : atI xs i = some v) : ∃ j, seqIndex? i xs.length = some j /\ xs[j]? = some v /\ j < xs.length /\ -(xs.length : Int) <= i /\ i < xs.length := by
  unfold atI at h
  cases e : ixN xs.length i with
  | none => rw [e] at h; cases h
  | some j =>
    rw [e] at h
    obtain ⟨h1, h2, h3, h4⟩ := qD e
    exact ⟨j, h1, h, h2, h3, h4⟩
theorem Bl {α : Type} {xs : List α} {j : Nat} {v : α} (h : xs[j]? = some v) : atI xs (j : Int) = some v := by
  have hj : j < xs.length := (List.getElem?_eq_some_iff.mp h).1
  have e : ixN xs.length (j : Int) = some j := by
    unfold ixN
    rw [if_pos (by omega), if_pos (by omega)]; simp
  unfold atI; rw [e]; exact h
noncomputable def vz (b : Expr) : Prop := ∀ o i, subscripted b false o i = operate [o, i] (getItem o i)
noncomputable def IxR (X : Cx) (r : R2) : Prop :=
  ∀ (value slice : Expr) (pins : List (Addr × Obj)) (s : Shared) (σ : St) (H : Hp) (x y : V) (v u : Value) (Q : VK), Inv X pins σ H s -> RelV x v -> RelV y u -> r x y H Q →
    subscripted slice false v u = operate [v, u] (getItem v u) -> wpAny (model X.prog X.w) X.A (subscriptTail value slice v u) (EP X pins σ Q) X.xe s
noncomputable def MtR (X : Cx) (id : String) (r : V -> List V -> Hp -> VK -> Prop) : Prop :=
  ∀ (pins : List (Addr × Obj)) (s : Shared) (σ : St) (H : Hp) (x : V) (xs : List V) (v : Value) (us : List Value) (Q : VK), Inv X pins σ H s -> RelV x v -> Vals xs us -> r x xs H Q →
    wpAny (model X.prog X.w) X.A (call (.builtin id) (v :: us)) (EP X pins σ Q) X.xe s
section
variable {X : Cx} {a b : Expr} {ta tb : TE} {pos : Pos}
theorem IxR.or {r r' : R2} (h : IxR X r) (h' : IxR X r') : IxR X (fun x y H Q => r x y H Q \/ r' x y H Q) := by
  intro value slice pins s σ H x y v u Q I rx ry q hs
  rcases q with q | q
  · exact h value slice pins s σ H x y v u Q I rx ry q hs
  · exact h' value slice pins s σ H x y v u Q I rx ry q hs
theorem FY {r : R2} (hr : IxR X r) (ha : PE X a ta) (hb : PE X b tb) (hs : vz b) : PE X (.Subscript a b pos) (tOp r ta tb) := by
  intro pins s σ H Q I h
  exact Subscript_ (DG ha hb I h fun v u s2 x y H2 I2 rx ry q => hr a b pins s2 σ H2 x y v u Q I2 rx ry q (hs _ _))
noncomputable def GL (K : PySem.W.Frag) : R2 := fun x y H Q => ∃ p xs i v, x = .ref p /\ y = .int i /\ SqL K H p xs /\ atI xs i = some v /\ Q v H
noncomputable def FI (K : PySem.W.Frag) : R2 := fun x y H Q => ∃ p xs i v, x = .ref p /\ y = .int i /\ SqT K H p xs /\ atI xs i = some v /\ Q v H
noncomputable def Gm : R2 := fun x y H Q => ∃ z i c, x = .str z /\ y = .int i /\ z.length <= sizeLine /\ atI z.cps.toList i = some c /\ Q (.str ⟨#[c]⟩) H
theorem CA : IxR X (GL X.K) := by
  intro value slice pins s σ H x y v u Q I rx ry h hs
  obtain ⟨p, xs, i, z, rfl, rfl, hq, he, q⟩ := h
  cases rx
  obtain ⟨t, rfl⟩ := ry
  obtain ⟨its, r, pl, hz⟩ := I.list hq
  obtain ⟨j, h1, h2, h3, h4, h5⟩ := qf he
  obtain ⟨w, ew, rw'⟩ := r.get h2
  have hl := r.length
  have hn := jt
  have fin : EP X pins σ Q w s := ⟨z, H, I, rw', q⟩
  by_cases h0 : 0 <= i
  · have hj : i.toNat = j := by
      rw [seqIndex_of h0 h5] at h1
      exact Option.some.inj h1
    exact item_listR pl.isList h0 (by omega) (by rw [hj]; simpa using ew) fin hs
  · have hj : (i + (its.toArray.size : Int)).toNat = j := by
      rw [seqIndex_neg (by omega) h4] at h1
      rw [List.size_toArray, <- hl]
      exact Option.some.inj h1
    exact subscriptTail_builtinR (x := w) pl.isList.typeIs slot_list_getitem.lookup
      (wpAny_getItem_list_neg (Q := fun r s' => r = w /\ EP X pins σ Q r s') pl.isList (by omega) (by rw [List.size_toArray] <;> omega) (by omega) (by rw [hj]; simpa using ew) ⟨rfl, fin⟩) hs
theorem Eu : IxR X (FI X.K) := by
  intro value slice pins s σ H x y v u Q I rx ry h hs
  obtain ⟨p, xs, i, z, rfl, rfl, hq, he, q⟩ := h
  cases rx
  obtain ⟨t, rfl⟩ := ry
  obtain ⟨its, r, pl, hz⟩ := I.tuple hq
  obtain ⟨j, h1, h2, h3, h4, h5⟩ := qf he
  obtain ⟨w, ew, rw'⟩ := r.get h2
  have hl := r.length
  have hn := jt
  have fin : EP X pins σ Q w s := ⟨z, H, I, rw', q⟩
  exact subscriptTail_builtinR (x := w) pl.typeIs slot_tuple_getitem.lookup
    (getItem_tuple (j := j) (Q := fun r s' => r = w /\ EP X pins σ Q r s') pl (by omega) (by omega) (by rw [List.size_toArray, <- hl]; exact h1) (by simpa using ew) ⟨rfl, fin⟩) hs
theorem EZ : IxR X Gm := by
  intro value slice pins s σ H x y v u Q I rx ry h hs
  obtain ⟨z, i, c, rfl, rfl, hz, he, q⟩ := h
  obtain ⟨t, rfl⟩ := rx
  obtain ⟨t', rfl⟩ := ry
  obtain ⟨j, h1, h2, h3, h4, h5⟩ := qf he
  have hl : z.cps.toList.length = z.length := by simp [Str.length]
  rw [hl] at h1 h4 h5
  have hn := jt
  exact tail_any (typeIs_str s z t) slot_str_getitem.lookup (getItem_str (c := c) (by
    have e1 : decide (i < -(2 ^ 63 : Int)) = false := decide_eq_false (by omega)
    have e2 : decide (i ≥ 2 ^ 63) = false := decide_eq_false (by omega)
    rw [e1, e2, Bool.or_false]) (by rw [h1]; simpa using h2) ⟨.str ⟨#[c]⟩, H, I.tok _, ⟨_, rfl⟩, q⟩) hs
noncomputable def rIx (K : PySem.W.Frag) : R2 := fun x y H Q => GL K x y H Q \/ FI K x y H Q \/ Gm x y H Q
theorem bG : IxR X (rIx X.K) := CA.or (Eu.or EZ)
theorem tP (its : List Value) (n j : Nat) (u : Value) : Obj.mapSeq (·.setIfInBounds j u) { cls := .type "list", data := .seq its.toArray n } = { cls := .type "list", data := .seq (its.set j u).toArray n } := by
  simp [Obj.mapSeq]
theorem Inv.lst {pins : List (Addr × Obj)} {σ : St} {H : Hp} {s : Shared} {p : Addr} {xs : List V} (I : Inv X pins σ H s) (h : H p = some (.lst xs)) :
    ∃ (its : List Value) (n : Nat), Vals xs its /\ s.heap.get? p = some { cls := .type "list", data := .seq its.toArray n } /\ xs.length <= sizeLine := by
  obtain ⟨z, its, n, r, e⟩ := I.hok p _ h
  exact ⟨its, n, r, e, z⟩
theorem Inv.D4 {pins : List (Addr × Obj)} {σ : St} {H : Hp} {s : Shared} {p : Addr} {xs ys : List V} {its its' : List Value} {n n' : Nat} {f : Obj -> Obj} (I : Inv X pins σ H s) (h : H p = some (.lst xs))
    (ho : s.heap.get? p = some { cls := .type "list", data := .seq its.toArray n }) (hf : f { cls := .type "list", data := .seq its.toArray n } = { cls := .type "list", data := .seq its'.toArray n' }) (r : Vals ys its') (hz : ys.length <= sizeLine) (t : Nat) :
    Inv X pins σ (upd H p (.lst ys)) { s with heap := s.heap.update p f, toks := t } := by
  have e : (s.heap.update p f).get? p = some { cls := .type "list", data := .seq its'.toArray n' } := by
    rw [Heap.get?_update_self f ho (by rw [hf] <;> rfl), hf]
  refine I.write (x := p) (e := p) (by rw [h]; trivial) (.inl rfl) (fun b u hb q => (Heap.get?_update_other _ _ (Ne.symm hb)).trans q) ⟨_, e⟩ ?_
  exact ⟨hz, its', n', r, e⟩
noncomputable def CU : V -> V -> V -> Hp -> (Hp -> Prop) -> Prop := fun o i v H Q => ∃ p xs k j, o = .ref p /\ i = .int k /\ H p = some (.lst xs) /\ ixN xs.length k = some j /\ Q (upd H p (.lst (xs.set j v)))
theorem set_list : EO X CU := by
  intro pins s σ H o i v ov iv u Q I ro ri rv h
  obtain ⟨p, xs, k, j, rfl, rfl, hp, hj, q⟩ := h
  cases ro
  obtain ⟨t, rfl⟩ := ri
  obtain ⟨its, n, r, ho, hz⟩ := I.lst hp
  obtain ⟨h1, h2, h3, h4⟩ := qD hj
  have hl := r.length
  have hn := jt
  have I' : Inv X pins σ (upd H p (.lst (xs.set j v))) { s with heap := s.heap.update p (Obj.mapSeq (·.setIfInBounds j u)) } :=
    I.D4 hp ho (tP its n j u) (r.set rv j) (by rw [List.length_set]; exact hz) s.toks
  by_cases h0 : 0 <= k
  · have hk : k.toNat = j := by
      rw [seqIndex_of h0 h4] at h1
      exact Option.some.inj h1
    exact PySem.W.ki_setAt ho h0 (by omega) (by rw [List.size_toArray, <- hl]; exact h4) (by rw [hk]; exact ⟨_, I', q⟩)
  · have hk : (k + (its.toArray.size : Int)).toNat = j := by
      rw [seqIndex_neg (by omega) h3] at h1
      rw [List.size_toArray, <- hl]
      exact Option.some.inj h1
    exact PySem.W.ki_setBack ho (by omega) (by rw [List.size_toArray, <- hl]; exact h3) (by omega) (by rw [hk]; exact ⟨_, I', q⟩)
theorem rB (lo hi : Option Int) (n : Nat) : (sliceBounds lo hi none n).1 = ((HT.sIx n 0 lo : Nat) : Int) /\ (sliceBounds lo hi none n).2.1 = ((HT.sIx n n hi : Nat) : Int) /\ (sliceBounds lo hi none n).2.2 = 1 := by
  refine ⟨?_, ?_, rfl⟩
  · cases lo with
    | none => simp [sliceBounds, HT.sIx]
    | some i =>
      simp only [sliceBounds, HT.sIx, Option.getD_none, show (1 : Int) > 0 by decide, if_true]
      by_cases h : i < 0
      · simp only [h, if_true] <;> omega
      · simp only [h, if_false] <;> omega
  · cases hi with
    | none => simp [sliceBounds, HT.sIx]
    | some i =>
      simp only [sliceBounds, HT.sIx, Option.getD_none, show (1 : Int) > 0 by decide, if_true]
      by_cases h : i < 0
      · simp only [h, if_true] <;> omega
      · simp only [h, if_false] <;> omega
theorem nS (its : List Value) (lo hi : Option Int) : slicePick its.toArray lo hi none = ((its.drop (HT.sIx its.length 0 lo)).take (HT.sIx its.length its.length hi - HT.sIx its.length 0 lo)).toArray := by
  obtain ⟨h1, h2, h3⟩ := rB lo hi its.toArray.size
  unfold slicePick
  rw [h1, h2, h3]
  simp only [sliceRange_one, pick_run, List.size_toArray] <;> rfl
noncomputable def HM (K : PySem.W.Frag) : V -> Option Int -> Option Int -> Hp -> VK -> Prop := fun x lo hi H Q => ∃ a xs, x = .ref a /\ SqL K H a xs /\ ∀ p, H p = none -> Q (.ref p) (upd H p (.lst (nO xs lo hi)))
theorem Bw : SlR X (HM X.K) := by
  intro pins s σ H x v vl vu lo hi sl Q I rx hs pl pu h
  obtain ⟨a, xs, rfl, hx, q⟩ := h
  cases rx
  obtain ⟨its, r, ht, hz⟩ := I.list hx
  have hlen := r.length
  refine ⟨"list", _, slot_list_getitem.lookup, ht.isList.typeIs, ?_⟩
  refine wpAny_getItem_list_slice ht.isList hs pl pu .none (by simp) ?_ (by rw [List.size_toArray] <;> omega)
  rw [nS, <- hlen]
  refine ⟨.ref s.heap.objs.size, _, I.laid (t' := s.toks) (o := .lst (nO xs lo hi)) (fun b ob q => Heap.get?_push_of_some _ q) (Nat.le_refl _) ?_, rfl, q _ (I.hok.fresh (Nat.le_refl _))⟩
  exact ⟨Nat.le_trans (k6 xs lo hi) hz, _, 0, (r.drop (HT.sIx xs.length 0 lo)).take (HT.sIx xs.length xs.length hi - HT.sIx xs.length 0 lo), Heap.get?_push_size _ rfl⟩
theorem qb : a_ X (.builtin "len") (fun xs H Q => ∃ p ys, xs = [.ref p] /\ (SqL X.K H p ys \/ SqT X.K H p ys) /\ Q (.int ys.length) H) := by
  intro pins s σ H xs us Q I r h
  obtain ⟨p, ys, rfl, hq, q⟩ := h
  obtain ⟨u, rfl, rx⟩ := vals1 r
  cases rx
  have hn := jt
  rcases hq with hq | hq
  · obtain ⟨its, r', pl, hz⟩ := I.list hq
    have hlen := r'.length
    exact Calls.call_len_list pl.isList (by simp only [List.size_toArray] <;> omega) ⟨.int ys.length, H, I.tok _, ⟨s.toks + 1, by rw [List.size_toArray, hlen]⟩, q⟩
  · obtain ⟨its, r', pl, hz⟩ := I.tuple hq
    have hlen := r'.length
    exact len_tuple pl (by simp only [List.size_toArray] <;> omega) ⟨.int ys.length, H, I.tok _, ⟨s.toks + 1, by rw [List.size_toArray, hlen]⟩, q⟩
theorem pW : a_ X (.builtin "len") (fun xs H Q => ∃ z, xs = [.str z] /\ z.length <= sizeLine /\ Q (.int z.length) H) := by
  intro pins s σ H xs us Q I r h
  obtain ⟨z, rfl, hz, q⟩ := h
  obtain ⟨u, rfl, t, rfl⟩ := vals1 r
  have hn := jt
  exact len_str (by omega) ⟨.int z.length, H, I.tok _, ⟨_, rfl⟩, q⟩
theorem a_.or {f : Value} {r r' : List V -> Hp -> VK -> Prop} (h : a_ X f r) (h' : a_ X f r') : a_ X f (fun xs H Q => r xs H Q \/ r' xs H Q) := by
  intro pins s σ H xs us Q I rs q
  rcases q with q | q
  · exact h pins s σ H xs us Q I rs q
  · exact h' pins s σ H xs us Q I rs q
theorem qd : a_ X (.type "list") (fun xs H Q => ∃ p ys, xs = [.ref p] /\ (SqL X.K H p ys \/ SqT X.K H p ys) /\ ∀ l, H l = none -> Q (.ref l) (upd H l (.lst ys))) := by
  intro pins s σ H xs us Q I r h
  obtain ⟨p, ys, rfl, hq, q⟩ := h
  obtain ⟨u, rfl, rx⟩ := vals1 r
  cases rx
  have fin : ∀ (its : List Value), Vals ys its -> ys.length <= sizeLine -> ∀ (h' : Heap) (c' : Nat), (∀ b o', s.heap.get? b = some o' -> h'.get? b = some o') →
      h'.get? s.heap.objs.size = some { cls := .type "list", dict := none, data := .seq its.toArray c', slots := #[] } -> EP X pins σ Q (.ref s.heap.objs.size) { s with heap := h' } := fun its r' hz h' c' kp e =>
    ⟨.ref s.heap.objs.size, _, I.laid (t' := s.toks) kp (Nat.le_refl _) (show bL X.prog X.w _ h' _ (.lst ys) from ⟨hz, its, c', r', e⟩), rfl, q _ (I.hok.fresh (Nat.le_refl _))⟩
  rcases hq with hq | hq
  · obtain ⟨its, r', pl, hz⟩ := I.list hq
    have hlen := r'.length
    obtain ⟨o, ho, hc, n, hd⟩ := pl.isList
    exact call_list_seq p (.inl rfl) ho hc hd (fun h' c' kp e => fin its r' hz h' c' kp e) (by simp only [List.size_toArray] <;> omega)
  · obtain ⟨its, r', pl, hz⟩ := I.tuple hq
    have hlen := r'.length
    obtain ⟨o, ho, hc, n, hd⟩ := pl
    exact call_list_seq p (.inr rfl) ho hc hd (fun h' c' kp e => fin its r' hz h' c' kp e) (by simp only [List.size_toArray] <;> omega)
theorem aY : a_ X (.type "tuple") (fun xs H Q => ∃ p ys, xs = [.ref p] /\ ((SqL X.K H p ys /\ ∀ l, H l = none -> Q (.ref l) (upd H l (.tup ys))) \/ (SqT X.K H p ys /\ Q (.ref p) H))) := by
  intro pins s σ H xs us Q I r h
  obtain ⟨p, ys, rfl, h⟩ := h
  obtain ⟨u, rfl, rx⟩ := vals1 r
  cases rx
  rcases h with ⟨hq, q⟩ | ⟨hq, q⟩
  · obtain ⟨its, r', pl, hz⟩ := I.list hq
    have hlen := r'.length
    refine call_tuple_list pl.isList (fun h' kp => ?_) (by simp only [List.size_toArray] <;> omega)
    have I1 : Inv X pins σ H { s with heap := h' } := I.kept (t' := s.toks) kp
    have I2 : Inv X pins σ (upd H h'.objs.size (.tup ys)) { s with heap := h'.push { cls := .type "tuple", data := .seq its.toArray } } :=
      I1.laid (t' := s.toks) (fun b o e => Heap.get?_push_of_some _ e) (Nat.le_refl _) (show bL X.prog X.w _ _ _ (.tup ys) from ⟨hz, its, r', jm.new _ _⟩)
    exact ⟨.ref h'.objs.size, _, I2, rfl, q _ (I1.hok.fresh (Nat.le_refl _))⟩
  · obtain ⟨its, r', pl, hz⟩ := I.tuple hq
    exact call_tuple_same pl ⟨.ref p, H, I, rfl, q⟩
noncomputable def tyV (K : PySem.W.Frag) (T : String) (x : V) (H : Hp) : Prop := match x with
  | .str _ => T = "str"
  | .int _ => T = "int"
  | .ref p => (T = "list" /\ ∃ xs, SqL K H p xs) \/ (T = "tuple" /\ ∃ o, K.lookup p = some o /\ o.cls = .type "tuple" /\ o.dict = none) ∨
      (T = "dict" /\ ((∃ kvs, H p = some (.dK kvs)) \/ ∃ kvs, H p = some (.dT kvs))) \/ (T = "set" /\ ∃ S n, H p = some (.set S n)) \/ (T = "tuple" /\ ∃ xs, H p = some (.tup xs))
  | _ => False
theorem DW {pins : List (Addr × Obj)} {σ : St} {H : Hp} {s : Shared} {T : String} {x : V} {v : Value} (I : Inv X pins σ H s) (r : RelV x v) (ty : tyV X.K T x H) :
    s.TypeIs v T /\ ∀ a, v = .ref a -> ∃ ob, s.heap.get? a = some ob /\ ob.dict = none := by
  cases x with
  | str z =>
    obtain ⟨t, rfl⟩ := r
    cases (show T = "str" from ty)
    exact ⟨typeIs_str s z t, fun _ e => nomatch e⟩
  | int i =>
    obtain ⟨t, rfl⟩ := r
    cases (show T = "int" from ty)
    exact ⟨typeIs_int s i t, fun _ e => nomatch e⟩
  | ref p =>
    cases r
    rcases ty with ⟨rfl, xs, hq⟩ | ⟨rfl, o, hk, hc, hd⟩ | ⟨rfl, hk⟩ | ⟨rfl, S, n, hk⟩ | ⟨rfl, xs, hk⟩
    · obtain ⟨its, _, pl, _⟩ := I.list hq
      refine ⟨pl.isList.typeIs, fun a e => ?_⟩
      cases e
      obtain ⟨o, n, e, c, hd, _⟩ := pl
      exact ⟨o, e, hd⟩
    · refine ⟨⟨o, I.kIn p o hk, hc⟩, fun a e => ?_⟩
      cases e
      exact ⟨o, I.kIn _ o hk, hd⟩
    · have z : ∃ o, s.heap.get? p = some o /\ o.ExactDict := by
        rcases hk with ⟨kvs, hk⟩ | ⟨kvs, hk⟩
        · obtain ⟨_, _, _, _, o, _, _, e, ex, _⟩ := I.hok p _ hk
          exact ⟨o, e, ex⟩
        · obtain ⟨_, _, _, _, o, _, _, e, ex, _⟩ := I.hok p _ hk
          exact ⟨o, e, ex⟩
      obtain ⟨o, e, ex⟩ := z
      refine ⟨⟨o, e, ex.1⟩, fun a e2 => ?_⟩
      cases e2
      exact ⟨o, e, ex.2.1⟩
    · obtain ⟨o, _, _, _, e, ex, _⟩ := I.hok p _ hk
      refine ⟨⟨o, e, ex.1⟩, fun a e2 => ?_⟩
      cases e2
      exact ⟨o, e, ex.2.1⟩
    · obtain ⟨_, _, _, o, e, ⟨c, _⟩, hd⟩ := I.hok p _ hk
      refine ⟨⟨o, e, c⟩, fun a e2 => ?_⟩
      cases e2
      exact ⟨o, e, hd⟩
  | _ => exact False.elim ty
noncomputable def tBM (K : PySem.W.Frag) (T : String) (r : V -> List V -> Hp -> VK -> Prop) (to : TE) (t : TA) : TE := fun σ H Q => to σ H fun x H1 => tyV K T x H1 /\ t σ H1 fun xs H2 => r x xs H2 Q
variable {o e : Expr} {es : List Expr} {to : TE} {t : TA} {name : Str} {apos cpos : Pos} {T id : String} {r : V -> List V -> Hp -> VK -> Prop}
theorem C8 (pa : PlainAttrs T) (slot : Slot T name id) (hty : typeOf (.builtin id) = pure (.type "method_descriptor")) (hm : MtR X id r) (ho : PE X o to) (ha : PA X (e :: es) t)
    (hbase : attributeBase o name X.env (eval o X.env) = eval o X.env := by rfl)
    (hfew : ((backTo cpos (starEach (e :: es) X.env)).all (fun x => !x.1) && (backToKw cpos (keywordEach [] X.env)).all (fun x => x.1.isSome)
      && decide ((e :: es).length + ([] : List Keyword).length + (if ([] : List Keyword).isEmpty then 0 else 1) < 30)) = true := by rfl)
    (hline : (apos.endLine == cpos.line) = true := by rfl) (hs : starEach (e :: es) X.env = (false, eval e X.env) :: starEach es X.env := by rfl) (hplain : (backTo cpos (starEach es X.env)).any (·.1) = false := by rfl) :
    PE X (.Call (.Attribute o name apos) (e :: es) [] cpos) (tBM X.K T r to t) := by
  intro pins s σ H Q I h
  refine wpAny_Call_method_late hbase hfew hline rfl (thn (ho pins s σ H _ I h) fun v s1 ⟨x, H1, I1, r1, ty, q1⟩ => ?_)
  obtain ⟨h1, h2⟩ := DW I1 r1 ty
  refine ⟨T, id, pa, slot, hty, h1, h2, ?_⟩
  have hA := ha cpos pins s1 σ H1 _ I1 q1
  rw [hs] at hA ⊢
  refine Calls.callWith_builtin (by show (false || (backTo cpos (starEach es X.env)).any (·.1)) = false; rw [hplain] <;> rfl) (Calls.evalArgs_plain ?_)
  exact thn hA fun us s2 ⟨vs, H2, I2, r2, q2⟩ => hm pins s2 σ H2 x vs v us Q I2 r1 r2 q2
/- xs.append(e), list.index on a module's tuple .. are MtR facts of 06m -/
end
noncomputable def MtM (X : Cx) (id : String) (r : V -> List V -> Hp -> VK -> Prop) : Prop :=
  ∀ (pins : List (Addr × Obj)) (s : Shared) (σ : St) (H : Hp) (x : V) (xs : List V) (v : Value) (us : List Value) (Q : VK), Inv X pins σ H s -> RelV x v -> Vals xs us -> r x xs H Q →
    wpAny (model X.prog X.w) X.A (call (.builtin id) (v :: us)) (EP X pins σ Q) X.xe s
theorem Vals.one : ∀ {x : V} {us : List Value}, Vals [x] us -> ∃ u, us = [u] /\ RelV x u
  | _, _, .cons r .nil => ⟨_, rfl, r⟩
theorem Vals.eraseIdx : ∀ {xs : List V} {us : List Value} (i : Nat), Vals xs us -> Vals (xs.eraseIdx i) (us.eraseIdx i)
  | _, _, _, .nil => .nil
  | _, _, 0, .cons _ t => t
  | _, _, i + 1, .cons r t => .cons r (Vals.eraseIdx i t)
theorem Vals.reverse {xs : List V} {us : List Value} (h : Vals xs us) : Vals xs.reverse us.reverse := by
  induction h with
  | nil => exact .nil
  | cons r t ih => rw [List.reverse_cons, List.reverse_cons]; exact Vals.append ih (.cons r .nil)
theorem Vals.rep {xs : List V} {us : List Value} (h : Vals xs us) : ∀ k : Nat, Vals (List.replicate k xs).flatten (List.replicate k us).flatten
  | 0 => .nil
  | k + 1 => by
    rw [List.replicate_succ, List.replicate_succ, List.flatten_cons, List.flatten_cons]
    exact Vals.append h (Vals.rep h k)
theorem pj {α : Type} : ∀ (l : List α) (i : Nat), (l.eraseIdx i).length <= l.length
  | [], _ => Nat.le_refl _
  | _ :: _, 0 => Nat.le_succ _
  | _ :: r, i + 1 => Nat.succ_le_succ (pj r i)
theorem foldl_rep (its : List Value) : ∀ (k : Nat) (acc : List Value),
    List.foldl (fun x1 x2 => x1 ++ x2) acc.toArray (List.replicate k its.toArray) = (acc ++ (List.replicate k its).flatten).toArray
  | 0, acc => by simp
  | k + 1, acc => by
    have e : acc.toArray ++ its.toArray = (acc ++ its).toArray := by simp
    have e2 : (acc ++ its) ++ (List.replicate k its).flatten = acc ++ (List.replicate (k + 1) its).flatten := by
      rw [List.replicate_succ, List.flatten_cons, List.append_assoc]
    rw [<- e2, <- foldl_rep its k (acc ++ its), <- e, List.replicate_succ, List.foldl_cons]
section
variable {X : Cx} {pins : List (Addr × Obj)} {σ : St} {H : Hp} {s : Shared} {l b : Addr} {xs ys zs : List V}
theorem Inv.F_ {its its' : List Value} {n : Nat} {f : Array Value -> Array Value} {t' : Nat} (I : Inv X pins σ H s) (hH : H l = some (.lst xs))
    (e : s.heap.get? l = some { cls := .type "list", data := .seq its.toArray n }) (hf : f its.toArray = its'.toArray) (hv : Vals ys its') (hz : ys.length <= sizeLine) :
    Inv X pins σ (upd H l (.lst ys)) { s with heap := s.heap.update l (Obj.mapSeq f), toks := t' } := by
  have q := PySem.IsL.update e f
  rw [hf] at q
  refine I.write (x := l) (e := l) (by rw [hH]; exact trivial) (.inl rfl) (fun b' u hb hu => (Heap.get?_update_other s.heap (Obj.mapSeq f) (Ne.symm hb)).trans hu) ⟨_, q⟩ ?_
  exact ⟨hz, its', _, hv, q⟩
theorem Inv.Cf {its : List Value} {t' : Nat} (I : Inv X pins σ H s) (hv : Vals ys its) (hz : ys.length <= sizeLine) :
    Inv X pins σ (upd H s.heap.objs.size (.lst ys)) { s with heap := s.heap.push { cls := .type "list", data := .seq its.toArray }, toks := t' } :=
  I.laid (fun _ _ q => Heap.get?_push_of_some _ q) (Nat.le_refl _) ⟨hz, its, 0, hv, Heap.get?_push_size _ rfl⟩
theorem Inv.fresh (I : Inv X pins σ H s) : H s.heap.objs.size = none := I.hok.fresh (Nat.le_refl _)
theorem Inv.Fw (I : Inv X pins σ H s) (hH : H l = some (.lst xs)) : xs.length <= sizeLine /\ ∃ (its : List Value) (n : Nat), Vals xs its /\ xs.length = its.length /\ s.heap.get? l = some { cls := .type "list", data := .seq its.toArray n } := by
  obtain ⟨z, its, n, r, e⟩ := I.hok l _ hH
  exact ⟨z, its, n, r, r.length, e⟩
theorem zt {n : Nat} (h : n <= sizeLine) : Builtin.List.listTooLong n = false := by
  unfold Builtin.List.listTooLong
  exact decide_eq_false (by omega)
end
section
variable {X : Cx}
noncomputable def uK : V -> List V -> Hp -> VK -> Prop := fun x vs H Q => ∃ l xs y, x = .ref l /\ vs = [y] /\ H l = some (.lst xs) /\ xs.length < sizeLine /\ Q .non (upd H l (.lst (xs ++ [y])))
theorem dE : MtM X "list.append" uK := by
  intro pins s σ H x vs v us Q I rx rv h
  obtain ⟨l, xs, y, rfl, rfl, hH, hz, q⟩ := h
  cases rx
  obtain ⟨u, rfl, ru⟩ := rv.one
  obtain ⟨z, its, n, r, hl, e⟩ := I.Fw hH
  refine call_meets F.slot_list_append ⟨_, e, rfl⟩ F.entry_list_append (F.args_list_append_2 _ _) (PySem.list_append l its.toArray n u (by rw [List.size_toArray]; omega)) ⟨e, ?_⟩
  refine ⟨.non, _, I.F_ (its' := its ++ [u]) hH e (by simp) (r.append (.cons ru .nil)) ?_, rfl, q⟩
  rw [List.length_append, List.length_singleton]
  omega
noncomputable def yA : V -> List V -> Hp -> VK -> Prop := fun x vs H Q => ∃ l xs i k y, x = .ref l /\ vs = [.int i] /\ H l = some (.lst xs) /\ -(2 ^ 63) <= i /\ i < 2 ^ 63 /\ seqIndex? i xs.length = some k /\ xs[k]? = some y /\ Q y (upd H l (.lst (xs.eraseIdx k)))
theorem z_ : MtM X "list.pop" yA := by
  intro pins s σ H x vs v us Q I rx rv h
  obtain ⟨l, xs, i, k, y, rfl, rfl, hH, h1, h2, hk, hy, q⟩ := h
  cases rx
  obtain ⟨u, rfl, ru⟩ := rv.one
  obtain ⟨t, rfl⟩ := ru
  obtain ⟨z, its, n, r, hl, e⟩ := I.Fw hH
  obtain ⟨w, hw, rw'⟩ := r.get hy
  refine call_meets F.slot_list_pop ⟨_, e, rfl⟩ F.entry_list_pop (F.args_list_pop_2 _ _)
    (MeetsSeq.list_pop_at l its.toArray n i t k w (fitsIndex_both h1 h2) (by rw [List.size_toArray, <- hl]; exact hk) (by rw [<- Array.getElem?_toList]; exact hw) (by rw [List.size_toArray]; omega)) ⟨e, ?_⟩
  refine ⟨y, _, I.F_ (its' := its.eraseIdx k) hH e ?_ (r.eraseIdx k) ?_, rw', q⟩
  · show its.toArray.eraseIdxIfInBounds k = (its.eraseIdx k).toArray
    rw [List.eraseIdxIfInBounds_toArray]
  · have := pj xs k
    omega
theorem len_rep {α : Type} (xs : List α) (k : Nat) : (List.replicate k xs).flatten.length = k * xs.length := by
  induction k with
  | zero => simp
  | succ k ih => rw [List.replicate_succ, List.flatten_cons, List.length_append, ih, Nat.succ_mul, Nat.add_comm]
end
end L2
namespace Att
open PySem PySem.W PySem.Calls PyProof.Rows
theorem lB {P : Params} {h : Heap} : ∀ (ns : List Int) (vs : List Value), WellAll P h vs (ns.map WData.int) -> IntsAre vs ns := by
  intro ns
  induction ns with
  | nil =>
    intro vs w
    rw [List.map_nil] at w
    cases w
    exact .nil
  | cons n ns ih =>
    intro vs w
    rw [List.map_cons] at w
    cases w with
    | cons a b =>
      cases a
      exact .cons _ _ (ih _ b)
theorem vZ {l : OpenLaw} {n : Nat} (hn : l.most = some n) {P : Params} {h : Heap} {args : List WData} {vals : List Value}
    (hpre : l.row.toRowW.claim.pre args = true) (hwl : WellAll P h vals args) :
    ∃ a vs ns, vals = [Value.ref a] /\ args = [WData.list (ns.map WData.int)] /\ h.get? a = some { cls := .type "list", data := .seq vs.toArray } /\ IntsAre vs ns /\ ns.length <= n := by
  have hsh : WShape.hasAll [] args [.list .int] = true := (pre_splitW hpre).1
  have hc : l.pre.holds [] { args := args } = true := (pre_splitW hpre).2
  obtain ⟨d, r, rfl, h1, h2⟩ := hasAllW_cons hsh
  obtain rfl := hasAllW_nil h2
  obtain ⟨xs, rfl, h3⟩ := hasW_list h1
  obtain ⟨ns, rfl⟩ := items_int h3
  have hlen : ns.length <= n := by
    unfold OpenLaw.pre at hc
    have h4 : (WTm.not (.lt (.lit (.int (n : Int))) (.len (.arg 0)))).holds [] { args := [.list (ns.map .int)] } = true := by
      have h4 := (holds_andW hc).1
      rw [hn] at h4
      exact h4
    have h5 := condW_of h4 (w_not (w_lt w_lit (w_len_list (w_arg rfl))))
    rw [List.length_map] at h5
    refine Nat.le_of_not_lt fun q => ?_
    have q' : (n : Int) < ((ns.length : Nat) : Int) := by omega
    first
      | (rw [decide_eq_true q'] at h5; exact absurd h5 (by decide))
      | (simp at h5; omega)
  cases hwl with
  | cons w1 w2 =>
    cases w2
    cases w1 with
    | list ho hall => exact ⟨_, _, ns, rfl, rfl, ho, lB ns _ hall, hlen⟩
theorem vS (l : OpenLaw) (args : List WData) : l.row.toRowW.claim.post args (.bool true) args = true :=
  postW_of (r := l.row.toRowW) (X := (true == true))
    (show WShape.has [] (.bool true) .bool = true by first | rfl | decide | simp [WShape.has, WShape.arms, WShape.armsAll])
    (show (WTm.eq .res (.lit (.bool true))).value [] { args := args, res := some (.bool true), after := args } = some (.bool (true == true)) from w_eq_bool (w_res rfl) w_lit) rfl
theorem sF {l : OpenLaw} {n : Nat} {q : Program} {loose : List Str} {XP : (Str -> Option Value) -> Heap -> Prop} {YP : World -> Heap -> Prop} {d : DefRec}
    (hn : l.most = some n) (hdf : d.params.defaults = [])
    (call : ∀ (w : World) (ay s₁ : Shared) (mg mb : Str -> Option Value) (fa : Addr) (o : Obj) (pm cd doc : Value) (a : Addr) (vs : List Value) (ns : List Int),
      Ground q loose [] XP w ay mg mb s₁.heap -> YP w s₁.heap →
      s₁.heap.get? fa = some o -> o.data = .func (docDef d.name d.params d.body d.scope pm cd doc) -> s₁.heap.CodeRec cd d.name -> mg d.name = some (.ref fa) →
      s₁.heap.get? a = some { cls := .type "list", data := .seq vs.toArray } -> IntsAre vs ns -> ns.length <= n -> s₁.gens = #[] →
      codeAny (model l.prog w) callerA (.call (.ref fa) ⟨[.ref a], []⟩) (fun r s' => r = .ok (.ret (.bool true)) /\ OldK s₁.heap s'.heap /\ s'.os = s₁.os /\ AllBare s'.gens) s₁) :
    WalkO q loose XP YP l.row.toRowW d [] (fun f vs => PySem.call f vs) := by
  intro w ay s₁ mg mb G Y fa o pm cd doc dV kV ho hd hcd hD hmg hg args vals as hpre hlay hrd hwl hlo
  obtain rfl : dV = .none := Dflts.none hD hdf
  obtain rfl : kV = .none := Dflts.noKw hD
  obtain ⟨a, vs, ns, rfl, rfl, hobj, hints, hlen⟩ := vZ hn hpre hwl
  refine enter_call (codeAny_mono (call w ay s₁ mg mb fa o pm cd doc a vs ns G Y ho (fd_plain hd) hcd hmg hobj hints hlen hg) fun r s' hq => ?_)
  obtain ⟨rfl, h2, h3, h4⟩ := hq
  exact ⟨.inl ⟨.bool true, .bool true, [], rfl, fun _ => rfl, .bool true, vS l _, fun _ => ⟨List.Pairwise.nil, fun _ hm => (nomatch hm)⟩⟩, h2, h3, h4⟩
end Att
namespace L2
open PySem PySem.Spec PyProof.Rows
theorem pe : ∀ {vs : List Value} {ns : List Int}, IntsAre vs ns -> Vals (ns.map V.int) vs
  | _, _, .nil => .nil
  | _, _, .cons n t h => .cons ⟨t, rfl⟩ (pe h)
noncomputable def Bb (H : Hp) : Prop := ∀ b, H b = none \/ ∃ o xs, H b = some (.frz o (.lst xs))
theorem yq {P : Program} {w : World} {K : PySem.W.Frag} {mg mb : Str -> Option Value} {CX : CXT} {k : Nat} {fa a : Addr} {fd : FuncData} {x : Str} {sp : Sp} {s₁ : Shared} {vs : List Value} {ns : List Int}
    (KX : K.In s₁.heap) (hns : s₁.heap.Ns mainGlobals mg) (hb : s₁.heap.Ns builtinsNs mb) (hbb : ∀ x : Str, x ≠ "__name__" -> mb x = bootBuiltins x) (hlim : s₁.heap.NoLimit) (hg : s₁.gens = #[])
    (ha : s₁.heap.get? a = some { cls := .type "list", data := .seq vs.toArray }) (hi : IntsAre vs ns) (hl : ns.length <= sizeLine) (hr : dq k callerA)
    (F : ∀ base : Heap, K.In base -> base.Ns mainGlobals mg -> dQ P w K mg base CX k fa fd [x] sp) (hbind : ∀ (s : Shared) (u : Value), BindsTo s fd ⟨[u], []⟩ [(x, u)])
    (hsp : ∀ H : Hp, Bb H -> SqL K H a (ns.map V.int) -> sp [.ref a] H (fun v _ => v = .bl true) fun _ _ _ => False)
    (hCX : ∀ H e s', CX [] H s₁ (fun _ _ _ => False) e s' -> False) :
    codeAny (model P w) callerA (.call (.ref fa) ⟨[.ref a], []⟩) (fun r s' => r = .ok (.ret (.bool true)) /\ OldK s₁.heap s'.heap /\ s'.os = s₁.os /\ AllBare s'.gens) s₁ := by
  have rv := pe hi
  have lenV := hi.length
  -- from an abstract heap in which nothing but the script may be tracked
  have core : ∀ H : Hp, Bb H -> SqL K H a (ns.map V.int) -> HOk P w H s₁.heap -> (∀ b, H b ≠ none -> b = a) -> (H a ≠ none -> K.lookup a = none) →
      codeAny (model P w) callerA (.call (.ref fa) ⟨[.ref a], []⟩) (fun r s' => r = .ok (.ret (.bool true)) /\ OldK s₁.heap s'.heap /\ s'.os = s₁.os /\ AllBare s'.gens) s₁ := by
    intro H hO hS hok hA hK
    have base_of : ∀ {b : Addr} {o : Obj}, s₁.heap.get? b = some o -> H b = none -> (pV s₁.heap H).get? b = some o := fun e n => y_ e n
    have noA : ∀ {b : Addr} {o : Obj} {es : Array DictEntry} {ep : Nat}, s₁.heap.get? b = some o -> o.data = .dict es ep -> H b = none := fun {b o es ep} e d => by
      cases q : H b with
      | none => rfl
      | some u =>
        have e' : b = a := hA b (by rw [q]; simp)
        subst e'
        rw [ha] at e; cases e
        have d' : Data.seq vs.toArray _ = Data.dict es ep := d
        cases d'
    have nsK : ∀ {b : Addr} {m : Str -> Option Value}, s₁.heap.Ns b m -> (pV s₁.heap H).Ns b m := fun {b m} ⟨o, es, ep, e, d, r⟩ => ⟨o, es, ep, base_of e (noA e d), d, r⟩
    have hKb : K.In (pV s₁.heap H) := fun b o e => base_of (KX b o e) (by
      cases q : H b with
      | none => rfl
      | some u =>
        have e' : b = a := hA b (by rw [q]; simp)
        subst e'
        rw [hK (by rw [q]; simp)] at e; cases e)
    have hM : Mod K mg (pV s₁.heap H) := ⟨hKb, nsK hns, ⟨mb, nsK hb, hbb⟩, let ⟨mc, h1, h2⟩ := hlim; ⟨mc, nsK h1, h2⟩⟩
    have e0 : yu P w K mg (pV s₁.heap H) callerA [] s₁ H := ⟨rfl, hM, fun b o e => BV e, Nat.le_of_eq (xm _ _), trivial, fun b hb => absurd (show b ∈ ([] : List Addr) from hb) (by simp), hok, .of_eq hg⟩
    refine codeAny_mono ((F _ hKb (nsK hns)).run callerA [] s₁ H ⟨[.ref a], []⟩ [.ref a] [.ref a] _ _ hr e0 (hbind s₁ (.ref a)) (.cons rfl .nil) (hsp H hO hS)) fun r s' h => ?_
    cases r with
    | error e => exact (hCX H e s' h).elim
    | ok fl =>
      cases fl with
      | next => exact False.elim h
      | brk => exact False.elim h
      | cont => exact False.elim h
      | ret u =>
        obtain ⟨v, H', os, bare, un, hok', r', q⟩ := h
        have q' : v = .bl true := q
        subst q'
        obtain rfl : u = Value.bool true := r'
        refine ⟨rfl, OldK.of_keep fun b o e => ?_, os, bare⟩
        cases q : H b with
        | none => exact un.keep b o e q (by intro z; exact absurd (show b ∈ ([] : List Addr) from z) (by simp)) (by simp)
        | some u =>
          rcases hO b with z | ⟨ob, xs, z⟩
          · rw [q] at z; cases z
          · have z2 := un.nz b ob _ z
            obtain ⟨e1, _⟩ := hok b _ z
            obtain ⟨e2, _⟩ := hok' b _ z2
            rw [e] at e1; cases e1
            exact e2
  cases hk : K.lookup a with
  | some o =>
    -- the script is one of the module's own objects
    have e := KX a o hk
    rw [ha] at e
    cases e
    refine core (fun _ => none) (fun _ => .inl rfl) (.inr ⟨_, vs.toArray, _, hk, rfl, rfl, rfl, by rw [List.size_toArray, lenV]; exact hl, by simpa using rv⟩) (fun b u z => by have z' : (none : Option HO) = some u := z; cases z') (fun b z => absurd rfl z) fun z => absurd rfl z
  | none =>
    refine core (fun b => if b = a then some (.frz { cls := .type "list", data := .seq vs.toArray } (.lst (ns.map V.int))) else none) (fun b => ?_) (.inl (.inr ⟨{ cls := .type "list", data := .seq vs.toArray }, if_pos rfl⟩)) (fun b u z => ?_) (fun b z => ?_) fun _ => hk
    · by_cases hb : b = a
      · exact .inr ⟨_, _, if_pos hb⟩
      · exact .inl (if_neg hb)
    · by_cases hb : b = a
      · have z' := (if_pos hb).symm.trans z
        cases z'
        subst hb
        exact ⟨ha, by rw [List.length_map]; exact hl, vs, _, rv, ha⟩
      · have z' := (if_neg hb).symm.trans z
        cases z'
    · by_cases hb : b = a
      · exact hb
      · exact absurd (if_neg hb) z
noncomputable abbrev KOf {K : PySem.W.Frag} {h : Heap} (_ : K.In h) : PySem.W.Frag := K
theorem Ce {l : PySem.W.OpenLaw} {n k : Nat} {q : Program} {loose : List Str} {XP : (Str -> Option Value) -> Heap -> Prop} {YP : World -> Heap -> Prop} {d : DefRec} {K : Params -> PySem.W.Frag} {CX : World -> CXT} {sp : World -> Sp} {x : Str}
    (hn : l.most = some n) (hn2 : n <= sizeLine) (hdf : d.params.defaults = []) (hr : dq k callerA)
    (hY : ∀ (w : World) (h : Heap), YP w h -> (K w.params).In h)
    (F : ∀ (w : World) (mg : Str -> Option Value) (fa : Addr) (h : Heap), (K w.params).In h -> h.Ns mainGlobals mg -> mg d.name = some (.ref fa) →
      ∃ fd : FuncData, (∀ (s : Shared) (u : Value), BindsTo s fd ⟨[u], []⟩ [(x, u)]) ∧
        ∀ base : Heap, (K w.params).In base -> base.Ns mainGlobals mg -> dQ l.prog w (K w.params) mg base (CX w) k fa fd [x] (sp w))
    (hsp : ∀ (w : World) (H : Hp) (a : Addr) (ns : List Int), ns.length <= n -> Bb H -> SqL (K w.params) H a (ns.map V.int) -> sp w [.ref a] H (fun v _ => v = .bl true) fun _ _ _ => False)
    (hCX : ∀ (w : World) (H : Hp) (s : Shared) (e : Value) (s' : Shared), CX w [] H s (fun _ _ _ => False) e s' -> False) :
    PySem.W.WalkO q loose XP YP l.row.toRowW d [] (fun f vs => PySem.call f vs) := by
  refine Att.sF hn hdf fun w ay s₁ mg mb fa o pm cd doc a vs ns G Y ho hd hcd hmg hobj hints hlen hg => ?_
  have KX := hY w _ Y
  obtain ⟨fd, hb, hF⟩ := F w mg fa _ KX G.T.g hmg
  exact yq KX G.T.g G.T.b G.T.builtins G.T.nolimit hg hobj hints (Nat.le_trans hlen hn2) hr hF hb (fun H hO hS => hsp w H a ns hlen hO hS) fun H e s' => hCX w H s₁ e s'
end L2
/- THE LAST THEOREM (shape; LID, My.* are yours):
   My.Adr: a structure of the addresses that your layer names (classes, functions); My.Txt K t: a structure (Prop) of the equations over K;
   My.txt_mk : {K} {implicit addresses ..} (e1 : nsIn K mainGlobals "law" = some (some (.ref f))) (e2 : K.lookup f = some ⟨oc, od, .func (fnOf "law" "law" params body scope dV kV doc pm an cdv ct), sl⟩) (e3 : codeIn K cdv "law" = true) .. : ∃ t, My.Txt K t
(the tactic k_is has no namespace: write k_is) -/
namespace L2
open PySem PySem.Spec PyProof.Rows
noncomputable def jO (s : Stmt) : Arguments := match s with
  | .FunctionDef _ a _ _ _ _ _ _ _ _ => a
  | _ => { posonlyargs := [], args := [], vararg := none, kwonlyargs := [], kw_defaults := [], kwarg := none, defaults := [] }
noncomputable def d_ (s : Stmt) : List Stmt := match s with
  | .FunctionDef _ _ b _ _ _ _ _ _ _ => b
  | _ => []
noncomputable def ak (s : Stmt) : Scope := match s with
  | .FunctionDef _ _ _ _ _ _ sc _ _ _ => sc
  | _ => { kind := .function, names := [], isGenerator := false, isCoroutine := false }
noncomputable abbrev CX0 : CXT := fun _ _ _ _ _ _ => False
noncomputable abbrev E0 : XK := fun _ _ _ => False
theorem GH {X : Cx} : Passes CX0 X E0 := fun _ _ _ _ _ _ _ h => h.elim
structure Fun (K : PySem.W.Frag) (x qual : Str) (st : Stmt) (f : Addr) (fd : FuncData) : Prop where
  ex : ∃ (oc : Value) (od : Option Addr) (kV doc pm : Value) (an : Option Addr) (cdv ct : Value) (osl : Array (Option Value)),
    fd = PySem.W.fnOf x qual (jO st) (d_ st) (ak st) .none kV doc pm an cdv ct /\ K.lookup f = some ⟨oc, od, .func fd, osl⟩ /\ PySem.W.codeIn K cdv qual = true
  kp : PySem.W.keepIn K (.ref f) = true
section
variable {P : Program} {w : World} {K : PySem.W.Frag} {mg : Str -> Option Value} {base : Heap}
theorem Fun.ok {x qual : Str} {st : Stmt} {f : Addr} {fd : FuncData} {N ps : List Str} {k : Nat} {sp : Sp} (F : Fun K x qual st f fd) (S : aS N ps (ak st)) (len : ∀ vs H Q E, sp vs H Q E -> vs.length = ps.length)
    (hbody : ∀ (cdv : Value) (A : Around) (outer : List Env) (s : Shared) (H : Hp) (vs : List V) (Q : VK) (E : XK), dq k (A.deeper (envOfC qual (ak st) s.heap.objs.size f cdv)) -> sp vs H Q E →
      ∃ t, PSs (jl CX0 P w K mg base N qual (ak st) f cdv A outer s H E).nox (d_ st) t /\ t { nx := fun _ H' => Q .non H', rt := Q } (start N vs) H) : dQ P w K mg base CX0 (k + 1) f fd ps sp := by
  obtain ⟨oc, od, kV, doc, pm, an, cdv, ct, osl, rfl, lk, hcd⟩ := F.ex
  refine C1 lk hcd S len fun A outer s H vs Q E hr hsp => ?_
  obtain ⟨t, h, q⟩ := hbody cdv A outer s H vs Q E hr hsp
  exact ⟨t, h.nox, q⟩
theorem Fun.binds {x qual : Str} {st : Stmt} {f : Addr} {fd : FuncData} {ps : List Str} (F : Fun K x qual st f fd)
    (h : ∀ (kV doc pm : Value) (an : Option Addr) (cdv ct : Value) (us : List Value), us.length = ps.length -> bindArgs (PySem.W.fnOf x qual (jO st) (d_ st) (ak st) .none kV doc pm an cdv ct) ⟨us, []⟩ = pure (ps.zip us)) : Binds K fd ps [] := by
  obtain ⟨oc, od, kV, doc, pm, an, cdv, ct, osl, rfl, lk, hcd⟩ := F.ex
  exact .all (h kV doc pm an cdv ct)
theorem DM {x qual : Str} {st : Stmt} {f : Addr} {oc : Value} {od an : Option Addr} {osl : Array (Option Value)} {kV doc pm cdv ct : Value} (l : K.lookup f = some ⟨oc, od, .func (PySem.W.fnOf x qual (jO st) (d_ st) (ak st) .none kV doc pm an cdv ct), osl⟩)
    (c : PySem.W.codeIn K cdv qual = true) (k : PySem.W.keepIn K (.ref f) = true) : Fun K x qual st f (PySem.W.fnOf x qual (jO st) (d_ st) (ak st) .none kV doc pm an cdv ct) := ⟨⟨oc, od, kV, doc, pm, an, cdv, ct, osl, rfl, l, c⟩, k⟩
end
noncomputable def PTs (X : Cx) (ifs : List Expr) (t : TT) : Prop :=
  ∀ (pins : List (Addr × Obj)) (s : Shared) (σ : St) (H : Hp) (Q : Bool -> Hp -> Prop), Inv X pins σ H s -> t σ H Q →
    wpAny (model X.prog X.w) X.A (forIn ifs true fun c r => if r = true then do let ok ← isTrue c X.env (eval c X.env); pure (ForInStep.yield ok) else pure (ForInStep.yield r)) (TP X pins σ Q) X.xe s
noncomputable def GD : TT := fun _ H Q => Q true H
theorem Br {X : Cx} : PTs X [] GD := fun _ _ _ H _ I h => wpAny_tests_nil ⟨H, I, h⟩
theorem Cq {X : Cx} {c : Expr} {t : TT} (h : PT X c t) : PTs X [c] t := fun pins s σ H Q I q => wpAny_tests_one (h pins s σ H Q I q)
theorem sH {prog : Program} {w : World} {A : Around} {R : Result -> Shared -> Prop} {s : Shared} {elt target iter : Expr} {ifs : List Expr} {scope : Scope} {pos : Pos} {it acc : Value} {env : Env} (I : Nat -> Shared -> Prop)
    (turn : ∀ n s, I n s -> wpAny (model prog w) A (pyNext it) (fun r s₁ => match r with
      | none => R (.ok .next) s₁
      | some v => wpAny (model prog w) A (letOwnedTupleGo target it v) (fun _ s₁ => wpAny (model prog w) A (assign target env v) (fun _ s₂ =>
          wpAny (model prog w) A (forIn ifs true fun c r => if r = true then do let ok ← isTrue c env (eval c env); pure (ForInStep.yield ok) else pure (ForInStep.yield r)) (fun ok s₃ =>
            if ok = true then wpAny (model prog w) A (eval elt env) (fun x s₄ =>
              wpAny (model prog w) A (call (.builtin "list.append") [acc, x]) (fun _ s₅ => ∃ m, m < n /\ I m s₅) (fun _ _ => False) s₄) (fun _ _ => False) s₃
            else ∃ m, m < n /\ I m s₃) (fun _ _ => False) s₂) (fun _ _ => False) s₁) (fun _ _ => False) s₁) (fun _ _ => False) s)
    (n : Nat) (h : I n s) :
    codeAny (model prog w) A (.compLoop (.ListComp elt [⟨target, iter, ifs, 0⟩] scope pos) 0 it acc env) R s := by
  refine codeAny_loop rfl I (fun n s hI => ?_) n h
  show wpAny _ A ((compTurn (.ListComp elt [⟨target, iter, ifs, 0⟩] scope pos) 0 it acc env).onRaise (fun x => do noteFrame x env; theTreesLotGoes x)) _ _ s
  refine wpAny_noted ?_
  rw [compTurn_list]
  refine wpAny_noRaise ?_
  refine wpAny_bind (wpAny_standAt (wpAny_bind (wpAny_mono (turn n s hI) (fun r s₁ h₁ => ?_) fun _ _ h' => h')))
  cases r with
  | none => exact wpAny_pure h₁
  | some v =>
    refine wpAny_bind (wpAny_mono h₁ (fun _ s₁' h₁' => ?_) fun _ _ h' => h')
    refine wpAny_bind (wpAny_mono h₁' (fun _ s₂ h₂ => wpAny_bind (wpAny_mono h₂ (fun ok s₃ h₃ => ?_) fun _ _ h' => h')) fun _ _ h' => h')
    cases ok with
    | false => exact wpAny_pure ⟨rfl, h₃⟩
    | true =>
      exact wpAny_bind (wpAny_bind (wpAny_mono h₃ (fun x s₄ h₄ => wpAny_bind (wpAny_mono h₄ (fun _ s₅ h₅ => wpAny_pure (wpAny_pure ⟨rfl, h₅⟩)) fun _ _ h' => h')) fun _ _ h' => h'))
noncomputable def aW (X : Cx) (scope : Scope) (cl : List (Str × Addr)) (C : Addr) (ay : Shared) (aC : Hp) (fp : List Addr) (N' : List Str) : Cx :=
  { X with N := N', ay := ay, aC := aC, env := compEnvC scope cl C X.env, outer := X.stack, ex := fp, fn := fun _ => false, pn := [] }
theorem jq {env : Env} : ∀ (names : List (Str × NameKind)) (cs : List (Str × Addr)), (∀ y ∈ names, y.2 = .free -> ∃ a, env.cells.lookup y.1 = some a) -> (∀ x c, cs.lookup x = some c -> env.cells.lookup x = some c) →
    ∃ cl : List (Str × Addr), (forIn names cs fun (y : Str × NameKind) (r : List (Str × Addr)) => if (y.2 == NameKind.free) = true then do let a ← cellOf env y.1; pure (ForInStep.yield ((y.1, a) :: r)) else pure (ForInStep.yield r) : Sem (List (Str × Addr))) = pure cl ∧
      (∀ x c, cl.lookup x = some c -> env.cells.lookup x = some c) /\ (∀ x, ((x, NameKind.free) ∈ names \/ ∃ c, cs.lookup x = some c) -> ∃ c, cl.lookup x = some c)
  | [], cs, _, h => ⟨cs, rfl, h, fun x hx => by
      rcases hx with z | z
      · cases z
      · exact z⟩
  | (n, k) :: r, cs, hf, h => by
    by_cases hk : k = .free
    · subst hk
      obtain ⟨a, ha⟩ := hf (n, .free) (by simp) rfl
      obtain ⟨cl, e, h1, h2⟩ := jq r ((n, a) :: cs) (fun y hy => hf y (List.mem_cons_of_mem _ hy)) (fun x c q => by
        rw [List.lookup_cons] at q
        cases hx : x == n with
        | true =>
          rw [hx] at q
          have : x = n := by simpa using hx
          subst this
          cases q; exact ha
        | false => rw [hx] at q; exact h x c q)
      refine ⟨cl, ?_, h1, fun x hx => ?_⟩
      · rw [List.forIn_cons]
        have e0 : cellOf env n = pure a := by unfold cellOf; rw [ha]
        simp only [beq_self_eq_true, if_true, e0]
        exact e
      · have hc : ∀ z c, cs.lookup z = some c -> ∃ c, ((n, a) :: cs).lookup z = some c := fun z c q => by
          rw [List.lookup_cons]
          cases z == n with
          | true => exact ⟨a, rfl⟩
          | false => exact ⟨c, q⟩
        rcases hx with z | ⟨c, z⟩
        · rcases List.mem_cons.mp z with q | q
          · cases q
            exact h2 n (.inr ⟨a, by simp [List.lookup_cons]⟩)
          · exact h2 x (.inl q)
        · exact h2 x (.inr (hc x c z))
    · obtain ⟨cl, e, h1, h2⟩ := jq r cs (fun y hy => hf y (List.mem_cons_of_mem _ hy)) h
      have hb : (k == NameKind.free) = false := by simpa using hk
      refine ⟨cl, ?_, h1, fun x hx => ?_⟩
      · rw [List.forIn_cons]
        simp only [hb, Bool.false_eq_true, if_false]
        exact e
      · rcases hx with z | z
        · rcases List.mem_cons.mp z with q | q
          · cases q; exact absurd rfl hk
          · exact h2 x (.inl q)
        · exact h2 x (.inr z)
theorem je {env : Env} {scope : Scope} (h : ∀ y ∈ scope.names, y.2 = .free -> ∃ a, env.cells.lookup y.1 = some a) :
    ∃ cl : List (Str × Addr), closureFor scope env = pure cl /\ (∀ x c, cl.lookup x = some c -> env.cells.lookup x = some c) /\ (∀ x, (x, NameKind.free) ∈ scope.names -> ∃ c, cl.lookup x = some c) := by
  obtain ⟨cl, e, h1, h2⟩ := jq (env := env) scope.names [] h (fun x c q => by cases q)
  refine ⟨cl, ?_, h1, fun x hx => h2 x (.inl hx)⟩
  exact Eq.trans (congrArg (fun t : Sem (List (Str × Addr)) => t >>= fun cs => pure cs) e) rfl
theorem lookup_mem {x : Str} {k : NameKind} : ∀ {names : List (Str × NameKind)}, names.lookup x = some k -> (x, k) ∈ names
  | [], h => by cases h
  | (n, j) :: r, h => by
    rw [List.lookup_cons] at h
    cases hx : x == n with
    | true =>
      rw [hx] at h
      have : x = n := by simpa using hx
      subst this
      cases h; simp
    | false => rw [hx] at h; exact List.mem_cons_of_mem _ (lookup_mem h)
theorem cY {env : Env} (hf : env.scope.kind = .function) : ∀ {names : List (Str × NameKind)} {x : Str}, names.lookup x = some .free -> env.kindOf x = some .cell →
    (names.map fun (n, k) => if (k == NameKind.free && env.scope.kind == .function && env.kindOf n == some .cell) then (n, NameKind.cell) else (n, k)).lookup x = some .cell
  | [], _, h, _ => by cases h
  | (n, k) :: r, x, h, hc => by
    have ih := @cY env hf r x
    show List.lookup x ((if (k == NameKind.free && env.scope.kind == .function && env.kindOf n == some .cell) = true then (n, NameKind.cell) else (n, k)) :: _) = _
    cases hx : x == n with
    | true =>
      have : x = n := by simpa using hx
      subst this
      simp only [List.lookup_cons, hx] at h
      cases h
      rw [if_pos (by simp [hf, hc])]
      simp [List.lookup_cons]
    | false =>
      simp only [List.lookup_cons, hx] at h
      by_cases hq : (k == NameKind.free && env.scope.kind == .function && env.kindOf n == some .cell) = true
      · rw [if_pos hq]; simp only [List.lookup_cons, hx]; exact ih h hc
      · rw [if_neg hq]; simp only [List.lookup_cons, hx]; exact ih h hc
theorem dM {env : Env} : ∀ {names : List (Str × NameKind)} {x : Str} {k : NameKind}, (names.map fun (n, k) => if (k == NameKind.free && env.scope.kind == .function && env.kindOf n == some .cell) then (n, NameKind.cell) else (n, k)).lookup x = some k →
    names.lookup x = some k \/ (names.lookup x = some .free /\ k = .cell)
  | [], _, _, h => by cases h
  | (n, j) :: r, x, k, h => by
    have ih := @dM env r x k
    have h' : List.lookup x ((if (j == NameKind.free && env.scope.kind == .function && env.kindOf n == some .cell) = true then (n, NameKind.cell) else (n, j)) :: (r.map fun (n, k) => if (k == NameKind.free && env.scope.kind == .function && env.kindOf n == some .cell) then (n, NameKind.cell) else (n, k))) = some k := h
    by_cases hq : (j == NameKind.free && env.scope.kind == .function && env.kindOf n == some .cell) = true
    · rw [if_pos hq] at h'
      have hj : j = .free := by
        have := Bool.and_eq_true_iff.mp (Bool.and_eq_true_iff.mp hq).1
        simpa using this.1
      simp only [List.lookup_cons] at h' ⊢
      cases hx : x == n with
      | true => rw [hx] at h'; cases h'; exact .inr ⟨by rw [hj], rfl⟩
      | false => rw [hx] at h'; exact ih h'
    · rw [if_neg hq] at h'
      simp only [List.lookup_cons] at h' ⊢
      cases hx : x == n with
      | true => rw [hx] at h'; cases h'; exact .inl rfl
      | false => rw [hx] at h'; exact ih h'
noncomputable def ng (ix : List Nat) (σ : St) : St := none :: ix.map fun i => (σ[i]?).join
noncomputable abbrev Fi (J : It) (tt : TT) (te : TE) (σ' : V -> St) (acc : Addr) (H1 : Hp) (Q : VK) : Prop :=
  ∃ W : Nat -> Nat -> List V -> Hp -> Prop, (∃ m, W 0 m [] (upd H1 acc (.lst []))) /\ ∀ i m ys H, W i m ys H →
    (J.stop i H /\ Q (.ref acc) H) \/ (J.go i H /\ ∀ x H', J.yld i H x H' -> tt (σ' x) H' fun b H2 => if b = true then te (σ' x) H2 fun y H3 =>
        H3 acc = some (.lst ys) /\ ys.length < sizeLine /\ ∃ m', m' < m /\ W (i + 1) m' (ys ++ [y]) (upd H3 acc (.lst (ys ++ [y])))
      else ∃ m', m' < m /\ W (i + 1) m' ys H2)
noncomputable def De (wi : TI) (ix : List Nat) (tt : TT) (te : TE) : TE := fun σ H Q => wi σ H fun J H1 => ∀ acc, H1 acc = none -> Fi J tt te (fun x => (ng ix σ).set 0 (some x)) acc H1 Q
theorem HOk.sameBut {P : Program} {w : World} {H : Hp} {h h' : Heap} {C : Addr} (x : HOk P w H h) (hn : H C = none) (k : ∀ b u, b ≠ C -> h.get? b = some u -> h'.get? b = some u) : HOk P w H h' := fun b u e => by
  have nC : ∀ b u, H b = some u -> b ≠ C := fun b u e z => by rw [z, hn] at e; cases e
  refine (x b u e).j1 (fun c v hc q => k c v ?_ q) (fun _ q => q) fun _ _ q => q
  rcases hc with z | z
  · rw [z]; exact nC b u e
  · exact nC c _ z
theorem sY : isSubtype (.type "tuple") (.type "set") = pure false := by rw [isSubtype_type]; kernel_rfl
theorem pU : isSubtype (.type "tuple") (.type "frozenset") = pure false := by rw [isSubtype_type]; kernel_rfl
noncomputable abbrev eN (led : Bool) : Obj := { cls := .type "set", dict := none, data := .set #[] 0 (.fresh 0 0 led) }
set_option maxHeartbeats 3200000 in
theorem set_tuple {prog : Program} {w : World} {B : Around} {Er : Value -> Shared -> Prop} {z : Shared} {a : Addr} {its : Array Value} {zs : List Int} {Q : Value -> Shared -> Prop}
    (hh : B.handled = none) (ht : z.heap.IsTuple a its) (hi : IntsAre its.toList zs) (hb : its.size + 1 < scanBound)
    (fin : ∀ (g' : Heap) (tk : Nat), g'.SetOf (intKind prog w) z.heap.objs.size (fun k' => (firstMet (fun i => zs.getD i 0) its.size).any (· == k')) (firstMet (fun i => zs.getD i 0) its.size).length →
      (∀ b o, b < z.heap.objs.size -> z.heap.get? b = some o -> g'.get? b = some o) -> Q (.ref z.heap.objs.size) { z with heap := g', toks := tk }) :
    wpAny (model prog w) B (call (.type "set") [.ref a]) Q Er z := by
  obtain ⟨_, _, _⟩ := F.called_set.mro
  have := F.called_set.made
  have := F.called_set.sub
  refine wpAny_call (codeAny_of_tree ?_)
  show wpAny _ _ (callAny (.type "set") _) _ _ _
  refine wpAny_pure ⟨Code.quiet_builtin _ (by decide +kernel), codeAny_builtin F.entry_type_call ?_⟩
  rw [Around.under_plain (weight_type_call_type "set" [.ref a] []) rfl]
  have := F.called_set.notType
  have := F.called_set.canCreate
  have := F.typeCall_set_1 (.ref a)
  repeat (any_goals (first | assumption | wp_step))
  refine codeAny_mono (code_set_new_1 (.ref a) (E := Er) (Q₁ := fun v y => ∃ led : Bool, v = .ref z.heap.objs.size /\ y = { z with heap := z.heap.push (eN led) }) fun led => ⟨led, rfl, rfl⟩) fun r y hr => ?_
  cases r with
  | error e => exact hr
  | ok fl =>
    cases fl with
    | ret v =>
      obtain ⟨led, rfl, rfl⟩ := hr
      have hS : (z.heap.push (eN led)).get? z.heap.objs.size = some (eN led) := Heap.get?_push_size _ rfl
      have hT : Shared.TypeIs { z with heap := z.heap.push (eN led) } (.ref z.heap.objs.size) "set" := ⟨_, hS, rfl⟩
      have := F.called_set.init.lookup
      have := F.called_set.init.bind (.ref z.heap.objs.size)
      repeat (any_goals (first | assumption | wp_step))
      refine codeAny_mono (codeAny_call_builtin (R := wants (fun r y => r = .none /\ ∃ g' tk, y = { z with heap := g', toks := tk } ∧
          g'.SetOf (intKind prog w) z.heap.objs.size (fun k' => (firstMet (fun i => zs.getD i 0) its.size).any (· == k')) (firstMet (fun i => zs.getD i 0) its.size).length ∧
          (∀ b o, b < z.heap.objs.size -> z.heap.get? b = some o -> g'.get? b = some o)) Er) F.called_set.init.plain F.entry_set_init (check_set_init_1 hT ?_)) fun r₂ y₂ hr₂ => ?_
      · obtain ⟨ol, hol, hcl, nl, hdl⟩ := id ht
        obtain ⟨oc, od, oda, osl⟩ := ol
        simp only at hcl hdl
        subst hcl; subst hdl
        have hol' : (z.heap.push (eN led)).get? a = some { cls := .type "tuple", dict := od, data := .seq its nl, slots := osl } := Heap.get?_push_of_some _ hol
        have := sY
        have := pU
        have : (Value.type "tuple" == Value.type "dict") = false := by decide
        have ht1 : (z.heap.push (eN led)).IsTuple a its := ⟨_, hol', rfl, nl, rfl⟩
        unfold Builtin.«set.__init__» noKeywords Builtin.Frozenset.updateFrom
        generalize hPI : pyIter = PI
        wp_walk
        subst hPI
        refine wpAny_pyIter_tuple ht1 ?_
        refine wpAny_bind (wpAny_runValue ?_)
        have hlS : a < z.heap.objs.size := Heap.lt_size hol
        have hneI : a ≠ (z.heap.push (eN led)).objs.size := by
          rw [Heap.size_push]; exact Nat.ne_of_lt (Nat.lt_succ_of_lt hlS)
        have hSf : z.heap.objs.size ∉ [(z.heap.push (eN led)).objs.size, a] := by
          rw [Heap.size_push]; simp only [List.mem_cons, List.mem_singleton, List.not_mem_nil, or_false, not_or]
          exact ⟨Nat.ne_of_lt (Nat.lt_succ_self _), Nat.ne_of_gt hlS⟩
        have hval : ∀ (i : Nat) (v : Value), its[i]? = some v -> ∃ t, v = .int ((fun i => zs.getD i 0) i) t := fun i v hv => IntsAre.int_at hi i v (by rw [Array.getElem?_toList]; exact hv)
        refine codeAny_set_update_loopS ((Walks.tuple (by simp [hh]) _ a hneI its).toS) z.heap.objs.size
          hSf (fun i => zs.getD i 0) hval hb (its.size - 0) 0 _ (by omega) (Nat.zero_le _)
          ⟨⟨_, Heap.get?_push_size _ rfl, rfl, rfl⟩, ?hP⟩ ?hS0 ?hR
        case hP => exact ⟨_, Heap.get?_push_of_some _ hol', rfl, nl, rfl⟩
        case hS0 =>
          exact SetOf_congr ((setObjOf_fresh (knd := intKind prog w) led).setOf (Heap.get?_push_of_some _ hS) (by unfold scanBound; omega)) (fun _ => rfl) rfl
        case hR =>
          intro s' hm hS'
          obtain ⟨h', g', d', tk', os'⟩ := s'
          obtain rfl : g' = z.gens := hm.gens
          obtain rfl : d' = z.drawn := hm.drawn
          obtain rfl : os' = z.os := hm.os
          show wpAny _ _ _ _ _ _
          refine wpAny_pure ?_
          show wpAny _ _ (ret Value.none) _ _ _
          refine wpAny_pure ⟨rfl, h', tk', rfl, hS', fun b o hb e => ?_⟩
          refine hm.heap b o ?_ (Heap.get?_push_of_some _ (Heap.get?_push_of_some _ e))
          simp only [List.mem_cons, List.mem_singleton, List.not_mem_nil, or_false, not_or]
          refine ⟨Nat.ne_of_lt hb, ?_⟩
          show b ≠ (z.heap.push (eN led)).objs.size
          rw [Heap.size_push]; exact Nat.ne_of_lt (Nat.lt_succ_of_lt hb)
      · cases r₂ with
        | error e => exact hr₂
        | ok fl₂ =>
          cases fl₂ with
          | ret r =>
            obtain ⟨rfl, g', tk, rfl, hS', hk'⟩ := hr₂
            repeat (any_goals (first | assumption | wp_step))
            exact fin _ _ hS' hk'
          | _ => exact hr₂.elim
    | _ => exact hr.elim
section
variable {X : Cx}
theorem sR : a_ X (.builtin "isinstance") (fun vs H Q => ∃ x t n b, vs = [x, .ty n] /\ jj X.K H x t /\ PySem.W.kitOne X.K t (.type n) = some b /\ Q (.bl b) H) := by
  intro pins s σ H xs us Q I r h
  obtain ⟨x, t, n, b, rfl, ty, e, q⟩ := h
  obtain ⟨u, w', rfl, r1, r2⟩ := vals2 r
  cases r2
  exact wA I r1 ty e fun tk => ⟨.bl b, H, I.tok tk, rfl, q⟩
noncomputable def unl (ns : List Int) : List Int := firstMet (fun i => ns.getD i 0) ns.length
theorem D2 (ns : List Int) : (unl ns).length <= ns.length := firstMet_length_le _ _
theorem pZ (hc : X.calm = true) : a_ X (.type "set") (fun vs H Q => ∃ p ns, vs = [.ref p] /\ SqT X.K H p (ns.map V.int) /\ ns.length + 1 < scanBound /\ ∀ l, H l = none -> Q (.ref l) (upd H l (.set (fun k => (unl ns).any (· == k)) (unl ns).length))) := by
  intro pins s σ H xs us Q I r h
  obtain ⟨p, ns, rfl, hq, hb, q⟩ := h
  obtain ⟨u, rfl, rx⟩ := vals1 r
  cases rx
  obtain ⟨its, r', pl, hz⟩ := I.tuple hq
  have hlen := r'.length
  rw [List.length_map] at hlen
  have e0 : its.toArray.size = ns.length := by rw [List.size_toArray, hlen]
  refine set_tuple (I.ok.hd hc) (show s.heap.IsTuple p its.toArray from pl) (zs := ns) (by simpa using intsAre_of r') (by rw [e0]; exact hb) fun g' tk hS hk => ?_
  rw [e0] at hS
  exact ⟨.ref s.heap.objs.size, _, I.laid (t' := tk) (fun b o e => hk b o (Heap.lt_size e) e) (Nat.le_refl _) (show bL X.prog X.w _ g' _ (.set _ _) from hS), rfl, q _ (I.hok.fresh (Nat.le_refl _))⟩
theorem oq : a_ X (.builtin "len") (fun vs H Q => ∃ p S n, vs = [.ref p] /\ H p = some (.set S n) /\ Q (.int n) H) := by
  intro pins s σ H xs us Q I r h
  obtain ⟨p, S, n, rfl, hH, q⟩ := h
  obtain ⟨u, rfl, rx⟩ := vals1 r
  cases rx
  obtain ⟨o, es, ep, tb, ho, hex, hd, hel, hmem, hsz, hfit, rfl⟩ := (show s.heap.SetOf (intKind X.prog X.w) p S n from I.hok p _ hH)
  have hb : (es.size : Int) < 2 ^ 63 := by unfold scanBound at hsz; omega
  exact PySem.call_len_set ho hex hd hfit hb ⟨.int es.size, H, I.tok _, ⟨_, rfl⟩, q⟩
theorem iY {prog : Program} {w : World} {A : Around} {E : Value -> Shared -> Prop} {s : Shared} {t sl : Addr} {items : Array Value} {vl vu : Value} {lo hi : Option Int} {Q : Value -> Shared -> Prop} (ht : IsTup s.heap t items) (hs : s.heap.IsSliceOf sl vl vu .none) (pl : IsPart vl lo) (pu : IsPart vu hi)
    (h1 : HT.sIx items.size 0 lo = 0) (h2 : HT.sIx items.size items.size hi = items.size) (h : Q (.ref t) s) : wpAny (model prog w) A (getItem (.ref t) (.ref sl)) Q E s := by
  obtain ⟨os, hos, hcs, hds⟩ := id hs
  have hTs : s.TypeIs (.ref sl) "slice" := ⟨os, hos, hcs⟩
  unfold getItem
  try with_reducible refine wpAny_holding ?_
  first | refine wpAny_bind (wpAny_pure ?_) | skip
  refine wpAny_bind (wpAny_sequenceKey ht.typeIs (by decide) ?_)
  refine wpAny_bind (wpAny_callSpecial?_slot (name := Str.ofString "__getitem__") ht.typeIs PyProof.Rows.slot_tuple_getitem (wpAny_call_entry PyProof.Rows.slot_tuple_getitem ht.typeIs entry_tuple_getitem ?_ (args_tuple_getitem _ _)))
  show wpAny _ _ (Builtin.Tuple.tupleItemsOf (.ref t) >>= _) _ _ s
  refine wpAny_bind (tupleItemsOf_ ht (wpAny_bind (wpAny_typeOf hTs ?_)))
  rw [if_pos (by decide)]
  refine wpAny_bind (HT.gh hs pl pu ?_)
  rw [h1, h2]
  show wpAny _ _ (if (((0 : Nat) : Int) == 0 && (1 : Int) == 1 && (items.size - 0) == items.size) = true then _ else _) _ _ s
  rw [if_pos (by simp)]
  show wpAny _ _ (Builtin.Tuple.tupleIsExact (.ref t) >>= _) _ _ s
  unfold Builtin.Tuple.tupleIsExact
  refine wpAny_bind (wpAny_bind (wpAny_typeOf ht.typeIs (wpAny_pure ?_)))
  show wpAny _ _ (if (Value.type "tuple" == Value.type "tuple") = true then _ else _) _ _ s
  rw [if_pos (by decide)]
  refine wpAny_bind (wpAny_rule ?_)
  first
    | exact wpAny_pure ⟨_, rfl, wpAny_pure h⟩
    | exact wpAny_bind (wpAny_pure (wpAny_pure ⟨_, rfl, wpAny_pure h⟩))
noncomputable def FQ (K : PySem.W.Frag) : V -> Option Int -> Option Int -> Hp -> VK -> Prop := fun x lo hi H Q => ∃ a xs, x = .ref a /\ SqT K H a xs /\ HT.sIx xs.length 0 lo = 0 /\ HT.sIx xs.length xs.length hi = xs.length /\ Q (.ref a) H
theorem BQ : SlR X (FQ X.K) := by
  intro pins s σ H x v vl vu lo hi sl Q I rx hs pl pu h
  obtain ⟨a, xs, rfl, hx, h1, h2, q⟩ := h
  cases rx
  obtain ⟨its, r, ht, hz⟩ := I.tuple hx
  have hlen : its.toArray.size = xs.length := by rw [List.size_toArray]; exact r.length.symm
  refine ⟨"tuple", _, PyProof.Rows.slot_tuple_getitem.lookup, ht.typeIs, ?_⟩
  exact iY ht hs pl pu (by rw [hlen]; exact h1) (by rw [hlen]; exact h2) ⟨.ref a, H, I, rfl, q⟩
theorem s_ (xs : Array Value) : ((List.range xs.size).filterMap fun (k : Nat) => xs[((xs.size : Int) - 1 + (k : Int) * (-1)).toNat]?).toArray = xs.toList.reverse.toArray := by
  have e : ((List.range xs.size).filterMap fun (k : Nat) => xs[((xs.size : Int) - 1 + (k : Int) * (-1)).toNat]?) = ((List.range xs.size).map fun k => xs.size - 1 - k).filterMap (xs[·]?) := by
    rw [List.filterMap_map]
    have cg : ∀ (l : List Nat) (f g : Nat -> Option Value), (∀ k ∈ l, f k = g k) -> l.filterMap f = l.filterMap g := by
      intro l
      induction l with
      | nil => intro _ _ _; rfl
      | cons a r ih =>
        intro f g h
        rw [List.filterMap_cons, List.filterMap_cons, h a (by simp), ih f g fun k hk => h k (List.mem_cons_of_mem _ hk)]
    refine cg _ _ _ fun k hk => ?_
    have := List.mem_range.mp hk
    have e1 : ((xs.size : Int) - 1 + (k : Int) * (-1)).toNat = xs.size - 1 - k := by omega
    show xs[((xs.size : Int) - 1 + (k : Int) * (-1)).toNat]? = xs[xs.size - 1 - k]?
    rw [e1]
  rw [e, PySem.W.krv_range, List.filterMap_reverse, PySem.W.krv_all]
theorem kI {prog : Program} {w : World} {A : Around} {E : Value -> Shared -> Prop} {s : Shared} {sl : Addr} {u : Tok} {n : Nat} {Q : Int × Int × Nat -> Shared -> Prop} (hs : s.heap.IsSliceOf sl .none .none (.int (-1) u))
    (h : Q ((n : Int) - 1, -1, n) s) : wpAny (model prog w) A (Builtin.Slice.sliceApplied (.ref sl) (pure (n : Int))) Q E s := by
  obtain ⟨os, hos, hcs, hds⟩ := id hs
  unfold Builtin.Slice.sliceApplied Builtin.Slice.sliceFields
  refine wpAny_bind (wpAny_bind (wpAny_field hos hds (x := .none) rfl (wpAny_bind (wpAny_field hos hds (x := .none) rfl (wpAny_bind (wpAny_field hos hds (x := .int (-1) u) rfl (wpAny_pure ?_)))))))
  refine wpAny_bind (slicePart_int ?_)
  show wpAny _ _ (if ((-1 : Int) == 0) = true then _ else _) _ _ s
  rw [if_neg (by decide)]
  refine wpAny_bind (slicePart_none (wpAny_bind (slicePart_none (wpAny_bind (wpAny_pure ?_)))))
  show wpAny _ _ (match Builtin.Slice.sliceAdjust none none (-1) (n : Int) with | (lo, hi) => pure (lo, (-1 : Int), Builtin.Slice.slicePlaces lo hi (-1))) _ _ s
  rw [show Builtin.Slice.sliceAdjust none none (-1) (n : Int) = ((n : Int) - 1, -1) from rfl]
  have hp : Builtin.Slice.slicePlaces ((n : Int) - 1) (-1) (-1) = n := by
    unfold Builtin.Slice.slicePlaces
    rw [if_neg (by decide)]
    by_cases hz : (n : Int) - 1 > -1
    · rw [if_pos hz, show (- -1 : Int) = 1 by decide, Int.ediv_one]; omega
    · rw [if_neg hz]; omega
  show wpAny _ _ (pure ((n : Int) - 1, (-1 : Int), Builtin.Slice.slicePlaces ((n : Int) - 1) (-1) (-1))) _ _ s
  rw [hp]
  exact wpAny_pure h
theorem j5 {prog : Program} {w : World} {A : Around} {E : Value -> Shared -> Prop} {s : Shared} {t sl : Addr} {items : Array Value} {u : Tok} {Q : Value -> Shared -> Prop} (ht : IsTup s.heap t items) (hs : s.heap.IsSliceOf sl .none .none (.int (-1) u))
    (h : Q (.ref s.heap.objs.size) { s with heap := s.heap.push { cls := .type "tuple", data := .seq items.toList.reverse.toArray } }) (hsz : items.size <= sizeLine) : wpAny (model prog w) A (getItem (.ref t) (.ref sl)) Q E s := by
  obtain ⟨os, hos, hcs, hds⟩ := id hs
  have hTs : s.TypeIs (.ref sl) "slice" := ⟨os, hos, hcs⟩
  unfold getItem
  try with_reducible refine wpAny_holding ?_
  first | refine wpAny_bind (wpAny_pure ?_) | skip
  refine wpAny_bind (wpAny_sequenceKey ht.typeIs (by decide) ?_)
  refine wpAny_bind (wpAny_callSpecial?_slot (name := Str.ofString "__getitem__") ht.typeIs PyProof.Rows.slot_tuple_getitem (wpAny_call_entry PyProof.Rows.slot_tuple_getitem ht.typeIs entry_tuple_getitem ?_ (args_tuple_getitem _ _)))
  show wpAny _ _ (Builtin.Tuple.tupleItemsOf (.ref t) >>= _) _ _ s
  refine wpAny_bind (tupleItemsOf_ ht (wpAny_bind (wpAny_typeOf hTs ?_)))
  rw [if_pos (by decide)]
  refine wpAny_bind (kI hs ?_)
  show wpAny _ _ (if (((items.size : Int) - 1) == 0 && (-1 : Int) == 1 && items.size == items.size) = true then _ else _) _ _ s
  rw [if_neg (by simp)]
  show wpAny _ _ (Builtin.Tuple.tupleExact ((List.range items.size).filterMap fun (k : Nat) => items[((items.size : Int) - 1 + (k : Int) * (-1)).toNat]?).toArray >>= _) _ _ s
  rw [s_]
  have hz : sizeOk (.seq items.toList.reverse.toArray) := by
    show items.toList.reverse.toArray.size <= sizeLine
    simpa using hsz
  first
    | exact wpAny_bind (m := Builtin.Tuple.tupleExact _) (wpAny_newObj_type (wpAny_pure ⟨_, rfl, wpAny_pure h⟩) hz)
    | exact wpAny_bind (m := Builtin.Tuple.tupleExact _) (wpAny_newObj_type (wpAny_bind (wpAny_pure (wpAny_pure ⟨_, rfl, wpAny_pure h⟩))) hz)
noncomputable def yD (K : PySem.W.Frag) : R2 := fun x y H Q => ∃ a b ys, x = .ref a /\ y = .ref b /\ SqT K H a [] /\ SqT K H b ys /\ Q (.ref b) H
theorem zx : OpR X (binaryOp .Add) (yD X.K) := by
  intro pins s σ H x y v u Q I rx ry h
  obtain ⟨a, b, ys, rfl, rfl, ha, hb, q⟩ := h
  cases rx
  cases ry
  obtain ⟨its, r1, p1, _⟩ := I.tuple ha
  obtain ⟨its2, r2, p2, _⟩ := I.tuple hb
  cases r1
  obtain ⟨⟨cls, dd, data, sl⟩, ho, hc, n, hd⟩ := id p1
  obtain ⟨⟨cls2, dd2, data2, sl2⟩, ho2, hc2, n2, hd2⟩ := id p2
  simp only at hc hd hc2 hd2
  subst hc hd hc2 hd2
  exact concat_meets ⟨_, ho, rfl⟩ ⟨_, ho2, rfl⟩ noFill_tuple_add seq_tuple_add PySem.F.slot_tuple_add PySem.F.entry_tuple_add (PySem.F.args_tuple_add_2 _ _)
    (tuple_addW0 a b _ _ n n2 dd dd2 sl sl2 (by simp)) ⟨ho, ho2, ⟨.ref b, H, I, rfl, q⟩⟩
end
open AutoSeq1 (wpAny_loadPart')
noncomputable def lp (a : Addr) (lo hi st : Int) : HO := .ext fun h => ∃ t u v, h.get? a = some { cls := .type "range", data := .fields #[.int lo t, .int hi u, .int st v] }
noncomputable def mR (lo st : Int) (n : Nat) : List Int := (List.range n).map fun (i : Nat) => lo + (i : Int) * st
theorem iL (lo st : Int) (n : Nat) : (mR lo st n).length = n := by simp [mR]
theorem nG {lo st : Int} {n : Nat} {acc : Array Value} (h : ItemsOf (fun i v => ∃ t, v = .int (lo + i * st) t) acc n) : Vals ((mR lo st n).map V.int) acc.toList := by
  obtain ⟨hs, hv⟩ := h
  have key : ∀ (l : List Value) (k : Nat), (∀ j v, l[j]? = some v -> ∃ t, v = Value.int (lo + ((k + j : Nat) : Int) * st) t) -> Vals (((List.range' k l.length).map fun (i : Nat) => lo + (i : Int) * st).map V.int) l := by
    intro l
    induction l with
    | nil => intro k _; exact .nil
    | cons a r ih =>
      intro k hk
      rw [List.length_cons, List.range'_succ, List.map_cons, List.map_cons]
      refine .cons ?_ (ih (k + 1) fun j v e => ?_)
      · obtain ⟨t, q⟩ := hk 0 a rfl
        exact ⟨t, by rw [q]; simp⟩
      · obtain ⟨t, q⟩ := hk (j + 1) v (by simpa using e)
        exact ⟨t, by rw [q]; congr 3; omega⟩
  have := key acc.toList 0 fun j v e => by
    obtain ⟨t, q⟩ := hv j v (by simpa using e)
    exact ⟨t, by rw [q]; simp⟩
  unfold mR
  rw [List.range_eq_range', <- hs]
  simpa using this
section
variable {X : Cx}
theorem Inv.rng {pins : List (Addr × Obj)} {σ : St} {H : Hp} {s : Shared} {lo hi st : Int} {t u v : Tok} {tk : Nat} (I : Inv X pins σ H s) :
    Inv X pins σ (upd H s.heap.objs.size (lp s.heap.objs.size lo hi st)) { s with heap := s.heap.push { cls := .type "range", data := .fields #[.int lo t, .int hi u, .int st v] }, toks := tk } := by
  refine I.laid (fun b o e => Heap.get?_push_of_some _ e) (Nat.le_refl _) ?_
  refine ⟨⟨t, u, v, Heap.get?_push_size _ rfl⟩, ⟨_, Heap.get?_push_size _ rfl⟩, fun h1 h2 ⟨a, b, c, e⟩ k => ⟨a, b, c, k _ e⟩⟩
theorem wX : a_ X (.type "range") (fun vs H Q => ∃ j, vs = [.int j] /\ ∀ p, H p = none -> Q (.ref p) (upd H p (lp p 0 j 1))) := by
  intro pins s σ H xs us Q I r h
  obtain ⟨j, rfl, q⟩ := h
  obtain ⟨u, rfl, t, rfl⟩ := vals1 r
  exact call_range_1 ⟨.ref _, _, I.rng, rfl, q _ (I.hok.fresh (Nat.le_refl _))⟩
theorem xh : a_ X (.type "range") (fun vs H Q => ∃ i j, vs = [.int i, .int j] /\ ∀ p, H p = none -> Q (.ref p) (upd H p (lp p i j 1))) := by
  intro pins s σ H xs us Q I r h
  obtain ⟨i, j, rfl, q⟩ := h
  obtain ⟨u, w', rfl, ⟨t, rfl⟩, ⟨t', rfl⟩⟩ := vals2 r
  exact call_range_2 ⟨.ref _, _, I.rng, rfl, q _ (I.hok.fresh (Nat.le_refl _))⟩
structure jg (lo hi st : Int) (n : Nat) : Prop where
  sm : Builtin.Range.small lo hi st = true
  sz : Builtin.Range.rangeSize lo hi st = n
  le : n <= 2 ^ 20
theorem Inv.CZ {pins : List (Addr × Obj)} {σ : St} {H : Hp} {s : Shared} {p : Addr} {lo hi st : Int} (I : Inv X pins σ H s) (h : H p = some (lp p lo hi st)) : ∃ t u v, IsRange s.heap p lo hi st t u v := by
  obtain ⟨⟨t, u, v, e⟩, _⟩ := I.hok p _ h
  exact ⟨t, u, v, e⟩
theorem nL (hc : X.calm = true) : a_ X (.type "list") (fun vs H Q => ∃ p lo hi st n, vs = [.ref p] /\ H p = some (lp p lo hi st) /\ jg lo hi st n /\ ∀ l, H l = none -> Q (.ref l) (upd H l (.lst ((mR lo st n).map V.int)))) := by
  intro pins s σ H xs us Q I r h
  obtain ⟨p, lo, hi, st, n, rfl, hp, ok, q⟩ := h
  obtain ⟨u, rfl, rx⟩ := vals1 r
  cases rx
  obtain ⟨t, u, v, hr⟩ := I.CZ hp
  have hn := ok.le
  refine call_list_range (I.ok.hd hc) hr ok.sm ok.sz (by omega) fun h' tk acc c kp e hi => ?_
  have hv := nG hi
  refine ⟨.ref s.heap.objs.size, _, I.laid (t' := tk) kp (Nat.le_refl _) (show bL X.prog X.w _ h' _ (.lst _) from ⟨?_, acc.toList, c, hv, by simpa using e⟩), rfl, q _ (I.hok.fresh (Nat.le_refl _))⟩
  rw [List.length_map, iL, sizeLine_eq]; omega
end
section
variable {prog : Program} {w : World} {A : Around} {E : Value -> Shared -> Prop} {s : Shared}
theorem sZ {Q : List Value -> Shared -> Prop} {r : Addr} {a b c : Int} {t u v : Tok} {n : Nat} (hh : A.handled = none) (hr : IsRange s.heap r a b c t u v) (ok : jg a b c n)
    (hQ : ∀ h' tk (acc : Array Value), (∀ b o, s.heap.get? b = some o -> h'.get? b = some o) -> ItemsOf (fun i v => ∃ t, v = .int (a + i * c) t) acc n -> Q acc.toList { s with heap := h', toks := tk }) :
    wpAny (model prog w) A (collect (.ref r)) Q E s := by
  unfold collect
  refine wpAny_bind (wpAny_runValue (codeAny_builtin F.entry_proto_collect ?_))
  rw [Around.under_plainId F.plain_proto_collect _]
  show wpAny _ A.in1 (newList [] >>= fun l => again (.builtin "list.__iadd__" ⟨[l, .ref r], []⟩)) _ _ s
  refine wpAny_bind (wpAny_newObj_type (wpAny_pure ⟨plainId_quiet F.plain_list_iadd _, codeAny_builtin F.entry_list_iadd ?_⟩))
  rw [Around.under_plainId F.plain_list_iadd _]
  show wpAny _ A.in1 (Builtin.List.listExtendWith (.ref s.heap.objs.size) (.ref r) (.ref s.heap.objs.size)) _ _ _
  have hn := ok.le
  refine wpAny_mono (wpAny_extend_range (A := A) (R := fun z y => z = .ok (.ret (.ref s.heap.objs.size)) /\ ∃ h' tk acc c', y = { s with heap := h', toks := tk } /\ (∀ b o, s.heap.get? b = some o -> h'.get? b = some o) ∧
      h'.get? s.heap.objs.size = some { cls := .type "list", dict := none, data := .seq acc c', slots := #[] } /\ ItemsOf (fun i v => ∃ t, v = .int (a + i * c) t) acc n)
    (s := { s with heap := s.heap.push { cls := .type "list", data := .seq ([] : List Value).toArray } }) hh (Heap.get?_push_of_some _ hr) ok.sm ok.sz (by omega) _ _ 0 (Heap.get?_push_size _ rfl)
    (fun h' tk acc c' kp e hi => ⟨rfl, h', tk, acc, c', rfl, fun b o q => kp b o (Nat.ne_of_lt (Heap.lt_size q)) (Heap.get?_push_of_some _ q), e, hi⟩)) (fun fin y h => ?_) (fun e y h => ?_)
  · have last : ∀ y, (∃ h' tk acc c', y = { s with heap := h', toks := tk } /\ (∀ b o, s.heap.get? b = some o -> h'.get? b = some o) ∧
        h'.get? s.heap.objs.size = some { cls := .type "list", dict := none, data := .seq acc c', slots := #[] } /\ ItemsOf (fun i v => ∃ t, v = .int (a + i * c) t) acc n) -> wpAny (model prog w) A (match Value.ref s.heap.objs.size with
      | Value.ref a => do
        match (← load a).data with
          | Data.seq xs _ => pure xs.toList
          | _ => unsupported "internal:collect"
      | _ => unsupported "internal:collect") Q E y := by
      rintro y ⟨h', tk, acc, c', rfl, kp, e, hi⟩
      show wpAny _ A (load s.heap.objs.size >>= _) _ _ _
      refine wpAny_bind (wpAny_load e ?_)
      exact wpAny_pure (hQ h' tk acc kp hi)
    cases fin with
    | done f =>
      obtain ⟨e, h⟩ := h
      cases e
      exact last _ h
    | again c' => exact ⟨h.1, codeAny_mono h.2 fun r y hr => by obtain ⟨rfl, h⟩ := hr; exact last _ h⟩
  · exact absurd h.1 (by simp)
theorem wc {Q : Value -> Shared -> Prop} {r : Addr} {a b c : Int} {t u v : Tok} {n : Nat} (hh : A.handled = none) (hr : IsRange s.heap r a b c t u v) (ok : jg a b c n)
    (hQ : ∀ (h' : Heap) (tk : Nat) (acc : Array Value), (∀ b o, s.heap.get? b = some o -> h'.get? b = some o) -> ItemsOf (fun i v => ∃ t, v = .int (a + i * c) t) acc n -> Q (.ref h'.objs.size) { s with heap := h'.push { cls := .type "tuple", data := .seq acc }, toks := tk }) :
    wpAny (model prog w) A (call (.type "tuple") [.ref r]) Q E s := by
  refine callType_codes (Q₁ := fun obj s₁ => s₁.TypeIs obj "tuple" /\ Q obj s₁) F.called_tuple (F.typeCall_tuple_1 _) F.entry_object_init ?_ fun obj s₁ h₁ =>
    ⟨h₁.1, F.args_object_init_2 obj _, object_init_meets F.called_tuple.init.lookup F.called_tuple.made (by decide) prog w A.in1 _ s₁ ⟨h₁.1, rfl, h₁.2⟩⟩
  refine codeAny_of_tree ?_
  show wpAny _ A.in1.in1 (do checkBuiltinCall "tuple.__new__" ⟨[.type "tuple", .ref r], []⟩; again (.builtin "tuple.__new__" ⟨[.type "tuple", .ref r], []⟩)) _ _ s
  refine wpAny_bind (wpAny_of_eq (F.newCall_tuple_1 _) (wpAny_pure ⟨plainId_quiet F.plain_tuple_new _, codeAny_builtin F.entry_tuple_new ?_⟩))
  rw [Around.under_plainId F.plain_tuple_new _]
  have hsub := sub_tuple_self
  have hinit := init_tuple_lookup
  have hmh := madeHere_tuple
  have hT : s.TypeIs (.ref r) "range" := ⟨_, hr, rfl⟩
  have hh' : A.in1.in1.handled = none := by simp [hh]
  wp_walk using wpAny_typeOf hT, sZ hh' hr ok
  intro h' tk acc kp hi
  show wpAny _ _ (Builtin.Tuple.tupleExact acc.toList.toArray >>= fun v => ret v) _ _ _
  unfold Builtin.Tuple.tupleExact
  have hn := ok.le
  refine wpAny_bind (wpAny_newObj_type ?_ (by show acc.toList.toArray.size <= sizeLine; simp only [Array.toArray_toList]; rw [hi.1, sizeLine_eq]; omega))
  rw [show acc.toList.toArray = acc by simp]
  exact wpAny_pure ⟨⟨_, Heap.get?_push_size _ rfl, rfl⟩, hQ h' tk acc kp hi⟩
end
section
variable {X : Cx}
theorem mY (hc : X.calm = true) : a_ X (.type "tuple") (fun vs H Q => ∃ p lo hi st n, vs = [.ref p] /\ H p = some (lp p lo hi st) /\ jg lo hi st n /\ ∀ l, H l = none -> Q (.ref l) (upd H l (.tup ((mR lo st n).map V.int)))) := by
  intro pins s σ H xs us Q I r h
  obtain ⟨p, lo, hi, st, n, rfl, hp, ok, q⟩ := h
  obtain ⟨u, rfl, rx⟩ := vals1 r
  cases rx
  obtain ⟨t, u, v, hr⟩ := I.CZ hp
  have hn := ok.le
  refine wc (I.ok.hd hc) hr ok fun h' tk acc kp hi => ?_
  have hv := nG hi
  have I1 : Inv X pins σ H { s with heap := h', toks := tk } := I.kept kp
  refine ⟨.ref h'.objs.size, _, I1.laid (t' := tk) (o := .tup _) (fun b ob q => Heap.get?_push_of_some _ q) (Nat.le_refl _) ⟨?_, acc.toList, hv, by simpa using jm.new h' acc⟩, rfl, q _ (I1.hok.fresh (Nat.le_refl _))⟩
  rw [List.length_map, iL, sizeLine_eq]; omega
theorem zZ {a b : Int} (h1 : -1000000 <= a) (h2 : a <= 1000000) (h3 : -1000000 <= b) (h4 : b <= 1000000) (h : b - a <= 1000000) : jg a b 1 (b - a).toNat :=
  ⟨small_one (by omega) (by omega) (by omega) (by omega), by rw [rangeSize_one]; split <;> omega, by omega⟩
inductive RdD (K : PySem.W.Frag) (H : Hp) : V -> PyData -> Prop
  | non : RdD K H .non .none
  | bl (b : Bool) : RdD K H (.bl b) (.bool b)
  | int (i : Int) : RdD K H (.int i) (.int i)
  | str (x : Str) : RdD K H (.str x) (.str x)
  | tup {a : Addr} {xs : List V} {ds : List PyData} (h : SqT K H a xs) (hl : xs.length = ds.length) (hx : ∀ (i : Nat) x d, xs[i]? = some x -> ds[i]? = some d -> RdD K H x d) : RdD K H (.ref a) (.tuple ds)
  | lst {a : Addr} {xs : List V} {ds : List PyData} (h : SqL K H a xs) (hl : xs.length = ds.length) (hx : ∀ (i : Nat) x d, xs[i]? = some x -> ds[i]? = some d -> RdD K H x d) : RdD K H (.ref a) (.list ds)
theorem iy {h : Heap} : ∀ {us : List Value} {ds : List PyData}, us.length = ds.length -> (∀ (i : Nat) u d, us[i]? = some u -> ds[i]? = some d -> ∃ as, Reads h u d as) -> ∃ as, ReadsAll h us ds as
  | [], [], _, _ => ⟨_, .nil⟩
  | [], _ :: _, hl, _ => by simp at hl
  | _ :: _, [], hl, _ => by simp at hl
  | u :: us, d :: ds, hl, hx => by
    obtain ⟨as, h1⟩ := hx 0 u d rfl rfl
    obtain ⟨bs, h2⟩ := iy (us := us) (ds := ds) (by simpa using hl) fun i u d e1 e2 => hx (i + 1) u d (by simpa using e1) (by simpa using e2)
    exact ⟨_, .cons h1 h2⟩
theorem Vals.get' {xs : List V} {us : List Value} {i : Nat} {u : Value} (r : Vals xs us) (h : us[i]? = some u) : ∃ x, xs[i]? = some x /\ RelV x u := by
  have hl := r.length
  have hi : i < xs.length := by rw [hl]; exact (List.getElem?_eq_some_iff.mp h).1
  obtain ⟨u', e1, e2⟩ := r.get (List.getElem?_eq_getElem hi)
  rw [h] at e1; cases e1
  exact ⟨_, List.getElem?_eq_getElem hi, e2⟩
theorem Inv.reads {pins : List (Addr × Obj)} {σ : St} {H : Hp} {s : Shared} (I : Inv X pins σ H s) {x : V} {d : PyData} (r : RdD X.K H x d) : ∀ u, RelV x u -> ∃ as, Reads s.heap u d as := by
  induction r with
  | non => intro u ru; cases (show u = Value.none from ru); exact ⟨_, .none⟩
  | bl b => intro u ru; cases (show u = Value.bool b from ru); exact ⟨_, .bool b⟩
  | int i => intro u ru; obtain ⟨t, q⟩ := (show ∃ t, u = Value.int i t from ru); cases q; exact ⟨_, .int i t⟩
  | str y => intro u ru; obtain ⟨t, q⟩ := (show ∃ t, u = Value.str y t from ru); cases q; exact ⟨_, .str y t⟩
  | @tup a xs ds h hl hx ih =>
    intro u ru
    cases (show u = Value.ref a from ru)
    obtain ⟨its, rv, p, hz⟩ := I.tuple h
    obtain ⟨o, ho, hc, n, hd⟩ := p
    obtain ⟨as, ra⟩ := iy (h := s.heap) (us := its) (ds := ds) (by rw [<- rv.length, hl]) fun i u d e1 e2 => by
      obtain ⟨y, e3, ry⟩ := rv.get' e1
      exact ih i y d e3 e2 u ry
    exact ⟨_, .tuple ho hc hd (by simpa using ra)⟩
  | @lst a xs ds h hl hx ih =>
    intro u ru
    cases (show u = Value.ref a from ru)
    obtain ⟨its, rv, p, hz⟩ := I.list h
    obtain ⟨o, ho, hc, n, hd⟩ := p.isList
    obtain ⟨as, ra⟩ := iy (h := s.heap) (us := its) (ds := ds) (by rw [<- rv.length, hl]) fun i u d e1 e2 => by
      obtain ⟨y, e3, ry⟩ := rv.get' e1
      exact ih i y d e3 e2 u ry
    exact ⟨_, .list ho hc hd (by simpa using ra)⟩
theorem wY (hg : X.A.guards = some []) (hu : X.A.units + 64 < cLine) : a_ X (.builtin "repr") (fun vs H Q => ∃ p d, vs = [.ref p] /\ RdD X.K H (.ref p) d /\ d.showable = true /\ d.hasDict = false /\ d.depth <= 60 /\ d.shown.length <= sizeLine /\ Q (.str d.shown) H) := by
  intro pins s σ H xs us Q I r h
  obtain ⟨p, d, rfl, rd, hs, hd, hdp, hz, q⟩ := h
  obtain ⟨u, rfl, rx⟩ := vals1 r
  cases rx
  obtain ⟨as, ra⟩ := I.reads rd (.ref p) rfl
  exact repr_of_reads' ra hs (PyData.noDict_hsm hd) hg (by omega) (fun _ _ e => e) (fun h' u tk kp => ⟨.str d.shown, H, I.kept kp, ⟨_, rfl⟩, q⟩) hz
theorem t6 : a_ X (.builtin "repr") (fun vs H Q => ∃ i, vs = [.int i] /\ i.natAbs.log2 < 1920 /\ Q (.str (toString i)) H) := by
  intro pins s σ H xs us Q I r h
  obtain ⟨i, rfl, hi, q⟩ := h
  obtain ⟨u, rfl, t, rfl⟩ := vals1 r
  exact PySem.P.repr_of_int hi ⟨.str (toString i), H, I.tok _, ⟨_, rfl⟩, q⟩
end
theorem wD {ns : List Int} (h : ns.Nodup) : (unl ns).length = ns.length := by
  have key : ∀ (l acc : List Int), (acc ++ l).Nodup -> l.foldl step_dedup acc = acc ++ l := by
    intro l
    induction l with
    | nil => intro acc _; simp
    | cons a r ih =>
      intro acc hn
      have h1 : a ∉ acc := by
        have := List.nodup_append.mp hn
        exact fun hm => this.2.2 a hm a (by simp) rfl
      have e : step_dedup acc a = acc ++ [a] := by
        unfold step_dedup
        have : acc.any (· == a) = false := by
          rw [Bool.eq_false_iff]
          intro z
          obtain ⟨x, hx, e⟩ := List.any_eq_true.mp z
          have : x = a := by simpa using e
          exact h1 (this ▸ hx)
        simp [this]
      rw [List.foldl_cons, e, ih (acc ++ [a]) (by rw [List.append_assoc]; exact hn), List.append_assoc]
      rfl
  have e : (List.range ns.length).map (fun i => ns.getD i 0) = ns := by
    apply List.ext_getElem
    · simp
    · intro i h1 h2
      simp [List.getD_eq_getElem?_getD, List.getElem?_eq_getElem h2]
  unfold unl firstMet
  rw [e, key ns [] (by simpa using h)]
  rfl
theorem Inv.F3 {X : Cx} {pins : List (Addr × Obj)} {σ : St} {H : Hp} {s : Shared} {C : Addr} {o : Obj} {h' : Heap} (I : Inv X (pins ++ [(C, o)]) σ H s) (cC : ∀ x c, X.env.cells.lookup x = some c -> c ≠ C) (hC : X.ay.heap.objs.size <= C) (pC : ∀ p ∈ X.pn ++ pins, p.1 ≠ C) (hs : Heap.SameBut C s.heap h') : Inv X pins σ H { s with heap := h' } := by
  have kb : ∀ b u, b ≠ C -> s.heap.get? b = some u -> h'.get? b = some u := fun b u hb z => hs.extBut b u hb z
  obtain ⟨q0, q1, q2, q3, q4⟩ := I.pin (C, o) (List.mem_append_right _ (List.mem_append_right _ (List.mem_singleton.mpr rfl)))
  have J : Inv X pins σ H s := I.jB fun p hp => I.pin p (List.mem_append_right _ (List.mem_append_left _ hp))
  refine J.o9 (s' := { s with heap := h' }) (ch := [C]) rfl ⟨fun b u z n a c => kb b u (fun e => c (by rw [e]; exact List.mem_singleton.mpr rfl)) z, fun b u z n a c => ⟨u.slots, kb b _ (fun e => c (by rw [e]; exact List.mem_singleton.mpr rfl)) z⟩, fun b u z n c => n, fun b u z c => ⟨u, kb b u (fun e => c (by rw [e]; exact List.mem_singleton.mpr rfl)) z⟩, fun b xs z => z, fun b ob u z => z, fun b ps z => ⟨#[], by simpa using z⟩⟩ (J.hok.sameBut q1 kb) J.bare fun b hb => ?_
  have e := List.mem_singleton.mp hb
  subst e
  exact ⟨.inr hC, q2, fun x c z => cC x c z, pC⟩
section
variable {prog : Program} {w : World} {A : Around} {E : Value -> Shared -> Prop} {s : Shared}
theorem gu {it t : Addr} {i : Nat} {its : Array Value} {x : Value} {Q : Value -> Shared -> Prop} (hi : s.heap.IsTupleIter it t i) (ht : s.heap.IsTuple t its) (hx : its[i]? = some x) (hQ : ∀ h', h'.IsTupleIter it t (i + 1) -> Heap.SameBut it s.heap h' -> Q x { s with heap := h' }) :
    wpAny (model prog w) A (Builtin.SmallTypes.nextOf (.ref it)) Q E s := by
  obtain ⟨oi, h1, h2, h3⟩ := id hi
  obtain ⟨ot, k1, _, nt, k2⟩ := ht
  unfold Builtin.SmallTypes.nextOf
  refine wpAny_bind (wpAny_callSpecial?_slot (name := Str.ofString "__next__") hi.typeIs F.slot_tuple_iterator_next (wpAny_call_entry F.slot_tuple_iterator_next hi.typeIs F.entry_tuple_iterator_next ?_ (F.args_tuple_iterator_next_1 _)))
  refine wpAny_bind (m := field (.ref it) 0) (wpAny_field h1 h3 (x := .ref t) rfl ?_)
  show wpAny _ _ (if (Value.ref t == Value.none) = true then _ else field (.ref it) 1 >>= _) _ _ s
  rw [if_neg (show ¬ ((Value.ref t == Value.none) = true) from Bool.false_ne_true)]
  refine wpAny_bind (wpAny_field h1 h3 (x := .int i 0) rfl (wpAny_bind (m := seqItems? (.ref t)) (wpAny_seqItems k1 k2 ?_)))
  simp only [Int.toNat_natCast, hx]
  exact wpAny_bind (wpAny_setField h1 h3 (by simp) (wpAny_pure ⟨x, rfl, wpAny_pure (hQ _ ⟨_, Heap.get?_update_self _ h1 (Obj.isFreed_of_fields (Obj.data_mapFields h3 _)), (Obj.cls_mapFields ..).trans h2, by rw [Obj.data_mapFields h3]; simp [rawInt]⟩ (Heap.SameBut.update ..))⟩))
theorem iX {it t : Addr} {i : Nat} {its : Array Value} {Q : Value -> Shared -> Prop} (hh : A.handled = none) (hi : s.heap.IsTupleIter it t i) (ht : s.heap.IsTuple t its) (hx : its[i]? = none)
    (hE : ∀ h' e, Heap.ExtBut it s.heap h' -> (∃ o, h'.get? e = some o /\ o.cls = .type "StopIteration") -> E (.ref e) { s with heap := h' }) : wpAny (model prog w) A (Builtin.SmallTypes.nextOf (.ref it)) Q E s := by
  obtain ⟨oi, h1, h2, h3⟩ := id hi
  obtain ⟨ot, k1, _, nt, k2⟩ := ht
  unfold Builtin.SmallTypes.nextOf
  refine wpAny_bind (wpAny_callSpecial?_slot (name := Str.ofString "__next__") hi.typeIs F.slot_tuple_iterator_next (wpAny_call_entry F.slot_tuple_iterator_next hi.typeIs F.entry_tuple_iterator_next ?_ (F.args_tuple_iterator_next_1 _)))
  refine wpAny_bind (m := field (.ref it) 0) (wpAny_field h1 h3 (x := .ref t) rfl ?_)
  show wpAny _ _ (if (Value.ref t == Value.none) = true then _ else field (.ref it) 1 >>= _) _ _ s
  rw [if_neg (show ¬ ((Value.ref t == Value.none) = true) from Bool.false_ne_true)]
  refine wpAny_bind (wpAny_field h1 h3 (x := .int i 0) rfl (wpAny_bind (m := seqItems? (.ref t)) (wpAny_seqItems k1 k2 ?_)))
  simp only [Int.toNat_natCast, hx]
  refine wpAny_bind (wpAny_rule (wpAny_bind (wpAny_setField h1 h3 (by simp) (wpAny_bind (m := newExc (.type "StopIteration") []) ?_))))
  simp only [newExc, newTuple]
  refine wpAny_bind (wpAny_newObj_type (wpAny_bind (m := firstArgMember _ _) (wpAny_of_eq (a := Value.none) (by first | rfl | (simp only [firstArgMember]; rfl)) (wpAny_newObj_type ?_ (by size_fits)))) (by size_fits))
  simp only [raiseNew]
  refine wpAny_bind (wpAny_handled ?_)
  first | rw [show A.in1.handled = none from hh] | rw [hh]
  exact wpAny_bind (wpAny_pure (wpAny_throw (hE _ _ (((Heap.SameBut.update ..).extBut.push _).push _) ⟨_, Heap.get?_push_size _ rfl, rfl⟩)))
end
theorem Draws.tup {prog : Program} {w : World} {A : Around} (hh : A.handled = none) (it t : Addr) (hne : t ≠ it) (its : Array Value) : Draws prog w A it [it, t] its.size (fun i v => its[i]? = some v) (fun i h => h.IsTupleIter it t i /\ h.IsTuple t its) where
  live := fun _ _ z => let ⟨o, ho, _⟩ := z.1; ⟨o, ho⟩
  frame := fun _ _ _ z hk => ⟨z.1.at fun o e => hk it (by simp) o e, z.2.at fun o e => hk t (by simp) o e⟩
  item := fun i s Q E hi z hQ => gu z.1 z.2 (x := its[i]) (by simp [hi]) fun h' a b => hQ _ h' s.toks (by simp [hi]) ⟨a, z.2.extBut b.extBut hne⟩ b
  done := fun s Q E z hE => iX hh z.1 z.2 (by simp) hE
section
open AutoSeq1 (wpAny_loadPart')
theorem uc (t : Addr) (its : Array Value) (n : Nat) (dct : Option Addr) (sl : Array (Option Value)) :
    Meets (Builtin.«enumerate.__new__» ⟨[.type "enumerate", .ref t], []⟩) (fun _ R s => s.heap.get? t = some { cls := .type "tuple", dict := dct, data := .seq its n, slots := sl } ∧
      R (.ok (.ret (.ref (s.heap.push { cls := .type "tuple_iterator", data := .fields #[.ref t, .int 0 0] }).objs.size))) { s with heap := (s.heap.push { cls := .type "tuple_iterator", data := .fields #[.ref t, .int 0 0] }).push { cls := .type "enumerate", data := .fields #[.none, .bool false, .ref s.heap.objs.size, rawInt 0, .none, .none] } }) :=
  .of_wp fun prog w A R s z => by
    obtain ⟨hp, gs, dr, tk, os⟩ := s; obtain ⟨ht, z⟩ := z
    have su := sub_enumerate
    have hT : Heap.IsTuple (Shared.heap ⟨hp, gs, dr, tk, os⟩) t its := ⟨_, ht, rfl, n, rfl⟩
    wp_walk using wpAny_loadPart' ht
    refine wpAny_stack_any fun st => wpAny_pure ?_
    split
    · rename_i c _ _ _ _ _
      cases (c == Value.type "enumerate") <;> (wp_walk using wpAny_loadPart' ht, wpAny_pyIter_tuple hT; exact ⟨_, rfl, z⟩)
    · (wp_walk using wpAny_loadPart' ht, wpAny_pyIter_tuple hT); exact ⟨_, rfl, z⟩
end
section
variable {prog : Program} {w : World} {A : Around} {E : Value -> Shared -> Prop} {s : Shared}
theorem Fx {t : Addr} {its : Array Value} {Q : Value -> Shared -> Prop} (hT : s.heap.IsTuple t its)
    (q : ∀ h', IsEnum h' (s.heap.objs.size + 1) s.heap.objs.size 0 .none -> h'.IsTupleIter s.heap.objs.size t 0 -> h'.objs.size = s.heap.objs.size + 2 -> (∀ b o, s.heap.get? b = some o -> h'.get? b = some o) -> Q (.ref (s.heap.objs.size + 1)) { s with heap := h' }) :
    wpAny (model prog w) A (call (.type "enumerate") [.ref t]) Q E s := by
  obtain ⟨⟨c, dct, dt, sl⟩, ht, hc, n, hd⟩ := hT
  replace hc : c = .type "tuple" := hc
  replace hd : dt = .seq its n := hd
  subst hc hd
  refine callType_new F.called_enumerate (by decide) (F.typeCall_enumerate_1 _) (F.newCall_enumerate_1 _) (fun obj => F.args_object_init_2 obj _) F.entry_enumerate_new (uc t its n dct sl) ⟨ht, ?_⟩
  have hz : (s.heap.push { cls := .type "tuple_iterator", data := .fields #[.ref t, .int 0 0] }).objs.size = s.heap.objs.size + 1 := Heap.size_push ..
  show _ /\ _
  rw [hz]
  have he : IsEnum ((s.heap.push { cls := .type "tuple_iterator", data := .fields #[.ref t, .int 0 0] }).push { cls := .type "enumerate", data := .fields #[.none, .bool false, .ref s.heap.objs.size, rawInt 0, .none, .none] }) (s.heap.objs.size + 1) s.heap.objs.size 0 .none := by
    have y := Heap.get?_push_size (s.heap.push { cls := .type "tuple_iterator", data := .fields #[.ref t, .int 0 0] }) (o := { cls := .type "enumerate", data := .fields #[.none, .bool false, .ref s.heap.objs.size, rawInt 0, .none, .none] }) rfl
    rw [hz] at y; exact y
  exact ⟨⟨_, he, rfl⟩, q _ he ⟨_, Heap.get?_push_of_some _ (Heap.get?_push_size _ rfl), rfl, rfl⟩ (by rw [Heap.size_push, hz]) fun b o x => Heap.get?_push_of_some _ (Heap.get?_push_of_some _ x)⟩
end
theorem Inv.yielded {X : Cx} {pins : List (Addr × Obj)} {σ : St} {H : Hp} {s : Shared} {fp : List Addr} {T : Addr} {o : HO} {h' : Heap} {t' : Nat} (I : Inv X pins σ H s) (hf : ∀ b ∈ fp, kH X pins H b) (k : ∀ b u, b ∉ fp -> s.heap.get? b = some u -> h'.get? b = some u)
    (hT : s.heap.objs.size <= T) (new : bL X.prog X.w (upd H T o) h' T o) : Inv X pins σ (upd H T o) { s with heap := h', toks := t' } := by
  have nT : ∀ b u, s.heap.get? b = some u -> b ≠ T := fun b u e z => absurd (Heap.lt_size e) (by rw [z]; exact Nat.not_lt.mpr hT)
  have nH : ∀ b u, H b = some u -> b ≠ T := fun b u e z => absurd (I.hok.lt e) (by rw [z]; exact Nat.not_lt.mpr hT)
  have nf : ∀ b u, H b = some u -> b ∉ fp := fun b u e z => by rw [(hf b z).1] at e; cases e
  refine I.o9 (s' := { s with heap := h', toks := t' }) (ch := fp) rfl ⟨fun b u e n _ c => k b u c e, fun b u e n _ c => ⟨u.slots, k b u c e⟩, fun b u e n c => by rw [aA (nT b u e)]; exact n, fun b u e c => ⟨u, k b u c e⟩, fun b xs e => by rw [aA (nH b _ e)]; exact e, fun b ob u e => by rw [aA (nH b _ e)]; exact e, fun b ps e => ⟨#[], by rw [aA (nH b _ e), e]; simp⟩⟩ (fun b u e => ?_) I.bare (fun b hb => ?_)
  · by_cases hb : b = T
    · subst hb
      rw [aH] at e
      cases e
      exact new
    · rw [aA hb] at e
      refine (I.hok b u e).j1 (fun c v hc q => k c v ?_ q) (fun c q => by rw [aA (nH c _ q)]; exact q) fun c xs q => by rw [aA (nH c _ q)]; exact q
      rcases hc with z | z
      · rw [z]; exact nf b u e
      · exact nf c _ z
  · obtain ⟨_, g1, _, g3, g4, g5⟩ := hf b hb
    exact ⟨g3, g1, g4, g5⟩
theorem Inv.lQ {X : Cx} {pins : List (Addr × Obj)} {σ : St} {H : Hp} {s : Shared} {fp : List Addr} {h' : Heap} {t' : Nat} (I : Inv X pins σ H s) (hf : ∀ b ∈ fp, kH X pins H b) (k : ∀ b u, b ∉ fp -> s.heap.get? b = some u -> h'.get? b = some u) : Inv X pins σ H { s with heap := h', toks := t' } := by
  have nf : ∀ b u, H b = some u -> b ∉ fp := fun b u e z => by rw [(hf b z).1] at e; cases e
  refine I.o9 (s' := { s with heap := h', toks := t' }) (ch := fp) rfl ⟨fun b u e n _ c => k b u c e, fun b u e n _ c => ⟨u.slots, k b u c e⟩, fun b u e n c => n, fun b u e c => ⟨u, k b u c e⟩, fun b xs e => e, fun b ob u e => e, fun b ps e => ⟨#[], by rw [e]; simp⟩⟩ (fun b u e => ?_) I.bare (fun b hb => ?_)
  · refine (I.hok b u e).j1 (fun c v hc q => k c v ?_ q) (fun c q => q) fun c xs q => q
    rcases hc with z | z
    · rw [z]; exact nf b u e
    · exact nf c _ z
  · obtain ⟨_, g1, _, g3, g4, g5⟩ := hf b hb
    exact ⟨g3, g1, g4, g5⟩
noncomputable def Iel (K : PySem.W.Frag) (a : Addr) : It :=
  ⟨fun i H => ∃ xs x, SqL K H a xs /\ xs[i]? = some x, fun i H x H' => ∃ p v, x = .ref p /\ H p = none /\ (∀ xs, SqL K H a xs -> xs[i]? = some v) /\ H' = upd H p (.tup [.int i, v]), fun i H => ∃ xs, SqL K H a xs /\ xs.length <= i⟩
noncomputable def Iet (K : PySem.W.Frag) (a : Addr) : It :=
  ⟨fun i H => ∃ xs x, SqT K H a xs /\ xs[i]? = some x, fun i H x H' => ∃ p v, x = .ref p /\ H p = none /\ (∀ xs, SqT K H a xs -> xs[i]? = some v) /\ H' = upd H p (.tup [.int i, v]), fun i H => ∃ xs, SqT K H a xs /\ xs.length <= i⟩
theorem rH {h : Heap} {e it : Addr} {i : Int} {old : Value} (z : IsEnum h e it i old) : ∃ o, h.get? e = some o /\ ∀ v, o.data ≠ .cell v := ⟨_, z, fun v q => nomatch q⟩
theorem l5 {prog : Program} {w : World} {A : Around} {it : Addr} {fp : List Addr} {n : Nat} {P : Nat -> Value -> Prop} {St : Nat -> Heap -> Prop} (D : Draws prog w A.in1 it fp n P St) (e : Addr) (hei : e ≠ it) (hef : e ∉ fp) (i : Nat) (s : Shared) (Q : Option Value -> Shared -> Prop) (E : Value -> Shared -> Prop) (hi : i < n)
    (hst : (∃ old, IsEnum s.heap e it i old) /\ St i s.heap)
    (hQ : ∀ T vals h' tk, (∃ t x, P i x /\ vals = #[.int i t, x]) -> s.heap.objs.size <= T -> jm h' T vals -> ((∃ x, IsEnumOut h' e it ((i : Int) + 1) x T) /\ St (i + 1) h' /\ T ≠ e /\ T ≠ it) -> (∀ b o, b ∉ [e, it] -> s.heap.get? b = some o -> h'.get? b = some o) -> Q (some (.ref T)) { s with heap := h', toks := tk }) :
    wpAny (model prog w) A (pyNext (.ref e)) Q E s := by
  obtain ⟨⟨old, he⟩, hs⟩ := hst
  refine wpAny_pyNext_enum_itemD D he hs hi hei hef fun x h1 tk hP ho hs1 hT _ hk => ?_
  refine hQ s.heap.objs.size #[.int i tk, x] h1 (tk + 1) ⟨tk, x, hP, rfl⟩ (Nat.le_refl _) ⟨_, hT, ⟨rfl, _, rfl⟩, rfl⟩ ⟨⟨_, ho⟩, hs1, Nat.ne_of_gt (Heap.lt_size he), ?_⟩ fun b o hb y => hk b o (fun z => hb (by simp [z])) (fun z => hb (by simp [z])) y
  obtain ⟨_, y⟩ := D.live _ _ hs
  exact Nat.ne_of_gt (Heap.lt_size y)
theorem ui {P : Program} {w : World} {K : PySem.W.Frag} {elts : List Expr} {k : Nat} {pos : Pos} {a it e : Addr} (hei : e ≠ it) : Turn P w K (.Tuple elts k pos) (Iel K a) [e, it] e (fun i h => (∃ old, IsEnum h e it i old) /\ h.IsListIter it a i) where
  mem := by simp
  obj := fun i h z b hb => by
    obtain ⟨⟨old, z1⟩, z2⟩ := z
    rcases List.mem_cons.mp hb with rfl | hb
    · exact rH z1
    · rw [List.mem_singleton.mp hb]
      obtain ⟨o, q, _, d⟩ := z2
      exact ⟨o, q, fun v y => by rw [d] at y; cases y⟩
  keep := fun i h h' z kk => ⟨let ⟨old, z1⟩ := z.1; ⟨old, kk e (by simp) _ z1⟩, z.2.at fun o q => kk it (by simp) o q⟩
  item := by
    intro X hP hw hK hc i pins s σ H E I hf st hg
    subst hP hw hK
    obtain ⟨xs, x, hq, hx⟩ := hg
    obtain ⟨its, rv, p, hz⟩ := I.list hq
    obtain ⟨u, hu, ru⟩ := rv.get hx
    have hl := rv.length
    have plt : a < s.heap.objs.size := by obtain ⟨o, q, _⟩ := p.isList; exact Heap.lt_size q
    have hai : a ≠ it /\ a ≠ e := by
      obtain ⟨oa, qa, ca, _⟩ := p.isList
      obtain ⟨⟨old, z1⟩, oi, qi, ci, _⟩ := st
      exact ⟨(fun q => by rw [q, qi] at qa; cases qa; rw [ci] at ca; injection ca with y; exact absurd y (by decide)), (fun q => by rw [q, z1] at qa; cases qa; injection ca with y; exact absurd y (by decide))⟩
    have DD := (Draws.list (prog := X.prog) (w := X.w) (A := X.A.in1) (I.ok.hd hc) it a hai.1 its.toArray)
    have hef0 : e ∉ [it, a] := by simp; exact ⟨hei, fun q => hai.2 q.symm⟩
    have W := WalksT.enumerateD (prog := X.prog) (w := X.w) (A := X.A) DD e hei hef0 (by simp)
    refine l5 DD e hei hef0 i s _ _ (by rw [List.size_toArray, <- hl]; exact (List.getElem?_eq_some_iff.mp hx).1) ⟨st.1, st.2, p.isList⟩ fun T vals h1 tk hv hT ht hm k1 => ?_
    obtain ⟨t, v, hv1, hv2⟩ := hv
    have ev : v = u := by
      have : its[i]? = some v := by simpa using hv1
      rw [hu] at this; exact (Option.some.inj this).symm
    subst ev
    refine ⟨.ref T, rfl, W.go elts k pos i T { s with heap := h1, toks := tk } _ _ hm fun h2 st2 k2 => ?_⟩
    have kk : ∀ b o, b ∉ [e, it] -> s.heap.get? b = some o -> h2.get? b = some o := fun b o hb q => k2 b o hb (k1 b o hb q)
    have hT2 : jm h2 T vals := by
      obtain ⟨o, q, c⟩ := ht
      exact ⟨o, k2 T o (fun z => W.apart _ _ _ hm z) q, c⟩
    have hn : H T = none := I.hok.fresh hT
    have nTf : ∀ b ∈ [e, it], b ≠ T := fun b hb z => by
      have hlt : b < s.heap.objs.size := by
        rcases List.mem_cons.mp hb with rfl | hb
        · obtain ⟨old, z1⟩ := st.1; exact Heap.lt_size z1
        · rw [List.mem_singleton.mp hb]; obtain ⟨o, q, _⟩ := st.2; exact Heap.lt_size q
      rw [z] at hlt; exact absurd hlt (Nat.not_lt.mpr hT)
    refine ⟨.ref T, upd H T (.tup [.int i, x]), I.yielded (t' := tk) hf kk hT ⟨by show 2 <= sizeLine; decide, [.int i t, v], .cons ⟨t, rfl⟩ (.cons ru .nil), ?_⟩, rfl, ⟨T, x, rfl, hn, fun ys hy => by rw [I.iG hy hq]; exact hx, rfl⟩, ⟨st2.1, st2.2.1⟩, fun b hb => by rw [aA (nTf b hb)]; exact (hf b hb).1⟩
    rw [hv2] at hT2; exact hT2
  done := by
    intro X hP hw hK hc i pins s σ H E I hf st hg
    subst hP hw hK
    obtain ⟨xs, hq, hx⟩ := hg
    obtain ⟨its, rv, p, hz⟩ := I.list hq
    obtain ⟨⟨old, z1⟩, z2⟩ := st
    have hl := rv.length
    exact wpAny_pyNext_enum_end (I.ok.hd hc) z1 z2 p.isList (Array.getElem?_eq_none (by rw [List.size_toArray]; omega)) fun h' eb => ⟨rfl, I.lQ (t' := s.toks) hf fun b u hb q => eb b u (fun z => hb (by simp [z])) q⟩
  self := fun A i s Q E z q => by
    obtain ⟨⟨old, z1⟩, z2⟩ := z
    exact wpAny_pyIter_enum z1 q
theorem t4 {P : Program} {w : World} {K : PySem.W.Frag} {elts : List Expr} {k : Nat} {pos : Pos} {a it e : Addr} (hei : e ≠ it) : Turn P w K (.Tuple elts k pos) (Iet K a) [e, it] e (fun i h => (∃ old, IsEnum h e it i old) /\ h.IsTupleIter it a i) where
  mem := by simp
  obj := fun i h z b hb => by
    obtain ⟨⟨old, z1⟩, z2⟩ := z
    rcases List.mem_cons.mp hb with rfl | hb
    · exact rH z1
    · rw [List.mem_singleton.mp hb]
      obtain ⟨o, q, _, d⟩ := z2
      exact ⟨o, q, fun v y => by rw [d] at y; cases y⟩
  keep := fun i h h' z kk => ⟨let ⟨old, z1⟩ := z.1; ⟨old, kk e (by simp) _ z1⟩, z.2.at fun o q => kk it (by simp) o q⟩
  item := by
    intro X hP hw hK hc i pins s σ H E I hf st hg
    subst hP hw hK
    obtain ⟨xs, x, hq, hx⟩ := hg
    obtain ⟨its, rv, p, hz⟩ := I.tuple hq
    obtain ⟨u, hu, ru⟩ := rv.get hx
    have hl := rv.length
    have plt : a < s.heap.objs.size := by obtain ⟨o, q, _⟩ := (show s.heap.IsTuple a its.toArray from p); exact Heap.lt_size q
    have hai : a ≠ it /\ a ≠ e := by
      obtain ⟨oa, qa, ca, _⟩ := (show s.heap.IsTuple a its.toArray from p)
      obtain ⟨⟨old, z1⟩, oi, qi, ci, _⟩ := st
      exact ⟨(fun q => by rw [q, qi] at qa; cases qa; rw [ci] at ca; injection ca with y; exact absurd y (by decide)), (fun q => by rw [q, z1] at qa; cases qa; injection ca with y; exact absurd y (by decide))⟩
    have DD := (Draws.tup (prog := X.prog) (w := X.w) (A := X.A.in1) (I.ok.hd hc) it a hai.1 its.toArray)
    have hef0 : e ∉ [it, a] := by simp; exact ⟨hei, fun q => hai.2 q.symm⟩
    have W := WalksT.enumerateD (prog := X.prog) (w := X.w) (A := X.A) DD e hei hef0 (by simp)
    refine l5 DD e hei hef0 i s _ _ (by rw [List.size_toArray, <- hl]; exact (List.getElem?_eq_some_iff.mp hx).1) ⟨st.1, st.2, (show s.heap.IsTuple a its.toArray from p)⟩ fun T vals h1 tk hv hT ht hm k1 => ?_
    obtain ⟨t, v, hv1, hv2⟩ := hv
    have ev : v = u := by
      have : its[i]? = some v := by simpa using hv1
      rw [hu] at this; exact (Option.some.inj this).symm
    subst ev
    refine ⟨.ref T, rfl, W.go elts k pos i T { s with heap := h1, toks := tk } _ _ hm fun h2 st2 k2 => ?_⟩
    have kk : ∀ b o, b ∉ [e, it] -> s.heap.get? b = some o -> h2.get? b = some o := fun b o hb q => k2 b o hb (k1 b o hb q)
    have hT2 : jm h2 T vals := by
      obtain ⟨o, q, c⟩ := ht
      exact ⟨o, k2 T o (fun z => W.apart _ _ _ hm z) q, c⟩
    have hn : H T = none := I.hok.fresh hT
    have nTf : ∀ b ∈ [e, it], b ≠ T := fun b hb z => by
      have hlt : b < s.heap.objs.size := by
        rcases List.mem_cons.mp hb with rfl | hb
        · obtain ⟨old, z1⟩ := st.1; exact Heap.lt_size z1
        · rw [List.mem_singleton.mp hb]; obtain ⟨o, q, _⟩ := st.2; exact Heap.lt_size q
      rw [z] at hlt; exact absurd hlt (Nat.not_lt.mpr hT)
    refine ⟨.ref T, upd H T (.tup [.int i, x]), I.yielded (t' := tk) hf kk hT ⟨by show 2 <= sizeLine; decide, [.int i t, v], .cons ⟨t, rfl⟩ (.cons ru .nil), ?_⟩, rfl, ⟨T, x, rfl, hn, fun ys hy => by rw [I.gm hy hq]; exact hx, rfl⟩, ⟨st2.1, st2.2.1⟩, fun b hb => by rw [aA (nTf b hb)]; exact (hf b hb).1⟩
    rw [hv2] at hT2; exact hT2
  done := by
    intro X hP hw hK hc i pins s σ H E I hf st hg
    subst hP hw hK
    obtain ⟨xs, hq, hx⟩ := hg
    obtain ⟨its, rv, p, hz⟩ := I.tuple hq
    obtain ⟨⟨old, z1⟩, z2⟩ := st
    have hl := rv.length
    have pt : s.heap.IsTuple a its.toArray := p
    have DD : Draws X.prog X.w X.A.in1 it [it, a] i (fun _ _ => True) (fun j h => j = i /\ h.IsTupleIter it a j /\ h.IsTuple a its.toArray) := {
      live := fun _ _ z => let ⟨o, ho, _⟩ := z.2.1; ⟨o, ho⟩
      frame := fun _ _ _ z hk => ⟨z.1, z.2.1.at fun o e => hk it (by simp) o e, z.2.2.at fun o e => hk a (by simp) o e⟩
      item := fun j s Q E hj z hQ => absurd z.1 (Nat.ne_of_lt hj)
      done := fun s Q E z hE => iX (I.ok.hd hc) z.2.1 z.2.2 (Array.getElem?_eq_none (by rw [List.size_toArray]; omega)) hE }
    exact wpAny_pyNext_enum_endD DD z1 ⟨rfl, z2, pt⟩ fun h' eb => ⟨rfl, I.lQ (t' := s.toks) hf fun b u hb q => eb b u (fun z => hb (by simp [z])) q⟩
  self := fun A i s Q E z q => by
    obtain ⟨⟨old, z1⟩, z2⟩ := z
    exact wpAny_pyIter_enum z1 q
noncomputable def FW (K : PySem.W.Frag) (tl : TE) : TI := fun σ H R => tl σ H fun x H1 => ∃ a, x = .ref a /\ (((∃ xs, SqL K H1 a xs) /\ R (Iel K a) H1) \/ ((∃ xs, SqT K H1 a xs) /\ R (Iet K a) H1))
theorem BX {X : Cx} {elts : List Expr} {kt : Nat} {tp p pos : Pos} {l : Expr} {tl : TE} (hg : Gl X "enumerate") (hm : X.mg "enumerate" = none) (hl : PE X l tl) (hs : starEach [l] X.env = [(false, eval l X.env)] := by rfl) :
    PI X (.Tuple elts kt tp) (.Call (.Name "enumerate" p) [l] [] pos) (FW X.K tl) := by
  intro pins s σ H R I h
  have h' : C7 tl Ee σ H (fun vs H1 => match vs with
    | [x] => ∃ a, x = .ref a /\ (((∃ xs, SqL X.K H1 a xs) /\ R (Iel X.K a) H1) \/ ((∃ xs, SqT X.K H1 a xs) /\ R (Iet X.K a) H1))
    | _ => False) := h
  refine Call_ (iC I hg hm PyProof.Rows.boot_enumerate (PyProof.Rows.callWith_type1 (thn (dH hl iz hs pos pins s σ H _ I h') fun us s1 ⟨vs, H1, I1, r1, q1⟩ => ?_) hs rfl))
  cases r1 with
  | nil => exact q1.elim
  | cons r rr =>
    cases rr with
    | cons _ _ => exact q1.elim
    | nil =>
      obtain ⟨a, rfl, q⟩ := q1
      cases r
      have fp : ∀ {h' : Heap}, ∀ b ∈ [s1.heap.objs.size + 1, s1.heap.objs.size], kH X pins H1 b := fun {h'} b hb => by
        have hb' : s1.heap.objs.size <= b := by
          rcases List.mem_cons.mp hb with z | hb
          · omega
          · have := List.mem_singleton.mp hb; omega
        exact I1.xa hb' (I1.hok.fresh hb')
      rcases q with ⟨⟨xs, hq⟩, q⟩ | ⟨⟨xs, hq⟩, q⟩
      · obtain ⟨its, rv, pl, hz⟩ := I1.list hq
        refine call_enumerate_list pl.isList fun h2 z1 z2 hsz kp => wpAny_pyIter_enum (s := { s1 with heap := h2 }) z1 ?_
        exact ⟨s1.heap.objs.size + 1, [s1.heap.objs.size + 1, s1.heap.objs.size], _, _, H1, rfl, I1.kept (t' := s1.toks) kp, ui (a := a) (Nat.succ_ne_self _), ⟨⟨_, z1⟩, z2⟩, fp (h' := h2), q⟩
      · obtain ⟨its, rv, pl, hz⟩ := I1.tuple hq
        refine Fx (show s1.heap.IsTuple a its.toArray from pl) fun h2 z1 z2 hsz kp => wpAny_pyIter_enum (s := { s1 with heap := h2 }) z1 ?_
        exact ⟨s1.heap.objs.size + 1, [s1.heap.objs.size + 1, s1.heap.objs.size], _, _, H1, rfl, I1.kept (t' := s1.toks) kp, t4 (a := a) (Nat.succ_ne_self _), ⟨⟨_, z1⟩, z2⟩, fp (h' := h2), q⟩
noncomputable def oB (nt : Nat) (ix : List Nat) (σ : St) : St := List.replicate nt none ++ ix.map fun i => (σ[i]?).join
noncomputable def hJ (nt : Nat) (ix : List Nat) (σ σ' : St) : Prop := ∃ ts : St, ts.length = nt /\ σ' = ts ++ ix.map fun i => (σ[i]?).join
noncomputable abbrev Dr (J : It) (nt : Nat) (ix : List Nat) (σ : St) (tg : TG) (tt : TT) (te : TE) (acc : Addr) (H1 : Hp) (Q : VK) : Prop :=
  ∃ W : Nat -> Nat -> List V -> Hp -> Prop, (∃ m, W 0 m [] (upd H1 acc (.lst []))) /\ ∀ i m ys H, W i m ys H →
    (J.stop i H /\ Q (.ref acc) H) \/ (J.go i H /\ ∀ σ0 x H', hJ nt ix σ σ0 -> J.yld i H x H' -> tg x σ0 H' fun σ2 Hn => hJ nt ix σ σ2 /\ tt σ2 Hn fun b H2 => if b = true then te σ2 H2 fun y H3 =>
        H3 acc = some (.lst ys) /\ ys.length < sizeLine /\ ∃ m', m' < m /\ W (i + 1) m' (ys ++ [y]) (upd H3 acc (.lst (ys ++ [y])))
      else ∃ m', m' < m /\ W (i + 1) m' ys H2)
noncomputable def rn (wi : TI) (nt : Nat) (ix : List Nat) (tg : TG) (tt : TT) (te : TE) : TE := fun σ H Q => wi σ H fun J H1 => ∀ acc, H1 acc = none -> Dr J nt ix σ tg tt te acc H1 Q
theorem w_ {X : Cx} {use : Option (Value -> Sem Unit)} {Q2 : Value -> Shared -> Prop} {pins : List (Addr × Obj)} {s : Shared} {σ : St} {H : Hp} {Q : VK} {elt iter tg : Expr} {tn' : List Str} {tgr : TG} {ifs : List Expr} {scope osc : Scope} {pos : Pos} {wi : TI} {tt : TT} {te : TE} (ix : List Nat) (N' : List Str)
    (hxe : X.xe = fun _ _ => False) (hc : X.calm = true) (ho : X.env.scope = osc) (hN : N' = tn' ++ ix.map fun i => (X.N[i]?).getD ("" : Str)) (hnd : N'.Nodup)
    (hall : (∀ y ∈ scope.names, y.2 = .free -> osc.names.lookup y.1 = some .cell) /\ (∀ y ∈ scope.names, y.2 ≠ .cell) /\ scope.kind = .function /\ (∀ y ∈ scope.names, y.2 = .local -> scope.names.lookup y.1 = some .local) /\ (∀ y ∈ N'.drop tn'.length, scope.names.lookup y = some .free))
    (hi : PI X tg iter wi) (hg : ∀ cl C ay aC fp, PG (aW X scope cl C ay aC fp N') tg tgr)
    (ht : ∀ cl C ay aC fp, PTs (aW X scope cl C ay aC fp N') ifs tt)
    (he : ∀ cl C ay aC fp, PE (aW X scope cl C ay aC fp N') elt te)
    (hs : ∀ x, foldedSetIterable iter X.env x = pure x) (I : Inv X pins σ H s) (h : rn wi tn'.length ix tgr tt te σ H Q)
    (hfin : ∀ (acc C : Addr) (H5 : Hp) (s5 : Shared) (o : Obj), Inv X (pins ++ [(C, o)]) σ H5 s5 -> (∀ x c, X.env.cells.lookup x = some c -> c ≠ C) -> X.ay.heap.objs.size <= C -> (∀ p ∈ X.pn ++ pins, p.1 ≠ C) -> (∃ m, ∀ h' : Heap, h'.get? C = some o -> h'.Ns C m) -> Q (.ref acc) H5 -> compPost (model X.prog X.w) X.A X.xe use Q2 (.ref acc) C (.ok .next) s5) :
    wpAny (model X.prog X.w) X.A (comprehension (.ListComp elt [⟨tg, iter, ifs, 0⟩] scope pos) scope X.env (firstIterPos [⟨tg, iter, ifs, 0⟩] pos) (newList []) false (eval iter X.env) use) Q2 X.xe s := by
  obtain ⟨hfr, hcell, hkind, hnames, hcap⟩ := hall
  subst ho
  have outc : ∀ y ∈ scope.names, y.2 = .free -> X.env.kindOf y.1 = some .cell := fun y hy q => hfr y hy q
  obtain ⟨cl, hclos, hcl1, hcl2⟩ := je (env := X.env) (scope := scope) fun y hy q => I.ok.has y.1 (.inl (outc y hy q))
  refine wpAny_comprehension_free (use := use) rfl hs hclos hkind hnames (thn (hi pins s σ H _ I h) fun v s1 h1 => thn h1 fun itv s2 h2 => ?_)
  obtain ⟨it, fp, tn, J, H2, e, I2, T, st2, f2, rest⟩ := h2
  subst e
  have hf2 : H2 s2.heap.objs.size = none := I2.hok.fresh (Nat.le_refl _)
  obtain ⟨W, ⟨m0, w0⟩, turn⟩ := rest s2.heap.objs.size hf2
  -- the list
  refine wpAny_newObj_type ?_
  have I3 : Inv X pins σ (upd H2 s2.heap.objs.size (.lst [])) { s2 with heap := s2.heap.push { cls := .type "list", dict := none, data := .seq ([] : List Value).toArray } } := I2.Cf (its := []) (t' := s2.toks) .nil (Nat.zero_le _)
  have keep3 : ∀ b o, s2.heap.get? b = some o -> (s2.heap.push { cls := .type "list", dict := none, data := .seq ([] : List Value).toArray }).get? b = some o := fun b o q => Heap.get?_push_of_some _ q
  have fp3 : ∀ b ∈ fp, ∃ o, s2.heap.get? b = some o /\ ∀ v, o.data ≠ .cell v := T.obj _ _ st2
  have st3 : tn 0 (s2.heap.push { cls := .type "list", dict := none, data := .seq ([] : List Value).toArray }) := T.keep _ _ _ st2 fun b _ o q => keep3 b o q
  have fpn : ∀ b ∈ fp, (upd H2 s2.heap.objs.size (HO.lst [])) b = none := fun b hb => by
    obtain ⟨o, q, _⟩ := fp3 b hb
    rw [aA (Nat.ne_of_lt (Heap.lt_size q))]
    exact (f2 b hb).1
  revert I3 keep3 st3 fpn w0
  generalize hS3 : ({ s2 with heap := s2.heap.push { cls := .type "list", dict := none, data := .seq ([] : List Value).toArray } } : Shared) = s3
  generalize hH3 : upd H2 s2.heap.objs.size (HO.lst []) = H3
  intro w0 I3 keep3 st3 fpn
  have acc3 : H3 s2.heap.objs.size = some (.lst []) := by rw [<- hH3]; exact aH
  generalize s2.heap.objs.size = acc at *
  have e3 : s2.heap.push { cls := .type "list", dict := none, data := .seq ([] : List Value).toArray } = s3.heap := by rw [<- hS3]
  have keep3' : ∀ b o, s2.heap.get? b = some o -> s3.heap.get? b = some o := fun b o q => by rw [<- e3]; exact keep3 b o q
  have st3' : tn 0 s3.heap := by rw [<- e3]; exact st3
  refine wpAny_newFunctionEnv hcell (by intro y hy; simp at hy) (fun h₁ hns₁ hsb₁ => ?_) hkind
  have hC : s3.heap.objs.size = s3.heap.objs.size := rfl
  have keep4 : ∀ b o, s3.heap.get? b = some o -> h₁.get? b = some o := fun b o q => hsb₁.extBut b o (Nat.ne_of_lt (Heap.lt_size q)) (Heap.get?_push_of_some _ q)
  have fpC : ∀ b ∈ fp, b ≠ s3.heap.objs.size := fun b hb => by
    obtain ⟨o, q, _⟩ := fp3 b hb
    exact Nat.ne_of_lt (Heap.lt_size (keep3' b o q))
  -- the block's context
  generalize hX' : aW X scope cl s3.heap.objs.size s3 H3 fp N' = X'
  have hXp : X'.prog = X.prog := by rw [<- hX']; rfl
  have hXw : X'.w = X.w := by rw [<- hX']; rfl
  have hXK : X'.K = X.K := by rw [<- hX']; rfl
  have hXA : X'.A = X.A := by rw [<- hX']; rfl
  have hXe : X'.env = compEnvC scope cl s3.heap.objs.size X.env := by rw [<- hX']; rfl
  have hXc : X'.calm = true := by rw [<- hX']; exact hc
  have hXx : X'.xe = fun _ _ => False := by rw [<- hX']; exact hxe
  have hXf : X'.fs = frs X.stack := by rw [<- hX']; rfl
  have hXex : X'.ex = fp := by rw [<- hX']; rfl
  have hXN : X'.N = N' := by rw [<- hX']; rfl
  have hXs : X'.ay = s3 := by rw [<- hX']; rfl
  have hXH : X'.aC = H3 := by rw [<- hX']; rfl
  have hXpn : X'.pn = [] := by rw [<- hX']; rfl
  have okX : X'.Ok := by
    rw [<- hX']
    refine ⟨I3.ok.mod, hkind, I3.ok.glob, I3.ok.blt, Nat.le_refl _, fun a b c p q => I3.ok.inj a b c (hcl1 a c p) (hcl1 b c q), fun y hy => ?_, fun _ _ z => (by cases z), I3.ok.hd, I3.ok.frames, .inl rfl, fun b hb => ⟨fpC b hb, fun y c p => (f2 b hb).2.2.2.2.1 y c (hcl1 y c p)⟩,
      I3.bs, Nat.le_trans I3.ok.bsz I3.sz, fun b o p hb => ?_, fun b hb z => ?_, I3.stack, I3.lJ⟩
    · have hy' : (relabel scope X.env).names.lookup y = some .cell \/ (relabel scope X.env).names.lookup y = some .free := hy
      have free : scope.names.lookup y = some .free -> ∃ c, cl.lookup y = some c := fun q => hcl2 y (lookup_mem q)
      rcases hy' with q | q
      · rcases dM q with z | ⟨z, _⟩
        · exact absurd rfl (hcell _ (lookup_mem z))
        · exact free z
      · rcases dM q with z | ⟨_, z⟩
        · exact free z
        · cases z
    · rcases (f2 b hb).2.2.2.1 with z | z
      · exact I3.ok.oH b o p z
      · exact absurd (Nat.lt_of_lt_of_le (Heap.lt_size p) (Nat.le_trans I3.ok.bsz z)) (Nat.lt_irrefl _)
    · rcases List.mem_cons.mp (I3.fY b z) with q | q
      · exact (f2 b hb).2.1 q
      · exact (f2 b hb).2.2.1 q
  have I4 : ∀ tk, Inv X' [] (oB tn'.length ix σ) H3 { s3 with heap := h₁, toks := tk } := fun tk => by
    have hloc := I3.loc
    refine ⟨okX, by rw [hXs], I3.bare, ?_, ⟨fun y => ([] : List (Str × Value)).reverse.lookup y, by rw [hXe]; exact hns₁, fun i y v e1 e2 e3 => ?_⟩, fun y c p => ?_, ?_, fun y c p => ?_, fun p hp => ?_, ?_, ?_⟩
    · rw [hXf, hXex, hXH, hXs]; exact Un.kept keep4
    · rw [hXN, hN] at e1
      by_cases hit' : i < tn'.length
      · exfalso
        unfold oB at e2
        rw [List.getElem?_append_left (by simpa using hit'), List.getElem?_replicate, if_pos hit'] at e2
        cases e2
      · have e10 : N'[i]? = some y := by rw [hN]; exact e1
        obtain ⟨j, rfl⟩ : ∃ j, i = tn'.length + j := ⟨i - tn'.length, by omega⟩
        have e1' : (ix.map fun i => (X.N[i]?).getD ("" : Str))[j]? = some y := by
          rw [List.getElem?_append_right (by omega)] at e1
          rw [show tn'.length + j - tn'.length = j by omega] at e1
          exact e1
        have e2' : (ix.map fun i => (σ[i]?).join)[j]? = some (some v) := by
          unfold oB at e2
          rw [List.getElem?_append_right (by simp)] at e2
          simpa using e2
        rw [List.getElem?_map] at e1' e2'
        cases hj : ix[j]? with
        | none => rw [hj] at e1'; cases e1'
        | some i0 =>
          rw [hj] at e1' e2'
          have e1'' : (X.N[i0]?).getD ("" : Str) = y := by simpa using e1'
          have e2'' : (σ[i0]?).join = some v := by simpa using e2'
          have hsv : σ[i0]? = some (some v) := by
            cases q : σ[i0]? with
            | none => rw [q] at e2''; cases e2''
            | some z => rw [q] at e2''; have : z = some v := by simpa using e2''
                        rw [this]
          have hlt : i0 < X.N.length := by
            have := (List.getElem?_eq_some_iff.mp hsv).1
            rw [I3.len] at this; exact this
          have hNy : X.N[i0]? = some y := by
            rw [List.getElem?_eq_getElem hlt] at e1'' ⊢
            simpa using e1''
          have hyt : y ∈ N'.drop tn'.length := by
            refine List.mem_of_getElem? (i := j) ?_
            rw [List.getElem?_drop]; exact e10
          have hyf := hcap y hyt
          have hyc := outc (y, .free) (lookup_mem hyf) rfl
          obtain ⟨m, hn, hl⟩ := hloc
          obtain ⟨u, r, l⟩ := hl i0 y v hNy hsv (.inr (.inl hyc))
          refine ⟨u, r, ?_⟩
          rcases l with ⟨k1, _⟩ | ⟨_, c, p, z⟩
          · have hyc' : X.env.kindOf y = some .cell := hyc
            rw [k1] at hyc'; cases hyc'
          · obtain ⟨c', p'⟩ := hcl2 y (lookup_mem hyf)
            have pc : c' = c := by
              have := hcl1 y c' p'
              rw [p] at this; cases this; rfl
            subst pc
            refine .inr ⟨.inl ?_, c', by rw [hXe]; exact p', ?_⟩
            · rw [hXe]; exact cY I3.ok.kind hyf hyc
            · obtain ⟨o, q1, q2⟩ := z
              exact ⟨o, keep4 c' o q1, q2⟩
    · rw [hXe] at p
      obtain ⟨v, o, q1, q2⟩ := I3.cell y c (hcl1 y c p)
      exact ⟨v, o, keep4 c o q1, q2⟩
    · rw [hXe]; exact I3.hok.fresh (Nat.le_refl _)
    · rw [hXe] at p; exact I3.dC y c (hcl1 y c p)
    · rw [hXpn] at hp; cases hp
    · rw [hXp, hXw]; exact I3.hok.kept keep4
    · rw [hXN, hN]; simp [oB]
  -- the loop
  have stat : ∀ {H' : Hp}, (∀ b ∈ fp, H' b = none) -> ∀ b ∈ fp, kH X' [] H' b := fun hn b hb => by
    refine ⟨hn b hb, by rw [hXe]; exact fpC b hb, ?_, .inl (by rw [hXex]; exact hb), fun y c p => ?_, fun p hp => by rw [hXpn] at hp; cases hp⟩
    · rw [hXf]; intro z
      rcases List.mem_cons.mp (I3.fY b z) with q | q
      · exact (f2 b hb).2.1 q
      · exact (f2 b hb).2.2.1 q
    · rw [hXe] at p; exact (f2 b hb).2.2.2.2.1 y c (hcl1 y c p)
  have fin : ∀ {H5 : Hp} {s5 : Shared} {σ5 : St}, Inv X' [] σ5 H5 s5 -> Q (.ref acc) H5 -> compPost (model X.prog X.w) X.A X.xe use Q2 (.ref acc) s3.heap.objs.size (.ok .next) s5 := fun {H5 s5 σ5} I5 q => by
    obtain ⟨m, hn, _⟩ := I5.loc
    rw [hXe] at hn
    have hn' : s5.heap.Ns s3.heap.objs.size m := hn
    obtain ⟨oC, esC, epC, hC1, hC2, hC3⟩ := hn'
    have u5 := I5.base
    rw [hXf, hXex, hXH, hXs] at u5
    have fr : H5 s3.heap.objs.size = none := by have := I5.free; rw [hXe] at this; exact this
    have hok5 := I5.hok
    rw [hXp, hXw] at hok5
    have hos : s5.os = s3.os := by have := I5.os; rw [hXs] at this; exact this
    have IX : Inv X pins σ H5 s5 := I3.o9 (s' := s5) (ch := fp) hos u5 hok5 I5.bare (fun b hb => by
      obtain ⟨g0, g1, g2, g3, g4, g5⟩ := f2 b hb
      exact ⟨g3, g1, g4, g5⟩)
    have cC : ∀ x c, X.env.cells.lookup x = some c -> c ≠ s3.heap.objs.size := fun x c z e => by
      obtain ⟨v, q⟩ := I3.cell x c z
      exact absurd q.lt (by rw [e]; exact Nat.lt_irrefl _)
    have pC : ∀ p ∈ X.pn ++ pins, p.1 ≠ s3.heap.objs.size := fun p hp e => by
      have := Heap.lt_size (I3.pin p hp).1
      rw [e] at this
      exact Nat.lt_irrefl _ this
    refine hfin acc s3.heap.objs.size H5 s5 oC (IX.jB fun p hp => ?_) cC I3.sz pC ⟨m, fun h' z => ⟨oC, esC, epC, z, hC2, hC3⟩⟩ q
    rcases List.mem_append.mp hp with z | z
    · exact IX.pin p (List.mem_append_right _ z)
    · have e := List.mem_singleton.mp z
      subst e
      refine ⟨hC1, fr, Nat.ne_of_gt I3.lt, I3.EM (Nat.le_refl _), fun v e => ?_⟩
      have e' : oC.data = .cell v := e
      rw [hC2] at e'; cases e'
  have loop : ∀ tk, codeAny (model X.prog X.w) X.A (.compLoop (.ListComp elt [⟨tg, iter, ifs, 0⟩] scope pos) 0 (.ref it) (.ref acc) (compEnvC scope cl s3.heap.objs.size X.env))
      (compPost (model X.prog X.w) X.A X.xe use Q2 (.ref acc) s3.heap.objs.size) { s3 with heap := h₁, toks := tk } := fun tk => by
    refine sH (fun n s' => ∃ i ys σ' H', Inv X' [] σ' H' s' /\ hJ tn'.length ix σ σ' /\ tn i s'.heap /\ (∀ b ∈ fp, H' b = none) /\ W i n ys H') (fun n s5 h5 => ?_) m0
      ⟨0, [], oB tn'.length ix σ, H3, I4 tk, ⟨_, List.length_replicate, rfl⟩, T.keep _ _ _ st3' fun b _ o q => keep4 b o q, fpn, w0⟩
    obtain ⟨i, ys, σ5, H5, I5, hσ, st5, fr5, w5⟩ := h5
    rcases turn i n ys H5 w5 with ⟨stop, q⟩ | ⟨go, step⟩
    · have d := T.done X' hXp hXw hXK hXc i [] s5 σ5 H5 (fun _ _ => False) I5 (stat fr5) st5 stop
      rw [hXA] at d
      refine thn d fun r s6 ⟨hr, I6⟩ => ?_
      subst hr
      exact fin I6 q
    · have d := T.item X' hXp hXw hXK hXc i [] s5 σ5 H5 (fun _ _ => False) I5 (stat fr5) st5 go
      rw [hXA] at d
      refine thn d fun r s6 ⟨u, hr, h6⟩ => ?_
      subst hr
      refine thn h6 fun _ s7 ⟨z, H7, I7, r7, y7, st7, fr7⟩ => ?_
      have I7' := I7.pinned (stat fr7) (T.obj _ _ st7)
      have again : ∀ {H9 : Hp} {s9 : Shared} {ys9 : List V} {σ9 : St}, Inv X' ([] ++ ir fp s7.heap) σ9 H9 s9 -> hJ tn'.length ix σ σ9 -> (∃ m', m' < n /\ W (i + 1) m' ys9 H9) -> ∃ m', m' < n /\ ∃ i ys σ' H', Inv X' [] σ' H' s9 /\ hJ tn'.length ix σ σ' /\ tn i s9.heap /\ (∀ b ∈ fp, H' b = none) /\ W i m' ys H' := fun {H9 s9 ys9 σ9} I9 c9 ⟨m', hm, w9⟩ => by
        refine ⟨m', hm, i + 1, ys9, _, H9, I9.gn, c9, T.keep _ _ _ st7 fun b hb o e => (I9.pin (b, o) (List.mem_append_right _ (List.mem_append_right _ (cU hb e)))).1, fun b hb => ?_, w9⟩
        obtain ⟨o, e, _⟩ := T.obj _ _ st7 b hb
        exact (I9.pin (b, o) (List.mem_append_right _ (List.mem_append_right _ (cU hb e)))).2.1
      have ht' := ht cl s3.heap.objs.size s3 H3 fp
      have he' := he cl s3.heap.objs.size s3 H3 fp
      have hg' := hg cl s3.heap.objs.size s3 H3 fp
      rw [hX'] at ht' he' hg'
      rw [<- hXe]
      have a0 := hg' _ s7 σ5 H7 z u _ I7' r7 (step σ5 z H7 hσ y7)
      rw [hXp, hXw, hXA, hXx] at a0
      refine thn a0 fun _ s8 ⟨σ8, H8, I8, c8, q8⟩ => ?_
      have a1 := ht' _ s8 _ H8 _ I8 q8
      rw [hXp, hXw, hXA, hXx] at a1
      refine thn a1 fun b s9 ⟨H9, I9, q9⟩ => ?_
      cases b with
      | false => exact again I9 c8 q9
      | true =>
        have a2 := he' _ s9 _ H9 _ I9 q9
        rw [hXp, hXw, hXA, hXx] at a2
        refine thn a2 fun yv s10 ⟨y, H10, I10, r10, q1, q2, q3⟩ => ?_
        have a3 := dE (X := X') _ s10 _ H10 (.ref acc) [y] (.ref acc) [yv] (fun _ Hq => ∃ m', m' < n /\ W (i + 1) m' (ys ++ [y]) Hq) I10 rfl (.cons r10 .nil) ⟨acc, ys, y, rfl, rfl, q1, q2, q3⟩
        rw [hXp, hXw, hXA, hXx] at a3
        exact thn a3 fun _ s11 ⟨_, H11, I11, _, q11⟩ => again I11 c8 q11
  refine codeAny_compStart_list (loop _) ?_
  exact T.self _ 0 _ _ _ (T.keep _ _ _ st3' fun b _ o q => keep4 b o q) (loop _)
section
variable {X : Cx} {elt iter tg : Expr} {tn' : List Str} {tgr : TG} {ifs : List Expr} {scope osc : Scope} {pos : Pos} {wi : TI} {tt : TT} {te : TE}
theorem tw (ix : List Nat) (tn' N' : List Str)
    (hxe : X.xe = fun _ _ => False) (hc : X.calm = true) (ho : X.env.scope = osc) (hN : N' = tn' ++ ix.map fun i => (X.N[i]?).getD ("" : Str)) (hnd : N'.Nodup)
    (hall : (∀ y ∈ scope.names, y.2 = .free -> osc.names.lookup y.1 = some .cell) /\ (∀ y ∈ scope.names, y.2 ≠ .cell) /\ scope.kind = .function /\ (∀ y ∈ scope.names, y.2 = .local -> scope.names.lookup y.1 = some .local) /\ (∀ y ∈ N'.drop tn'.length, scope.names.lookup y = some .free))
    (hi : PI X tg iter wi) (hg : ∀ cl C ay aC fp, PG (aW X scope cl C ay aC fp N') tg tgr)
    (ht : ∀ cl C ay aC fp, PTs (aW X scope cl C ay aC fp N') ifs tt)
    (he : ∀ cl C ay aC fp, PE (aW X scope cl C ay aC fp N') elt te)
    (hs : ∀ x, foldedSetIterable iter X.env x = pure x := by intro _; rfl) :
    PE X (.ListComp elt [⟨tg, iter, ifs, 0⟩] scope pos) (rn wi tn'.length ix tgr tt te) := by
  intro pins s σ H Q I h
  have e : eval (.ListComp elt [⟨tg, iter, ifs, 0⟩] scope pos) X.env = comprehension (.ListComp elt [⟨tg, iter, ifs, 0⟩] scope pos) scope X.env (firstIterPos [⟨tg, iter, ifs, 0⟩] pos) (newList []) false (eval iter X.env) none := by
    rw [eval_ListComp]; rfl
  rw [e]
  refine w_ (use := none) (Q2 := EP X pins σ Q) ix N' hxe hc ho hN hnd hall hi hg ht he hs I h fun acc C H5 s5 o I5 cC hC pC hm q => ?_
  obtain ⟨m, hm⟩ := hm
  exact ⟨m, hm _ (I5.pin (C, o) (List.mem_append_right _ (List.mem_append_right _ (List.mem_singleton.mpr rfl)))).1, fun h' hs' => ⟨.ref acc, H5, I5.F3 cC hC pC hs', rfl, q⟩⟩
end
section
variable {κ : Type} [DecidableEq κ]
noncomputable def qj (kvs : List (κ × V)) (k : κ) : Option V := (kvs.find? fun kv => decide (kv.1 = k)).map (·.2)
theorem rV {p : κ × V} {r : List (κ × V)} {k : κ} (e : p.1 = k) : qj (p :: r) k = some p.2 := by simp [qj, List.find?_cons, e]
theorem sL {p : κ × V} {r : List (κ × V)} {k : κ} (e : ¬ p.1 = k) : qj (p :: r) k = qj r k := by simp [qj, List.find?_cons, e]
end
section
variable {X : Cx} {pins : List (Addr × Obj)} {σ : St} {H : Hp} {s : Shared} {a : Addr} {y v : V} {u r : Value} {o : Option V} {A : Around} {E : Value -> Shared -> Prop}
theorem Inv.big (I : Inv X pins σ H s) : sysModules < s.heap.objs.size := by
  have h : mainGlobals < s.heap.objs.size := (I.mod.glob.keeps I.bk).lt
  exact Nat.lt_trans (by decide) h
theorem CC {h' : Heap} {t' : Nat} {ob : HO} (I : Inv X pins σ H s) (mu : Mut (H a)) (hs : Heap.SameBut a s.heap h') (he : ∃ q, h'.get? a = some q) (new : bL X.prog X.w (upd H a ob) h' a ob) :
    Inv X pins σ (upd H a ob) { s with heap := h', toks := t' } :=
  I.write (x := a) (e := a) mu (.inl rfl) (fun b q hb z => (hs.2 b hb).trans z) he new
end
theorem zV {P : Program} {w : World} {H : Hp} (h : Heap) (hb : sysModules < h.objs.size) : bL P w H (h.push { cls := .type "dict", data := .dict #[] }) h.objs.size (.dK []) :=
  ⟨Nat.zero_le _, beq_eq_false_iff_ne.mpr (Ne.symm (Nat.ne_of_lt hb)), [], .nil, Heap.DictOf.new h⟩
noncomputable def E6 : TE := fun _ H Q => ∀ p, H p = none -> Q (.ref p) (upd H p (.dK []))
section
variable {X : Cx} {pos : Pos}
theorem Al : PE X (.Dict [] [] pos) E6 := fun pins s σ H Q I h =>
  wpAny_Dict_empty ⟨.ref s.heap.objs.size, _, I.laid (a := s.heap.objs.size) (o := .dK []) (t' := s.toks) (fun _ _ q => Heap.get?_push_of_some _ q) (Nat.le_refl _) (zV s.heap I.big), rfl, h _ (I.hok.fresh (Nat.le_refl _))⟩
end
end L2
namespace L2.FE
open PySem PySem.Spec PyProof.Rows
inductive D where
  | non | bl (b : Bool) | int (i : Int) | str (x : Str) | tup (ds : List D) | frl (ds : List D) | ref (n : Nat) | fn (x : Str) | edic | scr (ds : List D) | exc (c : Str) (fs : List (Str × Int))
inductive O where
  | lst (ds : List D) | set (ns : List Int) | dic (kvs : List (Key × D)) | dit (kvs : List (List Key × D))
noncomputable abbrev Hh := List O
noncomputable abbrev En := List (Option D)
structure Xc where
  cls : Str
  fs : List (Str × Int)
inductive R (β : Type) where
  | ok (b : β) (h : Hh)
  | err (x : Xc) (h : Hh)
  | bad
noncomputable def R.bind {β γ : Type} (r : R β) (f : β -> Hh -> R γ) : R γ := match r with
  | .ok b h => f b h
  | .err x h => .err x h
  | .bad => .bad
inductive Fl where
  | nx (e : En) | bk (e : En) | ct (e : En) | rt (d : D)
noncomputable abbrev ME := En -> Hh -> R D
noncomputable abbrev MT := En -> Hh -> R Bool
noncomputable abbrev MA := En -> Hh -> R (List D)
noncomputable abbrev MS := En -> Hh -> R Fl
noncomputable def Fro (K : PySem.W.Frag) (H : Hp) (p : Addr) (vs : List V) : Prop :=
  (∃ o, H p = some (.frz o (.lst vs))) \/ ∃ (o : Obj) (its : Array Value) (n : Nat), K.lookup p = some o /\ o.cls = .type "list" /\ o.dict = none /\ o.data = .seq its n /\ its.size <= sizeLine /\ Vals vs its.toList
theorem Fro.sq {K : PySem.W.Frag} {H : Hp} {p : Addr} {vs : List V} (h : Fro K H p vs) : SqL K H p vs := by
  rcases h with ⟨o, h⟩ | h
  · exact .inl (.inr ⟨o, h⟩)
  · exact .inr h
noncomputable def Fr1 (H : Hp) (p : Addr) (vs : List V) : Prop := ∃ o, H p = some (.frz o (.lst vs))
theorem Fr1.fro {K : PySem.W.Frag} {H : Hp} {p : Addr} {vs : List V} (h : Fr1 H p vs) : Fro K H p vs := .inl h
theorem Fr1.sq {K : PySem.W.Frag} {H : Hp} {p : Addr} {vs : List V} (h : Fr1 H p vs) : SqL K H p vs := let ⟨o, h⟩ := h; .inl (.inr ⟨o, h⟩)
theorem Fr1.rd {H : Hp} {p : Addr} {vs : List V} (h : Fr1 H p vs) : Rd H p (.lst vs) := .inr h
noncomputable def AtO (p : Addr) (o : Obj) : HO := .frz o (.ext fun h => h.get? p = some o)
noncomputable def XFs (H : Hp) (dc : Option Addr) (fs : List (Str × Int)) : Prop := (dc = none /\ fs = []) \/ ∃ dx od, dc = some dx /\ H dx = some (.frz od (.xd (fs.map fun x => (x.1, V.int x.2))))
mutual
inductive aG (K : PySem.W.Frag) (g : Str -> Option Addr) (α : List Addr) (H : Hp) : D -> V -> Prop where
  | non : aG K g α H .non .non
  | bl (b) : aG K g α H (.bl b) (.bl b)
  | int (i) : aG K g α H (.int i) (.int i)
  | str (x) : aG K g α H (.str x) (.str x)
  | ref {n p} : α[n]? = some p -> aG K g α H (.ref n) (.ref p)
  | tup {ds p vs} : H p = some (.tup vs) -> aq K g α H ds vs -> aG K g α H (.tup ds) (.ref p)
  | frl {ds p vs} : Fr1 H p vs -> aq K g α H ds vs -> aG K g α H (.frl ds) (.ref p)
  | scr {ds p vs} : Fro K H p vs -> aq K g α H ds vs -> aG K g α H (.scr ds) (.ref p)
  | fn {x f} : g x = some f -> aG K g α H (.fn x) (.ref f)
  | edic {p o} : H p = some (.frz o (.dK [])) -> aG K g α H .edic (.ref p)
  | exc {c C p o fs} : g c = some C -> H p = some (AtO p o) -> o.cls = .ref C -> (∃ vs, o.data = .fields vs) -> XFs H o.dict fs -> aG K g α H (.exc c fs) (.ref p)
inductive aq (K : PySem.W.Frag) (g : Str -> Option Addr) (α : List Addr) (H : Hp) : List D -> List V -> Prop where
  | nil : aq K g α H [] []
  | cons {d v ds vs} : aG K g α H d v -> aq K g α H ds vs -> aq K g α H (d :: ds) (v :: vs)
end
structure Ex0 (K : PySem.W.Frag) (α : List Addr) (H : Hp) (α' : List Addr) (H' : Hp) : Prop where
  pre : α <+: α'
  tup : ∀ (p : Addr) (xs : List V), H p = some (.tup xs) -> H' p = some (.tup xs)
  frz : ∀ (p : Addr) (o : Obj) (u : HO), H p = some (.frz o u) -> H' p = some (.frz o u)
theorem Ex0.fro {K : PySem.W.Frag} {α α' : List Addr} {H H' : Hp} (e : Ex0 K α H α' H') (p : Addr) (xs : List V) (h : Fro K H p xs) : Fro K H' p xs := by
  rcases h with ⟨o, h⟩ | h
  · exact .inl ⟨o, e.frz _ _ _ h⟩
  · exact .inr h
theorem Ex0.fr1 {K : PySem.W.Frag} {α α' : List Addr} {H H' : Hp} (e : Ex0 K α H α' H') (p : Addr) (xs : List V) (h : Fr1 H p xs) : Fr1 H' p xs := let ⟨o, h⟩ := h; ⟨o, e.frz _ _ _ h⟩
structure Ext (K : PySem.W.Frag) (α : List Addr) (H : Hp) (α' : List Addr) (H' : Hp) : Prop extends Ex0 K α H α' H' where
  keep : ∀ p o, H p = some o -> p ∉ α -> H' p = some o
  new : ∀ p, p ∈ α' -> p ∉ α -> H p = none
section
variable {K : PySem.W.Frag} {g : Str -> Option Addr} {α α' α'' : List Addr} {H H' H'' : Hp}
theorem Ex0.refl : Ex0 K α H α H := ⟨List.prefix_refl _, fun _ _ h => h, fun _ _ _ h => h⟩
theorem Ex0.trans (a : Ex0 K α H α' H') (b : Ex0 K α' H' α'' H'') : Ex0 K α H α'' H'' := ⟨a.pre.trans b.pre, fun p xs h => b.tup p xs (a.tup p xs h), fun p o u h => b.frz p o u (a.frz p o u h)⟩
theorem Ext.refl : Ext K α H α H := ⟨.refl, fun _ _ h _ => h, fun _ h n => absurd h n⟩
theorem Ext.trans (a : Ext K α H α' H') (b : Ext K α' H' α'' H'') : Ext K α H α'' H'' := ⟨a.toEx0.trans b.toEx0, fun p o h n => b.keep p o (a.keep p o h n) (fun z => by rw [a.new p z n] at h; cases h), fun p z n => by
    by_cases q : p ∈ α'
    · exact a.new p q n
    · have := b.new p z q
      cases e : H p with
      | none => rfl
      | some o => rw [a.keep p o e n] at this; cases this⟩
theorem Ex0.get (e : Ex0 K α H α' H') {n : Nat} {p : Addr} (h : α[n]? = some p) : α'[n]? = some p := by
  obtain ⟨t, rfl⟩ := e.pre
  have hl : n < α.length := by
    by_cases hl : n < α.length
    · exact hl
    · rw [List.getElem?_eq_none (by omega)] at h; cases h
  rw [List.getElem?_append_left hl]; exact h
mutual
theorem aG.ex0 (e : Ex0 K α H α' H') : ∀ {d : D} {v : V}, aG K g α H d v -> aG K g α' H' d v
  | _, _, .non => .non
  | _, _, .bl b => .bl b
  | _, _, .int i => .int i
  | _, _, .str x => .str x
  | _, _, .ref h => .ref (e.get h)
  | _, _, .tup h r => .tup (e.tup _ _ h) (aq.ex0 e r)
  | _, _, .frl h r => .frl (e.fr1 _ _ h) (aq.ex0 e r)
  | _, _, .scr h r => .scr (e.fro _ _ h) (aq.ex0 e r)
  | _, _, .fn h => .fn h
  | _, _, .edic h => .edic (e.frz _ _ _ h)
  | _, _, .exc hg h hc hd hf => .exc hg (e.frz _ _ _ h) hc hd (hf.elim .inl fun ⟨dx, od, a, b⟩ => .inr ⟨dx, od, a, e.frz _ _ _ b⟩)
theorem aq.ex0 (e : Ex0 K α H α' H') : ∀ {ds : List D} {vs : List V}, aq K g α H ds vs -> aq K g α' H' ds vs
  | _, _, .nil => .nil
  | _, _, .cons r t => .cons (aG.ex0 e r) (aq.ex0 e t)
end
theorem aG.ext (e : Ext K α H α' H') {d : D} {v : V} (r : aG K g α H d v) : aG K g α' H' d v := r.ex0 e.toEx0
theorem aq.ext (e : Ext K α H α' H') {d : List D} {v : List V} (r : aq K g α H d v) : aq K g α' H' d v := r.ex0 e.toEx0
theorem aq.length : ∀ {ds : List D} {vs : List V}, aq K g α H ds vs -> ds.length = vs.length
  | _, _, .nil => rfl
  | _, _, .cons _ t => by simp [aq.length t]
theorem aq.append : ∀ {ds es : List D} {vs us : List V}, aq K g α H ds vs -> aq K g α H es us -> aq K g α H (ds ++ es) (vs ++ us)
  | _, _, _, _, .nil, s => s
  | _, _, _, _, .cons r t, s => .cons r (aq.append t s)
theorem aq.get : ∀ {ds : List D} {vs : List V} {i : Nat} {d : D}, aq K g α H ds vs -> ds[i]? = some d -> ∃ v, vs[i]? = some v /\ aG K g α H d v
  | _, _, _, _, .nil, e => by simp at e
  | _, _, 0, _, .cons r _, e => by simp at e; subst e; exact ⟨_, rfl, r⟩
  | _, _, i + 1, d, .cons _ t, e => by
    obtain ⟨u, h1, h2⟩ := aq.get (i := i) (d := d) t (by simpa using e)
    exact ⟨u, by simpa using h1, h2⟩
theorem aq.set {d : D} {v : V} (r : aG K g α H d v) : ∀ {ds : List D} {vs : List V} (i : Nat), aq K g α H ds vs -> aq K g α H (ds.set i d) (vs.set i v)
  | _, _, _, .nil => .nil
  | _, _, 0, .cons _ t => .cons r t
  | _, _, i + 1, .cons q t => .cons q (aq.set r i t)
theorem aq.take : ∀ {ds : List D} {vs : List V} (n : Nat), aq K g α H ds vs -> aq K g α H (ds.take n) (vs.take n)
  | _, _, 0, _ => .nil
  | _, _, _ + 1, .nil => .nil
  | _, _, n + 1, .cons r t => .cons r (aq.take n t)
theorem aq.drop : ∀ {ds : List D} {vs : List V} (n : Nat), aq K g α H ds vs -> aq K g α H (ds.drop n) (vs.drop n)
  | _, _, 0, r => r
  | _, _, _ + 1, .nil => .nil
  | _, _, n + 1, .cons _ t => aq.drop n t
theorem aq.rev : ∀ {ds : List D} {vs : List V}, aq K g α H ds vs -> aq K g α H ds.reverse vs.reverse
  | _, _, .nil => .nil
  | _, _, .cons r t => by simp only [List.reverse_cons]; exact (aq.rev t).append (.cons r .nil)
theorem aq.erase : ∀ {ds : List D} {vs : List V} (i : Nat), aq K g α H ds vs -> aq K g α H (ds.eraseIdx i) (vs.eraseIdx i)
  | _, _, _, .nil => .nil
  | _, _, 0, .cons _ t => t
  | _, _, i + 1, .cons q t => .cons q (aq.erase i t)
theorem aq.ints (ns : List Int) : aq K g α H (ns.map D.int) (ns.map V.int) := by
  induction ns with
  | nil => exact .nil
  | cons n r ih => exact .cons (.int n) ih
theorem aq.uI : ∀ {ns : List Int} {vs : List V}, aq K g α H (ns.map D.int) vs -> vs = ns.map V.int
  | [], _, .nil => rfl
  | n :: r, _, .cons (.int _) t => by rw [aq.uI t]; rfl
theorem aq.flat {ds : List D} {vs : List V} (r : aq K g α H ds vs) : ∀ k, aq K g α H (List.replicate k ds).flatten (List.replicate k vs).flatten
  | 0 => .nil
  | k + 1 => by rw [List.replicate_succ, List.replicate_succ, List.flatten_cons, List.flatten_cons]; exact r.append (aq.flat r k)
end
noncomputable def OAt (K : PySem.W.Frag) (g : Str -> Option Addr) (α : List Addr) (H : Hp) (p : Addr) : O -> Prop
  | .lst ds => ∃ vs, H p = some (.lst vs) /\ aq K g α H ds vs
  | .set ns => H p = some (.set (fun k => ns.any (· == k)) ns.length)
  | .dic kvs => ∃ kws, H p = some (.dK kws) /\ Paired (fun (a : Key × D) (b : Key × V) => a.1 = b.1 /\ aG K g α H a.2 b.2) kvs kws
  | .dit kvs => ∃ kws, H p = some (.dT kws) /\ Paired (fun (a : List Key × D) (b : List Key × V) => a.1 = b.1 /\ aG K g α H a.2 b.2) kvs kws
structure aN (K : PySem.W.Frag) (g : Str -> Option Addr) (α : List Addr) (H : Hp) (h : Hh) : Prop where
  len : α.length = h.length
  inj : ∀ (n m : Nat) (p : Addr), α[n]? = some p -> α[m]? = some p -> n = m
  here : ∀ (n : Nat) (p : Addr) (o : O), α[n]? = some p -> h[n]? = some o -> OAt K g α H p o
section
variable {K : PySem.W.Frag} {g : Str -> Option Addr} {α α' : List Addr} {H H' : Hp} {h : Hh}
theorem Paired.Fu {kvs : List (Key × D)} {kws : List (Key × V)} (e : Ex0 K α H α' H') (r : Paired (fun (a : Key × D) (b : Key × V) => a.1 = b.1 /\ aG K g α H a.2 b.2) kvs kws) :
    Paired (fun (a : Key × D) (b : Key × V) => a.1 = b.1 /\ aG K g α' H' a.2 b.2) kvs kws := L2.Paired.Bj r fun _ _ q => ⟨q.1, q.2.ex0 e⟩
theorem Paired.GS {kvs : List (List Key × D)} {kws : List (List Key × V)} (e : Ex0 K α H α' H') (r : Paired (fun (a : List Key × D) (b : List Key × V) => a.1 = b.1 /\ aG K g α H a.2 b.2) kvs kws) :
    Paired (fun (a : List Key × D) (b : List Key × V) => a.1 = b.1 /\ aG K g α' H' a.2 b.2) kvs kws := L2.Paired.Bj r fun _ _ q => ⟨q.1, q.2.ex0 e⟩
theorem OAt.isS {p : Addr} {o : O} (h : OAt K g α H p o) : ∃ u, H p = some u /\ (∀ ys, u ≠ .tup ys) /\ ∀ w ys, u ≠ .frz w ys := by
  cases o with
  | lst ds => obtain ⟨vs, e, _⟩ := h; exact ⟨_, e, fun _ z => (nomatch z), fun _ _ z => nomatch z⟩
  | set n => exact ⟨_, h, fun _ z => (nomatch z), fun _ _ z => nomatch z⟩
  | dic kvs => obtain ⟨vs, e, _⟩ := h; exact ⟨_, e, fun _ z => (nomatch z), fun _ _ z => nomatch z⟩
  | dit kvs => obtain ⟨vs, e, _⟩ := h; exact ⟨_, e, fun _ z => (nomatch z), fun _ _ z => nomatch z⟩
theorem aN.mem (r : aN K g α H h) {p : Addr} (hp : p ∈ α) : ∃ u, H p = some u /\ (∀ ys, u ≠ .tup ys) /\ ∀ w ys, u ≠ .frz w ys := by
  obtain ⟨n, hn, e⟩ := List.getElem_of_mem hp
  have hn' : n < h.length := by rw [<- r.len]; exact hn
  exact (r.here n p _ (by rw [List.getElem?_eq_getElem hn, e]) (List.getElem?_eq_getElem hn')).isS
theorem OAt.ex0 {p : Addr} {o : O} (e : Ex0 K α H α' H') (h : OAt K g α H p o) (k : ∀ u, H p = some u -> H' p = some u) : OAt K g α' H' p o := by
  cases o with
  | lst ds => obtain ⟨vs, a, r⟩ := h; exact ⟨vs, k _ a, r.ex0 e⟩
  | set n => exact k _ h
  | dic kvs => obtain ⟨kws, a, r⟩ := h; exact ⟨kws, k _ a, Paired.Fu e r⟩
  | dit kvs => obtain ⟨kws, a, r⟩ := h; exact ⟨kws, k _ a, Paired.GS e r⟩
noncomputable def z0 (H : Hp) (p : Addr) : Prop := H p = none \/ ∃ u, H p = some u /\ (∀ ys, u ≠ .tup ys) /\ ∀ w ys, u ≠ .frz w ys
theorem Ex0.upd {p : Addr} {o : HO} (n : z0 H p) : Ex0 K α H α (upd H p o) := by
  have ne : ∀ q u, H q = some u -> ((∃ ys, u = .tup ys) \/ ∃ w ys, u = .frz w ys) -> q ≠ p := by
    rintro q u e z rfl
    rcases n with n | ⟨u', e', n1, n2⟩
    · rw [e] at n; cases n
    · rw [e] at e'; cases e'
      rcases z with ⟨ys, z⟩ | ⟨w, ys, z⟩
      · exact n1 _ z
      · exact n2 _ _ z
  refine ⟨List.prefix_refl _, fun q xs h => ?_, fun q o u h => ?_⟩
  · rw [aA (ne q _ h (.inl ⟨_, rfl⟩))]; exact h
  · rw [aA (ne q _ h (.inr ⟨_, _, rfl⟩))]; exact h
theorem Ex0.more (e : Ex0 K α H α H') (l : List Addr) : Ex0 K α H (α ++ l) H' := ⟨List.prefix_append _ _, e.tup, e.frz⟩
theorem Ext.fresh {p : Addr} {o : HO} (n : H p = none) : Ext K α H α (upd H p o) := ⟨Ex0.upd (.inl n), fun q u h _ => by rw [aA (aQ h n)]; exact h, fun _ z m => absurd z m⟩
theorem Ext.push {p : Addr} {o : HO} (n : H p = none) : Ext K α H (α ++ [p]) (upd H p o) := ⟨(Ex0.upd (.inl n)).more _, fun q u h _ => by rw [aA (aQ h n)]; exact h, fun q z m => by
  rcases List.mem_append.mp z with z | z
  · exact absurd z m
  · rw [List.mem_singleton.mp z]; exact n⟩
theorem aN.off {p : Addr} {o : HO} (r : aN K g α H h) (n : z0 H p) (m : p ∉ α) : aN K g α (upd H p o) h := by
  refine ⟨r.len, r.inj, fun k q u a b => (r.here k q u a b).ex0 (Ex0.upd n) fun w e => ?_⟩
  rw [aA]; exact e
  rintro rfl; exact m (List.mem_of_getElem? a)
theorem aN.free (r : aN K g α H h) {p : Addr} (n : H p = none) : p ∉ α := fun z => by
  obtain ⟨u, e, _⟩ := r.mem z
  rw [n] at e; cases e
theorem aN.grow {p : Addr} {o : HO} (r : aN K g α H h) (n : H p = none) : aN K g α (upd H p o) h := r.off (.inl n) (r.free n)
theorem aN.adopt {p : Addr} {u : O} (r : aN K g α H h) (n : p ∉ α) (a : OAt K g (α ++ [p]) H p u) : aN K g (α ++ [p]) H (h ++ [u]) := by
  have old : ∀ {m : Nat} {q : Addr}, (α ++ [p])[m]? = some q -> (α[m]? = some q) \/ (m = α.length /\ q = p) := by
    intro m q h1
    by_cases hm : m < α.length
    · rw [List.getElem?_append_left hm] at h1
      exact .inl h1
    · have hl : m < (α ++ [p]).length := by
        by_cases hl : m < (α ++ [p]).length
        · exact hl
        · rw [List.getElem?_eq_none (by omega)] at h1; cases h1
      have e : m = α.length := by simp at hl; omega
      subst e
      rw [List.getElem?_append_right (Nat.le_refl _)] at h1
      simp at h1
      exact .inr ⟨rfl, h1.symm⟩
  refine ⟨by simp [r.len], fun m k q h1 h2 => ?_, fun m q w h1 h2 => ?_⟩
  · rcases old h1 with a1 | ⟨e1, e2⟩
    · rcases old h2 with a2 | ⟨e3, e4⟩
      · exact r.inj m k q a1 a2
      · rw [e4] at a1; exact absurd (List.mem_of_getElem? a1) n
    · rcases old h2 with a2 | ⟨e3, e4⟩
      · rw [e2] at a2; exact absurd (List.mem_of_getElem? a2) n
      · rw [e1, e3]
  · rcases old h1 with a1 | ⟨e1, e2⟩
    · have hm : m < α.length := by
        by_cases hl : m < α.length
        · exact hl
        · rw [List.getElem?_eq_none (by omega)] at a1; cases a1
      rw [List.getElem?_append_left (by rw [<- r.len]; exact hm)] at h2
      exact (r.here m q w a1 h2).ex0 (Ex0.refl.more _) fun _ z => z
    · subst e1 e2
      rw [r.len, List.getElem?_append_right (Nat.le_refl _)] at h2
      simp at h2
      subst h2
      exact a
theorem aN.push {p : Addr} {o : HO} {u : O} (r : aN K g α H h) (n : H p = none) (a : OAt K g (α ++ [p]) (upd H p o) p u) : aN K g (α ++ [p]) (upd H p o) (h ++ [u]) := (r.grow n).adopt (r.free n) a
theorem Ext.write {p : Addr} {o : HO} {k : Nat} (r : aN K g α H h) (hk : α[k]? = some p) : Ext K α H α (upd H p o) :=
  ⟨Ex0.upd (.inr (r.mem (List.mem_of_getElem? hk))), fun q u h m => by
    rw [aA]; exact h
    rintro rfl; exact m (List.mem_of_getElem? hk), fun _ z m => absurd z m⟩
theorem aN.write {p : Addr} {o : HO} {u' : O} {k : Nat} (r : aN K g α H h) (hk : α[k]? = some p) (a : OAt K g α (upd H p o) p u') : aN K g α (upd H p o) (h.set k u') := by
  have x : Ext K α H α (upd H p o) := Ext.write r hk
  refine ⟨by simp [r.len], r.inj, fun m q w h1 h2 => ?_⟩
  rw [List.getElem?_set] at h2
  by_cases hm : k = m
  · subst hm
    rw [if_pos rfl] at h2
    split at h2
    · cases h2; rw [h1] at hk; cases hk; exact a
    · cases h2
  · rw [if_neg hm] at h2
    refine (r.here m q w h1 h2).ex0 x.toEx0 fun z e => ?_
    rw [aA]; exact e
    rintro rfl; exact hm (r.inj _ _ _ hk h1)
end
noncomputable abbrev GG := Str -> Option Addr
noncomputable abbrev EE := List Addr -> Hp -> Xc -> Prop
structure iM (K : PySem.W.Frag) (g : GG) (α : List Addr) (H : Hp) (env : En) (σ : St) : Prop where
  len : env.length = σ.length
  vars : ∀ (i : Nat) (d : D), env[i]? = some (some d) -> ∃ v, σ[i]? = some (some v) /\ aG K g α H d v
structure cW (K : PySem.W.Frag) (g : GG) (α : List Addr) (H : Hp) (env : En) (σ : St) (h : Hh) : Prop where
  heap : aN K g α H h
  vs : iM K g α H env σ
noncomputable def WQ (K : PySem.W.Frag) (g : GG) (ε : EE) (α : List Addr) (H : Hp) {β : Type} (r : R β) (k : β -> Hh -> Prop) : Prop := match r with
  | .ok b h => k b h
  | .err x h => ∀ α' H', Ext K α H α' H' -> aN K g α' H' h -> ε α' H' x
  | .bad => False
section
variable {K : PySem.W.Frag} {g : GG} {ε : EE} {α α' : List Addr} {H H' : Hp} {β γ : Type}
theorem WQ.bind {r : R β} {f : β -> Hh -> R γ} {k : γ -> Hh -> Prop} (w : WQ K g ε α H (r.bind f) k) : WQ K g ε α H r fun b h => WQ K g ε α H (f b h) k := by
  cases r <;> exact w
theorem WQ.ext {r : R β} {k : β -> Hh -> Prop} (e : Ext K α H α' H') (w : WQ K g ε α H r k) : WQ K g ε α' H' r k := by
  cases r with
  | ok b h => exact w
  | err x h => exact fun a b c d => w a b (e.trans c) d
  | bad => exact w
theorem WQ.mono {r : R β} {k k' : β -> Hh -> Prop} (w : WQ K g ε α H r k) (m : ∀ b h, r = .ok b h -> k b h -> k' b h) : WQ K g ε α H r k' := by
  cases r with
  | ok b h => exact m b h rfl w
  | err x h => exact w
  | bad => exact w
theorem iM.ext {env : En} {σ : St} (v : iM K g α H env σ) (e : Ext K α H α' H') : iM K g α' H' env σ :=
  ⟨v.len, fun i d h => let ⟨x, a, b⟩ := v.vars i d h; ⟨x, a, b.ext e⟩⟩
theorem cW.ext {env : En} {σ : St} {h h' : Hh} (v : cW K g α H env σ h) (e : Ext K α H α' H') (r : aN K g α' H' h') : cW K g α' H' env σ h' := ⟨r, v.vs.ext e⟩
theorem iM.set {env : En} {σ : St} {i : Nat} {d : D} {x : V} (v : iM K g α H env σ) (r : aG K g α H d x) : iM K g α H (env.set i (some d)) (σ.set i (some x)) := by
  refine ⟨by simp [v.len], fun j e h => ?_⟩
  rw [List.getElem?_set] at h ⊢
  by_cases hj : i = j
  · subst hj
    rw [if_pos rfl] at h ⊢
    have hl := v.len
    split at h
    · rw [if_pos (by omega)]
      cases h
      exact ⟨x, rfl, r⟩
    · cases h
  · rw [if_neg hj] at h ⊢
    exact v.vars j e h
end
noncomputable def aE (K : PySem.W.Frag) (g : GG) (α : List Addr) (H : Hp) (Q : VK) : D -> Hh -> Prop := fun d h => ∀ v H' α', Ext K α H α' H' -> aN K g α' H' h -> aG K g α' H' d v -> Q v H'
noncomputable def kY (K : PySem.W.Frag) (g : GG) (α : List Addr) (H : Hp) (Q : Bool -> Hp -> Prop) : Bool -> Hh -> Prop := fun b h => ∀ H' α', Ext K α H α' H' -> aN K g α' H' h -> Q b H'
noncomputable def GV (K : PySem.W.Frag) (g : GG) (α : List Addr) (H : Hp) (Q : List V -> Hp -> Prop) : List D -> Hh -> Prop := fun ds h => ∀ vs H' α', Ext K α H α' H' -> aN K g α' H' h -> aq K g α' H' ds vs -> Q vs H'
noncomputable def cN (K : PySem.W.Frag) (g : GG) (α : List Addr) (H : Hp) (E : Ends) : Fl -> Hh -> Prop := fun fl h => ∀ H' α', Ext K α H α' H' -> aN K g α' H' h -> match fl with
  | .nx e => ∀ σ, iM K g α' H' e σ -> E.nx σ H'
  | .bk e => ∀ σ, iM K g α' H' e σ -> E.bk σ H'
  | .ct e => ∀ σ, iM K g α' H' e σ -> E.ct σ H'
  | .rt d => ∀ v, aG K g α' H' d v -> E.rt v H'
noncomputable def tM (K : PySem.W.Frag) (g : GG) (ε : EE) (m : ME) : TE := fun σ H Q => ∃ α env h, cW K g α H env σ h /\ WQ K g ε α H (m env h) (aE K g α H Q)
noncomputable def tMT (K : PySem.W.Frag) (g : GG) (ε : EE) (m : MT) : TT := fun σ H Q => ∃ α env h, cW K g α H env σ h /\ WQ K g ε α H (m env h) (kY K g α H Q)
noncomputable def tMA (K : PySem.W.Frag) (g : GG) (ε : EE) (m : MA) : TA := fun σ H Q => ∃ α env h, cW K g α H env σ h /\ WQ K g ε α H (m env h) (GV K g α H Q)
noncomputable def tMS (K : PySem.W.Frag) (g : GG) (ε : EE) (m : MS) : TS := fun E σ H => ∃ α env h, cW K g α H env σ h /\ WQ K g ε α H (m env h) (cN K g α H E)
section
variable {K : PySem.W.Frag} {g : GG} {ε : EE} {α α' : List Addr} {H H' : Hp} {env : En} {σ : St} {h : Hh}
theorem aE.ext {Q : VK} {d : D} (e : Ext K α H α' H') (p : aE K g α H Q d h) : aE K g α' H' Q d h := fun v H2 α2 e2 r rd => p v H2 α2 (e.trans e2) r rd
theorem kY.ext {Q : Bool -> Hp -> Prop} {d : Bool} (e : Ext K α H α' H') (p : kY K g α H Q d h) : kY K g α' H' Q d h := fun H2 α2 e2 r => p H2 α2 (e.trans e2) r
theorem cN.ext {E : Ends} {d : Fl} (e : Ext K α H α' H') (p : cN K g α H E d h) : cN K g α' H' E d h := fun H2 α2 e2 r => p H2 α2 (e.trans e2) r
theorem WQ.post {Q : VK} {r : R D} (e : Ext K α H α' H') (w : WQ K g ε α H r (aE K g α H Q)) : WQ K g ε α' H' r (aE K g α' H' Q) := (w.ext e).mono fun _ _ _ p => p.ext e
theorem WQ.Gv {Q : Bool -> Hp -> Prop} {r : R Bool} (e : Ext K α H α' H') (w : WQ K g ε α H r (kY K g α H Q)) : WQ K g ε α' H' r (kY K g α' H' Q) := (w.ext e).mono fun _ _ _ p => p.ext e
theorem WQ.uP {E : Ends} {r : R Fl} (e : Ext K α H α' H') (w : WQ K g ε α H r (cN K g α H E)) : WQ K g ε α' H' r (cN K g α' H' E) := (w.ext e).mono fun _ _ _ p => p.ext e
theorem tM.use {m : ME} {Q : VK} {k : D -> Hh -> Prop} (s : cW K g α H env σ h) (w : WQ K g ε α H (m env h) k)
    (q : ∀ d h' v H' α', Ext K α H α' H' -> cW K g α' H' env σ h' -> aG K g α' H' d v -> k d h' -> Q v H') : tM K g ε m σ H Q :=
  ⟨α, env, h, s, w.mono fun d h' _ kk v H' α' e r rd => q d h' v H' α' e (s.ext e r) rd kk⟩
theorem tMT.use {m : MT} {Q : Bool -> Hp -> Prop} {k : Bool -> Hh -> Prop} (s : cW K g α H env σ h) (w : WQ K g ε α H (m env h) k)
    (q : ∀ d h' H' α', Ext K α H α' H' -> cW K g α' H' env σ h' -> k d h' -> Q d H') : tMT K g ε m σ H Q :=
  ⟨α, env, h, s, w.mono fun d h' _ kk H' α' e r => q d h' H' α' e (s.ext e r) kk⟩
theorem tMA.use {m : MA} {Q : List V -> Hp -> Prop} {k : List D -> Hh -> Prop} (s : cW K g α H env σ h) (w : WQ K g ε α H (m env h) k)
    (q : ∀ d h' v H' α', Ext K α H α' H' -> cW K g α' H' env σ h' -> aq K g α' H' d v -> k d h' -> Q v H') : tMA K g ε m σ H Q :=
  ⟨α, env, h, s, w.mono fun d h' _ kk v H' α' e r rd => q d h' v H' α' e (s.ext e r) rd kk⟩
theorem aE.now {Q : VK} {d : D} {v : V} (p : aE K g α H Q d h) (r : aN K g α H h) (rd : aG K g α H d v) : Q v H := p v H α Ext.refl r rd
end
theorem PE.imp {X : Cx} {e : Expr} {t t' : TE} (h : PE X e t) (i : ∀ σ H Q, t' σ H Q -> t σ H Q) : PE X e t' := fun pins s σ H Q I w => h pins s σ H Q I (i σ H Q w)
theorem PT.imp {X : Cx} {e : Expr} {t t' : TT} (h : PT X e t) (i : ∀ σ H Q, t' σ H Q -> t σ H Q) : PT X e t' := fun pins s σ H Q I w => h pins s σ H Q I (i σ H Q w)
theorem PW.imp {X : Cx} {e : Expr} {t t' : TT} (h : PW X e t) (i : ∀ σ H Q, t' σ H Q -> t σ H Q) : PW X e t' := fun wh pins s σ H Q I w => h wh pins s σ H Q I (i σ H Q w)
theorem PA.imp {X : Cx} {e : List Expr} {t t' : TA} (h : PA X e t) (i : ∀ σ H Q, t' σ H Q -> t σ H Q) : PA X e t' := fun p pins s σ H Q I w => h p pins s σ H Q I (i σ H Q w)
theorem PS.imp {X : Cx} {e : Stmt} {t t' : TS} (h : PS X e t) (i : ∀ σ H Q, t' σ H Q -> t σ H Q) : PS X e t' := fun pins s σ H Q I w => h pins s σ H Q I (i Q σ H w)
theorem PSs.imp {X : Cx} {e : List Stmt} {t t' : TS} (h : PSs X e t) (i : ∀ σ H Q, t' σ H Q -> t σ H Q) : PSs X e t' := fun pins s σ H Q I w => h pins s σ H Q I (i Q σ H w)
noncomputable def ag (i : Nat) : ME := fun env h => match env[i]? with
  | some (some d) => .ok d h
  | _ => .bad
noncomputable def cC (d : D) : ME := fun _ h => .ok d h
noncomputable def au (f : D -> D -> Hh -> R D) (a b : ME) : ME := fun env h => (a env h).bind fun x h1 => (b env h1).bind fun y h2 => f x y h2
noncomputable def cUn (f : D -> Hh -> R D) (a : ME) : ME := fun env h => (a env h).bind fun x h1 => f x h1
noncomputable def ai : MA := fun _ h => .ok [] h
noncomputable def aa (a : ME) (r : MA) : MA := fun env h => (a env h).bind fun x h1 => (r env h1).bind fun xs h2 => .ok (x :: xs) h2
noncomputable def ah (f : List D -> Hh -> R D) (a : MA) : ME := fun env h => (a env h).bind fun xs h1 => f xs h1
noncomputable def aM (f : D -> Hh -> R Bool) (a : ME) : MT := fun env h => (a env h).bind fun x h1 => f x h1
noncomputable def iE (a : MT) : MT := fun env h => (a env h).bind fun b h1 => .ok (!b) h1
noncomputable def zi (a b : MT) : MT := fun env h => (a env h).bind fun x h1 => if x = true then b env h1 else .ok false h1
noncomputable def r_ (a b : MT) : MT := fun env h => (a env h).bind fun x h1 => if x = true then .ok true h1 else b env h1
noncomputable def cIf (c : MT) (a b : ME) : ME := fun env h => (c env h).bind fun x h1 => if x = true then a env h1 else b env h1
noncomputable def asB : D -> Hh -> R Bool
  | .bl b, h => .ok b h
  | _, _ => .bad
noncomputable def vA (a b : ME) : ME := fun env h => (a env h).bind fun x h1 => (asB x h1).bind fun k h2 => if k = true then b env h2 else .ok (.bl false) h2
noncomputable def yN (a : ME) : ME := fun env h => (a env h).bind fun x h1 => (asB x h1).bind fun k h2 => .ok (.bl (!k)) h2
noncomputable def jw (f f' : D -> D -> Hh -> R D) (a b c : ME) : ME := fun env h => (a env h).bind fun x h1 => (b env h1).bind fun y h2 => (f x y h2).bind fun z h3 => (asB z h3).bind fun k h4 =>
  if k = true then (c env h4).bind fun w h5 => f' y w h5 else .ok (.bl false) h4
noncomputable def ef (K : PySem.W.Frag) (g : GG) (ε : EE) (f : D -> D -> Hh -> R D) (r : R2) : Prop :=
  ∀ (α : List Addr) (H : Hp) (h : Hh) (a b : D) (x y : V) (Q : VK), aN K g α H h -> aG K g α H a x -> aG K g α H b y -> WQ K g ε α H (f a b h) (aE K g α H Q) -> r x y H Q
noncomputable def GC (K : PySem.W.Frag) (g : GG) (ε : EE) (f : D -> Hh -> R D) (r : V -> Hp -> VK -> Prop) : Prop :=
  ∀ (α : List Addr) (H : Hp) (h : Hh) (a : D) (x : V) (Q : VK), aN K g α H h -> aG K g α H a x -> WQ K g ε α H (f a h) (aE K g α H Q) -> r x H Q
noncomputable def Gz (K : PySem.W.Frag) (g : GG) (ε : EE) (f : D -> Hh -> R Bool) (r : V -> Hp -> (Bool -> Hp -> Prop) -> Prop) : Prop :=
  ∀ (α : List Addr) (H : Hp) (h : Hh) (a : D) (x : V) (Q : Bool -> Hp -> Prop), aN K g α H h -> aG K g α H a x -> WQ K g ε α H (f a h) (kY K g α H Q) -> r x H Q
noncomputable def ki (K : PySem.W.Frag) (g : GG) (ε : EE) (f : List D -> Hh -> R D) (r : List V -> Hp -> VK -> Prop) : Prop :=
  ∀ (α : List Addr) (H : Hp) (h : Hh) (a : List D) (x : List V) (Q : VK), aN K g α H h -> aq K g α H a x -> WQ K g ε α H (f a h) (aE K g α H Q) -> r x H Q
noncomputable def tR (K : PySem.W.Frag) (g : GG) (ε : EE) (f : D -> List D -> Hh -> R D) (r : V -> List V -> Hp -> VK -> Prop) : Prop :=
  ∀ (α : List Addr) (H : Hp) (h : Hh) (o : D) (a : List D) (y : V) (x : List V) (Q : VK), aN K g α H h -> aG K g α H o y -> aq K g α H a x -> WQ K g ε α H (f o a h) (aE K g α H Q) -> r y x H Q
section
variable {X : Cx} {g : GG} {ε : EE} {a b c : Expr} {ma mb mc : ME} {pos : Pos}
theorem af (i : Nat) {x : Str} {pos : Pos} (hN : X.N[i]? = some x := by rfl) (hv : Vis X.env.scope x := by first | exact Or.inl rfl | exact Or.inr (Or.inl rfl) | exact Or.inr (Or.inr rfl)) (hd : (x == ("__debug__" : Str)) = false := by decide)
    (hcd : (x == ("__classdict__" : Str)) = false := by decide) : PE X (.Name x pos) (tM X.K g ε (ag i)) := by
  refine PE.imp (yw hN hv hd hcd) fun σ H Q ⟨α, env, h, s, w⟩ => ?_
  unfold ag at w
  cases e : env[i]? with
  | none => rw [e] at w; exact w.elim
  | some d =>
    cases d with
    | none => rw [e] at w; exact w.elim
    | some d =>
      rw [e] at w
      obtain ⟨v, hv, rd⟩ := s.vs.vars i d e
      exact ⟨v, hv, aE.now w s.heap rd⟩
theorem oU {v : V} {d : D} {Q : VK} {σ : St} {H : Hp} (rd : ∀ α, aG X.K g α H d v) (t : tM X.K g ε (cC d) σ H Q) : tC v σ H Q := by
  obtain ⟨α, env, h, s, w⟩ := t
  exact aE.now w s.heap (rd α)
theorem ax {i j pos} : PE X (.Constant (.int i) j pos) (tM X.K g ε (cC (.int i))) := PE.imp yo fun _ _ _ t => oU (fun _ => .int i) t
theorem jf {i j pos} : PE X (.Constant (.bool i) j pos) (tM X.K g ε (cC (.bl i))) := PE.imp F0 fun _ _ _ t => oU (fun _ => .bl i) t
theorem eZ {i j pos} : PE X (.Constant (.str i) j pos) (tM X.K g ε (cC (.str i))) := PE.imp DC fun _ _ _ t => oU (fun _ => .str i) t
theorem yt {j pos} : PE X (.Constant .none j pos) (tM X.K g ε (cC .non)) := PE.imp Dt fun _ _ _ t => oU (fun _ => .non) t
theorem sO {x : Str} {f : Addr} {pos : Pos} (hg : Gl X x) (hm : X.mg x = some (.ref f)) (hf : g x = some f) (hd : (x == ("__debug__" : Str)) = false := by decide) : PE X (.Name x pos) (tM X.K g ε (cC (.fn x))) :=
  PE.imp (vf (v := .ref f) hg hm rfl hd) fun _ _ _ t => oU (fun _ => .fn hf) t
theorem xK {x : Str} {i : Int} {t : Tok} {pos : Pos} (hg : Gl X x) (hm : X.mg x = some (.int i t)) (hd : (x == ("__debug__" : Str)) = false := by decide) : PE X (.Name x pos) (tM X.K g ε (cC (.int i))) :=
  PE.imp (vf (v := .int i) hg hm ⟨t, rfl⟩ hd) fun _ _ _ t => oU (fun _ => .int i) t
theorem p6 {f : D -> D -> Hh -> R D} {r : R2} {K : PySem.W.Frag} (im : ef K g ε f r) {σ : St} {H : Hp} {Q : VK} (t : tM K g ε (au f ma mb) σ H Q) : tOp r (tM K g ε ma) (tM K g ε mb) σ H Q := by
  obtain ⟨α, env, h, s, w⟩ := t
  refine tM.use s w.bind fun d1 h1 v1 H1 α1 e1 s1 r1 w1 => ?_
  refine tM.use s1 (w1.ext e1).bind fun d2 h2 v2 H2 α2 e2 s2 r2 w2 => ?_
  exact im α2 H2 h2 d1 d2 v1 v2 Q s2.heap (r1.ext e2) r2 ((w2.ext e2).mono fun _ _ _ p => p.ext (e1.trans e2))
theorem aT {op : Operator} {r : R2} {f : D -> D -> Hh -> R D} (ho : OpR X (binaryOp op) r) (im : ef X.K g ε f r) (ha : PE X a (tM X.K g ε ma)) (hb : PE X b (tM X.K g ε mb)) : PE X (.BinOp a op b pos) (tM X.K g ε (au f ma mb)) :=
  PE.imp (Gs ho ha hb) fun _ _ _ t => p6 im t
theorem xQ {op : CmpOp} {r : R2} {f : D -> D -> Hh -> R D} (ho : OpR X (compareOp op) r) (im : ef X.K g ε f r) (ha : PE X a (tM X.K g ε ma)) (hb : PE X b (tM X.K g ε mb)) (hm : behindInMarks op b = false) : PE X (.Compare a [op] [b] pos) (tM X.K g ε (au f ma mb)) :=
  PE.imp (Cc ho ha hb hm) fun _ _ _ t => p6 im t
theorem r6 {K : PySem.W.Frag} {m : ME} {t : TE} (ht : ∀ σ H Q, tM K g ε m σ H Q -> t σ H Q) {σ : St} {H : Hp} {Q : Bool -> Hp -> Prop} (w : tMT K g ε (aM asB m) σ H Q) : Ak t σ H Q := by
  obtain ⟨α, env, h, s, w⟩ := w
  refine ht _ _ _ (tM.use s w.bind fun d1 h1 v1 H1 α1 e1 s1 r1 w1 => ?_)
  unfold asB at w1
  cases r1 with
  | bl k => exact ⟨k, rfl, w1 H1 α1 e1 s1.heap⟩
  | _ => exact w1.elim
theorem bO {op : CmpOp} {r : R2} {f : D -> D -> Hh -> R D} (ho : OpR X (compareOp op) r) (im : ef X.K g ε f r) (ha : PE X a (tM X.K g ε ma)) (hb : PE X b (tM X.K g ε mb)) (hm : behindInMarks op b = false) : PT X (.Compare a [op] [b] pos) (tMT X.K g ε (aM asB (au f ma mb))) :=
  PT.imp (Bh ho ha hb hm) fun _ _ _ t => r6 (fun _ _ _ u => p6 im u) t
theorem pF {f f' : D -> D -> Hh -> R D} {r r' : R2} {K : PySem.W.Frag} (im : ef K g ε f r) (im' : ef K g ε f' r') {σ : St} {H : Hp} {Q : VK} (t : tM K g ε (jw f f' ma mb mc) σ H Q) : uw r r' (tM K g ε ma) (tM K g ε mb) (tM K g ε mc) σ H Q := by
  obtain ⟨α, env, h, s, w⟩ := t
  refine tM.use s w.bind fun d1 h1 v1 H1 α1 e1 s1 r1 w1 => ?_
  refine tM.use s1 (w1.ext e1).bind fun d2 h2 v2 H2 α2 e2 s2 r2 w2 => ?_
  refine im α2 H2 h2 d1 d2 v1 v2 _ s2.heap (r1.ext e2) r2 ((w2.ext e2).bind.mono fun z h3 _ w3 v3 H3 α3 e3 hr3 r3 => ?_)
  have w4 := w3.bind
  unfold asB at w4
  cases r3 with
  | bl k =>
    refine ⟨k, rfl, ?_⟩
    have s3 := s2.ext e3 hr3
    cases k with
    | true =>
      have w5 : WQ K g ε α2 H2 ((mc env h3).bind fun w h5 => f' d2 w h5) _ := w4
      rw [if_pos rfl]
      refine tM.use s3 (w5.ext e3).bind fun d4 h4 v4 H4 α4 e4 s4 r4 w6 => ?_
      exact im' α4 H4 h4 d2 d4 v2 v4 Q s4.heap (r2.ext (e3.trans e4)) r4 ((w6.ext e4).mono fun _ _ _ p => p.ext (e1.trans (e2.trans (e3.trans e4))))
    | false =>
      rw [if_neg Bool.false_ne_true]
      have w5 : aE K g α H Q (.bl false) h3 := w4
      exact w5 _ H3 α3 (e1.trans (e2.trans e3)) s3.heap (.bl false)
  | _ => exact w4.elim
theorem xV {op op' : CmpOp} {r r' : R2} {f f' : D -> D -> Hh -> R D} (ho : OpR X (compareOp op) r) (ho' : OpR X (compareOp op') r') (im : ef X.K g ε f r) (im' : ef X.K g ε f' r') (ha : PE X a (tM X.K g ε ma)) (hb : PE X b (tM X.K g ε mb)) (hc : PE X c (tM X.K g ε mc))
    (hm : lastMarks [op, op'] [b, c] = false := by with_unfolding_all rfl) : PE X (.Compare a [op, op'] [b, c] pos) (tM X.K g ε (jw f f' ma mb mc)) := PE.imp (Am ho ho' ha hb hc hm) fun _ _ _ t => pF im im' t
theorem xF {op op' : CmpOp} {r r' : R2} {f f' : D -> D -> Hh -> R D} (ho : OpR X (compareOp op) r) (ho' : OpR X (compareOp op') r') (im : ef X.K g ε f r) (im' : ef X.K g ε f' r') (ha : PE X a (tM X.K g ε ma)) (hb : PE X b (tM X.K g ε mb)) (hc : PE X c (tM X.K g ε mc))
    (hm : lastMarks [op, op'] [b, c] = false := by with_unfolding_all rfl) : PT X (.Compare a [op, op'] [b, c] pos) (tMT X.K g ε (aM asB (jw f f' ma mb mc))) := PT.imp (yc ho ho' ha hb hc hm) fun _ _ _ t => r6 (fun _ _ _ u => pF im im' u) t
theorem jh {op : UnaryOp} {r : V -> Hp -> VK -> Prop} {f : D -> Hh -> R D} (ho : UnR X (unaryOp op) r) (im : GC X.K g ε f r) (ha : PE X a (tM X.K g ε ma)) : PE X (.UnaryOp op a pos) (tM X.K g ε (cUn f ma)) :=
  PE.imp (Dc ho ha) fun σ H Q ⟨α, env, h, s, w⟩ => tM.use s w.bind fun d1 h1 v1 H1 α1 e1 s1 r1 w1 => im α1 H1 h1 d1 v1 Q s1.heap r1 (w1.post e1)
theorem cD {r : R2} {f : D -> D -> Hh -> R D} (hr : IxR X r) (im : ef X.K g ε f r) (ha : PE X a (tM X.K g ε ma)) (hb : PE X b (tM X.K g ε mb)) (hs : vz b) : PE X (.Subscript a b pos) (tM X.K g ε (au f ma mb)) :=
  PE.imp (FY hr ha hb hs) fun _ _ _ t => p6 im t
theorem iQ {f : D -> Hh -> R Bool} (im : Gz X.K g ε f (fun x H Q => ∃ k, A8 X.K x H k /\ Q k H)) (ha : PE X a (tM X.K g ε ma)) (he : ∀ whole, isTrue a X.env whole = (do let v ← whole; standAt a.pos; holding [v] (truthy v))) : PT X a (tMT X.K g ε (aM f ma)) :=
  PT.imp (zI ha he) fun σ H Q ⟨α, env, h, s, w⟩ => tM.use s w.bind fun d1 h1 v1 H1 α1 e1 s1 r1 w1 => im α1 H1 h1 d1 v1 Q s1.heap r1 (w1.Gv e1)
theorem kA {mt : MT} (ha : PT X a (tMT X.K g ε mt)) : PT X (.UnaryOp .Not a pos) (tMT X.K g ε (iE mt)) :=
  PT.imp (DZ ha) fun σ H Q ⟨α, env, h, s, w⟩ => tMT.use s w.bind fun d1 h1 H1 α1 e1 s1 w1 => w1 H1 α1 e1 s1.heap
end
section
variable {X : Cx} {g : GG} {ε : EE} {a b c e : Expr} {es : List Expr} {rest : List Expr} {ma mb mc me : ME} {mt mu : MT} {pos : Pos}
theorem A2 (ha : PT X a (tMT X.K g ε mt)) : PW X (.BoolOp .And [a] pos) (tMT X.K g ε mt) := pw_and1 ha
theorem ud (ha : PT X a (tMT X.K g ε mt)) : PW X (.BoolOp .Or [a] pos) (tMT X.K g ε mt) := pw_or1 ha
theorem Dz (ha : PT X a (tMT X.K g ε mt)) (hb : PW X (.BoolOp .And (b :: rest) pos) (tMT X.K g ε mu)) : PW X (.BoolOp .And (a :: b :: rest) pos) (tMT X.K g ε (zi mt mu)) :=
  PW.imp (pw_and ha hb) fun σ H Q ⟨α, env, h, s, w⟩ => tMT.use s w.bind fun d1 h1 H1 α1 e1 s1 w1 => by
    cases d1 with
    | true => rw [if_pos rfl] at w1 ⊢; exact tMT.use s1 (w1.ext e1) fun d2 h2 H2 α2 e2 s2 w2 => w2 H2 α2 (e1.trans e2) s2.heap
    | false => rw [if_neg Bool.false_ne_true] at w1 ⊢; exact w1 H1 α1 e1 s1.heap
theorem zg (ha : PT X a (tMT X.K g ε mt)) (hb : PW X (.BoolOp .Or (b :: rest) pos) (tMT X.K g ε mu)) : PW X (.BoolOp .Or (a :: b :: rest) pos) (tMT X.K g ε (r_ mt mu)) :=
  PW.imp (pw_or ha hb) fun σ H Q ⟨α, env, h, s, w⟩ => tMT.use s w.bind fun d1 h1 H1 α1 e1 s1 w1 => by
    cases d1 with
    | true => rw [if_pos rfl] at w1 ⊢; exact w1 H1 α1 e1 s1.heap
    | false => rw [if_neg Bool.false_ne_true] at w1 ⊢; exact tMT.use s1 (w1.ext e1) fun d2 h2 H2 α2 e2 s2 w2 => w2 H2 α2 (e1.trans e2) s2.heap
theorem zu (hc : PT X c (tMT X.K g ε mt)) (ha : PE X a (tM X.K g ε ma)) (hb : PE X b (tM X.K g ε mb)) : PE X (.IfExp c a b pos) (tM X.K g ε (cIf mt ma mb)) :=
  PE.imp (yK hc ha hb) fun σ H Q ⟨α, env, h, s, w⟩ => tMT.use s w.bind fun d1 h1 H1 α1 e1 s1 w1 => by
    cases d1 with
    | true => rw [if_pos rfl] at w1 ⊢; exact tM.use s1 (w1.ext e1) fun d2 h2 v2 H2 α2 e2 s2 r2 w2 => w2 v2 H2 α2 (e1.trans e2) s2.heap r2
    | false => rw [if_neg Bool.false_ne_true] at w1 ⊢; exact tM.use s1 (w1.ext e1) fun d2 h2 v2 H2 α2 e2 s2 r2 w2 => w2 v2 H2 α2 (e1.trans e2) s2.heap r2
theorem yj {op} (h : PE X a (tM X.K g ε ma)) : PE X (.BoolOp op [a] pos) (tM X.K g ε ma) := E4 h
theorem Ah {K : PySem.W.Frag} {α : List Addr} {H H1 : Hp} {α1 : List Addr} {d : D} {v : V} {h : Hh} {β : Type} {f : Bool -> Hh -> R β} {k : β -> Hh -> Prop} (r : aG K g α1 H1 d v) (w : WQ K g ε α H ((asB d h).bind f) k) : ∃ b, v = .bl b /\ d = .bl b /\ WQ K g ε α H (f b h) k := by
  cases r with
  | bl b => exact ⟨b, rfl, rfl, w⟩
  | _ => exact w.elim
theorem zA (ha : PE X a (tM X.K g ε ma)) (hb : PE X (.BoolOp .And (b :: rest) pos) (tM X.K g ε mb)) : PE X (.BoolOp .And (a :: b :: rest) pos) (tM X.K g ε (vA ma mb)) :=
  PE.imp (ER ha hb) fun σ H Q ⟨α, env, h, s, w⟩ => tM.use s w.bind fun d1 h1 v1 H1 α1 e1 s1 r1 w1 => by
    obtain ⟨k, rfl, rfl, w2⟩ := Ah r1 w1
    refine ⟨k, rfl, ?_⟩
    cases k with
    | true => rw [if_pos rfl] at w2 ⊢; exact tM.use s1 (w2.ext e1) fun d2 h2 v2 H2 α2 e2 s2 r2 w2 => w2 v2 H2 α2 (e1.trans e2) s2.heap r2
    | false => rw [if_neg Bool.false_ne_true] at w2 ⊢; exact w2 _ H1 α1 e1 s1.heap (.bl false)
theorem DQ (ha : PE X a (tM X.K g ε ma)) : PE X (.UnaryOp .Not a pos) (tM X.K g ε (yN ma)) :=
  PE.imp (EL ha) fun σ H Q ⟨α, env, h, s, w⟩ => tM.use s w.bind fun d1 h1 v1 H1 α1 e1 s1 r1 w1 => by
    obtain ⟨k, rfl, rfl, w2⟩ := Ah r1 w1
    exact ⟨k, rfl, w2 _ H1 α1 e1 s1.heap (.bl _)⟩
variable {mr : MA}
theorem aj : PA X [] (tMA X.K g ε ai) := PA.imp iz fun σ H Q ⟨α, env, h, s, w⟩ => w [] H α Ext.refl s.heap .nil
theorem ae (ha : PE X e (tM X.K g ε ma)) (hr : PA X es (tMA X.K g ε mr)) (hs : starEach (e :: es) X.env = (false, eval e X.env) :: starEach es X.env := by rfl) : PA X (e :: es) (tMA X.K g ε (aa ma mr)) :=
  PA.imp (dH ha hr hs) fun σ H Q ⟨α, env, h, s, w⟩ => tM.use s w.bind fun d1 h1 v1 H1 α1 e1 s1 r1 w1 => tMA.use s1 (w1.ext e1).bind fun d2 h2 v2 H2 α2 e2 s2 r2 w2 => w2 _ H2 α2 (e1.trans e2) s2.heap (.cons (r1.ext e2) r2)
noncomputable def fQ : List D -> Hh -> R D := fun ds h => if ds.length <= 1000000 then .ok (.tup ds) h else .bad
theorem aE.tup {K : PySem.W.Frag} {α : List Addr} {H : Hp} {h : Hh} {ds : List D} {vs : List V} {Q : VK} {p : Addr} (w : aE K g α H Q (.tup ds) h) (r : aN K g α H h) (rd : aq K g α H ds vs) (n : H p = none) : Q (.ref p) (upd H p (.tup vs)) :=
  w _ _ α (Ext.fresh n) (r.grow n) (.tup aH (rd.ext (Ext.fresh n)))
theorem WQ.dG {K : PySem.W.Frag} {α : List Addr} {H : Hp} {β : Type} {c : Prop} [Decidable c] {r : R β} {k : β -> Hh -> Prop} (w : WQ K g ε α H (if c then r else .bad) k) : c /\ WQ K g ε α H r k := by
  by_cases h : c
  · rw [if_pos h] at w; exact ⟨h, w⟩
  · rw [if_neg h] at w; exact w.elim
theorem gx {n : Nat} (h : n <= 1000000) : n <= sizeLine := by rw [sizeLine_eq]; omega
theorem g6 {x1} (ha : PA X es (tMA X.K g ε mr)) : PE X (.Tuple es x1 pos) (tM X.K g ε (ah fQ mr)) :=
  PE.imp (Ez ha) fun σ H Q ⟨α, env, h, s, w⟩ => tMA.use s w.bind fun d1 h1 v1 H1 α1 e1 s1 r1 w1 => by
    obtain ⟨hl, w2⟩ := WQ.dG w1
    exact ⟨gx (by rw [<- r1.length]; exact hl), fun p hp => aE.tup (aE.ext e1 w2) s1.heap r1 hp⟩
theorem xI {f : List D -> Hh -> R D} {r : List V -> Hp -> VK -> Prop} {K : PySem.W.Frag} (im : ki K g ε f r) {σ : St} {H : Hp} {Q : VK} (t : tM K g ε (ah f mr) σ H Q) : tCB r (tMA K g ε mr) σ H Q := by
  obtain ⟨α, env, h, s, w⟩ := t
  exact tMA.use s w.bind fun d1 h1 v1 H1 α1 e1 s1 r1 w1 => im α1 H1 h1 d1 v1 Q s1.heap r1 (w1.post e1)
theorem aX {id : String} {x : Str} {p : Pos} {f : List D -> Hh -> R D} {r : List V -> Hp -> VK -> Prop} (hc : a_ X (.builtin id) r) (im : ki X.K g ε f r) (hg : Gl X x) (hm : X.mg x = none) (hv : bootBuiltins x = some (.builtin id)) (ha : PA X (e :: es) (tMA X.K g ε mr)) (hn : x ≠ "__name__" := by decide) (hdb : (x == ("__debug__" : Str)) = false := by decide)
    (he : starEach (e :: es) X.env = (false, eval e X.env) :: starEach es X.env := by rfl) (hpl : (backTo pos (starEach es X.env)).any (·.1) = false := by rfl) : PE X (.Call (.Name x p) (e :: es) [] pos) (tM X.K g ε (ah f mr)) :=
  PE.imp (jD hc hg hm hv ha hn hdb he hpl) fun _ _ _ t => xI im t
theorem bD {id : String} {x : Str} {p : Pos} {f : List D -> Hh -> R D} {r : List V -> Hp -> VK -> Prop} (hc : a_ X (.type id) r) (im : ki X.K g ε f r) (hg : Gl X x) (hm : X.mg x = none) (hv : bootBuiltins x = some (.type id)) (ha : PA X (e :: es) (tMA X.K g ε mr)) (hn : x ≠ "__name__" := by decide) (hdb : (x == ("__debug__" : Str)) = false := by decide)
    (he : starEach (e :: es) X.env = (false, eval e X.env) :: starEach es X.env := by rfl) (hpl : (backTo pos (starEach es X.env)).any (·.1) = false := by rfl) : PE X (.Call (.Name x p) (e :: es) [] pos) (tM X.K g ε (ah f mr)) :=
  PE.imp (gb hc hg hm hv ha hn hdb he hpl) fun _ _ _ t => xI im t
end
noncomputable def bH : MS := fun env h => .ok (.nx env) h
noncomputable def aB (a b : MS) : MS := fun env h => (a env h).bind fun fl h1 => match fl with
  | .nx e => b e h1
  | fl => .ok fl h1
noncomputable def cb (a : ME) : MS := fun env h => (a env h).bind fun _ h1 => .ok (.nx env) h1
noncomputable def bj (a : ME) : MS := fun env h => (a env h).bind fun d h1 => .ok (.rt d) h1
noncomputable def cT (c : MT) (a b : MS) : MS := fun env h => (c env h).bind fun x h1 => if x = true then a env h1 else b env h1
noncomputable def bq (i : Nat) (a : ME) : MS := fun env h => (a env h).bind fun d h1 => .ok (.nx (env.set i (some d))) h1
noncomputable def qY (i j : Nat) (a : MA) : MS := fun env h => (a env h).bind fun ds h1 => match ds with
  | [x, y] => .ok (.nx ((env.set i (some x)).set j (some y))) h1
  | _ => .bad
noncomputable def eE (f : D -> D -> D -> Hh -> R Unit) (o i v : ME) : MS := fun env h => (v env h).bind fun x h1 => (o env h1).bind fun y h2 => (i env h2).bind fun z h3 => (f y z x h3).bind fun _ h4 => .ok (.nx env) h4
noncomputable def HJ : MS := fun _ _ => .bad
section
variable {X : Cx} {g : GG} {ε : EE} {e : Expr} {me : ME} {ms mu : MS} {mt : MT} {st : Stmt} {rest : List Stmt} {pos : Pos}
theorem cW.nx {K : PySem.W.Frag} {α α' : List Addr} {H H' : Hp} {env : En} {σ : St} {h' : Hh} {E : Ends} (s : cW K g α' H' env σ h') (e : Ext K α H α' H') (w : cN K g α H E (.nx env) h') : E.nx σ H' := w H' α' e s.heap σ s.vs
theorem cj : PSs X [] (tMS X.K g ε bH) := PSs.imp Bv fun E σ H ⟨α, env, h, s, w⟩ => s.nx Ext.refl w
theorem tMS.use {K : PySem.W.Frag} {α : List Addr} {H : Hp} {env : En} {σ : St} {h : Hh} {m : MS} {E : Ends} {k : Fl -> Hh -> Prop} (s : cW K g α H env σ h) (w : WQ K g ε α H (m env h) k)
    (q : ∀ fl h' H' α', Ext K α H α' H' -> aN K g α' H' h' -> k fl h' -> match fl with
      | .nx e => ∀ σ', cW K g α' H' e σ' h' -> E.nx σ' H'
      | .bk e => ∀ σ', cW K g α' H' e σ' h' -> E.bk σ' H'
      | .ct e => ∀ σ', cW K g α' H' e σ' h' -> E.ct σ' H'
      | .rt d => ∀ v, aG K g α' H' d v -> E.rt v H') : tMS K g ε m E σ H :=
  ⟨α, env, h, s, w.mono fun fl h' _ kk H' α' e r => by
    have := q fl h' H' α' e r kk
    cases fl with
    | nx e => exact fun σ' v => this σ' ⟨r, v⟩
    | bk e => exact fun σ' v => this σ' ⟨r, v⟩
    | ct e => exact fun σ' v => this σ' ⟨r, v⟩
    | rt d => exact this⟩
theorem av (h1 : PS X st (tMS X.K g ε ms)) (h2 : PSs X rest (tMS X.K g ε mu)) : PSs X (st :: rest) (tMS X.K g ε (aB ms mu)) :=
  PSs.imp (yz h1 h2) fun E σ H ⟨α, env, h, s, w⟩ => tMS.use s w.bind fun fl h' H' α' e r kk => by
    cases fl with
    | nx env' => exact fun σ' s' => ⟨α', env', h', s', WQ.uP e kk⟩
    | bk env' => exact fun σ' s' => (show cN X.K g α H E (.bk env') h' from kk) H' α' e r σ' s'.vs
    | ct env' => exact fun σ' s' => (show cN X.K g α H E (.ct env') h' from kk) H' α' e r σ' s'.vs
    | rt d => exact fun v rv => (show cN X.K g α H E (.rt d) h' from kk) H' α' e r v rv
theorem az (h1 : PS X st (tMS X.K g ε ms)) : PSs X [st] (tMS X.K g ε ms) := uA h1
theorem dy (he : PE X e (tM X.K g ε me)) (hs : swapsWith e none pos.line X.env = pure false := by rfl) : PS X (.Expr e pos) (tMS X.K g ε (cb me)) :=
  PS.imp (A5 he hs) fun E σ H ⟨α, env, h, s, w⟩ => tM.use s w.bind fun d1 h1 v1 H1 α1 e1 s1 r1 w1 => s1.nx e1 w1
theorem bB (he : PE X e (tM X.K g ε me)) : PS X (.Return (some e) pos) (tMS X.K g ε (bj me)) :=
  PS.imp (yr he) fun E σ H ⟨α, env, h, s, w⟩ => tM.use s w.bind fun d1 h1 v1 H1 α1 e1 s1 r1 w1 => (show cN X.K g α H E (.rt d1) h1 from w1) H1 α1 e1 s1.heap v1 r1
theorem hZ {c : Expr} {A B : List Stmt} (hc : PT X c (tMT X.K g ε mt)) (ha : PSs X A (tMS X.K g ε ms)) (hb : PSs X B (tMS X.K g ε mu)) : PS X (.If c A B pos) (tMS X.K g ε (cT mt ms mu)) :=
  PS.imp (F8 hc ha hb) fun E σ H ⟨α, env, h, s, w⟩ => tMT.use s w.bind fun d1 h1 H1 α1 e1 s1 w1 => by
    cases d1 with
    | true => rw [if_pos rfl] at w1 ⊢; exact ⟨α1, env, h1, s1, WQ.uP e1 w1⟩
    | false => rw [if_neg Bool.false_ne_true] at w1 ⊢; exact ⟨α1, env, h1, s1, WQ.uP e1 w1⟩
theorem bZ {i : Nat} {x : Str} {pos' : Pos} (hN : X.N.Nodup) (hi : X.N[i]? = some x) (hx : Loc X.env.scope x) (he : PE X e (tM X.K g ε me)) (hs : swapsWith e (some (.Name x pos')) pos.line X.env = pure false := by rfl) (hf : X.fn x = true \/ X.env.scope.names.lookup x = some .local := by first | exact .inl rfl | exact .inr rfl | assumption) :
    PS X (.Assign [.Name x pos'] e pos) (tMS X.K g ε (bq i me)) :=
  PS.imp (DH hN hi hx he hs hf) fun E σ H ⟨α, env, h, s, w⟩ => tM.use s w.bind fun d1 h1 v1 H1 α1 e1 s1 r1 w1 => (show cN X.K g α H E (.nx (env.set i (some d1))) h1 from w1) H1 α1 e1 s1.heap _ (s1.vs.set r1)
theorem Gx {i j : Nat} {x y : Str} {a b : Expr} {ma : MA} {px py pt : Pos} {kt k2 pt2} (hc : X.calm = true) (hN : X.N.Nodup) (hi : X.N[i]? = some x) (hj : X.N[j]? = some y) (hij : i ≠ j)
    (hx : X.env.scope.names.lookup x = some .local) (hy : X.env.scope.names.lookup y = some .local) (ha : PA X [a, b] (tMA X.K g ε ma))
    (hw : swappedStores [.Tuple [.Name x px, .Name y py] kt pt] (.Tuple [a, b] k2 pt2) X.env = pure (some [x, y]))
    (hs : swapsWithSole [.Tuple [.Name x px, .Name y py] kt pt] (.Tuple [a, b] k2 pt2) pos.line X.env = pure false := by rfl) :
    PS X (.Assign [.Tuple [.Name x px, .Name y py] kt pt] (.Tuple [a, b] k2 pt2) pos) (tMS X.K g ε (qY i j ma)) :=
  PS.imp (Ea hc hN hi hj hij hx hy ha hw hs) fun E σ H ⟨α, env, h, s, w⟩ => tMA.use s w.bind fun d1 h1 v1 H1 α1 e1 s1 r1 w1 => by
    cases r1 with
    | nil => exact w1.elim
    | cons ra rr =>
      cases rr with
      | nil => exact w1.elim
      | cons rb rr =>
        cases rr with
        | nil => exact ⟨_, _, rfl, (show cN X.K g α H E (.nx _) h1 from w1) H1 α1 e1 s1.heap _ ((s1.vs.set ra).set rb)⟩
        | cons _ _ => exact w1.elim
noncomputable def Gd (K : PySem.W.Frag) (g : GG) (ε : EE) (f : D -> D -> D -> Hh -> R Unit) (t : yW) : Prop :=
  ∀ (α : List Addr) (H : Hp) (h : Hh) (o i v : D) (x y z : V) (Q : Hp -> Prop), aN K g α H h -> aG K g α H o x -> aG K g α H i y -> aG K g α H v z -> WQ K g ε α H (f o i v h) (fun _ h' => ∀ H' α', Ext K α H α' H' -> aN K g α' H' h' -> Q H') -> t x y z H Q
theorem gv {o i : Expr} {mo mi : ME} {t : yW} {f : D -> D -> D -> Hh -> R Unit} {p : Pos} (he : PE X e (tM X.K g ε me)) (ho : PE X o (tM X.K g ε mo)) (hi : PE X i (tM X.K g ε mi)) (hp : EO X t) (im : Gd X.K g ε f t)
    (ha : ∀ v, assign (.Subscript o i p) X.env v = (do
      let ov ← holding [v] (eval o X.env)
      let iv ← holding [v, ov] (eval i X.env)
      standAt p
      holding [v, ov, iv] (setItem ov iv v)
      release [v, ov, iv] []) := by intro _; rfl)
    (hs : swapsWithSole [.Subscript o i p] e pos.line X.env = pure false := by rfl) (hw : swappedStores [.Subscript o i p] e X.env = pure none := by rfl)
    (h1 : (assignEach [.Subscript o i p] X.env).map (·.2) = [assign (.Subscript o i p) X.env] := by rfl) : PS X (.Assign [.Subscript o i p] e pos) (tMS X.K g ε (eE f mo mi me)) :=
  PS.imp (E_ he (DU ho hi hp ha) hs hw h1) fun E σ H ⟨α, env, h, s, w⟩ => tM.use s w.bind fun d1 h1 v1 H1 α1 e1 s1 r1 w1 => tM.use s1 (w1.ext e1).bind fun d2 h2 v2 H2 α2 e2 s2 r2 w2 => tM.use s2 (w2.ext e2).bind fun d3 h3 v3 H3 α3 e3 s3 r3 w3 => by
    refine im α3 H3 h3 d2 d3 d1 v2 v3 v1 _ s3.heap (r2.ext e3) r3 ((r1.ext e2).ext e3) ((w3.ext e3).bind.mono fun _ h4 _ w4 H4 α4 e4 hr4 => ?_)
    exact (show cN X.K g α H E (.nx env) h4 from w4) H4 α4 (e1.trans (e2.trans (e3.trans e4))) hr4 _ (s3.vs.ext e4)
end
theorem B3 {X : Cx} {pins : List (Addr × Obj)} {σ : St} {H : Hp} {s : Shared} {p : Addr} {u : HO} (I : Inv X pins σ H s) (h : H p = some u) (mu : Mut (some u)) : ∃ o, Inv X pins σ (upd H p (.frz o u)) s := by
  obtain ⟨o, ho⟩ : ∃ o, s.heap.get? p = some o := by
    have hl := (I.hok p _ h).lt
    cases e : s.heap.get? p with
    | some o => exact ⟨o, rfl⟩
    | none => 
      have q := I.hok p _ h
      cases u with
      | lst xs => obtain ⟨_, _, _, _, e'⟩ := q; rw [e] at e'; cases e'
      | dK kvs => obtain ⟨_, _, _, _, o, _, _, e', _⟩ := q; rw [e] at e'; cases e'
      | dT kvs => obtain ⟨_, _, _, _, o, _, _, e', _⟩ := q; rw [e] at e'; cases e'
      | set S n => obtain ⟨o, _, _, _, e', _⟩ := q; rw [e] at e'; cases e'
      | ins C dx fs => obtain ⟨_, _, _, e', _⟩ := q; rw [e] at e'; cases e'
      | ext φ => obtain ⟨_, ⟨_, e'⟩, _⟩ := q; rw [e] at e'; cases e'
      | _ => exact absurd mu (fun z => z)
  have nt : ∀ b xs, H b = some (.tup xs) -> b ≠ p := fun b xs e z => by subst z; rw [h] at e; cases e; exact mu
  have nf : ∀ b o u, H b = some (.frz o u) -> b ≠ p := fun b o u e z => by subst z; rw [h] at e; cases e; exact mu
  have nb : ∀ b ps, H b = some (.tbl ps) -> b ≠ p := fun b ps e z => by subst z; rw [h] at e; cases e; exact mu
  have no : ∀ b y, H b = some (.own y) -> b ≠ p := fun b ps e z => by subst z; rw [h] at e; cases e; exact mu
  have hok : HOk X.prog X.w (upd H p (.frz o u)) s.heap := fun b v q => by
    by_cases hb : b = p
    · subst hb
      rw [aH] at q; cases q
      exact ⟨ho, (I.hok b _ h).j1 (fun _ _ _ z => z) (fun c z => by rw [aA (no c _ z)]; exact z) fun c xs z => by rw [aA (nt c xs z)]; exact z⟩
    · rw [aA hb] at q
      exact (I.hok b v q).j1 (fun _ _ _ z => z) (fun c z => by rw [aA (no c _ z)]; exact z) fun c xs z => by rw [aA (nt c xs z)]; exact z
  refine ⟨o, ?_⟩
  have np : ∀ b, H b = none -> b ≠ p := fun b e z => by subst z; rw [h] at e; cases e
  have := I.un (H' := upd H p (.frz o u)) (h' := s.heap) (t' := s.toks) ⟨fun b o q _ _ _ => q, fun b o q _ _ _ => ⟨o.slots, q⟩, fun b v q n _ => (by rw [aA (np b n)]; exact n), fun b o q _ => ⟨o, q⟩, fun b xs q => (by rw [aA (nt b xs q)]; exact q), fun b o v q => (by rw [aA (nf b o v q)]; exact q), fun b ps q => ⟨#[], by rw [aA (nb b ps q), q]; simp⟩⟩ hok
  exact this
noncomputable def i4 (Q : VK) : VK := fun v H => Q v H \/ ∃ p u, v = .ref p /\ H p = some u /\ Mut (some u) /\ ∀ o, Q v (upd H p (.frz o u))
theorem EP.frz {X : Cx} {pins : List (Addr × Obj)} {σ : St} {Q : VK} {u : Value} {s' : Shared} (h : EP X pins σ (i4 Q) u s') : EP X pins σ Q u s' := by
  obtain ⟨v, H', I, r, q | ⟨p, u, rfl, e, m, q⟩⟩ := h
  · exact ⟨v, H', I, r, q⟩
  · obtain ⟨o, I'⟩ := B3 I e m
    exact ⟨_, _, I', r, q o⟩
theorem PE.frz {X : Cx} {e : Expr} {t : TE} (h : PE X e t) : PE X e fun σ H Q => t σ H (i4 Q) := fun pins s σ H Q I w => thn (h pins s σ H _ I w) fun _ _ z => EP.frz z
theorem OpR.frz {X : Cx} {f : Value -> Value -> Sem Value} {r : R2} (h : OpR X f r) : OpR X f fun x y H Q => r x y H (i4 Q) := fun pins s σ H x y v u Q I rx ry q => thn (h pins s σ H x y v u _ I rx ry q) fun _ _ z => EP.frz z
theorem a_.frz {X : Cx} {f : Value} {r : List V -> Hp -> VK -> Prop} (h : a_ X f r) : a_ X f fun xs H Q => r xs H (i4 Q) := fun pins s σ H xs us Q I rx q => thn (h pins s σ H xs us _ I rx q) fun _ _ z => EP.frz z
noncomputable abbrev NL := List D -> Hh -> R D
noncomputable def eT : NL := fun ys h2 => .ok (.ref h2.length) (h2 ++ [O.lst ys])
noncomputable def aF : NL := fun ys h2 => .ok (.frl ys) h2
class iF (nl : NL) : Prop where
  at' : ∀ {K : PySem.W.Frag} {g : GG} {ε : EE} {α1 α2 : List Addr} {H1 H2 : Hp} {h : Hh} {as : List D} {ys : List V} {acc : Addr} {Q : D -> Hh -> Prop} {R : VK}, WQ K g ε α1 H1 (nl as h) Q -> (∀ d h', Q d h' -> aE K g α1 H1 R d h') -> Ext K α1 H1 α2 H2 -> aN K g α2 H2 h -> aq K g α2 H2 as ys -> H2 acc = some (.lst ys) -> acc ∉ α2 -> H1 acc = none -> i4 R (.ref acc) H2
instance : iF eT where
  at' := fun {K g ε α1 α2 H1 H2 h as ys acc Q R} w hq x2 hr2 ra ha hna hacc => by
    have x3 : Ext K α1 H1 (α2 ++ [acc]) H2 := ⟨x2.toEx0.trans (Ex0.refl.more _), x2.keep, fun p z n => by
      rcases List.mem_append.mp z with z | z
      · exact x2.new p z n
      · rw [List.mem_singleton.mp z]; exact hacc⟩
    refine .inl (hq _ _ w _ H2 (α2 ++ [acc]) x3 (hr2.adopt hna ⟨ys, ha, ra.ex0 (Ex0.refl.more _)⟩) (.ref ?_))
    rw [<- hr2.len, List.getElem?_append_right (Nat.le_refl _)]; simp
instance : iF aF where
  at' := fun {K g ε α1 α2 H1 H2 h as ys acc Q R} w hq x2 hr2 ra ha hna hacc => by
    refine .inr ⟨acc, _, rfl, ha, trivial, fun o => ?_⟩
    have soft : z0 H2 acc := .inr ⟨_, ha, fun _ z => (nomatch z), fun _ _ z => nomatch z⟩
    have x6 : Ex0 K α2 H2 α2 (upd H2 acc (.frz o (.lst ys))) := Ex0.upd soft
    refine hq _ _ w _ _ α2 ⟨x2.toEx0.trans x6, fun p u z n => ?_, x2.new⟩ (hr2.off soft hna) (.frl ⟨o, aH⟩ (ra.ex0 x6))
    rw [aA (aQ z hacc)]; exact x2.keep p u z n
theorem NL.post {nl : NL} [iF nl] {K : PySem.W.Frag} {g : GG} {ε : EE} {α : List Addr} {H : Hp} {h : Hh} {ds : List D} {vs : List V} {Q : VK} {p : Addr} (w : WQ K g ε α H (nl ds h) (aE K g α H Q)) (r : aN K g α H h) (rd : aq K g α H ds vs) (n : H p = none) : i4 Q (.ref p) (upd H p (.lst vs)) :=
  iF.at' w (fun _ _ z => z) (Ext.fresh n) (r.grow n) (rd.ext (Ext.fresh n)) aH (r.free n) n
noncomputable def bT (nl : NL) : List D -> Hh -> R D := fun ds h => if ds.length <= 1000000 then nl ds h else .bad
theorem b_ {X : Cx} {g : GG} {ε : EE} {es : List Expr} {mr : MA} {pos : Pos} {nl : NL} [iF nl] (ha : PA X es (tMA X.K g ε mr)) : PE X (.List es pos) (tM X.K g ε (ah (bT nl) mr)) :=
  PE.imp (PE.frz (Em ha)) fun σ H Q ⟨α, env, h, s, w⟩ => tMA.use s w.bind fun d1 h1 v1 H1 α1 e1 s1 r1 w1 => by
    obtain ⟨hl, w2⟩ := WQ.dG w1
    exact ⟨gx (by rw [<- r1.length]; exact hl), fun p hp => NL.post (w2.post e1) s1.heap r1 hp⟩
noncomputable def aw (h : Hh) (n : Nat) : Option (List D) := match h[n]? with
  | some (.lst ds) => some ds
  | _ => none
inductive Src where
  | snap (ds : List D)
  | live (n : Nat)
  | liveE (n : Nat)
noncomputable abbrev MI := En -> Hh -> R Src
noncomputable abbrev Rdr := Hh -> Nat -> Option (Option D)
noncomputable def Src.rdr : Src -> Rdr
  | .snap ds => fun _ i => some ds[i]?
  | .live n => fun h i => (aw h n).map fun ds => ds[i]?
  | .liveE n => fun h i => (aw h n).map fun ds => (ds[i]?).map fun d => D.tup [.int i, d]
noncomputable def Src.fuel (s : Src) (h : Hh) : Nat := match s with
  | .snap ds => ds.length
  | .live n => ((aw h n).getD []).length
  | .liveE n => ((aw h n).getD []).length
noncomputable def Reads (K : PySem.W.Frag) (g : GG) (J : It) (rd : Rdr) (α₀ : List Addr) (aC : Hp) : Prop :=
  ∀ (α : List Addr) (H : Hp) (h : Hh), Ext K α₀ aC α H -> aN K g α H h -> ∀ i, match rd h i with
    | none => True
    | some none => J.stop i H
    | some (some d) => J.go i H /\ ∀ x H', J.yld i H x H' -> ∃ α', Ext K α H α' H' /\ aN K g α' H' h /\ aG K g α' H' d x
noncomputable def tMI (K : PySem.W.Frag) (g : GG) (ε : EE) (m : MI) : TI := fun σ H T => ∃ α env h, cW K g α H env σ h /\ WQ K g ε α H (m env h) fun sr h' => ∀ J H' α', Ext K α H α' H' -> aN K g α' H' h' -> Reads K g J sr.rdr α' H' -> T J H'
theorem PI.imp {X : Cx} {tg e : Expr} {t t' : TI} (h : PI X tg e t) (i : ∀ σ H Q, t' σ H Q -> t σ H Q) : PI X tg e t' := fun pins s σ H Q I w => h pins s σ H Q I (i σ H Q w)
noncomputable def f_ (rd : Rdr) (tg : D -> En -> Hh -> R En) (body : MS) : Nat -> Nat -> En -> Hh -> R Fl
  | k, i, env, h => match rd h i with
    | none => .bad
    | some none => .ok (.nx env) h
    | some (some d) => match k with
      | 0 => .bad
      | k + 1 => (tg d env h).bind fun e1 h1 => (body e1 h1).bind fun fl h2 => match fl with
        | .nx e => f_ rd tg body k (i + 1) e h2
        | .ct e => f_ rd tg body k (i + 1) e h2
        | .bk e => .ok (.nx e) h2
        | .rt d => .ok (.rt d) h2
noncomputable def dJ (tg : D -> En -> Hh -> R En) (body : MS) : List D -> En -> Hh -> R Fl
  | [], env, h => .ok (.nx env) h
  | d :: ds, env, h => (tg d env h).bind fun e1 h1 => (body e1 h1).bind fun fl h2 => match fl with
    | .nx e => dJ tg body ds e h2
    | .ct e => dJ tg body ds e h2
    | .bk e => .ok (.nx e) h2
    | .rt d => .ok (.rt d) h2
theorem BN (tg : D -> En -> Hh -> R En) (body : MS) (all : List D) : ∀ (ds : List D) (i : Nat) (env : En) (h : Hh), all.drop i = ds -> f_ (Src.snap all).rdr tg body ds.length i env h = dJ tg body ds env h := by
  intro ds
  induction ds with
  | nil =>
    intro i env h e
    have : all[i]? = none := by
      have := congrArg List.length e
      simp at this
      exact List.getElem?_eq_none (by omega)
    unfold f_ dJ Src.rdr
    simp [this]
  | cons d ds ih =>
    intro i env h e
    have h0 : all[i]? = some d := by
      have := congrArg (fun l => l[0]?) e
      simpa using this
    have h1 : all.drop (i + 1) = ds := by
      have := congrArg List.tail e
      simpa using this
    unfold f_ dJ
    have : (Src.snap all).rdr h i = some (some d) := by unfold Src.rdr; simp [h0]
    rw [this]
    show ((tg d env h).bind _) = _
    congr 1
    funext e1 h2
    congr 1
    funext fl h3
    cases fl with
    | nx e => exact ih (i + 1) e h3 h1
    | ct e => exact ih (i + 1) e h3 h1
    | bk e => rfl
    | rt d => rfl
noncomputable def dg (mi : MI) (tg : D -> En -> Hh -> R En) (body : MS) : MS := fun env h => (mi env h).bind fun sr h1 => match sr with
  | .snap ds => dJ tg body ds env h1
  | .live n => f_ (Src.live n).rdr tg body ((aw h1 n).getD []).length 0 env h1
  | .liveE n => f_ (Src.liveE n).rdr tg body ((aw h1 n).getD []).length 0 env h1
theorem BK {mi : MI} {tg : D -> En -> Hh -> R En} {body : MS} {env : En} {h : Hh} : dg mi tg body env h = (mi env h).bind fun sr h1 => f_ sr.rdr tg body (sr.fuel h1) 0 env h1 := by
  unfold dg
  congr 1
  funext sr h1
  cases sr with
  | snap ds => exact (BN tg body ds ds 0 env h1 rfl).symm
  | live n => rfl
  | liveE n => rfl
noncomputable def gN (i : Nat) : D -> En -> Hh -> R En := fun d env h => .ok (env.set i (some d)) h
noncomputable def gT2 (i j : Nat) : D -> En -> Hh -> R En := fun d env h => match d with
  | .tup [x, y] => .ok ((env.set i (some x)).set j (some y)) h
  | _ => .bad
noncomputable def E5 (K : PySem.W.Frag) (g : GG) (ε : EE) (tg : D -> En -> Hh -> R En) (t : TG) : Prop :=
  ∀ (α : List Addr) (H : Hp) (h : Hh) (env : En) (σ : St) (d : D) (x : V) (Q : St -> Hp -> Prop), cW K g α H env σ h -> aG K g α H d x →
    WQ K g ε α H (tg d env h) (fun e1 h1 => ∀ σ' H' α', Ext K α H α' H' -> cW K g α' H' e1 σ' h1 -> Q σ' H') -> t x σ H Q
theorem eM {K : PySem.W.Frag} {g : GG} {ε : EE} {i : Nat} : E5 K g ε (gN i) (eC i) := fun α H h env σ d x Q s r w => w _ H α Ext.refl ⟨s.heap, s.vs.set r⟩
theorem qv {K : PySem.W.Frag} {g : GG} {ε : EE} {i j : Nat} : E5 K g ε (gT2 i j) (Ae K 2 (jQ (eC i) (jQ (eC j) yR))) := fun α H h env σ d x Q s r w => by
  unfold gT2 at w
  cases r with
  | tup hq rs =>
    cases rs with
    | nil => exact w.elim
    | cons ra rr =>
      cases rr with
      | nil => exact w.elim
      | cons rb rr =>
        cases rr with
        | nil => exact ⟨_, _, rfl, SqT.of hq, rfl, _, _, rfl, _, _, rfl, rfl, w _ H α Ext.refl ⟨s.heap, (s.vs.set ra).set rb⟩⟩
        | cons _ _ => exact w.elim
  | _ => exact w.elim
section
variable {X : Cx} {g : GG} {ε : EE}
theorem gc {tg iter : Expr} {body : List Stmt} {mi : MI} {t : TG} {fg : D -> En -> Hh -> R En} {mb : MS} {pos : Pos} (hp : PassesOwn (model X.prog X.w) X.A X.env X.xe) (hc : X.calm = true) (hi : PI X tg iter (tMI X.K g ε mi)) (hg : PG X tg t) (ig : E5 X.K g ε fg t) (hb : PSs X body (tMS X.K g ε mb))
    (hs : ∀ x, foldedSetIterable iter X.env x = pure x := by intro _; rfl) : PS X (.For tg iter body [] pos) (tMS X.K g ε (dg mi fg mb)) := by
  refine PS.imp (DK hp hc hi hg hb hs) fun E σ H ⟨α, env, h, s, w⟩ => ?_
  rw [BK] at w
  refine ⟨α, env, h, s, w.bind.mono fun sr h1 _ w1 J H1 α1 e1 hr1 rd => ?_⟩
  refine ⟨fun i m σ H => ∃ α env h, Ext X.K α1 H1 α H /\ cW X.K g α H env σ h /\ WQ X.K g ε α H (f_ sr.rdr fg mb m i env h) (cN X.K g α H E), ⟨sr.fuel h1, α1, env, h1, Ext.refl, s.ext e1 hr1, w1.uP e1⟩, ?_⟩
  rintro i m σ2 H2 ⟨α2, env2, h2, x2, s2, w2⟩
  have q := rd α2 H2 h2 x2 s2.heap i
  unfold f_ at w2
  cases e : sr.rdr h2 i with
  | none => rw [e] at w2; exact w2.elim
  | some od =>
    rw [e] at w2 q
    cases od with
    | none => exact .inl ⟨q, s2.nx Ext.refl w2⟩
    | some d =>
      cases m with
      | zero => exact w2.elim
      | succ m =>
        have w3 := WQ.bind (show WQ X.K g ε α2 H2 ((fg d env2 h2).bind _) _ from w2)
        refine .inr ⟨q.1, fun σ' H' => ∃ α env h, Ext X.K α1 H1 α H' /\ cW X.K g α H' env σ' h /\ WQ X.K g ε α H' (f_ sr.rdr fg mb m (i + 1) env h) (cN X.K g α H' E), fun σ' H' z => ⟨m, Nat.lt_succ_self _, z⟩, fun x H3 y => ?_⟩
        obtain ⟨α3, x3, hr3, rx⟩ := q.2 x H3 y
        refine ig α3 H3 h2 env2 σ2 d x _ (s2.ext x3 hr3) rx ((w3.ext x3).mono fun e4 h4 _ w4 σ4 H4 α4 x4 s4 => ?_)
        refine tMS.use s4 ((w4.ext x3).ext x4).bind fun fl h5 H5 α5 x5 hr5 w5 => ?_
        have tr : Ext X.K α2 H2 α5 H5 := x3.trans (x4.trans x5)
        cases fl with
        | nx e => exact fun σ' s' => ⟨α5, e, h5, x2.trans tr, s', ((w5.ext x5)).mono fun _ _ _ p => p.ext tr⟩
        | ct e => exact fun σ' s' => ⟨α5, e, h5, x2.trans tr, s', ((w5.ext x5)).mono fun _ _ _ p => p.ext tr⟩
        | bk e => exact fun σ' s' => (show cN X.K g α2 H2 E (.nx e) h5 from w5) H5 α5 tr hr5 σ' s'.vs
        | rt d => exact fun v rv => (show cN X.K g α2 H2 E (.rt d) h5 from w5) H5 α5 tr hr5 v rv
theorem aN.lst {K : PySem.W.Frag} {α : List Addr} {H : Hp} {h : Hh} {n : Nat} {ds : List D} (r : aN K g α H h) (e : aw h n = some ds) {p : Addr} (hp : α[n]? = some p) : ∃ vs, H p = some (.lst vs) /\ aq K g α H ds vs := by
  unfold aw at e
  cases o : h[n]? with
  | none => rw [o] at e; cases e
  | some o' =>
    rw [o] at e
    have q := r.here n p o' hp o
    cases o' with
    | lst ds' => cases e; obtain ⟨vs, a, b⟩ := q; exact ⟨vs, a, b⟩
    | set n => cases e
    | dic k => cases e
    | dit k => cases e
noncomputable def wH : D -> Hh -> R Src
  | .tup ds, h => .ok (.snap ds) h
  | .frl ds, h => .ok (.snap ds) h
  | .scr ds, h => .ok (.snap ds) h
  | .ref n, h => match aw h n with
    | some _ => .ok (.live n) h
    | none => .bad
  | _, _ => .bad
noncomputable def dm (a : ME) : MI := fun env h => (a env h).bind wH
noncomputable def Iw (K : PySem.W.Frag) (tl : TE) : TI := fun σ H R => tl σ H fun x H1 => ∃ a, x = .ref a /\ (((∃ xs, SqL K H1 a xs) /\ R (Itl K a) H1) \/ ((∃ xs, SqT K H1 a xs) /\ R (Itt K a) H1))
theorem EG {tg l : Expr} {tl : TE} (hl : PE X l tl) : PI X tg l (Iw X.K tl) := by
  intro pins s σ H R I h
  refine thn (hl pins s σ H _ I h) fun v s1 ⟨x, H1, I1, r1, q1⟩ => ?_
  obtain ⟨a, e, q⟩ := q1
  subst e
  cases r1
  rcases q with ⟨⟨xs, hq⟩, q⟩ | ⟨⟨xs, hq⟩, q⟩
  · obtain ⟨its, rv, p, hz⟩ := I1.list hq
    refine wpAny_pyIter_list p.isList ?_
    refine ⟨s1.heap.objs.size, [s1.heap.objs.size], _, _, H1, rfl, I1.kept (t' := s1.toks) fun b o e => Heap.get?_push_of_some _ e, wq a _, ⟨_, Heap.get?_push_size _ rfl, rfl, rfl⟩, fun b hb => ?_, q⟩
    have e : b = s1.heap.objs.size := by simpa using hb
    subst e
    exact I1.xa (Nat.le_refl _) (I1.hok.fresh (Nat.le_refl _))
  · obtain ⟨its, rv, p, hz⟩ := I1.tuple hq
    refine wpAny_pyIter_tuple (show s1.heap.IsTuple a its.toArray from p) ?_
    refine ⟨s1.heap.objs.size, [s1.heap.objs.size], _, _, H1, rfl, I1.kept (t' := s1.toks) fun b o e => Heap.get?_push_of_some _ e, tK a _, ⟨_, Heap.get?_push_size _ rfl, rfl, rfl⟩, fun b hb => ?_, q⟩
    have e : b = s1.heap.objs.size := by simpa using hb
    subst e
    exact I1.xa (Nat.le_refl _) (I1.hok.fresh (Nat.le_refl _))
theorem wB {K : PySem.W.Frag} {α : List Addr} {H : Hp} {a : Addr} {ds : List D} {vs : List V} (hq' : H a = some (.tup vs)) (rs : aq K g α H ds vs) : Reads K g (Itt K a) (Src.snap ds).rdr α H := by
  intro α2 H2 h2 x2 hr i
  have hq2 : SqT K H2 a vs := SqT.of (x2.tup _ _ hq')
  have rs2 := rs.ext x2
  show match some ds[i]? with | none => True | some none => _ | some (some d) => _
  cases e : ds[i]? with
  | none =>
    have : ds.length <= i := List.getElem?_eq_none_iff.mp e
    exact ⟨vs, hq2, by rw [<- rs.length]; exact this⟩
  | some d =>
    obtain ⟨v, ev, rv⟩ := rs2.get e
    refine ⟨⟨vs, v, hq2, ev⟩, fun x H' y => ?_⟩
    obtain ⟨e1, e2⟩ := y
    subst e1
    have := e2 vs hq2
    rw [ev] at this
    cases this
    exact ⟨α2, Ext.refl, hr, rv⟩
theorem oZ {K : PySem.W.Frag} {α : List Addr} {H : Hp} {a : Addr} {ds : List D} {vs : List V} (hq : Fro K H a vs) (rs : aq K g α H ds vs) : Reads K g (Itl K a) (Src.snap ds).rdr α H := by
  intro α2 H2 h2 x2 hr i
  have hq2 := x2.fro _ _ hq
  have rs2 := rs.ext x2
  show match some ds[i]? with | none => True | some none => _ | some (some d) => _
  cases e : ds[i]? with
  | none =>
    have : ds.length <= i := List.getElem?_eq_none_iff.mp e
    exact ⟨vs, hq2.sq, by rw [<- rs.length]; exact this⟩
  | some d =>
    obtain ⟨v, ev, rv⟩ := rs2.get e
    refine ⟨⟨vs, v, hq2.sq, ev⟩, fun x H' y => ?_⟩
    obtain ⟨e1, e2⟩ := y
    subst e1
    have := e2 vs hq2.sq
    rw [ev] at this
    cases this
    exact ⟨α2, Ext.refl, hr, rv⟩
theorem xo {K : PySem.W.Frag} {α : List Addr} {H : Hp} {a : Addr} {n : Nat} (ha : α[n]? = some a) : Reads K g (Itl K a) (Src.live n).rdr α H := by
  intro α2 H2 h2 x2 hr i
  show match (aw h2 n).map fun ds => ds[i]? with | none => True | some none => _ | some (some d) => _
  cases e : aw h2 n with
  | none => trivial
  | some ds =>
    obtain ⟨vs, hq', rs⟩ := hr.lst e (x2.get ha)
    have hq : SqL K H2 a vs := SqL.of hq'
    show match some ds[i]? with | none => True | some none => _ | some (some d) => _
    cases ei : ds[i]? with
    | none =>
      have : ds.length <= i := List.getElem?_eq_none_iff.mp ei
      exact ⟨vs, hq, by rw [<- rs.length]; exact this⟩
    | some d =>
      obtain ⟨v, ev, rv⟩ := rs.get ei
      refine ⟨⟨vs, v, hq, ev⟩, fun x H' y => ?_⟩
      obtain ⟨e1, e2⟩ := y
      subst e1
      have := e2 vs hq
      rw [ev] at this
      cases this
      exact ⟨α2, Ext.refl, hr, rv⟩
theorem fN {tg e : Expr} {me : ME} (he : PE X e (tM X.K g ε me)) : PI X tg e (tMI X.K g ε (dm me)) :=
  PI.imp (EG he) fun σ H T ⟨α, env, h, s, w⟩ => tM.use s w.bind fun d1 h1 v1 H1 α1 e1 s1 r1 w1 => by
    unfold wH at w1
    cases r1 with
    | tup hq rs => exact ⟨_, rfl, .inr ⟨⟨_, SqT.of hq⟩, w1 _ H1 α1 e1 s1.heap (wB hq rs)⟩⟩
    | frl hq rs => exact ⟨_, rfl, .inl ⟨⟨_, hq.sq⟩, w1 _ H1 α1 e1 s1.heap (oZ hq.fro rs)⟩⟩
    | scr hq rs => exact ⟨_, rfl, .inl ⟨⟨_, hq.sq⟩, w1 _ H1 α1 e1 s1.heap (oZ hq rs)⟩⟩
    | @ref n p hp =>
      cases el : aw h1 n with
      | none => simp only [el] at w1; exact w1.elim
      | some ds =>
        simp only [el] at w1
        obtain ⟨vs, hq, _⟩ := s1.heap.lst el hp
        exact ⟨p, rfl, .inl ⟨⟨_, SqL.of hq⟩, w1 _ H1 α1 e1 s1.heap (xo hp)⟩⟩
    | _ => exact w1.elim
noncomputable def eh (ds : List D) : List D := (List.range ds.length).map fun (i : Nat) => D.tup [.int i, ds.getD i .non]
noncomputable def o8 : D -> Hh -> R Src
  | .tup ds, h => .ok (.snap (eh ds)) h
  | .frl ds, h => .ok (.snap (eh ds)) h
  | .ref n, h => match aw h n with
    | some _ => .ok (.liveE n) h
    | none => .bad
  | _, _ => .bad
noncomputable def fC (a : ME) : MI := fun env h => (a env h).bind o8
theorem pD {ds : List D} {i : Nat} : (eh ds)[i]? = (ds[i]?).map fun d => D.tup [.int i, d] := by
  unfold eh
  rw [List.getElem?_map]
  by_cases hi : i < ds.length
  · have e : ds.getD i .non = ds[i] := by rw [List.getD_eq_getElem?_getD, List.getElem?_eq_getElem hi]; rfl
    rw [List.getElem?_range hi, List.getElem?_eq_getElem hi, Option.map_some, Option.map_some, e]
  · rw [List.getElem?_eq_none (by simpa using hi), List.getElem?_eq_none (by omega)]; rfl
theorem mU {K : PySem.W.Frag} {α : List Addr} {H : Hp} {h : Hh} {i : Nat} {d : D} {v : V} {p : Addr} (hr : aN K g α H h) (rv : aG K g α H d v) (hp : H p = none) :
    ∃ α', Ext K α H α' (upd H p (.tup [.int i, v])) /\ aN K g α' (upd H p (.tup [.int i, v])) h /\ aG K g α' (upd H p (.tup [.int i, v])) (.tup [.int i, d]) (.ref p) :=
  ⟨α, Ext.fresh hp, hr.grow hp, .tup aH (.cons (.int _) (.cons (rv.ext (Ext.fresh hp)) .nil))⟩
theorem sC {K : PySem.W.Frag} {α : List Addr} {H : Hp} {a : Addr} {ds : List D} {vs : List V} (hq' : H a = some (.tup vs)) (rs : aq K g α H ds vs) : Reads K g (Iet K a) (Src.snap (eh ds)).rdr α H := by
  intro α2 H2 h2 x2 hr i
  have hq2 : SqT K H2 a vs := SqT.of (x2.tup _ _ hq')
  have rs2 := rs.ext x2
  show match some (eh ds)[i]? with | none => True | some none => _ | some (some d) => _
  rw [pD]
  cases e : ds[i]? with
  | none =>
    have : ds.length <= i := List.getElem?_eq_none_iff.mp e
    exact ⟨vs, hq2, by rw [<- rs.length]; exact this⟩
  | some d =>
    obtain ⟨v, ev, rv⟩ := rs2.get e
    refine ⟨⟨vs, v, hq2, ev⟩, fun x H' y => ?_⟩
    obtain ⟨p, v', e1, hp, e2, e3⟩ := y
    subst e1 e3
    have := e2 vs hq2
    rw [ev] at this
    cases this
    exact mU hr rv hp
theorem sd {K : PySem.W.Frag} {α : List Addr} {H : Hp} {a : Addr} {ds : List D} {vs : List V} (hq : Fro K H a vs) (rs : aq K g α H ds vs) : Reads K g (Iel K a) (Src.snap (eh ds)).rdr α H := by
  intro α2 H2 h2 x2 hr i
  have hq2 : SqL K H2 a vs := (x2.fro _ _ hq).sq
  have rs2 := rs.ext x2
  show match some (eh ds)[i]? with | none => True | some none => _ | some (some d) => _
  rw [pD]
  cases e : ds[i]? with
  | none =>
    have : ds.length <= i := List.getElem?_eq_none_iff.mp e
    exact ⟨vs, hq2, by rw [<- rs.length]; exact this⟩
  | some d =>
    obtain ⟨v, ev, rv⟩ := rs2.get e
    refine ⟨⟨vs, v, hq2, ev⟩, fun x H' y => ?_⟩
    obtain ⟨p, v', e1, hp, e2, e3⟩ := y
    subst e1 e3
    have := e2 vs hq2
    rw [ev] at this
    cases this
    exact mU hr rv hp
theorem sA {K : PySem.W.Frag} {α : List Addr} {H : Hp} {a : Addr} {n : Nat} (ha : α[n]? = some a) : Reads K g (Iel K a) (Src.liveE n).rdr α H := by
  intro α2 H2 h2 x2 hr i
  show match (aw h2 n).map fun ds => (ds[i]?).map fun d => D.tup [.int i, d] with | none => True | some none => _ | some (some d) => _
  cases e : aw h2 n with
  | none => trivial
  | some ds =>
    obtain ⟨vs, hq', rs⟩ := hr.lst e (x2.get ha)
    have hq : SqL K H2 a vs := SqL.of hq'
    show match some ((ds[i]?).map fun d => D.tup [.int i, d]) with | none => True | some none => _ | some (some d) => _
    cases ei : ds[i]? with
    | none =>
      have : ds.length <= i := List.getElem?_eq_none_iff.mp ei
      exact ⟨vs, hq, by rw [<- rs.length]; exact this⟩
    | some d =>
      obtain ⟨v, ev, rv⟩ := rs.get ei
      refine ⟨⟨vs, v, hq, ev⟩, fun x H' y => ?_⟩
      obtain ⟨p, v', e1, hp, e2, e3⟩ := y
      subst e1 e3
      have := e2 vs hq
      rw [ev] at this
      cases this
      exact mU hr rv hp
theorem j4 {elts : List Expr} {kt : Nat} {tp p pos : Pos} {e : Expr} {me : ME} (hg : Gl X "enumerate") (hm : X.mg "enumerate" = none) (he : PE X e (tM X.K g ε me)) (hs : starEach [e] X.env = [(false, eval e X.env)] := by rfl) : PI X (.Tuple elts kt tp) (.Call (.Name "enumerate" p) [e] [] pos) (tMI X.K g ε (fC me)) :=
  PI.imp (BX hg hm he hs) fun σ H T ⟨α, env, h, s, w⟩ => tM.use s w.bind fun d1 h1 v1 H1 α1 e1 s1 r1 w1 => by
    unfold o8 at w1
    cases r1 with
    | tup hq rs => exact ⟨_, rfl, .inr ⟨⟨_, SqT.of hq⟩, w1 _ H1 α1 e1 s1.heap (sC hq rs)⟩⟩
    | frl hq rs => exact ⟨_, rfl, .inl ⟨⟨_, hq.sq⟩, w1 _ H1 α1 e1 s1.heap (sd hq.fro rs)⟩⟩
    | @ref n p hp =>
      cases el : aw h1 n with
      | none => simp only [el] at w1; exact w1.elim
      | some ds =>
        simp only [el] at w1
        obtain ⟨vs, hq, _⟩ := s1.heap.lst el hp
        exact ⟨p, rfl, .inl ⟨⟨_, SqL.of hq⟩, w1 _ H1 α1 e1 s1.heap (sA hp)⟩⟩
    | _ => exact w1.elim
noncomputable def bS (lo : Int) (n : Nat) : List D := (List.range n).map fun (i : Nat) => D.int (lo + i)
noncomputable def jW : List D -> Hh -> R Src
  | [.int j], h => if j.natAbs <= 1000000 then .ok (.snap (bS 0 j.toNat)) h else .bad
  | _, _ => .bad
noncomputable def iq (f : List D -> Hh -> R Src) (a : MA) : MI := fun env h => (a env h).bind f
theorem wm {K : PySem.W.Frag} {α : List Addr} {H : Hp} {lo : Int} {n : Nat} : Reads K g (Itr lo n) (Src.snap (bS lo n)).rdr α H := by
  intro α2 H2 h2 x2 hr i
  show match some (bS lo n)[i]? with | none => True | some none => _ | some (some d) => _
  unfold bS
  rw [List.getElem?_map]
  by_cases hi : i < n
  · rw [List.getElem?_range hi]
    refine ⟨hi, fun x H' y => ?_⟩
    obtain ⟨e1, e2⟩ := y
    subst e1 e2
    exact ⟨α2, Ext.refl, hr, .int _⟩
  · rw [List.getElem?_eq_none (by simpa using hi)]
    exact Nat.le_of_not_lt hi
theorem j8 {tg a : Expr} {ma : MA} {p pos : Pos} (hg : Gl X "range") (hm : X.mg "range" = none) (ha : PA X [a] (tMA X.K g ε ma)) (hs : starEach [a] X.env = [(false, eval a X.env)] := by rfl) : PI X tg (.Call (.Name "range" p) [a] [] pos) (tMI X.K g ε (iq jW ma)) :=
  PI.imp (wZ hg hm ha hs) fun σ H T ⟨α, env, h, s, w⟩ => tMA.use s w.bind fun d1 h1 v1 H1 α1 e1 s1 r1 w1 => by
    unfold jW at w1
    cases r1 with
    | nil => exact w1.elim
    | cons ra rr =>
      cases rr with
      | cons _ _ => cases ra <;> exact w1.elim
      | nil =>
        cases ra with
        | int j =>
          obtain ⟨hj, w2⟩ := WQ.dG w1
          exact ⟨j, rfl, by omega, by omega, w2 _ H1 α1 e1 s1.heap wm⟩
        | _ => exact w1.elim
noncomputable def eD (c : MT) (b : MS) : Nat -> En -> Hh -> R Fl
  | 0, _, _ => .bad
  | k + 1, env, h => (c env h).bind fun x h1 => if x = true then (b env h1).bind fun fl h2 => match fl with
      | .nx e => eD c b k e h2
      | .ct e => eD c b k e h2
      | .bk e => .ok (.nx e) h2
      | .rt d => .ok (.rt d) h2
    else .ok (.nx env) h1
noncomputable def kD (fuel : Nat) (c : MT) (b : MS) : MS := fun env h => eD c b fuel env h
theorem vk {c : Expr} {body : List Stmt} {mc : MT} {mb : MS} {pos : Pos} (fuel : Nat) (hp : PassesOwn (model X.prog X.w) X.A X.env X.xe) (hc : PT X c (tMT X.K g ε mc)) (hb : PSs X body (tMS X.K g ε mb)) : PS X (.While c body [] pos) (tMS X.K g ε (kD fuel mc mb)) := by
  refine PS.imp (xY hp hc hb) fun E σ H ⟨α, env, h, s, w⟩ => ?_
  refine ⟨fun m σ H => ∃ α env h, cW X.K g α H env σ h /\ WQ X.K g ε α H (eD mc mb m env h) (cN X.K g α H E), ⟨fuel, α, env, h, s, w⟩, ?_⟩
  rintro m σ2 H2 ⟨α2, env2, h2, s2, w2⟩
  cases m with
  | zero => exact w2.elim
  | succ m =>
    refine tMT.use s2 (WQ.bind (show WQ X.K g ε α2 H2 ((mc env2 h2).bind _) _ from w2)) fun b h3 H3 α3 x3 s3 w3 => ?_
    cases b with
    | false => rw [if_neg Bool.false_ne_true] at w3 ⊢; exact s3.nx x3 w3
    | true =>
      rw [if_pos rfl] at w3 ⊢
      refine ⟨fun σ' H' => ∃ α env h, cW X.K g α H' env σ' h /\ WQ X.K g ε α H' (eD mc mb m env h) (cN X.K g α H' E), fun σ' H' z => ⟨m, Nat.lt_succ_self _, z⟩, ?_⟩
      refine tMS.use s3 (w3.ext x3).bind fun fl h5 H5 α5 x5 hr5 w5 => ?_
      have tr : Ext X.K α2 H2 α5 H5 := x3.trans x5
      cases fl with
      | nx e => exact fun σ' s' => ⟨α5, e, h5, s', (w5.ext x5).mono fun _ _ _ p => p.ext tr⟩
      | ct e => exact fun σ' s' => ⟨α5, e, h5, s', (w5.ext x5).mono fun _ _ _ p => p.ext tr⟩
      | bk e => exact fun σ' s' => (show cN X.K g α2 H2 E (.nx e) h5 from w5) H5 α5 tr hr5 σ' s'.vs
      | rt d => exact fun v rv => (show cN X.K g α2 H2 E (.rt d) h5 from w5) H5 α5 tr hr5 v rv
end
noncomputable abbrev E00 : EE := fun _ _ _ => False
noncomputable abbrev MF := List D -> Hh -> R D
noncomputable def cf (n : Nat) (m : MS) : MF := fun ds h => (m (ds.map some ++ List.replicate (n - ds.length) none) h).bind fun fl h1 => match fl with
  | .rt d => .ok d h1
  | .nx _ => .ok .non h1
  | _ => .bad
noncomputable def spG (K : PySem.W.Frag) (g : GG) (ε : XK -> EE) (np : Nat) (m : MF) : Sp := fun vs H Q E => vs.length = np /\ ∃ α ds h, aq K g α H ds vs /\ aN K g α H h /\ WQ K g (ε E) α H (m ds h) (aE K g α H Q)
noncomputable abbrev spM (K : PySem.W.Frag) (g : GG) (np : Nat) (m : MF) : Sp := spG K g (fun _ => E00) np m
theorem kT {K : PySem.W.Frag} {g : GG} {α : List Addr} {H : Hp} {N : List Str} {ds : List D} {vs : List V} (r : aq K g α H ds vs) : iM K g α H (ds.map some ++ List.replicate (N.length - ds.length) none) (start N vs) := by
  have hl := r.length
  refine ⟨by simp [start, hl], fun i d h => ?_⟩
  by_cases hi : i < ds.length
  · rw [List.getElem?_append_left (by simpa using hi), List.getElem?_map] at h
    cases e : ds[i]? with
    | none => rw [e] at h; cases h
    | some d' =>
      rw [e] at h
      cases h
      obtain ⟨v, ev, rv⟩ := r.get e
      refine ⟨v, ?_, rv⟩
      unfold start
      rw [List.getElem?_append_left (by simp; omega), List.getElem?_map, ev]
      rfl
  · rw [List.getElem?_append_right (by simpa using hi), List.getElem?_replicate] at h
    split at h <;> cases h
section
variable {P : Program} {w : World} {K : PySem.W.Frag} {mg : Str -> Option Value} {base : Heap} {g : GG}
theorem gD {x qual : Str} {st : Stmt} {f : Addr} {fd : FuncData} {N ps : List Str} {k : Nat} {mb : MS} (F : Fun K x qual st f fd) (S : aS N ps (ak st))
    (hb : ∀ (cdv : Value) (A : Around) (outer : List Env) (s : Shared) (H : Hp) (E : XK), dq k (A.deeper (envOfC qual (ak st) s.heap.objs.size f cdv)) →
      PSs (jl CX0 P w K mg base N qual (ak st) f cdv A outer s H E).nox (d_ st) (tMS K g E00 mb)) : dQ P w K mg base CX0 (k + 1) f fd ps (spM K g ps.length (cf N.length mb)) := by
  refine F.ok S (fun vs H Q E h => h.1) fun cdv A outer s H vs Q E hr h => ⟨_, hb cdv A outer s H E hr, ?_⟩
  obtain ⟨hl, α, ds, h, rs, hh, w⟩ := h
  refine tMS.use ⟨hh, kT rs⟩ w.bind fun fl h' H' α' e r kk => ?_
  cases fl with
  | nx e' => exact fun σ' s' => (show aE K g α H Q .non h' from kk) _ H' α' e r .non
  | bk e' => exact kk.elim
  | ct e' => exact kk.elim
  | rt d => exact fun v rv => (show aE K g α H Q d h' from kk) _ H' α' e r rv
end
section
variable {X : Cx} {g : GG}
theorem aP {k : Nat} {f : Addr} {fd : FuncData} {ps : List Str} {m : MF} {np : Nat} {x : Str} {p pos : Pos} {e : Expr} {es : List Expr} {mr : MA} (F : dQ X.prog X.w X.K X.mg X.base CX0 k f fd ps (spM X.K g np m)) (hr : dq k X.A) (hg : Gl X x) (hm : X.mg x = some (.ref f)) (hk : PySem.W.keepIn X.K (.ref f) = true) (hb : Binds X.K fd ps [])
    (ha : PA X (e :: es) (tMA X.K g E00 mr)) (hlen : ∀ env h ds h', mr env h = .ok ds h' -> ds.length = np) (hdb : (x == ("__debug__" : Str)) = false := by decide) (he : starEach (e :: es) X.env = (false, eval e X.env) :: starEach es X.env := by rfl) (hpl : (backTo pos (starEach es X.env)).any (·.1) = false := by rfl) :
    PE X (.Call (.Name x p) (e :: es) [] pos) (tM X.K g E00 (ah m mr)) :=
  PE.imp (uC F hr hg hm hk hb .nil GH ha hdb he hpl) fun σ H Q ⟨α, env, h, s, w⟩ => ⟨α, env, h, s, w.bind.mono fun d1 h1 eq w1 v1 H1 α1 e1 hr1 r1 => by
    show spM X.K g np m (v1 ++ []) H1 Q E0
    rw [List.append_nil]
    refine ⟨?_, α1, d1, h1, r1, hr1, w1.post e1⟩
    rw [<- r1.length]
    exact hlen env h d1 h1 eq⟩
theorem aJ : ∀ env h ds h', ai env h = .ok ds h' -> ds.length = 0 := fun env h ds h' e => by cases e; rfl
theorem ao {a : ME} {r : MA} {n : Nat} (q : ∀ env h ds h', r env h = .ok ds h' -> ds.length = n) : ∀ env h ds h', aa a r env h = .ok ds h' -> ds.length = n + 1 := fun env h ds h' e => by
  unfold aa at e
  cases e1 : a env h with
  | ok d h1 =>
    rw [e1] at e
    cases e2 : r env h1 with
    | ok ds2 h2 =>
      have e3 : (R.ok (d :: ds2) h2 : R (List D)) = .ok ds h' := by simpa [R.bind, e2] using e
      cases e3
      simp [q env h1 ds2 h' e2]
    | err x h2 => simp [R.bind, e2] at e
    | bad => simp [R.bind, e2] at e
  | err x h2 => rw [e1] at e; cases e
  | bad => rw [e1] at e; cases e
end
noncomputable def h_ (ix : List Nat) (env : En) (d : D) : En := some d :: ix.map fun i => (env[i]?).join
noncomputable def tt1 : MT := fun _ h => .ok true h
noncomputable def fH (rd : Rdr) (tt : MT) (te : ME) (ee : D -> En) : Nat -> Nat -> List D -> Hh -> R (List D)
  | k, i, acc, h => match rd h i with
    | none => .bad
    | some none => .ok acc h
    | some (some d) => match k with
      | 0 => .bad
      | k + 1 => (tt (ee d) h).bind fun b h1 => if b = true then (te (ee d) h1).bind fun y h2 => fH rd tt te ee k (i + 1) (acc ++ [y]) h2 else fH rd tt te ee k (i + 1) acc h1
noncomputable def dD (tt : MT) (te : ME) (ee : D -> En) : List D -> Hh -> R (List D)
  | [], h => .ok [] h
  | d :: ds, h => (tt (ee d) h).bind fun b h1 => if b = true then (te (ee d) h1).bind fun y h2 => (dD tt te ee ds h2).bind fun ys h3 => .ok (y :: ys) h3 else dD tt te ee ds h1
theorem bA {β γ δ : Type} (r : R β) (f : β -> Hh -> R γ) (k : γ -> Hh -> R δ) : (r.bind f).bind k = r.bind fun b h => (f b h).bind k := by cases r <;> rfl
theorem yS (tt : MT) (te : ME) (ee : D -> En) (all : List D) : ∀ (ds : List D) (i : Nat) (acc : List D) (h : Hh), all.drop i = ds -> fH (Src.snap all).rdr tt te ee ds.length i acc h = (dD tt te ee ds h).bind fun ys h' => .ok (acc ++ ys) h' := by
  intro ds
  induction ds with
  | nil =>
    intro i acc h e
    have : all[i]? = none := by
      have := congrArg List.length e
      simp at this
      exact List.getElem?_eq_none (by omega)
    unfold fH dD Src.rdr
    simp [this, R.bind]
  | cons d ds ih =>
    intro i acc h e
    have h0 : all[i]? = some d := by
      have := congrArg (fun l => l[0]?) e
      simpa using this
    have h1 : all.drop (i + 1) = ds := by
      have := congrArg List.tail e
      simpa using this
    unfold fH dD
    have : (Src.snap all).rdr h i = some (some d) := by unfold Src.rdr; simp [h0]
    rw [this]
    show ((tt (ee d) h).bind _) = _
    rw [bA]
    congr 1
    funext b h2
    cases b with
    | false => rw [if_neg Bool.false_ne_true, if_neg Bool.false_ne_true]; exact ih (i + 1) acc h2 h1
    | true =>
      rw [if_pos rfl, if_pos rfl, bA]
      congr 1
      funext y h3
      rw [bA]
      have := ih (i + 1) (acc ++ [y]) h3 h1
      rw [this]
      congr 1
      funext ys h4
      show R.ok (acc ++ [y] ++ ys) h4 = R.ok (acc ++ (y :: ys)) h4
      simp
noncomputable def eg (nl : NL) (mi : MI) (ix : List Nat) (tt : MT) (te : ME) : ME := fun env h => (mi env h).bind fun sr h1 => if sr.fuel h1 <= 1000000 then
  (match sr with
    | .snap ds => dD tt te (h_ ix env) ds h1
    | .live n => fH (Src.live n).rdr tt te (h_ ix env) ((aw h1 n).getD []).length 0 [] h1
    | .liveE n => fH (Src.liveE n).rdr tt te (h_ ix env) ((aw h1 n).getD []).length 0 [] h1).bind nl else .bad
theorem sV {nl : NL} {mi : MI} {ix : List Nat} {tt : MT} {te : ME} {env : En} {h : Hh} : eg nl mi ix tt te env h = (mi env h).bind fun sr h1 => if sr.fuel h1 <= 1000000 then (fH sr.rdr tt te (h_ ix env) (sr.fuel h1) 0 [] h1).bind nl else .bad := by
  unfold eg
  congr 1
  funext sr h1
  cases sr with
  | snap ds =>
    have := yS tt te (h_ ix env) ds ds 0 [] h1 rfl
    simp only [List.nil_append] at this
    have e : (Src.snap ds).fuel h1 = ds.length := rfl
    rw [e, this, bA]
    rfl
  | live n => rfl
  | liveE n => rfl
theorem vt {K : PySem.W.Frag} {g : GG} {α : List Addr} {H : Hp} {env : En} {σ : St} {ix : List Nat} {d : D} {v : V} (s : iM K g α H env σ) (r : aG K g α H d v) : iM K g α H (h_ ix env d) ((ng ix σ).set 0 (some v)) := by
  refine ⟨by simp [h_, ng], fun i e h => ?_⟩
  cases i with
  | zero =>
    have : d = e := by simpa [h_] using h
    subst this
    exact ⟨v, by simp [ng], r⟩
  | succ i =>
    have h' : (ix.map fun i => (env[i]?).join)[i]? = some (some e) := by simpa [h_] using h
    rw [List.getElem?_map] at h'
    cases ei : ix[i]? with
    | none => rw [ei] at h'; cases h'
    | some j =>
      rw [ei] at h'
      have h2 : (env[j]?).join = some e := by simpa using h'
      cases ej : env[j]? with
      | none => rw [ej] at h2; cases h2
      | some oe =>
        rw [ej] at h2
        have h3 : oe = some e := by simpa using h2
        subst h3
        obtain ⟨u, eu, ru⟩ := s.vars j e ej
        refine ⟨u, ?_, ru⟩
        simp only [ng, List.set_cons_zero, List.getElem?_cons_succ, List.getElem?_map, ei, Option.map_some, eu]
        rfl
section
variable {X : Cx} {g : GG}
theorem uk : PTs X [] (tMT X.K g E00 tt1) := fun pins s σ H Q I ⟨α, env, h, s', w⟩ => Br pins s σ H Q I (w H α Ext.refl s'.heap)
theorem qc {c : Expr} {mt : MT} (h : PT X c (tMT X.K g E00 mt)) : PTs X [c] (tMT X.K g E00 mt) := Cq h
theorem zJ {K : PySem.W.Frag} {nl : NL} [iF nl] {mi : MI} {tt : MT} {te : ME} {ix : List Nat} {σ : St} {H : Hp} {Q R : VK} (hR : ∀ v H, i4 Q v H -> R v H) (t : tM K g E00 (eg nl mi ix tt te) σ H Q) : De (tMI K g E00 mi) ix (tMT K g E00 tt) (tM K g E00 te) σ H R := by
  obtain ⟨α, env, h, s, w⟩ := t
  rw [sV] at w
  refine ⟨α, env, h, s, w.bind.mono fun sr h1 _ w1 J H1 α1 e1 hr1 rd => fun acc hacc => ?_⟩
  obtain ⟨hf, w1⟩ := WQ.dG w1
  have s1 := s.ext e1 hr1
  refine ⟨fun i m ys H => ∃ α h as, Ext K α1 H1 α H /\ aN K g α H h /\ aq K g α H as ys /\ H acc = some (.lst ys) /\ acc ∉ α /\ as.length + m <= 1000000 ∧
    WQ K g E00 α1 H1 ((fH sr.rdr tt te (h_ ix env) m i as h).bind nl) (aE K g α1 H1 Q),
    ⟨sr.fuel h1, α1, h1, [], Ext.fresh hacc, hr1.grow hacc, .nil, aH, hr1.free hacc, by simpa using hf, w1.post e1⟩, ?_⟩
  rintro i m ys H2 ⟨α2, h2, as, x2, hr2, ra, ha, hna, hm, w2⟩
  have q := rd α2 H2 h2 x2 hr2 i
  unfold fH at w2
  cases e : sr.rdr h2 i with
  | none => rw [e] at w2; exact w2.elim
  | some od =>
    rw [e] at w2 q
    cases od with
    | none =>
      refine .inl ⟨q, ?_⟩
      exact hR _ _ <| iF.at' (show WQ K g E00 α1 H1 (nl as h2) _ from w2) (fun _ _ z => z) x2 hr2 ra ha hna hacc
    | some d =>
      cases m with
      | zero => exact w2.elim
      | succ m =>
        rw [bA] at w2
        have w3 := WQ.bind (show WQ K g E00 α1 H1 ((tt (h_ ix env d) h2).bind _) _ from w2)
        refine .inr ⟨q.1, fun x H3 y => ?_⟩
        obtain ⟨α3, x3, hr3, rx⟩ := q.2 x H3 y
        have ha3 := x3.keep _ _ ha hna
        have hna3 : acc ∉ α3 := fun z => by have := x3.new _ z hna; rw [ha] at this; cases this
        have s3 : cW K g α3 H3 (h_ ix env d) ((ng ix σ).set 0 (some x)) h2 := ⟨hr3, vt (s1.vs.ext (x2.trans x3)) rx⟩
        refine tMT.use s3 ((w3.ext x2).ext x3) fun b h4 H4 α4 x4 s4 w4 => ?_
        have ha4 := x4.keep _ _ ha3 hna3
        have hna4 : acc ∉ α4 := fun z => by have := x4.new _ z hna3; rw [ha3] at this; cases this
        cases b with
        | false =>
          rw [if_neg Bool.false_ne_true] at w4 ⊢
          exact ⟨m, Nat.lt_succ_self _, α4, h4, as, x2.trans (x3.trans x4), s4.heap, ra.ext (x3.trans x4), ha4, hna4, by omega, w4⟩
        | true =>
          rw [if_pos rfl] at w4 ⊢
          rw [bA] at w4
          refine tM.use s4 (((WQ.bind w4).ext x2).ext (x3.trans x4)) fun y h5 v5 H5 α5 x5 s5 r5 w5 => ?_
          have ha5 := x5.keep _ _ ha4 hna4
          have hna5 : acc ∉ α5 := fun z => by have := x5.new _ z hna4; rw [ha4] at this; cases this
          have soft : z0 H5 acc := .inr ⟨_, ha5, fun _ z => (nomatch z), fun _ _ z => nomatch z⟩
          have x6 : Ex0 K α5 H5 α5 (upd H5 acc (.lst (ys ++ [v5]))) := Ex0.upd soft
          have tr := x2.trans (x3.trans (x4.trans x5))
          refine ⟨ha5, ?_, m, Nat.lt_succ_self _, α5, h5, as ++ [y], ⟨tr.toEx0.trans x6, fun p o z n => ?_, tr.new⟩, s5.heap.off soft hna5, ((ra.ext (x3.trans (x4.trans x5))).append (.cons r5 .nil)).ex0 x6, aH, hna5, by rw [List.length_append]; simp; omega, w5⟩
          · rw [<- ra.length, sizeLine_eq]; omega
          · rw [aA (aQ z hacc)]; exact tr.keep p o z n
noncomputable def unp {β : Type} (m : En -> Hh -> R β) : En -> Hh -> R β := fun env h => match env with
  | some (.tup [x, y]) :: r => m (some x :: some y :: r) h
  | _ => .bad
theorem Dx {K : PySem.W.Frag} {g : GG} {ε : EE} {α α' : List Addr} {H H' : Hp} {β : Type} {m : En -> Hh -> R β} {d : D} {x : V} {r : En} {h : Hh} {k : β -> Hh -> Prop} (rx : aG K g α H d x) (w : WQ K g ε α' H' (unp m (some d :: r) h) k) :
    ∃ a b p va vb, d = .tup [a, b] /\ x = .ref p /\ H p = some (.tup [va, vb]) /\ aG K g α H a va /\ aG K g α H b vb /\ WQ K g ε α' H' (m (some a :: some b :: r) h) k := by
  cases rx with
  | tup hp rs =>
    cases rs with
    | nil => exact w.elim
    | cons ra rr =>
      cases rr with
      | nil => exact w.elim
      | cons rb rr =>
        cases rr with
        | nil => exact ⟨_, _, _, _, _, rfl, rfl, hp, ra, rb, w⟩
        | cons _ _ => exact w.elim
  | _ => exact w.elim
theorem zC {K : PySem.W.Frag} {g : GG} {α : List Addr} {H : Hp} {env : En} {σ : St} {ix : List Nat} {d e : D} {v u : V} (s : iM K g α H env σ) (r : aG K g α H d v) (q : aG K g α H e u) : iM K g α H (some d :: some e :: ix.map fun i => (env[i]?).join) (some v :: some u :: ix.map fun i => (σ[i]?).join) := by
  have z := vt (ix := ix) s q
  have e1 : (ng ix σ).set 0 (some u) = some u :: ix.map fun i => (σ[i]?).join := rfl
  rw [e1] at z
  refine ⟨by simp, fun i x h => ?_⟩
  cases i with
  | zero => have : d = x := by simpa using h
            subst this; exact ⟨v, rfl, r⟩
  | succ i =>
    obtain ⟨y, ey, ry⟩ := z.vars i x (by simpa [h_] using h)
    exact ⟨y, by simpa using ey, ry⟩
theorem xu {K : PySem.W.Frag} {nl : NL} [iF nl] {mi : MI} {tt : MT} {te : ME} {ix : List Nat} {σ : St} {H : Hp} {Q R : VK} (hR : ∀ v H, i4 Q v H -> R v H) (t : tM K g E00 (eg nl mi ix (unp tt) (unp te)) σ H Q) : rn (tMI K g E00 mi) 2 ix (Ae K 2 (jQ (eC 0) (jQ (eC 1) yR))) (tMT K g E00 tt) (tM K g E00 te) σ H R := by
  obtain ⟨α, env, h, s, w⟩ := t
  rw [sV] at w
  refine ⟨α, env, h, s, w.bind.mono fun sr h1 _ w1 J H1 α1 e1 hr1 rd => fun acc hacc => ?_⟩
  obtain ⟨hf, w1⟩ := WQ.dG w1
  have s1 := s.ext e1 hr1
  refine ⟨fun i m ys H => ∃ α h as, Ext K α1 H1 α H /\ aN K g α H h /\ aq K g α H as ys /\ H acc = some (.lst ys) /\ acc ∉ α /\ as.length + m <= 1000000 ∧
    WQ K g E00 α1 H1 ((fH sr.rdr (unp tt) (unp te) (h_ ix env) m i as h).bind nl) (aE K g α1 H1 Q),
    ⟨sr.fuel h1, α1, h1, [], Ext.fresh hacc, hr1.grow hacc, .nil, aH, hr1.free hacc, by simpa using hf, w1.post e1⟩, ?_⟩
  rintro i m ys H2 ⟨α2, h2, as, x2, hr2, ra, ha, hna, hm, w2⟩
  have q := rd α2 H2 h2 x2 hr2 i
  unfold fH at w2
  cases e : sr.rdr h2 i with
  | none => rw [e] at w2; exact w2.elim
  | some od =>
    rw [e] at w2 q
    cases od with
    | none =>
      refine .inl ⟨q, ?_⟩
      exact hR _ _ <| iF.at' (show WQ K g E00 α1 H1 (nl as h2) _ from w2) (fun _ _ z => z) x2 hr2 ra ha hna hacc
    | some d =>
      cases m with
      | zero => exact w2.elim
      | succ m =>
        rw [bA] at w2
        have w3 := WQ.bind (show WQ K g E00 α1 H1 ((unp tt (h_ ix env d) h2).bind _) _ from w2)
        refine .inr ⟨q.1, fun σ0 x H3 ⟨ts, tl, e0⟩ y => ?_⟩
        obtain ⟨α3, x3, hr3, rx⟩ := q.2 x H3 y
        have ha3 := x3.keep _ _ ha hna
        have hna3 : acc ∉ α3 := fun z => by have := x3.new _ z hna; rw [ha] at this; cases this
        obtain ⟨da, db, pp, va, vb, rfl, rfl, hq, rda, rdb, w3'⟩ := Dx rx ((w3.ext x2).ext x3)
        obtain ⟨t0, t1, rfl⟩ : ∃ t0 t1, ts = [t0, t1] := by
          match ts, tl with
          | [t0, t1], _ => exact ⟨t0, t1, rfl⟩
        subst e0
        refine ⟨_, _, rfl, SqT.of hq, rfl, _, _, rfl, _, _, rfl, rfl, ⟨[some va, some vb], rfl, rfl⟩, ?_⟩
        have s3 : cW K g α3 H3 (some da :: some db :: ix.map fun i => (env[i]?).join) (some va :: some vb :: ix.map fun i => (σ[i]?).join) h2 := ⟨hr3, zC (s1.vs.ext (x2.trans x3)) rda rdb⟩
        refine tMT.use s3 w3' fun b h4 H4 α4 x4 s4 w4 => ?_
        have ha4 := x4.keep _ _ ha3 hna3
        have hna4 : acc ∉ α4 := fun z => by have := x4.new _ z hna3; rw [ha3] at this; cases this
        cases b with
        | false =>
          rw [if_neg Bool.false_ne_true] at w4 ⊢
          exact ⟨m, Nat.lt_succ_self _, α4, h4, as, x2.trans (x3.trans x4), s4.heap, ra.ext (x3.trans x4), ha4, hna4, by omega, w4⟩
        | true =>
          rw [if_pos rfl] at w4 ⊢
          rw [bA] at w4
          refine tM.use s4 (((WQ.bind w4).ext x2).ext (x3.trans x4)) fun y h5 v5 H5 α5 x5 s5 r5 w5 => ?_
          have ha5 := x5.keep _ _ ha4 hna4
          have hna5 : acc ∉ α5 := fun z => by have := x5.new _ z hna4; rw [ha4] at this; cases this
          have soft : z0 H5 acc := .inr ⟨_, ha5, fun _ z => (nomatch z), fun _ _ z => nomatch z⟩
          have x6 : Ex0 K α5 H5 α5 (upd H5 acc (.lst (ys ++ [v5]))) := Ex0.upd soft
          have tr := x2.trans (x3.trans (x4.trans x5))
          refine ⟨ha5, ?_, m, Nat.lt_succ_self _, α5, h5, as ++ [y], ⟨tr.toEx0.trans x6, fun p o z n => ?_, tr.new⟩, s5.heap.off soft hna5, ((ra.ext (x3.trans (x4.trans x5))).append (.cons r5 .nil)).ex0 x6, aH, hna5, by rw [List.length_append]; simp; omega, w5⟩
          · rw [<- ra.length, sizeLine_eq]; omega
          · rw [aA (aQ z hacc)]; exact tr.keep p o z n
theorem pg2 {X : Cx} {x y : Str} {px py pt : Pos} {kt : Nat} (hc : X.calm = true) (hn : X.N.Nodup) (h0 : X.N[0]? = some x) (h1 : X.N[1]? = some y) (hx : Loc X.env.scope x /\ X.env.scope.names.lookup x = some .local) (hy : Loc X.env.scope y /\ X.env.scope.names.lookup y = some .local) :
    PG X (.Tuple [.Name x px, .Name y py] kt pt) (Ae X.K 2 (jQ (eC 0) (jQ (eC 1) yR))) := lV hc (dk (bf hn h0 hx.1 (.inr hx.2)) (dk (bf hn h1 hy.1 (.inr hy.2)) jK))
theorem m6 {nl : NL} [iF nl] {elt iter : Expr} {x y : Str} {px py pt : Pos} {kt : Nat} {ifs : List Expr} {scope osc : Scope} {pos : Pos} {mi : MI} {tt : MT} {te : ME} (ix : List Nat) (N' : List Str)
    (hxe : X.xe = fun _ _ => False) (hc : X.calm = true) (ho : X.env.scope = osc) (hN : N' = [x, y] ++ ix.map fun i => (X.N[i]?).getD ("" : Str)) (hnd : N'.Nodup)
    (hall : (∀ y ∈ scope.names, y.2 = .free -> osc.names.lookup y.1 = some .cell) /\ (∀ y ∈ scope.names, y.2 ≠ .cell) /\ scope.kind = .function /\ (∀ y ∈ scope.names, y.2 = .local -> scope.names.lookup y.1 = some .local) /\ (∀ z ∈ N'.drop [x, y].length, scope.names.lookup z = some .free))
    (hi : PI X (.Tuple [.Name x px, .Name y py] kt pt) iter (tMI X.K g E00 mi))
    (hx : ∀ cl C ay aC fp, Loc (aW X scope cl C ay aC fp N').env.scope x /\ (aW X scope cl C ay aC fp N').env.scope.names.lookup x = some .local) (hy : ∀ cl C ay aC fp, Loc (aW X scope cl C ay aC fp N').env.scope y /\ (aW X scope cl C ay aC fp N').env.scope.names.lookup y = some .local)
    (ht : ∀ cl C ay aC fp, PTs (aW X scope cl C ay aC fp N') ifs (tMT X.K g E00 tt))
    (he : ∀ cl C ay aC fp, PE (aW X scope cl C ay aC fp N') elt (tM X.K g E00 te))
    (hs : ∀ x, foldedSetIterable iter X.env x = pure x := by intro _; rfl) :
    PE X (.ListComp elt [⟨.Tuple [.Name x px, .Name y py] kt pt, iter, ifs, 0⟩] scope pos) (tM X.K g E00 (eg nl mi ix (unp tt) (unp te))) := by
  refine PE.imp (PE.frz (tw (tgr := Ae X.K 2 (jQ (eC 0) (jQ (eC 1) yR))) ix [x, y] N' hxe hc ho hN hnd hall hi (fun cl C ay aC fp => pg2 (X := aW X scope cl C ay aC fp N') hc hnd (show N'[0]? = some x by rw [hN]; rfl) (show N'[1]? = some y by rw [hN]; rfl) (hx cl C ay aC fp) (hy cl C ay aC fp)) ht he hs)) fun σ H Q t => ?_
  exact xu (fun _ _ z => z) t
end
noncomputable def sml (i : Int) : Bool := decide (i.natAbs < 2 ^ 1900)
theorem mq {i : Int} (h : sml i = true) : Builtin.Int.intBits i <= 1900 := by
  have h' : i.natAbs < 2 ^ 1900 := of_decide_eq_true h
  unfold Builtin.Int.intBits
  split
  · omega
  · rename_i z
    have z' : i.natAbs ≠ 0 := by
      intro q
      apply z
      have : i = 0 := Int.natAbs_eq_zero.mp q
      rw [this]; rfl
    have := (Nat.log2_lt z').mpr h'
    omega
theorem rq {i : Int} (h : sml i = true) : i.natAbs.log2 < 1900 := by
  have h' : i.natAbs < 2 ^ 1900 := of_decide_eq_true h
  by_cases z : i.natAbs = 0
  · rw [z]; decide
  · exact (Nat.log2_lt z).mpr h'
theorem EU {i : Int} (h : i.natAbs <= 10 ^ 560) : sml i = true := by
  refine decide_eq_true (Nat.lt_of_le_of_lt h (by decide +kernel))
section
variable {X : Cx} {K : PySem.W.Frag} {g : GG} {ε : EE}
theorem OpR.or {f : Value -> Value -> Sem Value} {r r' : R2} (h : OpR X f r) (h' : OpR X f r') : OpR X f (fun x y H Q => r x y H Q \/ r' x y H Q) := fun pins s σ H x y v u Q I rx ry q => q.elim (h pins s σ H x y v u Q I rx ry) (h' pins s σ H x y v u Q I rx ry)
noncomputable def hX (d : D) (h : Hh) : Option (List D) := match d with
  | .frl ds => some ds
  | .ref n => aw h n
  | _ => none
theorem qL {α : List Addr} {H : Hp} {h : Hh} {d : D} {x : V} {ds : List D} (r : aN K g α H h) (rd : aG K g α H d x) (e : hX d h = some ds) : ∃ p vs, x = .ref p /\ Rd H p (.lst vs) /\ aq K g α H ds vs := by
  unfold hX at e
  cases rd with
  | frl hq rs => cases e; exact ⟨_, _, rfl, hq.rd, rs⟩
  | ref hp => obtain ⟨vs, hv, rs⟩ := r.lst e hp; exact ⟨_, vs, rfl, .inl hv, rs⟩
  | _ => cases e
noncomputable def C5 : R2 := fun x y H Q => ∃ l b xs zs, x = .ref l /\ y = .ref b /\ Rd H l (.lst xs) /\ Rd H b (.lst zs) /\ xs.length + zs.length <= sizeLine /\ ∀ p, H p = none -> Q (.ref p) (upd H p (.lst (xs ++ zs)))
theorem Ei {X : Cx} {pins : List (Addr × Obj)} {σ : St} {H : Hp} {s : Shared} {l : Addr} {xs : List V} (I : Inv X pins σ H s) (h : Rd H l (.lst xs)) : ∃ (its : List Value) (n : Nat), xs.length <= sizeLine /\ Vals xs its /\ xs.length = its.length /\ s.heap.get? l = some { cls := .type "list", data := .seq its.toArray n } := by
  obtain ⟨z, its, n, r, e⟩ := h.ok I.hok
  exact ⟨its, n, z, r, r.length, e⟩
theorem Bp : OpR X (binaryOp .Add) C5 := by
  intro pins s σ H x y v u Q I rx ry h
  obtain ⟨l, b, xs, zs, rfl, rfl, hH, hB, hz, q⟩ := h
  cases rx
  cases ry
  obtain ⟨its, n, z, r, hl, e⟩ := Ei I hH
  obtain ⟨its2, n2, z2, r2, hl2, e2⟩ := Ei I hB
  refine PySem.P.add_list e e2 ?_ (by rw [List.size_toArray, List.size_toArray]; omega)
  have ea : its.toArray ++ its2.toArray = (its ++ its2).toArray := by simp
  rw [ea]
  exact ⟨.ref _, _, I.Cf (t' := s.toks) (r.append r2) (by rw [List.length_append]; omega), rfl, q _ I.fresh⟩
noncomputable def cL (nl : NL) : D -> D -> Hh -> R D := fun x y h => match x, y with
  | .int i, .int j => .ok (.int (i + j)) h
  | .tup a, .tup b => if a.length + b.length <= 1000000 then .ok (.tup (a ++ b)) h else .bad
  | .str a, .str b => if a.length + b.length <= 1000000 then .ok (.str (a ++ b)) h else .bad
  | x, y => match hX x h, hX y h with
    | some a, some b => if a.length + b.length <= 1000000 then nl (a ++ b) h else .bad
    | _, _ => .bad
noncomputable abbrev zp (K : PySem.W.Frag) : R2 := fun x y H Q => (rI0 fun i j => .int (i + j)) x y H Q \/ (Dg K x y H Q \/ yD K x y H Q) \/ C5 x y H Q \/ ∃ i j, x = .str i /\ y = .str j /\ i.length + j.length <= sizeLine /\ Q (.str (i ++ j)) H
theorem c_ : OpR X (binaryOp .Add) (fun x y H Q => zp X.K x y H (i4 Q)) := OpR.frz (OpR.or E3 (OpR.or (OpR.or Bc zx) (OpR.or Bp t7)))
theorem aE.xi {α : List Addr} {H : Hp} {h : Hh} {Q : VK} {d : D} {v : V} (p : aE K g α H Q d h) (r : aN K g α H h) (rd : aG K g α H d v) : i4 Q v H := .inl (p.now r rd)
theorem cZ {nl : NL} [iF nl] : ef K g ε (cL nl) (fun x y H Q => zp K x y H (i4 Q)) := by
  intro α H h a b x y Q r ra rb w
  have gen : ∀ {a b : D} {x y : V}, aG K g α H a x -> aG K g α H b y -> WQ K g ε α H (match hX a h, hX b h with
    | some a, some b => if a.length + b.length <= 1000000 then nl (a ++ b) h else .bad
    | _, _ => .bad) (aE K g α H Q) -> zp K x y H (i4 Q) := by
    intro a b x y ra rb w
    cases e1 : hX a h with
    | none => simp only [e1] at w; exact w.elim
    | some da =>
      cases e2 : hX b h with
      | none => simp only [e1, e2] at w; exact w.elim
      | some db =>
        simp only [e1, e2] at w
        obtain ⟨p, va, rfl, hva, rsa⟩ := qL r ra e1
        obtain ⟨q, vb, rfl, hvb, rsb⟩ := qL r rb e2
        obtain ⟨hl, w⟩ := WQ.dG w
        refine .inr (.inr (.inl ⟨p, q, va, vb, rfl, rfl, hva, hvb, gx (by rw [<- rsa.length, <- rsb.length]; exact hl), fun l hl' => ?_⟩))
        exact NL.post w r (rsa.append rsb) hl'
  unfold cL at w
  split at w
  · cases ra
    cases rb
    exact .inl ⟨_, _, rfl, rfl, aE.xi w r (.int _)⟩
  · cases ra with
    | @tup da pa va ha rsa =>
      cases rb with
      | @tup db pb vb hb rsb =>
        obtain ⟨hl, w⟩ := WQ.dG w
        refine .inr (.inl ?_)
        cases va with
        | nil =>
          cases rsa
          exact .inr ⟨_, _, _, rfl, rfl, SqT.of ha, SqT.of hb, aE.xi w r (.tup hb rsb)⟩
        | cons z zs =>
          refine .inl ⟨_, _, _, _, rfl, rfl, SqT.of ha, SqT.of hb, by simp, gx (by rw [<- rsa.length, <- rsb.length]; exact hl), fun e => ?_, fun _ p hp => .inl (aE.tup w r (rsa.append rsb) hp)⟩
          subst e
          cases rsb
          refine aE.xi w r (.tup ha ?_)
          rw [List.append_nil]; exact rsa
  · cases ra
    cases rb
    obtain ⟨hl, w⟩ := WQ.dG w
    exact .inr (.inr (.inr ⟨_, _, rfl, rfl, gx hl, aE.xi w r (.str _)⟩))
  · exact gen ra rb w
noncomputable def kQ : D -> D -> Hh -> R D
  | .int i, .int j, h => .ok (.int (i - j)) h
  | _, _, _ => .bad
theorem kJ : ef K g ε kQ (rI0 fun i j => .int (i - j)) := by
  intro α H h a b x y Q r ra rb w
  unfold kQ at w
  cases ra with
  | int i =>
    cases rb with
    | int j => exact ⟨i, j, rfl, rfl, aE.now w r (.int _)⟩
    | _ => exact w.elim
  | _ => exact w.elim
noncomputable def C3 : R2 := fun x y H Q => ∃ l k xs, x = .ref l /\ y = .int k /\ Rd H l (.lst xs) /\ -(2 ^ 63) <= k /\ k < 2 ^ 63 /\ xs.length * k.toNat <= sizeLine ∧
  ∀ p, H p = none -> Q (.ref p) (upd H p (.lst (List.replicate k.toNat xs).flatten))
theorem A0 : OpR X (binaryOp .Mult) C3 := by
  intro pins s σ H x y v u Q I rx ry h
  obtain ⟨l, k, xs, rfl, rfl, hH, h1, h2, hz, q⟩ := h
  cases rx
  obtain ⟨t, rfl⟩ := ry
  obtain ⟨its, n, z, r, hl, e⟩ := Ei I hH
  have hlen : its.toArray.size * k.toNat <= sizeLine := by rw [List.size_toArray, <- hl]; exact hz
  have hcap : ¬ its.toArray.size * k.toNat > (2 ^ 63 - 1) / 8 := by
    have : (sizeLine : Nat) <= (2 ^ 63 - 1) / 8 := by decide
    omega
  have hfit : ¬ (!Builtin.List.listFitsIndex k) = true := by
    rw [fitsIndex_both h1 h2]
    exact Bool.false_ne_true
  have hlong : ¬ Builtin.List.listTooLong (its.toArray.size * k.toNat) = true := by
    rw [zt hlen]
    exact Bool.false_ne_true
  have hnew : List.foldl (fun x1 x2 => x1 ++ x2) #[] (List.replicate (if its.toArray.isEmpty = true then 0 else k.toNat) its.toArray) = (List.replicate k.toNat its).flatten.toArray := by
    have f0 : ∀ m : Nat, List.foldl (fun x1 x2 => x1 ++ x2) #[] (List.replicate m its.toArray) = (List.replicate m its).flatten.toArray := fun m => by
      have := foldl_rep its m []
      rw [List.nil_append] at this
      exact this
    rw [f0]
    cases its with
    | nil => simp
    | cons a r' => rw [if_neg (by simp)]
  refine wpAny_binaryOp_repeat_ref (T := "list") (U := "int") (by decide) ⟨_, e, rfl⟩ (fun s' => typeIs_int s' k t) noFill_list_mul F.fills_int_mul F.slot_int_rmul repeat_list F.slot_int_index.lookup
    (call_meets F.slot_int_rmul (typeIs_int s k t) F.entry_int_rmul (F.args_int_rmul_2 _ _) (int___rmul___int_list k t l its.toArray n)
      ⟨e, rfl, ⟨_, e, rfl⟩, call_meets F.slot_list_mul ⟨_, e, rfl⟩ F.entry_list_mul (F.args_list_mul_2 _ _) (AutoListH.list___mul___list_int_3 l its.toArray n k t hfit hcap hlong) ⟨e, ?_⟩⟩)
  rw [hnew]
  exact ⟨.ref _, _, I.Cf (t' := s.toks) (r.rep k.toNat) (by rw [len_rep, Nat.mul_comm]; exact hz), rfl, q _ I.fresh⟩
noncomputable def jC (nl : NL) : D -> D -> Hh -> R D := fun x y h => match x, y with
  | .int i, .int j => if sml i = true /\ sml j = true then .ok (.int (i * j)) h else .bad
  | x, .int k => match hX x h with
    | some ds => if k.natAbs <= 1000000 /\ ds.length * k.toNat <= 1000000 then nl (List.replicate k.toNat ds).flatten h else .bad
    | none => .bad
  | _, _ => .bad
theorem B5 : OpR X (binaryOp .Mult) (rI (fun i j => sml i = true /\ sml j = true) fun i j => .int (i * j)) := opI fun _ _ _ _ _ _ _ hc q => mul_int q (IntMulOk.of_bits (Nat.le_trans (mq hc.1) (by decide)) (Nat.le_trans (mq hc.2) (by decide)))
noncomputable abbrev yY : R2 := fun x y H Q => (rI (fun i j => sml i = true /\ sml j = true) fun i j => .int (i * j)) x y H Q \/ C3 x y H Q
theorem kz : OpR X (binaryOp .Mult) (fun x y H Q => yY x y H (i4 Q)) := OpR.frz (OpR.or B5 A0)
theorem kq {nl : NL} [iF nl] : ef K g ε (jC nl) (fun x y H Q => yY x y H (i4 Q)) := by
  intro α H h a b x y Q r ra rb w
  have gen : ∀ {a : D} {k : Int} {x : V}, aG K g α H a x -> WQ K g ε α H (match hX a h with
    | some ds => if k.natAbs <= 1000000 /\ ds.length * k.toNat <= 1000000 then nl (List.replicate k.toNat ds).flatten h else .bad
    | none => .bad) (aE K g α H Q) -> yY x (.int k) H (i4 Q) := by
    intro a k x ra w
    cases e1 : hX a h with
    | none => simp only [e1] at w; exact w.elim
    | some ds =>
      simp only [e1] at w
      obtain ⟨hl, w⟩ := WQ.dG w
      obtain ⟨p, vs, rfl, hv, rs⟩ := qL r ra e1
      refine .inr ⟨p, k, vs, rfl, rfl, hv, by omega, by omega, gx (by rw [<- rs.length]; exact hl.2), fun l hl' => ?_⟩
      exact NL.post w r (rs.flat k.toNat) hl'
  unfold jC at w
  split at w
  · cases ra
    cases rb
    obtain ⟨hc, w⟩ := WQ.dG w
    exact .inl ⟨_, _, rfl, rfl, hc, aE.xi w r (.int _)⟩
  · cases rb
    exact gen ra w
  · exact w.elim
noncomputable def zQ : D -> D -> Hh -> R D
  | .int i, .int j, h => if 0 < j /\ sml j = true then .ok (.int (i / j)) h else .bad
  | _, _, _ => .bad
theorem rM : OpR X (binaryOp .FloorDiv) (rI (fun i j => 0 < j /\ sml j = true) fun i j => .int (i / j)) := opI fun i j _ _ _ _ _ hc q => by
  have e : i.fdiv j = i / j := Int.fdiv_eq_ediv_of_nonneg _ (by omega)
  refine floordiv_int (by omega) ?_ (.inl (PyProof.noPylong_of_log2 (Nat.lt_trans (rq hc.2) (by decide))))
  rw [e]; exact q
theorem ym : ef K g ε zQ (rI (fun i j => 0 < j /\ sml j = true) fun i j => .int (i / j)) := by
  intro α H h a b x y Q r ra rb w
  unfold zQ at w
  cases ra with
  | int i =>
    cases rb with
    | int j =>
      obtain ⟨hc, w⟩ := WQ.dG w
      exact ⟨i, j, rfl, rfl, hc, aE.now w r (.int _)⟩
    | _ => exact w.elim
  | _ => exact w.elim
noncomputable def sU : D -> D -> Hh -> R D
  | .int i, .int j, h => if 0 < j then .ok (.int (i % j)) h else .bad
  | _, _, _ => .bad
theorem l0 : ef K g ε sU (rI (fun _ j => 0 < j) fun i j => .int (i % j)) := by
  intro α H h a b x y Q r ra rb w
  unfold sU at w
  cases ra with
  | int i =>
    cases rb with
    | int j =>
      obtain ⟨hc, w⟩ := WQ.dG w
      exact ⟨i, j, rfl, rfl, hc, aE.now w r (.int _)⟩
    | _ => exact w.elim
  | _ => exact w.elim
noncomputable def CJ : D -> D -> Hh -> R D
  | .int i, .int j, h => if 0 <= j /\ j.natAbs <= 1000 /\ sml i = true then .ok (.int (i ^ j.toNat)) h else .bad
  | _, _, _ => .bad
theorem Ca : OpR X (binaryOp .Pow) (rI (fun i j => 0 <= j /\ j.natAbs <= 1000 /\ sml i = true) fun i j => .int (i ^ j.toNat)) := opI fun i j _ _ _ _ _ hc q => pow_int hc.1 (by
  have := mq hc.2.2
  have h1 : ((Builtin.Int.intBits i : Nat) : Int) <= 1900 := by exact_mod_cast this
  calc ((Builtin.Int.intBits i : Nat) : Int) * j <= 1900 * j := Int.mul_le_mul_of_nonneg_right h1 hc.1
    _ <= 1900 * 1000 := Int.mul_le_mul_of_nonneg_left (show j <= 1000 by have := hc.2.1; omega) (by decide)
    _ <= 2 ^ 27 := by decide) q
theorem EN : ef K g ε CJ (rI (fun i j => 0 <= j /\ j.natAbs <= 1000 /\ sml i = true) fun i j => .int (i ^ j.toNat)) := by
  intro α H h a b x y Q r ra rb w
  unfold CJ at w
  cases ra with
  | int i =>
    cases rb with
    | int j =>
      obtain ⟨hc, w⟩ := WQ.dG w
      exact ⟨i, j, rfl, rfl, hc, aE.now w r (.int _)⟩
    | _ => exact w.elim
  | _ => exact w.elim
noncomputable def eL : D -> Hh -> R D
  | .int i, h => .ok (.int (-i)) h
  | _, _ => .bad
theorem fT : GC K g ε eL (rU fun i => .int (-i)) := by
  intro α H h a x Q r ra w
  unfold eL at w
  cases ra with
  | int i => exact ⟨i, rfl, aE.now w r (.int _)⟩
  | _ => exact w.elim
noncomputable def vP (p : Int -> Int -> Bool) : D -> D -> Hh -> R D
  | .int i, .int j, h => .ok (.bl (p i j)) h
  | _, _, _ => .bad
noncomputable def ltI : Int -> Int -> Bool
  | .ofNat a, .ofNat b => Nat.blt a b
  | .ofNat _, .negSucc _ => false
  | .negSucc _, .ofNat _ => true
  | .negSucc a, .negSucc b => Nat.blt b a
theorem mO : ltI = fun i j => decide (i < j) := by
  funext i j
  cases i with
  | ofNat a =>
    cases j with
    | ofNat b =>
      show Nat.blt a b = _
      rw [Bool.eq_iff_iff, Nat.blt_eq, decide_eq_true_iff]
      exact Int.ofNat_lt.symm
    | negSucc b => exact (decide_eq_false (by have : Int.ofNat a = (a : Int) := rfl; omega)).symm
  | negSucc a =>
    cases j with
    | ofNat b => exact (decide_eq_true (by have : Int.ofNat b = (b : Int) := rfl; omega)).symm
    | negSucc b =>
      show Nat.blt b a = _
      rw [Bool.eq_iff_iff, Nat.blt_eq, decide_eq_true_iff]
      omega
noncomputable def leI (i j : Int) : Bool := !ltI j i
theorem qZ : leI = fun i j => decide (i <= j) := by
  funext i j
  unfold leI
  rw [mO, Bool.eq_iff_iff]
  simp
noncomputable def dLt : D -> D -> Hh -> R D := vP ltI
noncomputable def dLe : D -> D -> Hh -> R D := vP leI
noncomputable def dGt : D -> D -> Hh -> R D := vP fun i j => ltI j i
noncomputable def dGe : D -> D -> Hh -> R D := vP fun i j => leI j i
theorem pT {p : Int -> Int -> Bool} : ef K g ε (vP p) (rI0 fun i j => .bl (p i j)) := by
  intro α H h a b x y Q r ra rb w
  unfold vP at w
  cases ra with
  | int i =>
    cases rb with
    | int j => exact ⟨i, j, rfl, rfl, aE.now w r (.bl _)⟩
    | _ => exact w.elim
  | _ => exact w.elim
theorem uJ : ef K g ε dLt (rI0 fun i j => .bl (decide (i < j))) := by
  unfold dLt; rw [mO]; exact pT
theorem uN : ef K g ε dLe (rI0 fun i j => .bl (decide (i <= j))) := by
  unfold dLe; rw [qZ]; exact pT
theorem tf : ef K g ε dGt (rI0 fun i j => .bl (decide (j < i))) := by
  unfold dGt; rw [mO]; exact pT
theorem Gb : ef K g ε dGe (rI0 fun i j => .bl (decide (j <= i))) := by
  unfold dGe; rw [qZ]; exact pT
noncomputable def lT (d : D) (h : Hh) : Option (List D) := match d with
  | .tup ds => some ds
  | .frl ds => some ds
  | .scr ds => some ds
  | .ref n => aw h n
  | _ => none
theorem vj {α : List Addr} {H : Hp} {h : Hh} {d : D} {x : V} {ds : List D} (r : aN K g α H h) (rd : aG K g α H d x) (e : lT d h = some ds) : ∃ p vs, x = .ref p /\ (SqL K H p vs \/ SqT K H p vs) /\ aq K g α H ds vs := by
  unfold lT at e
  cases rd with
  | tup hq rs => cases e; exact ⟨_, _, rfl, .inr (SqT.of hq), rs⟩
  | frl hq rs => cases e; exact ⟨_, _, rfl, .inl hq.sq, rs⟩
  | scr hq rs => cases e; exact ⟨_, _, rfl, .inl hq.sq, rs⟩
  | ref hp => obtain ⟨vs, hv, rs⟩ := r.lst e hp; exact ⟨_, vs, rfl, .inl (SqL.of hv), rs⟩
  | _ => cases e
noncomputable def dIx : D -> D -> Hh -> R D := fun a b h => match lT a h, b with
  | some ds, .int i => match atI ds i with
    | some d => .ok d h
    | none => .bad
  | _, _ => .bad
theorem BD {α : List Addr} {H : Hp} {ds : List D} {vs : List V} {i : Int} {d : D} (rs : aq K g α H ds vs) (e : atI ds i = some d) : ∃ v, atI vs i = some v /\ aG K g α H d v := by
  unfold atI at e ⊢
  rw [<- rs.length]
  cases e1 : ixN ds.length i with
  | none => rw [e1] at e; cases e
  | some j =>
    rw [e1] at e
    exact rs.get e
theorem cB : ef K g ε dIx (rIx K) := by
  intro α H h a b x y Q r ra rb w
  unfold dIx at w
  cases e1 : lT a h with
  | none => simp only [e1] at w; exact w.elim
  | some ds =>
    simp only [e1] at w
    obtain ⟨p, vs, rfl, hq, rs⟩ := vj r ra e1
    cases rb with
    | int i =>
      cases e2 : atI ds i with
      | none => simp only [e2] at w; exact w.elim
      | some d =>
        simp only [e2] at w
        obtain ⟨v, ev, rv⟩ := BD rs e2
        rcases hq with hq | hq
        · exact .inl ⟨p, vs, i, v, rfl, rfl, hq, ev, aE.now w r rv⟩
        · exact .inr (.inl ⟨p, vs, i, v, rfl, rfl, hq, ev, aE.now w r rv⟩)
    | _ => exact w.elim
noncomputable def df : D -> D -> D -> Hh -> R Unit := fun o i v h => match o, i with
  | .ref n, .int k => match aw h n with
    | some ds => match ixN ds.length k with
      | some j => .ok () (h.set n (.lst (ds.set j v)))
      | none => .bad
    | none => .bad
  | _, _ => .bad
theorem fy : Gd K g ε df CU := by
  intro α H h o i v x y z Q r ro ri rv w
  unfold df at w
  cases ro with
  | @ref n p hp =>
    cases ri with
    | int k =>
      cases e1 : aw h n with
      | none => simp only [e1] at w; exact w.elim
      | some ds =>
        simp only [e1] at w
        cases e2 : ixN ds.length k with
        | none => simp only [e2] at w; exact w.elim
        | some j =>
          simp only [e2] at w
          obtain ⟨vs, hv, rs⟩ := r.lst e1 hp
          refine ⟨p, vs, k, j, rfl, rfl, hv, by rw [<- rs.length]; exact e2, ?_⟩
          have x := Ext.write (o := .lst (vs.set j z)) r hp
          exact w _ α x (r.write hp ⟨_, aH, (rs.set rv j).ext x⟩)
    | _ => exact w.elim
  | _ => exact w.elim
noncomputable def cutD (xs : List D) (lo hi : Option Int) : List D := (xs.drop (HT.sIx xs.length 0 lo)).take (HT.sIx xs.length xs.length hi - HT.sIx xs.length 0 lo)
theorem j2 {α : List Addr} {H : Hp} {ds : List D} {vs : List V} (rs : aq K g α H ds vs) (lo hi : Option Int) : aq K g α H (cutD ds lo hi) (nO vs lo hi) := by
  unfold cutD nO
  rw [<- rs.length]
  exact (rs.drop _).take _
noncomputable abbrev MO := En -> Hh -> R (Option Int)
noncomputable def b8 : MO := fun _ h => .ok none h
noncomputable def di (a : ME) : MO := fun env h => (a env h).bind fun d h1 => match d with
  | .int i => .ok (some i) h1
  | _ => .bad
noncomputable def tMO (K : PySem.W.Frag) (g : GG) (ε : EE) (m : MO) : TO := fun σ H Q => ∃ α env h, cW K g α H env σ h /\ WQ K g ε α H (m env h) fun o h' => ∀ H' α', Ext K α H α' H' -> aN K g α' H' h' -> Q o H'
theorem PO.imp {e : Option Expr} {t t' : TO} (h : PO X e t) (i : ∀ σ H Q, t' σ H Q -> t σ H Q) : PO X e t' := fun pins s σ H Q I w => h pins s σ H Q I (i σ H Q w)
theorem iT : PO X none (tMO X.K g ε b8) := PO.imp A4 fun σ H Q ⟨α, env, h, s, w⟩ => w H α Ext.refl s.heap
theorem fI {e : Expr} {me : ME} (he : PE X e (tM X.K g ε me)) : PO X (some e) (tMO X.K g ε (di me)) := PO.imp (CO he) fun σ H Q ⟨α, env, h, s, w⟩ => tM.use s w.bind fun d1 h1 v1 H1 α1 e1 s1 r1 w1 => by
  cases r1 with
  | int i => exact ⟨i, rfl, w1 H1 α1 e1 s1.heap⟩
  | _ => exact w1.elim
noncomputable def Ag (nl : NL) : D -> Option Int -> Option Int -> Hh -> R D := fun d lo hi h => match d with
  | .tup ds => .ok (.tup (cutD ds lo hi)) h
  | .frl ds => nl (cutD ds lo hi) h
  | .scr ds => nl (cutD ds lo hi) h
  | .ref n => match aw h n with
    | some ds => nl (cutD ds lo hi) h
    | none => .bad
  | _ => .bad
noncomputable def cA (nl : NL) (a : ME) (l u : MO) : ME := fun env h => (a env h).bind fun x h1 => (l env h1).bind fun lo h2 => (u env h2).bind fun hi h3 => Ag nl x lo hi h3
theorem tMO.use {α : List Addr} {H : Hp} {env : En} {σ : St} {h : Hh} {m : MO} {Q : Option Int -> Hp -> Prop} {k : Option Int -> Hh -> Prop} (s : cW K g α H env σ h) (w : WQ K g ε α H (m env h) k)
    (q : ∀ d h' H' α', Ext K α H α' H' -> cW K g α' H' env σ h' -> k d h' -> Q d H') : tMO K g ε m σ H Q :=
  ⟨α, env, h, s, w.mono fun d h' _ kk H' α' e r => q d h' H' α' e (s.ext e r) kk⟩
theorem fh {nl : NL} [iF nl] {e : Expr} {me : ME} {lo hi : Option Expr} {ml mh : MO} {p2 pos : Pos} (he : PE X e (tM X.K g ε me)) (hl : PO X lo (tMO X.K g ε ml)) (hu : PO X hi (tMO X.K g ε mh)) : PE X (.Subscript e (.Slice lo hi none p2) pos) (tM X.K g ε (cA nl me ml mh)) :=
  PE.imp (PE.frz (zw (SlR.or Bw (SlR.or EW BQ)) he hl hu)) fun σ H Q ⟨α, env, h, s, w⟩ => tM.use s w.bind fun d1 h1 v1 H1 α1 e1 s1 r1 w1 => tMO.use s1 (w1.ext e1).bind fun o2 h2 H2 α2 e2 s2 w2 => tMO.use s2 (w2.ext e2).bind fun o3 h3 H3 α3 e3 s3 w3 => by
    have tr := e1.trans (e2.trans e3)
    have r3 := r1.ext (e2.trans e3)
    have w4 := (w3.ext e3).mono fun _ _ _ p => aE.ext tr p
    unfold Ag at w4
    cases r3 with
    | @frl ds p vs hq rs => exact .inl ⟨_, _, rfl, hq.sq, fun l hl => NL.post w4 s3.heap (j2 rs _ _) hl⟩
    | @scr ds p vs hq rs => exact .inl ⟨_, _, rfl, hq.sq, fun l hl => NL.post w4 s3.heap (j2 rs _ _) hl⟩
    | @ref n p hp =>
      cases e1 : aw h3 n with
      | none => simp only [e1] at w4; exact w4.elim
      | some ds =>
        simp only [e1] at w4
        obtain ⟨vs, hv, rs⟩ := s3.heap.lst e1 hp
        exact .inl ⟨_, _, rfl, SqL.of hv, fun l hl => NL.post w4 s3.heap (j2 rs _ _) hl⟩
    | @tup ds p vs hq rs =>
      refine .inr ?_
      by_cases hw : HT.sIx vs.length 0 o2 = 0 /\ HT.sIx vs.length vs.length o3 = vs.length
      · refine .inr ⟨_, _, rfl, SqT.of hq, hw.1, hw.2, ?_⟩
        refine aE.xi w4 s3.heap (.tup hq ?_)
        have : nO vs o2 o3 = vs := by unfold nO; rw [hw.1, hw.2]; simp
        have q := j2 rs o2 o3
        rw [this] at q
        exact q
      · exact .inl ⟨_, _, rfl, SqT.of hq, hw, fun l hl => .inl (aE.tup w4 s3.heap (j2 rs _ _) hl)⟩
    | _ => exact w4.elim
end
noncomputable def rE : D -> Bool
  | .non => true | .bl _ => true | .int _ => true | .str _ => true
  | _ => false
noncomputable def eqF : D -> D -> Bool
  | .non, .non => true
  | .bl a, .bl b => a == b
  | .bl a, .int b => (if a then 1 else 0) == b
  | .int a, .bl b => a == (if b then 1 else 0)
  | .int a, .int b => a == b
  | .str a, .str b => a == b
  | _, _ => false
noncomputable def eqL (f : D -> D -> Option Bool) : List D -> List D -> Option Bool
  | x :: xs, y :: ys => match f x y, eqL f xs ys with
    | some b, some c => some (b && c)
    | _, _ => none
  | [], [] => some true
  | _, _ => some false
inductive Vw where
  | fl | tp (ds : List D) | ls (ds : List D) | no
noncomputable def vw (d : D) (h : Hh) : Vw := match d with
  | .non => .fl | .bl _ => .fl | .int _ => .fl | .str _ => .fl
  | .tup ds => .tp ds
  | .frl ds => .ls ds
  | .scr ds => .ls ds
  | .ref n => match aw h n with
    | some ds => .ls ds
    | none => .no
  | _ => .no
noncomputable def eqD : Nat -> Hh -> D -> D -> Option Bool
  | 0, _, _, _ => none
  | k + 1, h, a, b => match vw a h, vw b h with
    | .fl, .fl => some (eqF a b)
    | .tp xs, .tp ys => eqL (eqD k h) xs ys
    | .ls xs, .ls ys => if xs.length = ys.length then eqL (eqD k h) xs ys else some false
    | .fl, .tp _ => some false
    | .fl, .ls _ => some false
    | .tp _, .fl => some false
    | .tp _, .ls _ => some false
    | .ls _, .fl => some false
    | .ls _, .tp _ => some false
    | _, _ => none
section
variable {K : PySem.W.Frag} {g : GG} {α : List Addr} {H : Hp} {h : Hh}
theorem nr {f : D -> D -> Option Bool} (hf : ∀ a b x c, aG K g α H a x -> aG K g α H b x -> f a b = some c -> c = true) : ∀ {xs ys : List D} {vs : List V} {c : Bool}, aq K g α H xs vs -> aq K g α H ys vs -> eqL f xs ys = some c -> c = true
  | _, _, _, _, .nil, .nil, e => by simp [eqL] at e; exact e
  | _, _, _, c, .cons r t, .cons r' t', e => by
    unfold eqL at e
    split at e
    · rename_i b c' h1 h2
      have e1 := hf _ _ _ _ r r' h1
      have e2 := nr hf t t' h2
      subst e1 e2
      exact (Option.some.inj e).symm
    · cases e
theorem kZ {d : D} {x : V} (rd : aG K g α H d x) (e : vw d h = .fl) : rE d = true := by
  cases rd with
  | ref hp => unfold vw at e; simp only at e; split at e <;> cases e
  | _ => first | rfl | cases e
theorem k9 {d : D} {x : V} {ds : List D} (rd : aG K g α H d x) (e : vw d h = .tp ds) : ∃ p vs, x = .ref p /\ SqT K H p vs /\ aq K g α H ds vs := by
  cases rd with
  | tup hp rs => cases e; exact ⟨_, _, rfl, SqT.of hp, rs⟩
  | ref hp => unfold vw at e; simp only at e; split at e <;> cases e
  | _ => cases e
theorem kX {d : D} {x : V} {ds : List D} (r : aN K g α H h) (rd : aG K g α H d x) (e : vw d h = .ls ds) : ∃ p vs, x = .ref p /\ SqL K H p vs /\ aq K g α H ds vs := by
  cases rd with
  | frl hp rs => cases e; exact ⟨_, _, rfl, hp.sq, rs⟩
  | scr hp rs => cases e; exact ⟨_, _, rfl, hp.sq, rs⟩
  | @ref n p hp =>
    unfold vw at e
    simp only at e
    cases el : aw h n with
    | none => rw [el] at e; cases e
    | some ds' =>
      rw [el] at e; cases e
      obtain ⟨vs, hv, rs⟩ := r.lst el hp
      exact ⟨_, _, rfl, SqL.of hv, rs⟩
  | _ => cases e
theorem vE {f : D -> D -> Option Bool} : ∀ {xs ys : List D} {c : Bool}, eqL f xs ys = some c →
    (∀ (j : Nat) (x y : D), xs[j]? = some x -> ys[j]? = some y -> ∃ b, f x y = some b) /\ c = ((List.range (min xs.length ys.length)).all (fun j => ((f (xs.getD j .non) (ys.getD j .non)).getD false)) && xs.length == ys.length)
  | [], [], c, e => by
    simp [eqL] at e
    refine ⟨fun j x y h => by simp at h, ?_⟩
    simp [<- e]
  | [], _ :: _, c, e => by
    simp [eqL] at e
    exact ⟨fun j x y h => by simp at h, by simp [<- e]⟩
  | _ :: _, [], c, e => by
    simp [eqL] at e
    exact ⟨fun j x y _ h => by simp at h, by simp [<- e]⟩
  | x :: xs, y :: ys, c, e => by
    unfold eqL at e
    split at e
    · rename_i b c' h1 h2
      obtain ⟨q1, q2⟩ := vE h2
      refine ⟨fun j x' y' hx hy => ?_, ?_⟩
      · cases j with
        | zero => simp at hx hy; subst hx hy; exact ⟨b, h1⟩
        | succ j => exact q1 j x' y' (by simpa using hx) (by simpa using hy)
      · have e' := (Option.some.inj e).symm
        rw [e', q2]
        have hm : min (x :: xs).length (y :: ys).length = min xs.length ys.length + 1 := by simp [Nat.succ_min_succ]
        rw [hm, List.range_succ_eq_map, List.all_cons, List.all_map]
        have h0 : (f ((x :: xs).getD 0 .non) ((y :: ys).getD 0 .non)).getD false = b := by
          show (f x y).getD false = b
          rw [h1]; rfl
        rw [h0]
        have hlen : ((x :: xs).length == (y :: ys).length) = (xs.length == ys.length) := by simp
        rw [hlen, Bool.and_assoc]
        rfl
    · cases e
end
section
variable {X : Cx} {g : GG} {pins : List (Addr × Obj)} {σ : St} {H : Hp} {s : Shared} {α : List Addr} {h : Hh}
open PySem.SeqAt
theorem Ba {A : Around} {a b : D} {x y : V} {u v : Value} {K : PySem.W.Frag} (ra : aG K g α H a x) (rb : aG K g α H b y) (ru : RelV x u) (rv : RelV y v) (fa : rE a = true) (fb : rE b = true) :
    EqAt A s u v (eqF a b) /\ RcAt A s u v (eqF a b) /\ RcNeAt A s u v (!eqF a b) := by
  cases ra with
  | non =>
    cases ru
    cases rb with
    | non => cases rv; exact ⟨.same _, .none_none, .none_none⟩
    | bl z => cases rv; exact ⟨.none_bool z, .none_bool z, .none_bool z⟩
    | int z => obtain ⟨t, rfl⟩ := rv; exact ⟨.none_int z t, .none_int z t, .none_int z t⟩
    | str z => obtain ⟨t, rfl⟩ := rv; exact ⟨.none_str z t, .none_str z t, .none_str z t⟩
    | _ => cases fb
  | bl q =>
    cases ru
    cases rb with
    | non => cases rv; exact ⟨.bool_none q, .bool_none q, .bool_none q⟩
    | bl z => cases rv; exact ⟨.bool_bool q z, .bool_bool q z, .bool_bool q z⟩
    | int z => obtain ⟨t, rfl⟩ := rv; exact ⟨.bool_int q z t, .bool_int q z t, .bool_int q z t⟩
    | str z => obtain ⟨t, rfl⟩ := rv; exact ⟨.bool_str q z t, .bool_str q z t, .bool_str q z t⟩
    | _ => cases fb
  | int q =>
    obtain ⟨t', rfl⟩ := ru
    cases rb with
    | non => cases rv; exact ⟨.int_none q t', .int_none q t', .int_none q t'⟩
    | bl z => cases rv; exact ⟨.int_bool q t' z, .int_bool q t' z, .int_bool q t' z⟩
    | int z => obtain ⟨t, rfl⟩ := rv; exact ⟨.int_int q t' z t, .int_int q t' z t, .int_int q t' z t⟩
    | str z => obtain ⟨t, rfl⟩ := rv; exact ⟨.int_str q t' z t, .int_str q t' z t, .int_str q t' z t⟩
    | _ => cases fb
  | str q =>
    obtain ⟨t', rfl⟩ := ru
    cases rb with
    | non => cases rv; exact ⟨.str_none q t', .str_none q t', .str_none q t'⟩
    | bl z => cases rv; exact ⟨.str_bool q t' z, .str_bool q t' z, .str_bool q t' z⟩
    | int z => obtain ⟨t, rfl⟩ := rv; exact ⟨.str_int q t' z t, .str_int q t' z t, .str_int q t' z t⟩
    | str z => obtain ⟨t, rfl⟩ := rv; exact ⟨.str_str q t' z t, .str_str q t' z t, .str_str q t' z t⟩
    | _ => cases fb
  | _ => cases fa
theorem sT {A : Around} {b : D} {y : V} {v : Value} {p : Addr} {its : Array Value} {K : PySem.W.Frag} (ht : s.heap.IsTuple p its) (hu : A.units < cLine) (rb : aG K g α H b y) (rv : RelV y v) (fb : rE b = true) :
    (EqAt A s (.ref p) v false /\ RcAt A s (.ref p) v false /\ RcNeAt A s (.ref p) v true) /\ (EqAt A s v (.ref p) false /\ RcAt A s v (.ref p) false /\ RcNeAt A s v (.ref p) true) := by
  cases rb with
  | non => cases rv; exact ⟨⟨.tuple_none ht hu, .tuple_none ht hu, .tuple_none ht hu⟩, .none_tuple ht hu, .none_tuple ht hu, .none_tuple ht hu⟩
  | bl z => cases rv; exact ⟨⟨.tuple_bool z ht hu, .tuple_bool z ht hu, .tuple_bool z ht hu⟩, .bool_tuple z ht hu, .bool_tuple z ht hu, .bool_tuple z ht hu⟩
  | int z => obtain ⟨t, rfl⟩ := rv; exact ⟨⟨.tuple_int z t ht hu, .tuple_int z t ht hu, .tuple_int z t ht hu⟩, .int_tuple z t ht hu, .int_tuple z t ht hu, .int_tuple z t ht hu⟩
  | str z => obtain ⟨t, rfl⟩ := rv; exact ⟨⟨.tuple_str z t ht hu, .tuple_str z t ht hu, .tuple_str z t ht hu⟩, .str_tuple z t ht hu, .str_tuple z t ht hu, .str_tuple z t ht hu⟩
  | _ => cases fb
theorem sE {A : Around} {b : D} {y : V} {v : Value} {p : Addr} {its : Array Value} {K : PySem.W.Frag} (ht : s.heap.IsList p its) (hu : A.units < cLine) (rb : aG K g α H b y) (rv : RelV y v) (fb : rE b = true) :
    (EqAt A s (.ref p) v false /\ RcAt A s (.ref p) v false /\ RcNeAt A s (.ref p) v true) /\ (EqAt A s v (.ref p) false /\ RcAt A s v (.ref p) false /\ RcNeAt A s v (.ref p) true) := by
  cases rb with
  | non => cases rv; exact ⟨⟨.list_none ht hu, .list_none ht hu, .list_none ht hu⟩, .none_list ht hu, .none_list ht hu, .none_list ht hu⟩
  | bl z => cases rv; exact ⟨⟨.list_bool z ht hu, .list_bool z ht hu, .list_bool z ht hu⟩, .bool_list z ht hu, .bool_list z ht hu, .bool_list z ht hu⟩
  | int z => obtain ⟨t, rfl⟩ := rv; exact ⟨⟨.list_int z t ht hu, .list_int z t ht hu, .list_int z t ht hu⟩, .int_list z t ht hu, .int_list z t ht hu, .int_list z t ht hu⟩
  | str z => obtain ⟨t, rfl⟩ := rv; exact ⟨⟨.list_str z t ht hu, .list_str z t ht hu, .list_str z t ht hu⟩, .str_list z t ht hu, .str_list z t ht hu, .str_list z t ht hu⟩
  | _ => cases fb
theorem rO {A : Around} {k : Nat} {ds es : List D} {vs us : List V} {its jts : List Value} {c : Bool} (r : aN X.K g α H h)
    (ih : ∀ (a b : D) (x y : V) (u v : Value) (c : Bool), aG X.K g α H a x -> aG X.K g α H b y -> RelV x u -> RelV y v -> eqD k h a b = some c -> EqAt A.in1 s u v c)
    (rs : aq X.K g α H ds vs) (rt : aq X.K g α H es us) (rv : Vals vs its) (ru : Vals us jts) (e : eqL (eqD k h) ds es = some c) :
    (∀ j (h1 : j < its.toArray.size) (h2 : j < jts.toArray.size), EqAt A.in1 s its.toArray[j] jts.toArray[j] ((fun (j : Nat) => (eqD k h (ds.getD j .non) (es.getD j .non)).getD false) j)) ∧
    c = ((List.range (min its.toArray.size jts.toArray.size)).all (fun (j : Nat) => (eqD k h (ds.getD j .non) (es.getD j .non)).getD false) && its.toArray.size == jts.toArray.size) := by
  obtain ⟨q1, q2⟩ := vE e
  have l1 : its.toArray.size = ds.length := by rw [List.size_toArray, <- rv.length, rs.length]
  have l2 : jts.toArray.size = es.length := by rw [List.size_toArray, <- ru.length, rt.length]
  refine ⟨fun j h1 h2 => ?_, by rw [l1, l2]; exact q2⟩
  have hd : ds[j]? = some (ds.getD j .non) := by rw [List.getD_eq_getElem?_getD, List.getElem?_eq_getElem (by omega)]; rfl
  have he : es[j]? = some (es.getD j .non) := by rw [List.getD_eq_getElem?_getD, List.getElem?_eq_getElem (by omega)]; rfl
  obtain ⟨b, hb⟩ := q1 j _ _ hd he
  obtain ⟨x, hx, rx⟩ := rs.get hd
  obtain ⟨y, hy, ry⟩ := rt.get he
  obtain ⟨u, hu, rxu⟩ := rv.get hx
  obtain ⟨v, hv, ryv⟩ := ru.get hy
  have eu : its.toArray[j] = u := by
    have := List.getElem?_eq_getElem (l := its) (i := j) (by simpa using h1)
    rw [hu] at this
    simpa using (Option.some.inj this).symm
  have ev : jts.toArray[j] = v := by
    have := List.getElem?_eq_getElem (l := jts) (i := j) (by simpa using h2)
    rw [hv] at this
    simpa using (Option.some.inj this).symm
  rw [eu, ev]
  show EqAt A.in1 s u v ((eqD k h (ds.getD j .non) (es.getD j .non)).getD false)
  rw [hb]
  exact ih _ _ _ _ _ _ _ rx ry rxu ryv hb
theorem uR (I : Inv X pins σ H s) {p : Addr} {vs us : List V} (a : SqT X.K H p vs) (b : SqL X.K H p us) : False := by
  obtain ⟨its, r1, ⟨o, e, c, _⟩, _⟩ := I.tuple a
  obtain ⟨jts, r2, ⟨o', n', e', c', _⟩, _⟩ := I.list b
  rw [e] at e'; cases e'; rw [c] at c'; injection c' with z; exact absurd z (by decide)
theorem mD (I : Inv X pins σ H s) (r : aN X.K g α H h) : ∀ (k : Nat) (a b : D) (x : V) (c : Bool), aG X.K g α H a x -> aG X.K g α H b x -> eqD k h a b = some c -> c = true
  | 0, _, _, _, _, _, _, e => by cases e
  | k + 1, a, b, x, c, ra, rb, e => by
    unfold eqD at e
    cases ea : vw a h with
    | no => simp [ea] at e
    | fl =>
      have fa := kZ ra ea
      cases eb : vw b h with
      | no => simp [ea, eb] at e
      | fl =>
        simp only [ea, eb] at e
        cases e
        have fb := kZ rb eb
        cases ra with
        | non => cases rb with
          | non => rfl
        | bl z => cases rb with
          | bl _ => simp [eqF]
        | int z => cases rb with
          | int _ => simp [eqF]
        | str z => cases rb with
          | str _ => simp [eqF]
        | _ => cases fa
      | tp ds => obtain ⟨p, vs, rfl, _⟩ := k9 rb eb; cases ra <;> cases fa
      | ls ds => obtain ⟨p, vs, rfl, _⟩ := kX r rb eb; cases ra <;> cases fa
    | tp da =>
      obtain ⟨p, va, rfl, hp, rs⟩ := k9 ra ea
      cases eb : vw b h with
      | no => simp [ea, eb] at e
      | fl => have fb := kZ rb eb; cases rb <;> cases fb
      | tp db =>
        simp only [ea, eb] at e
        obtain ⟨q, vb, hpq, hq, rt⟩ := k9 rb eb
        cases hpq
        have := I.gm hp hq
        subst this
        exact nr (fun a b x c => mD I r k a b x c) rs rt e
      | ls db =>
        obtain ⟨q, vb, hpq, hq, rt⟩ := kX r rb eb
        cases hpq
        exact (uR I hp hq).elim
    | ls da =>
      obtain ⟨p, va, rfl, hp, rs⟩ := kX r ra ea
      cases eb : vw b h with
      | no => simp [ea, eb] at e
      | fl => have fb := kZ rb eb; cases rb <;> cases fb
      | tp db =>
        obtain ⟨q, vb, hpq, hq, rt⟩ := k9 rb eb
        cases hpq
        exact (uR I hq hp).elim
      | ls db =>
        simp only [ea, eb] at e
        obtain ⟨q, vb, hpq, hq, rt⟩ := kX r rb eb
        cases hpq
        have := I.iG hp hq
        subst this
        rw [if_pos (by rw [rs.length, rt.length])] at e
        exact nr (fun a b x c => mD I r k a b x c) rs rt e
theorem tN (I : Inv X pins σ H s) (r : aN X.K g α H h) : ∀ (k : Nat) (A : Around) (a b : D) (x y : V) (u v : Value) (c : Bool), A.units + k < cLine -> aG X.K g α H a x -> aG X.K g α H b y -> RelV x u -> RelV y v -> eqD k h a b = some c →
    EqAt A s u v c /\ RcAt A s u v c /\ RcNeAt A s u v (!c)
  | 0, _, _, _, _, _, _, _, _, _, _, _, _, _, e => by cases e
  | k + 1, A, a, b, x, y, u, v, c, hu, ra, rb, ru, rv, e => by
    have hu0 : A.units < cLine := by omega
    have ih : ∀ (a b : D) (x y : V) (u v : Value) (c : Bool), aG X.K g α H a x -> aG X.K g α H b y -> RelV x u -> RelV y v -> eqD k h a b = some c -> EqAt A.in1 s u v c :=
      fun a b x y u v c h1 h2 h3 h4 h5 => (tN I r k A.in1 a b x y u v c (by show A.units + 1 + k < _; omega) h1 h2 h3 h4 h5).1
    have whole := fun x ra rb => mD I r (k + 1) a b x c ra rb e
    unfold eqD at e
    cases ea : vw a h with
    | no => simp [ea] at e
    | fl =>
      have fa := kZ ra ea
      cases eb : vw b h with
      | no => simp [ea, eb] at e
      | fl => simp only [ea, eb] at e; cases e; exact Ba ra rb ru rv fa (kZ rb eb)
      | tp db =>
        simp only [ea, eb] at e; cases e
        obtain ⟨q, vb, rfl, hq, rt⟩ := k9 rb eb
        cases rv
        obtain ⟨its, r1, ht, _⟩ := I.tuple hq
        exact (sT ht hu0 ra ru fa).2
      | ls db =>
        simp only [ea, eb] at e; cases e
        obtain ⟨q, vb, rfl, hq, rt⟩ := kX r rb eb
        cases rv
        obtain ⟨its, r1, ht, _⟩ := I.list hq
        exact (sE ht.isList hu0 ra ru fa).2
    | tp da =>
      obtain ⟨p, va, rfl, hp, rs⟩ := k9 ra ea
      cases ru
      obtain ⟨its, r1, ht, _⟩ := I.tuple hp
      cases eb : vw b h with
      | no => simp [ea, eb] at e
      | fl => simp only [ea, eb] at e; cases e; exact (sT ht hu0 rb rv (kZ rb eb)).1
      | tp db =>
        simp only [ea, eb] at e
        obtain ⟨q, vb, rfl, hq, rt⟩ := k9 rb eb
        cases rv
        obtain ⟨jts, r2, ht2, _⟩ := I.tuple hq
        obtain ⟨h1, h2⟩ := rO r ih rs rt r1 r2 e
        have rc : RcAt A s (.ref p) (.ref q) c := by rw [h2]; exact RcAt.tuples ht ht2 hu0 h1
        refine ⟨?_, rc, by rw [h2]; exact RcNeAt.tuples ht ht2 hu0 h1⟩
        by_cases hpq : p = q
        · subst hpq
          rw [whole _ ra rb]
          exact .same _
        · exact .of_refs hpq rc
      | ls db =>
        simp only [ea, eb] at e; cases e
        obtain ⟨q, vb, rfl, hq, rt⟩ := kX r rb eb
        cases rv
        obtain ⟨jts, r2, ht2, _⟩ := I.list hq
        exact ⟨.tuple_list ht ht2.isList hu0, .tuple_list ht ht2.isList hu0, .tuple_list ht ht2.isList hu0⟩
    | ls da =>
      obtain ⟨p, va, rfl, hp, rs⟩ := kX r ra ea
      cases ru
      obtain ⟨its, r1, ht', _⟩ := I.list hp
      have ht := ht'.isList
      cases eb : vw b h with
      | no => simp [ea, eb] at e
      | fl => simp only [ea, eb] at e; cases e; exact (sE ht hu0 rb rv (kZ rb eb)).1
      | tp db =>
        simp only [ea, eb] at e; cases e
        obtain ⟨q, vb, rfl, hq, rt⟩ := k9 rb eb
        cases rv
        obtain ⟨jts, r2, ht2, _⟩ := I.tuple hq
        exact ⟨.list_tuple ht ht2 hu0, .list_tuple ht ht2 hu0, .list_tuple ht ht2 hu0⟩
      | ls db =>
        simp only [ea, eb] at e
        obtain ⟨q, vb, rfl, hq, rt⟩ := kX r rb eb
        cases rv
        obtain ⟨jts, r2, ht2', _⟩ := I.list hq
        have ht2 := ht2'.isList
        have l1 : its.toArray.size = da.length := by rw [List.size_toArray, <- r1.length, rs.length]
        have l2 : jts.toArray.size = db.length := by rw [List.size_toArray, <- r2.length, rt.length]
        have fin : RcAt A s (.ref p) (.ref q) c /\ RcNeAt A s (.ref p) (.ref q) (!c) := by
          by_cases hl : da.length = db.length
          · rw [if_pos hl] at e
            obtain ⟨h1, h2⟩ := rO r ih rs rt r1 r2 e
            have hsz : its.toArray.size = jts.toArray.size := by omega
            have h2' : c = (List.range its.toArray.size).all (fun (j : Nat) => (eqD k h (da.getD j .non) (db.getD j .non)).getD false) := by
              rw [h2, <- hsz, Nat.min_self]; simp
            exact ⟨by rw [h2']; exact RcAt.lists ht ht2 hsz hu0 h1, by rw [h2']; exact RcNeAt.lists ht ht2 hsz hu0 h1⟩
          · rw [if_neg hl] at e
            have e2 : c = false := (Option.some.inj e).symm
            have hsz : (its.toArray.size != jts.toArray.size) = true := by
              rw [l1, l2]; simpa using hl
            rw [e2]
            exact ⟨RcAt.lists_lengths ht ht2 hsz hu0, RcNeAt.lists_lengths ht ht2 hsz hu0⟩
        refine ⟨?_, fin⟩
        by_cases hpq : p = q
        · subst hpq
          rw [whole _ ra rb]
          exact .same _
        · exact .of_refs hpq fin.1
noncomputable abbrev eqN : Nat := 12
noncomputable def dEq : D -> D -> Hh -> R D := fun a b h => match eqD eqN h a b with
  | some c => .ok (.bl c) h
  | none => .bad
noncomputable def dNe : D -> D -> Hh -> R D := fun a b h => match eqD eqN h a b with
  | some c => .ok (.bl (!c)) h
  | none => .bad
noncomputable def Bg (K : PySem.W.Frag) (g : GG) (neg : Bool) : R2 := fun x y H Q => ∃ α h a b c, aN K g α H h /\ aG K g α H a x /\ aG K g α H b y /\ eqD eqN h a b = some c /\ Q (.bl (if neg then !c else c)) H
theorem nu (hu : X.A.units + 64 < cLine) : OpR X (compareOp .Eq) (Bg X.K g false) := by
  intro pins s σ H x y v u Q I rx ry ⟨α, h, a, b, c, r, ra, rb, e, q⟩
  exact (tN I r eqN X.A a b x y v u c (by show X.A.units + 12 < _; omega) ra rb rx ry e).2.1 _ _ _ _ ⟨.bl c, H, I, rfl, q⟩
theorem ik (hu : X.A.units + 64 < cLine) : OpR X (compareOp .NotEq) (Bg X.K g true) := by
  intro pins s σ H x y v u Q I rx ry ⟨α, h, a, b, c, r, ra, rb, e, q⟩
  exact (tN I r eqN X.A a b x y v u c (by show X.A.units + 12 < _; omega) ra rb rx ry e).2.2 _ _ _ _ ⟨.bl (!c), H, I, rfl, q⟩
theorem tD {ε : EE} {K : PySem.W.Frag} : ef K g ε dEq (Bg K g false) := by
  intro α H h a b x y Q r ra rb w
  unfold dEq at w
  cases e : eqD eqN h a b with
  | none => simp only [e] at w; exact w.elim
  | some c => simp only [e] at w; exact ⟨α, h, a, b, c, r, ra, rb, e, aE.now w r (.bl _)⟩
theorem k7 {ε : EE} {K : PySem.W.Frag} : ef K g ε dNe (Bg K g true) := by
  intro α H h a b x y Q r ra rb w
  unfold dNe at w
  cases e : eqD eqN h a b with
  | none => simp only [e] at w; exact w.elim
  | some c => simp only [e] at w; exact ⟨α, h, a, b, c, r, ra, rb, e, aE.now w r (.bl _)⟩
end
noncomputable def fK (f : D -> Option PyData) : List D -> Option (List PyData)
  | [] => some []
  | d :: ds => match f d, fK f ds with
    | some p, some ps => some (p :: ps)
    | _, _ => none
noncomputable def toPy : Nat -> Hh -> D -> Option PyData
  | 0, _, _ => none
  | k + 1, h, d => match d with
    | .non => some .none
    | .bl b => some (.bool b)
    | .int i => if sml i = true then some (.int i) else none
    | .str x => if x.cps.toList.all (fun c => decide (c < 16 ^ 8)) = true then some (.str x) else none
    | .tup ds => (fK (toPy k h) ds).map .tuple
    | .frl ds => (fK (toPy k h) ds).map .list
    | .ref n => match aw h n with
      | some ds => (fK (toPy k h) ds).map .list
      | none => none
    | _ => none
structure Fz (k : Nat) (d : PyData) : Prop where
  sh : d.showable = true
  nd : d.hasDict = false
  dp : d.depth <= k
  lv : d.leavesShort 1921 = true
structure Fo (k : Nat) (ds : List PyData) : Prop where
  sh : PyData.showableAll ds = true
  nd : PyData.hasDictAll ds = false
  dp : PyData.depthAll ds <= k
  lv : PyData.leavesShortAll 1921 ds = true
section
variable {K : PySem.W.Frag} {g : GG} {α : List Addr} {H : Hp} {h : Hh}
theorem jz {f : D -> Option PyData} {k : Nat} (hf : ∀ d x p, aG K g α H d x -> f d = some p -> RdD K H x p /\ Fz k p) : ∀ {ds : List D} {vs : List V} {ps : List PyData}, aq K g α H ds vs -> fK f ds = some ps →
    Fo k ps /\ vs.length = ps.length /\ ∀ (i : Nat) x d, vs[i]? = some x -> ps[i]? = some d -> RdD K H x d
  | _, _, _, .nil, e => by
    cases e
    exact ⟨⟨by simp [PyData.showableAll], by simp [PyData.hasDictAll], by simp [PyData.depthAll], by simp [PyData.leavesShortAll]⟩, rfl, fun i x d h => by simp at h⟩
  | _, _, _, .cons r t, e => by
    unfold fK at e
    split at e
    · rename_i p ps h1 h2
      cases e
      obtain ⟨a1, a2⟩ := hf _ _ _ r h1
      obtain ⟨b1, b2, b3⟩ := jz hf t h2
      refine ⟨⟨by rw [PyData.showableAll, a2.sh, b1.sh]; rfl, by rw [PyData.hasDictAll, a2.nd, b1.nd]; rfl, by rw [PyData.depthAll]; exact Nat.max_le.mpr ⟨a2.dp, b1.dp⟩, by rw [PyData.leavesShortAll, a2.lv, b1.lv]; rfl⟩, by simp [b2], fun i x d hx hd => ?_⟩
      cases i with
      | zero => simp at hx hd; subst hx hd; exact a1
      | succ i => exact b3 i x d (by simpa using hx) (by simpa using hd)
    · cases e
theorem lN (r : aN K g α H h) : ∀ (k : Nat) (d : D) (x : V) (p : PyData), aG K g α H d x -> toPy k h d = some p -> RdD K H x p /\ Fz k p
  | 0, _, _, _, _, e => by cases e
  | k + 1, d, x, p, rd, e => by
    unfold toPy at e
    cases rd with
    | non => cases e; exact ⟨.non, by simp [PyData.showable], by simp [PyData.hasDict], by simp [PyData.depth], by simp [PyData.leavesShort]⟩
    | bl b => cases e; exact ⟨.bl b, by simp [PyData.showable], by simp [PyData.hasDict], by simp [PyData.depth], by simp [PyData.leavesShort]⟩
    | int i =>
      simp only at e
      split at e
      · rename_i hs
        cases e
        have hl : i.natAbs.log2 < 1920 := Nat.lt_trans (rq hs) (by decide)
        exact ⟨.int i, by simp [PyData.showable, hl], by simp [PyData.hasDict], by simp [PyData.depth], by simp only [PyData.leavesShort, decide_eq_true_eq]; exact int_text_len_1921 hl⟩
      · cases e
    | str z =>
      simp only at e
      split at e
      · rename_i hs
        cases e
        exact ⟨.str z, by simp [PyData.showable], by simp [PyData.hasDict], by simp [PyData.depth], by simpa only [PyData.leavesShort] using hs⟩
      · cases e
    | tup hp rs =>
      simp only at e
      cases e1 : fK (toPy k h) _ with
      | none => rw [e1] at e; cases e
      | some ps =>
        rw [e1] at e
        cases e
        obtain ⟨b1, b2, b3⟩ := jz (fun d x p => lN r k d x p) rs e1
        exact ⟨.tup (SqT.of hp) b2 b3, by rw [PyData.showable]; exact b1.sh, by rw [PyData.hasDict]; exact b1.nd, by rw [PyData.depth]; exact Nat.succ_le_succ b1.dp, by rw [PyData.leavesShort]; exact b1.lv⟩
    | @ref n p hp =>
      simp only at e
      cases el : aw h n with
      | none => rw [el] at e; cases e
      | some ds =>
        rw [el] at e
        simp only at e
        obtain ⟨vs, hv, rs⟩ := r.lst el hp
        cases e1 : fK (toPy k h) ds with
        | none => rw [e1] at e; cases e
        | some ps =>
          rw [e1] at e
          cases e
          obtain ⟨b1, b2, b3⟩ := jz (fun d x p => lN r k d x p) rs e1
          exact ⟨.lst (SqL.of hv) b2 b3, by rw [PyData.showable]; exact b1.sh, by rw [PyData.hasDict]; exact b1.nd, by rw [PyData.depth]; exact Nat.succ_le_succ b1.dp, by rw [PyData.leavesShort]; exact b1.lv⟩
    | frl hp rs =>
      simp only at e
      cases e1 : fK (toPy k h) _ with
      | none => rw [e1] at e; cases e
      | some ps =>
        rw [e1] at e
        cases e
        obtain ⟨b1, b2, b3⟩ := jz (fun d x p => lN r k d x p) rs e1
        exact ⟨.lst hp.sq b2 b3, by rw [PyData.showable]; exact b1.sh, by rw [PyData.hasDict]; exact b1.nd, by rw [PyData.depth]; exact Nat.succ_le_succ b1.dp, by rw [PyData.leavesShort]; exact b1.lv⟩
    | fn _ => cases e
    | edic _ => cases e
    | exc _ _ _ _ _ => cases e
    | scr _ _ => cases e
end
noncomputable def uv (d : D) (h : Hh) : R D := match toPy 12 h d with
  | some p => if p.bulk <= 8000 then .ok (.str p.shown) h else .bad
  | none => .bad
noncomputable def jZ : List D -> Hh -> R D := fun ds h => match ds with
  | [.int i] => if sml i = true then .ok (.str (toString i)) h else .bad
  | [.tup ds] => uv (.tup ds) h
  | [.ref n] => uv (.ref n) h
  | [.frl ds] => uv (.frl ds) h
  | _ => .bad
section
variable {X : Cx} {K : PySem.W.Frag} {g : GG} {ε : EE}
noncomputable abbrev tZ (K : PySem.W.Frag) : List V -> Hp -> VK -> Prop := fun vs H Q => (∃ p d, vs = [.ref p] /\ RdD K H (.ref p) d /\ d.showable = true /\ d.hasDict = false /\ d.depth <= 60 /\ d.shown.length <= sizeLine /\ Q (.str d.shown) H) \/ ∃ i, vs = [.int i] /\ i.natAbs.log2 < 1920 /\ Q (.str (toString i)) H
theorem uD (hg : X.A.guards = some []) (hu : X.A.units + 64 < cLine) : a_ X (.builtin "repr") (tZ X.K) := a_.or (wY hg hu) t6
theorem vh : ki K g ε jZ (tZ K) := by
  intro α H h a x Q r ra w
  unfold jZ at w
  cases ra with
  | nil => exact w.elim
  | cons rd rr =>
    cases rr with
    | cons _ _ => cases rd <;> exact w.elim
    | nil =>
      have gen : ∀ {d : D} {v : V}, aG K g α H d v -> (∃ p, v = .ref p) -> WQ K g ε α H (uv d h) (aE K g α H Q) -> tZ K [v] H Q := by
        intro d v rd ⟨p, hp⟩ w
        subst hp
        unfold uv at w
        cases e : toPy 12 h d with
        | none => simp only [e] at w; exact w.elim
        | some pd =>
          simp only [e] at w
          obtain ⟨hb, w⟩ := WQ.dG w
          obtain ⟨q1, q2⟩ := lN r 12 d _ pd rd e
          have := PyData.shown_le_bulk 1921 (by decide) pd q2.lv
          exact .inl ⟨p, pd, rfl, q1, q2.sh, q2.nd, Nat.le_trans q2.dp (by decide), by rw [sizeLine_eq]; omega, aE.now w r (.str _)⟩
      cases rd with
      | int i =>
        obtain ⟨hs, w⟩ := WQ.dG w
        exact .inr ⟨i, rfl, Nat.lt_trans (rq hs) (by decide), aE.now w r (.str _)⟩
      | tup hp rs => exact gen (.tup hp rs) ⟨_, rfl⟩ w
      | ref hp => exact gen (.ref hp) ⟨_, rfl⟩ w
      | frl hp rs => exact gen (.frl hp rs) ⟨_, rfl⟩ w
      | _ => exact w.elim
noncomputable def bR : List D -> Hh -> R D := fun ds h => match ds with
  | [.tup ds] => .ok (.int ds.length) h
  | [.frl ds] => .ok (.int ds.length) h
  | [.scr ds] => .ok (.int ds.length) h
  | [.str x] => if x.length <= 1000000 then .ok (.int x.length) h else .bad
  | [.ref n] => match h[n]? with
    | some (.lst ds) => .ok (.int ds.length) h
    | some (.set k) => .ok (.int k.length) h
    | _ => .bad
  | _ => .bad
noncomputable abbrev Di (K : PySem.W.Frag) : List V -> Hp -> VK -> Prop := fun xs H Q => (∃ p ys, xs = [.ref p] /\ (SqL K H p ys \/ SqT K H p ys) /\ Q (.int ys.length) H) \/ (∃ p S n, xs = [.ref p] /\ H p = some (.set S n) /\ Q (.int n) H) \/ ∃ z, xs = [.str z] /\ z.length <= sizeLine /\ Q (.int z.length) H
theorem cO : a_ X (.builtin "len") (Di X.K) := a_.or qb (a_.or oq pW)
theorem kh {α : List Addr} {H : Hp} {h : Hh} {ds : List D} {vs : List V} {f : List D -> Hh -> R D} {Q : VK} (hf : ∀ d e r h, f (d :: e :: r) h = .bad) (hf0 : ∀ h, f [] h = .bad) (rs : aq K g α H ds vs) (w : WQ K g ε α H (f ds h) (aE K g α H Q)) : ∃ d v, ds = [d] /\ vs = [v] /\ aG K g α H d v := by
  cases rs with
  | nil => rw [hf0] at w; exact w.elim
  | cons r t =>
    cases t with
    | nil => exact ⟨_, _, rfl, rfl, r⟩
    | cons _ _ => rw [hf] at w; exact w.elim
theorem cR : ki K g ε bR (Di K) := by
  intro α H h a x Q r ra w
  obtain ⟨d, v, rfl, rfl, rd⟩ := kh (f := bR) (fun d _ _ _ => by cases d <;> rfl) (fun _ => rfl) ra w
  unfold bR at w
  cases rd with
  | tup hp rs => exact .inl ⟨_, _, rfl, .inr (SqT.of hp), aE.now w r (by rw [<- rs.length]; exact .int _)⟩
  | frl hp rs => exact .inl ⟨_, _, rfl, .inl hp.sq, aE.now w r (by rw [<- rs.length]; exact .int _)⟩
  | scr hp rs => exact .inl ⟨_, _, rfl, .inl hp.sq, aE.now w r (by rw [<- rs.length]; exact .int _)⟩
  | str z =>
    obtain ⟨hl, w⟩ := WQ.dG w
    exact .inr (.inr ⟨z, rfl, gx hl, aE.now w r (.int _)⟩)
  | @ref n p hp =>
    simp only at w
    cases e : h[n]? with
    | none => rw [e] at w; exact w.elim
    | some o =>
      rw [e] at w
      have q := r.here n p o hp e
      cases o with
      | lst ds => obtain ⟨vs, hv, rs⟩ := q; exact .inl ⟨p, vs, rfl, .inl (SqL.of hv), aE.now w r (by rw [<- rs.length]; exact .int _)⟩
      | set k => exact .inr (.inl ⟨p, _, _, rfl, q, aE.now w r (.int _)⟩)
      | dic k => exact w.elim
      | dit k => exact w.elim
  | _ => exact w.elim
noncomputable def dList (nl : NL) : List D -> Hh -> R D := fun ds h => match ds with
  | [d] => match lT d h with
    | some xs => nl xs h
    | none => .bad
  | _ => .bad
theorem B_ {nl : NL} [iF nl] : ki K g ε (dList nl) (fun xs H Q => ∃ p ys, xs = [.ref p] /\ (SqL K H p ys \/ SqT K H p ys) /\ ∀ l, H l = none -> i4 Q (.ref l) (upd H l (.lst ys))) := by
  intro α H h a x Q r ra w
  obtain ⟨d, v, rfl, rfl, rd⟩ := kh (f := dList nl) (fun _ _ _ _ => rfl) (fun _ => rfl) ra w
  unfold dList at w
  simp only at w
  cases e : lT d h with
  | none => rw [e] at w; exact w.elim
  | some ds =>
    rw [e] at w
    obtain ⟨p, vs, rfl, hq, rs⟩ := vj r rd e
    exact ⟨p, vs, rfl, hq, fun l hl => NL.post w r rs hl⟩
noncomputable def a8 : List D -> Hh -> R D := fun ds h => match ds with
  | [.tup ds] => .ok (.tup ds) h
  | [.frl ds] => .ok (.tup ds) h
  | [.ref n] => match aw h n with
    | some ds => .ok (.tup ds) h
    | none => .bad
  | _ => .bad
theorem cP : ki K g ε a8 (fun xs H Q => ∃ p ys, xs = [.ref p] /\ ((SqL K H p ys /\ ∀ l, H l = none -> Q (.ref l) (upd H l (.tup ys))) \/ (SqT K H p ys /\ Q (.ref p) H))) := by
  intro α H h a x Q r ra w
  obtain ⟨d, v, rfl, rfl, rd⟩ := kh (f := a8) (fun d _ _ _ => by cases d <;> rfl) (fun _ => rfl) ra w
  unfold a8 at w
  cases rd with
  | tup hp rs => exact ⟨_, _, rfl, .inr ⟨SqT.of hp, aE.now w r (.tup hp rs)⟩⟩
  | frl hp rs => exact ⟨_, _, rfl, .inl ⟨hp.sq, fun l hl => aE.tup w r rs hl⟩⟩
  | @ref n p hp =>
    simp only at w
    cases e : aw h n with
    | none => rw [e] at w; exact w.elim
    | some ds =>
      rw [e] at w
      obtain ⟨vs, hv, rs⟩ := r.lst e hp
      exact ⟨p, vs, rfl, .inl ⟨SqL.of hv, fun l hl => aE.tup w r rs hl⟩⟩
  | _ => exact w.elim
noncomputable def intsOf : List D -> Option (List Int)
  | [] => some []
  | .int i :: ds => (intsOf ds).map (i :: ·)
  | _ :: _ => none
theorem eA : ∀ {ds : List D} {ns : List Int}, intsOf ds = some ns -> ds = ns.map D.int
  | [], ns, e => by cases e; rfl
  | .int i :: ds, ns, e => by
    unfold intsOf at e
    cases e1 : intsOf ds with
    | none => rw [e1] at e; cases e
    | some ms => rw [e1] at e; cases e; rw [eA e1]; rfl
  | .non :: _, _, e => by cases e
  | .bl _ :: _, _, e => by cases e
  | .str _ :: _, _, e => by cases e
  | .tup _ :: _, _, e => by cases e
  | .frl _ :: _, _, e => by cases e
  | .ref _ :: _, _, e => by cases e
  | .fn _ :: _, _, e => by cases e
  | .edic :: _, _, e => by cases e
  | .exc _ _ :: _, _, e => by cases e
  | .scr _ :: _, _, e => by cases e
theorem gS : ∀ (ns : List Int), intsOf (ns.map D.int) = some ns
  | [] => rfl
  | n :: r => by rw [List.map_cons, intsOf, gS r]; rfl
noncomputable def rF : List D -> Hh -> R D := fun ds h => match ds with
  | [.tup ds] => match intsOf ds with
    | some ns => if ns.length <= 4000 then .ok (.ref h.length) (h ++ [.set (unl ns)]) else .bad
    | none => .bad
  | _ => .bad
theorem DY : ki K g ε rF (fun vs H Q => ∃ p ns, vs = [.ref p] /\ SqT K H p (ns.map V.int) /\ ns.length + 1 < scanBound /\ ∀ l, H l = none -> Q (.ref l) (upd H l (.set (fun k => (unl ns).any (· == k)) (unl ns).length))) := by
  intro α H h a x Q r ra w
  obtain ⟨d, v, rfl, rfl, rd⟩ := kh (f := rF) (fun d _ _ _ => by cases d <;> rfl) (fun _ => rfl) ra w
  unfold rF at w
  cases rd with
  | tup hp rs =>
    simp only at w
    cases e : intsOf _ with
    | none => rw [e] at w; exact w.elim
    | some ns =>
      rw [e] at w
      obtain ⟨hl, w⟩ := WQ.dG w
      have e2 := eA e
      subst e2
      have e3 := rs.uI
      subst e3
      refine ⟨_, ns, rfl, SqT.of hp, by show ns.length + 1 < 4096; omega, fun l hn => ?_⟩
      refine (show aE K g α H Q _ _ from w) _ _ (α ++ [l]) (Ext.push hn) (r.push hn aH) (.ref ?_)
      rw [<- r.len, List.getElem?_append_right (Nat.le_refl _)]; simp
  | _ => exact w.elim
noncomputable def zN : List D -> Hh -> R D := fun ds h => match ds with
  | [.int i, .int j] => .ok (.int (if j > i then j else i)) h
  | _ => .bad
theorem yI {α : List Addr} {H : Hp} {h : Hh} {ds : List D} {vs : List V} {t : Int -> Int -> Int} {Q : VK} (r : aN K g α H h) (rs : aq K g α H ds vs) (w : WQ K g ε α H (match ds with | [.int i, .int j] => .ok (.int (t i j)) h | _ => .bad) (aE K g α H Q)) : ∃ i j, vs = [.int i, .int j] /\ Q (.int (t i j)) H := by
  split at w
  · cases rs with
    | cons r1 t1 =>
      cases r1
      cases t1 with
      | cons r2 t2 =>
        cases r2
        cases t2
        exact ⟨_, _, rfl, aE.now w r (.int _)⟩
  · exact w.elim
theorem B7 : ki K g ε zN (fun xs H Q => ∃ i j, xs = [.int i, .int j] /\ Q (.int (if j > i then j else i)) H) := fun α H h a x Q r ra w => yI (t := fun i j => if j > i then j else i) r ra w
noncomputable def zO : List D -> Hh -> R D := fun ds h => match ds with
  | [.int i] => .ok (.int i) h
  | [.bl b] => .ok (.int (if b then 1 else 0)) h
  | _ => .bad
theorem E7 : ki K g ε zO (fun xs H Q => (∃ i, xs = [.int i] /\ Q (.int i) H) \/ ∃ k, xs = [.bl k] /\ Q (.int (if k then 1 else 0)) H) := by
  intro α H h a x Q r ra w
  obtain ⟨d, v, rfl, rfl, rd⟩ := kh (f := zO) (fun d _ _ _ => by cases d <;> rfl) (fun _ => rfl) ra w
  unfold zO at w
  cases rd with
  | int i => exact .inl ⟨i, rfl, aE.now w r (.int _)⟩
  | bl b => exact .inr ⟨b, rfl, aE.now w r (.int _)⟩
  | _ => exact w.elim
noncomputable def tyD (d : D) (h : Hh) : Option String := match d with
  | .non => some "NoneType"
  | .bl _ => some "bool"
  | .int _ => some "int"
  | .str _ => some "str"
  | .tup _ => some "tuple"
  | .frl _ => some "list"
  | .edic => some "dict"
  | .ref n => match h[n]? with
    | some (.lst _) => some "list"
    | some (.dic _) => some "dict"
    | some (.dit _) => some "dict"
    | _ => none
  | _ => none
noncomputable def vo (t n : String) : Option Bool :=
  if n = "int" then (if t = "int" then some true else if t = "bool" then some true else if t = "NoneType" \/ t = "str" \/ t = "tuple" \/ t = "list" \/ t = "dict" then some false else none)
  else if n = "bool" \/ n = "tuple" \/ n = "list" \/ n = "str" then (if t = n then some true else if t = "int" \/ t = "bool" \/ t = "NoneType" \/ t = "str" \/ t = "tuple" \/ t = "list" \/ t = "dict" then some false else none)
  else none
noncomputable def nK (n : String) : D -> Hh -> R D := fun d h => match tyD d h with
  | some t => match vo t n with
    | some b => .ok (.bl b) h
    | none => .bad
  | none => .bad
theorem GN {α : List Addr} {H : Hp} {h : Hh} {d : D} {v : V} {t : String} (r : aN K g α H h) (rd : aG K g α H d v) (e : tyD d h = some t) : jj K H v (.type t) := by
  unfold tyD at e
  cases rd with
  | non => cases e; exact .non
  | bl b => cases e; exact .bl b
  | int i => cases e; exact .int i
  | str i => cases e; exact .str i
  | tup hp rs => cases e; exact .tup hp
  | frl hp rs => cases e; obtain ⟨o, hp⟩ := hp; exact .frz hp
  | edic hp => cases e; exact .gX hp
  | @ref n p hp =>
    simp only at e
    cases eo : h[n]? with
    | none => rw [eo] at e; cases e
    | some o =>
      rw [eo] at e
      have q := r.here n p o hp eo
      cases o with
      | lst ds => cases e; obtain ⟨vs, hv, _⟩ := q; exact .lst hv
      | set k => cases e
      | dic k => cases e; obtain ⟨vs, hv, _⟩ := q; exact .dK hv
      | dit k => cases e; obtain ⟨vs, hv, _⟩ := q; exact .dT hv
  | _ => cases e
theorem A6 (K : PySem.W.Frag) : PySem.W.kitOne K (.type "int") (.type "int") = some true /\ PySem.W.kitOne K (.type "bool") (.type "int") = some true /\ PySem.W.kitOne K (.type "NoneType") (.type "int") = some false /\ PySem.W.kitOne K (.type "str") (.type "int") = some false
    /\ PySem.W.kitOne K (.type "tuple") (.type "int") = some false /\ PySem.W.kitOne K (.type "list") (.type "int") = some false /\ PySem.W.kitOne K (.type "dict") (.type "int") = some false := ⟨rfl, rfl, rfl, rfl, rfl, rfl, rfl⟩
theorem Ay (K : PySem.W.Frag) : PySem.W.kitOne K (.type "int") (.type "bool") = some false /\ PySem.W.kitOne K (.type "bool") (.type "bool") = some true /\ PySem.W.kitOne K (.type "NoneType") (.type "bool") = some false /\ PySem.W.kitOne K (.type "str") (.type "bool") = some false
    /\ PySem.W.kitOne K (.type "tuple") (.type "bool") = some false /\ PySem.W.kitOne K (.type "list") (.type "bool") = some false /\ PySem.W.kitOne K (.type "dict") (.type "bool") = some false := ⟨rfl, rfl, rfl, rfl, rfl, rfl, rfl⟩
theorem kit_tuple (K : PySem.W.Frag) : PySem.W.kitOne K (.type "int") (.type "tuple") = some false /\ PySem.W.kitOne K (.type "bool") (.type "tuple") = some false /\ PySem.W.kitOne K (.type "NoneType") (.type "tuple") = some false /\ PySem.W.kitOne K (.type "str") (.type "tuple") = some false
    /\ PySem.W.kitOne K (.type "tuple") (.type "tuple") = some true /\ PySem.W.kitOne K (.type "list") (.type "tuple") = some false /\ PySem.W.kitOne K (.type "dict") (.type "tuple") = some false := ⟨rfl, rfl, rfl, rfl, rfl, rfl, rfl⟩
theorem xC (K : PySem.W.Frag) : PySem.W.kitOne K (.type "int") (.type "list") = some false /\ PySem.W.kitOne K (.type "bool") (.type "list") = some false /\ PySem.W.kitOne K (.type "NoneType") (.type "list") = some false /\ PySem.W.kitOne K (.type "str") (.type "list") = some false
    /\ PySem.W.kitOne K (.type "tuple") (.type "list") = some false /\ PySem.W.kitOne K (.type "list") (.type "list") = some true /\ PySem.W.kitOne K (.type "dict") (.type "list") = some false := ⟨rfl, rfl, rfl, rfl, rfl, rfl, rfl⟩
theorem BC (K : PySem.W.Frag) : PySem.W.kitOne K (.type "int") (.type "str") = some false /\ PySem.W.kitOne K (.type "bool") (.type "str") = some false /\ PySem.W.kitOne K (.type "NoneType") (.type "str") = some false /\ PySem.W.kitOne K (.type "str") (.type "str") = some true
    /\ PySem.W.kitOne K (.type "tuple") (.type "str") = some false /\ PySem.W.kitOne K (.type "list") (.type "str") = some false /\ PySem.W.kitOne K (.type "dict") (.type "str") = some false := ⟨rfl, rfl, rfl, rfl, rfl, rfl, rfl⟩
theorem EK {t n : String} {b : Bool} (e : vo t n = some b) : PySem.W.kitOne K (.type t) (.type n) = some b := by
  unfold vo at e
  obtain ⟨a1, a2, a3, a4, a5, a6, a7⟩ := A6 K
  obtain ⟨b1, b2, b3, b4, b5, b6, b7⟩ := Ay K
  obtain ⟨c1, c2, c3, c4, c5, c6, c7⟩ := kit_tuple K
  obtain ⟨d1, d2, d3, d4, d5, d6, d7⟩ := xC K
  obtain ⟨e1, e2, e3, e4, e5, e6, e7⟩ := BC K
  split at e
  · rename_i hn; subst hn
    split at e
    · rename_i h; subst h; cases e; exact a1
    · split at e
      · rename_i h; subst h; cases e; exact a2
      · split at e
        · rename_i h; cases e; rcases h with rfl | rfl | rfl | rfl | rfl <;> assumption
        · cases e
  · split at e
    · rename_i hn
      split at e
      · rename_i h; subst h; cases e; rcases hn with rfl | rfl | rfl | rfl <;> assumption
      · rename_i hne
        split at e
        · rename_i h; cases e; rcases hn with rfl | rfl | rfl | rfl <;> rcases h with rfl | rfl | rfl | rfl | rfl | rfl | rfl <;> first | assumption | exact absurd rfl hne
        · cases e
    · cases e
theorem uh {e : Expr} {me : ME} {n : String} {x : Str} {p1 p2 pos : Pos} (he : PE X e (tM X.K g ε me)) (hg : Gl X "isinstance") (hm : X.mg "isinstance" = none) (hg2 : Gl X x) (hm2 : X.mg x = none) (hb : bootBuiltins x = some (.type n)) (hn : x ≠ "__name__" := by decide) (hd : (x == ("__debug__" : Str)) = false := by decide)
    (hs1 : starEach [e, .Name x p2] X.env = (false, eval e X.env) :: starEach [.Name x p2] X.env := by rfl) (hs2 : starEach [.Name x p2] X.env = [(false, eval (.Name x p2) X.env)] := by rfl) (hpl : (backTo pos (starEach [.Name x p2] X.env)).any (·.1) = false := by rfl) :
    PE X (.Call (.Name "isinstance" p1) [e, .Name x p2] [] pos) (tM X.K g ε (cUn (nK n) me)) :=
  PE.imp (jD sR hg hm PyProof.Rows.boot_isinstance (dH he (dH (vH (v := .ty n) hg2 hm2 hb rfl hn hd) iz hs2) hs1) (by decide) (by decide) hs1 hpl) fun σ H Q ⟨α, env, h, s, w⟩ => tM.use s w.bind fun d1 h1 v1 H1 α1 e1 s1 r1 w1 => by
    unfold nK at w1
    cases et : tyD d1 h1 with
    | none => simp only [et] at w1; exact w1.elim
    | some t =>
      simp only [et] at w1
      cases es : vo t n with
      | none => simp only [es] at w1; exact w1.elim
      | some b =>
        simp only [es] at w1
        exact ⟨v1, .type t, n, b, rfl, GN s1.heap r1 et, EK es, aE.now (aE.ext e1 w1) s1.heap (.bl b)⟩
end
section
variable {X : Cx} {K : PySem.W.Frag} {g : GG} {ε : EE}
noncomputable def oF : D -> Hh -> R Bool := fun d h => match d with
  | .non => .ok false h
  | .bl b => .ok b h
  | .int i => .ok (i != 0) h
  | .tup ds => .ok (!ds.isEmpty) h
  | .frl ds => .ok (!ds.isEmpty) h
  | .ref n => match aw h n with
    | some ds => .ok (!ds.isEmpty) h
    | none => .bad
  | _ => .bad
theorem aq.isEmpty {α : List Addr} {H : Hp} {ds : List D} {vs : List V} (r : aq K g α H ds vs) : ds.isEmpty = vs.isEmpty := by cases r <;> rfl
theorem mE : Gz K g ε oF (fun x H Q => ∃ k, A8 K x H k /\ Q k H) := by
  intro α H h a x Q r ra w
  unfold oF at w
  have now : ∀ {b : Bool}, kY K g α H Q b h -> Q b H := fun p => p H α Ext.refl r
  cases ra with
  | non => exact ⟨false, rfl, now w⟩
  | bl b => exact ⟨b, rfl, now w⟩
  | int i => exact ⟨_, rfl, now w⟩
  | tup hp rs => exact ⟨_, .inr (.inl ⟨_, SqT.of hp, rfl⟩), now (by rw [<- rs.isEmpty]; exact w)⟩
  | frl hp rs => exact ⟨_, .inl ⟨_, hp.sq, rfl⟩, now (by rw [<- rs.isEmpty]; exact w)⟩
  | @ref n p hp =>
    simp only at w
    cases e : aw h n with
    | none => rw [e] at w; exact w.elim
    | some ds =>
      rw [e] at w
      obtain ⟨vs, hv, rs⟩ := r.lst e hp
      exact ⟨_, .inl ⟨vs, SqL.of hv, rfl⟩, now (by rw [<- rs.isEmpty]; exact w)⟩
  | _ => exact w.elim
noncomputable def nQ : List D -> Option (List D)
  | [.int j] => if j.natAbs <= 1000000 then some (bS 0 j.toNat) else none
  | [.int i, .int j] => if (i.natAbs <= 1000000 /\ j.natAbs <= 1000000) /\ (j - i).toNat <= 1000000 then some (bS i (j - i).toNat) else none
  | _ => none
noncomputable def ka (nl : NL) : List D -> Hh -> R D := fun ds h => match nQ ds with
  | some xs => nl xs h
  | none => .bad
noncomputable def fG : List D -> Hh -> R D := fun ds h => match nQ ds with
  | some xs => .ok (.tup xs) h
  | none => .bad
theorem qB (lo : Int) (n : Nat) {α : List Addr} {H : Hp} : aq K g α H (bS lo n) ((mR lo 1 n).map V.int) := by
  have e : bS lo n = (mR lo 1 n).map D.int := by
    unfold bS mR
    rw [List.map_map]
    apply List.map_congr_left
    intro i _
    simp
  rw [e]
  exact aq.ints _
theorem vx {α : List Addr} {H : Hp} {ds : List D} {vs : List V} {xs : List D} (r : aq K g α H ds vs) (e : nQ ds = some xs) :
    (∃ j, vs = [.int j] /\ jg 0 j 1 j.toNat /\ xs = bS 0 j.toNat) \/ ∃ i j, vs = [.int i, .int j] /\ jg i j 1 (j - i).toNat /\ xs = bS i (j - i).toNat := by
  unfold nQ at e
  split at e
  · rename_i j
    split at e
    · rename_i hj
      cases e
      cases r with
      | cons r1 t =>
        cases r1
        cases t
        refine .inl ⟨j, rfl, ?_, rfl⟩
        have := zZ (a := 0) (b := j) (by omega) (by omega) (by omega) (by omega) (by omega)
        rw [Int.sub_zero] at this
        exact this
    · cases e
  · rename_i i j
    split at e
    · rename_i hj
      cases e
      cases r with
      | cons r1 t =>
        cases r1
        cases t with
        | cons r2 t =>
          cases r2
          cases t
          exact .inr ⟨i, j, rfl, zZ (by omega) (by omega) (by omega) (by omega) (by omega), rfl⟩
    · cases e
  · cases e
theorem xB : a_ X (.type "range") (fun vs H Q => (∃ j, vs = [.int j] /\ ∀ p, H p = none -> Q (.ref p) (upd H p (lp p 0 j 1))) \/ ∃ i j, vs = [.int i, .int j] /\ ∀ p, H p = none -> Q (.ref p) (upd H p (lp p i j 1))) := a_.or wX xh
section
variable {e : Expr} {es : List Expr} {mr : MA} {p1 p2 q1 q2 : Pos}
theorem zz {nl : NL} [iF nl] (hc : X.calm = true) (hg : Gl X "list") (hm : X.mg "list" = none) (hg2 : Gl X "range") (hm2 : X.mg "range" = none) (ha : PA X (e :: es) (tMA X.K g ε mr))
    (he : starEach (e :: es) X.env = (false, eval e X.env) :: starEach es X.env := by rfl) (hpl : (backTo q2 (starEach es X.env)).any (·.1) = false := by rfl)
    (he1 : starEach [.Call (.Name "range" p2) (e :: es) [] q2] X.env = [(false, eval (.Call (.Name "range" p2) (e :: es) [] q2) X.env)] := by rfl) (hpl1 : (backTo q1 (starEach [] X.env)).any (·.1) = false := by rfl) :
    PE X (.Call (.Name "list" p1) [.Call (.Name "range" p2) (e :: es) [] q2] [] q1) (tM X.K g ε (ah (ka nl) mr)) :=
  PE.imp (PE.frz (gb (nL hc) hg hm PyProof.Rows.boot_list (dH (gb xB hg2 hm2 PyProof.Rows.boot_range ha (by decide) (by decide) he hpl) iz he1) (by decide) (by decide) he1 hpl1)) fun σ H Q ⟨α, env, h, s, w⟩ => tMA.use s w.bind fun d1 h1 v1 H1 α1 e1 s1 r1 w1 => by
    unfold ka at w1
    cases er : nQ d1 with
    | none => rw [er] at w1; exact w1.elim
    | some xs =>
      rw [er] at w1
      rcases vx r1 er with ⟨j, rfl, ok, rfl⟩ | ⟨i, j, rfl, ok, rfl⟩
      · refine .inl ⟨j, rfl, fun p hp => ⟨p, 0, j, 1, j.toNat, rfl, aH, ok, fun l hl => ?_⟩⟩
        have x := Ext.fresh (K := X.K) (α := α1) (o := lp p 0 j 1) hp
        exact NL.post ((w1.post e1).post x) (s1.heap.grow hp) (qB 0 j.toNat) hl
      · refine .inr ⟨i, j, rfl, fun p hp => ⟨p, i, j, 1, (j - i).toNat, rfl, aH, ok, fun l hl => ?_⟩⟩
        have x := Ext.fresh (K := X.K) (α := α1) (o := lp p i j 1) hp
        exact NL.post ((w1.post e1).post x) (s1.heap.grow hp) (qB i (j - i).toNat) hl
theorem qy (hc : X.calm = true) (hg : Gl X "tuple") (hm : X.mg "tuple" = none) (hg2 : Gl X "range") (hm2 : X.mg "range" = none) (ha : PA X (e :: es) (tMA X.K g ε mr))
    (he : starEach (e :: es) X.env = (false, eval e X.env) :: starEach es X.env := by rfl) (hpl : (backTo q2 (starEach es X.env)).any (·.1) = false := by rfl)
    (he1 : starEach [.Call (.Name "range" p2) (e :: es) [] q2] X.env = [(false, eval (.Call (.Name "range" p2) (e :: es) [] q2) X.env)] := by rfl) (hpl1 : (backTo q1 (starEach [] X.env)).any (·.1) = false := by rfl) :
    PE X (.Call (.Name "tuple" p1) [.Call (.Name "range" p2) (e :: es) [] q2] [] q1) (tM X.K g ε (ah fG mr)) :=
  PE.imp (gb (mY hc) hg hm PyProof.Rows.boot_tuple (dH (gb xB hg2 hm2 PyProof.Rows.boot_range ha (by decide) (by decide) he hpl) iz he1) (by decide) (by decide) he1 hpl1) fun σ H Q ⟨α, env, h, s, w⟩ => tMA.use s w.bind fun d1 h1 v1 H1 α1 e1 s1 r1 w1 => by
    unfold fG at w1
    cases er : nQ d1 with
    | none => rw [er] at w1; exact w1.elim
    | some xs =>
      rw [er] at w1
      rcases vx r1 er with ⟨j, rfl, ok, rfl⟩ | ⟨i, j, rfl, ok, rfl⟩
      · refine .inl ⟨j, rfl, fun p hp => ⟨p, 0, j, 1, j.toNat, rfl, aH, ok, fun l hl => ?_⟩⟩
        have x := Ext.fresh (K := X.K) (α := α1) (o := lp p 0 j 1) hp
        exact aE.tup (aE.ext (e1.trans x) w1) (s1.heap.grow hp) (qB 0 j.toNat) hl
      · refine .inr ⟨i, j, rfl, fun p hp => ⟨p, i, j, 1, (j - i).toNat, rfl, aH, ok, fun l hl => ?_⟩⟩
        have x := Ext.fresh (K := X.K) (α := α1) (o := lp p i j 1) hp
        exact aE.tup (aE.ext (e1.trans x) w1) (s1.heap.grow hp) (qB i (j - i).toNat) hl
end
noncomputable def isL (d : D) (h : Hh) : Bool := match d with
  | .ref n => (aw h n).isSome
  | .frl _ => true
  | _ => false
noncomputable def cz (f : D -> List D -> Hh -> R D) (o : ME) (a : MA) : ME := fun env h => (o env h).bind fun x h1 => if isL x h1 = true then (a env h1).bind fun xs h2 => f x xs h2 else .bad
theorem CK {α : List Addr} {H : Hp} {h : Hh} {d : D} {x : V} (r : aN K g α H h) (rd : aG K g α H d x) (e : isL d h = true) : tyV K "list" x H := by
  unfold isL at e
  cases rd with
  | @ref n p hp =>
    simp only at e
    obtain ⟨ds, e⟩ := Option.isSome_iff_exists.mp e
    obtain ⟨vs, hv, _⟩ := r.lst e hp
    exact .inl ⟨rfl, vs, SqL.of hv⟩
  | frl hq rs => exact .inl ⟨rfl, _, hq.sq⟩
  | _ => cases e
theorem gr {o e : Expr} {es : List Expr} {mo : ME} {mr : MA} {name : Str} {apos cpos : Pos} {id : String} {r : V -> List V -> Hp -> VK -> Prop} {f : D -> List D -> Hh -> R D} (slot : Slot "list" name id) (hty : typeOf (.builtin id) = pure (.type "method_descriptor")) (hm : MtM X id r) (im : tR X.K g ε f r) (ho : PE X o (tM X.K g ε mo)) (ha : PA X (e :: es) (tMA X.K g ε mr))
    (hbase : attributeBase o name X.env (eval o X.env) = eval o X.env := by rfl)
    (hfew : ((backTo cpos (starEach (e :: es) X.env)).all (fun x => !x.1) && (backToKw cpos (keywordEach [] X.env)).all (fun x => x.1.isSome)
      && decide ((e :: es).length + ([] : List Keyword).length + (if ([] : List Keyword).isEmpty then 0 else 1) < 30)) = true := by rfl)
    (hline : (apos.endLine == cpos.line) = true := by rfl) (hs : starEach (e :: es) X.env = (false, eval e X.env) :: starEach es X.env := by rfl) (hplain : (backTo cpos (starEach es X.env)).any (·.1) = false := by rfl) :
    PE X (.Call (.Attribute o name apos) (e :: es) [] cpos) (tM X.K g ε (cz f mo mr)) :=
  PE.imp (C8 PySem.F.plainAttrs_list slot hty hm ho ha hbase hfew hline hs hplain) fun σ H Q ⟨α, env, h, s, w⟩ => tM.use s w.bind fun d1 h1 v1 H1 α1 e1 s1 r1 w1 => by
    obtain ⟨hl, w1⟩ := WQ.dG w1
    refine ⟨CK s1.heap r1 hl, tMA.use s1 (w1.ext e1).bind fun d2 h2 v2 H2 α2 e2 s2 r2 w2 => ?_⟩
    exact im α2 H2 h2 d1 d2 v1 v2 Q s2.heap (r1.ext e2) r2 ((w2.ext e2).mono fun _ _ _ p => aE.ext (e1.trans e2) p)
noncomputable def bE : D -> List D -> Hh -> R D := fun o ds h => match o, ds with
  | .ref n, [d] => match aw h n with
    | some xs => if xs.length < 1000000 then .ok .non (h.set n (.lst (xs ++ [d]))) else .bad
    | none => .bad
  | _, _ => .bad
theorem eO : tR K g ε bE uK := by
  intro α H h o a y x Q r ro ra w
  unfold bE at w
  cases ro with
  | @ref n p hp =>
    cases ra with
    | nil => exact w.elim
    | @cons d v _ _ rd rr =>
      cases rr with
      | cons _ _ => exact w.elim
      | nil =>
        simp only at w
        cases e : aw h n with
        | none => rw [e] at w; exact w.elim
        | some xs =>
          rw [e] at w
          obtain ⟨hl, w⟩ := WQ.dG w
          obtain ⟨vs, hv, rs⟩ := r.lst e hp
          refine ⟨p, vs, _, rfl, rfl, hv, by rw [<- rs.length, sizeLine_eq]; omega, ?_⟩
          have x := Ext.write (o := .lst (vs ++ [v])) r hp
          exact (show aE K g α H Q _ _ from w) _ _ α x (r.write hp ⟨_, aH, (rs.append (.cons rd .nil)).ext x⟩) .non
  | _ => exact w.elim
noncomputable def sN : D -> List D -> Hh -> R D := fun o ds h => match o, ds with
  | .ref n, [.int i] => match aw h n with
    | some xs => match ixN xs.length i with
      | some k => match xs[k]? with
        | some d => if xs.length <= 1000000 then .ok d (h.set n (.lst (xs.eraseIdx k))) else .bad
        | none => .bad
      | none => .bad
    | none => .bad
  | _, _ => .bad
theorem Ew : tR K g ε sN yA := by
  intro α H h o a y x Q r ro ra w
  unfold sN at w
  cases ro with
  | @ref n p hp =>
    cases ra with
    | nil => exact w.elim
    | cons rd rr =>
      cases rr with
      | cons _ _ => cases rd <;> exact w.elim
      | nil =>
        cases rd with
        | int i =>
          simp only at w
          cases e : aw h n with
          | none => rw [e] at w; exact w.elim
          | some xs =>
            rw [e] at w
            simp only at w
            cases e2 : ixN xs.length i with
            | none => rw [e2] at w; exact w.elim
            | some k =>
              rw [e2] at w
              simp only at w
              cases e3 : xs[k]? with
              | none => rw [e3] at w; exact w.elim
              | some d =>
                rw [e3] at w
                obtain ⟨hl, w⟩ := WQ.dG w
                obtain ⟨vs, hv, rs⟩ := r.lst e hp
                obtain ⟨v, ev, rv⟩ := rs.get e3
                obtain ⟨h1, h2, h3, h4⟩ := qD e2
                refine ⟨p, vs, i, k, v, rfl, rfl, hv, ?_, ?_, by rw [<- rs.length]; exact h1, ev, ?_⟩
                · omega
                · omega
                · have x := Ext.write (o := .lst (vs.eraseIdx k)) r hp
                  exact (show aE K g α H Q _ _ from w) _ _ α x (r.write hp ⟨_, aH, (rs.erase k).ext x⟩) (rv.ext x)
        | _ => exact w.elim
  | _ => exact w.elim
end
section
variable {P : Program} {w : World} {K : PySem.W.Frag} {mg : Str -> Option Value} {base : Heap} {g : GG}
noncomputable def aR (K : PySem.W.Frag) (mg : Str -> Option Value) (x : Str) (st : Stmt) : Prop := ∃ f fd, mg x = some (.ref f) /\ Fun K x x st f fd
noncomputable def cM (K : PySem.W.Frag) (x : Str) (st : Stmt) : Prop := ∃ f fd, PySem.W.nsIn K mainGlobals x = some (some (.ref f)) /\ Fun K x x st f fd
theorem bU {x : Str} {st : Stmt} {f : Addr} {oc : Value} {od an : Option Addr} {osl : Array (Option Value)} {kV doc pm cdv ct : Value} (a : PySem.W.nsIn K mainGlobals x = some (some (.ref f)))
    (l : K.lookup f = some ⟨oc, od, .func (PySem.W.fnOf x x (jO st) (d_ st) (ak st) .none kV doc pm an cdv ct), osl⟩) (c : PySem.W.codeIn K cdv x = true) (k : PySem.W.keepIn K (.ref f) = true) : cM K x st := ⟨f, _, a, DM l c k⟩
theorem aR.of {h : Heap} {x : Str} {st : Stmt} (X : K.In h) (G : h.Ns mainGlobals mg) (d : cM K x st) : aR K mg x st :=
  let ⟨f, fd, a, F⟩ := d; ⟨f, fd, PySem.W.mg_of X G a, F⟩
noncomputable def Has (P : Program) (w : World) (K : PySem.W.Frag) (mg : Str -> Option Value) (base : Heap) (g : GG) (x : Str) (k : Nat) (ps : List Str) (m : MF) : Prop :=
  ∃ f fd, dQ P w K mg base CX0 k f fd ps (spM K g ps.length m) /\ PySem.W.keepIn K (.ref f) = true /\ Binds K fd ps [] /\ mg x = some (.ref f) /\ ∃ (oc : Value) (od : Option Addr) (osl : Array (Option Value)), K.lookup f = some ⟨oc, od, .func fd, osl⟩
noncomputable def gOf (mg : Str -> Option Value) : GG := fun x => match mg x with
  | some (.ref f) => some f
  | _ => none
theorem bC {x : Str} {st : Stmt} {f : Addr} {fd : FuncData} (F : Fun K x x st f fd) : ∃ (oc : Value) (od : Option Addr) (osl : Array (Option Value)), K.lookup f = some ⟨oc, od, .func fd, osl⟩ := by
  obtain ⟨oc, od, kV, doc, pm, an, cdv, ct, osl, rfl, lk, hcd⟩ := F.ex
  exact ⟨oc, od, osl, lk⟩
theorem Ej {x : Str} {st : Stmt} {f : Addr} {fd : FuncData} {k : Nat} {ps : List Str} {m : MF} (F : Fun K x x st f fd) (hm : mg x = some (.ref f)) (h : Has P w K mg base g x k ps m) : dQ P w K mg base CX0 k f fd ps (spM K g ps.length m) := by
  obtain ⟨f2, fd2, G, _, _, hm2, oc, od, osl, l2⟩ := h
  obtain ⟨oc', od', osl', l1⟩ := bC F
  rw [hm] at hm2
  cases hm2
  rw [l1] at l2
  cases l2
  exact G
end
section
variable {X : Cx} {g : GG} {ε : EE}
theorem zr {i j : Nat} {x y : Str} {a b : Expr} {ma : MA} {px py pt pos : Pos} {kt k2 pt2} (hc : X.calm = true) (hN : X.N.Nodup) (hi : X.N[i]? = some x) (hj : X.N[j]? = some y) (hij : i ≠ j) (ha : PA X [a, b] (tMA X.K g ε ma))
    (hx : X.env.scope.names.lookup x = some .local := by rfl) (hy : X.env.scope.names.lookup y = some .local := by rfl)
    (hw : swappedStores [.Tuple [.Name x px, .Name y py] kt pt] (.Tuple [a, b] k2 pt2) X.env = pure (some [x, y]) := by rfl)
    (hs : swapsWithSole [.Tuple [.Name x px, .Name y py] kt pt] (.Tuple [a, b] k2 pt2) pos.line X.env = pure false := by rfl) :
    PS X (.Assign [.Tuple [.Name x px, .Name y py] kt pt] (.Tuple [a, b] k2 pt2) pos) (tMS X.K g ε (qY i j ma)) := Gx hc hN hi hj hij hx hy ha hw hs
end
theorem DN {k : Nat} {m : MF} {l : PySem.W.OpenLaw} {q : Program} {loose : List Str} {XP : (Str -> Option Value) -> Heap -> Prop} {YP : World -> Heap -> Prop} {d : DefRec} {K : Params -> PySem.W.Frag} (hn : l.most = some 63) (hdf : d.params.defaults = []) (hr : dq k callerA)
    (hY : ∀ (w : World) (h : Heap), YP w h -> (K w.params).In h)
    (ok : ∀ ns : List Int, ns.length <= 63 -> ∃ h, m [.scr (ns.map D.int)] [] = .ok (.bl true) h)
    (F : ∀ (w : World) (mg : Str -> Option Value) (fa : Addr) (h : Heap), (K w.params).In h -> h.Ns mainGlobals mg -> mg d.name = some (.ref fa) →
      ∃ fd : FuncData, (∀ (s : Shared) (u : Value), BindsTo s fd ⟨[u], []⟩ [("_law_script", u)]) /\ ∀ base : Heap, (K w.params).In base -> base.Ns mainGlobals mg -> dQ l.prog w (K w.params) mg base CX0 k fa fd ["_law_script"] (spM (K w.params) (gOf mg) 1 m)) :
    PySem.W.WalkO q loose XP YP l.row.toRowW d [] (fun f vs => PySem.call f vs) := by
  refine L2.Ce (n := 63) (k := k) (x := "_law_script") (CX := fun _ => CX0) (sp := fun w => fun vs H Q _ => ∃ a ns, vs = [V.ref a] /\ ns.length <= 63 /\ Bb H /\ SqL (K w.params) H a (ns.map V.int) /\ ∀ v H', v = V.bl true -> Q v H') hn (by decide) hdf hr hY (fun w mg fa h KX G hmg => ?_) (fun w H a ns hl hO hS => ⟨a, ns, rfl, hl, hO, hS, fun _ _ z => z⟩) fun _ _ _ _ _ z => z
  obtain ⟨fd, hb, hF⟩ := F w mg fa h KX G hmg
  refine ⟨fd, hb, fun base kb nb => (hF base kb nb).imp fun vs H Q E z => ?_⟩
  obtain ⟨a, ns, rfl, hl, hO, hS, hQ⟩ := z
  obtain ⟨hh, e⟩ := ok ns hl
  refine ⟨rfl, [], [.scr (ns.map D.int)], [], .cons (.scr ?_ (aq.ints ns)) .nil, ⟨rfl, fun n m p z => by simp at z, fun n p o z => by simp at z⟩, ?_⟩
  · rcases hS with (hS | ⟨o, hS⟩) | hS
    · rcases hO a with z | ⟨o, xs, z⟩
      · rw [hS] at z; cases z
      · rw [hS] at z; cases z
    · exact .inl ⟨o, hS⟩
    · exact .inr hS
  · rw [e]
    intro v H' α' _ _ rd
    cases rd
    exact hQ _ _ rfl
section
variable {X : Cx} {K : PySem.W.Frag} {g : GG} {ε : EE}
noncomputable def kW (lo st : Int) (n : Nat) : List D := (mR lo st n).map D.int
noncomputable def yd : List D -> Option (List D)
  | [.int a, .int b, .int c] => if Builtin.Range.small a b c = true /\ 0 <= Builtin.Range.rangeSize a b c /\ (Builtin.Range.rangeSize a b c).natAbs <= 1000000 /\ c ≠ 0 /\ c.natAbs < 1073741824 then some (kW a c (Builtin.Range.rangeSize a b c).toNat) else none
  | _ => none
theorem AF {α : List Addr} {H : Hp} {ds : List D} {vs : List V} {xs : List D} (r : aq K g α H ds vs) (e : yd ds = some xs) :
    ∃ a b c n, vs = [.int a, .int b, .int c] /\ c ≠ 0 /\ c.natAbs < 1073741824 /\ jg a b c n /\ xs = kW a c n := by
  unfold yd at e
  split at e
  · rename_i a b c
    split at e
    · rename_i hc
      cases e
      cases r with
      | cons r1 t =>
        cases t with
        | cons r2 t =>
          cases t with
          | cons r3 t =>
            cases t; cases r1; cases r2; cases r3
            exact ⟨a, b, c, _, rfl, hc.2.2.2.1, hc.2.2.2.2, ⟨hc.1, by omega, by omega⟩, rfl⟩
    · cases e
  · cases e
noncomputable def ny (tab : Str -> Option MF) (f : ME) (a : MA) : ME := fun env h => (f env h).bind fun d h1 => match d with
  | .fn x => match tab x with
    | some m => (a env h1).bind m
    | none => .bad
  | _ => .bad
theorem vQ (its : List Value) : slicePick its.toArray none none (some (-1)) = its.reverse.toArray := by
  have h := s_ its.toArray
  unfold slicePick
  have e1 : sliceBounds none none (some (-1)) its.toArray.size = ((its.toArray.size : Int) - 1, -1, -1) := rfl
  rw [e1]
  have e2 : sliceRange ((its.toArray.size : Int) - 1) (-1) (-1) = (List.range its.toArray.size).map fun (k : Nat) => ((its.toArray.size : Int) - 1 + (k : Int) * (-1)).toNat := by
    unfold sliceRange
    have e3 : (if (-1 : Int) > 0 then (if ((its.toArray.size : Int) - 1) < -1 then (-1 - ((its.toArray.size : Int) - 1) + -1 - 1) / -1 else 0) else (if ((its.toArray.size : Int) - 1) > -1 then (((its.toArray.size : Int) - 1) - -1 - -1 - 1) / (- -1) else 0)).toNat = its.toArray.size := by
      rw [if_neg (by decide), show (- -1 : Int) = 1 by decide, Int.ediv_one]
      split <;> omega
    simp only
    rw [e3]
    apply List.map_congr_left
    intro k _
    congr 1
    omega
  rw [e2, List.filterMap_map]
  exact h
noncomputable def F2 (K : PySem.W.Frag) (te : TE) : TE := fun σ H Q => te σ H fun x H1 => ∃ a xs, x = .ref a /\ ((SqT K H1 a xs /\ ∀ p, H1 p = none -> Q (.ref p) (upd H1 p (.tup xs.reverse))) \/ (SqL K H1 a xs /\ ∀ p, H1 p = none -> Q (.ref p) (upd H1 p (.lst xs.reverse))))
theorem CI {e : Expr} {te : TE} {j p1 p2 p3 pos} (he : PE X e te) : PE X (.Subscript e (.Slice none none (some (.UnaryOp .USub (.Constant (.int 1) j p1) p3)) p2) pos) (F2 X.K te) := by
  intro pins s σ H Q I h
  refine Subscript_ (thn (he pins s σ H _ I h) fun v s1 ⟨x, H1, I1, r1, q1⟩ => ?_)
  obtain ⟨a, xs, rfl, q⟩ := q1
  cases r1
  refine wpAny_Slice (evalPart_none_step (evalPart_none_step (evalPart_some_step ?_)))
  refine thn (Dc (X := X) eV yo pins s1 σ H1 (fun v H' => v = .int (-1) /\ H' = H1) I1 ⟨1, rfl, rfl, rfl⟩) fun u s2 ⟨v2, H2, I2, r2, e1, e2⟩ => ?_
  subst e1 e2
  obtain ⟨tk, rfl⟩ := r2
  have I4 : Inv X pins σ H2 { s2 with heap := s2.heap.push { cls := .type "slice", data := .fields #[.none, .none, .int (-1) tk] } } := I2.kept (t' := s2.toks) fun b ob q => Heap.get?_push_of_some _ q
  rcases q with ⟨hx, q⟩ | ⟨hx, q⟩
  · obtain ⟨its, r, ht, hz⟩ := I4.tuple hx
    have hlen : its.toArray.size = xs.length := by rw [List.size_toArray]; exact r.length.symm
    refine tail_any (ops := [.ref a, .ref s2.heap.objs.size]) ht.typeIs PyProof.Rows.slot_tuple_getitem.lookup (j5 ht (Heap.IsSliceOf.new ..) ?_ (by rw [hlen]; exact hz)) (by with_unfolding_all rfl)
    refine ⟨.ref _, _, I4.laid (t' := s2.toks) (o := .tup xs.reverse) (fun b ob q => Heap.get?_push_of_some _ q) (Nat.le_refl _) ?_, rfl, q _ (I4.hok.fresh (Nat.le_refl _))⟩
    exact ⟨by rw [List.length_reverse]; exact hz, its.reverse, r.reverse, jm.new _ _⟩
  · obtain ⟨its, r, pl, hz⟩ := I4.list hx
    have hlen : its.toArray.size = xs.length := by rw [List.size_toArray]; exact r.length.symm
    refine tail_any (ops := [.ref a, .ref s2.heap.objs.size]) pl.isList.typeIs slot_list_getitem.lookup (wpAny_getItem_list_slice pl.isList (Heap.IsSliceOf.new ..) .none .none (.int (-1) tk) (by decide) ?_ (by rw [hlen]; exact hz)) (by with_unfolding_all rfl)
    rw [vQ]
    refine ⟨.ref _, _, I4.laid (t' := s2.toks) (o := .lst xs.reverse) (fun b ob q => Heap.get?_push_of_some _ q) (Nat.le_refl _) ?_, rfl, q _ (I4.hok.fresh (Nat.le_refl _))⟩
    exact ⟨by rw [List.length_reverse]; exact hz, its.reverse, 0, r.reverse, Heap.get?_push_size _ rfl⟩
noncomputable def g_ (nl : NL) : D -> Hh -> R D := fun d h => match d with
  | .tup ds => .ok (.tup ds.reverse) h
  | .frl ds => nl ds.reverse h
  | .ref n => match aw h n with
    | some ds => nl ds.reverse h
    | none => .bad
  | _ => .bad
theorem p8 {nl : NL} [iF nl] {e : Expr} {me : ME} {j p1 p2 p3 pos} (he : PE X e (tM X.K g ε me)) : PE X (.Subscript e (.Slice none none (some (.UnaryOp .USub (.Constant (.int 1) j p1) p3)) p2) pos) (tM X.K g ε (cUn (g_ nl) me)) :=
  PE.imp (PE.frz (CI he)) fun σ H Q ⟨α, env, h, s, w⟩ => tM.use s w.bind fun d1 h1 v1 H1 α1 e1 s1 r1 w1 => by
    have w4 := w1.post e1
    unfold g_ at w4
    cases r1 with
    | tup hq rs => exact ⟨_, _, rfl, .inl ⟨SqT.of hq, fun l hl => .inl (aE.tup w4 s1.heap rs.rev hl)⟩⟩
    | frl hq rs => exact ⟨_, _, rfl, .inr ⟨hq.sq, fun l hl => NL.post w4 s1.heap rs.rev hl⟩⟩
    | @ref n p hp =>
      simp only at w4
      cases e : aw h1 n with
      | none => rw [e] at w4; exact w4.elim
      | some ds =>
        rw [e] at w4
        obtain ⟨vs, hv, rs⟩ := s1.heap.lst e hp
        exact ⟨_, _, rfl, .inr ⟨SqL.of hv, fun l hl => NL.post w4 s1.heap rs.rev hl⟩⟩
    | _ => exact w4.elim
end
mutual
noncomputable def dR (k : Nat) : D -> Bool
  | .ref n => decide (n < k)
  | .tup ds => bP k ds
  | .frl ds => bP k ds
  | .scr ds => bP k ds
  | _ => true
noncomputable def bP (k : Nat) : List D -> Bool
  | [] => true
  | d :: ds => dR k d && bP k ds
end
noncomputable def nJ (k : Nat) : O -> Bool
  | .lst ds => bP k ds
  | .set _ => true
  | .dic kvs => bP k (kvs.map (·.2))
  | .dit kvs => bP k (kvs.map (·.2))
noncomputable def kC (f : D -> Option D) : List D -> Option (List D)
  | [] => some []
  | d :: ds => match f d, kC f ds with
    | some e, some es => some (e :: es)
    | _, _ => none
noncomputable def gX (k : Nat) (h : Hh) : Nat -> D -> Option D
  | 0, _ => none
  | f + 1, d => match d with
    | .ref n => if n < k then some (.ref n) else match aw h n with
      | some ds => (kC (gX k h f) ds).map .frl
      | none => none
    | .tup ds => (kC (gX k h f) ds).map .tup
    | .frl ds => (kC (gX k h f) ds).map .frl
    | .scr _ => none
    | d => some d
noncomputable def bx (h : Hh) : D -> Hh -> R D := fun d h' => if (h'.take h.length).all (nJ h.length) = true then match gX h.length h' 8 d with
  | some e => .ok e (h'.take h.length)
  | none => .bad else .bad
open Classical in
noncomputable def jE (S : Addr -> Prop) (o : Addr -> Obj) (H : Hp) : Hp := fun p => if S p then (H p).map (.frz (o p)) else H p
theorem ED {P : Program} {w : World} {H : Hp} {h : Heap} {p : Addr} {u : HO} (q : bL P w H h p u) (mu : Mut (some u)) : ∃ o, h.get? p = some o := by
  cases u with
  | lst xs => obtain ⟨_, _, _, _, e'⟩ := q; exact ⟨_, e'⟩
  | dK kvs => obtain ⟨_, _, _, _, o, _, _, e', _⟩ := q; exact ⟨_, e'⟩
  | dT kvs => obtain ⟨_, _, _, _, o, _, _, e', _⟩ := q; exact ⟨_, e'⟩
  | set S n => obtain ⟨o, _, _, _, e', _⟩ := q; exact ⟨_, e'⟩
  | ins C dx fs => obtain ⟨_, _, _, e', _⟩ := q; exact ⟨_, e'⟩
  | ext φ => obtain ⟨_, ⟨_, e'⟩, _⟩ := q; exact ⟨_, e'⟩
  | _ => exact absurd mu (fun z => z)
theorem EH {outer : List Env} {P : Program} {w : World} {H : Hp} {s : Shared} {Q Q' : VK} {u : Value} {s' : Shared} (h : CE outer P w H s Q' u s')
    (hQ : ∀ v H', Q' v H' -> ∃ S : Addr -> Prop, (∀ p, S p -> ∃ u, H' p = some u /\ Mut (some u)) /\ ∀ o : Addr -> Obj, Q v (jE S o H')) : CE outer P w H s Q u s' := by
  obtain ⟨v, H', os, bare, un, hok, r, q⟩ := h
  obtain ⟨S, hS, q⟩ := hQ v H' q
  have hS1 : ∀ p, S p -> ∀ u, H' p = some u -> Mut (some u) := fun p z u e => by obtain ⟨u', e', m⟩ := hS p z; rw [e] at e'; cases e'; exact m
  have off : ∀ (o : Addr -> Obj) b u, H' b = some u -> ¬ Mut (some u) -> jE S o H' b = some u := fun o b u e m => by
    unfold jE
    rw [if_neg fun z => m (hS1 b z u e)]; exact e
  have offn : ∀ (o : Addr -> Obj) b, H' b = none -> jE S o H' b = none := fun o b e => by
    unfold jE
    split
    · rw [e]; rfl
    · exact e
  let o : Addr -> Obj := fun b => (s'.heap.get? b).getD { cls := .none, data := .fields #[] }
  refine ⟨v, jE S o H', os, bare, ⟨un.keep, un.slot, fun b ob e n hx => offn o b (un.free b ob e n hx), un.there, fun b xs e => off o b _ (un.oA b xs e) fun z => z, fun b ob xs e => off o b _ (un.nz b ob xs e) fun z => z, fun b ps e => ?_⟩, ?_, r, q o⟩
  · obtain ⟨more, e1⟩ := un.oh b ps e
    exact ⟨more, off o b _ e1 fun z => z⟩
  · intro b u e
    have st : ∀ u, bL P w H' s'.heap b u -> bL P w (jE S o H') s'.heap b u := fun u x => x.j1 (fun _ _ _ z => z) (fun c z => off o c _ z fun z => z) fun c xs z => off o c _ z fun z => z
    unfold jE at e
    split at e
    · rename_i hb
      obtain ⟨u', e', m⟩ := hS b hb
      rw [e'] at e
      cases e
      have x := hok b u' e'
      obtain ⟨ob, eo⟩ := ED x m
      refine ⟨?_, st _ x⟩
      show s'.heap.get? b = some ((s'.heap.get? b).getD _)
      rw [eo]; rfl
    · exact st u (hok b u e)
section
variable {K : PySem.W.Frag} {g : GG} {α α' : List Addr} {H H' H2 : Hp} {k : Nat}
structure oO (K : PySem.W.Frag) (α α' : List Addr) (H' H2 : Hp) (k : Nat) : Prop where
  pre : ∀ n, n < k -> α[n]? = α'[n]?
  tup : ∀ p xs, H' p = some (.tup xs) -> H2 p = some (.tup xs)
  frz : ∀ p (o : Obj) (u : HO), H' p = some (.frz o u) -> H2 p = some (.frz o u)
mutual
theorem lF (L : oO K α α' H' H2 k) : ∀ {d : D} {v : V}, dR k d = true -> aG K g α' H' d v -> aG K g α H2 d v
  | _, _, _, .non => .non
  | _, _, _, .bl b => .bl b
  | _, _, _, .int i => .int i
  | _, _, _, .str x => .str x
  | _, _, hl, .ref h => .ref (by rw [L.pre _ (by simpa [dR] using hl)]; exact h)
  | _, _, hl, .tup h r => .tup (L.tup _ _ h) (gf L (by simpa [dR] using hl) r)
  | _, _, hl, .frl h r => .frl (let ⟨o, h⟩ := h; ⟨o, L.frz _ _ _ h⟩) (gf L (by simpa [dR] using hl) r)
  | _, _, hl, .scr h r => .scr (h.elim (fun ⟨o, h⟩ => .inl ⟨o, L.frz _ _ _ h⟩) .inr) (gf L (by simpa [dR] using hl) r)
  | _, _, _, .fn h => .fn h
  | _, _, _, .edic h => .edic (L.frz _ _ _ h)
  | _, _, _, .exc hg h hc hd hf => .exc hg (L.frz _ _ _ h) hc hd (hf.elim .inl fun ⟨dx, od, a, b⟩ => .inr ⟨dx, od, a, L.frz _ _ _ b⟩)
theorem gf (L : oO K α α' H' H2 k) : ∀ {ds : List D} {vs : List V}, bP k ds = true -> aq K g α' H' ds vs -> aq K g α H2 ds vs
  | _, _, _, .nil => .nil
  | _, _, hl, .cons r t => by
    simp only [bP, Bool.and_eq_true] at hl
    exact .cons (lF L hl.1 r) (gf L hl.2 t)
end
theorem jY {f : D -> Option D} (hf : ∀ d e v, f d = some e -> aG K g α' H' d v -> aG K g α H2 e v) : ∀ {ds es : List D} {vs : List V}, kC f ds = some es -> aq K g α' H' ds vs -> aq K g α H2 es vs
  | [], es, _, e, .nil => by cases e; exact .nil
  | d :: ds, es, _, e, .cons r t => by
    unfold kC at e
    split at e
    · rename_i e1 es1 h1 h2
      cases e
      exact .cons (hf _ _ _ h1 r) (jY hf h2 t)
    · cases e
theorem lE {h' hx : Hh} (L : oO K α α' H' H2 k) (r : aN K g α' H' h') (hx' : ∀ n ds, aw hx n = some ds -> aw h' n = some ds) (fz : ∀ n p ds vs, k <= n -> aw hx n = some ds -> α'[n]? = some p -> H' p = some (.lst vs) -> Fr1 H2 p vs) :
    ∀ (f : Nat) (d e : D) (v : V), gX k hx f d = some e -> aG K g α' H' d v -> aG K g α H2 e v
  | 0, _, _, _, e, _ => by cases e
  | f + 1, d, e, v, he, rd => by
    unfold gX at he
    cases rd with
    | non => cases he; exact .non
    | bl b => cases he; exact .bl b
    | int i => cases he; exact .int i
    | str x => cases he; exact .str x
    | fn h => cases he; exact .fn h
    | edic h => cases he; exact .edic (L.frz _ _ _ h)
    | exc hg h hc hd hf => cases he; exact .exc hg (L.frz _ _ _ h) hc hd (hf.elim .inl fun ⟨dx, od, a, b⟩ => .inr ⟨dx, od, a, L.frz _ _ _ b⟩)
    | scr _ _ => cases he
    | tup h rs =>
      simp only at he
      cases e1 : kC (gX k hx f) _ with
      | none => rw [e1] at he; cases he
      | some es => rw [e1] at he; cases he; exact .tup (L.tup _ _ h) (jY (fun d e v => lE L r hx' fz f d e v) e1 rs)
    | frl h rs =>
      simp only at he
      cases e1 : kC (gX k hx f) _ with
      | none => rw [e1] at he; cases he
      | some es => rw [e1] at he; cases he; exact .frl (let ⟨o, h⟩ := h; ⟨o, L.frz _ _ _ h⟩) (jY (fun d e v => lE L r hx' fz f d e v) e1 rs)
    | @ref n p hp =>
      simp only at he
      split at he
      · rename_i hn
        cases he
        exact .ref (by rw [L.pre n hn]; exact hp)
      · rename_i hn
        cases el : aw hx n with
        | none => rw [el] at he; cases he
        | some ds =>
          rw [el] at he
          simp only at he
          cases e1 : kC (gX k hx f) ds with
          | none => rw [e1] at he; cases he
          | some es =>
            rw [e1] at he; cases he
            obtain ⟨vs, hv, rs⟩ := r.lst (hx' n ds el) hp
            exact .frl (fz n p ds vs (by omega) el hp hv) (jY (fun d e v => lE L r hx' fz f d e v) e1 rs)
end
theorem mv {β : Type} {l : List β} {k n : Nat} {x : β} (e : (l.take k)[n]? = some x) : n < k /\ l[n]? = some x := by
  rw [List.getElem?_take] at e
  split at e
  · exact ⟨by assumption, e⟩
  · cases e
theorem lM {α α' : List Addr} (h : α <+: α') {n : Nat} (hn : n < α.length) : α[n]? = α'[n]? := by
  obtain ⟨t, rfl⟩ := h
  rw [List.getElem?_append_left hn]
theorem CG {β : Type} {l : List β} {f : β -> Bool} (h : l.all f = true) {n : Nat} {x : β} (e : l[n]? = some x) : f x = true := List.all_eq_true.mp h x (List.mem_of_getElem? e)
theorem sQ {K : PySem.W.Frag} {g : GG} {α α' α2 : List Addr} {H H' H2 : Hp} {h h' : Hh} (r0 : α.length = h.length) (e : Ext K α H α' H') (r : aN K g α' H' h') (hl : (h'.take h.length).all (nJ h.length) = true)
    (L : oO K α2 α' H' H2 h.length) (kp : ∀ n p u, n < h.length -> α'[n]? = some p -> H' p = some u -> H2 p = some u) : ∀ (n : Nat) (p : Addr) (o : O), n < h.length -> α'[n]? = some p -> (h'.take h.length)[n]? = some o -> OAt K g α2 H2 p o := by
  intro n p o hn hp ho
  have lo := CG hl ho
  obtain ⟨_, ho'⟩ := mv ho
  have q := r.here n p o hp ho'
  cases o with
  | lst ds => obtain ⟨vs, a, b⟩ := q; exact ⟨vs, kp n p _ hn hp a, gf L lo b⟩
  | set m => exact kp n p _ hn hp q
  | dic kvs =>
    obtain ⟨kws, a, b⟩ := q
    refine ⟨kws, kp n p _ hn hp a, ?_⟩
    replace lo : bP h.length (kvs.map (·.2)) = true := lo
    clear a ho ho'
    induction b with
    | nil => exact .nil
    | cons x t ih =>
      simp only [List.map_cons, bP, Bool.and_eq_true] at lo
      exact .cons ⟨x.1, lF L lo.1 x.2⟩ (ih lo.2)
  | dit kvs =>
    obtain ⟨kws, a, b⟩ := q
    refine ⟨kws, kp n p _ hn hp a, ?_⟩
    replace lo : bP h.length (kvs.map (·.2)) = true := lo
    clear a ho ho'
    induction b with
    | nil => exact .nil
    | cons x t ih =>
      simp only [List.map_cons, bP, Bool.and_eq_true] at lo
      exact .cons ⟨x.1, lF L lo.1 x.2⟩ (ih lo.2)
section
variable {P : Program} {w : World} {K : PySem.W.Frag} {mg : Str -> Option Value} {base : Heap} {g : GG} {k np : Nat} {f : Addr} {fd : FuncData} {ps : List Str} {m : MF}
theorem du {CX : CXT} {ε : XK -> EE} (F : dQ P w K mg base CX k f fd ps (spG K g ε np m)) : dQ P w K mg base CX k f fd ps (spG K g ε np fun ds h => (m ds h).bind (bx h)) := by
  refine ⟨fun vs H Q E h => ?_, fun A outer s H args us vs Q E hr e0 hb hv hsp => ?_⟩
  · obtain ⟨hl, α, ds, h, rs, hh, w⟩ := h
    exact F.len vs H (fun _ _ => True) E ⟨hl, α, ds, h, rs, hh, w.bind.mono fun _ _ _ _ _ _ _ _ _ _ => trivial⟩
  · obtain ⟨hl, α, ds, h, rs, hh, w⟩ := hsp
    refine codeAny_mono (F.run A outer s H args us vs (fun v H' => ∃ α' d h', Ext K α H α' H' /\ aN K g α' H' h' /\ aG K g α' H' d v /\ WQ K g (ε E) α H (bx h d h') (aE K g α H Q)) E hr e0 hb hv ⟨hl, α, ds, h, rs, hh, w.bind.mono fun d h' _ w1 v H' α' e r rd => ⟨α', d, h', e, r, rd, w1⟩⟩) fun res s' q => ?_
    cases res with
    | error e => exact q
    | ok fl =>
      cases fl with
      | ret u =>
        refine EH (show CE outer P _ H s _ u s' from q) fun v H' ⟨α', d, h', e, r, rd, w⟩ => ?_
        refine ⟨fun p => ∃ n ds, h.length <= n /\ α'[n]? = some p /\ aw h' n = some ds, fun p ⟨n, ds, _, hp, hn⟩ => ?_, fun o => ?_⟩
        · obtain ⟨vs, hv, _⟩ := r.lst hn hp
          exact ⟨_, hv, trivial⟩
        · unfold bx at w
          obtain ⟨hl, w⟩ := WQ.dG w
          cases ez : gX h.length h' 8 d with
          | none => rw [ez] at w; exact w.elim
          | some e' =>
            rw [ez] at w
            generalize hS : (fun p => ∃ n ds, h.length <= n /\ α'[n]? = some p /\ aw h' n = some ds) = S
            have inS : ∀ p, S p ↔ ∃ n ds, h.length <= n /\ α'[n]? = some p /\ aw h' n = some ds := fun p => by rw [<- hS]
            have k0 : α.length = h.length := hh.len
            have notS : ∀ p u, H' p = some u -> (∀ vs, u ≠ .lst vs) -> ¬ S p := fun p u e1 e2 z => by
              obtain ⟨n, ds, _, hp, hn⟩ := (inS p).mp z
              obtain ⟨vs, hv, _⟩ := r.lst hn hp
              rw [e1] at hv; cases hv; exact e2 vs rfl
            have off : ∀ p, ¬ S p -> jE S o H' p = H' p := fun p z => by unfold jE; rw [if_neg z]
            have L : oO K α α' H' (jE S o H') h.length := ⟨fun n hn => lM e.pre (by omega), fun p xs z => by rw [off p (notS p _ z fun vs z => nomatch z)]; exact z, fun p o u z => by rw [off p (notS p _ z fun vs z => nomatch z)]; exact z⟩
            have kp : ∀ n p u, n < h.length -> α'[n]? = some p -> H' p = some u -> jE S o H' p = some u := fun n p u hn hp e1 => by
              rw [off p fun z => ?_]; exact e1
              obtain ⟨m, ds, hm, hp', _⟩ := (inS p).mp z
              have := r.inj n m p hp hp'
              omega
            have rd2 : aG K g α (jE S o H') e' v := lE L r (fun _ _ z => z) (fun n p ds vs hn hl hp hv => ⟨o p, by unfold jE; rw [if_pos ((inS p).mpr ⟨n, ds, hn, hp, hl⟩), hv]; rfl⟩) 8 d e' v ez rd
            refine (show aE K g α H Q e' (h'.take h.length) from w) v _ α ⟨⟨List.prefix_refl _, fun p xs z => L.tup p xs (e.tup p xs z), fun p o u z => L.frz p o u (e.frz p o u z)⟩, fun p u z n => ?_, fun _ z n => absurd z n⟩ ⟨?_, fun n m p h1 h2 => hh.inj n m p h1 h2, fun n p ob h1 h2 => ?_⟩ rd2
            · rw [off p fun z' => ?_]; exact e.keep p u z n
              obtain ⟨m, ds, _, hp', _⟩ := (inS p).mp z'
              have := e.new p (List.mem_of_getElem? hp') n
              rw [z] at this; cases this
            · rw [List.length_take, <- r.len, k0]
              have := e.pre.length_le
              omega
            · have hn : n < h.length := (mv h2).1
              rw [lM e.pre (by omega)] at h1
              exact sQ k0 e r hl L kp n p ob hn h1 h2
      | next => exact q
      | brk => exact q
      | cont => exact q
end
end L2.FE
namespace L2
open PySem PySem.Spec PyProof.Rows
noncomputable def Izl (K : PySem.W.Frag) (a b : Addr) : It :=
  ⟨fun i H => ∃ xs ys x y, SqL K H a xs /\ SqL K H b ys /\ xs[i]? = some x /\ ys[i]? = some y,
   fun i H x H' => ∃ p v w, x = .ref p /\ H p = none /\ (∀ xs, SqL K H a xs -> xs[i]? = some v) /\ (∀ ys, SqL K H b ys -> ys[i]? = some w) /\ H' = upd H p (.tup [v, w]),
   fun i H => ∃ xs ys, SqL K H a xs /\ SqL K H b ys /\ (xs.length <= i \/ ys.length <= i)⟩
structure ZA (z TI TO i1 i2 : Addr) : Prop where
  TIz : TI ≠ z
  TOz : TO ≠ z
  i1z : i1 ≠ z
  i2z : i2 ≠ z
  TITO : TI ≠ TO
  TIi1 : TI ≠ i1
  TIi2 : TI ≠ i2
  TOi1 : TO ≠ i1
  TOi2 : TO ≠ i2
  i12 : i1 ≠ i2
noncomputable def CS (z TI TO i1 i2 a b : Addr) (i : Nat) (h : Heap) : Prop :=
  IsZip h z TI TO .none /\ IsPair h TI (.ref i1) (.ref i2) /\ (∃ x y, IsPair h TO x y) /\ h.IsListIter i1 a i /\ h.IsListIter i2 b i
theorem o7 {z TI TO i1 i2 a b : Addr} {i : Nat} {h : Heap} {xs ys : Array Value} (A : ZA z TI TO i1 i2) (st : CS z TI TO i1 i2 a b i h) (ha : h.IsList a xs) (hb : h.IsList b ys) : ZipApart z TI TO i1 i2 a b := by
  obtain ⟨hz, hTI, ⟨x, y, hTO⟩, h1, h2⟩ := st
  have cl : ∀ {l : Addr} {vs : Array Value}, h.IsList l vs -> l ≠ z /\ l ≠ TO /\ l ≠ i1 /\ l ≠ i2 := fun {l vs} hl => by
    obtain ⟨oa, qa, ca, _⟩ := hl
    obtain ⟨o1, q1, c1, _⟩ := h1
    obtain ⟨o2, q2, c2, _⟩ := h2
    refine ⟨fun q => ?_, fun q => ?_, fun q => ?_, fun q => ?_⟩
    · rw [q, hz] at qa; cases qa; injection ca with w; exact absurd w (by decide)
    · rw [q, hTO] at qa; cases qa; injection ca with w; exact absurd w (by decide)
    · rw [q, q1] at qa; cases qa; rw [c1] at ca; injection ca with w; exact absurd w (by decide)
    · rw [q, q2] at qa; cases qa; rw [c2] at ca; injection ca with w; exact absurd w (by decide)
  obtain ⟨a1, a2, a3, a4⟩ := cl ha
  obtain ⟨b1, b2, b3, b4⟩ := cl hb
  exact ⟨A.TIz, A.TOz, A.i1z, A.i2z, A.TITO, A.TIi1, A.TIi2, A.TOi1, A.TOi2, A.i12, a1, a2, a3, a4, b1, b2, b3, b4⟩
theorem wo {P : Program} {w : World} {K : PySem.W.Frag} {elts : List Expr} {k : Nat} {pos : Pos} {a b z TI TO i1 i2 : Addr} (A : ZA z TI TO i1 i2) : Turn P w K (.Tuple elts k pos) (Izl K a b) [z, TI, TO, i1, i2] z (CS z TI TO i1 i2 a b) where
  mem := by simp
  obj := fun i h st c hc => by
    obtain ⟨hz, hTI, ⟨x, y, hTO⟩, ⟨o1, q1, _, d1⟩, ⟨o2, q2, _, d2⟩⟩ := st
    simp only [List.mem_cons, List.not_mem_nil, or_false] at hc
    rcases hc with e | e | e | e | e <;> rw [e]
    · exact ⟨_, hz, fun v q => nomatch q⟩
    · exact ⟨_, hTI, fun v q => nomatch q⟩
    · exact ⟨_, hTO, fun v q => nomatch q⟩
    · exact ⟨o1, q1, fun v y => by rw [d1] at y; cases y⟩
    · exact ⟨o2, q2, fun v y => by rw [d2] at y; cases y⟩
  keep := fun i h h' st kk => by
    obtain ⟨hz, hTI, ⟨x, y, hTO⟩, h1, h2⟩ := st
    exact ⟨kk z (by simp) _ hz, kk TI (by simp) _ hTI, ⟨x, y, kk TO (by simp) _ hTO⟩, h1.at fun o q => kk i1 (by simp) o q, h2.at fun o q => kk i2 (by simp) o q⟩
  item := by
    intro X hP hw hK hc i pins s σ H E I hf st hg
    subst hP hw hK
    obtain ⟨xs, ys, x, y, hq, hr, hx, hy⟩ := hg
    obtain ⟨its, rv, p, hz⟩ := I.list hq
    obtain ⟨jts, rw', p', hz'⟩ := I.list hr
    obtain ⟨u, hu, ru⟩ := rv.get hx
    obtain ⟨u', hu', ru'⟩ := rw'.get hy
    have D := o7 A st p.isList p'.isList
    obtain ⟨z1, z2, ⟨t1, t2, z3⟩, z4, z5⟩ := st
    refine wpAny_pyNext_zip_item D z1 z2 z3 z4 z5 p.isList p'.isList (x := u) (y := u') (by simpa using hu) (by simpa using hu') fun h1 a1 a2 a3 a4 a5 a6 k1 => ?_
    refine ⟨_, rfl, wpAny_letOwnedTupleGo_zip a1 fun h2 b1 b2 => ?_⟩
    have lt : ∀ {c o}, s.heap.get? c = some o -> s.heap.objs.size ≠ c := fun e => Nat.ne_of_gt (Heap.lt_size e)
    have kk : ∀ c o, c ∉ [z, TI, TO, i1, i2] -> s.heap.get? c = some o -> h2.get? c = some o := fun c o hc q => by
      simp only [List.mem_cons, List.not_mem_nil, or_false, not_or] at hc
      exact b2.extBut _ _ hc.1 (k1 c o hc.1 hc.2.2.1 hc.2.2.2.1 hc.2.2.2.2 q)
    have hn : H s.heap.objs.size = none := I.hok.fresh (Nat.le_refl _)
    have hzT : s.heap.objs.size ≠ z := lt z1
    have nTf : ∀ c ∈ [z, TI, TO, i1, i2], c ≠ s.heap.objs.size := fun c hc => by
      simp only [List.mem_cons, List.not_mem_nil, or_false] at hc
      rcases hc with e | e | e | e | e <;> rw [e]
      · exact (lt z1).symm
      · exact (lt z2).symm
      · exact (lt z3).symm
      · obtain ⟨o, q, _⟩ := z4; exact (lt q).symm
      · obtain ⟨o, q, _⟩ := z5; exact (lt q).symm
    have hT2 : jm h2 s.heap.objs.size #[u, u'] := ⟨_, b2.extBut _ _ hzT a5, ⟨rfl, _, rfl⟩, rfl⟩
    refine ⟨.ref s.heap.objs.size, upd H s.heap.objs.size (.tup [x, y]), I.yielded (t' := s.toks) hf kk (Nat.le_refl _) ⟨by show 2 <= sizeLine; decide, [u, u'], .cons ru (.cons ru' .nil), hT2⟩, rfl, ⟨_, x, y, rfl, hn, fun l hl => by rw [I.iG hl hq]; exact hx, fun l hl => by rw [I.iG hl hr]; exact hy, rfl⟩, ?_, fun c hc => by rw [aA (nTf c hc)]; exact (hf c hc).1⟩
    exact ⟨b1, b2.extBut _ _ A.TIz (k1 _ _ A.TIz A.TITO A.TIi1 A.TIi2 z2), ⟨_, _, b2.extBut _ _ A.TOz a2⟩, a3.extBut b2.extBut A.i1z, a4.extBut b2.extBut A.i2z⟩
  done := by
    intro X hP hw hK hc i pins s σ H E I hf st hg
    subst hP hw hK
    obtain ⟨xs, ys, hq, hr, hx⟩ := hg
    obtain ⟨its, rv, p, hz⟩ := I.list hq
    obtain ⟨jts, rw', p', hz'⟩ := I.list hr
    have D := o7 A st p.isList p'.isList
    obtain ⟨z1, z2, ⟨t1, t2, z3⟩, z4, z5⟩ := st
    have hl := rv.length
    have hl' := rw'.length
    refine wpAny_pyNext_zip_end (I.ok.hd hc) D z1 z2 z3 z4 z5 p.isList p'.isList ?_ fun h' eb => ⟨rfl, I.lQ (t' := s.toks) hf fun b u hb q => eb b u (fun z => hb (by simp [z])) (fun z => hb (by simp [z])) (fun z => hb (by simp [z])) (fun z => hb (by simp [z])) q⟩
    rcases hx with hx | hx
    · exact .inl (Array.getElem?_eq_none (by rw [List.size_toArray]; omega))
    · exact .inr (Array.getElem?_eq_none (by rw [List.size_toArray]; omega))
  self := fun A i s Q E st q => wpAny_pyIter_zip st.1 q
end L2
namespace L2.FE
open PySem PySem.Spec PyProof.Rows
section
variable {X : Cx} {g : GG} {ε : EE} {K : PySem.W.Frag}
noncomputable def jL : List D -> List D -> List D
  | x :: xs, y :: ys => D.tup [x, y] :: jL xs ys
  | _, _ => []
theorem j6 : ∀ {ds es : List D} {i : Nat}, (jL ds es)[i]? = match ds[i]?, es[i]? with | some d, some e => some (D.tup [d, e]) | _, _ => none
  | [], _, _ => by simp [jL]
  | _ :: _, [], _ => by
    simp only [jL, List.getElem?_nil]
    split <;> simp_all
  | _ :: _, _ :: _, 0 => by simp [jL]
  | _ :: xs, _ :: ys, i + 1 => by
    simp only [jL, List.getElem?_cons_succ]
    exact j6
theorem uL {α : List Addr} {H : Hp} {h : Hh} {d e : D} {v w : V} {p : Addr} (hr : aN K g α H h) (rv : aG K g α H d v) (rw' : aG K g α H e w) (hp : H p = none) :
    ∃ α', Ext K α H α' (upd H p (.tup [v, w])) /\ aN K g α' (upd H p (.tup [v, w])) h /\ aG K g α' (upd H p (.tup [v, w])) (.tup [d, e]) (.ref p) :=
  ⟨α, Ext.fresh hp, hr.grow hp, .tup aH (.cons (rv.ext (Ext.fresh hp)) (.cons (rw'.ext (Ext.fresh hp)) .nil))⟩
theorem vL {α : List Addr} {H : Hp} {a b : Addr} {ds es : List D} {vs ws : List V} (hq : Fro K H a vs) (rs : aq K g α H ds vs) (hq' : Fro K H b ws) (rs' : aq K g α H es ws) : Reads K g (Izl K a b) (Src.snap (jL ds es)).rdr α H := by
  intro α2 H2 h2 x2 hr i
  have hq2 : SqL K H2 a vs := (x2.fro _ _ hq).sq
  have hq2' : SqL K H2 b ws := (x2.fro _ _ hq').sq
  have rs2 := rs.ext x2
  have rs2' := rs'.ext x2
  show match some (jL ds es)[i]? with | none => True | some none => _ | some (some d) => _
  rw [j6]
  cases e : ds[i]? with
  | none =>
    have : ds.length <= i := List.getElem?_eq_none_iff.mp e
    exact ⟨vs, ws, hq2, hq2', .inl (by rw [<- rs.length]; exact this)⟩
  | some d =>
    cases e' : es[i]? with
    | none =>
      have : es.length <= i := List.getElem?_eq_none_iff.mp e'
      exact ⟨vs, ws, hq2, hq2', .inr (by rw [<- rs'.length]; exact this)⟩
    | some d' =>
      obtain ⟨v, ev, rv⟩ := rs2.get e
      obtain ⟨v', ev', rv'⟩ := rs2'.get e'
      refine ⟨⟨vs, ws, v, v', hq2, hq2', ev, ev'⟩, fun x H' y => ?_⟩
      obtain ⟨p, u, u', e1, hp, e2, e2', e3⟩ := y
      subst e1 e3
      have := e2 vs hq2
      rw [ev] at this
      cases this
      have := e2' ws hq2'
      rw [ev'] at this
      cases this
      exact uL hr rv rv' hp
noncomputable def k8 : List D -> Option (List Bool)
  | [] => some []
  | .bl b :: r => (k8 r).map (b :: ·)
  | _ => none
theorem js : ∀ {ds : List D} {bs : List Bool}, k8 ds = some bs -> ds = bs.map D.bl
  | [], _, e => by cases e; rfl
  | d :: ds, bs, e => by
    cases d with
    | bl b =>
      simp only [k8] at e
      cases e2 : k8 ds with
      | none => rw [e2] at e; cases e
      | some cs =>
        rw [e2] at e
        cases e
        rw [js e2]; rfl
    | _ => cases e
theorem aq.DP {α : List Addr} {H : Hp} : ∀ {bs : List Bool} {vs : List V}, aq K g α H (bs.map D.bl) vs -> vs = bs.map V.bl
  | [], _, .nil => rfl
  | b :: bs, _, .cons r t => by
    cases r
    rw [aq.DP t]; rfl
noncomputable def jk (m : MF) : MF := fun ds h => if bP 0 ds = true then match m ds [] with
    | .ok d _ => if dR 0 d = true then .ok d h else .bad
    | _ => .bad
  else m ds h
theorem vK {α α' : List Addr} {H H' : Hp} (e : Ext K [] H α' H') : Ext K α H α H' :=
  ⟨⟨List.prefix_refl _, e.tup, e.frz⟩, fun p o h _ => e.keep p o h (by simp), fun p a b => absurd a b⟩
theorem xR {α α' : List Addr} {H H' : Hp} {h : Hh} (e : Ext K [] H α' H') (r : aN K g α H h) : aN K g α H' h :=
  ⟨r.len, r.inj, fun n p o a b => (r.here n p o a b).ex0 (vK (α := α) e).toEx0 fun u hu => e.keep p u hu (by simp)⟩
theorem yZ {np : Nat} {m : MF} {vs : List V} {H : Hp} {Q : VK} {E} (h : spM K g np (jk m) vs H Q E) : spM K g np m vs H Q E := by
  obtain ⟨hl, α, ds, h, rs, hh, w⟩ := h
  unfold jk at w
  by_cases lo : bP 0 ds = true
  · rw [if_pos lo] at w
    cases e : m ds [] with
    | bad => rw [e] at w; exact w.elim
    | err x h1 => rw [e] at w; exact w.elim
    | ok d h1 =>
      rw [e] at w
      simp only at w
      obtain ⟨ld, w⟩ := WQ.dG w
      refine ⟨hl, [], ds, [], gf ⟨fun n hn => absurd hn (Nat.not_lt_zero _), fun _ _ z => z, fun _ _ _ z => z⟩ lo rs, ⟨rfl, fun n m p a => by simp at a, fun n p o a => by simp at a⟩, ?_⟩
      rw [e]
      exact fun v H' α' ex hr' rd => (show aE K g α H Q d h from w) v H' α (vK ex) (xR ex hh) (lF ⟨fun n hn => absurd hn (Nat.not_lt_zero _), fun _ _ z => z, fun _ _ _ z => z⟩ ld rd)
  · rw [if_neg lo] at w
    exact ⟨hl, α, ds, h, rs, hh, w⟩
theorem pJ {P : Program} {w : World} {mg : Str -> Option Value} {base : Heap} {k np : Nat} {f : Addr} {fd : FuncData} {ps : List Str} {m : MF} (F : dQ P w K mg base CX0 k f fd ps (spM K g np m)) : dQ P w K mg base CX0 k f fd ps (spM K g np (jk m)) :=
  ⟨fun vs H Q E h => F.len vs H Q E (yZ h), fun A outer s H args us vs Q E hr e0 hb hv hsp => F.run A outer s H args us vs Q E hr e0 hb hv (yZ hsp)⟩
end
end L2.FE
namespace L2
open PySem PySem.Spec PyProof.Rows
section
variable {prog : Program} {w : World} {A : Around} {E : Value -> Shared -> Prop} {s : Shared}
theorem wC {z U V a b p q : Addr} {i j : Nat} {xs ys : Array Value} {x y v1 v2 : Value} {Q : Value -> Shared -> Prop} (D : ZipApart z U V a b p q) (hz : IsZip s.heap z U V .none) (hU : IsPair s.heap U (.ref a) (.ref b)) (hV : IsPair s.heap V v1 v2)
    (ha : s.heap.IsTupleIter a p i) (hb : s.heap.IsTupleIter b q j) (hp : s.heap.IsTuple p xs) (hq : s.heap.IsTuple q ys) (hx : xs[i]? = some x) (hy : ys[j]? = some y)
    (K : ∀ h', IsZip h' z U V (rawInt s.heap.objs.size) -> IsPair h' V x y -> h'.IsTupleIter a p (i + 1) -> h'.IsTupleIter b q (j + 1) -> IsPair h' s.heap.objs.size x y -> h'.objs.size = s.heap.objs.size + 1 -> (∀ c o, c ≠ z -> c ≠ V -> c ≠ a -> c ≠ b -> s.heap.get? c = some o -> h'.get? c = some o) -> Q (.ref s.heap.objs.size) { s with heap := h' }) :
    wpAny (model prog w) A (Builtin.«zip.__next__» ⟨[.ref z], []⟩) (fun f s' => ∃ v, f = .done (.ret v) /\ Q v s') E s := by
  show wpAny _ _ (field (.ref z) 2 >>= _) _ _ _; refine wpAny_bind (wpAny_field hz rfl (x := .bool false) rfl ?_); show wpAny _ _ (field (.ref z) 3 >>= _) _ _ _
  refine wpAny_bind (wpAny_field hz rfl (x := .ref U) rfl (wpAny_bind (wpAny_seqItems hU rfl ?_)))
  show wpAny _ _ (Builtin.SmallTypes.ownedTupleIsFree (.ref z) >>= _) _ _ _; refine wpAny_bind ?_; unfold Builtin.SmallTypes.ownedTupleIsFree
  refine wpAny_bind (wpAny_field hz rfl (x := .none) rfl (wpAny_pure ?_)); simp only [if_true]
  refine wpAny_bind (wpAny_rule (wpAny_bind (wpAny_field hz rfl (x := .ref V) rfl (wpAny_bind (wpAny_setField_rec hz (by simp) fun g1 z1 m1 => ?_)))))
  replace z1 : IsZip g1 z U V .ellipsis := z1
  refine wpAny_bind ?_; simp only [List.zipIdx_cons, List.zipIdx_nil, List.forIn_cons, List.forIn_nil]
  refine wpAny_bind (wpAny_bind (wpAny_onRaise ?_)); show wpAny _ _ (Builtin.SmallTypes.nextOf (.ref a) >>= _) _ _ _
  refine wpAny_bind (gu (ha.extBut m1.extBut D.i1z) (hp.extBut m1.extBut D.l1z) hx fun g2 a2 m2 => wpAny_pure ?_)
  have V2 : IsPair g2 V v1 v2 := m2.extBut _ _ D.TOi1 (m1.extBut _ _ D.TOz hV)
  refine wpAny_bind (wpAny_seqItems V2 rfl (wpAny_bind (wpAny_updateSeq_pair V2 fun g3 V3 m3 => ?_)))
  replace V3 : IsPair g3 V x v2 := V3
  refine wpAny_bind (wpAny_letGo (wpAny_pure (wpAny_bind (wpAny_bind (wpAny_onRaise ?_))))); show wpAny _ _ (Builtin.SmallTypes.nextOf (.ref b) >>= _) _ _ _
  refine wpAny_bind (gu (((hb.extBut m1.extBut D.i2z).extBut m2.extBut D.i12.symm).extBut m3.extBut D.TOi2.symm) (((hq.extBut m1.extBut D.l2z).extBut m2.extBut D.l2i1).extBut m3.extBut D.l2TO) hy fun g4 b4 m4 => wpAny_pure ?_)
  have V4 : IsPair g4 V x v2 := m4.extBut _ _ D.TOi2 V3
  refine wpAny_bind (wpAny_seqItems V4 rfl (wpAny_bind (wpAny_updateSeq_pair V4 fun g5 V5 m5 => ?_)))
  replace V5 : IsPair g5 V x y := V5
  refine wpAny_bind (wpAny_letGo (wpAny_pure (wpAny_pure (wpAny_bind (wpAny_seqItems V5 rfl (wpAny_bind (wpAny_newTuple ?_)))))))
  have n5 : g5.objs.size = s.heap.objs.size := by rw [m5.1, m4.1, m3.1, m2.1, m1.1]
  have z5 : IsZip g5 z U V .ellipsis := m5.extBut _ _ D.TOz.symm (m4.extBut _ _ D.i2z.symm (m3.extBut _ _ D.TOz.symm (m2.extBut _ _ D.i1z.symm z1)))
  have k5 : ∀ c o, c ≠ z -> c ≠ V -> c ≠ a -> c ≠ b -> s.heap.get? c = some o -> g5.get? c = some o := fun c o c1 c2 c3 c4 e => m5.extBut _ _ c2 (m4.extBut _ _ c4 (m3.extBut _ _ c2 (m2.extBut _ _ c3 (m1.extBut _ _ c1 e))))
  have a5 : g5.IsTupleIter a p (i + 1) := ((a2.extBut m3.extBut D.TOi1.symm).extBut m4.extBut D.i12).extBut m5.extBut D.TOi1.symm
  have b5 : g5.IsTupleIter b q (j + 1) := b4.extBut m5.extBut D.TOi2.symm
  have lz : z < g5.objs.size := Heap.lt_size z5
  show wpAny _ _ (Builtin.SmallTypes.ownedTupleHandOut (.ref z) (.ref g5.objs.size) >>= _) _ _ _; refine wpAny_bind ?_; unfold Builtin.SmallTypes.ownedTupleHandOut
  have z6 : IsZip (g5.push { cls := .type "tuple", data := .seq #[x, y] }) z U V .ellipsis := Heap.get?_push_of_some _ z5
  refine wpAny_bind (wpAny_setField_rec z6 (by simp) fun g7 z7 m7 => ?_)
  replace z7 : IsZip g7 z U V (rawInt g5.objs.size) := z7
  refine wpAny_setField_rec z7 (by simp) fun g8 z8 m8 => ?_
  replace z8 : IsZip g8 z U V (rawInt g5.objs.size) := z8
  have up : ∀ c o, c ≠ z -> g5.get? c = some o -> g8.get? c = some o := fun c o c1 e => m8.extBut _ _ c1 (m7.extBut _ _ c1 (Heap.get?_push_of_some _ e))
  have T8 : IsPair g8 g5.objs.size x y := m8.extBut _ _ (Nat.ne_of_gt lz) (m7.extBut _ _ (Nat.ne_of_gt lz) (Heap.get?_push_size _ rfl))
  have n8 : g8.objs.size = g5.objs.size + 1 := by rw [m8.1, m7.1, Heap.size_push]
  rw [n5] at z8 T8 n8
  refine wpAny_pure ⟨_, rfl, ?_⟩; show Q (.ref g5.objs.size) _; rw [n5]
  exact K g8 z8 (up _ _ D.TOz V5) (a5.at fun o e => up _ o D.i1z e) (b5.at fun o e => up _ o D.i2z e) T8 n8 fun c o c1 c2 c3 c4 e => up c o c1 (k5 c o c1 c2 c3 c4 e)
theorem AH {z U V a b p q : Addr} {i j : Nat} {xs ys : Array Value} {v1 v2 : Value} {Q : Fin -> Shared -> Prop} (hh : A.handled = none) (D : ZipApart z U V a b p q) (hz : IsZip s.heap z U V .none) (hU : IsPair s.heap U (.ref a) (.ref b)) (hV : IsPair s.heap V v1 v2)
    (ha : s.heap.IsTupleIter a p i) (hb : s.heap.IsTupleIter b q j) (hp : s.heap.IsTuple p xs) (hq : s.heap.IsTuple q ys) (he : xs[i]? = none \/ ys[j]? = none)
    (K : ∀ h' e, (∀ c o, c ≠ z -> c ≠ V -> c ≠ a -> c ≠ b -> s.heap.get? c = some o -> h'.get? c = some o) -> (∃ o, h'.get? e = some o /\ o.cls = .type "StopIteration") -> E (.ref e) { s with heap := h' }) : wpAny (model prog w) A (Builtin.«zip.__next__» ⟨[.ref z], []⟩) Q E s := by
  show wpAny _ _ (field (.ref z) 2 >>= _) _ _ _; refine wpAny_bind (wpAny_field hz rfl (x := .bool false) rfl ?_); show wpAny _ _ (field (.ref z) 3 >>= _) _ _ _
  refine wpAny_bind (wpAny_field hz rfl (x := .ref U) rfl (wpAny_bind (wpAny_seqItems hU rfl ?_)))
  show wpAny _ _ (Builtin.SmallTypes.ownedTupleIsFree (.ref z) >>= _) _ _ _; refine wpAny_bind ?_; unfold Builtin.SmallTypes.ownedTupleIsFree
  refine wpAny_bind (wpAny_field hz rfl (x := .none) rfl (wpAny_pure ?_)); simp only [if_true]
  refine wpAny_bind (wpAny_rule (wpAny_bind (wpAny_field hz rfl (x := .ref V) rfl (wpAny_bind (wpAny_setField_rec hz (by simp) fun g1 z1 m1 => ?_)))))
  replace z1 : IsZip g1 z U V .ellipsis := z1
  refine wpAny_bind ?_; simp only [List.zipIdx_cons, List.zipIdx_nil, List.forIn_cons, List.forIn_nil]
  refine wpAny_bind (wpAny_bind (wpAny_onRaise ?_)); show wpAny _ _ (Builtin.SmallTypes.nextOf (.ref a) >>= _) _ _ _
  cases hx : xs[i]? with
  | none =>
    refine wpAny_bind (iX hh (ha.extBut m1.extBut D.i1z) (hp.extBut m1.extBut D.l1z) hx fun g2 e m2 ee => ?_)
    obtain ⟨oe, e1, e2⟩ := ee
    have z2 : IsZip g2 z U V .ellipsis := m2 _ _ D.i1z.symm z1
    have ez : e ≠ z := fun u => by subst u; rw [z2] at e1; cases e1; simp at e2
    exact wpAny_setField_rec z2 (by simp) fun g3 _ m3 => K g3 e (fun c o c1 _ c3 _ u => m3.extBut _ _ c1 (m2 _ _ c3 (m1.extBut _ _ c1 u))) ⟨oe, m3.extBut _ _ ez e1, e2⟩
  | some x =>
    have hy : ys[j]? = none := he.resolve_left (by rw [hx]; exact nofun)
    refine wpAny_bind (gu (ha.extBut m1.extBut D.i1z) (hp.extBut m1.extBut D.l1z) hx fun g2 a2 m2 => wpAny_pure ?_)
    have V2 : IsPair g2 V v1 v2 := m2.extBut _ _ D.TOi1 (m1.extBut _ _ D.TOz hV)
    refine wpAny_bind (wpAny_seqItems V2 rfl (wpAny_bind (wpAny_updateSeq_pair V2 fun g3 V3 m3 => ?_)))
    refine wpAny_bind (wpAny_letGo (wpAny_pure (wpAny_bind (wpAny_bind (wpAny_onRaise ?_))))); show wpAny _ _ (Builtin.SmallTypes.nextOf (.ref b) >>= _) _ _ _
    refine wpAny_bind (iX hh (((hb.extBut m1.extBut D.i2z).extBut m2.extBut D.i12.symm).extBut m3.extBut D.TOi2.symm) (((hq.extBut m1.extBut D.l2z).extBut m2.extBut D.l2i1).extBut m3.extBut D.l2TO) hy fun g4 e m4 ee => ?_)
    obtain ⟨oe, e1, e2⟩ := ee
    have z4 : IsZip g4 z U V .ellipsis := m4 _ _ D.i2z.symm (m3.extBut _ _ D.TOz.symm (m2.extBut _ _ D.i1z.symm z1))
    have ez : e ≠ z := fun u => by subst u; rw [z4] at e1; cases e1; simp at e2
    exact wpAny_setField_rec z4 (by simp) fun g5 _ m5 => K g5 e (fun c o c1 c2 c3 c4 u => m5.extBut _ _ c1 (m4 _ _ c4 (m3.extBut _ _ c2 (m2.extBut _ _ c3 (m1.extBut _ _ c1 u))))) ⟨oe, m5.extBut _ _ ez e1, e2⟩
theorem wR {z U V a b p q : Addr} {i j : Nat} {xs ys : Array Value} {x y v1 v2 : Value} {Q : Option Value -> Shared -> Prop} (D : ZipApart z U V a b p q) (hz : IsZip s.heap z U V .none) (hU : IsPair s.heap U (.ref a) (.ref b)) (hV : IsPair s.heap V v1 v2)
    (ha : s.heap.IsTupleIter a p i) (hb : s.heap.IsTupleIter b q j) (hp : s.heap.IsTuple p xs) (hq : s.heap.IsTuple q ys) (hx : xs[i]? = some x) (hy : ys[j]? = some y)
    (K : ∀ h', IsZip h' z U V (rawInt s.heap.objs.size) -> IsPair h' V x y -> h'.IsTupleIter a p (i + 1) -> h'.IsTupleIter b q (j + 1) -> IsPair h' s.heap.objs.size x y -> h'.objs.size = s.heap.objs.size + 1 -> (∀ c o, c ≠ z -> c ≠ V -> c ≠ a -> c ≠ b -> s.heap.get? c = some o -> h'.get? c = some o) -> Q (some (.ref s.heap.objs.size)) { s with heap := h' }) :
    wpAny (model prog w) A (pyNext (.ref z)) Q E s := by
  have ty : s.TypeIs (.ref z) "zip" := ⟨_, hz, rfl⟩
  unfold pyNext; refine wpAny_bind (wpAny_attempt (wpAny_callSpecial?_slot (name := Str.ofString "__next__") ty F.slot_zip_next (wpAny_call_entry F.slot_zip_next ty F.entry_zip_next ?_ (F.args_zip_next_1 _))))
  exact wC D hz hU hV ha hb hp hq hx hy fun h' b1 b2 b3 b4 b5 b6 b7 => wpAny_pure (K h' b1 b2 b3 b4 b5 b6 b7)
theorem Ar {z U V a b p q : Addr} {i j : Nat} {xs ys : Array Value} {v1 v2 : Value} {Q : Option Value -> Shared -> Prop} (hh : A.handled = none) (D : ZipApart z U V a b p q) (hz : IsZip s.heap z U V .none) (hU : IsPair s.heap U (.ref a) (.ref b)) (hV : IsPair s.heap V v1 v2)
    (ha : s.heap.IsTupleIter a p i) (hb : s.heap.IsTupleIter b q j) (hp : s.heap.IsTuple p xs) (hq : s.heap.IsTuple q ys) (he : xs[i]? = none \/ ys[j]? = none)
    (K : ∀ h', (∀ c o, c ≠ z -> c ≠ V -> c ≠ a -> c ≠ b -> s.heap.get? c = some o -> h'.get? c = some o) -> Q none { s with heap := h' }) : wpAny (model prog w) A (pyNext (.ref z)) Q E s := by
  have ty : s.TypeIs (.ref z) "zip" := ⟨_, hz, rfl⟩
  unfold pyNext; refine wpAny_bind (wpAny_attempt (wpAny_callSpecial?_slot (name := Str.ofString "__next__") ty F.slot_zip_next (wpAny_call_entry F.slot_zip_next ty F.entry_zip_next ?_ (F.args_zip_next_1 _))))
  refine AH hh D hz hU hV ha hb hp hq he fun h' e kk ⟨o, ho, hc⟩ => ?_
  exact wpAny_bind (wpAny_isInstance (T := "StopIteration") (b := true) ⟨o, ho, hc⟩ isSubtype_stop (wpAny_pure (K _ kk)))
end
noncomputable def zh1 (h : Heap) (p : Addr) : Heap := h.push { cls := .type "tuple_iterator", data := .fields #[.ref p, .int 0 0] }
noncomputable def zh2 (h : Heap) (p q : Addr) : Heap := (zh1 h p).push { cls := .type "tuple_iterator", data := .fields #[.ref q, .int 0 0] }
noncomputable def zh3 (h : Heap) (p q : Addr) : Heap := (zh2 h p q).push { cls := .type "tuple", data := .seq #[.ref h.objs.size, .ref (zh1 h p).objs.size] }
noncomputable def zh4 (h : Heap) (p q : Addr) : Heap := (zh3 h p q).push { cls := .type "tuple", data := .seq #[.none, .none] }
noncomputable def zh5 (h : Heap) (p q : Addr) : Heap := (zh4 h p q).push { cls := .type "zip", data := .fields #[.none, .bool false, .bool false, .ref (zh2 h p q).objs.size, .ref (zh3 h p q).objs.size] }
theorem ub (p q : Addr) (xs ys : Array Value) : Meets (Builtin.«zip.__new__» ⟨[.type "zip", .ref p, .ref q], []⟩) (fun _ R s => s.heap.IsTuple p xs /\ s.heap.IsTuple q ys /\ R (.ok (.ret (.ref (zh4 s.heap p q).objs.size))) { s with heap := zh5 s.heap p q }) :=
  .of_wp fun prog w A R s h => by
    obtain ⟨hp, g, d, tk, os⟩ := s; obtain ⟨h1, h2, h⟩ := h
    have sub := sub_zip
    have t1 : Heap.IsTuple (Shared.heap ⟨hp, g, d, tk, os⟩) p xs := h1
    have t2 : Heap.IsTuple (Shared.heap ⟨hp.push { cls := .type "tuple_iterator", data := .fields #[.ref p, .int 0 0] }, g, d, tk, os⟩) q ys := Heap.IsTuple.at h2 fun o e => Heap.get?_push_of_some _ e
    wp_walk using wpAny_pyIter_tuple t1, wpAny_pyIter_tuple t2
    exact ⟨_, rfl, h⟩
section
variable {prog : Program} {w : World} {A : Around} {E : Value -> Shared -> Prop} {s : Shared}
theorem xc {p q : Addr} {xs ys : Array Value} {Q : Value -> Shared -> Prop} (h1 : s.heap.IsTuple p xs) (h2 : s.heap.IsTuple q ys)
    (K : ∀ h', IsZip h' (s.heap.objs.size + 4) (s.heap.objs.size + 2) (s.heap.objs.size + 3) .none -> IsPair h' (s.heap.objs.size + 2) (.ref s.heap.objs.size) (.ref (s.heap.objs.size + 1)) -> IsPair h' (s.heap.objs.size + 3) .none .none -> h'.IsTupleIter s.heap.objs.size p 0 -> h'.IsTupleIter (s.heap.objs.size + 1) q 0 -> (∀ c o, s.heap.get? c = some o -> h'.get? c = some o) -> Q (.ref (s.heap.objs.size + 4)) { s with heap := h' }) :
    wpAny (model prog w) A (call (.type "zip") [.ref p, .ref q]) Q E s := by
  refine callType_new F.called_zip (by decide) (F.typeCall_zip_2 _ _) (F.newCall_zip_2 _ _) (fun obj => F.args_object_init_3 obj _ _) F.entry_zip_new (ub p q xs ys) ⟨h1, h2, ?_⟩
  have e1 : (zh1 s.heap p).objs.size = s.heap.objs.size + 1 := Heap.size_push ..
  have e2 : (zh2 s.heap p q).objs.size = s.heap.objs.size + 2 := (Heap.size_push ..).trans (by rw [e1])
  have e3 : (zh3 s.heap p q).objs.size = s.heap.objs.size + 3 := (Heap.size_push ..).trans (by rw [e2])
  have e4 : (zh4 s.heap p q).objs.size = s.heap.objs.size + 4 := (Heap.size_push ..).trans (by rw [e3])
  have o5 : (zh5 s.heap p q).get? (zh4 s.heap p q).objs.size = some _ := Heap.get?_push_size _ rfl
  have o4 : (zh5 s.heap p q).get? (zh3 s.heap p q).objs.size = some _ := Heap.get?_push_of_some _ (Heap.get?_push_size _ rfl)
  have o3 : (zh5 s.heap p q).get? (zh2 s.heap p q).objs.size = some _ := Heap.get?_push_of_some _ (Heap.get?_push_of_some _ (Heap.get?_push_size _ rfl))
  have o2 : (zh5 s.heap p q).get? (zh1 s.heap p).objs.size = some _ := Heap.get?_push_of_some _ (Heap.get?_push_of_some _ (Heap.get?_push_of_some _ (Heap.get?_push_size _ rfl)))
  have o1 : (zh5 s.heap p q).get? s.heap.objs.size = some _ := Heap.get?_push_of_some _ (Heap.get?_push_of_some _ (Heap.get?_push_of_some _ (Heap.get?_push_of_some _ (Heap.get?_push_size _ rfl))))
  have kp : ∀ c o, s.heap.get? c = some o -> (zh5 s.heap p q).get? c = some o := fun c o x => Heap.get?_push_of_some _ (Heap.get?_push_of_some _ (Heap.get?_push_of_some _ (Heap.get?_push_of_some _ (Heap.get?_push_of_some _ x))))
  show _ /\ _
  rw [e2, e3, e4] at o5
  rw [e1, e2] at o3
  rw [e3] at o4
  rw [e1] at o2
  rw [e4]
  exact ⟨⟨_, o5, rfl⟩, K _ o5 o3 o4 ⟨_, o1, rfl, rfl⟩ ⟨_, o2, rfl, rfl⟩ kp⟩
end
noncomputable def Izt (K : PySem.W.Frag) (a b : Addr) : It :=
  ⟨fun i H => ∃ xs ys x y, SqT K H a xs /\ SqT K H b ys /\ xs[i]? = some x /\ ys[i]? = some y,
   fun i H x H' => ∃ p v w, x = .ref p /\ H p = none /\ (∀ xs, SqT K H a xs -> xs[i]? = some v) /\ (∀ ys, SqT K H b ys -> ys[i]? = some w) /\ H' = upd H p (.tup [v, w]),
   fun i H => ∃ xs ys, SqT K H a xs /\ SqT K H b ys /\ (xs.length <= i \/ ys.length <= i)⟩
noncomputable def CV (z TI TO i1 i2 a b : Addr) (i : Nat) (h : Heap) : Prop :=
  IsZip h z TI TO .none /\ IsPair h TI (.ref i1) (.ref i2) /\ (∃ x y, IsPair h TO x y) /\ h.IsTupleIter i1 a i /\ h.IsTupleIter i2 b i /\ a ≠ TO /\ b ≠ TO
theorem mG {z TI TO i1 i2 a b : Addr} {i : Nat} {h : Heap} {xs ys : Array Value} (A : ZA z TI TO i1 i2) (st : CV z TI TO i1 i2 a b i h) (ha : h.IsTuple a xs) (hb : h.IsTuple b ys) : ZipApart z TI TO i1 i2 a b := by
  obtain ⟨hz, hTI, ⟨x, y, hTO⟩, h1, h2, na, nb⟩ := st
  have cl : ∀ {l : Addr} {vs : Array Value}, h.IsTuple l vs -> l ≠ z /\ l ≠ i1 /\ l ≠ i2 := fun {l vs} hl => by
    obtain ⟨oa, qa, ca, _⟩ := hl
    obtain ⟨o1, q1, c1, _⟩ := h1
    obtain ⟨o2, q2, c2, _⟩ := h2
    refine ⟨fun q => ?_, fun q => ?_, fun q => ?_⟩
    · rw [q, hz] at qa; cases qa; injection ca with w; exact absurd w (by decide)
    · rw [q, q1] at qa; cases qa; rw [c1] at ca; injection ca with w; exact absurd w (by decide)
    · rw [q, q2] at qa; cases qa; rw [c2] at ca; injection ca with w; exact absurd w (by decide)
  obtain ⟨a1, a3, a4⟩ := cl ha
  obtain ⟨b1, b3, b4⟩ := cl hb
  exact ⟨A.TIz, A.TOz, A.i1z, A.i2z, A.TITO, A.TIi1, A.TIi2, A.TOi1, A.TOi2, A.i12, a1, na, a3, a4, b1, nb, b3, b4⟩
theorem xk {P : Program} {w : World} {K : PySem.W.Frag} {elts : List Expr} {k : Nat} {pos : Pos} {a b z TI TO i1 i2 : Addr} (A : ZA z TI TO i1 i2) : Turn P w K (.Tuple elts k pos) (Izt K a b) [z, TI, TO, i1, i2] z (CV z TI TO i1 i2 a b) where
  mem := by simp
  obj := fun i h st c hc => by
    obtain ⟨hz, hTI, ⟨x, y, hTO⟩, ⟨o1, q1, _, d1⟩, ⟨o2, q2, _, d2⟩, _⟩ := st
    simp only [List.mem_cons, List.not_mem_nil, or_false] at hc
    rcases hc with e | e | e | e | e <;> rw [e]
    · exact ⟨_, hz, fun v q => nomatch q⟩
    · exact ⟨_, hTI, fun v q => nomatch q⟩
    · exact ⟨_, hTO, fun v q => nomatch q⟩
    · exact ⟨o1, q1, fun v y => by rw [d1] at y; cases y⟩
    · exact ⟨o2, q2, fun v y => by rw [d2] at y; cases y⟩
  keep := fun i h h' st kk => by
    obtain ⟨hz, hTI, ⟨x, y, hTO⟩, h1, h2, na, nb⟩ := st
    exact ⟨kk z (by simp) _ hz, kk TI (by simp) _ hTI, ⟨x, y, kk TO (by simp) _ hTO⟩, h1.at fun o q => kk i1 (by simp) o q, h2.at fun o q => kk i2 (by simp) o q, na, nb⟩
  item := by
    intro X hP hw hK hc i pins s σ H E I hf st hg
    subst hP hw hK
    obtain ⟨xs, ys, x, y, hq, hr, hx, hy⟩ := hg
    obtain ⟨its, rv, p, hz⟩ := I.tuple hq
    obtain ⟨jts, rw', p', hz'⟩ := I.tuple hr
    have pt : s.heap.IsTuple a its.toArray := p
    have pt' : s.heap.IsTuple b jts.toArray := p'
    obtain ⟨u, hu, ru⟩ := rv.get hx
    obtain ⟨u', hu', ru'⟩ := rw'.get hy
    have D := mG A st pt pt'
    obtain ⟨z1, z2, ⟨t1, t2, z3⟩, z4, z5, na, nb⟩ := st
    refine wR D z1 z2 z3 z4 z5 pt pt' (x := u) (y := u') (by simpa using hu) (by simpa using hu') fun h1 a1 a2 a3 a4 a5 a6 k1 => ?_
    refine ⟨_, rfl, wpAny_letOwnedTupleGo_zip a1 fun h2 b1 b2 => ?_⟩
    have lt : ∀ {c o}, s.heap.get? c = some o -> s.heap.objs.size ≠ c := fun e => Nat.ne_of_gt (Heap.lt_size e)
    have kk : ∀ c o, c ∉ [z, TI, TO, i1, i2] -> s.heap.get? c = some o -> h2.get? c = some o := fun c o hc q => by
      simp only [List.mem_cons, List.not_mem_nil, or_false, not_or] at hc
      exact b2.extBut _ _ hc.1 (k1 c o hc.1 hc.2.2.1 hc.2.2.2.1 hc.2.2.2.2 q)
    have hn : H s.heap.objs.size = none := I.hok.fresh (Nat.le_refl _)
    have hzT : s.heap.objs.size ≠ z := lt z1
    have nTf : ∀ c ∈ [z, TI, TO, i1, i2], c ≠ s.heap.objs.size := fun c hc => by
      simp only [List.mem_cons, List.not_mem_nil, or_false] at hc
      rcases hc with e | e | e | e | e <;> rw [e]
      · exact (lt z1).symm
      · exact (lt z2).symm
      · exact (lt z3).symm
      · obtain ⟨o, q, _⟩ := z4; exact (lt q).symm
      · obtain ⟨o, q, _⟩ := z5; exact (lt q).symm
    have hT2 : jm h2 s.heap.objs.size #[u, u'] := ⟨_, b2.extBut _ _ hzT a5, ⟨rfl, _, rfl⟩, rfl⟩
    refine ⟨.ref s.heap.objs.size, upd H s.heap.objs.size (.tup [x, y]), I.yielded (t' := s.toks) hf kk (Nat.le_refl _) ⟨by show 2 <= sizeLine; decide, [u, u'], .cons ru (.cons ru' .nil), hT2⟩, rfl, ⟨_, x, y, rfl, hn, fun l hl => by rw [I.gm hl hq]; exact hx, fun l hl => by rw [I.gm hl hr]; exact hy, rfl⟩, ?_, fun c hc => by rw [aA (nTf c hc)]; exact (hf c hc).1⟩
    exact ⟨b1, b2.extBut _ _ A.TIz (k1 _ _ A.TIz A.TITO A.TIi1 A.TIi2 z2), ⟨_, _, b2.extBut _ _ A.TOz a2⟩, a3.extBut b2.extBut A.i1z, a4.extBut b2.extBut A.i2z, na, nb⟩
  done := by
    intro X hP hw hK hc i pins s σ H E I hf st hg
    subst hP hw hK
    obtain ⟨xs, ys, hq, hr, hx⟩ := hg
    obtain ⟨its, rv, p, hz⟩ := I.tuple hq
    obtain ⟨jts, rw', p', hz'⟩ := I.tuple hr
    have pt : s.heap.IsTuple a its.toArray := p
    have pt' : s.heap.IsTuple b jts.toArray := p'
    have D := mG A st pt pt'
    obtain ⟨z1, z2, ⟨t1, t2, z3⟩, z4, z5, _⟩ := st
    have hl := rv.length
    have hl' := rw'.length
    refine Ar (I.ok.hd hc) D z1 z2 z3 z4 z5 pt pt' ?_ fun h' eb => ⟨rfl, I.lQ (t' := s.toks) hf fun b u hb q => eb b u (fun z => hb (by simp [z])) (fun z => hb (by simp [z])) (fun z => hb (by simp [z])) (fun z => hb (by simp [z])) q⟩
    rcases hx with hx | hx
    · exact .inl (Array.getElem?_eq_none (by rw [List.size_toArray]; omega))
    · exact .inr (Array.getElem?_eq_none (by rw [List.size_toArray]; omega))
  self := fun A i s Q E st q => wpAny_pyIter_zip st.1 q
noncomputable def FA (K : PySem.W.Frag) (ta : TA) : TI := fun σ H R => ta σ H fun vs H1 => ∃ a b, vs = [.ref a, .ref b] /\ (((∃ xs, SqL K H1 a xs) /\ (∃ ys, SqL K H1 b ys) /\ R (Izl K a b) H1) \/ ((∃ xs, SqT K H1 a xs) /\ (∃ ys, SqT K H1 b ys) /\ R (Izt K a b) H1))
theorem Bt {X : Cx} {elts : List Expr} {kt : Nat} {tp p pos : Pos} {l m : Expr} {ta : TA} (hg : Gl X "zip") (hm : X.mg "zip" = none) (hl : PA X [l, m] ta) (hs : starEach [l, m] X.env = (false, eval l X.env) :: starEach [m] X.env := by rfl) (hp : (backTo pos (starEach [m] X.env)).any (·.1) = false := by rfl) :
    PI X (.Tuple elts kt tp) (.Call (.Name "zip" p) [l, m] [] pos) (FA X.K ta) := by
  intro pins s σ H R I h
  refine Call_ (iC I hg hm PyProof.Rows.boot_zip (PyProof.Rows.callWith_type1 (thn (hl pos pins s σ H _ I h) fun us s1 ⟨vs, H1, I1, r1, q1⟩ => ?_) hs hp))
  obtain ⟨a, b, e1, q⟩ := q1
  subst e1
  obtain ⟨u1, u2, rfl, rv, rw'⟩ : ∃ u1 u2, us = [u1, u2] /\ RelV (.ref a) u1 /\ RelV (.ref b) u2 := by
    cases r1 with
    | cons p q =>
      cases q with
      | cons p' q' =>
        cases q'
        exact ⟨_, _, rfl, p, p'⟩
  cases rv
  cases rw'
  have ne : ∀ n i j : Nat, i ≠ j -> n + i ≠ n + j := by intro n i j h; omega
  have ap : ZA (s1.heap.objs.size + 4) (s1.heap.objs.size + 2) (s1.heap.objs.size + 3) s1.heap.objs.size (s1.heap.objs.size + 1) := ⟨ne _ 2 4 (by decide), ne _ 3 4 (by decide), ne _ 0 4 (by decide), ne _ 1 4 (by decide), ne _ 2 3 (by decide), ne _ 2 0 (by decide), ne _ 2 1 (by decide), ne _ 3 0 (by decide), ne _ 3 1 (by decide), ne _ 0 1 (by decide)⟩
  have fp : ∀ c ∈ [s1.heap.objs.size + 4, s1.heap.objs.size + 2, s1.heap.objs.size + 3, s1.heap.objs.size, s1.heap.objs.size + 1], kH X pins H1 c := by
    intro c hc
    have hb' : s1.heap.objs.size <= c := by
      simp only [List.mem_cons, List.not_mem_nil, or_false] at hc
      rcases hc with e | e | e | e | e <;> rw [e]
      · exact Nat.le_add_right _ _
      · exact Nat.le_add_right _ _
      · exact Nat.le_add_right _ _
      · exact Nat.le_refl _
      · exact Nat.le_add_right _ _
    exact I1.xa hb' (I1.hok.fresh hb')
  rcases q with ⟨⟨xs, hq⟩, ⟨ys, hr⟩, q⟩ | ⟨⟨xs, hq⟩, ⟨ys, hr⟩, q⟩
  · obtain ⟨its, rv, pl, hz⟩ := I1.list hq
    obtain ⟨jts, rw', pl', hz'⟩ := I1.list hr
    refine call_zip_2 pl.isList pl'.isList fun h2 y1 y2 y3 y4 y5 hsz kp => wpAny_pyIter_zip (s := { s1 with heap := h2 }) y1 ?_
    exact ⟨s1.heap.objs.size + 4, _, _, _, H1, rfl, I1.kept (t' := s1.toks) kp, wo (a := a) (b := b) ap, ⟨y1, y2, ⟨_, _, y3⟩, y4, y5⟩, fp, q⟩
  · obtain ⟨its, rv, pl, hz⟩ := I1.tuple hq
    obtain ⟨jts, rw', pl', hz'⟩ := I1.tuple hr
    have pt : s1.heap.IsTuple a its.toArray := pl
    have pt' : s1.heap.IsTuple b jts.toArray := pl'
    have la : a < s1.heap.objs.size := pl.lt
    have lb : b < s1.heap.objs.size := pl'.lt
    refine xc pt pt' fun h2 y1 y2 y3 y4 y5 kp => wpAny_pyIter_zip (s := { s1 with heap := h2 }) y1 ?_
    refine ⟨s1.heap.objs.size + 4, _, _, _, H1, rfl, I1.kept (t' := s1.toks) kp, xk (a := a) (b := b) ap, ⟨y1, y2, ⟨_, _, y3⟩, y4, y5, ?_, ?_⟩, fp, q⟩
    · exact Nat.ne_of_lt (Nat.lt_of_lt_of_le la (Nat.le_add_right _ _))
    · exact Nat.ne_of_lt (Nat.lt_of_lt_of_le lb (Nat.le_add_right _ _))
end L2
namespace L2.FE
open PySem PySem.Spec PyProof.Rows
section
variable {X : Cx} {g : GG} {ε : EE} {K : PySem.W.Frag}
noncomputable def B6 : List D -> Hh -> R Src
  | [.frl ds, .frl es], h => .ok (.snap (jL ds es)) h
  | [.tup ds, .tup es], h => .ok (.snap (jL ds es)) h
  | _, _ => .bad
noncomputable def pG (a : MA) : MI := fun env h => (a env h).bind B6
theorem t8 {α : List Addr} {H : Hp} {a b : Addr} {ds es : List D} {vs ws : List V} (hq : H a = some (.tup vs)) (rs : aq K g α H ds vs) (hq' : H b = some (.tup ws)) (rs' : aq K g α H es ws) : Reads K g (Izt K a b) (Src.snap (jL ds es)).rdr α H := by
  intro α2 H2 h2 x2 hr i
  have hq2 : SqT K H2 a vs := SqT.of (x2.tup _ _ hq)
  have hq2' : SqT K H2 b ws := SqT.of (x2.tup _ _ hq')
  have rs2 := rs.ext x2
  have rs2' := rs'.ext x2
  show match some (jL ds es)[i]? with | none => True | some none => _ | some (some d) => _
  rw [j6]
  cases e : ds[i]? with
  | none =>
    have : ds.length <= i := List.getElem?_eq_none_iff.mp e
    exact ⟨vs, ws, hq2, hq2', .inl (by rw [<- rs.length]; exact this)⟩
  | some d =>
    cases e' : es[i]? with
    | none =>
      have : es.length <= i := List.getElem?_eq_none_iff.mp e'
      exact ⟨vs, ws, hq2, hq2', .inr (by rw [<- rs'.length]; exact this)⟩
    | some d' =>
      obtain ⟨v, ev, rv⟩ := rs2.get e
      obtain ⟨v', ev', rv'⟩ := rs2'.get e'
      refine ⟨⟨vs, ws, v, v', hq2, hq2', ev, ev'⟩, fun x H' y => ?_⟩
      obtain ⟨p, u, u', e1, hp, e2, e2', e3⟩ := y
      subst e1 e3
      have := e2 vs hq2
      rw [ev] at this
      cases this
      have := e2' ws hq2'
      rw [ev'] at this
      cases this
      exact uL hr rv rv' hp
theorem vq {elts : List Expr} {kt : Nat} {tp p pos : Pos} {e e' : Expr} {ma : MA} (hg : Gl X "zip") (hm : X.mg "zip" = none) (he : PA X [e, e'] (tMA X.K g ε ma)) (hs : starEach [e, e'] X.env = (false, eval e X.env) :: starEach [e'] X.env := by rfl) (hp : (backTo pos (starEach [e'] X.env)).any (·.1) = false := by rfl) : PI X (.Tuple elts kt tp) (.Call (.Name "zip" p) [e, e'] [] pos) (tMI X.K g ε (pG ma)) :=
  PI.imp (Bt hg hm he hs hp) fun σ H T ⟨α, env, h, s, w⟩ => tMA.use s w.bind fun d1 h1 v1 H1 α1 e1 s1 r1 w1 => by
    unfold B6 at w1
    split at w1
    · cases r1 with
      | cons ra rr =>
        cases rr with
        | cons rb rr =>
          cases rr
          cases ra with
          | frl hq rs =>
            cases rb with
            | frl hq' rs' => exact ⟨_, _, rfl, .inl ⟨⟨_, hq.sq⟩, ⟨_, hq'.sq⟩, w1 _ H1 α1 e1 s1.heap (vL hq.fro rs hq'.fro rs')⟩⟩
    · cases r1 with
      | cons ra rr =>
        cases rr with
        | cons rb rr =>
          cases rr
          cases ra with
          | tup hq rs =>
            cases rb with
            | tup hq' rs' => exact ⟨_, _, rfl, .inr ⟨⟨_, SqT.of hq⟩, ⟨_, SqT.of hq'⟩, w1 _ H1 α1 e1 s1.heap (t8 hq rs hq' rs')⟩⟩
    · exact w1.elim
end
section
variable {X : Cx} {g : GG} {ε : EE} {K : PySem.W.Frag}
theorem eS {mg : Str -> Option Value} {x : Str} {f : Addr} (e : g = gOf mg) (h : mg x = some (.ref f)) : g x = some f := by rw [e]; simp [gOf, h]
end
end L2.FE
namespace L2
open PySem PySem.Spec PyProof.Rows
noncomputable def Its (lo st : Int) (n : Nat) : It := ⟨fun i _ => i < n, fun i H x H' => H' = H /\ x = .int (lo + i * st), fun i _ => n <= i⟩
theorem vW {P : Program} {w : World} {K : PySem.W.Frag} {tg : Expr} (it : Addr) (lo st : Int) (n : Nat) : Turn P w K tg (Its lo st n) [it] it (fun i h => IsRangeIter h it (lo + (i : Nat) * st) ((n : Int) - (i : Nat)) st) where
  mem := by simp
  obj := fun i h q b hb => by
    have e : b = it := by simpa using hb
    subst e
    exact ⟨_, q, fun v z => by
      have z' : Data.fields _ = Data.cell v := z
      cases z'⟩
  keep := fun i h h' q k => k it (by simp) _ q
  item := by
    intro X hP hw hK hc i pins s σ H E I hf q hg
    subst hP hw hK
    obtain ⟨f0, f1, f2, f3, f4, f5⟩ := hf it (by simp)
    have W := Walks.range (prog := X.prog) (w := X.w) (I.ok.hd hc) it lo st n
    refine W.item i s _ _ hg q fun v h' tk hv q' kk => ?_
    obtain ⟨t, rfl⟩ := hv
    have I1 : Inv X pins σ H { s with heap := h', toks := tk } := I.turned (fun b o hb e => kk b o (by simpa using hb) e) f0 f1 f3 f4 f5
    exact ⟨_, rfl, vC (s := { s with heap := h', toks := tk }) (n := "range_iterator") q' rfl rfl (by decide) ⟨.int (lo + i * st), H, I1, ⟨t, rfl⟩, ⟨rfl, rfl⟩, q', fun b hb => (hf b hb).1⟩⟩
  done := by
    intro X hP hw hK hc i pins s σ H E I hf q hg
    subst hP hw hK
    obtain ⟨f0, f1, f2, f3, f4, f5⟩ := hf it (by simp)
    exact wpAny_pyNext_range_end (I.ok.hd hc) q (by have : n <= i := hg; omega) fun h' eb => ⟨rfl, I.turned (t' := s.toks) (fun b o hb e => eb b o hb e) f0 f1 f3 f4 f5⟩
  self := fun _ _ _ _ _ q h => wpAny_pyIter_rangeiter q h
section
variable {X : Cx} {tg : Expr}
theorem BM {pins : List (Addr × Obj)} {σ : St} {H : Hp} {s : Shared} {R : It -> Hp -> Prop} {E : Value -> Shared -> Prop} {lo hi st : Int} {n : Nat} {t u v : Tok} {tk : Nat} (I : Inv X pins σ H s) (ok : jg lo hi st n)
    (q : R (Its lo st n) H) : wpAny (model X.prog X.w) X.A (pyIter (.ref s.heap.objs.size)) (PIE X pins σ tg R) E { s with heap := s.heap.push { cls := .type "range", data := .fields #[.int lo t, .int hi u, .int st v] }, toks := tk } := by
  refine wpAny_pyIter_range (IsRange.new ..) ok.sm ?_
  have I1 : Inv X pins σ H { s with heap := s.heap.push { cls := .type "range", data := .fields #[.int lo t, .int hi u, .int st v] }, toks := tk } := I.kept fun b o e => Heap.get?_push_of_some _ e
  refine ⟨(s.heap.push { cls := .type "range", data := .fields #[.int lo t, .int hi u, .int st v] }).objs.size, [(s.heap.push { cls := .type "range", data := .fields #[.int lo t, .int hi u, .int st v] }).objs.size], _, _, H, rfl,
    I1.kept (t' := tk) fun b o e => Heap.get?_push_of_some _ e, vW _ lo st n, ?_, fun b hb => ?_, q⟩
  · have e1 : lo + ((0 : Nat) : Int) * st = lo := by simp
    have e2 : (n : Int) - ((0 : Nat) : Int) = Builtin.Range.rangeSize lo hi st := by rw [ok.sz]; omega
    show IsRangeIter _ _ (lo + ((0 : Nat) : Int) * st) ((n : Int) - ((0 : Nat) : Int)) st
    rw [e1, e2]
    exact Heap.get?_push_size _ rfl
  · have e : b = (s.heap.push { cls := .type "range", data := .fields #[.int lo t, .int hi u, .int st v] }).objs.size := by simpa using hb
    subst e
    exact I1.xa (Nat.le_refl _) (I1.hok.fresh (Nat.le_refl _))
noncomputable def GJ (ta : TA) : TI := fun σ H R => ta σ H fun vs H1 => ∃ (i j k : Int) (n : Nat), vs = [.int i, .int j, .int k] /\ k ≠ 0 /\ k.natAbs < 1073741824 /\ jg i j k n /\ R (Its i k n) H1
theorem wt {a b c : Expr} {ta : TA} {p pos : Pos} (hg : Gl X "range") (hm : X.mg "range" = none) (ha : PA X [a, b, c] ta) (hs : starEach [a, b, c] X.env = (false, eval a X.env) :: starEach [b, c] X.env := by rfl) (hp : (backTo pos (starEach [b, c] X.env)).any (·.1) = false := by rfl) :
    PI X tg (.Call (.Name "range" p) [a, b, c] [] pos) (GJ ta) := by
  intro pins s σ H R I h
  refine Call_ (iC I hg hm boot_range (PyProof.Rows.callWith_type1 (thn (ha pos pins s σ H _ I h) fun us s1 ⟨vs, H1, I1, r1, q1⟩ => ?_) hs hp))
  obtain ⟨i, j, k, n, e, k0, k1, ok, q⟩ := q1
  subst e
  cases r1 with
  | cons r rr =>
    cases rr with
    | cons r' rr =>
      cases rr with
      | cons r'' rr =>
        cases rr
        obtain ⟨t, rfl⟩ := r
        obtain ⟨t', rfl⟩ := r'
        obtain ⟨t'', rfl⟩ := r''
        exact call_range_3 k0 (BM I1 ok q) (.inl (PyProof.noPylong_small (by omega)))
end
end L2
namespace L2.FE
open PySem PySem.Spec PyProof.Rows
section
variable {X : Cx} {g : GG} {ε : EE} {K : PySem.W.Frag}
noncomputable def i_ : List D -> Hh -> R Src := fun ds h => match yd ds with
  | some xs => .ok (.snap xs) h
  | none => .bad
theorem tV {α : List Addr} {H : Hp} {lo st : Int} {n : Nat} : Reads K g (Its lo st n) (Src.snap (kW lo st n)).rdr α H := by
  intro α2 H2 h2 x2 hr i
  show match some (kW lo st n)[i]? with | none => True | some none => _ | some (some d) => _
  by_cases hi : i < n
  · have e : (kW lo st n)[i]? = some (.int (lo + i * st)) := by
      unfold kW
      rw [List.getElem?_map]
      simp [mR, hi]
    rw [e]
    refine ⟨hi, fun x H' y => ?_⟩
    obtain ⟨rfl, rfl⟩ := y
    exact ⟨α2, Ext.refl, hr, .int _⟩
  · have e : (kW lo st n)[i]? = none := List.getElem?_eq_none (by unfold kW; rw [List.length_map, iL]; omega)
    rw [e]
    show n <= i
    omega
theorem vF {tg a b c : Expr} {ma : MA} {p pos : Pos} (hg : Gl X "range") (hm : X.mg "range" = none) (ha : PA X [a, b, c] (tMA X.K g ε ma)) (hs : starEach [a, b, c] X.env = (false, eval a X.env) :: starEach [b, c] X.env := by rfl) (hp : (backTo pos (starEach [b, c] X.env)).any (·.1) = false := by rfl) : PI X tg (.Call (.Name "range" p) [a, b, c] [] pos) (tMI X.K g ε (iq i_ ma)) :=
  PI.imp (wt hg hm ha hs hp) fun σ H T ⟨α, env, h, s, w⟩ => tMA.use s w.bind fun d1 h1 v1 H1 α1 e1 s1 r1 w1 => by
    unfold i_ at w1
    cases er : yd d1 with
    | none => rw [er] at w1; exact w1.elim
    | some xs =>
      rw [er] at w1
      obtain ⟨a, b, c, n, rfl, c0, c1, ok, rfl⟩ := AF r1 er
      exact ⟨a, b, c, n, rfl, c0, c1, ok, w1 _ H1 α1 e1 s1.heap tV⟩
end
end L2.FE
namespace L2.FE
open PySem
section
variable {β γ : Type} {h h1 : Hh} {env : En}
@[simp] theorem ba {b : β} {f : β -> Hh -> R γ} : (R.ok b h).bind f = f b h := Eq.trans rfl rfl
@[simp] theorem zP {x : Xc} {f : β -> Hh -> R γ} : (R.err x h).bind f = .err x h := Eq.trans rfl rfl
@[simp] theorem FJ {f : β -> Hh -> R γ} : (R.bad).bind f = .bad := Eq.trans rfl rfl
@[simp] theorem F7 {c : Prop} [Decidable c] {a b : R β} {f : β -> Hh -> R γ} : (if c then a else b).bind f = if c then a.bind f else b.bind f := by split <;> rfl
@[simp] theorem e_C {d : D} : cC d env h = .ok d h := Eq.trans rfl rfl
@[simp] theorem xG {d : D} {r : En} : ag 0 (some d :: r) h = .ok d h := Eq.trans rfl rfl
@[simp] theorem Fc {i : Nat} {x : Option D} {r : En} : ag (i + 1) (x :: r) h = ag i r h := Eq.trans rfl rfl
@[simp] theorem IE {f : D -> D -> Hh -> R D} {a b : ME} : au f a b env h = (a env h).bind fun x h1 => (b env h1).bind fun y h2 => f x y h2 := Eq.trans rfl rfl
@[simp] theorem HD {f : D -> Hh -> R D} {a : ME} : cUn f a env h = (a env h).bind fun x h1 => f x h1 := Eq.trans rfl rfl
@[simp] theorem GQ : ai env h = .ok [] h := Eq.trans rfl rfl
@[simp] theorem Ey {a : ME} {r : MA} : aa a r env h = (a env h).bind fun x h1 => (r env h1).bind fun xs h2 => .ok (x :: xs) h2 := Eq.trans rfl rfl
@[simp] theorem DS {f : List D -> Hh -> R D} {a : MA} : ah f a env h = (a env h).bind f := Eq.trans rfl rfl
@[simp] theorem Bi {f : D -> List D -> Hh -> R D} {o : ME} {a : MA} : cz f o a env h = (o env h).bind fun x h1 => if isL x h1 = true then (a env h1).bind fun xs h2 => f x xs h2 else .bad := Eq.trans rfl rfl
@[simp] theorem DE {f : D -> Hh -> R Bool} {a : ME} : aM f a env h = (a env h).bind f := Eq.trans rfl rfl
@[simp] theorem DB {a : MT} : iE a env h = (a env h).bind fun b h1 => .ok (!b) h1 := Eq.trans rfl rfl
@[simp] theorem HA {a b : MT} : zi a b env h = (a env h).bind fun x h1 => if x = true then b env h1 else .ok false h1 := Eq.trans rfl rfl
@[simp] theorem FV {a b : MT} : r_ a b env h = (a env h).bind fun x h1 => if x = true then .ok true h1 else b env h1 := Eq.trans rfl rfl
@[simp] theorem IU {b : Bool} : asB (.bl b) h = .ok b h := Eq.trans rfl rfl
@[simp] theorem Hv {a b : ME} : vA a b env h = (a env h).bind fun x h1 => (asB x h1).bind fun k h2 => if k = true then b env h2 else .ok (.bl false) h2 := Eq.trans rfl rfl
@[simp] theorem Ig {a : ME} : yN a env h = (a env h).bind fun x h1 => (asB x h1).bind fun k h2 => .ok (.bl (!k)) h2 := Eq.trans rfl rfl
@[simp] theorem A3 {f f' : D -> D -> Hh -> R D} {a b c : ME} : jw f f' a b c env h = (a env h).bind fun x h1 => (b env h1).bind fun y h2 => (f x y h2).bind fun z h3 => (asB z h3).bind fun k h4 => if k = true then (c env h4).bind fun w h5 => f' y w h5 else .ok (.bl false) h4 := Eq.trans rfl rfl
@[simp] theorem F5 : b8 env h = .ok none h := Eq.trans rfl rfl
noncomputable def C4 : D -> Hh -> R (Option Int) := fun d h1 => match d with
  | .int i => .ok (some i) h1
  | _ => .bad
@[simp] theorem G1 {i : Int} : C4 (.int i) h = .ok (some i) h := Eq.trans rfl rfl
@[simp] theorem Ir {a : ME} : di a env h = (a env h).bind C4 := Eq.trans rfl rfl
@[simp] theorem G5 {nl : NL} {a : ME} {l u : MO} : cA nl a l u env h = (a env h).bind fun x h1 => (l env h1).bind fun lo h2 => (u env h2).bind fun hi h3 => Ag nl x lo hi h3 := Eq.trans rfl rfl
@[simp] theorem HH : bH env h = .ok (.nx env) h := Eq.trans rfl rfl
noncomputable def D0 (b : MS) : Fl -> Hh -> R Fl := fun fl h1 => match fl with
  | .nx e => b e h1
  | fl => .ok fl h1
@[simp] theorem Ji {b : MS} {e : En} : D0 b (.nx e) h = b e h := Eq.trans rfl rfl
@[simp] theorem Jk {b : MS} {d : D} : D0 b (.rt d) h = .ok (.rt d) h := Eq.trans rfl rfl
@[simp] theorem GO {a b : MS} : aB a b env h = (a env h).bind (D0 b) := by
  unfold aB
  first | rfl | (congr 1; funext fl h1; cases fl <;> rfl)
@[simp] theorem Hr {a : ME} : cb a env h = (a env h).bind fun _ h1 => .ok (.nx env) h1 := Eq.trans rfl rfl
@[simp] theorem IW {a : ME} : bj a env h = (a env h).bind fun d h1 => .ok (.rt d) h1 := Eq.trans rfl rfl
@[simp] theorem GB {c : MT} {a b : MS} : cT c a b env h = (c env h).bind fun x h1 => if x = true then a env h1 else b env h1 := Eq.trans rfl rfl
@[simp] theorem IK {i : Nat} {a : ME} : bq i a env h = (a env h).bind fun d h1 => .ok (.nx (env.set i (some d))) h1 := Eq.trans rfl rfl
noncomputable def FR (i j : Nat) (env : En) : List D -> Hh -> R Fl := fun ds h1 => match ds with
  | [x, y] => .ok (.nx ((env.set i (some x)).set j (some y))) h1
  | _ => .bad
@[simp] theorem HY {i j : Nat} {x y : D} : FR i j env [x, y] h = .ok (.nx ((env.set i (some x)).set j (some y))) h := Eq.trans rfl rfl
@[simp] theorem IT {i j : Nat} {a : MA} : qY i j a env h = (a env h).bind (FR i j env) := by
  rfl
@[simp] theorem wU {i : Nat} {d : D} : gN i d env h = .ok (env.set i (some d)) h := Eq.trans rfl rfl
@[simp] theorem Fy {i j : Nat} {x y : D} : gT2 i j (.tup [x, y]) env h = .ok ((env.set i (some x)).set j (some y)) h := Eq.trans rfl rfl
@[simp] theorem G6 {f : D -> D -> D -> Hh -> R Unit} {o i v : ME} : eE f o i v env h = (v env h).bind fun x h1 => (o env h1).bind fun y h2 => (i env h2).bind fun z h3 => (f y z x h3).bind fun _ h4 => .ok (.nx env) h4 := Eq.trans rfl rfl
noncomputable def ES : Fl -> Hh -> R D := fun fl h1 => match fl with
  | .rt d => .ok d h1
  | .nx _ => .ok .non h1
  | _ => .bad
@[simp] theorem Jj {d : D} : ES (.rt d) h = .ok d h := Eq.trans rfl rfl
@[simp] theorem Jh {e : En} : ES (.nx e) h = .ok .non h := Eq.trans rfl rfl
theorem br {n : Nat} {m : MS} {ds : List D} : cf n m ds h = (m (ds.map some ++ List.replicate (n - ds.length) none) h).bind ES := by
  unfold cf
  first | rfl | (congr 1; funext fl h1; cases fl <;> rfl)
section
variable {nl : NL}
@[simp] theorem Ip {i j : Int} : cL nl (.int i) (.int j) h = .ok (.int (i + j)) h := Eq.trans rfl rfl
@[simp] theorem G_ {i j : Int} : kQ (.int i) (.int j) h = .ok (.int (i - j)) h := Eq.trans rfl rfl
@[simp] theorem Hb {i : Int} : eL (.int i) h = .ok (.int (-i)) h := Eq.trans rfl rfl
@[simp] theorem IB {i j : Int} : dLt (.int i) (.int j) h = .ok (.bl (decide (i < j))) h := by unfold dLt; rw [mO]; rfl
@[simp] theorem II {i j : Int} : dLe (.int i) (.int j) h = .ok (.bl (decide (i <= j))) h := by unfold dLe; rw [qZ]; rfl
@[simp] theorem Jb {i j : Int} : dGt (.int i) (.int j) h = .ok (.bl (decide (j < i))) h := by unfold dGt; rw [mO]; rfl
@[simp] theorem IF {i j : Int} : dGe (.int i) (.int j) h = .ok (.bl (decide (j <= i))) h := by unfold dGe; rw [qZ]; rfl
@[simp] theorem HI {i j : Int} : jC nl (.int i) (.int j) h = if sml i = true /\ sml j = true then .ok (.int (i * j)) h else .bad := Eq.trans rfl rfl
@[simp] theorem Hl {i j : Int} : zQ (.int i) (.int j) h = if 0 < j /\ sml j = true then .ok (.int (i / j)) h else .bad := Eq.trans rfl rfl
@[simp] theorem Hy {i j : Int} : sU (.int i) (.int j) h = if 0 < j then .ok (.int (i % j)) h else .bad := Eq.trans rfl rfl
@[simp] theorem H0 {i j : Int} : CJ (.int i) (.int j) h = if 0 <= j /\ j.natAbs <= 1000 /\ sml i = true then .ok (.int (i ^ j.toNat)) h else .bad := Eq.trans rfl rfl
@[simp] theorem G9 {i j : Int} : zN [.int i, .int j] h = .ok (.int (max i j)) h := by
  have : (if j > i then j else i) = max i j := by split <;> omega
  rw [<- this]; rfl
@[simp] theorem HB {b : Bool} : zO [.bl b] h = .ok (.int (if b then 1 else 0)) h := Eq.trans rfl rfl
@[simp] theorem IZ {ds : List D} : fQ ds h = if ds.length <= 1000000 then .ok (.tup ds) h else .bad := Eq.trans rfl rfl
@[simp] theorem IJ {ds : List D} : bT nl ds h = if ds.length <= 1000000 then nl ds h else .bad := Eq.trans rfl rfl
@[simp] theorem HC {ds : List D} : eT ds h = .ok (.ref h.length) (h ++ [.lst ds]) := Eq.trans rfl rfl
@[simp] theorem Hc {ds : List D} : aF ds h = .ok (.frl ds) h := Eq.trans rfl rfl
@[simp] theorem HS {ds : List D} : bR [.tup ds] h = .ok (.int ds.length) h := Eq.trans rfl rfl
@[simp] theorem H_ {ds : List D} : bR [.frl ds] h = .ok (.int ds.length) h := Eq.trans rfl rfl
@[simp] theorem Hx {ds : List D} : bR [.scr ds] h = .ok (.int ds.length) h := Eq.trans rfl rfl
noncomputable def ixK (ds : List D) (i : Int) (h : Hh) : R D := match atI ds i with
  | some d => .ok d h
  | none => .bad
@[simp] theorem ID {ds : List D} {i : Int} : dIx (.tup ds) (.int i) h = ixK ds i h := Eq.trans rfl rfl
@[simp] theorem IY {ds : List D} {i : Int} : dIx (.frl ds) (.int i) h = ixK ds i h := Eq.trans rfl rfl
@[simp] theorem Ja {ds : List D} {i : Int} : dIx (.scr ds) (.int i) h = ixK ds i h := Eq.trans rfl rfl
theorem jP {n : Nat} {ds : List D} {i : Int} (e : aw h n = some ds) : dIx (.ref n) (.int i) h = ixK ds i h := by
  have z : lT (.ref n) h = some ds := e
  delta dIx; rw [z]; rfl
theorem xU {ds : List D} {i : Int} {d : D} (e : atI ds i = some d) : ixK ds i h = .ok d h := by simp only [ixK, e]
theorem yE {β : Type} {xs : List β} {j : Nat} {v : β} {i : Int} (h : xs[j]? = some v) (e : i = (j : Int)) : atI xs i = some v := by rw [e]; exact Bl h
theorem gE {ds : List D} {i : Int} {j : Nat} {d : D} (e : i = (j : Int)) (e2 : ds[j]? = some d) : ixK ds i h = .ok d h := xU (yE e2 e)
noncomputable def gI (ns : List Int) (i : Nat) : Int := ns.getD i 0
theorem bw {ns : List Int} {j : Nat} (hj : j < ns.length) : gI ns j = ns[j] := by
  unfold gI; rw [List.getD_eq_getElem?_getD, List.getElem?_eq_getElem hj]; rfl
theorem cK {ns : List Int} {j : Nat} (hj : j < ns.length) : gI ns j ∈ ns := by rw [bw hj]; exact List.getElem_mem hj
theorem lI {ns : List Int} {i : Int} {j : Nat} (e : i = (j : Int)) (hj : j < ns.length) : ixK (ns.map D.int) i h = .ok (.int (gI ns j)) h := by
  refine gE e ?_
  rw [List.getElem?_map, List.getElem?_eq_getElem hj, bw hj]; rfl
@[simp] theorem IL {d : D} {ds : List D} : ixK (d :: ds) 0 h = .ok d h := gE (j := 0) rfl rfl
@[simp] theorem IH {d d1 : D} {ds : List D} : ixK (d :: d1 :: ds) 1 h = .ok d1 h := gE (j := 1) rfl rfl
@[simp] theorem Ik {ds : List D} {lo hi : Option Int} : Ag nl (.tup ds) lo hi h = .ok (.tup (cutD ds lo hi)) h := Eq.trans rfl rfl
@[simp] theorem HR {ds : List D} {lo hi : Option Int} : Ag nl (.scr ds) lo hi h = nl (cutD ds lo hi) h := Eq.trans rfl rfl
@[simp] theorem HU {a b : List D} : cL nl (.tup a) (.tup b) h = if a.length + b.length <= 1000000 then .ok (.tup (a ++ b)) h else .bad := Eq.trans rfl rfl
@[simp] theorem HE {a b : List D} : cL nl (.frl a) (.frl b) h = if a.length + b.length <= 1000000 then nl (a ++ b) h else .bad := Eq.trans rfl rfl
@[simp] theorem HK {a : List D} {k : Int} : jC nl (.frl a) (.int k) h = if k.natAbs <= 1000000 /\ a.length * k.toNat <= 1000000 then nl (List.replicate k.toNat a).flatten h else .bad := Eq.trans rfl rfl
@[simp] theorem HN {ds : List D} : g_ nl (.tup ds) h = .ok (.tup ds.reverse) h := Eq.trans rfl rfl
@[simp] theorem G2 {ds : List D} : dList nl [.tup ds] h = nl ds h := Eq.trans rfl rfl
@[simp] theorem HW {ds : List D} : a8 [.frl ds] h = .ok (.tup ds) h := Eq.trans rfl rfl
@[simp] theorem Ep {b : Bool} : oF (.bl b) h = .ok b h := Eq.trans rfl rfl
@[simp] theorem Je {i j : Int} : dEq (.int i) (.int j) h = .ok (.bl (i == j)) h := Eq.trans rfl rfl
@[simp] theorem IC {i j : Int} : dNe (.int i) (.int j) h = .ok (.bl (!(i == j))) h := Eq.trans rfl rfl
@[simp] theorem IP {i j : Str} : dNe (.str i) (.str j) h = .ok (.bl (!(i == j))) h := Eq.trans rfl rfl
@[simp] theorem Hw {i : Int} : nK "int" (.int i) h = .ok (.bl true) h := Eq.trans rfl rfl
@[simp] theorem Hs {i : Int} : nK "bool" (.int i) h = .ok (.bl false) h := Eq.trans rfl rfl
@[simp] theorem Dl {ds : List D} : nK "tuple" (.tup ds) h = .ok (.bl true) h := Eq.trans rfl rfl
@[simp] theorem GI {j : Int} : ka nl [.int j] h = if j.natAbs <= 1000000 then nl (bS 0 j.toNat) h else .bad := by
  by_cases z : j.natAbs <= 1000000
  · rw [if_pos z]; simp only [ka, nQ, if_pos z]
  · rw [if_neg z]; simp only [ka, nQ, if_neg z]
@[simp] theorem G3 {j : Int} : fG [.int j] h = if j.natAbs <= 1000000 then .ok (.tup (bS 0 j.toNat)) h else .bad := by
  by_cases z : j.natAbs <= 1000000
  · rw [if_pos z]; simp only [fG, nQ, if_pos z]
  · rw [if_neg z]; simp only [fG, nQ, if_neg z]
@[simp] theorem cX {ds : List D} {t : Hh} : aw (h ++ .lst ds :: t) h.length = some ds := by
  unfold aw; rw [List.getElem?_append_right (Nat.le_refl _)]; simp
@[simp] theorem gK {o o' : O} {t : Hh} : (h ++ o :: t).set h.length o' = h ++ o' :: t := by
  rw [List.set_append_right _ _ (Nat.le_refl _)]; simp
theorem mL {n : Nat} {ds : List D} (e : aw h n = some ds) : isL (.ref n) h = true := by simp [isL, e]
theorem mJ {n : Nat} {ds : List D} {d : D} (e : aw h n = some ds) : bE (.ref n) [d] h = if ds.length < 1000000 then .ok .non (h.set n (.lst (ds ++ [d]))) else .bad := by delta bE; dsimp only; rw [e]
theorem DO {n : Nat} {ds : List D} (e : aw h n = some ds) : bR [.ref n] h = .ok (.int ds.length) h := by
  unfold aw at e
  split at e
  · rename_i ds' q; cases e; delta bR; dsimp only; rw [q]
  · cases e
theorem Ef {n : Nat} {ds : List D} (e : aw h n = some ds) : a8 [.ref n] h = .ok (.tup ds) h := by delta a8; dsimp only; rw [e]
theorem j0 {n : Nat} {ds : List D} {i : Int} {j : Nat} {v : D} (e : aw h n = some ds) (e2 : ixN ds.length i = some j) : df (.ref n) (.int i) v h = .ok () (h.set n (.lst (ds.set j v))) := by delta df; dsimp only; rw [e]; dsimp only; rw [e2]
@[simp] theorem G7 {k : List Int} {t : Hh} : bR [.ref h.length] (h ++ .set k :: t) = .ok (.int k.length) (h ++ .set k :: t) := by
  have : (h ++ O.set k :: t)[h.length]? = some (.set k) := by rw [List.getElem?_append_right (Nat.le_refl _)]; simp
  delta bR; dsimp only; rw [this]
@[simp] theorem Dv {ns : List Int} : rF [.tup (ns.map D.int)] h = if ns.length <= 4000 then .ok (.ref h.length) (h ++ [.set (unl ns)]) else .bad := by delta rF; dsimp only; rw [gS]
theorem Es {n : Nat} {ds : List D} (e : aw h n = some ds) : hX (.ref n) h = some ds := e
@[simp] theorem Ie {ds : List D} {t : Hh} : isL (.ref h.length) (h ++ .lst ds :: t) = true := mL cX
@[simp] theorem oQ {ds : List D} {d : D} {t : Hh} : bE (.ref h.length) [d] (h ++ .lst ds :: t) = if ds.length < 1000000 then .ok .non (h ++ .lst (ds ++ [d]) :: t) else .bad := by rw [mJ cX, gK]
@[simp] theorem IM {ds : List D} {i : Int} {t : Hh} : dIx (.ref h.length) (.int i) (h ++ .lst ds :: t) = ixK ds i (h ++ .lst ds :: t) := jP cX
theorem lL {n j : Nat} {i : Int} (e : i = (j : Int)) (hj : j < n) : ixN n i = some j := by
  subst e
  unfold ixN
  rw [if_pos (by omega), if_pos (by omega)]; simp
end
@[simp] theorem HL {a : MA} : iq jW a env h = (a env h).bind jW := Eq.trans rfl rfl
@[simp] theorem Im {j : Int} : jW [.int j] h = if j.natAbs <= 1000000 then .ok (.snap (bS 0 j.toNat)) h else .bad := Eq.trans rfl rfl
@[simp] theorem Iz {a : ME} : dm a env h = (a env h).bind wH := Eq.trans rfl rfl
@[simp] theorem Ho {a : ME} : fC a env h = (a env h).bind o8 := Eq.trans rfl rfl
@[simp] theorem Jc {ds : List D} : wH (.tup ds) h = .ok (.snap ds) h := Eq.trans rfl rfl
@[simp] theorem IS {ds : List D} : wH (.frl ds) h = .ok (.snap ds) h := Eq.trans rfl rfl
@[simp] theorem HQ {a : MA} : pG a env h = (a env h).bind B6 := Eq.trans rfl rfl
@[simp] theorem GW {ds es : List D} : B6 [.tup ds, .tup es] h = .ok (.snap (jL ds es)) h := Eq.trans rfl rfl
theorem gy {tab : Str -> Option MF} {f : ME} {a : MA} {x : Str} {m : MF} {h1 : Hh} (e : f env h = .ok (.fn x) h1) (t : tab x = some m) : ny tab f a env h = (a env h1).bind m := by simp only [ny, e, R.bind, t]
@[simp] theorem G4 {ds : List D} : o8 (.tup ds) h = .ok (.snap (eh ds)) h := Eq.trans rfl rfl
noncomputable def DI (tg : D -> En -> Hh -> R En) (body : MS) (env : En) : Src -> Hh -> R Fl := fun sr h1 => match sr with
  | .snap ds => dJ tg body ds env h1
  | .live n => f_ (Src.live n).rdr tg body ((aw h1 n).getD []).length 0 env h1
  | .liveE n => f_ (Src.liveE n).rdr tg body ((aw h1 n).getD []).length 0 env h1
@[simp] theorem HZ {tg : D -> En -> Hh -> R En} {body : MS} {ds : List D} : DI tg body env (.snap ds) h = dJ tg body ds env h := Eq.trans rfl rfl
@[simp] theorem FX {mi : MI} {tg : D -> En -> Hh -> R En} {body : MS} : dg mi tg body env h = (mi env h).bind (DI tg body env) := by
  unfold dg
  congr 1
noncomputable def Gq (nl : NL) (tt : MT) (te : ME) (ee : D -> En) : Src -> Hh -> R D := fun sr h1 => if sr.fuel h1 <= 1000000 then
  (match sr with
    | .snap ds => dD tt te ee ds h1
    | .live n => fH (Src.live n).rdr tt te ee ((aw h1 n).getD []).length 0 [] h1
    | .liveE n => fH (Src.liveE n).rdr tt te ee ((aw h1 n).getD []).length 0 [] h1).bind nl else .bad
@[simp] theorem Ib {nl : NL} {mi : MI} {ix : List Nat} {tt : MT} {te : ME} : eg nl mi ix tt te env h = (mi env h).bind (Gq nl tt te (h_ ix env)) := Eq.trans rfl rfl
@[simp] theorem GX {nl : NL} {tt : MT} {te : ME} {ee : D -> En} {ds : List D} : Gq nl tt te ee (.snap ds) h = if ds.length <= 1000000 then (dD tt te ee ds h).bind nl else .bad := Eq.trans rfl rfl
@[simp] theorem Fg {lo : Int} {n : Nat} : (bS lo n).length = n := by simp [bS]
@[simp] theorem Fd {ds : List D} : (eh ds).length = ds.length := by simp [eh]
@[simp] theorem IA {ix : List Nat} : h_ ix env = fun d => some d :: ix.map fun i => (env[i]?).join := Eq.trans rfl rfl
@[simp] theorem GA : tt1 env h = .ok true h := Eq.trans rfl rfl
@[simp] theorem Jf {m : En -> Hh -> R β} {x y : D} {r : En} : unp m (some (.tup [x, y]) :: r) h = m (some x :: some y :: r) h := Eq.trans rfl rfl
@[simp] theorem G8 {f : Nat} {c : MT} {b : MS} : kD f c b env h = eD c b f env h := Eq.trans rfl rfl
noncomputable def Ed (tg : D -> En -> Hh -> R En) (body : MS) (ds : List D) : Fl -> Hh -> R Fl := fun fl h2 => match fl with
  | .nx e => dJ tg body ds e h2
  | .ct e => dJ tg body ds e h2
  | .bk e => .ok (.nx e) h2
  | .rt d => .ok (.rt d) h2
theorem Ci {tg : D -> En -> Hh -> R En} {body : MS} : dJ tg body [] env h = .ok (.nx env) h := rfl
theorem iH {tg : D -> En -> Hh -> R En} {body : MS} {d : D} {ds : List D} : dJ tg body (d :: ds) env h = (tg d env h).bind fun e1 h1 => (body e1 h1).bind (Ed tg body ds) := rfl
@[simp] theorem xO {tg : D -> En -> Hh -> R En} {body : MS} {ds : List D} {e : En} : Ed tg body ds (.nx e) h = dJ tg body ds e h := Eq.trans rfl rfl
@[simp] theorem Jd {tg : D -> En -> Hh -> R En} {body : MS} {ds : List D} {d : D} : Ed tg body ds (.rt d) h = .ok (.rt d) h := Eq.trans rfl rfl
theorem wO (ns : List Int) : eh (ns.map D.int) = (List.range ns.length).map fun (i : Nat) => D.tup [.int i, .int (gI ns i)] := by
  unfold eh
  rw [List.length_map]
  apply List.map_congr_left
  intro i hi
  have hi : i < ns.length := List.mem_range.mp hi
  rw [List.getD_eq_getElem?_getD, List.getElem?_map, List.getElem?_eq_getElem hi, bw hi]; rfl
theorem comp_map {X : Type} {tt : MT} {te : ME} {ee : D -> En} (enc : X -> D) (p : X -> Bool) (g : X -> D) : ∀ (xs : List X), (∀ x ∈ xs, tt (ee (enc x)) h = .ok (p x) h /\ (p x = true -> te (ee (enc x)) h = .ok (g x) h)) →
    dD tt te ee (xs.map enc) h = .ok ((xs.filter p).map g) h
  | [], _ => rfl
  | x :: xs, st => by
    obtain ⟨e1, e2⟩ := st x List.mem_cons_self
    have ih := comp_map enc p g xs fun y hy => st y (List.mem_cons_of_mem _ hy)
    rw [List.map_cons, dD, e1, ba]
    cases hp : p x with
    | false => rw [if_neg Bool.false_ne_true, ih, List.filter_cons_of_neg (by simp [hp])]
    | true => rw [if_pos rfl, e2 hp, ba, ih, ba, List.filter_cons_of_pos hp, List.map_cons]
theorem zD {X : Type} {te : ME} {ee : D -> En} (enc : X -> D) (g : X -> D) (xs : List X) (st : ∀ x ∈ xs, te (ee (enc x)) h = .ok (g x) h) : dD tt1 te ee (xs.map enc) h = .ok (xs.map g) h := by
  have := comp_map (tt := tt1) (ee := ee) (h := h) enc (fun _ => true) g xs fun x hx => ⟨rfl, fun _ => st x hx⟩
  rw [List.filter_eq_self.mpr fun _ _ => rfl] at this
  exact this
theorem o_ (n : Nat) : bS 0 n = (List.range n).map fun (i : Nat) => D.int i := by
  unfold bS
  apply List.map_congr_left
  intro i _
  rw [Int.zero_add]
theorem zy {n : Nat} {tt : MT} {te : ME} {ee : D -> En} (p : Nat -> Bool) (g : Nat -> D) (st : ∀ i, i < n -> tt (ee (.int (i : Nat))) h = .ok (p i) h /\ (p i = true -> te (ee (.int (i : Nat))) h = .ok (g i) h)) :
    dD tt te ee (bS 0 n) h = .ok (((List.range n).filter p).map g) h := by
  rw [o_, comp_map (fun (i : Nat) => D.int i) p g (List.range n) fun i hi => st i (List.mem_range.mp hi)]
theorem B9 {σ : Type} {tg : D -> En -> Hh -> R En} {body : MS} (enc : Nat -> D) (n : Nat) (E : σ -> En) (G : σ -> Hh) (f : σ -> Nat -> σ) (I : Nat -> σ -> Prop) (s : σ) (i0 : I 0 s)
    (st : ∀ i s, i < n -> I i s -> I (i + 1) (f s i) /\ ((tg (enc i) (E s) (G s)).bind body = .ok (.nx (E (f s i))) (G (f s i)) \/ (tg (enc i) (E s) (G s)).bind body = .ok (.ct (E (f s i))) (G (f s i)))) :
    dJ tg body ((List.range n).map enc) (E s) (G s) = .ok (.nx (E ((List.range n).foldl f s))) (G ((List.range n).foldl f s)) /\ I n ((List.range n).foldl f s) := by
  have key : ∀ (k : Nat) (xs : List Nat) (s : σ), (∀ j x, xs[j]? = some x -> x = k + j /\ x < n) -> I k s -> dJ tg body (xs.map enc) (E s) (G s) = .ok (.nx (E (xs.foldl f s))) (G (xs.foldl f s)) /\ I (k + xs.length) (xs.foldl f s) := by
    intro k xs
    induction xs generalizing k with
    | nil => intro s _ i; exact ⟨rfl, i⟩
    | cons x xs ih =>
      intro s hx i
      obtain ⟨h1, h2⟩ := hx 0 x rfl
      have h1 : x = k := by omega
      subst h1
      obtain ⟨i1, e⟩ := st x s h2 i
      obtain ⟨e2, i2⟩ := ih (x + 1) (f s x) (fun j y hj => by have := hx (j + 1) y hj; omega) i1
      refine ⟨?_, by rw [List.length_cons, List.foldl_cons]; rw [show x + (xs.length + 1) = x + 1 + xs.length by omega]; exact i2⟩
      rw [List.map_cons, dJ, <- bA]
      rcases e with e | e <;> rw [e] <;> exact e2
  have hr : ∀ j x, (List.range n)[j]? = some x -> x = 0 + j /\ x < n := fun j x hj => by
    have hl : j < n := by
      by_cases hl : j < n
      · exact hl
      · rw [List.getElem?_eq_none (by simpa using hl)] at hj; cases hj
    rw [List.getElem?_range hl] at hj
    cases hj
    omega
  have := key 0 (List.range n) s hr i0
  rw [List.length_range, Nat.zero_add] at this
  exact this
theorem pz {σ X : Type} {te : ME} {ee : D -> En} (G : σ -> Hh) (enc : X -> D) (f : σ -> X -> σ) (g : σ -> X -> D) (I : List X -> σ -> Prop) (st : ∀ s x r, I (x :: r) s -> I r (f s x) /\ te (ee (enc x)) (G s) = .ok (g s x) (G (f s x))) :
    ∀ (xs : List X) (s : σ), I xs s -> ∃ ys, dD tt1 te ee (xs.map enc) (G s) = .ok ys (G (xs.foldl f s)) /\ I [] (xs.foldl f s) /\ ys = (xs.foldl (fun (a : σ × List D) x => (f a.1 x, a.2 ++ [g a.1 x])) (s, [])).2
  | [], s, i => ⟨[], rfl, i, rfl⟩
  | x :: xs, s, i => by
    obtain ⟨i1, e⟩ := st s x xs i
    obtain ⟨ys, e2, i2, e3⟩ := pz G enc f g I st xs (f s x) i1
    refine ⟨g s x :: ys, ?_, i2, ?_⟩
    · rw [List.map_cons, dD, GA, ba, if_pos rfl, e, ba, e2]; rfl
    · rw [List.foldl_cons, e3]
      have key : ∀ (xs : List X) (s : σ) (a b : List D), (xs.foldl (fun (a : σ × List D) x => (f a.1 x, a.2 ++ [g a.1 x])) (s, a ++ b)).2 = a ++ (xs.foldl (fun (a : σ × List D) x => (f a.1 x, a.2 ++ [g a.1 x])) (s, b)).2 := by
        intro xs
        induction xs with
        | nil => intro s a b; rfl
        | cons x xs ih => intro s a b; rw [List.foldl_cons, List.foldl_cons, List.append_assoc]; exact ih _ _ _
      have := key xs (f s x) [g s x] []
      simpa using this.symm
theorem l8 {c : MT} {b : MS} (n : Nat) (E : Nat -> En) (G : Nat -> Hh) (hc : ∀ i, i < n -> c (E i) (G i) = .ok true (G i)) (hb : ∀ i, i < n -> b (E i) (G i) = .ok (.nx (E (i + 1))) (G (i + 1))) (he : c (E n) (G n) = .ok false (G n)) :
    ∀ (f : Nat), n < f -> eD c b f (E 0) (G 0) = .ok (.nx (E n)) (G n) := by
  have key : ∀ (k i f : Nat), i + k = n -> k < f -> eD c b f (E i) (G i) = .ok (.nx (E n)) (G n) := by
    intro k
    induction k with
    | zero =>
      intro i f hi hf
      obtain ⟨f, rfl⟩ : ∃ g, f = g + 1 := ⟨f - 1, by omega⟩
      have : i = n := by omega
      subst this
      rw [eD, he]; rfl
    | succ k ih =>
      intro i f hi hf
      obtain ⟨f, rfl⟩ : ∃ g, f = g + 1 := ⟨f - 1, by omega⟩
      rw [eD, hc i (by omega), ba, if_pos rfl, hb i (by omega), ba]
      exact ih (i + 1) f (by omega) (by omega)
  exact fun f hf => key n 0 f (by omega) hf
noncomputable def Wf (h : Hh) : Prop := h.all (nJ h.length) = true
mutual
theorem xg {j k : Nat} (h : j <= k) : ∀ (d : D), dR j d = true -> dR k d = true
  | .non, _ => rfl | .bl _, _ => rfl | .int _, _ => rfl | .str _, _ => rfl | .fn _, _ => rfl | .edic, _ => rfl | .exc _ _, _ => rfl
  | .ref n, e => by simp only [dR, decide_eq_true_eq] at e ⊢; omega
  | .tup ds, e => by simp only [dR] at e ⊢; exact dA h ds e
  | .frl ds, e => by simp only [dR] at e ⊢; exact dA h ds e
  | .scr ds, e => by simp only [dR] at e ⊢; exact dA h ds e
theorem dA {j k : Nat} (h : j <= k) : ∀ (ds : List D), bP j ds = true -> bP k ds = true
  | [], _ => rfl
  | d :: ds, e => by
    simp only [bP, Bool.and_eq_true] at e ⊢
    exact ⟨xg h d e.1, dA h ds e.2⟩
end
theorem vM {j k : Nat} (h : j <= k) (o : O) (e : nJ j o = true) : nJ k o = true := by
  cases o with
  | lst ds => exact dA h ds e
  | set n => rfl
  | dic kvs => exact dA h _ e
  | dit kvs => exact dA h _ e
theorem oV {k : Nat} : ∀ {ds : List D}, (∀ d ∈ ds, dR k d = true) -> bP k ds = true
  | [], _ => rfl
  | d :: ds, h => by simp only [bP, Bool.and_eq_true]; exact ⟨h d List.mem_cons_self, oV fun e he => h e (List.mem_cons_of_mem _ he)⟩
@[simp] theorem oP {X : Type} {k : Nat} {f : X -> D} {xs : List X} (h : ∀ x, dR k (f x) = true) : bP k (xs.map f) = true := oV fun d hd => by
  obtain ⟨x, _, rfl⟩ := List.mem_map.mp hd; exact h x
@[simp] theorem D7 {k : Nat} {ns : List Int} : bP k (ns.map D.int) = true := oP fun _ => rfl
theorem Wf.nil : Wf [] := rfl
theorem Wf.app {h : Hh} {o : O} (w : Wf h) (l : nJ (h.length + 1) o = true) : Wf (h ++ [o]) := by
  unfold Wf at w ⊢
  rw [List.all_append, List.length_append, List.length_singleton]
  simp only [List.all_cons, List.all_nil, Bool.and_true, Bool.and_eq_true]
  refine ⟨?_, l⟩
  rw [List.all_eq_true] at w ⊢
  exact fun x hx => vM (Nat.le_succ _) x (w x hx)
noncomputable def deep : Nat -> D -> Bool
  | 0, _ => false
  | f + 1, d => match d with
    | .ref _ => false
    | .scr _ => false
    | .tup ds => ds.all (deep f)
    | .frl ds => ds.all (deep f)
    | _ => true
theorem pK {f : D -> Option D} : ∀ {ds : List D}, (∀ d ∈ ds, f d = some d) -> kC f ds = some ds
  | [], _ => rfl
  | d :: ds, h => by simp only [kC, h d List.mem_cons_self, pK fun e he => h e (List.mem_cons_of_mem _ he)]
theorem kL {k : Nat} {h : Hh} : ∀ (f : Nat) (d : D), deep f d = true -> gX k h f d = some d
  | 0, _, e => by cases e
  | f + 1, d, e => by
    unfold deep at e
    unfold gX
    cases d with
    | ref n => cases e
    | scr n => cases e
    | tup ds => simp only [List.all_eq_true] at e; show Option.map D.tup (kC (gX k h f) ds) = _; rw [pK (f := gX k h f) fun d hd => kL f d (e d hd)]; rfl
    | frl ds => simp only [List.all_eq_true] at e; show Option.map D.frl (kC (gX k h f) ds) = _; rw [pK (f := gX k h f) fun d hd => kL f d (e d hd)]; rfl
    | _ => rfl
theorem bI {d : D} {t : Hh} (w : Wf h) (e : deep 8 d = true) : bx h d (h ++ t) = .ok d h := by
  unfold bx
  rw [List.take_left' rfl, if_pos (show h.all (nJ h.length) = true from w), kL 8 d e]
theorem sM {d : D} (w : Wf h) (e : deep 8 d = true) : bx h d h = .ok d h := by
  have := bI (t := []) w e
  simpa using this
@[simp] theorem Fn {f : Nat} {i : Int} : deep (f + 1) (.int i) = true := rfl
@[simp] theorem G0 {f : Nat} {i : Bool} : deep (f + 1) (.bl i) = true := rfl
@[simp] theorem FT {f : Nat} {i : Str} : deep (f + 1) (.str i) = true := rfl
@[simp] theorem FU {f : Nat} : deep (f + 1) .non = true := rfl
@[simp] theorem Fe {f : Nat} : deep (f + 1) .edic = true := rfl
@[simp] theorem GF {f : Nat} {ds : List D} : deep (f + 1) (.tup ds) = ds.all (deep f) := rfl
@[simp] theorem Gk {f : Nat} {ds : List D} : deep (f + 1) (.frl ds) = ds.all (deep f) := rfl
end
noncomputable def Ok {β : Type} (r : R β) (Q : β -> Hh -> Prop) : Prop := ∃ b h, r = .ok b h /\ Q b h
section
variable {β γ : Type} {Q : β -> Hh -> Prop} {h h1 h2 : Hh}
theorem Ok.mono {r : R β} {Q' : β -> Hh -> Prop} (o : Ok r Q) (q : ∀ b h, Q b h -> Q' b h) : Ok r Q' := let ⟨b, h, e, z⟩ := o; ⟨b, h, e, q b h z⟩
end
theorem qg {X : Type} {tg : D -> En -> Hh -> R En} {body : MS} {QS : Fl -> Hh -> Prop} (enc : X -> D) (I : En -> Hh -> Prop) :
    ∀ (xs : List X) (env : En) (h : Hh), I env h -> (∀ x e h, x ∈ xs -> I e h -> Ok ((tg (enc x) e h).bind body) fun fl h2 => match fl with
      | .nx e => I e h2
      | .ct e => I e h2
      | .bk e => QS (.nx e) h2
      | .rt d => QS (.rt d) h2) -> (∀ e h, I e h -> QS (.nx e) h) -> Ok (dJ tg body (xs.map enc) env h) QS
  | [], env, h, i, _, q => ⟨_, _, rfl, q _ _ i⟩
  | x :: xs, env, h, i, st, q => by
    obtain ⟨fl, h2, e, z⟩ := st x env h List.mem_cons_self i
    rw [List.map_cons, dJ, <- bA, e, ba]
    cases fl with
    | nx e' => exact qg enc I xs e' h2 z (fun y e h hy => st y e h (List.mem_cons_of_mem _ hy)) q
    | ct e' => exact qg enc I xs e' h2 z (fun y e h hy => st y e h (List.mem_cons_of_mem _ hy)) q
    | bk e => exact ⟨_, _, rfl, z⟩
    | rt d => exact ⟨_, _, rfl, z⟩
end L2.FE
namespace L2.FE
open PySem PySem.Spec PyProof.Rows
noncomputable def Dd (h : Hh) (n : Nat) : Option (List (Key × D)) := match h[n]? with
  | some (.dic kvs) => some kvs
  | _ => none
noncomputable def AJ : List (Key × D) -> Key -> Option D
  | [], _ => none
  | p :: r, k => if p.1 = k then some p.2 else AJ r k
noncomputable abbrev PD (K : PySem.W.Frag) (g : GG) (α : List Addr) (H : Hp) : List (Key × D) -> List (Key × V) -> Prop := Paired (fun (a : Key × D) (b : Key × V) => a.1 = b.1 /\ aG K g α H a.2 b.2)
section
variable {K : PySem.W.Frag} {g : GG} {α : List Addr} {H : Hp} {h : Hh}
theorem aN.dic {n : Nat} {p : Addr} {kvs : List (Key × D)} (r : aN K g α H h) (e : Dd h n = some kvs) (hp : α[n]? = some p) : ∃ kws, H p = some (.dK kws) /\ PD K g α H kvs kws := by
  unfold Dd at e
  cases eo : h[n]? with
  | none => rw [eo] at e; cases e
  | some o =>
    rw [eo] at e
    cases o with
    | dic k => cases e; exact r.here n p _ hp eo
    | _ => cases e
theorem PD.val (k : Key) : ∀ {kvs : List (Key × D)} {kws : List (Key × V)}, PD K g α H kvs kws -> (AJ kvs k = none /\ qj kws k = none) \/ ∃ d v, AJ kvs k = some d /\ qj kws k = some v /\ aG K g α H d v
  | _, _, .nil => .inl ⟨rfl, rfl⟩
  | p :: r, q :: t, .cons c rr => by
    by_cases e : p.1 = k
    · exact .inr ⟨p.2, q.2, if_pos e, rV (c.1 ▸ e), c.2⟩
    · rw [show AJ (p :: r) k = AJ r k from if_neg e, sL (c.1 ▸ e)]
      exact PD.val k rr
theorem PD.ext {α' : List Addr} {H' : Hp} {kvs : List (Key × D)} {kws : List (Key × V)} (e : Ext K α H α' H') (r : PD K g α H kvs kws) : PD K g α' H' kvs kws := Paired.Fu e.toEx0 r
theorem aE.dic {Q : VK} {kvs : List (Key × D)} {kws : List (Key × V)} {p : Addr} (w : aE K g α H Q (.ref h.length) (h ++ [.dic kvs])) (r : aN K g α H h) (rs : PD K g α H kvs kws) (hp : H p = none) : Q (.ref p) (upd H p (.dK kws)) := by
  have x := Ext.push (K := K) (α := α) (o := .dK kws) hp
  exact w _ _ _ x (r.push hp ⟨_, aH, rs.ext x⟩) (.ref (by rw [<- r.len]; simp))
end
section
variable {X : Cx} {g : GG} {ε : EE} {o i e f : Expr} {mo mi me mf : ME} {pos : Pos}
theorem Cg : PE X (.Dict [] [] pos) (tM X.K g ε (cC .edic)) :=
  PE.imp (PE.frz Al) fun σ H Q ⟨α, env, h, s, w⟩ p hp => by
    refine .inr ⟨p, _, rfl, aH, trivial, fun o => ?_⟩
    rw [Bn]
    exact (show aE X.K g α H Q .edic h from w) _ _ α (Ext.fresh hp) (s.heap.grow hp) (.edic aH)
noncomputable def fA (ns : List Int) : Int := ns.getD (argBest (fun i j => decide (ns.getD i 0 > ns.getD j 0)) (ns.length - 1)) 0
theorem wb (hc : X.calm = true) : a_ X (.builtin "max") (fun vs H Q => ∃ (p : Addr) (ns : List Int), vs = [.ref p] /\ SqL X.K H p (ns.map V.int) /\ 0 < ns.length /\ Q (.int (fA ns)) H) := by
  intro pins s σ H xs us Q I r h
  obtain ⟨p, ns, rfl, hq, hpos, q⟩ := h
  obtain ⟨u, rfl, rx⟩ := vals1 r
  cases rx
  have hh : X.A.in1.handled = none := I.ok.hd hc
  obtain ⟨its, rv, pl, hz⟩ := I.list hq
  have hl : its.toArray.size = ns.length := by rw [List.size_toArray, <- rv.length, List.length_map]
  have val : ∀ i v, its.toArray[i]? = some v -> ∃ t : Tok, v = Value.int (ns.getD i 0) t := fun i v e => by
    obtain ⟨x, hx, rxv⟩ := rv.get' (show its[i]? = some v by simpa using e)
    rw [List.getElem?_map] at hx
    cases en : ns[i]? with
    | none => rw [en] at hx; cases hx
    | some z =>
      rw [en] at hx
      cases hx
      obtain ⟨t, e⟩ := rxv
      exact ⟨t, by rw [List.getD_eq_getElem?_getD, en]; exact e⟩
  have plt : p < s.heap.objs.size := by obtain ⟨o, e, _⟩ := pl.isList; exact Heap.lt_size e
  have hne : p ≠ s.heap.objs.size := Nat.ne_of_lt plt
  refine call_max_walk (wpAny_pyIter_list pl.isList ?_)
  refine ⟨s.heap.objs.size, _, _, its.toArray.size, _, _, _, rfl, Walks.list (prog := X.prog) (w := X.w) hh s.heap.objs.size p hne its.toArray, ⟨⟨_, Heap.get?_push_size _ rfl, rfl, rfl⟩, ?_⟩, fun b hb => ?_, by omega, CmpOf.ints_gt (fun i => ns.getD i 0) val, fun v h' tk hv hk => ?_⟩
  · exact pl.isList.at fun o e => Heap.get?_push_of_some _ e
  · simp at hb
    rcases hb with rfl | rfl
    · exact Heap.lt_size (Heap.get?_push_size _ rfl)
    · exact Nat.lt_trans plt (Heap.lt_size (Heap.get?_push_size _ rfl))
  · obtain ⟨t, rfl⟩ := val _ _ hv
    refine ⟨.int (fA ns), H, ?_, ⟨t, by rw [hl]; rfl⟩, q⟩
    exact I.kept (h' := h') (t' := tk) fun b u e => hk b u (by simp; exact Nat.ne_of_lt (Heap.lt_size e)) (Heap.get?_push_of_some _ e)
noncomputable def md : List D -> Hh -> R D := fun ds h => match ds with
  | [d] => match hX d h with
    | some ds => match intsOf ds with
      | some ns => if 0 < ns.length then .ok (.int (fA ns)) h else .bad
      | none => .bad
    | none => .bad
  | _ => .bad
theorem Cp {K : PySem.W.Frag} : ki K g ε md (fun vs H Q => ∃ (p : Addr) (ns : List Int), vs = [.ref p] /\ SqL K H p (ns.map V.int) /\ 0 < ns.length /\ Q (.int (fA ns)) H) := by
  intro α H h a x Q r ra w
  obtain ⟨d, v, rfl, rfl, rd⟩ := kh (f := md) (fun d _ _ _ => rfl) (fun _ => rfl) ra w
  unfold md at w
  simp only at w
  cases e : hX d h with
  | none => rw [e] at w; exact w.elim
  | some ds =>
    rw [e] at w
    simp only at w
    cases e2 : intsOf ds with
    | none => rw [e2] at w; exact w.elim
    | some ns =>
      rw [e2] at w
      obtain ⟨hl, w⟩ := WQ.dG w
      obtain ⟨p, vs, rfl, hv, rs⟩ := qL r rd e
      have e3 := eA e2
      subst e3
      rw [rs.uI] at hv
      exact ⟨p, ns, rfl, .inl hv, hl, aE.now w r (.int _)⟩
end
end L2.FE
namespace L2
open PySem PySem.Spec PyProof.Rows
theorem Aa (o : Obj) (f : Array Value -> Array Value) : (Obj.mapFields f o).cls = o.cls := Obj.cls_mapFields _ _
theorem wK (o : Obj) (f : Array Value -> Array Value) : (Obj.mapFields f o).dict = o.dict := by
  unfold Obj.mapFields
  split <;> rfl
structure Gn (h h' : Heap) : Prop where
  up : h.UpToSlots h'
  there : ∀ b o, h.get? b = some o -> ∃ o', h'.get? b = some o'
theorem Gn.trans {h h1 h2 : Heap} (a : Gn h h1) (b : Gn h1 h2) : Gn h h2 := ⟨a.up.trans b.up, fun c o q => let ⟨_, q'⟩ := a.there c o q; b.there c _ q'⟩
structure Fly (B : Heap) (l : List Env) (e : Addr) (C : Value) (dc : Option Addr) (fl : Value) (h : Heap) : Prop where
  stays : B.StaysIn h
  new : B.get? e = none
  fr : h.FunFrames B l
  obj : ∃ oe ws T oT ts, h.get? e = some oe /\ oe.cls = C /\ oe.dict = dc /\ oe.data = .fields ws /\ ws[1]? = some (.ref T) /\ B.get? T = none /\ T ≠ e /\ h.get? T = some oT /\ oT.data = .fields ts /\ ts[3]? = some fl
theorem Fly.pop {B : Heap} {env : Env} {l : List Env} {e : Addr} {C : Value} {dc : Option Addr} {fl : Value} {h : Heap} (x : Fly B (env :: l) e C dc fl h) : Fly B l e C dc fl h :=
  ⟨x.stays, x.new, x.fr.2.2, x.obj⟩
theorem Fly.there {B : Heap} {l : List Env} {e : Addr} {C : Value} {dc : Option Addr} {fl : Value} {h : Heap} (x : Fly B l e C dc fl h) : ∃ oe ws, h.get? e = some oe /\ oe.cls = C /\ oe.dict = dc /\ oe.data = .fields ws := by
  obtain ⟨oe, ws, T, oT, ts, a, b, c, d, _⟩ := x.obj
  exact ⟨oe, ws, a, b, c, d⟩
section
variable {M : Model} {A : Around} {E : Value -> Shared -> Prop} {s : Shared} {B : Heap} {env : Env} {l outer : List Env} {e L : Addr} {C : Value} {dc : Option Addr} {fl : Value} {Q : Unit -> Shared -> Prop}
theorem qA (x : Fly B l e C dc fl s.heap) (k : ∀ h', Fly B l e C dc .none h' -> Gn s.heap h' -> Q () { s with heap := h' }) : wpAny M A (setFlight (.ref e) none) Q E s := by
  obtain ⟨st, nw, fr, oe, ws, T, oT, ts, q1, q2, q3, q4, q5, q6, q7, q8, q9, q10⟩ := x
  have hlt : 3 < ts.size := (Array.getElem?_eq_some_iff.mp q10).1
  have off : ∀ b, b ≠ T -> (s.heap.update T (Obj.mapFields (·.setIfInBounds 3 ((none : Option Addr).elim Value.none fun f => rawInt f)))).get? b = s.heap.get? b := fun b z => Heap.get?_update_other _ _ (Ne.symm z)
  have noF : ∀ b o, s.heap.get? b = some o -> (∀ vs, o.data ≠ .fields vs) -> b ≠ T := by
    rintro b o q n rfl
    rw [q8] at q; cases q; exact n ts q9
  unfold setFlight
  refine wpAny_bind (wpAny_field q1 q4 q5 ?_)
  rw [if_pos (by simp : (Value.ref T != Value.none) = true)]
  refine wpAny_setField q8 q9 hlt (k _ ⟨fun b o q => (off b ?_).trans (st b o q), nw, fr.of_keeps fun b o q n => ⟨o, (off b (noF b o q n)).trans q, rfl⟩, oe, ws, T, _, _, (off e (Ne.symm q7)).trans q1, q2, q3, q4, q5, q6, q7, Heap.get?_update_self _ q8 (Obj.isFreed_of_fields (Obj.data_mapFields q9 _)), Obj.data_mapFields q9 _, by simp [hlt]⟩
    ⟨fun b o q n => ⟨o.slots, (off b (noF b o q n)).trans q⟩, fun b o q => ?_⟩)
  · rintro rfl; rw [q6] at q; cases q
  · by_cases z : b = T
    · subst z; exact ⟨_, Heap.get?_update_self _ q8 (Obj.isFreed_of_fields (Obj.data_mapFields q9 _))⟩
    · exact ⟨o, (off b z).trans q⟩
theorem oW {head : Value} {had : Bool} {oe : Obj} {ws : Array Value} (hA : A.frames = some (env :: outer)) (fr : s.heap.FunFrames B (env :: outer)) (hL : env.frame = some L) (q1 : s.heap.get? e = some oe) (st : B.StaysIn s.heap) (nw : B.get? e = none) (q4 : oe.data = .fields ws) (hlt : 1 < ws.size)
    (k : ∀ h', Fly B (env :: outer) e oe.cls oe.dict (rawInt L) h' -> Gn s.heap h' -> Q () { s with heap := h' }) :
    wpAny M A (do let fo ← frameOf env; let pl ← entryPlaceOf L had; let t ← EntryCells.newEntry head fo .none (rawInt L) .none pl; setField (.ref e) 1 t) Q E s := by
  have hnf : e ∉ (env :: outer).filterMap (·.frame) := fun z => by
    obtain ⟨_, o, ho, n⟩ := fr.mem z
    rw [q1] at ho; cases ho; exact n ws q4
  refine wpAny_bind (wpAny_frameOf_fun hA fr hL fun h1 so => wpAny_bind (wpAny_entryPlaceOf fun pl hpl => ?_))
  obtain ⟨z1, z2, z3⟩ := so
  unfold EntryCells.newEntry newFields
  refine wpAny_bind (wpAny_newObj_type ?_ (hpl.sizeOk5 _ _ _ _ _))
  have e1 : h1.get? e = some oe := by rw [z2 e hnf]; exact q1
  have st1 : B.StaysIn h1 := fun b o q => by
    rw [z2 b fun z => by rw [(fr.mem z).1] at q; cases q]
    exact st b o q
  generalize hT : ({ cls := .type "traceback", dict := none, data := .fields ([head, .ref L, .none, rawInt L, .none] ++ (if pl.isEmpty then List.replicate 6 Value.none else pl)).toArray } : Obj) = oT
  have e2 : (h1.push oT).get? e = some oe := Heap.get?_push_of_some _ e1
  have dT : oT.data = .fields ([head, .ref L, .none, rawInt L, .none] ++ (if pl.isEmpty then List.replicate 6 Value.none else pl)).toArray := by rw [<- hT]
  have ne : h1.objs.size ≠ e := Nat.ne_of_gt (Heap.lt_size e1)
  refine wpAny_setField e2 q4 hlt (k _ ?_ ?_)
  · have off : ∀ b o, b ≠ e -> h1.get? b = some o -> ((h1.push oT).update e (Obj.mapFields (·.setIfInBounds 1 (Value.ref h1.objs.size)))).get? b = some o := fun b o n q => by
      rw [Heap.get?_update_other _ _ (Ne.symm n)]
      exact Heap.get?_push_of_some _ q
    have noF : ∀ b o, h1.get? b = some o -> (∀ vs, o.data ≠ .fields vs) -> b ≠ e := by
      rintro b o q n rfl
      rw [e1] at q; cases q; exact n ws q4
    refine ⟨fun b o q => off b o ?_ (st1 b o q), nw, ?_, _, _, h1.objs.size, oT, _, Heap.get?_update_self _ e2 (Obj.isFreed_of_fields (Obj.data_mapFields q4 _)), Aa _ _, wK _ _, Obj.data_mapFields q4 _, by simp [hlt], ?_, ne, ?_, dT, ?_⟩
    · rintro rfl; rw [nw] at q; cases q
    · exact fr.of_keeps fun b o q n => by
        obtain ⟨sl, q'⟩ := z3 b o q
        exact ⟨_, off b _ (noF b _ q' n) q', rfl⟩
    · cases q : B.get? h1.objs.size with
      | none => rfl
      | some o => exact absurd (Heap.lt_size (st1 _ _ q)) (Nat.lt_irrefl _)
    · rw [Heap.get?_update_other _ _ (Ne.symm ne)]
      rw [<- hT]
      exact Heap.get?_push_size h1 rfl
    · first | (simp; done) | (rcases hpl with rfl | ⟨_, _, _, _, _, _, _, rfl⟩ <;> simp)
  · refine ⟨fun b o q n => ?_, fun b o q => ?_⟩
    · obtain ⟨sl, q'⟩ := z3 b o q
      refine ⟨sl, ?_⟩
      rw [Heap.get?_update_other _ _ ?_]
      · exact Heap.get?_push_of_some _ q'
      · rintro rfl
        rw [q1] at q; cases q; exact n ws q4
    · obtain ⟨sl, q'⟩ := z3 b o q
      by_cases z : b = e
      · subst z; exact ⟨_, Heap.get?_update_self _ e2 (Obj.isFreed_of_fields (Obj.data_mapFields q4 _))⟩
      · exact ⟨_, by rw [Heap.get?_update_other _ _ (Ne.symm z)]; exact Heap.get?_push_of_some _ q'⟩
theorem wu {oe : Obj} {ws : Array Value} (hA : A.frames = some (env :: outer)) (fr : s.heap.FunFrames B (env :: outer)) (hL : env.frame = some L) (q1 : s.heap.get? e = some oe) (st : B.StaysIn s.heap) (nw : B.get? e = none) (q4 : oe.data = .fields ws) (q5 : ws[1]? = some .none)
    (k : ∀ h', Fly B (env :: outer) e oe.cls oe.dict (rawInt L) h' -> Gn s.heap h' -> Q () { s with heap := h' }) : wpAny M A (noteFrame (.ref e) env) Q E s := by
  unfold noteFrame
  simp only [hL]
  refine wpAny_bind (wpAny_field q1 q4 q5 ?_)
  rw [if_neg (by decide)]
  exact oW hA fr hL q1 st nw q4 (Array.getElem?_eq_some_iff.mp q5).1 k
theorem xH (hA : A.frames = some (env :: outer)) (hL : env.frame = some L) (x : Fly B (env :: outer) e C dc .none s.heap)
    (k : ∀ h', Fly B (env :: outer) e C dc (rawInt L) h' -> Gn s.heap h' -> Q () { s with heap := h' }) : wpAny M A (noteFrame (.ref e) env) Q E s := by
  obtain ⟨st, nw, fr, oe, ws, T, oT, ts, q1, q2, q3, q4, q5, q6, q7, q8, q9, q10⟩ := x
  have off : ∀ b, b ≠ T -> (s.heap.update T (Obj.mapFields (·.setIfInBounds 3 Value.none))).get? b = s.heap.get? b := fun b z => Heap.get?_update_other _ _ (Ne.symm z)
  have noF : ∀ b o, s.heap.get? b = some o -> (∀ vs, o.data ≠ .fields vs) -> b ≠ T := by
    rintro b o q n rfl
    rw [q8] at q; cases q; exact n ts q9
  unfold noteFrame
  simp only [hL]
  refine wpAny_bind (wpAny_field q1 q4 q5 ?_)
  rw [if_pos (by simp : (Value.ref T != Value.none) = true)]
  refine wpAny_bind (wpAny_field q8 q9 q10 ?_)
  rw [if_neg (by simp [rawInt] : ¬ ((Value.none == rawInt L) = true))]
  refine wpAny_bind (wpAny_setField q8 q9 (Array.getElem?_eq_some_iff.mp q10).1 ?_)
  refine oW (B := B) (oe := oe) hA (fr.of_keeps fun b o q n => ⟨o, (off b (noF b o q n)).trans q, rfl⟩) hL ((off e (Ne.symm q7)).trans q1) (fun b o q => (off b ?_).trans (st b o q)) nw q4 (Array.getElem?_eq_some_iff.mp q5).1 fun h' y u => ?_
  · rintro rfl; rw [q6] at q; cases q
  · subst q2 q3
    refine k h' y ⟨fun b o q n => u.up b o ((off b (noF b o q n)).trans q) n, fun b o q => ?_⟩
    by_cases z : b = T
    · subst z; exact u.there _ _ (Heap.get?_update_self _ q8 (Obj.isFreed_of_fields (Obj.data_mapFields q9 _)))
    · exact u.there b o ((off b z).trans q)
end
theorem Du {P : Program} {w : World} {H : Hp} {h : Heap} {a : Addr} {o : HO} (x : bL P w H h a o) : ∃ u, h.get? a = some u := by
  cases o with
  | lst xs => obtain ⟨_, _, _, _, e⟩ := x; exact ⟨_, e⟩
  | tup xs => obtain ⟨_, _, _, ob, e, _⟩ := x; exact ⟨_, e⟩
  | dK kvs => obtain ⟨_, _, _, _, o, _, _, e, _⟩ := x; exact ⟨_, e⟩
  | dT kvs => obtain ⟨_, _, _, _, o, _, _, e, _⟩ := x; exact ⟨_, e⟩
  | set S n => obtain ⟨o, _, _, _, e, _⟩ := x; exact ⟨_, e⟩
  | ins C dx fs => obtain ⟨_, _, _, e, _⟩ := x; exact ⟨_, e⟩
  | own y => exact x
  | xd fs => obtain ⟨_, ⟨_, _, _, e, _⟩, _⟩ := x; exact ⟨_, e⟩
  | rng lo hi => obtain ⟨_, _, _, e⟩ := x; exact ⟨_, e⟩
  | frz ob u => obtain ⟨e, _⟩ := x; exact ⟨_, e⟩
  | tbl ps => exact ⟨_, (show h.get? a = some _ from x)⟩
  | met f y => exact ⟨_, (show h.get? a = some _ from x)⟩
  | ext φ => obtain ⟨_, e, _⟩ := x; exact e
noncomputable def Arr (B : Heap) (l : List Env) (e : Addr) (C : Value) (dc : Option Addr) (h : Heap) : Prop :=
  (B.StaysIn h /\ B.get? e = none /\ h.FunFrames B l /\ ∃ oe ws, h.get? e = some oe /\ oe.cls = C /\ oe.dict = dc /\ oe.data = .fields ws /\ ws[1]? = some .none) \/ Fly B l e C dc .none h
theorem Arr.stays {B : Heap} {l : List Env} {e : Addr} {C : Value} {dc : Option Addr} {h : Heap} (x : Arr B l e C dc h) : B.StaysIn h := x.elim (·.1) (·.stays)
theorem Arr.new {B : Heap} {l : List Env} {e : Addr} {C : Value} {dc : Option Addr} {h : Heap} (x : Arr B l e C dc h) : B.get? e = none := x.elim (·.2.1) (·.new)
theorem Arr.fr {B : Heap} {l : List Env} {e : Addr} {C : Value} {dc : Option Addr} {h : Heap} (x : Arr B l e C dc h) : h.FunFrames B l := x.elim (·.2.2.1) (·.fr)
section
variable {M : Model} {A : Around} {E : Value -> Shared -> Prop} {s : Shared} {B : Heap} {env : Env} {outer : List Env} {e L : Addr} {C : Value} {dc : Option Addr} {Q : Unit -> Shared -> Prop}
theorem sj (hA : A.frames = some (env :: outer)) (hL : env.frame = some L) (x : Arr B (env :: outer) e C dc s.heap)
    (k : ∀ h', Fly B (env :: outer) e C dc (rawInt L) h' -> Gn s.heap h' -> Q () { s with heap := h' }) : wpAny M A (noteFrame (.ref e) env) Q E s := by
  rcases x with ⟨st, nw, fr, oe, ws, q1, rfl, rfl, q4, q5⟩ | x
  · exact wu hA fr hL q1 st nw q4 q5 k
  · exact xH hA hL x k
theorem wW (hA : A.frames = some (env :: outer)) (hL : env.frame = some L) (x : Arr B (env :: outer) e C dc s.heap)
    (k : ∀ h', Fly B outer e C dc .none h' -> Gn s.heap h' -> Q () { s with heap := h' }) : wpAny M A (leaving env (.ref e)) Q E s := by
  unfold leaving
  exact wpAny_bind (sj hA hL x fun h1 x1 u1 => qA x1 fun h2 x2 u2 => k h2 x2.pop (u1.trans u2))
end
structure Cov (B : Heap) (fs : List Addr) (aC : Hp) (h₀ : Heap) (H' : Hp) : Prop where
  trk : ∀ b o, H' b = some o -> ∃ u, B.get? b = some u
  old : ∀ b o, h₀.get? b = some o -> aC b = none -> b ∉ fs -> B.get? b = some o
noncomputable def CXE (P : Program) (w : World) : CXT := fun outer H s E e s' => ∃ (H' : Hp) (B : Heap) (a : Addr) (C : Value) (dc : Option Addr), e = .ref a /\ s'.os = s.os /\ AllBare s'.gens /\ Un (frs outer) [] H H' s.heap s'.heap /\ HOk P w H' s'.heap /\ Fly B outer a C dc .none s'.heap /\ Cov B (frs outer) H s.heap H' /\ E C dc H'
noncomputable def XeB (X : Cx) (E : XK) (e : Value) (s' : Shared) : Prop := ∃ (σ : St) (H' : Hp) (B : Heap) (a : Addr) (C : Value) (dc : Option Addr), e = .ref a /\ Inv X [] σ H' s' /\ Arr B X.stack a C dc s'.heap /\ Cov B X.fs X.aC X.ay.heap H' /\ (∀ p ∈ X.pn, B.get? p.1 = some p.2) /\ E C dc H'
noncomputable def ja (X : Cx) (E : XK) : Prop := ∀ e s', XeB X E e s' -> X.xe e s'
structure Plain (X : Cx) : Prop where
  ex : X.ex = []
  stk : X.stack = X.env :: X.outer /\ X.env.frame = some X.env.locals
theorem HOk.flew {P : Program} {w : World} {H' : Hp} {B h h' : Heap} (x : HOk P w H' h) (tr : ∀ b o, H' b = some o -> ∃ u, B.get? b = some u) (st : B.StaysIn h) (st' : B.StaysIn h') : HOk P w H' h' := fun a o e =>
  (x a o e).j1 (fun b u hb q => by
    obtain ⟨u', q'⟩ : ∃ u, B.get? b = some u := by
      rcases hb with rfl | hb
      · exact tr _ _ e
      · exact tr _ _ hb
    have := st _ _ q'
    rw [q] at this; cases this
    exact st' _ _ q') (fun _ q => q) fun _ _ q => q
theorem Inv.drop {X : Cx} {pins : List (Addr × Obj)} {σ : St} {H : Hp} {s : Shared} (I : Inv X pins σ H s) : Inv X [] σ H s :=
  ⟨I.ok, I.os, I.bare, I.base, I.loc, I.cell, I.free, I.dC, fun p hp => I.pin p (by simp only [List.append_nil] at hp; exact List.mem_append_left _ hp), I.hok, I.len⟩
theorem u0 {fs : List Addr} {aC H' : Hp} {B h₀ h h' : Heap} (u : Un fs [] aC H' h₀ h) (c : Cov B fs aC h₀ H') (st' : B.StaysIn h') (g : Gn h h') (nf : ∀ b ∈ fs, ∀ o, h.get? b = some o -> ∀ vs, o.data ≠ .fields vs) : Un fs [] aC H' h₀ h' :=
  ⟨fun b o e n hb _ => st' b o (c.old b o e n hb), fun b o e n hb hx => by
    obtain ⟨sl, q⟩ := u.slot b o e n hb hx
    obtain ⟨sl', q'⟩ := g.up b _ q (nf b hb _ q)
    exact ⟨sl', q'⟩, u.free, fun b o e hx => by
    obtain ⟨o', q⟩ := u.there b o e hx
    exact g.there b o' q, u.oA, u.nz, u.oh⟩
theorem Inv.flew {X : Cx} {σ : St} {H' : Hp} {s' : Shared} {B h' : Heap} {t' : Nat} (I : Inv X [] σ H' s') (p : Plain X) (c : Cov B X.fs X.aC X.ay.heap H') (pn : ∀ p ∈ X.pn, B.get? p.1 = some p.2) (st : B.StaysIn s'.heap) (fr : s'.heap.FunFrames B X.stack) (st' : B.StaysIn h') (g : Gn s'.heap h') : Inv X [] σ H' { s' with heap := h', toks := t' } := by
  have cellK : ∀ {c' : Addr} {v : Option Value}, s'.heap.IsCell c' v -> h'.IsCell c' v := fun {c' v} ⟨o, ho, hd⟩ => by
    obtain ⟨sl, q⟩ := g.up c' o ho fun vs z => by rw [hd] at z; cases z
    exact ⟨_, q, hd⟩
  refine ⟨I.ok, I.os, I.bare, ?_, ?_, fun x c' e => let ⟨v, q⟩ := I.cell x c' e; ⟨v, cellK q⟩, I.free, I.dC, fun q hq => ?_, I.hok.flew c.trk st st', I.len⟩
  · have u := I.base
    rw [p.ex] at u ⊢
    refine u0 u c st' g fun b hb o q vs z => ?_
    have : b ∈ X.stack.filterMap (·.frame) := by
      rw [p.stk.1, List.filterMap_cons, p.stk.2]
      exact List.mem_cons_of_mem _ hb
    obtain ⟨_, o', q', n⟩ := fr.mem this
    rw [q] at q'; cases q'; exact n vs z
  · obtain ⟨m, hn, k⟩ := I.loc
    refine ⟨m, g.up.ns hn, fun i x v a b c => ?_⟩
    obtain ⟨u, r, l⟩ := k i x v a b c
    refine ⟨u, r, l.imp (fun z => z) fun ⟨z, c', e, q⟩ => ⟨z, c', e, cellK q⟩⟩
  · have := I.pin q hq
    rw [List.append_nil] at hq
    exact ⟨st' _ _ (pn q hq), this.2⟩
section
variable {P : Program} {w : World} {K : PySem.W.Frag} {mg : Str -> Option Value} {base : Heap}
theorem wI {N : List Str} {qual : Str} {scope : Scope} {f : Addr} {cd : Value} {A : Around} {outer : List Env} {s : Shared} {H : Hp} {E : XK} : ja (jl (CXE P w) P w K mg base N qual scope f cd A outer s H E) E := by
  rintro e s' ⟨σ, H', B, a, C, dc, rfl, I, ar, c, _, q⟩
  have fr := ar.fr
  have hA : (jl (CXE P w) P w K mg base N qual scope f cd A outer s H E).A.frames = some (envOfC qual scope s.heap.objs.size f cd :: outer) := I.ok.frames
  refine wW hA rfl ar fun h' x g => ?_
  refine ⟨H', B, a, C, dc, rfl, I.os, I.bare, u0 (show Un (frs outer) [] H H' s.heap s'.heap from I.base) c x.stays g fun b hb o q vs z => ?_, I.hok.flew c.trk ar.stays x.stays, x, c, q⟩
  have : b ∈ (envOfC qual scope s.heap.objs.size f cd :: outer).filterMap (·.frame) := List.mem_cons_of_mem _ hb
  obtain ⟨_, o', q', n⟩ := (show s'.heap.FunFrames B (envOfC qual scope s.heap.objs.size f cd :: outer) from fr).mem this
  rw [q] at q'; cases q'; exact n vs z
end
theorem l9 {X : Cx} {E : XK} (p : Plain X) (fl : ja X E) : Passes (CXE X.prog X.w) X E := by
  rintro pins σ H s e s' I ⟨H', B, a, C, dc, rfl, os, bare, un, hok, x, c, q⟩
  refine fl _ _ ⟨σ, H', B, a, C, dc, rfl, (I.o9 os un hok bare fun b z => absurd z (by simp)).drop, .inr x, ⟨c.trk, fun b o e n hb => ?_⟩, fun p' hp => ?_, q⟩
  rotate_left
  · obtain ⟨q1, q2, q3, q4, q5⟩ := I.pin p' (List.mem_append_left _ hp)
    refine c.old _ _ q1 q2 fun z => ?_
    rcases List.mem_cons.mp (I.fY _ z) with z | z
    · exact q3 z
    · exact q4 z
  have hx : b ∉ X.ex := by rw [p.ex]; simp
  refine c.old b o (I.base.keep b o e n hb hx) (I.base.free b o e n hx) fun z => ?_
  rcases List.mem_cons.mp (I.fY b z) with rfl | z
  · exact absurd (Heap.lt_size e) (Nat.not_lt_of_le I.ok.above)
  · exact hb z
theorem xt {X : Cx} {E : XK} {pins : List (Addr × Obj)} {σ : St} {H : Hp} {s : Shared} {a : Addr} {h' : Heap} {C : Value} {dc : Option Addr} {oe : Obj} {ws : Array Value} {t' : Nat} (p : Plain X) (fl : ja X E) (I : Inv X pins σ H s) (k : ∀ b o, s.heap.get? b = some o -> h'.get? b = some o)
    (nw : s.heap.get? a = none) (q1 : h'.get? a = some oe) (q2 : oe.cls = C) (q3 : oe.dict = dc) (q4 : oe.data = .fields ws) (q5 : ws[1]? = some .none) (q : E C dc H) : X.xe (.ref a) { s with heap := h', toks := t' } := by
  have fr := I.stack
  have nfr : ∀ b, b ∈ frs X.stack -> H b = none := I.lJ
  refine fl _ _ ⟨σ, H, PySem.W.hideAll s.heap (frs X.stack), a, C, dc, rfl, (I.kept k).drop, .inl ⟨fun b o z => k b o (PySem.W.of_hideAll _ z), ?_, ?_, oe, ws, q1, q2, q3, q4, q5⟩, ⟨fun b o z => ?_, fun b o e n hb => ?_⟩, fun p' hp => ?_, q⟩
  rotate_right
  · obtain ⟨q1, q2, q3, q4, q5⟩ := I.pin p' (List.mem_append_left _ hp)
    refine PySem.W.hideAll_get _ q1 fun z => ?_
    rcases List.mem_cons.mp (I.fY _ z) with z | z
    · exact q3 z
    · exact q4 z
  · cases z : (PySem.W.hideAll s.heap (frs X.stack)).get? a with
    | none => rfl
    | some o => have := PySem.W.of_hideAll _ z; rw [nw] at this; cases this
  · exact (PySem.W.funFrames_hide fr fun env he b hb => List.mem_filterMap.mpr ⟨env, he, hb⟩).of_keeps fun b o z _ => ⟨o, k b o z, rfl⟩
  · obtain ⟨u, hu⟩ := Du (I.hok b o z)
    exact ⟨u, PySem.W.hideAll_get _ hu fun hm => by rw [nfr b hm] at z; cases z⟩
  · have hx : b ∉ X.ex := by rw [p.ex]; simp
    refine PySem.W.hideAll_get _ (I.base.keep b o e n hb hx) fun z => ?_
    rcases List.mem_cons.mp (I.fY b z) with rfl | z
    · exact absurd (Heap.lt_size e) (Nat.not_lt_of_le I.ok.above)
    · exact hb z
noncomputable abbrev bmV : List Value := [.type "ValueError", .type "Exception", .type "BaseException", .type "object"]
theorem AZ {K : PySem.W.Frag} {h : Heap} {C : Addr} {bmB : List Value} {newId : String} (X : K.In h) (q : PySem.W.excIn K C bmB newId = true) :
    ∃ bm N nm q' bs hdct sn sub ab col dd k0 k1 k2 k3 k5 mN, h.get? C = some (excClassObj nm q' C N bs bm hdct sn sub ab col dd k0 k1 k2 k3 k5 newId) /\ h.Ns N mN /\ mN "__init__" = none /\ OwnTail h bmB bm := by
  unfold PySem.W.excIn at q
  split at q
  · rename_i dd cd sl ho
    split at q
    · rename_i C' bm k0 k1 k2 k3 n k5 hm hs
      simp only [Bool.and_eq_true, beq_iff_eq, Bool.not_eq_true'] at q
      obtain ⟨⟨⟨⟨⟨rfl, rfl⟩, hdel⟩, ht⟩, hok⟩, hni⟩ := q
      obtain ⟨nm, bs, mro, ns, qn, hd, sn, sub, ab, col, del⟩ := cd
      dsimp only at hm hdel hok hni
      subst hm hdel
      obtain rfl : sl = #[k0, k1, k2, k3, some (.builtin n), k5] := by
        obtain ⟨l⟩ := sl
        simp only at hs
        rw [hs]
      exact ⟨bm, ns, nm, qn, bs, hd, sn, sub, ab, col, dd, k0, k1, k2, k3, k5, _, X _ _ ho, .of_isNs (PySem.W.isNs_of_in X hok), PySem.W.nsMap_none_of_in X hok hni, PySem.W.tail_of_in X ht⟩
    · cases q
  · cases q
theorem EJ {X : Cx} {E : XK} {pins : List (Addr × Obj)} {σ : St} {H : Hp} {s : Shared} {x : Str} {C : Addr} {np cpos pos : Pos} {Q : Flow -> Shared -> Prop} (p : Plain X) (fl : ja X E) (hc : X.calm = true) (I : Inv X pins σ H s) (hg : Gl X x) (hm : X.mg x = some (.ref C)) (hC : PySem.W.excIn X.K C bmV "ValueError.__new__" = true)
    (q : E (.ref C) none H) (hdb : (x == ("__debug__" : Str)) = false := by decide) : wpAny (model X.prog X.w) X.A (exec (.Raise (some (.Call (.Name x np) [] [] cpos)) none pos) X.env) Q X.xe s := by
  obtain ⟨tl, N, nm, q', bs, hdct, sn, sub, ab, col, dd, k0, k1, k2, k3, k5, mN, hC', hN, hni, T⟩ := AZ I.kIn hC
  refine wpAny_Raise_call_subT (C := C) (nm := nm) (q := q') (N := N) (bs := bs) (bm := tl) (hdct := hdct) (sn := sn) (sub := sub) (ab := ab) (col := col) (dd := dd) (k0 := k0) (k1 := k1) (k2 := k2) (k3 := k3) (k5 := k5) PySem.F.excBase_ValueError (mN := mN) (T.hasType PySem.F.excBase_ValueError.hasBase) (I.ok.hd hc) rfl hni (iU I hg hm ⟨rfl, ?_⟩ hdb)
  refine evalArgs_empty ⟨rfl, Nat.zero_le _, hC', hN, T, fun h' e me => ?_⟩
  obtain ⟨t, he, _, _⟩ := me.there
  exact xt p fl I me.keeps me.new he rfl rfl rfl rfl q
end L2
namespace L2.FE
open PySem PySem.Spec PyProof.Rows
noncomputable def εX (g : GG) (E : XK) : EE := fun _ H' x => ∀ (C : Addr) (dc : Option Addr), g x.cls = some C -> XFs H' dc x.fs -> E (.ref C) dc H'
noncomputable abbrev spE (K : PySem.W.Frag) (g : GG) (np : Nat) (m : MF) : Sp := spG K g (εX g) np m
noncomputable def i3 (P : Program) (w : World) (K : PySem.W.Frag) (mg : Str -> Option Value) (base : Heap) (g : GG) (x : Str) (k : Nat) (ps : List Str) (m : MF) : Prop :=
  ∃ f fd, dQ P w K mg base (CXE P w) k f fd ps (spE K g ps.length m) /\ PySem.W.keepIn K (.ref f) = true /\ Binds K fd ps [] /\ mg x = some (.ref f)
noncomputable def ue (x : Str) : MS := fun _ h => .err ⟨x, []⟩ h
noncomputable def noR {β : Type} : R β -> R β
  | .ok b h => .ok b h
  | _ => .bad
@[simp] theorem Ij {β : Type} (b : β) (h : Hh) : noR (.ok b h) = .ok b h := rfl
noncomputable def up {β : Type} (m : En -> Hh -> R β) : En -> Hh -> R β := fun env h => noR (m env h)
theorem mP {K : PySem.W.Frag} {g : GG} {ε : EE} {α : List Addr} {H : Hp} {β : Type} {r : R β} {k : β -> Hh -> Prop} (w : WQ K g ε α H (noR r) k) : WQ K g E00 α H r k := by
  cases r with
  | ok b h => exact w
  | err x h => exact w.elim
  | bad => exact w.elim
section
variable {P : Program} {w : World} {K : PySem.W.Frag} {mg : Str -> Option Value} {base : Heap} {g : GG}
theorem pk {x qual : Str} {st : Stmt} {f : Addr} {fd : FuncData} {N ps : List Str} {k : Nat} {mb : MS} (F : Fun K x qual st f fd) (S : aS N ps (ak st))
    (hb : ∀ (cdv : Value) (A : Around) (outer : List Env) (s : Shared) (H : Hp) (E : XK), dq k (A.deeper (envOfC qual (ak st) s.heap.objs.size f cdv)) →
      ja (jl (CXE P w) P w K mg base N qual (ak st) f cdv A outer s H E) E -> Plain (jl (CXE P w) P w K mg base N qual (ak st) f cdv A outer s H E) →
      PassesOwn (model P w) (A.deeper (envOfC qual (ak st) s.heap.objs.size f cdv)) (envOfC qual (ak st) s.heap.objs.size f cdv) (jl (CXE P w) P w K mg base N qual (ak st) f cdv A outer s H E).xe →
      PSs (jl (CXE P w) P w K mg base N qual (ak st) f cdv A outer s H E) (d_ st) (tMS K g (εX g E) mb)) : dQ P w K mg base (CXE P w) (k + 1) f fd ps (spE K g ps.length (cf N.length mb)) := by
  obtain ⟨oc, od, kV, doc, pm, an, cdv, ct, osl, rfl, lk, hcd⟩ := F.ex
  refine C1 lk hcd S (fun vs H Q E h => h.1) fun A outer s H vs Q E hr hsp => ⟨_, hb cdv A outer s H E hr wI ⟨rfl, rfl, rfl⟩ PassesOwn.leaving, ?_⟩
  obtain ⟨hl, α, ds, h, rs, hh, w⟩ := hsp
  refine tMS.use ⟨hh, kT rs⟩ w.bind fun fl h' H' α' e r kk => ?_
  cases fl with
  | nx e' => exact fun σ' s' => (show aE K g α H Q .non h' from kk) _ H' α' e r .non
  | bk e' => exact kk.elim
  | ct e' => exact kk.elim
  | rt d => exact fun v rv => (show aE K g α H Q d h' from kk) _ H' α' e r rv
end
section
variable {X : Cx} {g : GG} {E : XK} {ε : EE}
theorem BE {x : Str} {C : Addr} {np cpos pos : Pos} (fl : ja X E) (pl : Plain X) (hc : X.calm = true) (hg : Gl X x) (hm : X.mg x = some (.ref C)) (hgx : g x = some C) (hC : PySem.W.excIn X.K C bmV "ValueError.__new__" = true) (hdb : (x == ("__debug__" : Str)) = false := by decide) :
    PS X (.Raise (some (.Call (.Name x np) [] [] cpos)) none pos) (tMS X.K g (εX g E) (ue x)) := fun pins s σ H D I ⟨α, env, h, sr, w⟩ =>
  EJ pl fl hc I hg hm hC (w α H Ext.refl sr.heap C none hgx (.inl ⟨rfl, rfl⟩)) hdb
theorem iD {k : Nat} {f : Addr} {fd : FuncData} {ps : List Str} {m : MF} {np : Nat} {x : Str} {p pos : Pos} {e : Expr} {es : List Expr} {mr : MA} (fl : ja X E) (pl : Plain X) (F : dQ X.prog X.w X.K X.mg X.base (CXE X.prog X.w) k f fd ps (spE X.K g np m)) (hr : dq k X.A) (hg : Gl X x) (hm : X.mg x = some (.ref f)) (hk : PySem.W.keepIn X.K (.ref f) = true) (hb : Binds X.K fd ps [])
    (ha : PA X (e :: es) (tMA X.K g (εX g E) mr)) (hlen : ∀ env h ds h', mr env h = .ok ds h' -> ds.length = np) (hdb : (x == ("__debug__" : Str)) = false := by decide) (he : starEach (e :: es) X.env = (false, eval e X.env) :: starEach es X.env := by rfl) (hpl : (backTo pos (starEach es X.env)).any (·.1) = false := by rfl) :
    PE X (.Call (.Name x p) (e :: es) [] pos) (tM X.K g (εX g E) (ah m mr)) :=
  PE.imp (uC F hr hg hm hk hb .nil (l9 pl fl) ha hdb he hpl) fun σ H Q ⟨α, env, h, s, w⟩ => ⟨α, env, h, s, w.bind.mono fun d1 h1 eq w1 v1 H1 α1 e1 hr1 r1 => by
    show spE X.K g np m (v1 ++ []) H1 Q E
    rw [List.append_nil]
    refine ⟨?_, α1, d1, h1, r1, hr1, w1.post e1⟩
    rw [<- r1.length]
    exact hlen env h d1 h1 eq⟩
theorem _root_.L2.PS.nox {e : Stmt} {t : TS} (h : PS X.nox e t) : PS X e t := fun pins s σ H D I hw =>
  wpAny_mono (h pins s σ H D (I.kn _) hw) (fun _ _ q => q.fc) fun _ _ z => False.elim z
theorem l7 {e : Expr} {m : ME} (h : PE X.nox e (tM X.K g E00 m)) : PE X e (tM X.K g ε (up m)) := PE.imp h.nox fun σ H Q ⟨α, env, h, s, w⟩ => ⟨α, env, h, s, mP w⟩
theorem FZ {e : Expr} {m : MT} (h : PT X.nox e (tMT X.K g E00 m)) : PT X e (tMT X.K g ε (up m)) := PT.imp h.nox fun σ H Q ⟨α, env, h, s, w⟩ => ⟨α, env, h, s, mP w⟩
theorem oJ {e : Stmt} {m : MS} (h : PS X.nox e (tMS X.K g E00 m)) : PS X e (tMS X.K g ε (up m)) := PS.imp h.nox fun σ H Q ⟨α, env, h, s, w⟩ => ⟨α, env, h, s, mP w⟩
theorem sv {e : Expr} : PE X e (tM X.K g ε fun _ _ => .bad) := fun pins s σ H Q I ⟨α, env, h, sr, w⟩ => w.elim
end
end L2.FE
namespace L2
open PySem PySem.Spec PyProof.Rows
noncomputable abbrev unm (A : Around) : Around := { A with handled := none }
section
variable {X : Cx} {pins : List (Addr × Obj)} {σ : St} {H : Hp} {s : Shared}
noncomputable abbrev Cx.hand (X : Cx) (A : Around) (pn : List (Addr × Obj)) (E : Value -> Shared -> Prop) : Cx := { X with A := A, calm := false, pn := pn, xe := E }
theorem Inv.hand (I : Inv X pins σ H s) {A : Around} (hA : A.frames = X.A.frames) {pn pins' : List (Addr × Obj)} (hp : ∀ p ∈ pn ++ pins', p ∈ X.pn ++ pins) (E : Value -> Shared -> Prop) : Inv (X.hand A pn E) pins' σ H s :=
  ⟨⟨I.ok.mod, I.ok.kind, I.ok.glob, I.ok.blt, I.ok.above, I.ok.inj, I.ok.has, I.ok.cab, fun z => (nomatch z), hA.trans I.ok.frames, I.ok.stk, I.ok.exf, I.ok.bs, I.ok.bsz, I.ok.oH, I.ok.sW, I.ok.iZ, I.ok.frf⟩, I.os, I.bare, I.base, I.loc, I.cell, I.free, I.dC, fun p h => I.pin p (hp p h), I.hok, I.len⟩
noncomputable abbrev Cx.wpn (X : Cx) (pn : List (Addr × Obj)) (E : Value -> Shared -> Prop) : Cx := { X with pn := pn, xe := E }
theorem Inv.wpn (I : Inv X pins σ H s) {pn pins' : List (Addr × Obj)} (hp : ∀ p ∈ pn ++ pins', p ∈ X.pn ++ pins) (E : Value -> Shared -> Prop) : Inv (X.wpn pn E) pins' σ H s :=
  ⟨⟨I.ok.mod, I.ok.kind, I.ok.glob, I.ok.blt, I.ok.above, I.ok.inj, I.ok.has, I.ok.cab, I.ok.hd, I.ok.frames, I.ok.stk, I.ok.exf, I.ok.bs, I.ok.bsz, I.ok.oH, I.ok.sW, I.ok.iZ, I.ok.frf⟩, I.os, I.bare, I.base, I.loc, I.cell, I.free, I.dC, fun p h => I.pin p (hp p h), I.hok, I.len⟩
theorem Inv.back {A : Around} {pn pins' : List (Addr × Obj)} {E : Value -> Shared -> Prop} (J : Inv (X.hand A pn E) pins' σ H s) (ok : X.Ok) (hp : ∀ p ∈ X.pn ++ pins, p ∈ pn ++ pins') : Inv X pins σ H s :=
  ⟨ok, J.os, J.bare, J.base, J.loc, J.cell, J.free, J.dC, fun p h => J.pin p (hp p h), J.hok, J.len⟩
theorem Inv.adopt {B : Heap} {a : Addr} {oe : Obj} {ws : Array Value} (I : Inv X [] σ H s) (p : Plain X) (c : Cov B X.fs X.aC X.ay.heap H) (pn : ∀ p ∈ X.pn, B.get? p.1 = some p.2) (fr : s.heap.FunFrames B X.stack) (nw : B.get? a = none) (q1 : s.heap.get? a = some oe) (q4 : oe.data = .fields ws) :
    H a = none /\ Inv X [] σ (upd H a (FE.AtO a oe)) s := by
  have hn : H a = none := by
    cases z : H a with
    | none => rfl
    | some o => obtain ⟨u, hu⟩ := c.trk a o z; rw [nw] at hu; cases hu
  have nfr : ∀ b ∈ X.env.locals :: X.fs, b ≠ a := by
    rintro b hb rfl
    have : b ∈ X.stack.filterMap (·.frame) := by
      rw [p.stk.1, List.filterMap_cons, p.stk.2]
      exact hb
    obtain ⟨_, o', q', n⟩ := fr.mem this
    rw [q1] at q'; cases q'; exact n ws q4
  refine ⟨hn, I.ok, I.os, I.bare, ?_, I.loc, I.cell, ?_, fun x c' e => ?_, fun q hq => ?_, fun b o e => ?_, I.len⟩
  · obtain ⟨u1, u2, u3, u4, u5, u6, u7⟩ := I.base
    refine ⟨u1, u2, fun b o e n hx => ?_, u4, fun b xs q => ?_, fun b o u q => ?_, fun b ps q => ?_⟩
    · rw [aA ?_]; exact u3 b o e n hx
      rintro rfl
      by_cases hb : b ∈ X.fs
      · exact nfr b (List.mem_cons_of_mem _ hb) rfl
      · have := c.old b o e n hb
        rw [nw] at this; cases this
    · have := u5 b xs q
      rw [aA (aQ this hn)]; exact this
    · have := u6 b o u q
      rw [aA (aQ this hn)]; exact this
    · obtain ⟨more, this⟩ := u7 b ps q
      exact ⟨more, by rw [aA (aQ this hn)]; exact this⟩
  · rw [aA (nfr _ List.mem_cons_self)]; exact I.free
  · rw [aA ?_]; exact I.dC x c' e
    rintro rfl
    obtain ⟨v, o, ho, hd⟩ := I.cell x c' e
    rw [q1] at ho; cases ho; rw [q4] at hd; cases hd
  · have z := I.pin q hq
    refine ⟨z.1, ?_, z.2.2⟩
    rw [aA ?_]; exact z.2.1
    rintro e
    rw [List.append_nil] at hq
    have := pn q hq
    rw [e, nw] at this; cases this
  · by_cases hb : b = a
    · subst hb
      rw [aH] at e; cases e
      exact ⟨q1, q1, ⟨_, q1⟩, fun h1 h2 z k => k _ z⟩
    · rw [aA hb] at e
      exact (I.hok b o e).j1 (fun _ _ _ z => z) (fun c' z => by rw [aA (aQ z hn)]; exact z) fun c' xs z => by rw [aA (aQ z hn)]; exact z
theorem Inv.forget {i : Nat} {x : Str} {m m' : Str -> Option Value} {h' : Heap} {t' : Nat} (I : Inv X pins σ H s) (hN : X.N.Nodup) (hi : X.N[i]? = some x) (hn : s.heap.Ns X.env.locals m) (hn' : h'.Ns X.env.locals m') (hm : ∀ y, y ≠ x -> m' y = m y) (sb : Heap.SameBut X.env.locals s.heap h') : Inv X pins (σ.set i none) H { s with heap := h', toks := t' } := by
  have kp : ∀ b, b ≠ X.env.locals -> h'.get? b = s.heap.get? b := fun b n => sb.2 b n
  have cellK : ∀ y c v, X.env.cells.lookup y = some c -> s.heap.IsCell c v -> h'.IsCell c v := fun y c v e ⟨o, ho, hd⟩ => ⟨o, by rw [kp c (I.cne y c e)]; exact ho, hd⟩
  refine ⟨I.ok, I.os, I.bare, ?_, ⟨m', hn', fun j y v a b c => ?_⟩, fun y c e => let ⟨v, q⟩ := I.cell y c e; ⟨v, cellK y c v e q⟩, I.free, I.dC, fun q hq => ?_, fun b o e => ?_, by rw [List.length_set]; exact I.len⟩
  · obtain ⟨u1, u2, u3, u4, u5, u6, u7⟩ := I.base
    have ne : ∀ b o, X.ay.heap.get? b = some o -> b ≠ X.env.locals := fun b o e => Nat.ne_of_lt (Nat.lt_of_lt_of_le (Heap.lt_size e) I.ok.above)
    exact ⟨fun b o e n h1 h2 => by rw [kp b (ne b o e)]; exact u1 b o e n h1 h2, fun b o e n h1 h2 => by rw [kp b (ne b o e)]; exact u2 b o e n h1 h2, u3, fun b o e h2 => by rw [kp b (ne b o e)]; exact u4 b o e h2, u5, u6, u7⟩
  · rw [List.getElem?_set] at b
    by_cases hj : i = j
    · rw [if_pos hj] at b
      split at b <;> cases b
    · rw [if_neg hj] at b
      obtain ⟨m0, hn0, k⟩ := I.loc
      obtain ⟨u, r, l⟩ := k j y v a b c
      have hy : y ≠ x := by
        rintro rfl
        exact hj ((List.getElem?_inj (List.getElem?_eq_some_iff.mp hi).1 hN).mp (hi.trans a.symm))
      have e0 : m0 = m := by
        obtain ⟨o1, es1, ep1, a1, a2, a3, a4⟩ := hn0
        obtain ⟨o2, es2, ep2, b1, b2, b3, b4⟩ := hn
        rw [a1] at b1; cases b1
        rw [a2] at b2; cases b2
        funext y; rw [<- a4, <- b4]
      subst e0
      refine ⟨u, r, l.imp (fun z => ⟨z.1, by rw [hm y hy]; exact z.2⟩) fun ⟨z, c', e, q⟩ => ⟨z, c', e, cellK y c' _ e q⟩⟩
  · have z := I.pin q hq
    exact ⟨by rw [kp _ z.2.2.1]; exact z.1, z.2⟩
  · exact (I.hok b o e).j1 (fun c' u hc q => by
      rw [kp c' ?_]; exact q
      rintro rfl
      rcases hc with rfl | hc
      · rw [I.free] at e; cases e
      · rw [I.free] at hc; cases hc) (fun _ q => q) fun _ _ q => q
end
structure FnH (P : Program) (w : World) (K : PySem.W.Frag) (mg : Str -> Option Value) (base : Heap) (k : Nat) (f : Addr) (fd : FuncData) (ps : List Str) (sp : Sp) : Prop where
  len : ∀ vs H Q E, sp vs H Q E -> vs.length = ps.length
  run : ∀ (A : Around) (outer : List Env) (s : Shared) (H : Hp) (args : Args) (us : List Value) (vs : List V) (Q : VK) (E : XK), dq k (unm A) -> yu P w K mg base A outer s H -> BindsTo s fd args (ps.zip us) -> Vals vs us -> sp vs H Q E →
    codeAny (model P w) A (.call (.ref f) args) (CR CX0 outer P w H s Q E) s
theorem FnH.mono {P : Program} {w : World} {K : PySem.W.Frag} {mg : Str -> Option Value} {base : Heap} {j k : Nat} {f : Addr} {fd : FuncData} {ps : List Str} {sp : Sp} (F : FnH P w K mg base j f fd ps sp) (h : j <= k) : FnH P w K mg base k f fd ps sp :=
  ⟨F.len, fun A outer s H args us vs Q E hr => F.run A outer s H args us vs Q E (hr.mono h)⟩
section
variable {P : Program} {w : World} {K : PySem.W.Frag} {mg : Str -> Option Value} {base : Heap}
noncomputable abbrev cxH (P : Program) (w : World) (K : PySem.W.Frag) (mg : Str -> Option Value) (base : Heap) (N : List Str) (qual : Str) (scope : Scope) (f : Addr) (cd : Value) (A : Around) (outer : List Env) (s : Shared) (H : Hp) (E : XK) : Cx :=
  (jl CX0 P w K mg base N qual scope f cd A outer s H E).hand (A.deeper (envOfC qual scope s.heap.objs.size f cd)) [] fun _ _ => False
theorem D9 {x qual : Str} {st : Stmt} {f : Addr} {fd : FuncData} {N ps : List Str} {k : Nat} {sp : Sp} (F : Fun K x qual st f fd) (S : aS N ps (ak st)) (len : ∀ vs H Q E, sp vs H Q E -> vs.length = ps.length)
    (hbody : ∀ (cdv : Value) (A : Around) (outer : List Env) (s : Shared) (H : Hp) (vs : List V) (Q : VK) (E : XK), dq k (unm (A.deeper (envOfC qual (ak st) s.heap.objs.size f cdv))) -> sp vs H Q E →
      ∃ t, PSs (cxH P w K mg base N qual (ak st) f cdv A outer s H E) (d_ st) t /\ t { nx := fun _ H' => Q .non H', rt := Q } (start N vs) H) : FnH P w K mg base (k + 1) f fd ps sp := by
  obtain ⟨oc, od, kV, doc, pm, an, cdv, ct, osl, rfl, lk, hcd⟩ := F.ex
  refine ⟨len, fun A outer s H args us vs Q E hr e0 hb r hsp => ?_⟩
  have hl := len _ _ _ _ hsp
  have KX : K.In s.heap := e0.mod.kin.keeps fun b o e => (e0.bs b o e).1
  have lim : s.heap.NoLimit := e0.mod.nolimit.keeps fun b o e => (e0.bs b o e).1
  have hkind : ∀ y ∈ ps.zip us, (ak st).names.lookup y.1 = some .local \/ ((ak st).names.lookup y.1 = some .cell /\ ((cellsFrom (s.heap.objs.size + 1) (ak st).names []).lookup y.1).isSome = true) := fun ⟨n, v⟩ hy => by
    rcases S.par n (List.of_mem_zip hy).1 with q | q
    · exact .inl q
    · exact .inr ⟨q, PySem.W.cellsFrom_some _ _ _ (.inl q)⟩
  have hdp : A.depth < recursionLimit := dq.depth (A := unm A) hr
  refine codeAny_call_function hdp (KX _ _ lk) rfl S.co S.gen rfl (PySem.W.codeRec_of KX hcd) (hb _ _ _ _ ?_)
  refine wpAny_newFunctionEnv_cells S.kind hkind fun env he s1 x => ?_
  subst he
  refine ⟨lim.keeps x.toInCall.keep, codeAny_func ?_⟩
  obtain ⟨t, ht, hq⟩ := hbody cdv A outer s H vs Q E (hr.deeper _) hsp
  have I0 : Inv (jl CX0 P w K mg base N qual (ak st) f cdv (unm A) outer s H E) [] (start N vs) H s1 := pf S rfl ⟨e0.frames, e0.mod, e0.bs, e0.bsz, e0.iZ, e0.frf, e0.hok, e0.bare⟩ hl r x
  have I : Inv (cxH P w K mg base N qual (ak st) f cdv A outer s H E) [] (start N vs) H s1 :=
    ⟨⟨I0.ok.mod, I0.ok.kind, I0.ok.glob, I0.ok.blt, I0.ok.above, I0.ok.inj, I0.ok.has, I0.ok.cab, fun z => (nomatch z), Around.frames_deeper e0.frames, I0.ok.stk, I0.ok.exf, I0.ok.bs, I0.ok.bsz, I0.ok.oH, I0.ok.sW, I0.ok.iZ, I0.ok.frf⟩, I0.os, I0.bare, I0.base, I0.loc, I0.cell, I0.free, I0.dC, I0.pin, I0.hok, I0.len⟩
  refine wpAny_mono (ht [] s1 (start N vs) H _ I hq) (fun fl s' hs => ?_) fun e s' hs => hs.elim
  have fin : ∀ {σ' : St} {H' : Hp} {v : V} {u : Value}, Inv (cxH P w K mg base N qual (ak st) f cdv A outer s H E) [] σ' H' s' -> RelV v u -> Q v H' -> CE outer P w H s Q u s' :=
    fun {σ' H' v u} J rv q => ⟨v, H', J.os, J.bare, J.base, J.hok, rv, q⟩
  cases fl with
  | ret u =>
    obtain ⟨v, σ', H', J, rv, q⟩ := hs
    exact fin J rv q
  | next =>
    obtain ⟨σ', H', J, q⟩ := hs
    exact fin (v := V.non) (u := Value.none) J rfl q
  | brk =>
    obtain ⟨_, _, _, q⟩ := hs
    exact q.elim
  | cont =>
    obtain ⟨_, _, _, q⟩ := hs
    exact q.elim
end
section
variable {X : Cx} {k : Nat} {f : Addr} {fd : FuncData} {ps : List Str} {sp : Sp} {x : Str} {p pos : Pos} {e : Expr} {es : List Expr} {t : TA}
theorem rW (F : FnH X.prog X.w X.K X.mg X.base k f fd ps sp) (hr : dq k (unm X.A)) (hg : Gl X x) (hm : X.mg x = some (.ref f)) (hk : PySem.W.keepIn X.K (.ref f) = true) (hb : Binds X.K fd ps [])
    (ha : PA X (e :: es) t) (hdb : (x == ("__debug__" : Str)) = false := by decide) (he : starEach (e :: es) X.env = (false, eval e X.env) :: starEach es X.env := by rfl) (hpl : (backTo pos (starEach es X.env)).any (·.1) = false := by rfl) :
    PE X (.Call (.Name x p) (e :: es) [] pos) (CQ sp [] E0 t) := by
  intro pins s σ H Q I h
  refine wpAny_Call_Name_kw (iU I hg hm ?_ hdb)
  refine PySem.W.callWith_K (h₀ := X.base) I.ok.mod.kin hk (thn (ha pos pins s σ H _ I h) fun us s1 ⟨vs, H1, I1, r, q⟩ => ⟨I1.kIn, ?_⟩) he hpl
  replace q : sp vs H1 Q E0 := by simpa using q
  have hl : us.length = ps.length := by rw [<- r.length]; exact F.len _ _ _ _ q
  have hbb := hb s1 us I1.kIn (by rw [List.append_nil]; exact hl)
  rw [List.append_nil] at hbb
  refine wpAny_call (codeAny_mono (F.run X.A X.stack s1 H1 ⟨us, []⟩ us vs Q E0 hr I1.Gp hbb r q) fun r s' hq => ?_)
  cases r with
  | error e => exact hq.elim
  | ok fl =>
    cases fl with
    | ret u => exact I1.after hq
    | next => exact hq.elim
    | brk => exact hq.elim
    | cont => exact hq.elim
end
end L2
namespace L2
open PySem PySem.Spec PyProof.Rows PySem.W
theorem xq : plainId "BaseException.__getattribute__" = true := by decide +kernel
theorem yh : builtinKind "BaseException.__getattribute__" = some .slot := by decide +kernel
theorem wj : splitId "BaseException.__getattribute__" = some ("BaseException", "__getattribute__") := by decide +kernel
theorem xP (v : Value) : bindSpecial (.builtin "BaseException.__getattribute__") v = pure (.builtin "BaseException.__getattribute__", [v]) := F.excAttr_ValueError.ga.bind v
section
variable {prog : Program} {w : World} {A : Around} {E : Value -> Shared -> Prop} {s : Shared} {K : Frag} {x D : Addr} {ox : Obj} {odo : Option Obj} {name : Str}
theorem Ct {g0 a0 : Value} {tk : Tok} {Q : Fin -> Shared -> Prop} (X : K.In s.heap) (I : InstAt s.heap x ox D odo) (hf : findObj K D odo name = some (.bind g0 a0)) (h : wpAny (model prog w) A (call g0 [a0, .ref x, .ref D]) (fun v s' => Q (.done (.ret v)) s') E s) :
    wpAny (model prog w) A (Builtin.«object.__getattribute__» ⟨[.ref x, .str name tk], []⟩) Q E s := by
  obtain ⟨hh, gg, d, t, os⟩ := s
  have L0 := I.type (M := model prog w)
  have L1 := looks_find (M := model prog w) X I hf
  unfold Builtin.«object.__getattribute__»
  refine wpAny_bind (wpAny_pure (wpAny_bind (wpAny_pure (wpAny_bind (L0.at (wpAny_bind (L1.at ?_)))))))
  exact wpAny_bind (wpAny_holding (wpAny_mono h (fun v s' z => wpAny_pure z) fun _ _ z => z))
theorem AD {g0 a0 : Value} {tk : Tok} {R : Result -> Shared -> Prop} (X : K.In s.heap) (I : InstAt s.heap x ox D odo) (hsub : mroIn K D (.type "BaseException") = some true) (hf : findObj K D odo name = some (.bind g0 a0))
    (h : wpAny (model prog w) A.in1 (call g0 [a0, .ref x, .ref D]) (fun v s' => R (.ok (.ret v)) s') (fun e s' => R (.error e) s') s) :
    codeAny (model prog w) A (.call (.builtin "BaseException.__getattribute__") ⟨[.ref x, .str name tk], []⟩) R s := by
  have L0 := I.type (M := model prog w)
  have L3 : Looks (model prog w) s.heap (isInstance (.ref x) (.type "BaseException")) true := L0.andThen (looks_mroIn X hsub)
  refine codeAny_call_builtin xq F.entry_bexc_ga ?_
  refine check_slot (i := "BaseException.__getattribute__") yh wj L3 (F.args_bexc_ga (.ref x) (.str name tk)) ?_
  exact Ct X I hf h
theorem Ai {g0 a0 v0 : Value} {Q : Option Value -> Shared -> Prop} (X : K.In s.heap) (I : InstAt s.heap x ox D odo) (hga : findIn K (.ref D) "__getattribute__" = some (some (.builtin "BaseException.__getattribute__"))) (hhk : findIn K (.ref D) "__getattr__" = some none) (hsub : mroIn K D (.type "BaseException") = some true)
    (hf : findObj K D odo name = some (.bind g0 a0)) (hv : handedIn v0 = true)
    (h : ∀ (A : Around) (E : Value -> Shared -> Prop) (Q' : Value -> Shared -> Prop), Q' v0 { s with toks := s.toks + 1 } -> wpAny (model prog w) A (call g0 [a0, .ref x, .ref D]) Q' E { s with toks := s.toks + 1 })
    (q : Q (some v0) { s with toks := s.toks + 1 }) : wpAny (model prog w) A (getAttr? (.ref x) name) Q E s := by
  obtain ⟨hh, gg, d, t, os⟩ := s
  have L0 := I.type (M := model prog w)
  have L1 := looks_findIn (M := model prog w) X hga
  have L2 := looks_findIn (M := model prog w) X hhk
  have L3 : Looks (model prog w) hh (isInstance (.ref x) (.type "BaseException")) true := L0.andThen (looks_mroIn X hsub)
  unfold getAttr? getAttrBy? getAttrBy
  refine wpAny_bind (wpAny_mkText (wpAny_bind (wpAny_attempt (wpAny_holding (wpAny_bind (L0.at (wpAny_bind (L1.at ?_))))))))
  dsimp only
  rw [if_neg (show ¬ ((onTheHeap (Value.ref D) && (Value.builtin "BaseException.__getattribute__" == Value.builtin "object.__getattribute__")) = true) from by rw [show (Value.builtin "BaseException.__getattribute__" == Value.builtin "object.__getattribute__") = false from by decide +kernel, Bool.and_false]; decide)]
  unfold getAttrByItsOwn hookBefore
  rw [if_pos (show onTheHeap (.ref D) = true from rfl)]
  refine wpAny_bind (L2.at (wpAny_bind (wpAny_attempt (wpAny_holding ?_))))
  unfold callGetattribute
  rw [if_neg (show ¬ ((false && _) = true) from by simp)]
  unfold boundAndCalled
  rw [xP]
  refine wpAny_bind (wpAny_pure ?_)
  show wpAny (model prog w) A (call (.builtin "BaseException.__getattribute__") [.ref x, .str name t]) _ _ _
  refine wpAny_call (AD (s := ⟨hh, gg, d, t + 1, os⟩) X I hsub hf (h _ _ _ ?_))
  exact handed_on hv (wpAny_pure q)
end
theorem Az {K : Frag} {x D : Addr} {ox : Obj} {odo : Option Obj} (hga : findIn K (.ref D) "__getattribute__" = some (some (.builtin "BaseException.__getattribute__"))) (hhk : findIn K (.ref D) "__getattr__" = some none) (hsub : mroIn K D (.type "BaseException") = some true) (hdct : hasDictIn K D = true) (ha : findIn K (.ref D) "__class__" = some (some (.builtin "object.__class__")))
    (hn : specialIn K (.builtin "object.__class__") "__get__" = some (some (.builtin "getset_descriptor.__get__"))) (htk : takesIn K (.builtin "object.__class__") = some true) (hm : mroIn K D (.type "object") = some true) :
    KitX K (.ref x) (.ref D) (fun h => InstAt h x ox D odo) := by
  obtain ⟨cdD, hcD, _⟩ := any_some hdct
  have hlk : ∃ c' d' cd' sl', K.lookup D = some ⟨c', d', .cls cd', sl'⟩ := by
    unfold clsIn at hcD
    split at hcD
    · exact ⟨_, _, _, _, by assumption⟩
    · cases hcD
  obtain ⟨c', d', cd', sl', ho⟩ := hlk
  refine ⟨fun _ _ _ I => I.type, fun _ _ X _ => ?_, fun h tp dd its n sl X htp => ?_, fun {prog w A E Q s} X I k => ?_⟩
  · intro A' Q' E' s' k q
    unfold isType loadHead
    exact wpAny_bind (wpAny_loadPart (k _ _ (X _ _ ho)) (wpAny_pure q))
  · refine Bool.eq_false_iff.mpr fun q => ?_
    have e : D = tp := Value.ref.inj (beq_iff_eq.mp q)
    subst e
    have z := (X _ _ ho).symm.trans htp
    cases z
  · have hf : findObj K D odo "__class__" = some (.bind (.builtin "getset_descriptor.__get__") (.builtin "object.__class__")) := by
      unfold findObj
      rw [hcD, Option.bind_some, ha, Option.bind_some]
      simp [hn, htk]
    exact Ai X I hga hhk hsub hf rfl (fun A E Q' q' => wpAny_call (class_get (s := { s with toks := s.toks + 1 }) (ox := ox) (od := odo) X I hm q')) k
noncomputable abbrev bQ : List Str := ["FallError", "NoOrder", "NoNumber", "NoSet", "NoRow", "NoLine", "NoText", "TooGreat"]
noncomputable def tG (c x : Str) : Bool := c == x || x == "FallError"
noncomputable def zK (c : Str) : Bool := !(c == "NoText" || c == "TooGreat")
noncomputable def t5 (K : Frag) (D : Addr) : Bool := findIn K (.ref D) "__getattribute__" == some (some (.builtin "BaseException.__getattribute__")) && findIn K (.ref D) "__getattr__" == some none && mroIn K D (.type "BaseException") == some true && hasDictIn K D && findIn K (.ref D) "__class__" == some (some (.builtin "object.__class__")) && specialIn K (.builtin "object.__class__") "__get__" == some (some (.builtin "getset_descriptor.__get__")) && takesIn K (.builtin "object.__class__") == some true && mroIn K D (.type "object") == some true
noncomputable def C6 (K : Frag) (l : List (Str × Addr)) : Bool := l.all fun p => t5 K p.2 && kitOne K (.ref p.2) (.type "ValueError") == some true && (!zK p.1 || excIn K p.2 bmV "ValueError.__new__") && l.all fun q => kitOne K (.ref p.2) (.ref q.2) == some (tG p.1 q.1) && (!(q.1 == "FallError") || exmOne K (.ref p.2) (.ref q.2) == some true)
noncomputable def zU (K : Frag) : Prop := ∃ l : List (Str × Addr), l.map (·.1) = bQ /\ (∀ p ∈ l, nsIn K mainGlobals p.1 = some (some (.ref p.2))) /\ C6 K l = true
theorem EX {K : Frag} {a0 a1 a2 a3 a4 a5 a6 a7 : Addr} (e0 : nsIn K mainGlobals "FallError" = some (some (.ref a0))) (e1 : nsIn K mainGlobals "NoOrder" = some (some (.ref a1))) (e2 : nsIn K mainGlobals "NoNumber" = some (some (.ref a2))) (e3 : nsIn K mainGlobals "NoSet" = some (some (.ref a3)))
    (e4 : nsIn K mainGlobals "NoRow" = some (some (.ref a4))) (e5 : nsIn K mainGlobals "NoLine" = some (some (.ref a5))) (e6 : nsIn K mainGlobals "NoText" = some (some (.ref a6))) (e7 : nsIn K mainGlobals "TooGreat" = some (some (.ref a7)))
    (c : C6 K [("FallError", a0), ("NoOrder", a1), ("NoNumber", a2), ("NoSet", a3), ("NoRow", a4), ("NoLine", a5), ("NoText", a6), ("TooGreat", a7)] = true) : zU K :=
  ⟨_, rfl, by
    intro p hp
    simp only [List.mem_cons, List.not_mem_nil, or_false] at hp
    rcases hp with rfl | rfl | rfl | rfl | rfl | rfl | rfl | rfl <;> assumption, c⟩
structure oG (K : Frag) (mg : Str -> Option Value) : Prop where
  at_ : ∀ c ∈ bQ, ∃ C, mg c = some (.ref C)
  one : ∀ c ∈ bQ, ∀ C, mg c = some (.ref C) -> t5 K C = true /\ kitOne K (.ref C) (.type "ValueError") = some true /\ (zK c = true -> excIn K C bmV "ValueError.__new__" = true)
  two : ∀ c ∈ bQ, ∀ C, mg c = some (.ref C) -> ∀ x ∈ bQ, ∀ X, mg x = some (.ref X) -> kitOne K (.ref C) (.ref X) = some (tG c x)
  exm : ∀ c ∈ bQ, ∀ C, mg c = some (.ref C) -> ∀ X, mg "FallError" = some (.ref X) -> exmOne K (.ref C) (.ref X) = some true
theorem oG.of {K : Frag} {h : Heap} {mg : Str -> Option Value} (X : K.In h) (G : h.Ns mainGlobals mg) (k : zU K) : oG K mg := by
  obtain ⟨l, h1, h2, h3⟩ := k
  have mem : ∀ c ∈ bQ, ∀ C, mg c = some (.ref C) -> (c, C) ∈ l := fun c hc C e => by
    rw [<- h1] at hc
    obtain ⟨p, hp, rfl⟩ := List.mem_map.mp hc
    have := mg_of X G (h2 p hp)
    rw [e] at this; cases this
    exact hp
  have al := List.all_eq_true.mp h3
  refine ⟨fun c hc => ?_, fun c hc C e => ?_, fun c hc C e x hx D e' => ?_, fun c hc C e D e' => ?_⟩
  · rw [<- h1] at hc
    obtain ⟨p, hp, rfl⟩ := List.mem_map.mp hc
    exact ⟨_, mg_of X G (h2 p hp)⟩
  · have := al _ (mem c hc C e)
    simp only [Bool.and_eq_true, beq_iff_eq, Bool.or_eq_true, Bool.not_eq_true'] at this
    refine ⟨this.1.1.1, this.1.1.2, fun z => this.1.2.elim (fun y => ?_) fun y => y⟩
    rw [z] at y; cases y
  · have := al _ (mem c hc C e)
    simp only [Bool.and_eq_true] at this
    have := List.all_eq_true.mp this.2 _ (mem x hx D e')
    simp only [Bool.and_eq_true, beq_iff_eq] at this
    exact this.1
  · have := al _ (mem c hc C e)
    simp only [Bool.and_eq_true] at this
    have := List.all_eq_true.mp this.2 _ (mem "FallError" (by decide) D e')
    simp only [Bool.and_eq_true, beq_iff_eq, Bool.or_eq_true, Bool.not_eq_true'] at this
    rcases this.2 with z | z
    · exact absurd z (by decide)
    · exact z
theorem vV {P : Program} {w : World} {H : Hp} {h : Heap} {p C : Addr} {o : Obj} {fs : List (Str × Int)} (ok : HOk P w H h) (q : H p = some (FE.AtO p o)) (hc : o.cls = .ref C) (hd : ∃ vs, o.data = .fields vs) (xf : FE.XFs H o.dict fs) : ∃ odo, InstAt h p o C odo := by
  obtain ⟨q1, _⟩ := ok p _ q
  obtain ⟨vs, hd⟩ := hd
  have nc : notCls o = true := by unfold notCls; rw [hd]
  rcases xf with ⟨z, _⟩ | ⟨dx, od, z, q2⟩
  · exact ⟨none, q1, hc, nc, by rw [z]; trivial⟩
  · obtain ⟨q3, _⟩ := ok dx _ q2
    exact ⟨some od, q1, hc, nc, by rw [z]; exact q3⟩
end L2
namespace L2.FE
open PySem PySem.Spec PyProof.Rows
section
variable {X : Cx} {g : GG} {ε : EE} {K : PySem.W.Frag}
noncomputable def pX (x : Str) : D -> Hh -> R D := fun d h => match d with
  | .exc c _ => if (bQ.contains c && bQ.contains x) = true then .ok (.bl (tG c x)) h else .bad
  | _ => .bad
noncomputable def E9 : D -> Hh -> R D := fun d h => match d with
  | .exc c _ => if bQ.contains c = true then .ok (.bl true) h else .bad
  | _ => .bad
theorem jI {mg : Str -> Option Value} {x : Str} {f : Addr} (h : gOf mg x = some f) : mg x = some (.ref f) := by
  unfold gOf at h
  split at h
  · cases h; assumption
  · cases h
theorem rQ (hc : oG X.K X.mg) (hgo : g = gOf X.mg) : a_ X (.builtin "isinstance") (fun vs H Q => ∃ p D o c fs C b, vs = [.ref p, D] /\ g c = some C /\ H p = some (AtO p o) /\ o.cls = .ref C /\ (∃ us, o.data = .fields us) /\ XFs H o.dict fs /\ bQ.contains c = true /\ (∀ u, RelV D u -> PySem.W.kitOne X.K (.ref C) u = some b) /\ Q (.bl b) H) := by
  intro pins s σ H xs us Q I r h
  obtain ⟨p, D, o, c, fs, C, b, rfl, hg, hp, hcl, hd, xf, hcn, hk, q⟩ := h
  cases r with
  | @cons _ _ _ _ r1 r2 =>
    cases r2 with
    | @cons _ u _ _ r3 r4 =>
      cases r4
      cases r1
      obtain ⟨odo, ia⟩ := vV I.hok hp hcl hd xf
      subst hgo
      have hC := jI hg
      have k1 := (hc.one c (by simpa using hcn) C hC).1
      unfold t5 at k1
      simp only [Bool.and_eq_true, beq_iff_eq] at k1
      obtain ⟨⟨⟨⟨⟨⟨⟨a1, a1b⟩, a1c⟩, a2⟩, a3⟩, a4⟩, a5⟩, a6⟩ := k1
      refine PySem.W.kia_one (Az a1 a1b a1c a2 a3 a4 a5 a6) I.kIn ia (hk u r3) (by intro z; cases z) fun tk => ?_
      exact ⟨.bl b, H, I.kept (h' := s.heap) (t' := tk) fun _ _ z => z, rfl, q⟩
theorem EB {x : Str} {p : Pos} {C : Addr} (hg : Gl X x) (hm : X.mg x = some (.ref C)) (hd : (x == ("__debug__" : Str)) = false := by decide) : PE X (.Name x p) (tC (.ref C)) := fun pins s σ H Q I h => iU I hg hm ⟨.ref C, H, I, rfl, h⟩ hd
theorem jo {e : Expr} {me : ME} {x : Str} {p1 p2 pos : Pos} (hc : oG X.K X.mg) (hgo : g = gOf X.mg) (he : PE X e (tM X.K g ε me)) (hg : Gl X "isinstance") (hm : X.mg "isinstance" = none) (hg2 : Gl X x) (hx : x ∈ bQ) (hd : (x == ("__debug__" : Str)) = false := by decide)
    (hs1 : starEach [e, .Name x p2] X.env = (false, eval e X.env) :: starEach [.Name x p2] X.env := by rfl) (hs2 : starEach [.Name x p2] X.env = [(false, eval (.Name x p2) X.env)] := by rfl) (hpl : (backTo pos (starEach [.Name x p2] X.env)).any (·.1) = false := by rfl) :
    PE X (.Call (.Name "isinstance" p1) [e, .Name x p2] [] pos) (tM X.K g ε (cUn (pX x) me)) := by
  obtain ⟨C2, hC2⟩ := hc.at_ x hx
  refine PE.imp (jD (rQ hc hgo) hg hm PyProof.Rows.boot_isinstance (dH he (dH (EB hg2 hC2 hd) iz hs2) hs1) (by decide) (by decide) hs1 hpl) fun σ H Q ⟨α, env, h, s, w⟩ => tM.use s w.bind fun d1 h1 v1 H1 α1 e1 s1 r1 w1 => ?_
  unfold pX at w1
  cases r1 with
  | @exc c C p o fs hgc hp hcl hdd xf =>
    obtain ⟨hh, w1⟩ := WQ.dG w1
    rw [Bool.and_eq_true] at hh
    refine ⟨p, .ref C2, o, c, fs, C, _, rfl, hgc, hp, hcl, hdd, xf, hh.1, fun u ru => ?_, aE.now (aE.ext e1 w1) s1.heap (.bl _)⟩
    cases ru
    subst hgo
    exact hc.two c (by simpa using hh.1) C (jI hgc) x hx C2 hC2
  | _ => exact w1.elim
theorem EF {e : Expr} {me : ME} {p1 p2 pos : Pos} (hc : oG X.K X.mg) (hgo : g = gOf X.mg) (he : PE X e (tM X.K g ε me)) (hg : Gl X "isinstance") (hm : X.mg "isinstance" = none) (hg2 : Gl X "ValueError") (hm2 : X.mg "ValueError" = none)
    (hs1 : starEach [e, .Name "ValueError" p2] X.env = (false, eval e X.env) :: starEach [.Name "ValueError" p2] X.env := by rfl) (hs2 : starEach [.Name "ValueError" p2] X.env = [(false, eval (.Name "ValueError" p2) X.env)] := by rfl) (hpl : (backTo pos (starEach [.Name "ValueError" p2] X.env)).any (·.1) = false := by rfl) :
    PE X (.Call (.Name "isinstance" p1) [e, .Name "ValueError" p2] [] pos) (tM X.K g ε (cUn E9 me)) := by
  refine PE.imp (jD (rQ hc hgo) hg hm PyProof.Rows.boot_isinstance (dH he (dH (vH (v := .ty "ValueError") hg2 hm2 PyProof.Rows.Boot.«ValueError» rfl (by decide) (by decide)) iz hs2) hs1) (by decide) (by decide) hs1 hpl) fun σ H Q ⟨α, env, h, s, w⟩ => tM.use s w.bind fun d1 h1 v1 H1 α1 e1 s1 r1 w1 => ?_
  unfold E9 at w1
  cases r1 with
  | @exc c C p o fs hgc hp hcl hdd xf =>
    obtain ⟨hh, w1⟩ := WQ.dG w1
    refine ⟨p, .ty "ValueError", o, c, fs, C, _, rfl, hgc, hp, hcl, hdd, xf, hh, fun u ru => ?_, aE.now (aE.ext e1 w1) s1.heap (.bl _)⟩
    cases ru
    subst hgo
    exact (hc.one c (by simpa using hh) C (jI hgc)).2.1
  | _ => exact w1.elim
theorem sx {h : Heap} {l : Addr} {its : Array Value} (x : h.IsList l its) : ∃ dd n sl, h.get? l = some { cls := .type "list", dict := dd, data := .seq its n, slots := sl } := by
  obtain ⟨⟨c, d, da, sl⟩, h1, h2, n, h3⟩ := x
  dsimp only at h2 h3
  subst h2 h3
  exact ⟨_, _, _, h1⟩
noncomputable def eqB (b : Bool) : Value -> Bool
  | .bool c => c == b
  | _ => false
theorem nv : ∀ {bs : List Bool} {us : List Value}, Vals (bs.map V.bl) us -> us = bs.map Value.bool
  | [], _, .nil => rfl
  | b :: bs, _, .cons r t => by
    have e : _ = Value.bool b := r
    rw [e, nv t]; rfl
noncomputable def uO (K : PySem.W.Frag) : V -> List V -> Hp -> VK -> Prop := fun x vs H Q => ∃ (l : Addr) (bs : List Bool) (b : Bool), x = .ref l /\ vs = [.bl b] /\ SqL K H l (bs.map V.bl) /\ Q (.int (bs.countP (· == b) : Nat)) H
theorem wF : MtM X "list.count" (uO X.K) := by
  intro pins s σ H x vs v us Q I rx rv h
  obtain ⟨l, bs, b, rfl, rfl, hq, q⟩ := h
  cases rx
  obtain ⟨u, rfl, ru⟩ := rv.one
  have e0 : u = Value.bool b := ru
  subst e0
  obtain ⟨its, rs, pl, hz⟩ := I.list hq
  have ei := nv rs
  subst ei
  obtain ⟨dd, n, sl, ho⟩ := sx pl.isList
  refine call_meets F.slot_list_count ⟨_, ho, rfl⟩ F.entry_list_count (F.args_list_count_2 _ _) (SeqAt.list_countAt l _ n dd sl (.bool b) (eqB b)) ⟨ho, fun y hy => ?_, ?_⟩
  · obtain ⟨c, _, rfl⟩ := List.mem_map.mp (by simpa using hy : y ∈ bs.map Value.bool)
    exact SeqAt.EqAt.bool_bool c b
  · refine ⟨.int (bs.countP (· == b) : Nat), H, I.kept (h' := s.heap) (t' := s.toks + 1) fun _ _ z => z, ⟨s.toks, ?_⟩, q⟩
    rw [List.toList_toArray, List.countP_map]
    rfl
noncomputable def uU (K : PySem.W.Frag) : V -> List V -> Hp -> VK -> Prop := fun x vs H Q => ∃ (l : Addr) (bs : List Bool) (b : Bool) (j : Nat), x = .ref l /\ vs = [.bl b] /\ SqL K H l (bs.map V.bl) /\ bs.findIdx? (· == b) = some j /\ bs.length < 1000000 /\ Q (.int (j : Nat)) H
theorem wN : MtM X "list.index" (uU X.K) := by
  intro pins s σ H x vs v us Q I rx rv h
  obtain ⟨l, bs, b, j, rfl, rfl, hq, hj, hlen, q⟩ := h
  cases rx
  obtain ⟨u, rfl, ru⟩ := rv.one
  have e0 : u = Value.bool b := ru
  subst e0
  obtain ⟨its, rs, pl, hz⟩ := I.list hq
  have ei := nv rs
  subst ei
  obtain ⟨dd, n, sl, ho⟩ := sx pl.isList
  obtain ⟨hlt, hit, hno⟩ := List.findIdx?_eq_some_iff_getElem.mp hj
  refine call_meets F.slot_list_index ⟨_, ho, rfl⟩ F.entry_list_index (F.args_list_index_2 _ _) (SeqAt.list_indexAt l _ n dd sl (.bool b) (eqB b) j (by simpa using hlt) (by omega) ?_ ?_) ⟨ho, fun y hy => ?_, ?_⟩
  · simpa [eqB] using hit
  · intro m hm h2
    have := hno m h2
    simpa [eqB] using this
  · obtain ⟨c, _, rfl⟩ := List.mem_map.mp (by simpa using hy : y ∈ bs.map Value.bool)
    exact SeqAt.EqAt.bool_bool c b
  · exact ⟨.int (j : Nat), H, I.kept (h' := s.heap) (t' := s.toks + 1) fun _ _ z => z, ⟨s.toks, rfl⟩, q⟩
noncomputable def qp : D -> List D -> Hh -> R D := fun o ds h => match o, ds with
  | .frl xs, [.bl b] => match k8 xs with
    | some bs => .ok (.int (bs.countP (· == b) : Nat)) h
    | none => .bad
  | _, _ => .bad
noncomputable def qS : D -> List D -> Hh -> R D := fun o ds h => match o, ds with
  | .frl xs, [.bl b] => match k8 xs with
    | some bs => match bs.findIdx? (· == b) with
      | some j => if bs.length < 1000000 then .ok (.int (j : Nat)) h else .bad
      | none => .bad
    | none => .bad
  | _, _ => .bad
theorem wx : tR K g ε qp (uO K) := by
  intro α H h o a y x Q r ro ra w
  unfold qp at w
  cases ro with
  | @frl ds p vs hq rs =>
    cases ra with
    | nil => exact w.elim
    | cons rd rr =>
      cases rr with
      | cons _ _ => cases rd <;> exact w.elim
      | nil =>
        cases rd with
        | bl b =>
          simp only at w
          cases e2 : k8 ds with
          | none => rw [e2] at w; exact w.elim
          | some bs =>
            rw [e2] at w
            have e3 := js e2
            subst e3
            have e4 := rs.DP
            subst e4
            exact ⟨p, bs, b, rfl, rfl, hq.sq, aE.now w r (.int _)⟩
        | _ => exact w.elim
  | _ => exact w.elim
theorem vT : tR K g ε qS (uU K) := by
  intro α H h o a y x Q r ro ra w
  unfold qS at w
  cases ro with
  | @frl ds p vs hq rs =>
    cases ra with
    | nil => exact w.elim
    | cons rd rr =>
      cases rr with
      | cons _ _ => cases rd <;> exact w.elim
      | nil =>
        cases rd with
        | bl b =>
          simp only at w
          cases e2 : k8 ds with
          | none => rw [e2] at w; exact w.elim
          | some bs =>
            rw [e2] at w
            simp only at w
            cases e5 : bs.findIdx? (· == b) with
            | none => rw [e5] at w; exact w.elim
            | some j =>
              rw [e5] at w
              obtain ⟨hl, w⟩ := WQ.dG w
              have e3 := js e2
              subst e3
              have e4 := rs.DP
              subst e4
              exact ⟨p, bs, b, j, rfl, rfl, hq.sq, e5, hl, aE.now w r (.int _)⟩
        | _ => exact w.elim
  | _ => exact w.elim
end
end L2.FE
namespace L2
open PySem PySem.Spec PyProof.Rows
theorem Inv.Gj {X : Cx} {pins pins' pn : List (Addr × Obj)} {σ : St} {H : Hp} {s : Shared} {E : Value -> Shared -> Prop} (J : Inv (X.wpn pn E) pins' σ H s) (hp : ∀ p ∈ X.pn ++ pins, p ∈ pn ++ pins') : Inv X pins σ H s :=
  ⟨⟨J.ok.mod, J.ok.kind, J.ok.glob, J.ok.blt, J.ok.above, J.ok.inj, J.ok.has, J.ok.cab, J.ok.hd, J.ok.frames, J.ok.stk, J.ok.exf, J.ok.bs, J.ok.bsz, J.ok.oH, J.ok.sW, J.ok.iZ, J.ok.frf⟩, J.os, J.bare, J.base, J.loc, J.cell, J.free, J.dC, fun p h => J.pin p (hp p h), J.hok, J.len⟩
end L2
namespace L2.FE
open PySem PySem.Spec PyProof.Rows
noncomputable def BW (P : Program) (w : World) (K : PySem.W.Frag) (mg : Str -> Option Value) (base : Heap) (g : GG) (x : Str) (k : Nat) (ps : List Str) (m : MF) : Prop :=
  ∃ f fd, FnH P w K mg base k f fd ps (spM K g ps.length m) /\ PySem.W.keepIn K (.ref f) = true /\ Binds K fd ps [] /\ mg x = some (.ref f)
section
variable {P : Program} {w : World} {K : PySem.W.Frag} {mg : Str -> Option Value} {base : Heap} {g : GG}
theorem Dh {x qual : Str} {st : Stmt} {f : Addr} {fd : FuncData} {N ps : List Str} {k : Nat} {mb : MS} (F : Fun K x qual st f fd) (S : aS N ps (ak st))
    (hb : ∀ (cdv : Value) (A : Around) (outer : List Env) (s : Shared) (H : Hp) (E : XK), dq k (unm (A.deeper (envOfC qual (ak st) s.heap.objs.size f cdv))) →
      PSs (cxH P w K mg base N qual (ak st) f cdv A outer s H E) (d_ st) (tMS K g E00 mb)) : FnH P w K mg base (k + 1) f fd ps (spM K g ps.length (cf N.length mb)) := by
  refine D9 F S (fun vs H Q E h => h.1) fun cdv A outer s H vs Q E hr h => ⟨_, hb cdv A outer s H E hr, ?_⟩
  obtain ⟨hl, α, ds, h, rs, hh, w⟩ := h
  refine tMS.use ⟨hh, kT rs⟩ w.bind fun fl h' H' α' e r kk => ?_
  cases fl with
  | nx e' => exact fun σ' s' => (show aE K g α H Q .non h' from kk) _ H' α' e r .non
  | bk e' => exact kk.elim
  | ct e' => exact kk.elim
  | rt d => exact fun v rv => (show aE K g α H Q d h' from kk) _ H' α' e r rv
end
section
variable {X : Cx} {g : GG} {ε : EE}
theorem zm {k : Nat} {f : Addr} {fd : FuncData} {ps : List Str} {m : MF} {np : Nat} {x : Str} {p pos : Pos} {e : Expr} {es : List Expr} {mr : MA} (F : FnH X.prog X.w X.K X.mg X.base k f fd ps (spM X.K g np m)) (hr : dq k (unm X.A)) (hg : Gl X x) (hm : X.mg x = some (.ref f)) (hk : PySem.W.keepIn X.K (.ref f) = true) (hb : Binds X.K fd ps [])
    (ha : PA X (e :: es) (tMA X.K g E00 mr)) (hlen : ∀ env h ds h', mr env h = .ok ds h' -> ds.length = np) (hdb : (x == ("__debug__" : Str)) = false := by decide) (he : starEach (e :: es) X.env = (false, eval e X.env) :: starEach es X.env := by rfl) (hpl : (backTo pos (starEach es X.env)).any (·.1) = false := by rfl) :
    PE X (.Call (.Name x p) (e :: es) [] pos) (tM X.K g E00 (ah m mr)) :=
  PE.imp (rW F hr hg hm hk hb ha hdb he hpl) fun σ H Q ⟨α, env, h, s, w⟩ => ⟨α, env, h, s, w.bind.mono fun d1 h1 eq w1 v1 H1 α1 e1 hr1 r1 => by
    show spM X.K g np m (v1 ++ []) H1 Q E0
    rw [List.append_nil]
    refine ⟨?_, α1, d1, h1, r1, hr1, w1.post e1⟩
    rw [<- r1.length]
    exact hlen env h d1 h1 eq⟩
noncomputable def qU (mb : MS) (mr : MF) : MS := fun env h => match mb env h with
  | .ok fl h' => .ok fl h'
  | .err x h' => if (bQ.contains x.cls && (h'.take h.length).all (nJ h.length)) = true then (noR (mr [.exc x.cls x.fs] (h'.take h.length))).bind fun d h2 => .ok (.rt d) h2 else .bad
  | .bad => .bad
theorem Fq {body : List Stmt} {mb : MS} {mr : MF} {k : Nat} {f : Addr} {fd : FuncData} {ps : List Str} {i : Nat} {n y : Str} {np p1 p2 cpos rpos hpos pos : Pos}
    (hcl : oG X.K X.mg) (hgo : g = gOf X.mg) (pl : Plain X) (hN : X.N.Nodup) (hi : X.N[i]? = some n) (hl : X.env.scope.names.lookup n = some .local) (hgF : Gl X "FallError") (hgR : Gl X y)
    (F : FnH X.prog X.w X.K X.mg X.base k f fd ps (spM X.K g 1 mr)) (hr : dq k (unm X.A)) (hm : X.mg y = some (.ref f)) (hk : PySem.W.keepIn X.K (.ref f) = true) (hb : Binds X.K fd ps [])
    (hbd : ∀ (pn : List (Addr × Obj)) (xe : Value -> Shared -> Prop) (E : XK), ja (X.wpn pn xe) E -> Plain (X.wpn pn xe) -> PassesOwn (model X.prog X.w) X.A X.env xe -> PSs (X.wpn pn xe) body (tMS X.K g (εX g E) mb))
    (hdn : (n == ("__debug__" : Str)) = false := by decide) (hdc : (n == ("__classdict__" : Str)) = false := by decide) (hdb : (y == ("__debug__" : Str)) = false := by decide)
    (hst : starEach [.Name n p2] X.env = (false, eval (.Name n p2) X.env) :: starEach [] X.env := by rfl) (hpl : (backTo cpos (starEach [] X.env)).any (·.1) = false := by rfl) :
    PS X (.Try body [.ExceptHandler (some (.Name "FallError" np)) (some n) [.Return (some (.Call (.Name y p1) [.Name n p2] [] cpos)) rpos] hpos] [] [] pos) (tMS X.K g ε (qU mb mr)) := by
  intro pins s σ H D I ⟨α, env, h, sr, w⟩
  obtain ⟨CF, hmF⟩ := hcl.at_ "FallError" (by decide)
  refine wpAny_Try_except ?_
  let K1 : Value -> Shared -> Prop := fun e s₁ => wpAny (model X.prog X.w) X.A (noteFrame e X.env) (fun _ s₂ => wpAny (model X.prog X.w) X.A (setFlight e none) (fun _ s₃ => wpAny (model X.prog X.w) X.A (handleBy e X.env [.ExceptHandler (some (.Name "FallError" np)) (some n) [.Return (some (.Call (.Name y p1) [.Name n p2] [] cpos)) rpos] hpos]) (SP X pins D) X.xe s₃) X.xe s₂) X.xe s₁
  let E1 : XK := fun C dc H' => ∃ α' x h', mb env h = .err x h' /\ Ext X.K α H α' H' /\ aN X.K g α' H' h' /\ (∃ C0, C = .ref C0 /\ g x.cls = some C0) /\ XFs H' dc x.fs
  have un : ∀ {σ : St} {H : Hp} {s : Shared}, Inv (X.wpn (X.pn ++ pins) K1) [] σ H s -> Inv X pins σ H s := fun J => J.Gj fun p hp => by simpa using hp
  have fl : ja (X.wpn (X.pn ++ pins) K1) E1 := by
    rintro e s1 ⟨σ1, H1, B, a, C, dc, rfl, J, ar, cv, pn, α', x, h', eq, ext, hr', ⟨C0, rfl, hgC⟩, xf⟩
    have ar' : Arr B (X.env :: X.outer) a (.ref C0) dc s1.heap := by rw [<- pl.stk.1]; exact ar
    have hA : X.A.frames = some (X.env :: X.outer) := by rw [<- pl.stk.1]; exact J.ok.frames
    have pl1 : Plain (X.wpn (X.pn ++ pins) K1) := ⟨pl.ex, pl.stk⟩
    unfold qU at w
    rw [eq] at w
    obtain ⟨low, w⟩ := WQ.dG w
    rw [Bool.and_eq_true] at low
    obtain ⟨hcn, low⟩ := low
    refine sj hA pl.stk.2 ar' fun h2 y2 g2 => qA y2 fun h3 y3 g3 => ?_
    have J3 : Inv (X.wpn (X.pn ++ pins) K1) [] σ1 H1 { s1 with heap := h3 } := J.flew (t' := s1.toks) pl1 cv pn ar.stays ar.fr y3.stays (g2.trans g3)
    refine wpAny_handleBy_cons (codeAny_handlers_test ?_) (by intro q; cases q)
    have J3h : Inv ((X.wpn (X.pn ++ pins) K1).hand (X.A.mark (some (.ref a))) (X.pn ++ pins) fun _ _ => False) [] σ1 H1 { s1 with heap := h3 } := Inv.hand (A := X.A.mark (some (.ref a))) (pn := X.pn ++ pins) J3 rfl (fun p hp => hp) _
    refine iU J3h hgF hmF ?_
    obtain ⟨ob, ws0, hob, hoc, _, _⟩ := y3.there
    have LT : PySem.W.Looks (model X.prog X.w) h3 (typeOf (.ref a)) (.ref C0) := hoc ▸ (PySem.W.Looks.ld hob).andThen .now
    have hx : PySem.W.exmOne X.K (.ref C0) (.ref CF) = some true := by
      subst hgo
      exact hcl.exm x.cls (by simpa using hcn) C0 (jI hgC) CF hmF
    refine (PySem.W.exm_one J3.kIn LT hx).here ?_
    refine codeAny_handlers_suite_as ?_
    refine qA y3 fun h4 y4 g4 => ?_
    have J4 : Inv (X.wpn (X.pn ++ pins) K1) [] σ1 H1 { s1 with heap := h4 } := J.flew (t' := s1.toks) pl1 cv pn ar.stays ar.fr y4.stays (g2.trans (g3.trans g4))
    obtain ⟨oe, ws, q1, q2, q3, q4⟩ := y4.there
    have fr4 : h4.FunFrames B X.stack := by rw [pl.stk.1]; exact y4.fr
    obtain ⟨hn, J5⟩ := J4.adopt pl1 cv pn fr4 y4.new q1 q4
    refine iJ (X := X.wpn (X.pn ++ pins) K1) J5 hN hi (.inl hl) (v := .ref a) (u := .ref a) rfl (fun s6 J6 => ?_) (.inr hl)
    have J7 : Inv ((X.wpn (X.pn ++ pins) K1).hand (X.A.mark (some (.ref a))) (X.pn ++ pins) fun _ _ => False) [] (σ1.set i (some (.ref a))) (upd H1 a (AtO a oe)) s6 := Inv.hand (A := X.A.mark (some (.ref a))) (pn := X.pn ++ pins) J6 rfl (fun p hp => hp) _
    have T := uA (yr (pos := rpos) (rW (X := (X.wpn (X.pn ++ pins) K1).hand (X.A.mark (some (.ref a))) (X.pn ++ pins) fun _ _ => False) (p := p1) (pos := cpos) F hr hgR hm hk hb (dH (yw (pos := p2) hi (.inl hl) hdn hdc) iz hst) hdb hst hpl))
    have lenσ : i < σ1.length := by rw [J.len]; exact (List.getElem?_eq_some_iff.mp hi).1
    refine wpAny_mono (T [] s6 _ _ { nx := fun _ _ => False, rt := D.rt } J7 ⟨.ref a, by simp [lenσ], ?_⟩) (fun fl s7 q => ?_) fun _ _ z => z.elim
    · show spM X.K g 1 mr ([.ref a] ++ []) (upd H1 a (AtO a oe)) D.rt E0
      have k0 : α.length = h.length := sr.heap.len
      have fz : ∀ p o u, H1 p = some (.frz o u) -> upd H1 a (AtO a oe) p = some (.frz o u) := fun p o u z => by rw [aA (aQ z hn)]; exact z
      have Lw : oO X.K α α' H1 (upd H1 a (AtO a oe)) h.length := ⟨fun m hm => lM ext.pre (by omega), fun p xs z => by rw [aA (aQ z hn)]; exact z, fz⟩
      have kp : ∀ m p u, m < h.length -> α'[m]? = some p -> H1 p = some u -> upd H1 a (AtO a oe) p = some u := fun m p u _ _ z => by rw [aA (aQ z hn)]; exact z
      have ex2 : Ext X.K α H α (upd H1 a (AtO a oe)) := ⟨⟨List.prefix_refl _, fun p xs z => Lw.tup p xs (ext.tup p xs z), fun p o u z => fz p o u (ext.frz p o u z)⟩, fun p u z m => by
        have := ext.keep p u z m
        rw [aA (aQ this hn)]; exact this, fun _ z m => absurd z m⟩
      refine ⟨rfl, α, [.exc x.cls x.fs], h'.take h.length, .cons (.exc hgC aH q2 ⟨ws, q4⟩ ?_) .nil, ⟨?_, sr.heap.inj, fun m p ob h1 h2 => ?_⟩, ?_⟩
      · rw [q3]
        exact xf.elim .inl fun ⟨dx, od, z1, z2⟩ => .inr ⟨dx, od, z1, fz _ _ _ z2⟩
      · rw [List.length_take, <- hr'.len, k0]
        have := ext.pre.length_le
        omega
      · have hm : m < h.length := (mv h2).1
        rw [lM ext.pre (by omega)] at h1
        exact sQ k0 ext hr' low Lw kp m p ob hm h1 h2
      · refine ((mP w.bind).ext ex2).mono fun d h2 _ kk v H2 α2 e2 r2 rd => ?_
        exact (show cN X.K g α H D (.rt d) h2 from kk) H2 α2 (ex2.trans e2) r2 v rd
    · cases fl with
      | ret u =>
        obtain ⟨v, σ7, H7, J8, rv, q⟩ := q
        obtain ⟨m, hm7, _⟩ := J8.loc
        have J9 : Inv X pins σ7 H7 s7 := un (Inv.back (pins := []) J8 J.ok fun p hp => hp)
        refine wpAny_nameGoes_keeps hl hm7 (by rw [I.ok.kind]; rfl) fun h8 v8 hn8 sb => ?_
        exact ⟨v, σ7.set i none, H7, J9.forget hN hi hm7 hn8 (fun z hz => if_neg hz) sb, rv, q⟩
      | next => obtain ⟨_, _, _, q⟩ := q; exact q.elim
      | brk => obtain ⟨_, _, _, q⟩ := q; exact q.elim
      | cont => obtain ⟨_, _, _, q⟩ := q; exact q.elim
  have I1 : Inv (X.wpn (X.pn ++ pins) K1) [] σ H s := I.wpn (fun p hp => by simpa using hp) _
  refine wpAny_mono (hbd (X.pn ++ pins) K1 E1 fl ⟨pl.ex, pl.stk⟩ PassesOwn.looking [] s σ H D I1 ⟨α, env, h, sr, ?_⟩) (fun f s1 q => ?_) fun _ _ z => z
  · unfold qU at w
    cases eq : mb env h with
    | ok fl h' => rw [eq] at w; exact w
    | err x h' => exact fun α' H' e r C dc hg xf => ⟨α', x, h', eq, e, r, ⟨C, rfl, hg⟩, xf⟩
    | bad => rw [eq] at w; exact w.elim
  · cases f with
    | next => obtain ⟨σ', H', J, q⟩ := q; exact wpAny_execs_nil ⟨σ', H', un J, q⟩
    | brk => obtain ⟨σ', H', J, q⟩ := q; exact ⟨σ', H', un J, q⟩
    | cont => obtain ⟨σ', H', J, q⟩ := q; exact ⟨σ', H', un J, q⟩
    | ret u => obtain ⟨v, σ', H', J, r, q⟩ := q; exact ⟨v, σ', H', un J, r, q⟩
end
end L2.FE
namespace L2
open PySem PySem.Spec PyProof.Rows
theorem Aq {k : Nat} {A : Around} (h : dq k A) : dq k (unm A) := ⟨rfl, h.dp, h.un, h.gd⟩
end L2
namespace L2.FE
open PySem PySem.Spec PyProof.Rows
section
variable {X : Cx} {g : GG} {ε : EE} {K : PySem.W.Frag}
noncomputable def xE (P : Program) (w : World) (K : PySem.W.Frag) (mg : Str -> Option Value) (base : Heap) (g : GG) (k np : Nat) (tab : Str -> Option MF) : Prop :=
  ∀ x m, tab x = some m -> ∃ f fd ps, g x = some f /\ dQ P w K mg base (CXE P w) k f fd ps (spE K g np m) /\ PySem.W.keepIn K (.ref f) = true /\ Binds K fd ps []
theorem vO {E : XK} {k np : Nat} {tab : Str -> Option MF} {fe e : Expr} {es : List Expr} {pos : Pos} {mf : ME} {mr : MA} (fl : ja X E) (pl : Plain X) (T : xE X.prog X.w X.K X.mg X.base g k np tab) (hr : dq k X.A) (hf : PE X fe (tM X.K g (εX g E) mf)) (ha : PA X (e :: es) (tMA X.K g (εX g E) mr)) (hlen : ∀ env h ds h', mr env h = .ok ds h' -> ds.length = np)
    (hc : eval (.Call fe (e :: es) [] pos) X.env = (do callWith pos (← eval fe X.env) [] (backTo pos (starEach (e :: es) X.env)) (backToKw pos (keywordEach [] X.env))) := by rfl)
    (he : starEach (e :: es) X.env = (false, eval e X.env) :: starEach es X.env := by rfl) (hpl : (backTo pos (starEach es X.env)).any (·.1) = false := by rfl) :
    PE X (.Call fe (e :: es) [] pos) (tM X.K g (εX g E) (ny tab mf mr)) := by
  intro pins s σ H Q I ⟨α, env, h, s0, w⟩
  refine Call_ (thn (hf pins s σ H (fun v H1 => ∃ α1 h1 f fd ps m, v = .ref f /\ dQ X.prog X.w X.K X.mg X.base (CXE X.prog X.w) k f fd ps (spE X.K g np m) /\ PySem.W.keepIn X.K (.ref f) = true /\ Binds X.K fd ps [] /\ cW X.K g α1 H1 env σ h1 /\ WQ X.K g (εX g E) α1 H1 ((mr env h1).bind m) (aE X.K g α1 H1 Q)) I ?_) fun v s1 ⟨x, H1, I1, r1, q1⟩ => ?_) hc
  · refine tM.use s0 w.bind fun d1 h1 v1 H1 α1 e1 s1 r1 w1 => ?_
    cases r1 with
    | @fn x f hx =>
      simp only at w1
      cases et : tab x with
      | none => rw [et] at w1; exact w1.elim
      | some m =>
        rw [et] at w1
        obtain ⟨f', fd, ps, h1', h2', h3', h4'⟩ := T x m et
        rw [hx] at h1'
        cases h1'
        exact ⟨α1, h1, f, fd, ps, m, rfl, h2', h3', h4', s1, WQ.post e1 w1⟩
    | _ => exact w1.elim
  · obtain ⟨α1, h1, f, fd, ps, m, rfl, F, hk, hb, s2, w2⟩ := q1
    cases r1
    refine PySem.W.callWith_K (h₀ := X.base) I.ok.mod.kin hk (thn (ha pos pins s1 σ H1 (fun vs H2 => spE X.K g np m vs H2 Q E) I1 ?_) fun us s3 ⟨vs, H2, I2, r, q⟩ => ⟨I2.kIn, ?_⟩) he hpl
    · exact ⟨α1, env, h1, s2, w2.bind.mono fun d3 h3 eq w3 v3 H3 α3 e3 hr3 r3 => ⟨by rw [<- r3.length]; exact hlen env h1 d3 h3 eq, α3, d3, h3, r3, hr3, w3.post e3⟩⟩
    · exact xN F hr hb .nil (l9 pl fl) I2 r (by rw [List.append_nil]; exact q)
end
theorem us0 {P : List Value -> Prop} {us : List Value} (hl : us.length = 0) (h : P []) : P us := by cases us with | nil => exact h | cons _ _ => cases hl
theorem us1 {P : List Value -> Prop} {us : List Value} (hl : us.length = 1) (h : ∀ a, P [a]) : P us := by cases us with | nil => cases hl | cons a us => exact us0 (P := fun us => P (a :: us)) (Nat.succ.inj hl) (h a)
theorem us2 {P : List Value -> Prop} {us : List Value} (hl : us.length = 2) (h : ∀ a b, P [a, b]) : P us := by cases us with | nil => cases hl | cons a us => exact us1 (P := fun us => P (a :: us)) (Nat.succ.inj hl) (h a)
theorem us3 {P : List Value -> Prop} {us : List Value} (hl : us.length = 3) (h : ∀ a b c, P [a, b, c]) : P us := by cases us with | nil => cases hl | cons a us => exact us2 (P := fun us => P (a :: us)) (Nat.succ.inj hl) (h a)
theorem fO {fd : FuncData} {ps : List Str} {us : List Value} (hl : us.length = 1) (h : ∀ a : Value, bindArgs fd ⟨[a], []⟩ = pure (ps.zip [a])) : bindArgs fd ⟨us, []⟩ = pure (ps.zip us) := us1 (P := fun us => bindArgs fd ⟨us, []⟩ = pure (ps.zip us)) hl h
theorem zv {fd : FuncData} {ps : List Str} {us : List Value} (hl : us.length = 2) (h : ∀ a b : Value, bindArgs fd ⟨[a, b], []⟩ = pure (ps.zip [a, b])) : bindArgs fd ⟨us, []⟩ = pure (ps.zip us) := us2 (P := fun us => bindArgs fd ⟨us, []⟩ = pure (ps.zip us)) hl h
theorem Ha {fd : FuncData} {ps : List Str} {us : List Value} (hl : us.length = 3) (h : ∀ a b c : Value, bindArgs fd ⟨[a, b, c], []⟩ = pure (ps.zip [a, b, c])) : bindArgs fd ⟨us, []⟩ = pure (ps.zip us) := us3 (P := fun us => bindArgs fd ⟨us, []⟩ = pure (ps.zip us)) hl h
end L2.FE
namespace L2
open PySem PySem.Spec PyProof.Rows PySem.W
noncomputable abbrev ws0 (t : Addr) : Array Value := #[.ref t, .none, .none, .none, .bool false, .none]
end L2
namespace L2.Srt
open PySem PySem.W PyProof.Rows
section
variable {n : Nat} {key : Nat -> Int}
structure Pm (n : Nat) (p : Array Nat) : Prop where
  size : p.size = n
  perm : p.Perm (List.range n).toArray
theorem Pm.lt {p : Array Nat} (h : Pm n p) {i : Nat} (hi : i < n) : p.getD i 0 < n := by
  have hi' : i < p.size := by rw [h.size]; exact hi
  have e : p.getD i 0 = p[i] := by simp [Array.getD, hi']
  rw [e]
  have := h.perm.mem_iff.mp (Array.getElem_mem hi')
  simpa using this
theorem Pm.inj {p : Array Nat} (h : Pm n p) {i j : Nat} (hi : i < n) (hj : j < n) (e : p.getD i 0 = p.getD j 0) : i = j := by
  have nd : p.toList.Nodup := (h.perm.toList.nodup_iff).mpr (by simpa using List.nodup_range)
  have hi' : i < p.toList.length := by simp [h.size, hi]
  have hj' : j < p.toList.length := by simp [h.size, hj]
  have a : p.getD i 0 = p.toList[i] := by simp [Array.getD, h.size, hi]
  have b : p.getD j 0 = p.toList[j] := by simp [Array.getD, h.size, hj]
  rw [a, b] at e
  exact (List.getElem_inj nd).mp e
noncomputable def Dn (key : Nat -> Int) (p : Array Nat) (m : Nat) : Prop := ∀ i j, i < j -> j < m -> key (p.getD j 0) < key (p.getD i 0)
variable (inj : ∀ i j, i < n -> j < n -> key i = key j -> i = j)
include inj
omit inj in
omit inj in
omit inj in
omit inj in
omit inj in
omit inj in
end
end L2.Srt
namespace L2.Srt
open PySem PySem.W PyProof.Rows PySem.Calls
section
variable {prog : Program} {w : World} {A : Around} {E : Value -> Shared -> Prop} {s : Shared} {vs : List Value}
inductive Prs (h : Heap) : List Value -> List (Int × Int) -> Prop
  | nil : Prs h [] []
  | cons {a : Addr} {o : Obj} {k : Nat} {t u : Tok} {x y : Int} {vs : List Value} {ps : List (Int × Int)} : h.get? a = some o -> o.cls = .type "tuple" -> o.data = .seq #[.int x t, .int y u] k -> Prs h vs ps -> Prs h (.ref a :: vs) ((x, y) :: ps)
theorem Prs.len {h : Heap} {vs : List Value} {ps : List (Int × Int)} (r : Prs h vs ps) : vs.length = ps.length := by
  induction r with
  | nil => rfl
  | cons _ _ _ _ ih => simp [ih]
theorem Prs.at_ {h : Heap} {vs : List Value} {ps : List (Int × Int)} (r : Prs h vs ps) : ∀ {i : Nat}, i < ps.length -> ∃ a o k t u, vs.getD i Value.none = .ref a /\ h.get? a = some o /\ o.data = .seq #[.int (ps.getD i (0, 0)).1 t, .int (ps.getD i (0, 0)).2 u] k := by
  induction r with
  | nil => intro i hi; simp at hi
  | @cons a o k t u x y vs ps ha hc hd r ih =>
    intro i hi
    cases i with
    | zero => exact ⟨a, o, k, t, u, rfl, ha, hd⟩
    | succ i =>
      obtain ⟨a', o', k', t', u', e1, e2, e3⟩ := ih (i := i) (by simpa using hi)
      exact ⟨a', o', k', t', u', by simpa using e1, e2, by simpa using e3⟩
end
end L2.Srt
namespace L2
open PySem PySem.Spec PyProof.Rows L2.Srt
inductive PrV (K : PySem.W.Frag) (H : Hp) : List V -> List (Int × Int) -> Prop
  | nil : PrV K H [] []
  | cons {a : Addr} {x y : Int} {xs : List V} {ps : List (Int × Int)} : SqT K H a [.int x, .int y] -> PrV K H xs ps -> PrV K H (.ref a :: xs) ((x, y) :: ps)
section
variable {X : Cx}
theorem PrV.len {K : PySem.W.Frag} {H : Hp} {xs : List V} {ps : List (Int × Int)} (r : PrV K H xs ps) : xs.length = ps.length := by
  induction r with
  | nil => rfl
  | cons _ _ ih => simp [ih]
end
end L2
namespace L2
open PySem PySem.Spec PyProof.Rows
section
variable {X : Cx}
theorem isInt_self (i : Int) (t : Tok) : Value.isInt i (Value.int i t) = true := by simp [Value.isInt]
theorem v9 : a_ X (.type "set") (fun vs H Q => vs = [] /\ ∀ l, H l = none -> Q (.ref l) (upd H l (.set (fun _ => false) 0))) := by
  intro pins s σ H xs us Q I r h
  obtain ⟨rfl, q⟩ := h
  cases r
  refine call_set_0 fun led => ?_
  exact ⟨.ref s.heap.objs.size, _, I.laid (t' := s.toks) (fun b o e => Heap.get?_push_of_some _ e) (Nat.le_refl _) (show bL X.prog X.w _ _ _ (.set _ _) from (setObjOf_fresh (knd := intKind X.prog X.w) led).setOf (Heap.get?_push_size _ rfl) (by unfold scanBound; omega)), rfl, q _ (I.hok.fresh (Nat.le_refl _))⟩
noncomputable abbrev Ga (neg : Bool) : R2 := fun x y H Q => ∃ i p S n, x = .int i /\ y = .ref p /\ H p = some (.set S n) /\ Q (.bl (if neg then !S i else S i)) H
theorem oM : OpR X (compareOp .NotIn) (Ga true) := by
  intro pins s σ H x y v u Q I rx ry ⟨i, p, S, n, e1, e2, hp, q⟩
  subst e1 e2
  obtain ⟨t, rfl⟩ := rx
  cases ry
  exact wpAny_notInSet_of (knd := intKind X.prog X.w) (k := i) (key := .int i t) (isInt_self i t) rfl (I.hok p _ hp) ⟨.bl (!S i), H, I.tok _, rfl, q⟩
noncomputable def CP : V -> List V -> Hp -> VK -> Prop := fun x vs H Q => ∃ p S n i, x = .ref p /\ vs = [.int i] /\ H p = some (.set S n) /\ n + 1 < scanBound /\ Q .non (upd H p (.set (fun k' => S k' || decide (k' = i)) (if S i then n else n + 1)))
theorem xJ : MtM X "set.add" CP := by
  intro pins s σ H x vs v us Q I rx rv h
  obtain ⟨p, S, n, i, rfl, rfl, hp, hb, q⟩ := h
  cases rx
  obtain ⟨u, rfl, t, rfl⟩ := rv.one
  refine call_set_add (knd := intKind X.prog X.w) (k := i) (key := .int i t) (isInt_self i t) rfl (I.hok p _ hp) hb fun h' hs hS => ⟨.non, _, CC (ob := .set (fun k' => S k' || decide (k' = i)) (if S i then n else n + 1)) I (by rw [hp]; exact True.intro) hs ?_ hS, rfl, q⟩
  obtain ⟨o, _, _, _, e, _⟩ := hS
  exact ⟨o, e⟩
end
end L2
namespace L2.FE
open PySem PySem.Spec PyProof.Rows
noncomputable def setOf (h : Hh) (n : Nat) : Option (List Int) := match h[n]? with
  | some (.set ns) => some ns
  | _ => none
noncomputable def f9 (ns : List Int) (i : Int) : List Int := if ns.any (· == i) = true then ns else ns ++ [i]
noncomputable def jS : List D -> Hh -> R D := fun ds h => match ds with
  | [] => .ok (.ref h.length) (h ++ [.set []])
  | _ => .bad
noncomputable def rT (neg : Bool) : D -> D -> Hh -> R D := fun a b h => match a, b with
  | .int i, .ref n => match setOf h n with
    | some ns => .ok (.bl (if neg then !ns.any (· == i) else ns.any (· == i))) h
    | none => .bad
  | _, _ => .bad
noncomputable def i9 : D -> List D -> Hh -> R D := fun o ds h => match o, ds with
  | .ref n, [.int i] => match setOf h n with
    | some ns => if ns.length < 4000 then .ok .non (h.set n (.set (f9 ns i))) else .bad
    | none => .bad
  | _, _ => .bad
noncomputable def isS (d : D) (h : Hh) : Bool := match d with
  | .ref n => (setOf h n).isSome
  | _ => false
noncomputable def kO (f : D -> List D -> Hh -> R D) (o : ME) (a : MA) : ME := fun env h => (o env h).bind fun x h1 => if isS x h1 = true then (a env h1).bind fun xs h2 => f x xs h2 else .bad
section
variable {X : Cx} {g : GG} {ε : EE} {K : PySem.W.Frag}
theorem aN.set {α : List Addr} {H : Hp} {h : Hh} {n : Nat} {p : Addr} {ns : List Int} (r : aN K g α H h) (e : setOf h n = some ns) (hp : α[n]? = some p) : H p = some (.set (fun k => ns.any (· == k)) ns.length) := by
  unfold setOf at e
  cases eo : h[n]? with
  | none => rw [eo] at e; cases e
  | some o =>
    rw [eo] at e
    cases o with
    | set k => cases e; exact r.here n p _ hp eo
    | _ => cases e
theorem BJ : ki K g ε jS (fun vs H Q => vs = [] /\ ∀ l, H l = none -> Q (.ref l) (upd H l (.set (fun _ => false) 0))) := by
  intro α H h a x Q r ra w
  unfold jS at w
  cases ra with
  | cons _ _ => exact w.elim
  | nil =>
    refine ⟨rfl, fun l hn => ?_⟩
    refine (show aE K g α H Q _ _ from w) _ _ (α ++ [l]) (Ext.push hn) (r.push hn (show OAt K g _ _ l (.set []) from aH)) (.ref ?_)
    rw [<- r.len, List.getElem?_append_right (Nat.le_refl _)]; simp
theorem yQ {neg : Bool} : ef K g ε (rT neg) (Ga neg) := by
  intro α H h a b x y Q r ra rb w
  unfold rT at w
  cases ra with
  | int i =>
    cases rb with
    | @ref n p hp =>
      simp only at w
      cases e : setOf h n with
      | none => rw [e] at w; exact w.elim
      | some ns =>
        rw [e] at w
        exact ⟨i, p, _, _, rfl, rfl, r.set e hp, aE.now w r (.bl _)⟩
    | _ => exact w.elim
  | _ => exact w.elim
theorem add_eq (ns : List Int) (i : Int) : (HO.set (fun k' => (ns.any (· == k')) || decide (k' = i)) (if (ns.any (· == i)) = true then ns.length else ns.length + 1)) = .set (fun k => (f9 ns i).any (· == k)) (f9 ns i).length := by
  unfold f9
  by_cases c : ns.any (· == i) = true
  · rw [if_pos c, if_pos c]
    congr 1
    funext k
    by_cases e : k = i
    · subst e; rw [c]; rfl
    · simp [e]
  · rw [if_neg c, if_neg c]
    congr 1
    · funext k
      rw [List.any_append]
      congr 1
      simp only [List.any_cons, List.any_nil, Bool.or_false]
      by_cases e : k = i
      · subst e; simp
      · have e' : ¬ i = k := fun z => e z.symm
        simp [e, e']
    · simp
theorem uB : tR K g ε i9 CP := by
  intro α H h o a y x Q r ro ra w
  unfold i9 at w
  cases ro with
  | @ref n p hp =>
    cases ra with
    | nil => exact w.elim
    | @cons d v _ _ rd rr =>
      cases rr with
      | cons _ _ => cases rd <;> exact w.elim
      | nil =>
        cases rd with
        | int i =>
          simp only at w
          cases e : setOf h n with
          | none => rw [e] at w; exact w.elim
          | some ns =>
            rw [e] at w
            obtain ⟨hl, w⟩ := WQ.dG w
            refine ⟨p, _, _, i, rfl, rfl, r.set e hp, by show ns.length + 1 < 4096; omega, ?_⟩
            rw [add_eq]
            have x := Ext.write (o := .set (fun k => (f9 ns i).any (· == k)) (f9 ns i).length) r hp
            exact (show aE K g α H Q _ _ from w) _ _ α x (r.write hp (show OAt K g _ _ p (.set (f9 ns i)) from aH)) .non
        | _ => exact w.elim
  | _ => exact w.elim
theorem A1 {α : List Addr} {H : Hp} {h : Hh} {d : D} {x : V} (r : aN K g α H h) (rd : aG K g α H d x) (e : isS d h = true) : tyV K "set" x H := by
  unfold isS at e
  cases rd with
  | @ref n p hp =>
    simp only at e
    obtain ⟨ns, e⟩ := Option.isSome_iff_exists.mp e
    exact .inr (.inr (.inr (.inl ⟨rfl, _, _, r.set e hp⟩)))
  | _ => cases e
theorem yk {o e : Expr} {es : List Expr} {mo : ME} {mr : MA} {name : Str} {apos cpos : Pos} {id : String} {r : V -> List V -> Hp -> VK -> Prop} {f : D -> List D -> Hh -> R D} (slot : Slot "set" name id) (hty : typeOf (.builtin id) = pure (.type "method_descriptor")) (hm : MtM X id r) (im : tR X.K g ε f r) (ho : PE X o (tM X.K g ε mo)) (ha : PA X (e :: es) (tMA X.K g ε mr))
    (hbase : attributeBase o name X.env (eval o X.env) = eval o X.env := by rfl)
    (hfew : ((backTo cpos (starEach (e :: es) X.env)).all (fun x => !x.1) && (backToKw cpos (keywordEach [] X.env)).all (fun x => x.1.isSome)
      && decide ((e :: es).length + ([] : List Keyword).length + (if ([] : List Keyword).isEmpty then 0 else 1) < 30)) = true := by rfl)
    (hline : (apos.endLine == cpos.line) = true := by rfl) (hs : starEach (e :: es) X.env = (false, eval e X.env) :: starEach es X.env := by rfl) (hplain : (backTo cpos (starEach es X.env)).any (·.1) = false := by rfl) :
    PE X (.Call (.Attribute o name apos) (e :: es) [] cpos) (tM X.K g ε (kO f mo mr)) :=
  PE.imp (C8 PySem.F.plainAttrs_set slot hty hm ho ha hbase hfew hline hs hplain) fun σ H Q ⟨α, env, h, s, w⟩ => tM.use s w.bind fun d1 h1 v1 H1 α1 e1 s1 r1 w1 => by
    obtain ⟨hl, w1⟩ := WQ.dG w1
    refine ⟨A1 s1.heap r1 hl, tMA.use s1 (w1.ext e1).bind fun d2 h2 v2 H2 α2 e2 s2 r2 w2 => ?_⟩
    exact im α2 H2 h2 d1 d2 v1 v2 Q s2.heap (r1.ext e2) r2 ((w2.ext e2).mono fun _ _ _ p => aE.ext (e1.trans e2) p)
theorem uT {p pos : Pos} (hg : Gl X "set") (hm : X.mg "set" = none) : PE X (.Call (.Name "set" p) [] [] pos) (tM X.K g ε (ah jS ai)) :=
  PE.imp (uj v9 hg hm PyProof.Rows.boot_set (by decide) (by decide)) fun σ H Q ⟨α, env, h, s, w⟩ => by
    exact BJ α H h [] [] Q s.heap .nil (by
      have := w.bind
      exact (show WQ X.K g ε α H (jS [] h) _ from by simpa using w))
end
section
variable {h : Hh} {env : En}
@[simp] theorem yp : jS [] h = .ok (.ref h.length) (h ++ [.set []]) := Eq.trans rfl rfl
@[simp] theorem uY {f : D -> List D -> Hh -> R D} {o : ME} {a : MA} : kO f o a env h = (o env h).bind fun x h1 => if isS x h1 = true then (a env h1).bind fun xs h2 => f x xs h2 else .bad := Eq.trans rfl rfl
theorem FG {neg : Bool} {i : Int} {n : Nat} {ns : List Int} (e : setOf h n = some ns) : rT neg (.int i) (.ref n) h = .ok (.bl (if neg then !ns.any (· == i) else ns.any (· == i))) h := by delta rT; dsimp only; rw [e]
theorem r8 {i : Int} {n : Nat} {ns : List Int} (e : setOf h n = some ns) : i9 (.ref n) [.int i] h = if ns.length < 4000 then .ok .non (h.set n (.set (f9 ns i))) else .bad := by delta i9; dsimp only; rw [e]
theorem Ac {n : Nat} {ns : List Int} (e : setOf h n = some ns) : isS (.ref n) h = true := by delta isS; dsimp only; rw [e]; rfl
end
noncomputable def Df (h : Hh) (n : Nat) : Option (List (List Key × D)) := match h[n]? with
  | some (.dit kvs) => some kvs
  | _ => none
noncomputable def As : List (List Key × D) -> List Key -> Option D
  | [], _ => none
  | p :: r, k => if p.1 = k then some p.2 else As r k
noncomputable abbrev PDT (K : PySem.W.Frag) (g : GG) (α : List Addr) (H : Hp) : List (List Key × D) -> List (List Key × V) -> Prop := Paired (fun (a : List Key × D) (b : List Key × V) => a.1 = b.1 /\ aG K g α H a.2 b.2)
section
variable {K : PySem.W.Frag} {g : GG} {α : List Addr} {H : Hp} {h : Hh}
theorem aN.dit {n : Nat} {p : Addr} {kvs : List (List Key × D)} (r : aN K g α H h) (e : Df h n = some kvs) (hp : α[n]? = some p) : ∃ kws, H p = some (.dT kws) /\ PDT K g α H kvs kws := by
  unfold Df at e
  cases eo : h[n]? with
  | none => rw [eo] at e; cases e
  | some o =>
    rw [eo] at e
    cases o with
    | dit k => cases e; exact r.here n p _ hp eo
    | _ => cases e
theorem PDT.val (k : List Key) : ∀ {kvs : List (List Key × D)} {kws : List (List Key × V)}, PDT K g α H kvs kws -> (As kvs k = none /\ qj kws k = none) \/ ∃ d v, As kvs k = some d /\ qj kws k = some v /\ aG K g α H d v
  | _, _, .nil => .inl ⟨rfl, rfl⟩
  | p :: r, q :: t, .cons c rr => by
    by_cases e : p.1 = k
    · exact .inr ⟨p.2, q.2, if_pos e, rV (c.1 ▸ e), c.2⟩
    · rw [show As (p :: r) k = As r k from if_neg e, sL (c.1 ▸ e)]
      exact PDT.val k rr
theorem PDT.ext {α' : List Addr} {H' : Hp} {kvs : List (List Key × D)} {kws : List (List Key × V)} (e : Ext K α H α' H') (r : PDT K g α H kvs kws) : PDT K g α' H' kvs kws := Paired.GS e.toEx0 r
theorem aE.dit {Q : VK} {kvs : List (List Key × D)} {kws : List (List Key × V)} {p : Addr} (w : aE K g α H Q (.ref h.length) (h ++ [.dit kvs])) (r : aN K g α H h) (rs : PDT K g α H kvs kws) (hp : H p = none) : Q (.ref p) (upd H p (.dT kws)) := by
  have x := Ext.push (K := K) (α := α) (o := .dT kws) hp
  exact w _ _ _ x (r.push hp ⟨_, aH, rs.ext x⟩) (.ref (by rw [<- r.len]; simp))
end
end L2.FE
namespace L2
open PySem PySem.Spec PyProof.Rows
noncomputable abbrev Ek (J : It) (ix : List Nat) (σ : St) (wi2 : TI) (te : TE) (acc : Addr) (H1 : Hp) (Q : VK) : Prop :=
  ∃ W : Nat -> Nat -> List V -> Hp -> Prop, (∃ m, W 0 m [] (upd H1 acc (.lst []))) /\ ∀ i m ys H, W i m ys H →
    (J.stop i H /\ Q (.ref acc) H) \/ (J.go i H /\ ∀ σ0 x H', hJ 2 ix σ σ0 -> J.yld i H x H' -> wi2 (σ0.set 0 (some x)) H' fun J2 H2 =>
      ∃ U : Nat -> Nat -> List V -> Hp -> Prop, (∃ m2, U 0 m2 ys H2) /\ ∀ j m2 zs H, U j m2 zs H -> (J2.stop j H /\ ∃ m', m' < m /\ W (i + 1) m' zs H) ∨
        (J2.go j H /\ ∀ y H', J2.yld j H y H' -> te ((σ0.set 0 (some x)).set 1 (some y)) H' fun v H3 => ∃ ks, H3 acc = some (.lst ks) /\ ks.length < sizeLine /\ ∃ m', m' < m2 /\ U (j + 1) m' (ks ++ [v]) (upd H3 acc (.lst (ks ++ [v])))))
noncomputable def ux (wi : TI) (ix : List Nat) (wi2 : TI) (te : TE) : TE := fun σ H Q => wi σ H fun J H1 => ∀ acc, H1 acc = none -> Ek J ix σ wi2 te acc H1 Q
section
variable {prog : Program} {w : World} {A : Around} {R : Result -> Shared -> Prop} {s : Shared} {elt tg iter tg2 iter2 : Expr} {scope : Scope} {pos : Pos} {it acc : Value} {env : Env}
noncomputable abbrev e2 (elt tg iter tg2 iter2 : Expr) (scope : Scope) (pos : Pos) : Expr := .ListComp elt [⟨tg, iter, [], 0⟩, ⟨tg2, iter2, [], 0⟩] scope pos
theorem yb : compTurn (e2 elt tg iter tg2 iter2 scope pos) 0 it acc env = (standAt iter.pos >>= fun _ => pyNext it >>= fun r => match r with
    | none => pure (.done .next)
    | some v => letOwnedTupleGo tg it v >>= fun _ => assign tg env v >>= fun _ =>
      eval iter2 env >>= fun x => standAt iter2.pos >>= fun _ => foldedSetIterable iter2 env x >>= fun x => holding [x] (pyIter x) >>= fun i2 => runOwn (.compStart (e2 elt tg iter tg2 iter2 scope pos) 1 i2 acc env) env >>= fun _ =>
        again (.compLoop (e2 elt tg iter tg2 iter2 scope pos) 0 it acc env)) := by rfl
theorem By : compTurn (e2 elt tg iter tg2 iter2 scope pos) 1 it acc env = (standAt iter2.pos >>= fun _ => pyNext it >>= fun r => match r with
    | none => pure (.done .next)
    | some v => letOwnedTupleGo tg2 it v >>= fun _ => assign tg2 env v >>= fun _ =>
      (eval elt env >>= fun x => call (.builtin "list.append") [acc, x] >>= fun _ => pure ()) >>= fun _ =>
        again (.compLoop (e2 elt tg iter tg2 iter2 scope pos) 1 it acc env)) := by rfl
theorem zR (I : Nat -> Shared -> Prop)
    (turn : ∀ n s, I n s -> wpAny (model prog w) A (pyNext it) (fun r s₁ => match r with
      | none => R (.ok .next) s₁
      | some v => wpAny (model prog w) A (letOwnedTupleGo tg2 it v) (fun _ s₁ => wpAny (model prog w) A (assign tg2 env v) (fun _ s₂ =>
          wpAny (model prog w) A (eval elt env) (fun x s₄ => wpAny (model prog w) A (call (.builtin "list.append") [acc, x]) (fun _ s₅ => ∃ m, m < n /\ I m s₅) (fun _ _ => False) s₄) (fun _ _ => False) s₂) (fun _ _ => False) s₁) (fun _ _ => False) s₁) (fun _ _ => False) s)
    (n : Nat) (h : I n s) : codeAny (model prog w) A (.compLoop (e2 elt tg iter tg2 iter2 scope pos) 1 it acc env) R s := by
  refine codeAny_loop rfl I (fun n s hI => ?_) n h
  show wpAny _ A ((compTurn (e2 elt tg iter tg2 iter2 scope pos) 1 it acc env).onRaise (fun x => do noteFrame x env; theTreesLotGoes x)) _ _ s
  refine wpAny_noted ?_
  rw [By]
  refine wpAny_noRaise ?_
  refine wpAny_bind (wpAny_standAt (wpAny_bind (thn (turn n s hI) fun r s₁ h₁ => ?_)))
  cases r with
  | none => exact wpAny_pure h₁
  | some v => exact wpAny_bind (thn h₁ fun _ s₂ h₂ => wpAny_bind (thn h₂ fun _ s₃ h₃ => wpAny_bind (wpAny_bind (thn h₃ fun x s₄ h₄ => wpAny_bind (thn h₄ fun _ s₅ h₅ => wpAny_pure (wpAny_pure ⟨rfl, h₅⟩))))))
theorem we (I : Nat -> Shared -> Prop) (hf : ∀ x, foldedSetIterable iter2 env x = pure x)
    (turn : ∀ n s, I n s -> wpAny (model prog w) A (pyNext it) (fun r s₁ => match r with
      | none => R (.ok .next) s₁
      | some v => wpAny (model prog w) A (letOwnedTupleGo tg it v) (fun _ s₁ => wpAny (model prog w) A (assign tg env v) (fun _ s₂ =>
          wpAny (model prog w) A (eval iter2 env) (fun x s₃ => wpAny (model prog w) A (pyIter x) (fun i2 s₄ =>
            codeAny (model prog w) A (.compStart (e2 elt tg iter tg2 iter2 scope pos) 1 i2 acc env) (fun r s' => match r with
              | .ok _ => ∃ m, m < n /\ I m s'
              | .error _ => False) s₄) (fun _ _ => False) s₃) (fun _ _ => False) s₂) (fun _ _ => False) s₁) (fun _ _ => False) s₁) (fun _ _ => False) s)
    (n : Nat) (h : I n s) : codeAny (model prog w) A (.compLoop (e2 elt tg iter tg2 iter2 scope pos) 0 it acc env) R s := by
  refine codeAny_loop rfl I (fun n s hI => ?_) n h
  show wpAny _ A ((compTurn (e2 elt tg iter tg2 iter2 scope pos) 0 it acc env).onRaise (fun x => do noteFrame x env; theTreesLotGoes x)) _ _ s
  refine wpAny_noted ?_
  rw [yb]
  refine wpAny_noRaise ?_
  refine wpAny_bind (wpAny_standAt (wpAny_bind (thn (turn n s hI) fun r s₁ h₁ => ?_)))
  cases r with
  | none => exact wpAny_pure h₁
  | some v =>
    refine wpAny_bind (thn h₁ fun _ s₂ h₂ => wpAny_bind (thn h₂ fun _ s₃ h₃ => wpAny_bind (thn h₃ fun x s₄ h₄ => wpAny_bind (wpAny_standAt (wpAny_bind (wpAny_of_eq (hf x) (wpAny_bind (wpAny_holding (thn h₄ fun i2 s₅ h₅ => ?_)))))))))
    refine wpAny_bind (wpAny_runOwn (codeAny_mono h₅ fun r s' hr => ?_))
    cases r with
    | ok f => exact wpAny_pure ⟨rfl, hr⟩
    | error e => exact hr.elim
theorem yH : compStart (e2 elt tg iter tg2 iter2 scope pos) 1 it acc env = (ask >>= fun st => if st.params.followText "comprehension-iter-twice" = true then again (.compLoop (e2 elt tg iter tg2 iter2 scope pos) 1 it acc env) else
    rule "comprehension.iter-twice" >>= fun _ => standAt iter2.pos >>= fun _ => pyIter it >>= fun i' => again (.compLoop (e2 elt tg iter tg2 iter2 scope pos) 1 i' acc env)) := by rfl
theorem zF (h0 : codeAny (model prog w) A (.compLoop (e2 elt tg iter tg2 iter2 scope pos) 1 it acc env) R s)
    (h : wpAny (model prog w) A (pyIter it) (fun i' s' => codeAny (model prog w) A (.compLoop (e2 elt tg iter tg2 iter2 scope pos) 1 i' acc env) R s') (fun _ _ => False) s) :
    codeAny (model prog w) A (.compStart (e2 elt tg iter tg2 iter2 scope pos) 1 it acc env) R s := by
  refine codeAny_of_tree ?_
  show wpAny _ _ ((compStart (e2 elt tg iter tg2 iter2 scope pos) 1 it acc env).onRaise (fun x => do noteFrame x env; standAt theWindowsPlace)) _ _ s
  refine wpAny_notedAt ?_
  refine wpAny_noRaise ?_
  rw [yH]
  refine wpAny_bind (wpAny_askSetting ?_)
  split
  · exact wpAny_pure ⟨rfl, h0⟩
  · exact wpAny_bind (wpAny_rule (wpAny_bind (wpAny_standAt (wpAny_bind (thn h fun i' s' h' => wpAny_pure ⟨rfl, h'⟩)))))
end
end L2
namespace L2.FE
open PySem PySem.Spec PyProof.Rows
noncomputable def gp (ix : List Nat) (env : En) (a b : Option D) : En := a :: b :: ix.map fun i => (env[i]?).join
noncomputable def An (n0 : Nat) (y : D) (h : Hh) : R Unit := match aw h n0 with
  | some ds => if ds.length < 1000000 then .ok () (h.set n0 (.lst (ds ++ [y]))) else .bad
  | none => .bad
noncomputable def sS (n0 : Nat) (rd : Rdr) (te : ME) (ff : D -> En) : Nat -> Nat -> Hh -> R Unit
  | k, j, h => match rd h j with
    | none => .bad
    | some none => .ok () h
    | some (some e) => match k with
      | 0 => .bad
      | k + 1 => (te (ff e) h).bind fun y h2 => (An n0 y h2).bind fun _ h3 => sS n0 rd te ff k (j + 1) h3
noncomputable def oD (n0 : Nat) (rd : Rdr) (mi2 : MI) (te : ME) (ff : Option D -> Option D -> En) : Nat -> Nat -> Hh -> R Unit
  | k, i, h => match rd h i with
    | none => .bad
    | some none => .ok () h
    | some (some d) => match k with
      | 0 => .bad
      | k + 1 => (mi2 (ff (some d) none) h).bind fun sr h1 => (sS n0 sr.rdr te (fun e => ff (some d) (some e)) (sr.fuel h1) 0 h1).bind fun _ h2 => oD n0 rd mi2 te ff k (i + 1) h2
noncomputable def qF (mi : MI) (ix : List Nat) (mi2 : MI) (te : ME) : ME := fun env h => (mi env h).bind fun sr h1 => (oD h1.length sr.rdr mi2 te (gp ix env) (sr.fuel h1) 0 (h1 ++ [.lst []])).bind fun _ h2 => .ok (.ref h1.length) h2
section
variable {K : PySem.W.Frag} {g : GG}
theorem sg {α : List Addr} {H : Hp} {env : En} {σ : St} {ix : List Nat} {a b : Option D} {p q : Option V} (s : iM K g α H env σ) (ra : ∀ d, a = some d -> ∃ v, p = some v /\ aG K g α H d v) (rb : ∀ d, b = some d -> ∃ v, q = some v /\ aG K g α H d v) : iM K g α H (gp ix env a b) (p :: q :: ix.map fun i => (σ[i]?).join) := by
  refine ⟨by simp [gp], fun i e h => ?_⟩
  match i with
  | 0 =>
    have : a = some e := by simpa [gp] using h
    obtain ⟨v, rfl, r⟩ := ra e this
    exact ⟨v, rfl, r⟩
  | 1 =>
    have : b = some e := by simpa [gp] using h
    obtain ⟨v, rfl, r⟩ := rb e this
    exact ⟨v, rfl, r⟩
  | i + 2 =>
    have h' : (ix.map fun i => (env[i]?).join)[i]? = some (some e) := by simpa [gp] using h
    rw [List.getElem?_map] at h'
    cases ei : ix[i]? with
    | none => rw [ei] at h'; cases h'
    | some j =>
      rw [ei] at h'
      have h2 : (env[j]?).join = some e := by simpa using h'
      cases ej : env[j]? with
      | none => rw [ej] at h2; cases h2
      | some oe =>
        rw [ej] at h2
        have h3 : oe = some e := by simpa using h2
        subst h3
        obtain ⟨u, eu, ru⟩ := s.vars j e ej
        refine ⟨u, ?_, ru⟩
        simp only [List.getElem?_cons_succ, List.getElem?_map, ei, Option.map_some, eu]
        rfl
theorem qt {α α' : List Addr} {n : Nat} {p : Addr} {H H' : Hp} (e : Ext K α H α' H') (h : α[n]? = some p) : α'[n]? = some p := by
  obtain ⟨l, rfl⟩ := e.toEx0.pre
  rw [List.getElem?_append_left]
  · exact h
  · by_cases hl : n < α.length
    · exact hl
    · rw [List.getElem?_eq_none (by omega)] at h; cases h
end
end L2.FE
namespace L2
open PySem PySem.Spec PyProof.Rows
theorem tQ {X : Cx} {use : Option (Value -> Sem Unit)} {Q2 : Value -> Shared -> Prop} {pins : List (Addr × Obj)} {s : Shared} {σ : St} {H : Hp} {Q : VK} {elt iter tg iter2 tg2 : Expr} {tn' : List Str} {scope osc : Scope} {pos : Pos} {wi wi2 : TI} {te : TE} (ix : List Nat) (N' : List Str)
    (hc : X.calm = true) (ho : X.env.scope = osc) (hN : N' = tn' ++ ix.map fun i => (X.N[i]?).getD ("" : Str)) (hnd : N'.Nodup)
    (hall : (∀ y ∈ scope.names, y.2 = .free -> osc.names.lookup y.1 = some .cell) /\ (∀ y ∈ scope.names, y.2 ≠ .cell) /\ scope.kind = .function /\ (∀ y ∈ scope.names, y.2 = .local -> scope.names.lookup y.1 = some .local) /\ (∀ y ∈ N'.drop tn'.length, scope.names.lookup y = some .free))
    (hi : PI X tg iter wi) (hg : ∀ cl C ay aC fp, PG (aW X.nox scope cl C ay aC fp N') tg (eC 0)) (hi2 : ∀ cl C ay aC fp, PI (aW X.nox scope cl C ay aC fp N') tg2 iter2 wi2) (hg2 : ∀ cl C ay aC fp, PG (aW X.nox scope cl C ay aC fp N') tg2 (eC 1))
    (he : ∀ cl C ay aC fp, PE (aW X.nox scope cl C ay aC fp N') elt te)
    (hs : ∀ x, foldedSetIterable iter X.env x = pure x) (hs2 : ∀ env x, foldedSetIterable iter2 env x = pure x) (h2n : tn'.length = 2) (I : Inv X pins σ H s) (h : ux wi ix wi2 te σ H Q)
    (hfin : ∀ (acc C : Addr) (H5 : Hp) (s5 : Shared) (o : Obj), Inv X (pins ++ [(C, o)]) σ H5 s5 -> (∀ x c, X.env.cells.lookup x = some c -> c ≠ C) -> X.ay.heap.objs.size <= C -> (∀ p ∈ X.pn ++ pins, p.1 ≠ C) -> (∃ m, ∀ h' : Heap, h'.get? C = some o -> h'.Ns C m) -> Q (.ref acc) H5 -> compPost (model X.prog X.w) X.A X.xe use Q2 (.ref acc) C (.ok .next) s5) :
    wpAny (model X.prog X.w) X.A (comprehension (.ListComp elt [⟨tg, iter, [], 0⟩, ⟨tg2, iter2, [], 0⟩] scope pos) scope X.env (firstIterPos [⟨tg, iter, [], 0⟩, ⟨tg2, iter2, [], 0⟩] pos) (newList []) false (eval iter X.env) use) Q2 X.xe s := by
  obtain ⟨hfr, hcell, hkind, hnames, hcap⟩ := hall
  subst ho
  have outc : ∀ y ∈ scope.names, y.2 = .free -> X.env.kindOf y.1 = some .cell := fun y hy q => hfr y hy q
  obtain ⟨cl, hclos, hcl1, hcl2⟩ := je (env := X.env) (scope := scope) fun y hy q => I.ok.has y.1 (.inl (outc y hy q))
  refine wpAny_comprehension_free (use := use) rfl hs hclos hkind hnames (thn (hi pins s σ H _ I h) fun v s1 h1 => thn h1 fun itv s2 h2 => ?_)
  obtain ⟨it, fp, tn, J, H2, e, I2, T, st2, f2, rest⟩ := h2
  subst e
  have hf2 : H2 s2.heap.objs.size = none := I2.hok.fresh (Nat.le_refl _)
  obtain ⟨W, ⟨m0, w0⟩, turn⟩ := rest s2.heap.objs.size hf2
  -- the list
  refine wpAny_newObj_type ?_
  have I3 : Inv X pins σ (upd H2 s2.heap.objs.size (.lst [])) { s2 with heap := s2.heap.push { cls := .type "list", dict := none, data := .seq ([] : List Value).toArray } } := I2.Cf (its := []) (t' := s2.toks) .nil (Nat.zero_le _)
  have keep3 : ∀ b o, s2.heap.get? b = some o -> (s2.heap.push { cls := .type "list", dict := none, data := .seq ([] : List Value).toArray }).get? b = some o := fun b o q => Heap.get?_push_of_some _ q
  have fp3 : ∀ b ∈ fp, ∃ o, s2.heap.get? b = some o /\ ∀ v, o.data ≠ .cell v := T.obj _ _ st2
  have st3 : tn 0 (s2.heap.push { cls := .type "list", dict := none, data := .seq ([] : List Value).toArray }) := T.keep _ _ _ st2 fun b _ o q => keep3 b o q
  have fpn : ∀ b ∈ fp, (upd H2 s2.heap.objs.size (HO.lst [])) b = none := fun b hb => by
    obtain ⟨o, q, _⟩ := fp3 b hb
    rw [aA (Nat.ne_of_lt (Heap.lt_size q))]
    exact (f2 b hb).1
  revert I3 keep3 st3 fpn w0
  generalize hS3 : ({ s2 with heap := s2.heap.push { cls := .type "list", dict := none, data := .seq ([] : List Value).toArray } } : Shared) = s3
  generalize hH3 : upd H2 s2.heap.objs.size (HO.lst []) = H3
  intro w0 I3 keep3 st3 fpn
  have acc3 : H3 s2.heap.objs.size = some (.lst []) := by rw [<- hH3]; exact aH
  generalize s2.heap.objs.size = acc at *
  have e3 : s2.heap.push { cls := .type "list", dict := none, data := .seq ([] : List Value).toArray } = s3.heap := by rw [<- hS3]
  have keep3' : ∀ b o, s2.heap.get? b = some o -> s3.heap.get? b = some o := fun b o q => by rw [<- e3]; exact keep3 b o q
  have st3' : tn 0 s3.heap := by rw [<- e3]; exact st3
  refine wpAny_newFunctionEnv hcell (by intro y hy; simp at hy) (fun h₁ hns₁ hsb₁ => ?_) hkind
  have hC : s3.heap.objs.size = s3.heap.objs.size := rfl
  have keep4 : ∀ b o, s3.heap.get? b = some o -> h₁.get? b = some o := fun b o q => hsb₁.extBut b o (Nat.ne_of_lt (Heap.lt_size q)) (Heap.get?_push_of_some _ q)
  have fpC : ∀ b ∈ fp, b ≠ s3.heap.objs.size := fun b hb => by
    obtain ⟨o, q, _⟩ := fp3 b hb
    exact Nat.ne_of_lt (Heap.lt_size (keep3' b o q))
  -- the block's context
  generalize hX' : aW X.nox scope cl s3.heap.objs.size s3 H3 fp N' = X'
  have hXp : X'.prog = X.prog := by rw [<- hX']; rfl
  have hXw : X'.w = X.w := by rw [<- hX']; rfl
  have hXK : X'.K = X.K := by rw [<- hX']; rfl
  have hXA : X'.A = X.A := by rw [<- hX']; rfl
  have hXe : X'.env = compEnvC scope cl s3.heap.objs.size X.env := by rw [<- hX']; rfl
  have hXc : X'.calm = true := by rw [<- hX']; exact hc
  have hXx : X'.xe = fun _ _ => False := by rw [<- hX']; rfl
  have hXf : X'.fs = frs X.stack := by rw [<- hX']; rfl
  have hXex : X'.ex = fp := by rw [<- hX']; rfl
  have hXN : X'.N = N' := by rw [<- hX']; rfl
  have hXs : X'.ay = s3 := by rw [<- hX']; rfl
  have hXH : X'.aC = H3 := by rw [<- hX']; rfl
  have hXpn : X'.pn = [] := by rw [<- hX']; rfl
  have okX : X'.Ok := by
    rw [<- hX']
    refine ⟨I3.ok.mod, hkind, I3.ok.glob, I3.ok.blt, Nat.le_refl _, fun a b c p q => I3.ok.inj a b c (hcl1 a c p) (hcl1 b c q), fun y hy => ?_, fun _ _ z => (by cases z), I3.ok.hd, I3.ok.frames, .inl rfl, fun b hb => ⟨fpC b hb, fun y c p => (f2 b hb).2.2.2.2.1 y c (hcl1 y c p)⟩,
      I3.bs, Nat.le_trans I3.ok.bsz I3.sz, fun b o p hb => ?_, fun b hb z => ?_, I3.stack, I3.lJ⟩
    · have hy' : (relabel scope X.env).names.lookup y = some .cell \/ (relabel scope X.env).names.lookup y = some .free := hy
      have free : scope.names.lookup y = some .free -> ∃ c, cl.lookup y = some c := fun q => hcl2 y (lookup_mem q)
      rcases hy' with q | q
      · rcases dM q with z | ⟨z, _⟩
        · exact absurd rfl (hcell _ (lookup_mem z))
        · exact free z
      · rcases dM q with z | ⟨_, z⟩
        · exact free z
        · cases z
    · rcases (f2 b hb).2.2.2.1 with z | z
      · exact I3.ok.oH b o p z
      · exact absurd (Nat.lt_of_lt_of_le (Heap.lt_size p) (Nat.le_trans I3.ok.bsz z)) (Nat.lt_irrefl _)
    · rcases List.mem_cons.mp (I3.fY b z) with q | q
      · exact (f2 b hb).2.1 q
      · exact (f2 b hb).2.2.1 q
  have I4 : ∀ tk, Inv X' [] (oB tn'.length ix σ) H3 { s3 with heap := h₁, toks := tk } := fun tk => by
    have hloc := I3.loc
    refine ⟨okX, by rw [hXs], I3.bare, ?_, ⟨fun y => ([] : List (Str × Value)).reverse.lookup y, by rw [hXe]; exact hns₁, fun i y v e1 e2 e3 => ?_⟩, fun y c p => ?_, ?_, fun y c p => ?_, fun p hp => ?_, ?_, ?_⟩
    · rw [hXf, hXex, hXH, hXs]; exact Un.kept keep4
    · rw [hXN, hN] at e1
      by_cases hit' : i < tn'.length
      · exfalso
        unfold oB at e2
        rw [List.getElem?_append_left (by simpa using hit'), List.getElem?_replicate, if_pos hit'] at e2
        cases e2
      · have e10 : N'[i]? = some y := by rw [hN]; exact e1
        obtain ⟨j, rfl⟩ : ∃ j, i = tn'.length + j := ⟨i - tn'.length, by omega⟩
        have e1' : (ix.map fun i => (X.N[i]?).getD ("" : Str))[j]? = some y := by
          rw [List.getElem?_append_right (by omega)] at e1
          rw [show tn'.length + j - tn'.length = j by omega] at e1
          exact e1
        have e2' : (ix.map fun i => (σ[i]?).join)[j]? = some (some v) := by
          unfold oB at e2
          rw [List.getElem?_append_right (by simp)] at e2
          simpa using e2
        rw [List.getElem?_map] at e1' e2'
        cases hj : ix[j]? with
        | none => rw [hj] at e1'; cases e1'
        | some i0 =>
          rw [hj] at e1' e2'
          have e1'' : (X.N[i0]?).getD ("" : Str) = y := by simpa using e1'
          have e2'' : (σ[i0]?).join = some v := by simpa using e2'
          have hsv : σ[i0]? = some (some v) := by
            cases q : σ[i0]? with
            | none => rw [q] at e2''; cases e2''
            | some z => rw [q] at e2''; have : z = some v := by simpa using e2''
                        rw [this]
          have hlt : i0 < X.N.length := by
            have := (List.getElem?_eq_some_iff.mp hsv).1
            rw [I3.len] at this; exact this
          have hNy : X.N[i0]? = some y := by
            rw [List.getElem?_eq_getElem hlt] at e1'' ⊢
            simpa using e1''
          have hyt : y ∈ N'.drop tn'.length := by
            refine List.mem_of_getElem? (i := j) ?_
            rw [List.getElem?_drop]; exact e10
          have hyf := hcap y hyt
          have hyc := outc (y, .free) (lookup_mem hyf) rfl
          obtain ⟨m, hn, hl⟩ := hloc
          obtain ⟨u, r, l⟩ := hl i0 y v hNy hsv (.inr (.inl hyc))
          refine ⟨u, r, ?_⟩
          rcases l with ⟨k1, _⟩ | ⟨_, c, p, z⟩
          · have hyc' : X.env.kindOf y = some .cell := hyc
            rw [k1] at hyc'; cases hyc'
          · obtain ⟨c', p'⟩ := hcl2 y (lookup_mem hyf)
            have pc : c' = c := by
              have := hcl1 y c' p'
              rw [p] at this; cases this; rfl
            subst pc
            refine .inr ⟨.inl ?_, c', by rw [hXe]; exact p', ?_⟩
            · rw [hXe]; exact cY I3.ok.kind hyf hyc
            · obtain ⟨o, q1, q2⟩ := z
              exact ⟨o, keep4 c' o q1, q2⟩
    · rw [hXe] at p
      obtain ⟨v, o, q1, q2⟩ := I3.cell y c (hcl1 y c p)
      exact ⟨v, o, keep4 c o q1, q2⟩
    · rw [hXe]; exact I3.hok.fresh (Nat.le_refl _)
    · rw [hXe] at p; exact I3.dC y c (hcl1 y c p)
    · rw [hXpn] at hp; cases hp
    · rw [hXp, hXw]; exact I3.hok.kept keep4
    · rw [hXN, hN]; simp [oB]
  -- the loop
  have stat : ∀ {H' : Hp}, (∀ b ∈ fp, H' b = none) -> ∀ b ∈ fp, kH X' [] H' b := fun hn b hb => by
    refine ⟨hn b hb, by rw [hXe]; exact fpC b hb, ?_, .inl (by rw [hXex]; exact hb), fun y c p => ?_, fun p hp => by rw [hXpn] at hp; cases hp⟩
    · rw [hXf]; intro z
      rcases List.mem_cons.mp (I3.fY b z) with q | q
      · exact (f2 b hb).2.1 q
      · exact (f2 b hb).2.2.1 q
    · rw [hXe] at p; exact (f2 b hb).2.2.2.2.1 y c (hcl1 y c p)
  have fin : ∀ {H5 : Hp} {s5 : Shared} {σ5 : St}, Inv X' [] σ5 H5 s5 -> Q (.ref acc) H5 -> compPost (model X.prog X.w) X.A X.xe use Q2 (.ref acc) s3.heap.objs.size (.ok .next) s5 := fun {H5 s5 σ5} I5 q => by
    obtain ⟨m, hn, _⟩ := I5.loc
    rw [hXe] at hn
    have hn' : s5.heap.Ns s3.heap.objs.size m := hn
    obtain ⟨oC, esC, epC, hC1, hC2, hC3⟩ := hn'
    have u5 := I5.base
    rw [hXf, hXex, hXH, hXs] at u5
    have fr : H5 s3.heap.objs.size = none := by have := I5.free; rw [hXe] at this; exact this
    have hok5 := I5.hok
    rw [hXp, hXw] at hok5
    have hos : s5.os = s3.os := by have := I5.os; rw [hXs] at this; exact this
    have IX : Inv X pins σ H5 s5 := I3.o9 (s' := s5) (ch := fp) hos u5 hok5 I5.bare (fun b hb => by
      obtain ⟨g0, g1, g2, g3, g4, g5⟩ := f2 b hb
      exact ⟨g3, g1, g4, g5⟩)
    have cC : ∀ x c, X.env.cells.lookup x = some c -> c ≠ s3.heap.objs.size := fun x c z e => by
      obtain ⟨v, q⟩ := I3.cell x c z
      exact absurd q.lt (by rw [e]; exact Nat.lt_irrefl _)
    have pC : ∀ p ∈ X.pn ++ pins, p.1 ≠ s3.heap.objs.size := fun p hp e => by
      have := Heap.lt_size (I3.pin p hp).1
      rw [e] at this
      exact Nat.lt_irrefl _ this
    refine hfin acc s3.heap.objs.size H5 s5 oC (IX.jB fun p hp => ?_) cC I3.sz pC ⟨m, fun h' z => ⟨oC, esC, epC, z, hC2, hC3⟩⟩ q
    rcases List.mem_append.mp hp with z | z
    · exact IX.pin p (List.mem_append_right _ z)
    · have e := List.mem_singleton.mp z
      subst e
      refine ⟨hC1, fr, Nat.ne_of_gt I3.lt, I3.EM (Nat.le_refl _), fun v e => ?_⟩
      have e' : oC.data = .cell v := e
      rw [hC2] at e'; cases e'
  have IsC : ∀ {σ0 : St} {i : Nat} {v : Option V}, hJ 2 ix σ σ0 -> i < 2 -> hJ 2 ix σ (σ0.set i v) := fun {σ0 i v} ⟨ts, hl, e⟩ hi => ⟨ts.set i v, by rw [List.length_set]; exact hl, by rw [e, List.set_append_left _ _ (by rw [hl]; exact hi)]⟩
  have loop : ∀ tk, codeAny (model X.prog X.w) X.A (.compLoop (.ListComp elt [⟨tg, iter, [], 0⟩, ⟨tg2, iter2, [], 0⟩] scope pos) 0 (.ref it) (.ref acc) (compEnvC scope cl s3.heap.objs.size X.env))
      (compPost (model X.prog X.w) X.A X.xe use Q2 (.ref acc) s3.heap.objs.size) { s3 with heap := h₁, toks := tk } := fun tk => by
    refine we (fun n s' => ∃ i ys σ' H', Inv X' [] σ' H' s' /\ hJ 2 ix σ σ' /\ tn i s'.heap /\ (∀ b ∈ fp, H' b = none) /\ W i n ys H') (hs2 _) (fun n s5 h5 => ?_) m0
      ⟨0, [], oB tn'.length ix σ, H3, I4 tk, ⟨_, by rw [List.length_replicate]; exact h2n, rfl⟩, T.keep _ _ _ st3' fun b _ o q => keep4 b o q, fpn, w0⟩
    obtain ⟨i, ys, σ5, H5, I5, hσ, st5, fr5, w5⟩ := h5
    rcases turn i n ys H5 w5 with ⟨stop, q⟩ | ⟨go, step⟩
    · have d := T.done X' hXp hXw hXK hXc i [] s5 σ5 H5 (fun _ _ => False) I5 (stat fr5) st5 stop
      rw [hXA] at d
      refine thn d fun r s6 ⟨hr, I6⟩ => ?_
      subst hr
      exact fin I6 q
    · have d := T.item X' hXp hXw hXK hXc i [] s5 σ5 H5 (fun _ _ => False) I5 (stat fr5) st5 go
      rw [hXA] at d
      refine thn d fun r s6 ⟨u, hr, h6⟩ => ?_
      subst hr
      refine thn h6 fun _ s7 ⟨z, H7, I7, r7, y7, st7, fr7⟩ => ?_
      have I7' := I7.pinned (stat fr7) (T.obj _ _ st7)
      have again : ∀ {H9 : Hp} {s9 : Shared} {ys9 : List V} {σ9 : St}, Inv X' ([] ++ ir fp s7.heap) σ9 H9 s9 -> hJ 2 ix σ σ9 -> (∃ m', m' < n /\ W (i + 1) m' ys9 H9) -> ∃ m', m' < n /\ ∃ i ys σ' H', Inv X' [] σ' H' s9 /\ hJ 2 ix σ σ' /\ tn i s9.heap /\ (∀ b ∈ fp, H' b = none) /\ W i m' ys H' := fun {H9 s9 ys9 σ9} I9 c9 ⟨m', hm, w9⟩ => by
        refine ⟨m', hm, i + 1, ys9, _, H9, I9.gn, c9, T.keep _ _ _ st7 fun b hb o e => (I9.pin (b, o) (List.mem_append_right _ (List.mem_append_right _ (cU hb e)))).1, fun b hb => ?_, w9⟩
        obtain ⟨o, e, _⟩ := T.obj _ _ st7 b hb
        exact (I9.pin (b, o) (List.mem_append_right _ (List.mem_append_right _ (cU hb e)))).2.1
      have he' := he cl s3.heap.objs.size s3 H3 fp
      have hg' := hg cl s3.heap.objs.size s3 H3 fp
      have hg2' := hg2 cl s3.heap.objs.size s3 H3 fp
      have hi2' := hi2 cl s3.heap.objs.size s3 H3 fp
      rw [hX'] at he' hg' hg2' hi2'
      rw [<- hXe]
      have a0 := hg' _ s7 σ5 H7 z u (fun σ2 Hn => σ2 = σ5.set 0 (some z) /\ Hn = H7) I7' r7 ⟨rfl, rfl⟩
      rw [hXp, hXw, hXA, hXx] at a0
      refine thn a0 fun _ s8 ⟨σ8, H8, I8, e8, e8'⟩ => ?_
      subst e8 e8'
      have a1 := hi2' _ s8 _ H8 _ I8 (step σ5 z H8 hσ y7)
      rw [hXp, hXw, hXA, hXx] at a1
      refine thn a1 fun v2 s9 h9 => thn h9 fun itv2 s10 h10 => ?_
      obtain ⟨it2, fp2, tn2, J2, H10, e10, I10, T2, st10, f10, V, ⟨m2, v0⟩, turn2⟩ := h10
      subst e10
      rw [hXp, hXw, hXK] at T2
      have stat2 : ∀ {H' : Hp}, (∀ b ∈ fp2, H' b = none) -> ∀ b ∈ fp2, kH X' ([] ++ ir fp s7.heap) H' b := fun hn b hb => ⟨hn b hb, (f10 b hb).2⟩
      have inner : codeAny (model X.prog X.w) X.A (.compLoop (.ListComp elt [⟨tg, iter, [], 0⟩, ⟨tg2, iter2, [], 0⟩] scope pos) 1 (.ref it2) (.ref acc) X'.env) (fun r s' => match r with
          | .ok _ => ∃ m', m' < n /\ ∃ i ys σ' H', Inv X' [] σ' H' s' /\ hJ 2 ix σ σ' /\ tn i s'.heap /\ (∀ b ∈ fp, H' b = none) /\ W i m' ys H'
          | .error _ => False) s10 := by
        refine zR (fun m s' => ∃ j zs uo H', Inv X' ([] ++ ir fp s7.heap) ((σ5.set 0 (some z)).set 1 uo) H' s' /\ tn2 j s'.heap /\ (∀ b ∈ fp2, H' b = none) /\ V j m zs H') (fun m s11 h11 => ?_) m2 ⟨0, ys, ((σ5.set 0 (some z))[1]?).join, H10, ?_, st10, fun b hb => (f10 b hb).1, v0⟩
        · obtain ⟨j, zs, uo, H11, I11, st11, fr11, v11⟩ := h11
          rcases turn2 j m zs H11 v11 with ⟨stop2, q2⟩ | ⟨go2, step2⟩
          · have d := T2.done X' hXp hXw hXK hXc j _ s11 _ H11 (fun _ _ => False) I11 (stat2 fr11) st11 stop2
            rw [hXA] at d
            refine thn d fun r s12 ⟨hr, I12⟩ => ?_
            subst hr
            exact again I12 (IsC (IsC hσ (by decide)) (by decide)) q2
          · have d := T2.item X' hXp hXw hXK hXc j _ s11 _ H11 (fun _ _ => False) I11 (stat2 fr11) st11 go2
            rw [hXA] at d
            refine thn d fun r s12 ⟨u2, hr, h12⟩ => ?_
            subst hr
            refine thn h12 fun _ s13 ⟨z2, H13, I13, r13, y13, st13, fr13⟩ => ?_
            have I13' := I13.pinned (stat2 fr13) (T2.obj _ _ st13)
            have b0 := hg2' _ s13 _ H13 z2 u2 (fun σ2 Hn => σ2 = ((σ5.set 0 (some z)).set 1 uo).set 1 (some z2) /\ Hn = H13) I13' r13 ⟨rfl, rfl⟩
            rw [hXp, hXw, hXA, hXx] at b0
            refine thn b0 fun _ s14 ⟨σ14, H14, I14, e14, e14'⟩ => ?_
            subst e14 e14'
            rw [List.set_set] at I14
            have b1 := he' _ s14 _ H14 _ I14 (step2 z2 H14 y13)
            rw [hXp, hXw, hXA, hXx] at b1
            refine thn b1 fun yv s15 ⟨y, H15, I15, r15, ks, q1, q2, q3⟩ => ?_
            have b2 := dE (X := X') _ s15 _ H15 (.ref acc) [y] (.ref acc) [yv] (fun _ Hq => ∃ m', m' < m /\ V (j + 1) m' (ks ++ [y]) Hq) I15 rfl (.cons r15 .nil) ⟨acc, ks, y, rfl, rfl, q1, q2, q3⟩
            rw [hXp, hXw, hXA, hXx] at b2
            refine thn b2 fun _ s16 ⟨_, H16, I16, _, m', hm', w16⟩ => ?_
            refine ⟨m', hm', j + 1, ks ++ [y], some z2, H16, I16.gn, T2.keep _ _ _ st13 fun b hb o e => (I16.pin (b, o) (List.mem_append_right _ (List.mem_append_right _ (cU hb e)))).1, fun b hb => ?_, w16⟩
            obtain ⟨o, e, _⟩ := T2.obj _ _ st13 b hb
            exact (I16.pin (b, o) (List.mem_append_right _ (List.mem_append_right _ (cU hb e)))).2.1
        · have : (σ5.set 0 (some z)).set 1 ((σ5.set 0 (some z))[1]?).join = σ5.set 0 (some z) := by
            obtain ⟨ts, hl, e⟩ := hσ
            match ts, hl with
            | [p, q], _ => rw [e]; rfl
          rw [this]; exact I10
      refine zF inner ?_
      exact T2.self _ 0 _ _ _ st10 inner
  refine codeAny_compStart_list (loop _) ?_
  exact T.self _ 0 _ _ _ (T.keep _ _ _ st3' fun b _ o q => keep4 b o q) (loop _)
section
variable {X : Cx} {elt iter tg iter2 tg2 : Expr} {scope osc : Scope} {pos : Pos} {wi wi2 : TI} {te : TE}
theorem wQ (ix : List Nat) (tn' N' : List Str) (h2n : tn'.length = 2)
    (hc : X.calm = true) (ho : X.env.scope = osc) (hN : N' = tn' ++ ix.map fun i => (X.N[i]?).getD ("" : Str)) (hnd : N'.Nodup)
    (hall : (∀ y ∈ scope.names, y.2 = .free -> osc.names.lookup y.1 = some .cell) /\ (∀ y ∈ scope.names, y.2 ≠ .cell) /\ scope.kind = .function /\ (∀ y ∈ scope.names, y.2 = .local -> scope.names.lookup y.1 = some .local) /\ (∀ y ∈ N'.drop tn'.length, scope.names.lookup y = some .free))
    (hi : PI X tg iter wi) (hg : ∀ cl C ay aC fp, PG (aW X.nox scope cl C ay aC fp N') tg (eC 0)) (hi2 : ∀ cl C ay aC fp, PI (aW X.nox scope cl C ay aC fp N') tg2 iter2 wi2) (hg2 : ∀ cl C ay aC fp, PG (aW X.nox scope cl C ay aC fp N') tg2 (eC 1))
    (he : ∀ cl C ay aC fp, PE (aW X.nox scope cl C ay aC fp N') elt te)
    (hs : ∀ x, foldedSetIterable iter X.env x = pure x := by intro _; rfl) (hs2 : ∀ env x, foldedSetIterable iter2 env x = pure x := by intro _ _; rfl) :
    PE X (.ListComp elt [⟨tg, iter, [], 0⟩, ⟨tg2, iter2, [], 0⟩] scope pos) (ux wi ix wi2 te) := by
  intro pins s σ H Q I h
  have e : eval (.ListComp elt [⟨tg, iter, [], 0⟩, ⟨tg2, iter2, [], 0⟩] scope pos) X.env = comprehension (.ListComp elt [⟨tg, iter, [], 0⟩, ⟨tg2, iter2, [], 0⟩] scope pos) scope X.env (firstIterPos [⟨tg, iter, [], 0⟩, ⟨tg2, iter2, [], 0⟩] pos) (newList []) false (eval iter X.env) none := by
    rw [eval_ListComp]; rfl
  rw [e]
  refine tQ (use := none) (Q2 := EP X pins σ Q) ix N' hc ho hN hnd hall hi hg hi2 hg2 he hs hs2 h2n I h fun acc C H5 s5 o I5 cC hC pC hm q => ?_
  obtain ⟨m, hm⟩ := hm
  exact ⟨m, hm _ (I5.pin (C, o) (List.mem_append_right _ (List.mem_append_right _ (List.mem_singleton.mpr rfl)))).1, fun h' hs' => ⟨.ref acc, H5, I5.F3 cC hC pC hs', rfl, q⟩⟩
end
end L2
namespace L2.FE
open PySem PySem.Spec PyProof.Rows
noncomputable def gT (mi : MI) (ix : List Nat) (mi2 : MI) (te : ME) : ME := fun env h => (mi env h).bind fun sr h1 => noR (qF (fun _ h => .ok sr h) ix mi2 te env h1)
section
variable {K : PySem.W.Frag} {g : GG}
theorem tT {ε : EE} {mi mi2 : MI} {te : ME} {ix : List Nat} {σ : St} {H : Hp} {Q : VK} (t : tM K g ε (gT mi ix mi2 te) σ H Q) : ux (tMI K g ε mi) ix (tMI K g E00 mi2) (tM K g E00 te) σ H Q := by
  obtain ⟨α, env, h, s, w⟩ := t
  unfold gT at w
  refine ⟨α, env, h, s, w.bind.mono fun sr h1 _ w1 J H1 α1 e1 hr1 rd => fun acc hacc => ?_⟩
  have w1 : WQ K g E00 α H ((oD h1.length sr.rdr mi2 te (gp ix env) (sr.fuel h1) 0 (h1 ++ [.lst []])).bind fun _ h2 => .ok (.ref h1.length) h2) (aE K g α H Q) := mP w1
  have s1 := s.ext e1 hr1
  have xp : Ext K α1 H1 (α1 ++ [acc]) (upd H1 acc (.lst [])) := Ext.push hacc
  have hrp : aN K g (α1 ++ [acc]) (upd H1 acc (.lst [])) (h1 ++ [.lst []]) := hr1.push hacc ⟨[], aH, .nil⟩
  have p0 : (α1 ++ [acc])[h1.length]? = some acc := by rw [<- hr1.len]; simp
  refine ⟨fun i m ys H => ∃ α h, Ext K α1 H1 α H /\ α[h1.length]? = some acc /\ aN K g α H h ∧
    WQ K g E00 α1 H1 ((oD h1.length sr.rdr mi2 te (gp ix env) m i h).bind fun _ h2 => .ok (.ref h1.length) h2) (aE K g α1 H1 Q),
    ⟨sr.fuel h1, _, _, xp, p0, hrp, w1.post e1⟩, ?_⟩
  rintro i m ys H2 ⟨α2, h2, x2, p2, hr2, w2⟩
  have q := rd α2 H2 h2 x2 hr2 i
  unfold oD at w2
  cases e : sr.rdr h2 i with
  | none => rw [e] at w2; exact w2.elim
  | some od =>
    rw [e] at w2 q
    cases od with
    | none => exact .inl ⟨q, (show aE K g α1 H1 Q (.ref h1.length) h2 from w2) _ _ _ x2 hr2 (.ref p2)⟩
    | some d =>
      cases m with
      | zero => exact w2.elim
      | succ m =>
        rw [bA] at w2
        have w3 := WQ.bind (show WQ K g E00 α1 H1 ((mi2 (gp ix env (some d) none) h2).bind _) _ from w2)
        refine .inr ⟨q.1, fun σ0 x H3 hcap y => ?_⟩
        obtain ⟨ts, hl, hσ0⟩ := hcap
        match ts, hl with
        | [v0, q0], _ =>
        subst hσ0
        obtain ⟨α3, x3, hr3, rx⟩ := q.2 x H3 y
        have s3 : cW K g α3 H3 (gp ix env (some d) none) (some x :: q0 :: ix.map fun i => (σ[i]?).join) h2 := ⟨hr3, sg (s1.vs.ext (x2.trans x3)) (fun d' hd => by cases hd; exact ⟨x, rfl, rx⟩) (fun d' hd => by cases hd)⟩
        refine ⟨α3, _, h2, s3, ((w3.ext x2).ext x3).mono fun sr2 h4 _ w4 J2 H4 α4 x4 hr4 rd2 => ?_⟩
        have x14 := x2.trans (x3.trans x4)
        have p4 := qt (x3.trans x4) p2
        refine ⟨fun j m2 zs H => ∃ α h, Ext K α4 H4 α H /\ aN K g α H h ∧
          WQ K g E00 α1 H1 (((sS h1.length sr2.rdr te (fun e => gp ix env (some d) (some e)) m2 j h).bind fun _ h2 => oD h1.length sr.rdr mi2 te (gp ix env) m (i + 1) h2).bind fun _ h2 => .ok (.ref h1.length) h2) (aE K g α1 H1 Q),
          ⟨sr2.fuel h4, α4, h4, Ext.refl, hr4, w4⟩, ?_⟩
        rintro j m2 zs H5 ⟨α5, h5, x5, hr5, w5⟩
        have q2 := rd2 α5 H5 h5 x5 hr5 j
        have p5 := qt x5 p4
        unfold sS at w5
        cases e2 : sr2.rdr h5 j with
        | none => rw [e2] at w5; exact w5.elim
        | some od2 =>
          rw [e2] at w5 q2
          cases od2 with
          | none => exact .inl ⟨q2, m, Nat.lt_succ_self _, α5, h5, x14.trans x5, p5, hr5, w5⟩
          | some d2 =>
            cases m2 with
            | zero => exact w5.elim
            | succ m2 =>
              have w6 : WQ K g E00 α1 H1 ((te (gp ix env (some d) (some d2)) h5).bind fun y h2 => (((An h1.length y h2).bind fun _ h3 => sS h1.length sr2.rdr te (fun e => gp ix env (some d) (some e)) m2 (j + 1) h3).bind fun _ h2 => oD h1.length sr.rdr mi2 te (gp ix env) m (i + 1) h2).bind fun _ h2 => .ok (.ref h1.length) h2) (aE K g α1 H1 Q) := by
                have := w5
                simp only [bA] at this ⊢
                exact this
              refine .inr ⟨q2.1, fun yv H6 yy => ?_⟩
              obtain ⟨α6, x6, hr6, ry⟩ := q2.2 yv H6 yy
              have s6 : cW K g α6 H6 (gp ix env (some d) (some d2)) (some x :: some yv :: ix.map fun i => (σ[i]?).join) h5 := ⟨hr6, sg (s1.vs.ext (x14.trans (x5.trans x6))) (fun d' hd => by cases hd; exact ⟨x, rfl, rx.ext (x4.trans (x5.trans x6))⟩) (fun d' hd => by cases hd; exact ⟨yv, rfl, ry⟩)⟩
              refine tM.use s6 ((WQ.bind w6).ext (x14.trans (x5.trans x6))) fun y h7 v7 H7 α7 x7 s7 r7 w7 => ?_
              have p7 := qt (x6.trans x7) p5
              unfold An at w7
              cases el : aw h7 h1.length with
              | none => rw [el] at w7; exact w7.elim
              | some ds =>
                rw [el] at w7
                dsimp only at w7
                by_cases hlen : ds.length < 1000000
                · rw [if_pos hlen] at w7
                  obtain ⟨vs, hv, rs⟩ := s7.heap.lst el p7
                  have x := Ext.write (K := K) (o := .lst (vs ++ [v7])) s7.heap p7
                  exact ⟨vs, hv, by rw [<- rs.length, sizeLine_eq]; omega, m2, Nat.lt_succ_self _, α7, _, (x5.trans (x6.trans x7)).trans x, s7.heap.write (u' := .lst (ds ++ [y])) p7 ⟨_, aH, (rs.append (.cons r7 .nil)).ext x⟩, w7⟩
                · rw [if_neg hlen] at w7; exact w7.elim
end
section
variable {X : Cx} {g : GG}
theorem oN {ε : EE} {elt iter iter2 : Expr} {x y : Str} {px py : Pos} {scope osc : Scope} {pos : Pos} {mi mi2 : MI} {te : ME} (ix : List Nat) (N' : List Str)
    (hc : X.calm = true) (ho : X.env.scope = osc) (hN : N' = [x, y] ++ ix.map fun i => (X.N[i]?).getD ("" : Str)) (hnd : N'.Nodup)
    (hall : (∀ y ∈ scope.names, y.2 = .free -> osc.names.lookup y.1 = some .cell) /\ (∀ y ∈ scope.names, y.2 ≠ .cell) /\ scope.kind = .function /\ (∀ y ∈ scope.names, y.2 = .local -> scope.names.lookup y.1 = some .local) /\ (∀ z ∈ N'.drop [x, y].length, scope.names.lookup z = some .free))
    (hi : PI X (.Name x px) iter (tMI X.K g ε mi))
    (hx : ∀ cl C ay aC fp, Loc (aW X.nox scope cl C ay aC fp N').env.scope x /\ (aW X.nox scope cl C ay aC fp N').env.scope.names.lookup x = some .local) (hy : ∀ cl C ay aC fp, Loc (aW X.nox scope cl C ay aC fp N').env.scope y /\ (aW X.nox scope cl C ay aC fp N').env.scope.names.lookup y = some .local)
    (hi2 : ∀ cl C ay aC fp, PI (aW X.nox scope cl C ay aC fp N') (.Name y py) iter2 (tMI X.K g E00 mi2))
    (he : ∀ cl C ay aC fp, PE (aW X.nox scope cl C ay aC fp N') elt (tM X.K g E00 te))
    (hs : ∀ x, foldedSetIterable iter X.env x = pure x := by intro _; rfl) (hs2 : ∀ env x, foldedSetIterable iter2 env x = pure x := by intro _ _; rfl) :
    PE X (.ListComp elt [⟨.Name x px, iter, [], 0⟩, ⟨.Name y py, iter2, [], 0⟩] scope pos) (tM X.K g ε (gT mi ix mi2 te)) :=
  PE.imp (wQ ix [x, y] N' rfl hc ho hN hnd hall hi (fun cl C ay aC fp => bf (X := aW X.nox scope cl C ay aC fp N') hnd (show N'[0]? = some x by rw [hN]; rfl) (hx cl C ay aC fp).1 (.inr (hx cl C ay aC fp).2)) hi2 (fun cl C ay aC fp => bf (X := aW X.nox scope cl C ay aC fp N') hnd (show N'[1]? = some y by rw [hN]; rfl) (hy cl C ay aC fp).1 (.inr (hy cl C ay aC fp).2)) he hs hs2) fun σ H Q t => tT t
end
section
variable {env : En} {h : Hh}
@[simp] theorem Gw {mi mi2 : MI} {ix : List Nat} {te : ME} : gT mi ix mi2 te env h = (mi env h).bind fun sr h1 => noR (qF (fun _ h => .ok sr h) ix mi2 te env h1) := Eq.trans rfl rfl
end
section
variable {X : Cx} {g : GG} {ε : EE} {K : PySem.W.Frag}
theorem vX (hc : X.calm = true) : a_ X (.builtin "max") (fun vs H Q => ∃ (p : Addr) (ns : List Int), vs = [.ref p] /\ SqT X.K H p (ns.map V.int) /\ 0 < ns.length /\ Q (.int (fA ns)) H) := by
  intro pins s σ H xs us Q I r h
  obtain ⟨p, ns, rfl, hq, hpos, q⟩ := h
  obtain ⟨u, rfl, rx⟩ := vals1 r
  cases rx
  have hh : X.A.in1.handled = none := I.ok.hd hc
  obtain ⟨its, rv, pl, hz⟩ := I.tuple hq
  have hl : its.toArray.size = ns.length := by rw [List.size_toArray, <- rv.length, List.length_map]
  have val : ∀ i v, its.toArray[i]? = some v -> ∃ t : Tok, v = Value.int (ns.getD i 0) t := fun i v e => by
    obtain ⟨x, hx, rxv⟩ := rv.get' (show its[i]? = some v by simpa using e)
    rw [List.getElem?_map] at hx
    cases en : ns[i]? with
    | none => rw [en] at hx; cases hx
    | some z =>
      rw [en] at hx
      cases hx
      obtain ⟨t, e⟩ := rxv
      exact ⟨t, by rw [List.getD_eq_getElem?_getD, en]; exact e⟩
  have plt : p < s.heap.objs.size := by obtain ⟨o, e, _⟩ := pl; exact Heap.lt_size e
  have hne : p ≠ s.heap.objs.size := Nat.ne_of_lt plt
  refine call_max_walk (wpAny_pyIter_tuple pl ?_)
  refine ⟨s.heap.objs.size, _, _, its.toArray.size, _, _, _, rfl, Walks.tuple (prog := X.prog) (w := X.w) hh s.heap.objs.size p hne its.toArray, ⟨⟨_, Heap.get?_push_size _ rfl, rfl, rfl⟩, ?_⟩, fun b hb => ?_, by omega, CmpOf.ints_gt (fun i => ns.getD i 0) val, fun v h' tk hv hk => ?_⟩
  · exact (show s.heap.IsTuple p its.toArray from pl).at fun o e => Heap.get?_push_of_some _ e
  · simp at hb
    rcases hb with rfl | rfl
    · exact Heap.lt_size (Heap.get?_push_size _ rfl)
    · exact Nat.lt_trans plt (Heap.lt_size (Heap.get?_push_size _ rfl))
  · obtain ⟨t, rfl⟩ := val _ _ hv
    refine ⟨.int (fA ns), H, ?_, ⟨t, by rw [hl]; rfl⟩, q⟩
    exact I.kept (h' := h') (t' := tk) fun b u e => hk b u (by simp; exact Nat.ne_of_lt (Heap.lt_size e)) (Heap.get?_push_of_some _ e)
noncomputable def jX : List D -> Hh -> R D := fun ds h => match ds with
  | [.tup es] => (match intsOf es with
    | some ns => if 0 < ns.length then .ok (.int (fA ns)) h else .bad
    | none => .bad)
  | ds => md ds h
noncomputable abbrev zh (K : PySem.W.Frag) : List V -> Hp -> VK -> Prop := fun vs H Q => (∃ (p : Addr) (ns : List Int), vs = [.ref p] /\ SqT K H p (ns.map V.int) /\ 0 < ns.length /\ Q (.int (fA ns)) H) \/ (∃ (p : Addr) (ns : List Int), vs = [.ref p] /\ SqL K H p (ns.map V.int) /\ 0 < ns.length /\ Q (.int (fA ns)) H)
theorem oR (hc : X.calm = true) : a_ X (.builtin "max") (zh X.K) := a_.or (vX hc) (wb hc)
theorem uQ : ki K g ε jX (zh K) := by
  intro α H h a x Q r ra w
  unfold jX at w
  split at w
  · rename_i es
    cases ra with
    | cons rd rr =>
      cases rr
      cases rd with
      | tup hq rs =>
        cases e2 : intsOf es with
        | none => rw [e2] at w; exact w.elim
        | some ns =>
          rw [e2] at w
          obtain ⟨hl, w⟩ := WQ.dG w
          have e3 := eA e2
          subst e3
          rw [rs.uI] at hq
          exact .inl ⟨_, ns, rfl, SqT.of hq, hl, aE.now w r (.int _)⟩
  · exact .inr (Cp α H h a x Q r ra w)
end
section
variable {h : Hh}
theorem x_ {ns : List Int} (hp : 0 < ns.length) : jX [.tup (ns.map D.int)] h = .ok (.int (fA ns)) h := by
  delta jX; dsimp only; rw [gS]; exact if_pos hp
theorem Dp {n : Nat} : jX [.ref n] h = md [.ref n] h := rfl
end
variable {X : Cx} {g : GG}
theorem CM {K : PySem.W.Frag} {ε : EE} {mi : MI} {ix : List Nat} {tt : TT} {te : TE} {σ : St} {H : Hp} {Q : VK} (t : De (tMI K g ε mi) ix tt te σ H Q) : rn (tMI K g ε mi) 1 ix (eC 0) tt te σ H Q := by
  obtain ⟨α, env, h, s, w⟩ := t
  refine ⟨α, env, h, s, w.mono fun sr h1 _ z J H' α' e hr rd acc ha => ?_⟩
  obtain ⟨W, w0, st⟩ := z J H' α' e hr rd acc ha
  refine ⟨W, w0, fun i m ys H1 hw => (st i m ys H1 hw).imp id fun ⟨a, b⟩ => ⟨a, fun σ0 x H2 hc hy => ?_⟩⟩
  obtain ⟨ts, tl, rfl⟩ := hc
  match ts, tl with
  | [t0], _ => exact ⟨⟨[some x], rfl, rfl⟩, b x H2 hy⟩
theorem jA {nl : NL} [iF nl] {elt iter : Expr} {x : Str} {px : Pos} {ifs : List Expr} {scope osc : Scope} {pos : Pos} {mi : MI} {tt : MT} {te : ME} (ix : List Nat) (N' : List Str)
    (hxe : X.xe = fun _ _ => False) (hc : X.calm = true) (ho : X.env.scope = osc) (hN : N' = x :: ix.map fun i => (X.N[i]?).getD ("" : Str)) (hnd : N'.Nodup)
    (hall : (∀ y ∈ scope.names, y.2 = .free -> osc.names.lookup y.1 = some .cell) /\ (∀ y ∈ scope.names, y.2 ≠ .cell) /\ scope.kind = .function /\ (∀ y ∈ scope.names, y.2 = .local -> scope.names.lookup y.1 = some .local) /\ scope.names.lookup x = some .local /\ (∀ y ∈ N'.tail, scope.names.lookup y = some .free))
    (hi : PI X (.Name x px) iter (tMI X.K g E00 mi))
    (ht : ∀ cl C ay aC fp, PTs (aW X scope cl C ay aC fp N') ifs (tMT X.K g E00 tt))
    (he : ∀ cl C ay aC fp, PE (aW X scope cl C ay aC fp N') elt (tM X.K g E00 te))
    (hs : ∀ x, foldedSetIterable iter X.env x = pure x := by intro _; rfl) :
    PE X (.ListComp elt [⟨.Name x px, iter, ifs, 0⟩] scope pos) (tM X.K g E00 (eg nl mi ix tt te)) := by
  refine PE.imp (PE.frz (tw (tgr := eC 0) ix [x] N' hxe hc ho hN hnd ⟨hall.1, hall.2.1, hall.2.2.1, hall.2.2.2.1, fun y hy => hall.2.2.2.2.2 y (by rw [hN] at hy ⊢; exact hy)⟩ hi (fun cl C ay aC fp => bf (X := aW X scope cl C ay aC fp N') hnd (show N'[0]? = some x by rw [hN]; rfl) (.inl (lookup_relabel_local hall.2.2.2.2.1)) (.inr (lookup_relabel_local hall.2.2.2.2.1))) ht he hs)) fun σ H Q t => ?_
  exact CM (zJ (fun _ _ z => z) t)
end L2.FE
namespace FC
open PySem L2 L2.FE
noncomputable def bM : MF := cf 2 (aB (cT (aM asB (au dLt (ag 1) (ah bR (aa (ag 0) ai)))) (bj (au dIx (ag 0) (ag 1))) bH)
    (bj (cC (.int 0))))
noncomputable def b9 : MF := cf 2 (aB (bq 1 (ah zN (aa (ag 0) (aa (au kQ (cC (.int 0)) (ag 0)) ai))))
    (bj (ah (bT eT) (aa (ag 1) (aa (ah zO (aa (au dGe (ag 1) (au CJ (cC (.int 10)) (cC (.int 18)))) ai)) (aa (au sU (ag 1) (cC (.int 1000003))) ai))))))
noncomputable def dF : MF := cf 1 (aB (bq 0 (au sU (au (cL aF) (ag 0) (cC (.int 7919))) (cC (.int 2147483647))))
    (bj (au sU (au (cL aF) (au (cL aF) (au (jC aF) (ag 0) (ag 0)) (au (jC aF) (cC (.int 48271)) (ag 0))) (cC (.int 12345))) (cC (.int 2147483629)))))
noncomputable def aD : MF := cf 3 (aB (cT (zi (aM asB (au dEq (au dIx (ag 0) (cC (.int 1))) (cC (.int 1)))) (aM asB (au dGt (au dIx (ag 0) (cC (.int 0))) (cC (.int 0))))) (aB (bq 2 (au sU (au dIx (ag 0) (cC (.int 0))) (ag 1)))
    (aB (eE df (ag 0) (cC (.int 0)) (au zQ (au dIx (ag 0) (cC (.int 0))) (ag 1)))
    (bj (ag 2)))) bH)
    (aB (eE df (ag 0) (cC (.int 2)) (ah dF (aa (au (cL aF) (ah dF (aa (au dIx (ag 0) (cC (.int 2))) ai)) (cC (.int 7))) ai)))
    (bj (au sU (au zQ (au dIx (ag 0) (cC (.int 2))) (cC (.int 64))) (ag 1)))))
noncomputable def bW : MF := fun ds h => ((cf 3 (aB (bq 2 (ah (ka eT) (aa (ag 1) ai)))
    (bj (ah a8 (aa (eg aF (iq jW (aa (ag 1) ai)) [2, 0] tt1 (cz sN (ag 1) (aa (ah aD (aa (ag 2) (aa (ah bR (aa (ag 1) ai)) ai))) ai))) ai))))) ds h).bind (bx h)
noncomputable def cQ : MF := jk (fun ds h => ((cf 4 (aB (bq 1 (ah fQ ai))
    (aB (dg (iq jW (aa (ah bR (aa (ag 0) ai)) ai)) (gN 2) (aB (bq 3 (ah (bT eT) (aa (ag 2) ai)))
    (aB (kD 64 (aM asB (au dNe (au dIx (ag 0) (au dIx (ag 3) (cUn eL (cC (.int 1))))) (ag 2))) (cb (cz bE (ag 3) (aa (au dIx (ag 0) (au dIx (ag 3) (cUn eL (cC (.int 1))))) ai))))
    (cT (aM asB (au dEq (ah jX (aa (ag 3) ai)) (ag 2))) (bq 1 (au (cL aF) (ag 1) (ah a8 (aa (ag 3) ai)))) bH))))
    (bj (ag 1))))) ds h).bind (bx h))
noncomputable def bF : MF := jk (fun ds h => ((cf 7 (aB (bq 1 (ah (bT eT) ai))
    (aB (dg (fC (ag 0)) (gT2 2 3) (aB (cT (aM asB (au dEq (ag 3) (ah jX (aa (cA aF (ag 0) b8 (di (au (cL aF) (ag 2) (cC (.int 1))))) ai)))) (cb (cz bE (ag 1) (aa (ah (bT eT) ai) ai))) bH)
    (cb (cz bE (au dIx (ag 1) (cUn eL (cC (.int 1)))) (aa (ag 3) ai)))))
    (aB (bq 4 (au (jC eT) (ah (bT aF) (aa (cC (.int 0)) ai)) (ah bR (aa (ag 0) ai))))
    (aB (dg (dm (ag 1)) (gN 5) (dg (fC (ag 5)) (gT2 6 3) (eE df (ag 4) (au dIx (ag 5) (au kQ (ag 6) (cC (.int 1)))) (ag 3))))
    (bj (ah a8 (aa (ag 4) ai)))))))) ds h).bind (bx h))
noncomputable def fk : MF := cf 2 (aB (bq 1 (ah (bT aF) (aa (cUn (pX "NoOrder") (ag 0)) (aa (cUn (pX "NoNumber") (ag 0)) (aa (cUn (pX "NoSet") (ag 0)) (aa (cUn (pX "NoRow") (ag 0)) ai))))))
    (aB (bq 1 (au (cL aF) (ag 1) (ah (bT aF) (aa (cUn (pX "NoLine") (ag 0)) (aa (cUn (pX "NoText") (ag 0)) (aa (cUn (pX "TooGreat") (ag 0)) ai))))))
    (aB (cT (r_ (iE (aM oF (cUn E9 (ag 0)))) (aM asB (au dNe (cz qp (ag 1) (aa (cC (.bl true)) ai)) (cC (.int 1))))) (bj (cC (.str "other"))) bH)
    (bj (au dIx (ah (bT aF) (aa (cC (.str "order")) (aa (cC (.str "number")) (aa (cC (.str "set")) (aa (cC (.str "row")) (aa (cC (.str "line")) (aa (cC (.str "text")) (aa (cC (.str "great")) ai)))))))) (cz qS (ag 1) (aa (cC (.bl true)) ai)))))))
noncomputable def bN : MF := cf 2 (aB (bq 1 (ah fk (aa (ag 0) ai)))
    (bj (cIf (aM asB (au dEq (ag 1) (cC (.str "great")))) (ah fQ (aa (ag 1) (aa (fun _ _ => .bad) (aa (fun _ _ => .bad) ai)))) (ah fQ (aa (ag 1) ai)))))
noncomputable def eP : MF := cf 1 (bj (vA (cUn (nK "int") (ag 0)) (yN (cUn (nK "bool") (ag 0)))))
noncomputable def cS : MF := cf 3 (bj (vA (ah eP (aa (ag 0) ai)) (jw dLe dLe (ag 1) (ag 0) (ag 2))))
noncomputable def bV : MF := fun ds h => ((cf 2 (aB (cT (r_ (iE (aM oF (cUn (nK "tuple") (ag 0)))) (iE (aM asB (jw dLe dLe (cC (.int 1)) (ah bR (aa (ag 0) ai)) (cC (.int 20)))))) (bj (cC (.bl false))) bH)
    (aB (dg (dm (ag 0)) (gN 1) (cT (iE (aM oF (ah cS (aa (ag 1) (aa (cC (.int 0)) (aa (au kQ (ah bR (aa (ag 0) ai)) (cC (.int 1))) ai)))))) (bj (cC (.bl false))) bH))
    (bj (au dEq (ah bR (aa (ah rF (aa (ag 0) ai)) ai)) (ah bR (aa (ag 0) ai))))))) ds h).bind (bx h)
noncomputable def aK : MF := cf 1 (cT (up (iE (aM oF (ah bV (aa (ag 0) ai))))) (ue "NoOrder") bH)
noncomputable def bX : MF := jk (fun ds h => ((cf 3 (aB (bq 2 (ah (bT eT) (aa (ag 1) ai)))
    (aB (kD 64 (aM asB (au dNe (au dIx (ag 0) (au dIx (ag 2) (cUn eL (cC (.int 1))))) (ag 1))) (cb (cz bE (ag 2) (aa (au dIx (ag 0) (au dIx (ag 2) (cUn eL (cC (.int 1))))) ai))))
    (bj (ah a8 (aa (ag 2) ai)))))) ds h).bind (bx h))
noncomputable def bu : MF := fun ds h => ((cf 6 (aB (cb (ah aK (aa (up (ag 0)) ai)))
    (aB (up (bq 1 (ah (bT eT) ai)))
    (aB (up (bq 2 (ah jS ai)))
    (aB (up (dg (iq i_ (aa (au kQ (ah bR (aa (ag 0) ai)) (cC (.int 1))) (aa (cUn eL (cC (.int 1))) (aa (cUn eL (cC (.int 1))) ai)))) (gN 3) (cT (aM asB (au (rT true) (ag 3) (ag 2))) (aB (bq 4 (ah bX (aa (ag 0) (aa (ag 3) ai))))
    (aB (cb (cz bE (ag 1) (aa (ag 4) ai)))
    (dg (dm (ag 4)) (gN 5) (cb (kO i9 (ag 2) (aa (ag 5) ai)))))) bH)))
    (up (bj (cUn (g_ aF) (ag 1))))))))) ds h).bind (bx h)
noncomputable def ft : MF := fun ds h => ((cf 1 (bj (ah a8 (aa (gT (dm (ah bu (aa (up (ag 0)) ai))) [] (dm (ag 0)) (ag 1)) ai)))) ds h).bind (bx h)
noncomputable def bJ : MF := fun ds h => ((cf 5 (aB (cb (ah aK (aa (up (ag 0)) ai)))
    (aB (up (bq 1 (au (jC eT) (ah (bT aF) (aa (cC (.int 0)) ai)) (ah bR (aa (ag 0) ai)))))
    (aB (up (bq 2 (au dIx (ag 0) (cC (.int 0)))))
    (aB (up (dg (pG (aa (ag 0) (aa (au (cL aF) (cA aF (ag 0) (di (cC (.int 1))) b8) (ah fQ (aa (ah bR (aa (ag 0) ai)) ai))) ai))) (gT2 3 4) (cT (aM asB (au dGt (ag 4) (ag 2))) (aB (eE df (ag 1) (ag 3) (ag 2))
    (bq 2 (ag 4))) (eE df (ag 1) (ag 3) (ag 4)))))
    (up (bj (ah a8 (aa (ag 1) ai))))))))) ds h).bind (bx h)
noncomputable def dz : MF := cf 1 (aB (cb (ah aK (aa (up (ag 0)) ai)))
    (up (bj (ah a8 (aa (eg aF (fC (ag 0)) [] (unp (aM asB (au dGt (ag 1) (ag 0)))) (unp (ag 0))) ai)))))
noncomputable def dv : MF := cf 1 (aB (cb (ah aK (aa (up (ag 0)) ai)))
    (up (bj (ah a8 (aa (eg aF (fC (ag 0)) [] (unp (aM asB (au dLt (ag 1) (ag 0)))) (unp (ag 0))) ai)))))
noncomputable def eJ : Str -> Option MF := fun x => if x = "laid" then some ft else if x = "taken_up" then some bJ else if x = "rounds_of" then some bu else if x = "lifts_of" then some dz else if x = "drops_of" then some dv else none
@[simp] theorem Eb : eJ "laid" = some ft := by kernel_rfl
@[simp] theorem yn : eJ "taken_up" = some bJ := by kernel_rfl
@[simp] theorem xx : eJ "rounds_of" = some bu := by kernel_rfl
@[simp] theorem zE : eJ "lifts_of" = some dz := by kernel_rfl
@[simp] theorem AA : eJ "drops_of" = some dv := by kernel_rfl
noncomputable def aI : MF := cf 3 (qU (bj (ny eJ (up (au dIx (ah (bT aF) (aa (cC (.fn "laid")) (aa (cC (.fn "taken_up")) (aa (cC (.fn "rounds_of")) (aa (cC (.fn "lifts_of")) (aa (cC (.fn "drops_of")) ai)))))) (ag 0))) (aa (up (ag 1)) ai))) bN)
noncomputable def aU : MF := cf 1 (cT (iE (aM oF (ah bV (aa (ag 0) ai)))) HJ bH)
noncomputable def eB : MF := jk (fun ds h => ((cf 6 (aB (cb (ah aU (aa (ag 0) ai)))
    (aB (bq 1 (ah (bT eT) ai))
    (aB (bq 2 (ah jS ai))
    (aB (dg (iq i_ (aa (au kQ (ah bR (aa (ag 0) ai)) (cC (.int 1))) (aa (cUn eL (cC (.int 1))) (aa (cUn eL (cC (.int 1))) ai)))) (gN 3) (cT (aM asB (au (rT true) (ag 3) (ag 2))) (aB (bq 4 (ah bX (aa (ag 0) (aa (ag 3) ai))))
    (aB (cb (cz bE (ag 1) (aa (ag 4) ai)))
    (dg (dm (ag 4)) (gN 5) (cb (kO i9 (ag 2) (aa (ag 5) ai)))))) bH))
    (bj (cUn (g_ aF) (ag 1)))))))) ds h).bind (bx h))
noncomputable def fV : MF := fun ds h => ((cf 1 (bj (ah a8 (aa (gT (dm (ah eB (aa (ag 0) ai))) [] (dm (ag 0)) (ag 1)) ai)))) ds h).bind (bx h)
noncomputable def dw : MF := fun ds h => ((cf 5 (aB (cb (ah aU (aa (ag 0) ai)))
    (aB (bq 1 (au (jC eT) (ah (bT aF) (aa (cC (.int 0)) ai)) (ah bR (aa (ag 0) ai))))
    (aB (bq 2 (au dIx (ag 0) (cC (.int 0))))
    (aB (dg (pG (aa (ag 0) (aa (au (cL aF) (cA aF (ag 0) (di (cC (.int 1))) b8) (ah fQ (aa (ah bR (aa (ag 0) ai)) ai))) ai))) (gT2 3 4) (cT (aM asB (au dGt (ag 4) (ag 2))) (aB (eE df (ag 1) (ag 3) (ag 2))
    (bq 2 (ag 4))) (eE df (ag 1) (ag 3) (ag 4))))
    (bj (ah a8 (aa (ag 1) ai)))))))) ds h).bind (bx h)
noncomputable def cx : MF := cf 1 (bj (eg aF (iq jW (aa (au kQ (ah bR (aa (ag 0) ai)) (cC (.int 1))) ai)) [0] (aM asB (au dGt (au dIx (ag 1) (ag 0)) (au dIx (ag 1) (au (cL aF) (ag 0) (cC (.int 1)))))) (ag 0)))
noncomputable def dB : MF := cf 1 (aB (cb (ah aU (aa (ag 0) ai)))
    (bj (ah a8 (aa (eg aF (fC (ag 0)) [] (unp (aM asB (au dLt (ag 1) (ag 0)))) (unp (ag 0))) ai))))
noncomputable def lU : MF := fun ds h => ((cf 10 (aB (dg (dm (au (cL aF) (ah (bT aF) (aa (ah bM (aa (ag 0) (aa (cC (.int 0)) ai))) ai)) (cA aF (ag 0) (di (cC (.int 1))) (di (cC (.int 5)))))) (gN 1) (aB (bq 2 (ah b9 (aa (ag 1) ai)))
    (aB (qY 3 4 (aa (ah aD (aa (ag 2) (aa (cC (.int 5)) ai))) (aa (au (cL aF) (cC (.int 1)) (ah aD (aa (ag 2) (aa (cC (.int 20)) ai)))) ai)))
    (aB (qY 5 6 (aa (ah aD (aa (ag 2) (aa (ag 4) ai))) (aa (au dIx (ah (bT aF) (aa (au (cL aF) (ag 4) (cC (.int 1))) (aa (cUn eL (cC (.int 1))) (aa (cC (.bl true)) (aa (cC .non) (aa (cC (.str "0")) (aa (ah (bT aF) (aa (cC (.int 0)) ai)) (aa (cC .edic) (aa (ah fQ (aa (cC (.int 0)) ai)) ai))))))))) (ah aD (aa (ag 2) (aa (cC (.int 8)) ai)))) ai)))
    (aB (bq 7 (ah bW (aa (ag 2) (aa (ag 4) ai))))
    (aB (cT (aM asB (au dLt (ag 3) (cC (.int 2)))) (bq 7 (au dIx (ah (bT aF) (aa (ah fG (aa (ag 4) ai)) (aa (cUn (g_ aF) (ah fG (aa (ag 4) ai))) ai))) (ag 3))) bH)
    (aB (bq 8 (ah (bT aF) (aa (ah cQ (aa (ag 7) ai)) (aa (ah bF (aa (ag 7) ai)) ai))))
    (aB (cT (aM asB (au dNe (ah jZ (aa (eg aF (iq jW (aa (cC (.int 2)) ai)) [7] tt1 (ah aI (aa (ag 0) (aa (ag 1) ai)))) ai)) (ah jZ (aa (ag 8) ai)))) (bj (cC (.bl false))) bH)
    (aB (cT (r_ (aM asB (au dNe (ah aI (aa (cC (.int 1)) (aa (ah fV (aa (ag 7) ai)) ai))) (ag 7))) (aM asB (au dNe (ah aI (aa (cC (.int 0)) (aa (ah dw (aa (ag 7) ai)) ai))) (ag 7)))) (bj (cC (.bl false))) bH)
    (aB (cT (aM asB (au dNe (ah bR (aa (ah cx (aa (ah fV (aa (ag 7) ai)) ai)) ai)) (ah bR (aa (ah dB (aa (ag 7) ai)) ai)))) (bj (cC (.bl false))) bH)
    (dg (dm (ah (bT aF) (aa (au (cL aF) (au (cL aF) (cA aF (ag 7) b8 (di (ag 5))) (ah fQ (aa (ag 6) ai))) (cA aF (ag 7) (di (ag 5)) b8)) (aa (ah (dList aF) (aa (ag 7) ai)) (aa (ah fQ ai) (aa (cC .non) (aa (ah fG (aa (cC (.int 21)) ai)) (aa (au (cL aF) (ag 7) (cA aF (ag 7) b8 (di (cC (.int 1))))) ai)))))))) (gN 9) (cT (aM asB (au dNe (eg aF (iq jW (aa (cC (.int 5)) ai)) [9] tt1 (ah aI (aa (ag 0) (aa (ag 1) ai)))) (au (jC aF) (ah (bT aF) (aa (ah fQ (aa (cC (.str "order")) ai)) ai)) (cC (.int 5))))) (bj (cC (.bl false))) bH))))))))))))
    (bj (cC (.bl true))))) ds h).bind (bx h)
noncomputable def aO (i : Nat) : Stmt := PySem.Challenge.pw_fallcounts_k62_laid_and_taken_up.main.body.getD i (.Pass ⟨0, 0, 0, 0⟩)
structure Blt (mg : Str -> Option Value) : Prop where
  ValueError : mg "ValueError" = none
  bool : mg "bool" = none
  enumerate : mg "enumerate" = none
  int : mg "int" = none
  isinstance : mg "isinstance" = none
  len : mg "len" = none
  list : mg "list" = none
  max : mg "max" = none
  range : mg "range" = none
  repr : mg "repr" = none
  set : mg "set" = none
  tuple : mg "tuple" = none
  zip : mg "zip" = none
section
variable {P : Program} {w : World} {K : PySem.W.Frag} {mg : Str -> Option Value} {base : Heap} {g : GG}
theorem lC : aS ["_law_script", "_law_k"] ["_law_script", "_law_k"] (ak (aO 24)) := ⟨rfl, rfl, rfl, by decide +kernel, rfl, by decide +kernel, by decide +kernel⟩
theorem kN (D : aR K mg "_law_cell_at" (aO 24)) (T : Blt mg) : Has P w K mg base g "_law_cell_at" 1 ["_law_script", "_law_k"] bM := by
  obtain ⟨f, fd, hm, F⟩ := D
  refine ⟨f, fd, gD F lC (fun cdv A outer s H E hr => ?_), F.kp, F.binds (fun _ _ _ _ _ _ us hl => zv hl fun _ _ => rfl), hm, bC F⟩
  exact (@av _ _ _ _ _ _ _ (@hZ _ _ _ _ _ _ _ _ _ _ (@bO _ _ _ _ _ _ _ _ _ _ _ vJ uJ (af 1) (aX cO cR rfl T.len PySem.boot_len (@ae _ _ _ _ _ _ _ (af 0) aj rfl)) (bK _)) (@az _ _ _ _ _ (@bB _ _ _ _ _ _ (@cD _ _ _ _ _ _ _ _ _ _ bG cB (af 0) (af 1) (fun _ _ => rfl)))) cj)
      (@az _ _ _ _ _ (@bB _ _ _ _ _ _ ax)))
theorem ib : aS ["_law_cell", "_law_left"] ["_law_cell"] (ak (aO 26)) := ⟨rfl, rfl, rfl, by decide +kernel, rfl, by decide +kernel, by decide +kernel⟩
theorem lj (D : aR K mg "_law_pen_of" (aO 26)) (T : Blt mg) : Has P w K mg base g "_law_pen_of" 1 ["_law_cell"] b9 := by
  obtain ⟨f, fd, hm, F⟩ := D
  refine ⟨f, fd, gD F ib (fun cdv A outer s H E hr => ?_), F.kp, F.binds (fun _ _ _ _ _ _ us hl => fO hl fun _ => rfl), hm, bC F⟩
  exact (@av _ _ _ _ _ _ _ (@bZ _ _ _ _ _ _ 1 _ _ ib.nd rfl (by first | exact Or.inl rfl | exact Or.inr rfl) (aX (wV rfl) B7 rfl T.max PyProof.Rows.boot_max (@ae _ _ _ _ _ _ _ (af 0) (@ae _ _ _ _ _ _ _ (@aT _ _ _ _ _ _ _ _ _ _ _ ku kJ ax (af 0)) aj rfl) rfl)) rfl (.inl rfl))
      (@az _ _ _ _ _ (@bB _ _ _ _ _ _ (@b_ _ _ _ _ _ _ _ _ (@ae _ _ _ _ _ _ _ (af 1) (@ae _ _ _ _ _ _ _ (bD vY E7 rfl T.int PyProof.Rows.boot_int (@ae _ _ _ _ _ _ _ (@xQ _ _ _ _ _ _ _ _ _ _ _ Ge Gb (af 1) (@aT _ _ _ _ _ _ _ _ _ _ _ Ca EN ax ax) (bK _)) aj rfl)) (@ae _ _ _ _ _ _ _ (@aT _ _ _ _ _ _ _ _ _ _ _ nj l0 (af 1) ax) aj rfl) rfl) rfl)))))
theorem jM : aS ["_law_seed"] ["_law_seed"] (ak (aO 25)) := ⟨rfl, rfl, rfl, by decide +kernel, rfl, by decide +kernel, by decide +kernel⟩
theorem ow (D : aR K mg "_law_next" (aO 25)) (T : Blt mg) : Has P w K mg base g "_law_next" 1 ["_law_seed"] dF := by
  obtain ⟨f, fd, hm, F⟩ := D
  refine ⟨f, fd, gD F jM (fun cdv A outer s H E hr => ?_), F.kp, F.binds (fun _ _ _ _ _ _ us hl => fO hl fun _ => rfl), hm, bC F⟩
  exact (@av _ _ _ _ _ _ _ (@bZ _ _ _ _ _ _ 0 _ _ jM.nd rfl (by first | exact Or.inl rfl | exact Or.inr rfl) (@aT _ _ _ _ _ _ _ _ _ _ _ nj l0 (@aT _ _ _ _ _ _ _ _ _ _ _ c_ cZ (af 0) ax) ax) rfl (.inl rfl))
      (@az _ _ _ _ _ (@bB _ _ _ _ _ _ (@aT _ _ _ _ _ _ _ _ _ _ _ nj l0 (@aT _ _ _ _ _ _ _ _ _ _ _ c_ cZ (@aT _ _ _ _ _ _ _ _ _ _ _ c_ cZ (@aT _ _ _ _ _ _ _ _ _ _ _ kz kq (af 0) (af 0)) (@aT _ _ _ _ _ _ _ _ _ _ _ kz kq ax (af 0))) ax) ax))))
theorem jV : aS ["_law_pen", "_law_many", "_law_found"] ["_law_pen", "_law_many"] (ak (aO 27)) := ⟨rfl, rfl, rfl, by decide +kernel, rfl, by decide +kernel, by decide +kernel⟩
theorem n6 (D : aR K mg "_law_draw" (aO 27)) (T : Blt mg) (fU : Has P w K mg base g "_law_next" 1 ["_law_seed"] dF) : Has P w K mg base g "_law_draw" 2 ["_law_pen", "_law_many"] aD := by
  obtain ⟨f, fd, hm, F⟩ := D
  obtain ⟨AN, Af, jb, i8, jc, i6, _⟩ := fU
  refine ⟨f, fd, gD F jV (fun cdv A outer s H E hr => ?_), F.kp, F.binds (fun _ _ _ _ _ _ us hl => zv hl fun _ _ => rfl), hm, bC F⟩
  exact (@av _ _ _ _ _ _ _ (@hZ _ _ _ _ _ _ _ _ _ _ (PW.pt (@Dz _ _ _ _ _ _ _ _ _ (@bO _ _ _ _ _ _ _ _ _ _ _ (nu hr.units) tD (@cD _ _ _ _ _ _ _ _ _ _ bG cB (af 0) ax (fun _ _ => rfl)) ax (bK _)) (@A2 _ _ _ _ _ _ (@bO _ _ _ _ _ _ _ _ _ _ _ sP tf (@cD _ _ _ _ _ _ _ _ _ _ bG cB (af 0) ax (fun _ _ => rfl)) ax (bK _))))) (@av _ _ _ _ _ _ _ (@bZ _ _ _ _ _ _ 2 _ _ jV.nd rfl (by first | exact Or.inl rfl | exact Or.inr rfl) (@aT _ _ _ _ _ _ _ _ _ _ _ nj l0 (@cD _ _ _ _ _ _ _ _ _ _ bG cB (af 0) ax (fun _ _ => rfl)) (af 1)) rfl (.inl rfl))
      (@av _ _ _ _ _ _ _ (gv (@aT _ _ _ _ _ _ _ _ _ _ _ rM ym (@cD _ _ _ _ _ _ _ _ _ _ bG cB (af 0) ax (fun _ _ => rfl)) (af 1)) (af 0) ax set_list fy)
      (@az _ _ _ _ _ (@bB _ _ _ _ _ _ (af 2))))) cj)
      (@av _ _ _ _ _ _ _ (gv (aP (jb.mono (by decide)) hr rfl i6 i8 jc (@ae _ _ _ _ _ _ _ (@aT _ _ _ _ _ _ _ _ _ _ _ c_ cZ (aP (jb.mono (by decide)) hr rfl i6 i8 jc (@ae _ _ _ _ _ _ _ (@cD _ _ _ _ _ _ _ _ _ _ bG cB (af 0) ax (fun _ _ => rfl)) aj rfl) (ao aJ)) ax) aj rfl) (ao aJ)) (af 0) ax set_list fy)
      (@az _ _ _ _ _ (@bB _ _ _ _ _ _ (@aT _ _ _ _ _ _ _ _ _ _ _ nj l0 (@aT _ _ _ _ _ _ _ _ _ _ _ rM ym (@cD _ _ _ _ _ _ _ _ _ _ bG cB (af 0) ax (fun _ _ => rfl)) ax) (af 1))))))
theorem jd : aS ["_law_pen", "_law_n", "_law_left"] ["_law_pen", "_law_n"] (ak (aO 30)) := ⟨rfl, rfl, rfl, by decide +kernel, rfl, by decide +kernel, by decide +kernel⟩
theorem nD (D : aR K mg "_law_order" (aO 30)) (T : Blt mg) (cE : Has P w K mg base g "_law_draw" 2 ["_law_pen", "_law_many"] aD) : Has P w K mg base g "_law_order" 3 ["_law_pen", "_law_n"] bW := by
  obtain ⟨f, fd, hm, F⟩ := D
  obtain ⟨nY, m_, cH, cG, cF, cI, _⟩ := cE
  refine ⟨f, fd, du (gD F jd (fun cdv A outer s H E hr => ?_)), F.kp, F.binds (fun _ _ _ _ _ _ us hl => zv hl fun _ _ => rfl), hm, bC F⟩
  exact (@av _ _ _ _ _ _ _ (@bZ _ _ _ _ _ _ 2 _ _ jd.nd rfl (by first | exact Or.inl rfl | exact Or.inr rfl) (zz rfl rfl T.list rfl T.range (@ae _ _ _ _ _ _ _ (af 1) aj rfl)) rfl (.inl rfl))
      (@az _ _ _ _ _ (@bB _ _ _ _ _ _ (bD aY cP rfl T.tuple PyProof.Rows.boot_tuple (@ae _ _ _ _ _ _ _ (jA (osc := ak (aO 30)) [2, 0] ["_law_place", "_law_left", "_law_pen"] rfl rfl rfl rfl (by decide +kernel) ⟨by decide +kernel, by decide +kernel, rfl, by decide +kernel, rfl, by decide +kernel⟩ (j8 rfl T.range (@ae _ _ _ _ _ _ _ (af 1) aj rfl))
        (fun cl C ay aC fp => uk) (fun cl C ay aC fp => (gr PySem.F.slot_list_pop PySem.F.type_list_pop z_ Ew (af 1) (@ae _ _ _ _ _ _ _ (aP (cH.mono (by decide)) hr rfl cI cG cF (@ae _ _ _ _ _ _ _ (af 2) (@ae _ _ _ _ _ _ _ (aX cO cR rfl T.len PySem.boot_len (@ae _ _ _ _ _ _ _ (af 1) aj rfl)) aj rfl) rfl) (ao (ao aJ))) aj rfl)))) aj rfl)))))
theorem dI : aS ["_law_order_here", "_law_found", "_law_top", "_law_walk"] ["_law_order_here"] (ak (aO 32)) := ⟨rfl, rfl, rfl, by decide +kernel, rfl, by decide +kernel, by decide +kernel⟩
theorem om (D : aR K mg "_law_laid" (aO 32)) (T : Blt mg) : Has P w K mg base g "_law_laid" 1 ["_law_order_here"] cQ := by
  obtain ⟨f, fd, hm, F⟩ := D
  refine ⟨f, fd, pJ (du (gD F dI (fun cdv A outer s H E hr => ?_))), F.kp, F.binds (fun _ _ _ _ _ _ us hl => fO hl fun _ => rfl), hm, bC F⟩
  exact (@av _ _ _ _ _ _ _ (@bZ _ _ _ _ _ _ 1 _ _ dI.nd rfl (by first | exact Or.inl rfl | exact Or.inr rfl) (@g6 _ _ _ _ _ _ _ aj) rfl (.inl rfl))
      (@av _ _ _ _ _ _ _ (gc PassesOwn.never rfl (j8 rfl T.range (@ae _ _ _ _ _ _ _ (aX cO cR rfl T.len PySem.boot_len (@ae _ _ _ _ _ _ _ (af 0) aj rfl)) aj rfl)) (bf (i := 2) dI.nd rfl (by first | exact Or.inl rfl | exact Or.inr rfl)) eM (@av _ _ _ _ _ _ _ (@bZ _ _ _ _ _ _ 3 _ _ dI.nd rfl (by first | exact Or.inl rfl | exact Or.inr rfl) (@b_ _ _ _ _ _ _ _ _ (@ae _ _ _ _ _ _ _ (af 2) aj rfl)) rfl (.inl rfl))
      (@av _ _ _ _ _ _ _ (@vk _ _ _ _ _ _ _ _ 64 PassesOwn.never (@bO _ _ _ _ _ _ _ _ _ _ _ (ik hr.units) k7 (@cD _ _ _ _ _ _ _ _ _ _ bG cB (af 0) (@cD _ _ _ _ _ _ _ _ _ _ bG cB (af 3) (@jh _ _ _ _ _ _ _ _ _ eV fT ax) (fun _ _ => rfl)) (fun _ _ => rfl)) (af 2) (bK _)) (@az _ _ _ _ _ (dy (gr PySem.F.slot_list_append PySem.F.type_list_append dE eO (af 3) (@ae _ _ _ _ _ _ _ (@cD _ _ _ _ _ _ _ _ _ _ bG cB (af 0) (@cD _ _ _ _ _ _ _ _ _ _ bG cB (af 3) (@jh _ _ _ _ _ _ _ _ _ eV fT ax) (fun _ _ => rfl)) (fun _ _ => rfl)) aj rfl)))))
      (@az _ _ _ _ _ (@hZ _ _ _ _ _ _ _ _ _ _ (@bO _ _ _ _ _ _ _ _ _ _ _ (nu hr.units) tD (aX (oR rfl) uQ rfl T.max PyProof.Rows.boot_max (@ae _ _ _ _ _ _ _ (af 3) aj rfl)) (af 2) (bK _)) (@az _ _ _ _ _ (@bZ _ _ _ _ _ _ 1 _ _ dI.nd rfl (by first | exact Or.inl rfl | exact Or.inr rfl) (@aT _ _ _ _ _ _ _ _ _ _ _ c_ cZ (af 1) (bD aY cP rfl T.tuple PyProof.Rows.boot_tuple (@ae _ _ _ _ _ _ _ (af 3) aj rfl))) rfl (.inl rfl))) cj)))))
      (@az _ _ _ _ _ (@bB _ _ _ _ _ _ (af 1)))))
theorem a9 : aS ["_law_order_here", "_law_rounds", "_law_place", "_law_number", "_law_found", "_law_walk", "_law_at"] ["_law_order_here"] (ak (aO 33)) := ⟨rfl, rfl, rfl, by decide +kernel, rfl, by decide +kernel, by decide +kernel⟩
theorem jN (D : aR K mg "_law_taken_up" (aO 33)) (T : Blt mg) : Has P w K mg base g "_law_taken_up" 1 ["_law_order_here"] bF := by
  obtain ⟨f, fd, hm, F⟩ := D
  refine ⟨f, fd, pJ (du (gD F a9 (fun cdv A outer s H E hr => ?_))), F.kp, F.binds (fun _ _ _ _ _ _ us hl => fO hl fun _ => rfl), hm, bC F⟩
  exact (@av _ _ _ _ _ _ _ (@bZ _ _ _ _ _ _ 1 _ _ a9.nd rfl (by first | exact Or.inl rfl | exact Or.inr rfl) (@b_ _ _ _ _ _ _ _ _ aj) rfl (.inl rfl))
      (@av _ _ _ _ _ _ _ (gc PassesOwn.never rfl (j4 rfl T.enumerate (af 0)) (lV rfl (dk (bf (i := 2) a9.nd rfl (by first | exact Or.inl rfl | exact Or.inr rfl)) (dk (bf (i := 3) a9.nd rfl (by first | exact Or.inl rfl | exact Or.inr rfl)) jK))) qv (@av _ _ _ _ _ _ _ (@hZ _ _ _ _ _ _ _ _ _ _ (@bO _ _ _ _ _ _ _ _ _ _ _ (nu hr.units) tD (af 3) (aX (oR rfl) uQ rfl T.max PyProof.Rows.boot_max (@ae _ _ _ _ _ _ _ (fh (af 0) iT (@fI _ _ _ _ _ (@aT _ _ _ _ _ _ _ _ _ _ _ c_ cZ (af 2) ax))) aj rfl)) (bK _)) (@az _ _ _ _ _ (dy (gr PySem.F.slot_list_append PySem.F.type_list_append dE eO (af 1) (@ae _ _ _ _ _ _ _ (@b_ _ _ _ _ _ _ _ _ aj) aj rfl)))) cj)
      (@az _ _ _ _ _ (dy (gr PySem.F.slot_list_append PySem.F.type_list_append dE eO (@cD _ _ _ _ _ _ _ _ _ _ bG cB (af 1) (@jh _ _ _ _ _ _ _ _ _ eV fT ax) (fun _ _ => rfl)) (@ae _ _ _ _ _ _ _ (af 3) aj rfl))))))
      (@av _ _ _ _ _ _ _ (@bZ _ _ _ _ _ _ 4 _ _ a9.nd rfl (by first | exact Or.inl rfl | exact Or.inr rfl) (@aT _ _ _ _ _ _ _ _ _ _ _ kz kq (@b_ _ _ _ _ _ _ _ _ (@ae _ _ _ _ _ _ _ ax aj rfl)) (aX cO cR rfl T.len PySem.boot_len (@ae _ _ _ _ _ _ _ (af 0) aj rfl))) rfl (.inl rfl))
      (@av _ _ _ _ _ _ _ (gc PassesOwn.never rfl (@fN _ _ _ _ _ _ (af 1)) (bf (i := 5) a9.nd rfl (by first | exact Or.inl rfl | exact Or.inr rfl)) eM (@az _ _ _ _ _ (gc PassesOwn.never rfl (j4 rfl T.enumerate (af 5)) (lV rfl (dk (bf (i := 6) a9.nd rfl (by first | exact Or.inl rfl | exact Or.inr rfl)) (dk (bf (i := 3) a9.nd rfl (by first | exact Or.inl rfl | exact Or.inr rfl)) jK))) qv (@az _ _ _ _ _ (gv (af 3) (af 4) (@cD _ _ _ _ _ _ _ _ _ _ bG cB (af 5) (@aT _ _ _ _ _ _ _ _ _ _ _ ku kJ (af 6) ax) (fun _ _ => rfl)) set_list fy)))))
      (@az _ _ _ _ _ (@bB _ _ _ _ _ _ (bD aY cP rfl T.tuple PyProof.Rows.boot_tuple (@ae _ _ _ _ _ _ _ (af 4) aj rfl))))))))
theorem eI : aS ["_law_e", "_law_marks"] ["_law_e"] (ak (aO 28)) := ⟨rfl, rfl, rfl, by decide +kernel, rfl, by decide +kernel, by decide +kernel⟩
theorem kS (D : aR K mg "_law_kind_of" (aO 28)) (T : Blt mg) (hgo : g = gOf mg) (CL : oG K mg) : BW P w K mg base g "_law_kind_of" 1 ["_law_e"] fk := by
  obtain ⟨f, fd, hm, F⟩ := D
  refine ⟨f, fd, Dh F eI (fun cdv A outer s H E hr => ?_), F.kp, F.binds (fun _ _ _ _ _ _ us hl => fO hl fun _ => rfl), hm⟩
  exact (@av _ _ _ _ _ _ _ (@bZ _ _ _ _ _ _ 1 _ _ eI.nd rfl (by first | exact Or.inl rfl | exact Or.inr rfl) (@b_ _ _ _ _ _ _ _ _ (@ae _ _ _ _ _ _ _ (jo CL hgo (af 0) rfl T.isinstance rfl (by decide)) (@ae _ _ _ _ _ _ _ (jo CL hgo (af 0) rfl T.isinstance rfl (by decide)) (@ae _ _ _ _ _ _ _ (jo CL hgo (af 0) rfl T.isinstance rfl (by decide)) (@ae _ _ _ _ _ _ _ (jo CL hgo (af 0) rfl T.isinstance rfl (by decide)) aj rfl) rfl) rfl) rfl)) rfl (.inl rfl))
      (@av _ _ _ _ _ _ _ (@bZ _ _ _ _ _ _ 1 _ _ eI.nd rfl (by first | exact Or.inl rfl | exact Or.inr rfl) (@aT _ _ _ _ _ _ _ _ _ _ _ c_ cZ (af 1) (@b_ _ _ _ _ _ _ _ _ (@ae _ _ _ _ _ _ _ (jo CL hgo (af 0) rfl T.isinstance rfl (by decide)) (@ae _ _ _ _ _ _ _ (jo CL hgo (af 0) rfl T.isinstance rfl (by decide)) (@ae _ _ _ _ _ _ _ (jo CL hgo (af 0) rfl T.isinstance rfl (by decide)) aj rfl) rfl) rfl))) rfl (.inl rfl))
      (@av _ _ _ _ _ _ _ (@hZ _ _ _ _ _ _ _ _ _ _ (PW.pt (@zg _ _ _ _ _ _ _ _ _ (@kA _ _ _ _ _ _ (@iQ _ _ _ _ _ _ mE (EF CL hgo (af 0) rfl T.isinstance rfl T.ValueError) (fun _ => rfl))) (@ud _ _ _ _ _ _ (@bO _ _ _ _ _ _ _ _ _ _ _ (ik hr.units) k7 (gr PySem.F.slot_list_count PySem.F.type_list_count wF wx (af 1) (@ae _ _ _ _ _ _ _ jf aj rfl)) ax (bK _))))) (@az _ _ _ _ _ (@bB _ _ _ _ _ _ eZ)) cj)
      (@az _ _ _ _ _ (@bB _ _ _ _ _ _ (@cD _ _ _ _ _ _ _ _ _ _ bG cB (@b_ _ _ _ _ _ _ _ _ (@ae _ _ _ _ _ _ _ eZ (@ae _ _ _ _ _ _ _ eZ (@ae _ _ _ _ _ _ _ eZ (@ae _ _ _ _ _ _ _ eZ (@ae _ _ _ _ _ _ _ eZ (@ae _ _ _ _ _ _ _ eZ (@ae _ _ _ _ _ _ _ eZ aj rfl) rfl) rfl) rfl) rfl) rfl) rfl)) (gr PySem.F.slot_list_index PySem.F.type_list_index wN vT (af 1) (@ae _ _ _ _ _ _ _ jf aj rfl)) (fun _ _ => rfl)))))))
theorem g9 : aS ["_law_e", "_law_kind"] ["_law_e"] (ak (aO 29)) := ⟨rfl, rfl, rfl, by decide +kernel, rfl, by decide +kernel, by decide +kernel⟩
theorem j9 (D : aR K mg "_law_refused" (aO 29)) (T : Blt mg) (dY : BW P w K mg base g "_law_kind_of" 1 ["_law_e"] fk) : BW P w K mg base g "_law_refused" 2 ["_law_e"] bN := by
  obtain ⟨f, fd, hm, F⟩ := D
  obtain ⟨wG, uE, kR, kK, kg, kr⟩ := dY
  refine ⟨f, fd, Dh F g9 (fun cdv A outer s H E hr => ?_), F.kp, F.binds (fun _ _ _ _ _ _ us hl => fO hl fun _ => rfl), hm⟩
  exact (@av _ _ _ _ _ _ _ (@bZ _ _ _ _ _ _ 1 _ _ g9.nd rfl (by first | exact Or.inl rfl | exact Or.inr rfl) (zm (kR.mono (by decide)) hr rfl kr kK kg (@ae _ _ _ _ _ _ _ (af 0) aj rfl) (ao aJ)) rfl (.inl rfl))
      (@az _ _ _ _ _ (@bB _ _ _ _ _ _ (@zu _ _ _ _ _ _ _ _ _ _ (@bO _ _ _ _ _ _ _ _ _ _ _ (nu hr.units) tD (af 1) eZ (bK _)) (@g6 _ _ _ _ _ _ _ (@ae _ _ _ _ _ _ _ (af 1) (@ae _ _ _ _ _ _ _ sv (@ae _ _ _ _ _ _ _ sv aj rfl) rfl) rfl)) (@g6 _ _ _ _ _ _ _ (@ae _ _ _ _ _ _ _ (af 1) aj rfl))))))
theorem sX : aS ["thing"] ["thing"] (ak (aO 10)) := ⟨rfl, rfl, rfl, by decide +kernel, rfl, by decide +kernel, by decide +kernel⟩
theorem qE (D : aR K mg "is_whole" (aO 10)) (T : Blt mg) : Has P w K mg base g "is_whole" 1 ["thing"] eP := by
  obtain ⟨f, fd, hm, F⟩ := D
  refine ⟨f, fd, gD F sX (fun cdv A outer s H E hr => ?_), F.kp, F.binds (fun _ _ _ _ _ _ us hl => fO hl fun _ => rfl), hm, bC F⟩
  exact (@az _ _ _ _ _ (@bB _ _ _ _ _ _ (@zA _ _ _ _ _ _ _ _ _ (uh (af 0) rfl T.isinstance rfl T.int PyProof.Rows.boot_int) (@yj _ _ _ _ _ _ _ (@DQ _ _ _ _ _ _ (uh (af 0) rfl T.isinstance rfl T.bool PyProof.Rows.boot_bool))))))
theorem qT : aS ["thing", "least", "most"] ["thing", "least", "most"] (ak (aO 11)) := ⟨rfl, rfl, rfl, by decide +kernel, rfl, by decide +kernel, by decide +kernel⟩
theorem oI (D : aR K mg "is_within" (aO 11)) (T : Blt mg) (gG : Has P w K mg base g "is_whole" 1 ["thing"] eP) : Has P w K mg base g "is_within" 2 ["thing", "least", "most"] cS := by
  obtain ⟨f, fd, hm, F⟩ := D
  obtain ⟨Cr, AR, qz, rh, rf, qJ, _⟩ := gG
  refine ⟨f, fd, gD F qT (fun cdv A outer s H E hr => ?_), F.kp, F.binds (fun _ _ _ _ _ _ us hl => Ha hl fun _ _ _ => rfl), hm, bC F⟩
  exact (@az _ _ _ _ _ (@bB _ _ _ _ _ _ (@zA _ _ _ _ _ _ _ _ _ (aP (qz.mono (by decide)) hr rfl qJ rh rf (@ae _ _ _ _ _ _ _ (af 0) aj rfl) (ao aJ)) (@yj _ _ _ _ _ _ _ (xV u_ u_ uN uN (af 1) (af 0) (af 2))))))
theorem i7 : aS ["thing", "number"] ["thing"] (ak (aO 14)) := ⟨rfl, rfl, rfl, by decide +kernel, rfl, by decide +kernel, by decide +kernel⟩
theorem m9 (D : aR K mg "order_good" (aO 14)) (T : Blt mg) {ic : Tok} (eR : mg "MOST_NUMBERS" = some (.int 20 ic)) (fR : Has P w K mg base g "is_within" 2 ["thing", "least", "most"] cS) : Has P w K mg base g "order_good" 3 ["thing"] bV := by
  obtain ⟨f, fd, hm, F⟩ := D
  obtain ⟨AM, yf, nM, nI, n4, oj, _⟩ := fR
  refine ⟨f, fd, du (gD F i7 (fun cdv A outer s H E hr => ?_)), F.kp, F.binds (fun _ _ _ _ _ _ us hl => fO hl fun _ => rfl), hm, bC F⟩
  exact (@av _ _ _ _ _ _ _ (@hZ _ _ _ _ _ _ _ _ _ _ (PW.pt (@zg _ _ _ _ _ _ _ _ _ (@kA _ _ _ _ _ _ (@iQ _ _ _ _ _ _ mE (uh (af 0) rfl T.isinstance rfl T.tuple PyProof.Rows.boot_tuple) (fun _ => rfl))) (@ud _ _ _ _ _ _ (@kA _ _ _ _ _ _ (xF u_ u_ uN uN ax (aX cO cR rfl T.len PySem.boot_len (@ae _ _ _ _ _ _ _ (af 0) aj rfl)) (xK rfl eR)))))) (@az _ _ _ _ _ (@bB _ _ _ _ _ _ jf)) cj)
      (@av _ _ _ _ _ _ _ (gc PassesOwn.never rfl (@fN _ _ _ _ _ _ (af 0)) (bf (i := 1) i7.nd rfl (by first | exact Or.inl rfl | exact Or.inr rfl)) eM (@az _ _ _ _ _ (@hZ _ _ _ _ _ _ _ _ _ _ (@kA _ _ _ _ _ _ (@iQ _ _ _ _ _ _ mE (aP (nM.mono (by decide)) hr rfl oj nI n4 (@ae _ _ _ _ _ _ _ (af 1) (@ae _ _ _ _ _ _ _ ax (@ae _ _ _ _ _ _ _ (@aT _ _ _ _ _ _ _ _ _ _ _ ku kJ (aX cO cR rfl T.len PySem.boot_len (@ae _ _ _ _ _ _ _ (af 0) aj rfl)) ax) aj rfl) rfl) rfl) (ao (ao (ao aJ)))) (fun _ => rfl))) (@az _ _ _ _ _ (@bB _ _ _ _ _ _ jf)) cj)))
      (@az _ _ _ _ _ (@bB _ _ _ _ _ _ (@xQ _ _ _ _ _ _ _ _ _ _ _ (nu hr.units) tD (aX cO cR rfl T.len PySem.boot_len (@ae _ _ _ _ _ _ _ (bD (pZ rfl) DY rfl T.set PyProof.Rows.boot_set (@ae _ _ _ _ _ _ _ (af 0) aj rfl)) aj rfl)) (aX cO cR rfl T.len PySem.boot_len (@ae _ _ _ _ _ _ _ (af 0) aj rfl)) (bK _))))))
theorem hG : aS ["thing"] ["thing"] (ak (aO 15)) := ⟨rfl, rfl, rfl, by decide +kernel, rfl, by decide +kernel, by decide +kernel⟩
theorem km (D : aR K mg "order_needed" (aO 15)) (T : Blt mg) (hgo : g = gOf mg) (CL : oG K mg) (cn : Has P w K mg base g "order_good" 3 ["thing"] bV) : i3 P w K mg base g "order_needed" 4 ["thing"] aK := by
  obtain ⟨f, fd, hm, F⟩ := D
  obtain ⟨nk, lx, fw, e9, eY, e_, _⟩ := cn
  obtain ⟨A_NoOrder, kc⟩ := CL.at_ "NoOrder" (by decide)
  refine ⟨f, fd, pk F hG (fun cdv A outer s H E hr fl pl po => ?_), F.kp, F.binds (fun _ _ _ _ _ _ us hl => fO hl fun _ => rfl), hm⟩
  exact (@az _ _ _ _ _ (@hZ _ _ _ _ _ _ _ _ _ _ (@FZ _ _ _ _ _ (@kA _ _ _ _ _ _ (@iQ _ _ _ _ _ _ mE (aP (fw.mono (by decide)) hr rfl e_ e9 eY (@ae _ _ _ _ _ _ _ (af 0) aj rfl) (ao aJ)) (fun _ => rfl)))) (@az _ _ _ _ _ (BE fl pl rfl rfl kc (eS hgo kc) ((CL.one _ (by decide) _ kc).2.2 rfl))) cj))
theorem i5 : aS ["order", "first", "found"] ["order", "first"] (ak (aO 18)) := ⟨rfl, rfl, rfl, by decide +kernel, rfl, by decide +kernel, by decide +kernel⟩
theorem lW (D : aR K mg "round_from" (aO 18)) (T : Blt mg) : Has P w K mg base g "round_from" 1 ["order", "first"] bX := by
  obtain ⟨f, fd, hm, F⟩ := D
  refine ⟨f, fd, pJ (du (gD F i5 (fun cdv A outer s H E hr => ?_))), F.kp, F.binds (fun _ _ _ _ _ _ us hl => zv hl fun _ _ => rfl), hm, bC F⟩
  exact (@av _ _ _ _ _ _ _ (@bZ _ _ _ _ _ _ 2 _ _ i5.nd rfl (by first | exact Or.inl rfl | exact Or.inr rfl) (@b_ _ _ _ _ _ _ _ _ (@ae _ _ _ _ _ _ _ (af 1) aj rfl)) rfl (.inl rfl))
      (@av _ _ _ _ _ _ _ (@vk _ _ _ _ _ _ _ _ 64 PassesOwn.never (@bO _ _ _ _ _ _ _ _ _ _ _ (ik hr.units) k7 (@cD _ _ _ _ _ _ _ _ _ _ bG cB (af 0) (@cD _ _ _ _ _ _ _ _ _ _ bG cB (af 2) (@jh _ _ _ _ _ _ _ _ _ eV fT ax) (fun _ _ => rfl)) (fun _ _ => rfl)) (af 1) (bK _)) (@az _ _ _ _ _ (dy (gr PySem.F.slot_list_append PySem.F.type_list_append dE eO (af 2) (@ae _ _ _ _ _ _ _ (@cD _ _ _ _ _ _ _ _ _ _ bG cB (af 0) (@cD _ _ _ _ _ _ _ _ _ _ bG cB (af 2) (@jh _ _ _ _ _ _ _ _ _ eV fT ax) (fun _ _ => rfl)) (fun _ _ => rfl)) aj rfl)))))
      (@az _ _ _ _ _ (@bB _ _ _ _ _ _ (bD aY cP rfl T.tuple PyProof.Rows.boot_tuple (@ae _ _ _ _ _ _ _ (af 2) aj rfl))))))
theorem aZ : aS ["order", "rounds", "seen", "place", "found", "one"] ["order"] (ak (aO 17)) := ⟨rfl, rfl, rfl, by decide +kernel, rfl, by decide +kernel, by decide +kernel⟩
theorem n9 (D : aR K mg "rounds_of" (aO 17)) (T : Blt mg) (aL : i3 P w K mg base g "order_needed" 4 ["thing"] aK) (ck : Has P w K mg base g "round_from" 1 ["order", "first"] bX) : i3 P w K mg base g "rounds_of" 5 ["order"] bu := by
  obtain ⟨f, fd, hm, F⟩ := D
  obtain ⟨dX, dN, bo, bg, bp, bh⟩ := aL
  obtain ⟨mz, lq, eQ, eW, fx, eU, _⟩ := ck
  refine ⟨f, fd, du (pk F aZ (fun cdv A outer s H E hr fl pl po => ?_)), F.kp, F.binds (fun _ _ _ _ _ _ us hl => fO hl fun _ => rfl), hm⟩
  exact (@av _ _ _ _ _ _ _ (dy (iD fl pl (bo.mono (by decide)) hr rfl bh bg bp (@ae _ _ _ _ _ _ _ (@l7 _ _ _ _ _ (af 0)) aj rfl) (ao aJ)))
      (@av _ _ _ _ _ _ _ (@oJ _ _ _ _ _ (@bZ _ _ _ _ _ _ 1 _ _ aZ.nd rfl (by first | exact Or.inl rfl | exact Or.inr rfl) (@b_ _ _ _ _ _ _ _ _ aj) rfl (.inl rfl)))
      (@av _ _ _ _ _ _ _ (@oJ _ _ _ _ _ (@bZ _ _ _ _ _ _ 2 _ _ aZ.nd rfl (by first | exact Or.inl rfl | exact Or.inr rfl) (uT rfl T.set) rfl (.inl rfl)))
      (@av _ _ _ _ _ _ _ (@oJ _ _ _ _ _ (gc PassesOwn.never rfl (vF rfl T.range (@ae _ _ _ _ _ _ _ (@aT _ _ _ _ _ _ _ _ _ _ _ ku kJ (aX cO cR rfl T.len PySem.boot_len (@ae _ _ _ _ _ _ _ (af 0) aj rfl)) ax) (@ae _ _ _ _ _ _ _ (@jh _ _ _ _ _ _ _ _ _ eV fT ax) (@ae _ _ _ _ _ _ _ (@jh _ _ _ _ _ _ _ _ _ eV fT ax) aj rfl) rfl) rfl)) (bf (i := 3) aZ.nd rfl (by first | exact Or.inl rfl | exact Or.inr rfl)) eM (@az _ _ _ _ _ (@hZ _ _ _ _ _ _ _ _ _ _ (@bO _ _ _ _ _ _ _ _ _ _ _ oM yQ (af 3) (af 2) (by rfl)) (@av _ _ _ _ _ _ _ (@bZ _ _ _ _ _ _ 4 _ _ aZ.nd rfl (by first | exact Or.inl rfl | exact Or.inr rfl) (aP (eQ.mono (by decide)) hr rfl eU eW fx (@ae _ _ _ _ _ _ _ (af 0) (@ae _ _ _ _ _ _ _ (af 3) aj rfl) rfl) (ao (ao aJ))) rfl (.inl rfl))
      (@av _ _ _ _ _ _ _ (dy (gr PySem.F.slot_list_append PySem.F.type_list_append dE eO (af 1) (@ae _ _ _ _ _ _ _ (af 4) aj rfl)))
      (@az _ _ _ _ _ (gc PassesOwn.never rfl (@fN _ _ _ _ _ _ (af 4)) (bf (i := 5) aZ.nd rfl (by first | exact Or.inl rfl | exact Or.inr rfl)) eM (@az _ _ _ _ _ (dy (yk PySem.F.slot_set_add PySem.F.type_set_add xJ uB (af 2) (@ae _ _ _ _ _ _ _ (af 5) aj rfl)))))))) cj))))
      (@az _ _ _ _ _ (@oJ _ _ _ _ _ (@bB _ _ _ _ _ _ (p8 (af 1)))))))))
theorem u9 : aS ["order"] ["order"] (ak (aO 21)) := ⟨rfl, rfl, rfl, by decide +kernel, rfl, by decide +kernel, by decide +kernel⟩
theorem zX (D : aR K mg "laid" (aO 21)) (T : Blt mg) (cJ : i3 P w K mg base g "rounds_of" 5 ["order"] bu) : i3 P w K mg base g "laid" 6 ["order"] ft := by
  obtain ⟨f, fd, hm, F⟩ := D
  obtain ⟨n_, lR, fS, fL, f7, dh⟩ := cJ
  refine ⟨f, fd, du (pk F u9 (fun cdv A outer s H E hr fl pl po => ?_)), F.kp, F.binds (fun _ _ _ _ _ _ us hl => fO hl fun _ => rfl), hm⟩
  exact (@az _ _ _ _ _ (@bB _ _ _ _ _ _ (bD aY cP rfl T.tuple PyProof.Rows.boot_tuple (@ae _ _ _ _ _ _ _ (oN (osc := ak (aO 21)) [] ["found", "place"] rfl rfl rfl (by decide +kernel) ⟨by decide +kernel, by decide +kernel, rfl, by decide +kernel, by decide +kernel⟩ (@fN _ _ _ _ _ _ (iD fl pl (fS.mono (by decide)) hr rfl dh fL f7 (@ae _ _ _ _ _ _ _ (@l7 _ _ _ _ _ (af 0)) aj rfl) (ao aJ))) (fun cl C ay aC fp => ⟨Or.inl rfl, rfl⟩) (fun cl C ay aC fp => ⟨Or.inl rfl, rfl⟩)
        (fun cl C ay aC fp => (@fN _ _ _ _ _ _ (af 0))) (fun cl C ay aC fp => (af 1))) aj rfl))))
theorem bb : aS ["order", "numbers", "first", "place", "follower"] ["order"] (ak (aO 22)) := ⟨rfl, rfl, rfl, by decide +kernel, rfl, by decide +kernel, by decide +kernel⟩
theorem pM (D : aR K mg "taken_up" (aO 22)) (T : Blt mg) (aL : i3 P w K mg base g "order_needed" 4 ["thing"] aK) : i3 P w K mg base g "taken_up" 5 ["order"] bJ := by
  obtain ⟨f, fd, hm, F⟩ := D
  obtain ⟨dX, dN, bo, bg, bp, bh⟩ := aL
  refine ⟨f, fd, du (pk F bb (fun cdv A outer s H E hr fl pl po => ?_)), F.kp, F.binds (fun _ _ _ _ _ _ us hl => fO hl fun _ => rfl), hm⟩
  exact (@av _ _ _ _ _ _ _ (dy (iD fl pl (bo.mono (by decide)) hr rfl bh bg bp (@ae _ _ _ _ _ _ _ (@l7 _ _ _ _ _ (af 0)) aj rfl) (ao aJ)))
      (@av _ _ _ _ _ _ _ (@oJ _ _ _ _ _ (@bZ _ _ _ _ _ _ 1 _ _ bb.nd rfl (by first | exact Or.inl rfl | exact Or.inr rfl) (@aT _ _ _ _ _ _ _ _ _ _ _ kz kq (@b_ _ _ _ _ _ _ _ _ (@ae _ _ _ _ _ _ _ ax aj rfl)) (aX cO cR rfl T.len PySem.boot_len (@ae _ _ _ _ _ _ _ (af 0) aj rfl))) rfl (.inl rfl)))
      (@av _ _ _ _ _ _ _ (@oJ _ _ _ _ _ (@bZ _ _ _ _ _ _ 2 _ _ bb.nd rfl (by first | exact Or.inl rfl | exact Or.inr rfl) (@cD _ _ _ _ _ _ _ _ _ _ bG cB (af 0) ax (fun _ _ => rfl)) rfl (.inl rfl)))
      (@av _ _ _ _ _ _ _ (@oJ _ _ _ _ _ (gc PassesOwn.never rfl (vq rfl T.zip (@ae _ _ _ _ _ _ _ (af 0) (@ae _ _ _ _ _ _ _ (@aT _ _ _ _ _ _ _ _ _ _ _ c_ cZ (fh (af 0) (@fI _ _ _ _ _ ax) iT) (@g6 _ _ _ _ _ _ _ (@ae _ _ _ _ _ _ _ (aX cO cR rfl T.len PySem.boot_len (@ae _ _ _ _ _ _ _ (af 0) aj rfl)) aj rfl))) aj rfl) rfl)) (lV rfl (dk (bf (i := 3) bb.nd rfl (by first | exact Or.inl rfl | exact Or.inr rfl)) (dk (bf (i := 4) bb.nd rfl (by first | exact Or.inl rfl | exact Or.inr rfl)) jK))) qv (@az _ _ _ _ _ (@hZ _ _ _ _ _ _ _ _ _ _ (@bO _ _ _ _ _ _ _ _ _ _ _ sP tf (af 4) (af 2) (bK _)) (@av _ _ _ _ _ _ _ (gv (af 2) (af 1) (af 3) set_list fy)
      (@az _ _ _ _ _ (@bZ _ _ _ _ _ _ 2 _ _ bb.nd rfl (by first | exact Or.inl rfl | exact Or.inr rfl) (af 4) rfl (.inl rfl)))) (@az _ _ _ _ _ (gv (af 4) (af 1) (af 3) set_list fy))))))
      (@az _ _ _ _ _ (@oJ _ _ _ _ _ (@bB _ _ _ _ _ _ (bD aY cP rfl T.tuple PyProof.Rows.boot_tuple (@ae _ _ _ _ _ _ _ (af 1) aj rfl)))))))))
theorem rK : aS ["order"] ["order"] (ak (aO 19)) := ⟨rfl, rfl, rfl, by decide +kernel, rfl, by decide +kernel, by decide +kernel⟩
theorem ql (D : aR K mg "lifts_of" (aO 19)) (T : Blt mg) (aL : i3 P w K mg base g "order_needed" 4 ["thing"] aK) : i3 P w K mg base g "lifts_of" 5 ["order"] dz := by
  obtain ⟨f, fd, hm, F⟩ := D
  obtain ⟨dX, dN, bo, bg, bp, bh⟩ := aL
  refine ⟨f, fd, pk F rK (fun cdv A outer s H E hr fl pl po => ?_), F.kp, F.binds (fun _ _ _ _ _ _ us hl => fO hl fun _ => rfl), hm⟩
  exact (@av _ _ _ _ _ _ _ (dy (iD fl pl (bo.mono (by decide)) hr rfl bh bg bp (@ae _ _ _ _ _ _ _ (@l7 _ _ _ _ _ (af 0)) aj rfl) (ao aJ)))
      (@az _ _ _ _ _ (@oJ _ _ _ _ _ (@bB _ _ _ _ _ _ (bD aY cP rfl T.tuple PyProof.Rows.boot_tuple (@ae _ _ _ _ _ _ _ (m6 (osc := ak (aO 19)) [] ["place", "number"] rfl rfl rfl rfl (by decide +kernel) ⟨by decide +kernel, by decide +kernel, rfl, by decide +kernel, by decide +kernel⟩ (j4 rfl T.enumerate (af 0)) (fun cl C ay aC fp => ⟨Or.inl rfl, rfl⟩) (fun cl C ay aC fp => ⟨Or.inl rfl, rfl⟩)
        (fun cl C ay aC fp => (qc (@bO _ _ _ _ _ _ _ _ _ _ _ sP tf (af 1) (af 0) (bK _)))) (fun cl C ay aC fp => (af 0))) aj rfl))))))
theorem kU : aS ["order"] ["order"] (ak (aO 20)) := ⟨rfl, rfl, rfl, by decide +kernel, rfl, by decide +kernel, by decide +kernel⟩
theorem qP (D : aR K mg "drops_of" (aO 20)) (T : Blt mg) (aL : i3 P w K mg base g "order_needed" 4 ["thing"] aK) : i3 P w K mg base g "drops_of" 5 ["order"] dv := by
  obtain ⟨f, fd, hm, F⟩ := D
  obtain ⟨dX, dN, bo, bg, bp, bh⟩ := aL
  refine ⟨f, fd, pk F kU (fun cdv A outer s H E hr fl pl po => ?_), F.kp, F.binds (fun _ _ _ _ _ _ us hl => fO hl fun _ => rfl), hm⟩
  exact (@av _ _ _ _ _ _ _ (dy (iD fl pl (bo.mono (by decide)) hr rfl bh bg bp (@ae _ _ _ _ _ _ _ (@l7 _ _ _ _ _ (af 0)) aj rfl) (ao aJ)))
      (@az _ _ _ _ _ (@oJ _ _ _ _ _ (@bB _ _ _ _ _ _ (bD aY cP rfl T.tuple PyProof.Rows.boot_tuple (@ae _ _ _ _ _ _ _ (m6 (osc := ak (aO 20)) [] ["place", "number"] rfl rfl rfl rfl (by decide +kernel) ⟨by decide +kernel, by decide +kernel, rfl, by decide +kernel, by decide +kernel⟩ (j4 rfl T.enumerate (af 0)) (fun cl C ay aC fp => ⟨Or.inl rfl, rfl⟩) (fun cl C ay aC fp => ⟨Or.inl rfl, rfl⟩)
        (fun cl C ay aC fp => (qc (@bO _ _ _ _ _ _ _ _ _ _ _ vJ uJ (af 1) (af 0) (bK _)))) (fun cl C ay aC fp => (af 0))) aj rfl))))))
theorem jR : aS ["_law_way", "_law_thing", "_law_e"] ["_law_way", "_law_thing"] (ak (aO 34)) := ⟨rfl, rfl, rfl, by decide +kernel, rfl, by decide +kernel, by decide +kernel⟩
theorem nX (D : aR K mg "_law_told" (aO 34)) (T : Blt mg) (hgo : g = gOf mg) (CL : oG K mg) (dW : BW P w K mg base g "_law_refused" 2 ["_law_e"] bN) (mH : i3 P w K mg base g "laid" 6 ["order"] ft) (gZ : i3 P w K mg base g "taken_up" 5 ["order"] bJ) (cJ : i3 P w K mg base g "rounds_of" 5 ["order"] bu) (gL : i3 P w K mg base g "lifts_of" 5 ["order"] dz) (gU : i3 P w K mg base g "drops_of" 5 ["order"] dv) : Has P w K mg base g "_law_told" 7 ["_law_way", "_law_thing"] aI := by
  obtain ⟨f, fd, hm, F⟩ := D
  obtain ⟨vR, vc, kf, kB, ko, j_⟩ := dW
  obtain ⟨Gf, Ff, yO, yX, xM, mC⟩ := mH
  obtain ⟨Bf, AY, qH, qh, pL, gP⟩ := gZ
  obtain ⟨n_, lR, fS, fL, f7, dh⟩ := cJ
  obtain ⟨Cu, AQ, rm, p9, pP, gM⟩ := gL
  obtain ⟨CH, AU, p_, qu, qr, gC⟩ := gU
  have TE_0 : xE P w K mg base g 6 1 eJ := by
    intro x m e
    unfold eJ at e
    by_cases mZ : x = "laid"
    · rw [if_pos mZ] at e; cases e; rw [mZ]; exact ⟨_, _, _, eS hgo mC, yO.mono (by decide), yX, xM⟩
    rw [if_neg mZ] at e
    by_cases gB : x = "taken_up"
    · rw [if_pos gB] at e; cases e; rw [gB]; exact ⟨_, _, _, eS hgo gP, qH.mono (by decide), qh, pL⟩
    rw [if_neg gB] at e
    by_cases fP : x = "rounds_of"
    · rw [if_pos fP] at e; cases e; rw [fP]; exact ⟨_, _, _, eS hgo dh, fS.mono (by decide), fL, f7⟩
    rw [if_neg fP] at e
    by_cases gO : x = "lifts_of"
    · rw [if_pos gO] at e; cases e; rw [gO]; exact ⟨_, _, _, eS hgo gM, rm.mono (by decide), p9, pP⟩
    rw [if_neg gO] at e
    by_cases gQ : x = "drops_of"
    · rw [if_pos gQ] at e; cases e; rw [gQ]; exact ⟨_, _, _, eS hgo gC, p_.mono (by decide), qu, qr⟩
    rw [if_neg gQ] at e
    cases e
  refine ⟨f, fd, gD F jR (fun cdv A outer s H E hr => ?_), F.kp, F.binds (fun _ _ _ _ _ _ us hl => zv hl fun _ _ => rfl), hm, bC F⟩
  exact (@az _ _ _ _ _ (Fq (i := 2) CL hgo ⟨rfl, rfl, rfl⟩ jR.nd rfl rfl rfl rfl (kf.mono (by decide)) (Aq hr) j_ kB ko (fun pn xe E fl pl po => (@az _ _ _ _ _ (@bB _ _ _ _ _ _ (vO fl pl TE_0 hr (@l7 _ _ _ _ _ (@cD _ _ _ _ _ _ _ _ _ _ bG cB (@b_ _ _ _ _ _ _ _ _ (@ae _ _ _ _ _ _ _ (sO rfl mC (eS hgo mC)) (@ae _ _ _ _ _ _ _ (sO rfl gP (eS hgo gP)) (@ae _ _ _ _ _ _ _ (sO rfl dh (eS hgo dh)) (@ae _ _ _ _ _ _ _ (sO rfl gM (eS hgo gM)) (@ae _ _ _ _ _ _ _ (sO rfl gC (eS hgo gC)) aj rfl) rfl) rfl) rfl) rfl)) (af 0) (fun _ _ => rfl))) (@ae _ _ _ _ _ _ _ (@l7 _ _ _ _ _ (af 1)) aj rfl) (ao aJ)))))))
theorem kF (D : aR K mg "order_needed" (aO 15)) (T : Blt mg) (cn : Has P w K mg base g "order_good" 3 ["thing"] bV) : Has P w K mg base g "order_needed" 4 ["thing"] aU := by
  obtain ⟨f, fd, hm, F⟩ := D
  obtain ⟨nk, lx, fw, e9, eY, e_, _⟩ := cn
  refine ⟨f, fd, gD F hG (fun cdv A outer s H E hr => ?_), F.kp, F.binds (fun _ _ _ _ _ _ us hl => fO hl fun _ => rfl), hm, bC F⟩
  exact (@az _ _ _ _ _ (@hZ _ _ _ _ _ _ _ _ _ _ (@kA _ _ _ _ _ _ (@iQ _ _ _ _ _ _ mE (aP (fw.mono (by decide)) hr rfl e_ e9 eY (@ae _ _ _ _ _ _ _ (af 0) aj rfl) (ao aJ)) (fun _ => rfl))) (@az _ _ _ _ _ (PS.imp AG fun E σ H ⟨α, env, h, s, w⟩ => w.elim)) cj))
theorem nW (D : aR K mg "rounds_of" (aO 17)) (T : Blt mg) (aV : Has P w K mg base g "order_needed" 4 ["thing"] aU) (ck : Has P w K mg base g "round_from" 1 ["order", "first"] bX) : Has P w K mg base g "rounds_of" 5 ["order"] eB := by
  obtain ⟨f, fd, hm, F⟩ := D
  obtain ⟨gi, fJ, cw, cq, cp, cu, _⟩ := aV
  obtain ⟨mz, lq, eQ, eW, fx, eU, _⟩ := ck
  refine ⟨f, fd, pJ (du (gD F aZ (fun cdv A outer s H E hr => ?_))), F.kp, F.binds (fun _ _ _ _ _ _ us hl => fO hl fun _ => rfl), hm, bC F⟩
  exact (@av _ _ _ _ _ _ _ (dy (aP (cw.mono (by decide)) hr rfl cu cq cp (@ae _ _ _ _ _ _ _ (af 0) aj rfl) (ao aJ)))
      (@av _ _ _ _ _ _ _ (@bZ _ _ _ _ _ _ 1 _ _ aZ.nd rfl (by first | exact Or.inl rfl | exact Or.inr rfl) (@b_ _ _ _ _ _ _ _ _ aj) rfl (.inl rfl))
      (@av _ _ _ _ _ _ _ (@bZ _ _ _ _ _ _ 2 _ _ aZ.nd rfl (by first | exact Or.inl rfl | exact Or.inr rfl) (uT rfl T.set) rfl (.inl rfl))
      (@av _ _ _ _ _ _ _ (gc PassesOwn.never rfl (vF rfl T.range (@ae _ _ _ _ _ _ _ (@aT _ _ _ _ _ _ _ _ _ _ _ ku kJ (aX cO cR rfl T.len PySem.boot_len (@ae _ _ _ _ _ _ _ (af 0) aj rfl)) ax) (@ae _ _ _ _ _ _ _ (@jh _ _ _ _ _ _ _ _ _ eV fT ax) (@ae _ _ _ _ _ _ _ (@jh _ _ _ _ _ _ _ _ _ eV fT ax) aj rfl) rfl) rfl)) (bf (i := 3) aZ.nd rfl (by first | exact Or.inl rfl | exact Or.inr rfl)) eM (@az _ _ _ _ _ (@hZ _ _ _ _ _ _ _ _ _ _ (@bO _ _ _ _ _ _ _ _ _ _ _ oM yQ (af 3) (af 2) (by rfl)) (@av _ _ _ _ _ _ _ (@bZ _ _ _ _ _ _ 4 _ _ aZ.nd rfl (by first | exact Or.inl rfl | exact Or.inr rfl) (aP (eQ.mono (by decide)) hr rfl eU eW fx (@ae _ _ _ _ _ _ _ (af 0) (@ae _ _ _ _ _ _ _ (af 3) aj rfl) rfl) (ao (ao aJ))) rfl (.inl rfl))
      (@av _ _ _ _ _ _ _ (dy (gr PySem.F.slot_list_append PySem.F.type_list_append dE eO (af 1) (@ae _ _ _ _ _ _ _ (af 4) aj rfl)))
      (@az _ _ _ _ _ (gc PassesOwn.never rfl (@fN _ _ _ _ _ _ (af 4)) (bf (i := 5) aZ.nd rfl (by first | exact Or.inl rfl | exact Or.inr rfl)) eM (@az _ _ _ _ _ (dy (yk PySem.F.slot_set_add PySem.F.type_set_add xJ uB (af 2) (@ae _ _ _ _ _ _ _ (af 5) aj rfl)))))))) cj)))
      (@az _ _ _ _ _ (@bB _ _ _ _ _ _ (p8 (af 1))))))))
theorem xA (D : aR K mg "laid" (aO 21)) (T : Blt mg) (fM : Has P w K mg base g "rounds_of" 5 ["order"] eB) : Has P w K mg base g "laid" 6 ["order"] fV := by
  obtain ⟨f, fd, hm, F⟩ := D
  obtain ⟨AW, zB, oK, nU, nR, nP, _⟩ := fM
  refine ⟨f, fd, du (gD F u9 (fun cdv A outer s H E hr => ?_)), F.kp, F.binds (fun _ _ _ _ _ _ us hl => fO hl fun _ => rfl), hm, bC F⟩
  exact (@az _ _ _ _ _ (@bB _ _ _ _ _ _ (bD aY cP rfl T.tuple PyProof.Rows.boot_tuple (@ae _ _ _ _ _ _ _ (oN (osc := ak (aO 21)) [] ["found", "place"] rfl rfl rfl (by decide +kernel) ⟨by decide +kernel, by decide +kernel, rfl, by decide +kernel, by decide +kernel⟩ (@fN _ _ _ _ _ _ (aP (oK.mono (by decide)) hr rfl nP nU nR (@ae _ _ _ _ _ _ _ (af 0) aj rfl) (ao aJ))) (fun cl C ay aC fp => ⟨Or.inl rfl, rfl⟩) (fun cl C ay aC fp => ⟨Or.inl rfl, rfl⟩)
        (fun cl C ay aC fp => (@fN _ _ _ _ _ _ (af 0))) (fun cl C ay aC fp => (af 1))) aj rfl))))
theorem qO (D : aR K mg "taken_up" (aO 22)) (T : Blt mg) (aV : Has P w K mg base g "order_needed" 4 ["thing"] aU) : Has P w K mg base g "taken_up" 5 ["order"] dw := by
  obtain ⟨f, fd, hm, F⟩ := D
  obtain ⟨gi, fJ, cw, cq, cp, cu, _⟩ := aV
  refine ⟨f, fd, du (gD F bb (fun cdv A outer s H E hr => ?_)), F.kp, F.binds (fun _ _ _ _ _ _ us hl => fO hl fun _ => rfl), hm, bC F⟩
  exact (@av _ _ _ _ _ _ _ (dy (aP (cw.mono (by decide)) hr rfl cu cq cp (@ae _ _ _ _ _ _ _ (af 0) aj rfl) (ao aJ)))
      (@av _ _ _ _ _ _ _ (@bZ _ _ _ _ _ _ 1 _ _ bb.nd rfl (by first | exact Or.inl rfl | exact Or.inr rfl) (@aT _ _ _ _ _ _ _ _ _ _ _ kz kq (@b_ _ _ _ _ _ _ _ _ (@ae _ _ _ _ _ _ _ ax aj rfl)) (aX cO cR rfl T.len PySem.boot_len (@ae _ _ _ _ _ _ _ (af 0) aj rfl))) rfl (.inl rfl))
      (@av _ _ _ _ _ _ _ (@bZ _ _ _ _ _ _ 2 _ _ bb.nd rfl (by first | exact Or.inl rfl | exact Or.inr rfl) (@cD _ _ _ _ _ _ _ _ _ _ bG cB (af 0) ax (fun _ _ => rfl)) rfl (.inl rfl))
      (@av _ _ _ _ _ _ _ (gc PassesOwn.never rfl (vq rfl T.zip (@ae _ _ _ _ _ _ _ (af 0) (@ae _ _ _ _ _ _ _ (@aT _ _ _ _ _ _ _ _ _ _ _ c_ cZ (fh (af 0) (@fI _ _ _ _ _ ax) iT) (@g6 _ _ _ _ _ _ _ (@ae _ _ _ _ _ _ _ (aX cO cR rfl T.len PySem.boot_len (@ae _ _ _ _ _ _ _ (af 0) aj rfl)) aj rfl))) aj rfl) rfl)) (lV rfl (dk (bf (i := 3) bb.nd rfl (by first | exact Or.inl rfl | exact Or.inr rfl)) (dk (bf (i := 4) bb.nd rfl (by first | exact Or.inl rfl | exact Or.inr rfl)) jK))) qv (@az _ _ _ _ _ (@hZ _ _ _ _ _ _ _ _ _ _ (@bO _ _ _ _ _ _ _ _ _ _ _ sP tf (af 4) (af 2) (bK _)) (@av _ _ _ _ _ _ _ (gv (af 2) (af 1) (af 3) set_list fy)
      (@az _ _ _ _ _ (@bZ _ _ _ _ _ _ 2 _ _ bb.nd rfl (by first | exact Or.inl rfl | exact Or.inr rfl) (af 4) rfl (.inl rfl)))) (@az _ _ _ _ _ (gv (af 4) (af 1) (af 3) set_list fy)))))
      (@az _ _ _ _ _ (@bB _ _ _ _ _ _ (bD aY cP rfl T.tuple PyProof.Rows.boot_tuple (@ae _ _ _ _ _ _ _ (af 1) aj rfl))))))))
theorem nV : aS ["_law_row"] ["_law_row"] (ak (aO 31)) := ⟨rfl, rfl, rfl, by decide +kernel, rfl, by decide +kernel, by decide +kernel⟩
theorem mV (D : aR K mg "_law_falls" (aO 31)) (T : Blt mg) : Has P w K mg base g "_law_falls" 1 ["_law_row"] cx := by
  obtain ⟨f, fd, hm, F⟩ := D
  refine ⟨f, fd, gD F nV (fun cdv A outer s H E hr => ?_), F.kp, F.binds (fun _ _ _ _ _ _ us hl => fO hl fun _ => rfl), hm, bC F⟩
  exact (@az _ _ _ _ _ (@bB _ _ _ _ _ _ (jA (osc := ak (aO 31)) [0] ["_law_place", "_law_row"] rfl rfl rfl rfl (by decide +kernel) ⟨by decide +kernel, by decide +kernel, rfl, by decide +kernel, rfl, by decide +kernel⟩ (j8 rfl T.range (@ae _ _ _ _ _ _ _ (@aT _ _ _ _ _ _ _ _ _ _ _ ku kJ (aX cO cR rfl T.len PySem.boot_len (@ae _ _ _ _ _ _ _ (af 0) aj rfl)) ax) aj rfl))
        (fun cl C ay aC fp => (qc (@bO _ _ _ _ _ _ _ _ _ _ _ sP tf (@cD _ _ _ _ _ _ _ _ _ _ bG cB (af 1) (af 0) (fun _ _ => rfl)) (@cD _ _ _ _ _ _ _ _ _ _ bG cB (af 1) (@aT _ _ _ _ _ _ _ _ _ _ _ c_ cZ (af 0) ax) (fun _ _ => rfl)) (bK _)))) (fun cl C ay aC fp => (af 0)))))
theorem qq (D : aR K mg "drops_of" (aO 20)) (T : Blt mg) (aV : Has P w K mg base g "order_needed" 4 ["thing"] aU) : Has P w K mg base g "drops_of" 5 ["order"] dB := by
  obtain ⟨f, fd, hm, F⟩ := D
  obtain ⟨gi, fJ, cw, cq, cp, cu, _⟩ := aV
  refine ⟨f, fd, gD F kU (fun cdv A outer s H E hr => ?_), F.kp, F.binds (fun _ _ _ _ _ _ us hl => fO hl fun _ => rfl), hm, bC F⟩
  exact (@av _ _ _ _ _ _ _ (dy (aP (cw.mono (by decide)) hr rfl cu cq cp (@ae _ _ _ _ _ _ _ (af 0) aj rfl) (ao aJ)))
      (@az _ _ _ _ _ (@bB _ _ _ _ _ _ (bD aY cP rfl T.tuple PyProof.Rows.boot_tuple (@ae _ _ _ _ _ _ _ (m6 (osc := ak (aO 20)) [] ["place", "number"] rfl rfl rfl rfl (by decide +kernel) ⟨by decide +kernel, by decide +kernel, rfl, by decide +kernel, by decide +kernel⟩ (j4 rfl T.enumerate (af 0)) (fun cl C ay aC fp => ⟨Or.inl rfl, rfl⟩) (fun cl C ay aC fp => ⟨Or.inl rfl, rfl⟩)
        (fun cl C ay aC fp => (qc (@bO _ _ _ _ _ _ _ _ _ _ _ vJ uJ (af 1) (af 0) (bK _)))) (fun cl C ay aC fp => (af 0))) aj rfl)))))
theorem gw : aS ["_law_script", "_law_cell", "_law_pen", "_law_way", "_law_n", "_law_spot", "_law_odd", "_law_order_here", "_law_due", "_law_bad"] ["_law_script"] (ak (aO 35)) := ⟨rfl, rfl, rfl, by decide +kernel, rfl, by decide +kernel, by decide +kernel⟩
theorem A9 (D : aR K mg "law" (aO 35)) (T : Blt mg) (dU : Has P w K mg base g "_law_cell_at" 1 ["_law_script", "_law_k"] bM) (eG : Has P w K mg base g "_law_pen_of" 1 ["_law_cell"] b9) (cE : Has P w K mg base g "_law_draw" 2 ["_law_pen", "_law_many"] aD) (eX : Has P w K mg base g "_law_order" 3 ["_law_pen", "_law_n"] bW) (fX : Has P w K mg base g "_law_laid" 1 ["_law_order_here"] cQ) (dO : Has P w K mg base g "_law_taken_up" 1 ["_law_order_here"] bF) (fZ : Has P w K mg base g "_law_told" 7 ["_law_way", "_law_thing"] aI) (nF : Has P w K mg base g "laid" 6 ["order"] fV) (gF : Has P w K mg base g "taken_up" 5 ["order"] dw) (fm : Has P w K mg base g "_law_falls" 1 ["_law_row"] cx) (gA : Has P w K mg base g "drops_of" 5 ["order"] dB) : Has P w K mg base g "law" 8 ["_law_script"] lU := by
  obtain ⟨f, fd, hm, F⟩ := D
  obtain ⟨wL, vg, kP, kE, kM, kj, _⟩ := dU
  obtain ⟨xy, vN, k_, lA, lr, lg, _⟩ := eG
  obtain ⟨nY, m_, cH, cG, cF, cI, _⟩ := cE
  obtain ⟨xS, xv, mS, mB, nE, mT, _⟩ := eX
  obtain ⟨AO, zj, nN, oo, oE, ou, _⟩ := fX
  obtain ⟨uS, tI, jH, j3, jU, j7, _⟩ := dO
  obtain ⟨AX, yP, d9, ed, ec, dZ, _⟩ := fZ
  obtain ⟨FK, Fh, sG, rY, sJ, tE, _⟩ := nF
  obtain ⟨Cn, AV, qo, q_, pS, qM, _⟩ := gF
  obtain ⟨y0, xw, mI, nq, lZ, nh, _⟩ := fm
  obtain ⟨BP, AS, pN, qC, qQ, qG, _⟩ := gA
  refine ⟨f, fd, du (gD F gw (fun cdv A outer s H E hr => ?_)), F.kp, F.binds (fun _ _ _ _ _ _ us hl => fO hl fun _ => rfl), hm, bC F⟩
  exact (@av _ _ _ _ _ _ _ (gc PassesOwn.never rfl (@fN _ _ _ _ _ _ (@aT _ _ _ _ _ _ _ _ _ _ _ c_ cZ (@b_ _ _ _ _ _ _ _ _ (@ae _ _ _ _ _ _ _ (aP (kP.mono (by decide)) hr rfl kj kE kM (@ae _ _ _ _ _ _ _ (af 0) (@ae _ _ _ _ _ _ _ ax aj rfl) rfl) (ao (ao aJ))) aj rfl)) (fh (af 0) (@fI _ _ _ _ _ ax) (@fI _ _ _ _ _ ax)))) (bf (i := 1) gw.nd rfl (by first | exact Or.inl rfl | exact Or.inr rfl)) eM (@av _ _ _ _ _ _ _ (@bZ _ _ _ _ _ _ 2 _ _ gw.nd rfl (by first | exact Or.inl rfl | exact Or.inr rfl) (aP (k_.mono (by decide)) hr rfl lg lA lr (@ae _ _ _ _ _ _ _ (af 1) aj rfl) (ao aJ)) rfl (.inl rfl))
      (@av _ _ _ _ _ _ _ (zr (i := 3) (j := 4) rfl gw.nd rfl rfl (by decide) (@ae _ _ _ _ _ _ _ (aP (cH.mono (by decide)) hr rfl cI cG cF (@ae _ _ _ _ _ _ _ (af 2) (@ae _ _ _ _ _ _ _ ax aj rfl) rfl) (ao (ao aJ))) (@ae _ _ _ _ _ _ _ (@aT _ _ _ _ _ _ _ _ _ _ _ c_ cZ ax (aP (cH.mono (by decide)) hr rfl cI cG cF (@ae _ _ _ _ _ _ _ (af 2) (@ae _ _ _ _ _ _ _ ax aj rfl) rfl) (ao (ao aJ)))) aj rfl) rfl))
      (@av _ _ _ _ _ _ _ (zr (i := 5) (j := 6) rfl gw.nd rfl rfl (by decide) (@ae _ _ _ _ _ _ _ (aP (cH.mono (by decide)) hr rfl cI cG cF (@ae _ _ _ _ _ _ _ (af 2) (@ae _ _ _ _ _ _ _ (af 4) aj rfl) rfl) (ao (ao aJ))) (@ae _ _ _ _ _ _ _ (@cD _ _ _ _ _ _ _ _ _ _ bG cB (@b_ _ _ _ _ _ _ _ _ (@ae _ _ _ _ _ _ _ (@aT _ _ _ _ _ _ _ _ _ _ _ c_ cZ (af 4) ax) (@ae _ _ _ _ _ _ _ (@jh _ _ _ _ _ _ _ _ _ eV fT ax) (@ae _ _ _ _ _ _ _ jf (@ae _ _ _ _ _ _ _ yt (@ae _ _ _ _ _ _ _ eZ (@ae _ _ _ _ _ _ _ (@b_ _ _ _ _ _ _ _ _ (@ae _ _ _ _ _ _ _ ax aj rfl)) (@ae _ _ _ _ _ _ _ Cg (@ae _ _ _ _ _ _ _ (@g6 _ _ _ _ _ _ _ (@ae _ _ _ _ _ _ _ ax aj rfl)) aj rfl) rfl) rfl) rfl) rfl) rfl) rfl) rfl)) (aP (cH.mono (by decide)) hr rfl cI cG cF (@ae _ _ _ _ _ _ _ (af 2) (@ae _ _ _ _ _ _ _ ax aj rfl) rfl) (ao (ao aJ))) (fun _ _ => rfl)) aj rfl) rfl))
      (@av _ _ _ _ _ _ _ (@bZ _ _ _ _ _ _ 7 _ _ gw.nd rfl (by first | exact Or.inl rfl | exact Or.inr rfl) (aP (mS.mono (by decide)) hr rfl mT mB nE (@ae _ _ _ _ _ _ _ (af 2) (@ae _ _ _ _ _ _ _ (af 4) aj rfl) rfl) (ao (ao aJ))) rfl (.inl rfl))
      (@av _ _ _ _ _ _ _ (@hZ _ _ _ _ _ _ _ _ _ _ (@bO _ _ _ _ _ _ _ _ _ _ _ vJ uJ (af 3) ax (bK _)) (@az _ _ _ _ _ (@bZ _ _ _ _ _ _ 7 _ _ gw.nd rfl (by first | exact Or.inl rfl | exact Or.inr rfl) (@cD _ _ _ _ _ _ _ _ _ _ bG cB (@b_ _ _ _ _ _ _ _ _ (@ae _ _ _ _ _ _ _ (qy rfl rfl T.tuple rfl T.range (@ae _ _ _ _ _ _ _ (af 4) aj rfl)) (@ae _ _ _ _ _ _ _ (p8 (qy rfl rfl T.tuple rfl T.range (@ae _ _ _ _ _ _ _ (af 4) aj rfl))) aj rfl) rfl)) (af 3) (fun _ _ => rfl)) rfl (.inl rfl))) cj)
      (@av _ _ _ _ _ _ _ (@bZ _ _ _ _ _ _ 8 _ _ gw.nd rfl (by first | exact Or.inl rfl | exact Or.inr rfl) (@b_ _ _ _ _ _ _ _ _ (@ae _ _ _ _ _ _ _ (aP (nN.mono (by decide)) hr rfl ou oo oE (@ae _ _ _ _ _ _ _ (af 7) aj rfl) (ao aJ)) (@ae _ _ _ _ _ _ _ (aP (jH.mono (by decide)) hr rfl j7 j3 jU (@ae _ _ _ _ _ _ _ (af 7) aj rfl) (ao aJ)) aj rfl) rfl)) rfl (.inl rfl))
      (@av _ _ _ _ _ _ _ (@hZ _ _ _ _ _ _ _ _ _ _ (@bO _ _ _ _ _ _ _ _ _ _ _ (ik hr.units) k7 (aX (uD hr.gd hr.units) vh rfl T.repr PyProof.Rows.boot_repr (@ae _ _ _ _ _ _ _ (jA (osc := ak (aO 35)) [7] ["_law_at", "_law_order_here"] rfl rfl rfl rfl (by decide +kernel) ⟨by decide +kernel, by decide +kernel, rfl, by decide +kernel, rfl, by decide +kernel⟩ (j8 rfl T.range (@ae _ _ _ _ _ _ _ ax aj rfl))
        (fun cl C ay aC fp => uk) (fun cl C ay aC fp => (aP (d9.mono (by decide)) hr rfl dZ ed ec (@ae _ _ _ _ _ _ _ (af 0) (@ae _ _ _ _ _ _ _ (af 1) aj rfl) rfl) (ao (ao aJ))))) aj rfl)) (aX (uD hr.gd hr.units) vh rfl T.repr PyProof.Rows.boot_repr (@ae _ _ _ _ _ _ _ (af 8) aj rfl)) (bK _)) (@az _ _ _ _ _ (@bB _ _ _ _ _ _ jf)) cj)
      (@av _ _ _ _ _ _ _ (@hZ _ _ _ _ _ _ _ _ _ _ (PW.pt (@zg _ _ _ _ _ _ _ _ _ (@bO _ _ _ _ _ _ _ _ _ _ _ (ik hr.units) k7 (aP (d9.mono (by decide)) hr rfl dZ ed ec (@ae _ _ _ _ _ _ _ ax (@ae _ _ _ _ _ _ _ (aP (sG.mono (by decide)) hr rfl tE rY sJ (@ae _ _ _ _ _ _ _ (af 7) aj rfl) (ao aJ)) aj rfl) rfl) (ao (ao aJ))) (af 7) (bK _)) (@ud _ _ _ _ _ _ (@bO _ _ _ _ _ _ _ _ _ _ _ (ik hr.units) k7 (aP (d9.mono (by decide)) hr rfl dZ ed ec (@ae _ _ _ _ _ _ _ ax (@ae _ _ _ _ _ _ _ (aP (qo.mono (by decide)) hr rfl qM q_ pS (@ae _ _ _ _ _ _ _ (af 7) aj rfl) (ao aJ)) aj rfl) rfl) (ao (ao aJ))) (af 7) (bK _))))) (@az _ _ _ _ _ (@bB _ _ _ _ _ _ jf)) cj)
      (@av _ _ _ _ _ _ _ (@hZ _ _ _ _ _ _ _ _ _ _ (@bO _ _ _ _ _ _ _ _ _ _ _ (ik hr.units) k7 (aX cO cR rfl T.len PySem.boot_len (@ae _ _ _ _ _ _ _ (aP (mI.mono (by decide)) hr rfl nh nq lZ (@ae _ _ _ _ _ _ _ (aP (sG.mono (by decide)) hr rfl tE rY sJ (@ae _ _ _ _ _ _ _ (af 7) aj rfl) (ao aJ)) aj rfl) (ao aJ)) aj rfl)) (aX cO cR rfl T.len PySem.boot_len (@ae _ _ _ _ _ _ _ (aP (pN.mono (by decide)) hr rfl qG qC qQ (@ae _ _ _ _ _ _ _ (af 7) aj rfl) (ao aJ)) aj rfl)) (bK _)) (@az _ _ _ _ _ (@bB _ _ _ _ _ _ jf)) cj)
      (@az _ _ _ _ _ (gc PassesOwn.never rfl (@fN _ _ _ _ _ _ (@b_ _ _ _ _ _ _ _ _ (@ae _ _ _ _ _ _ _ (@aT _ _ _ _ _ _ _ _ _ _ _ c_ cZ (@aT _ _ _ _ _ _ _ _ _ _ _ c_ cZ (fh (af 7) iT (@fI _ _ _ _ _ (af 5))) (@g6 _ _ _ _ _ _ _ (@ae _ _ _ _ _ _ _ (af 6) aj rfl))) (fh (af 7) (@fI _ _ _ _ _ (af 5)) iT)) (@ae _ _ _ _ _ _ _ (bD (a_.frz qd) B_ rfl T.list PyProof.Rows.boot_list (@ae _ _ _ _ _ _ _ (af 7) aj rfl)) (@ae _ _ _ _ _ _ _ (@g6 _ _ _ _ _ _ _ aj) (@ae _ _ _ _ _ _ _ yt (@ae _ _ _ _ _ _ _ (qy rfl rfl T.tuple rfl T.range (@ae _ _ _ _ _ _ _ ax aj rfl)) (@ae _ _ _ _ _ _ _ (@aT _ _ _ _ _ _ _ _ _ _ _ c_ cZ (af 7) (fh (af 7) iT (@fI _ _ _ _ _ ax))) aj rfl) rfl) rfl) rfl) rfl) rfl))) (bf (i := 9) gw.nd rfl (by first | exact Or.inl rfl | exact Or.inr rfl)) eM (@az _ _ _ _ _ (@hZ _ _ _ _ _ _ _ _ _ _ (@bO _ _ _ _ _ _ _ _ _ _ _ (ik hr.units) k7 (jA (osc := ak (aO 35)) [9] ["_law_one", "_law_bad"] rfl rfl rfl rfl (by decide +kernel) ⟨by decide +kernel, by decide +kernel, rfl, by decide +kernel, rfl, by decide +kernel⟩ (j8 rfl T.range (@ae _ _ _ _ _ _ _ ax aj rfl))
        (fun cl C ay aC fp => uk) (fun cl C ay aC fp => (aP (d9.mono (by decide)) hr rfl dZ ed ec (@ae _ _ _ _ _ _ _ (af 0) (@ae _ _ _ _ _ _ _ (af 1) aj rfl) rfl) (ao (ao aJ))))) (@aT _ _ _ _ _ _ _ _ _ _ _ kz kq (@b_ _ _ _ _ _ _ _ _ (@ae _ _ _ _ _ _ _ (@g6 _ _ _ _ _ _ _ (@ae _ _ _ _ _ _ _ eZ aj rfl)) aj rfl)) ax) (bK _)) (@az _ _ _ _ _ (@bB _ _ _ _ _ _ jf)) cj))))))))))))))
      (@az _ _ _ _ _ (@bB _ _ _ _ _ _ jf)))
end
structure Text (K : PySem.W.Frag) : Prop where
  fB : cM K "_law_cell_at" (aO 24)
  f6 : cM K "_law_pen_of" (aO 26)
  iI : cM K "_law_next" (aO 25)
  iR : cM K "_law_draw" (aO 27)
  gW : cM K "_law_order" (aO 30)
  iw : cM K "_law_laid" (aO 32)
  eF : cM K "_law_taken_up" (aO 33)
  fv : cM K "_law_kind_of" (aO 28)
  fi : cM K "_law_refused" (aO 29)
  jv : cM K "is_whole" (aO 10)
  iP : cM K "is_within" (aO 11)
  gJ : cM K "order_good" (aO 14)
  fj : cM K "order_needed" (aO 15)
  gq : cM K "round_from" (aO 18)
  il : cM K "rounds_of" (aO 17)
  ug : cM K "laid" (aO 21)
  ju : cM K "taken_up" (aO 22)
  jy : cM K "lifts_of" (aO 19)
  jr : cM K "drops_of" (aO 20)
  iK : cM K "_law_told" (aO 34)
  gY : cM K "_law_falls" (aO 31)
  zS : cM K "law" (aO 35)
  cls : zU K
  gz : PySem.W.nsIn K mainGlobals "ValueError" = some none
  tH : PySem.W.nsIn K mainGlobals "bool" = some none
  iu : PySem.W.nsIn K mainGlobals "enumerate" = some none
  xZ : PySem.W.nsIn K mainGlobals "int" = some none
  gH : PySem.W.nsIn K mainGlobals "isinstance" = some none
  Ad : PySem.W.nsIn K mainGlobals "len" = some none
  uf : PySem.W.nsIn K mainGlobals "list" = some none
  x8 : PySem.W.nsIn K mainGlobals "max" = some none
  rC : PySem.W.nsIn K mainGlobals "range" = some none
  tL : PySem.W.nsIn K mainGlobals "repr" = some none
  xX : PySem.W.nsIn K mainGlobals "set" = some none
  qx : PySem.W.nsIn K mainGlobals "tuple" = some none
  yF : PySem.W.nsIn K mainGlobals "zip" = some none
  cV : ∃ t, PySem.W.nsIn K mainGlobals "MOST_NUMBERS" = some (some (Value.int 20 t))
theorem all_mk {P : Program} {w : World} {K : PySem.W.Frag} {h : Heap} {mg : Str -> Option Value} {fa : Addr} (X : K.In h) (G : h.Ns mainGlobals mg) (hfa : mg "law" = some (.ref fa)) (t : Text K) :
    ∃ fd : FuncData, (∀ (s : Shared) (v : Value), BindsTo s fd ⟨[v], []⟩ [("_law_script", v)]) /\ ∀ base : Heap, K.In base -> base.Ns mainGlobals mg -> dQ P w K mg base CX0 8 fa fd ["_law_script"] (spM K (gOf mg) 1 lU) := by
  have T : Blt mg := ⟨PySem.W.mg_none_of X G t.gz, PySem.W.mg_none_of X G t.tH, PySem.W.mg_none_of X G t.iu, PySem.W.mg_none_of X G t.xZ, PySem.W.mg_none_of X G t.gH, PySem.W.mg_none_of X G t.Ad, PySem.W.mg_none_of X G t.uf, PySem.W.mg_none_of X G t.x8, PySem.W.mg_none_of X G t.rC, PySem.W.mg_none_of X G t.tL, PySem.W.mg_none_of X G t.xX, PySem.W.mg_none_of X G t.qx, PySem.W.mg_none_of X G t.yF⟩
  obtain ⟨ic, cV⟩ := t.cV
  have eR := PySem.W.mg_of X G cV
  have mQ := aR.of X G t.fB
  have nZ := aR.of X G t.f6
  have sD := aR.of X G t.iI
  have rR := aR.of X G t.iR
  have qW := aR.of X G t.gW
  have rX := aR.of X G t.iw
  have lu := aR.of X G t.eF
  have l4 := aR.of X G t.fv
  have mw := aR.of X G t.fi
  have tY := aR.of X G t.jv
  have tj := aR.of X G t.iP
  have pO := aR.of X G t.gJ
  have iN := aR.of X G t.fj
  have rk := aR.of X G t.gq
  have k4 := aR.of X G t.il
  have zM := aR.of X G t.ug
  have mn := aR.of X G t.ju
  have tJ := aR.of X G t.jy
  have my := aR.of X G t.jr
  have rD := aR.of X G t.iK
  have rA := aR.of X G t.gY
  have F6 := aR.of X G t.zS
  have CL := oG.of X G t.cls
  obtain ⟨f, fd, hm, F⟩ := F6
  have e := hfa.symm.trans hm
  cases e
  refine ⟨fd, ?_, fun base _ _ => ?_⟩
  · obtain ⟨oc, od, kV, doc, pm, an, cdv, ct, osl, rfl, lk, hcd⟩ := F.ex
    exact fun s v => .of_eq rfl
  · have dU := kN (P := P) (w := w) (base := base) (g := gOf mg) mQ T
    have eG := lj (P := P) (w := w) (base := base) (g := gOf mg) nZ T
    have fU := ow (P := P) (w := w) (base := base) (g := gOf mg) sD T
    have cE := n6 (P := P) (w := w) (base := base) (g := gOf mg) rR T fU
    have eX := nD (P := P) (w := w) (base := base) (g := gOf mg) qW T cE
    have fX := om (P := P) (w := w) (base := base) (g := gOf mg) rX T
    have dO := jN (P := P) (w := w) (base := base) (g := gOf mg) lu T
    have dY := kS (P := P) (w := w) (base := base) (g := gOf mg) l4 T rfl CL
    have dW := j9 (P := P) (w := w) (base := base) (g := gOf mg) mw T dY
    have gG := qE (P := P) (w := w) (base := base) (g := gOf mg) tY T
    have fR := oI (P := P) (w := w) (base := base) (g := gOf mg) tj T gG
    have cn := m9 (P := P) (w := w) (base := base) (g := gOf mg) pO T eR fR
    have aL := km (P := P) (w := w) (base := base) (g := gOf mg) iN T rfl CL cn
    have ck := lW (P := P) (w := w) (base := base) (g := gOf mg) rk T
    have cJ := n9 (P := P) (w := w) (base := base) (g := gOf mg) k4 T aL ck
    have mH := zX (P := P) (w := w) (base := base) (g := gOf mg) zM T cJ
    have gZ := pM (P := P) (w := w) (base := base) (g := gOf mg) mn T aL
    have gL := ql (P := P) (w := w) (base := base) (g := gOf mg) tJ T aL
    have gU := qP (P := P) (w := w) (base := base) (g := gOf mg) my T aL
    have fZ := nX (P := P) (w := w) (base := base) (g := gOf mg) rD T rfl CL dW mH gZ cJ gL gU
    have aV := kF (P := P) (w := w) (base := base) (g := gOf mg) iN T cn
    have fM := nW (P := P) (w := w) (base := base) (g := gOf mg) k4 T aV ck
    have nF := xA (P := P) (w := w) (base := base) (g := gOf mg) zM T fM
    have gF := qO (P := P) (w := w) (base := base) (g := gOf mg) mn T aV
    have fm := mV (P := P) (w := w) (base := base) (g := gOf mg) rA T
    have gA := qq (P := P) (w := w) (base := base) (g := gOf mg) my T aV
    have BF := A9 (P := P) (w := w) (base := base) (g := gOf mg) ⟨_, _, hm, F⟩ T dU eG cE eX fX dO fZ nF gF fm gA
    exact Ej F hm BF
theorem walk {l : PySem.W.OpenLaw} {q : Program} {loose : List Str} {XP : (Str -> Option Value) -> Heap -> Prop} {YP : World -> Heap -> Prop} {d : DefRec} {K : Params -> PySem.W.Frag} (hn : l.most = some 63) (hdf : d.params.defaults = [])
    (hY : ∀ (w : World) (h : Heap), YP w h -> (K w.params).In h)
    (ok : ∀ ns : List Int, ns.length <= 63 -> ∃ h, lU [.scr (ns.map D.int)] [] = .ok (.bl true) h)
    (F : ∀ (w : World) (mg : Str -> Option Value) (fa : Addr) (h : Heap), (K w.params).In h -> h.Ns mainGlobals mg -> mg d.name = some (.ref fa) →
      ∃ fd : FuncData, (∀ (s : Shared) (u : Value), BindsTo s fd ⟨[u], []⟩ [("_law_script", u)]) /\ ∀ base : Heap, (K w.params).In base -> base.Ns mainGlobals mg -> dQ l.prog w (K w.params) mg base CX0 8 fa fd ["_law_script"] (spM (K w.params) (gOf mg) 1 lU)) :
    PySem.W.WalkO q loose XP YP l.row.toRowW d [] (fun f vs => PySem.call f vs) :=
  DN (k := 8) hn hdf ⟨rfl, by decide, by decide, rfl⟩ hY ok F
theorem ke {i : Int} (h1 : -(10 ^ 30) <= i) (h2 : i <= 10 ^ 30) : sml i = true := EU (Nat.le_trans (show i.natAbs <= 10 ^ 30 by omega) (by decide +kernel))
theorem tW {h : Hh} {n : Nat} {ds : List D} (e : aw h n = some ds) : n < h.length := by
  unfold aw at e
  by_cases hl : n < h.length
  · exact hl
  · rw [List.getElem?_eq_none (by omega)] at e; cases e
theorem qm {h : Hh} {n : Nat} {ds es : List D} (e : aw h n = some ds) : aw (h.set n (.lst es)) n = some es := by
  unfold aw; rw [List.getElem?_set_self (tW e)]
theorem BG {h t : Hh} {n : Nat} {ds : List D} (e : aw h n = some ds) : aw (h ++ t) n = some ds := by
  have := tW e
  unfold aw at e ⊢; rw [List.getElem?_append_left this]; exact e
theorem B4 {h t : Hh} {n : Nat} {o : O} (hn : n < h.length) : (h ++ t).set n o = h.set n o ++ t := List.set_append_left _ _ hn
theorem zW {h : Hh} {n : Nat} {ds : List D} (e : aw h n = some ds) : h.set n (.lst ds) = h := by
  unfold aw at e
  split at e
  · rename_i ds' q
    cases e
    refine List.ext_getElem? fun i => ?_
    rw [List.getElem?_set]
    split
    · rename_i hi; subst hi
      have hl : n < h.length := by
        by_cases hl : n < h.length
        · exact hl
        · rw [List.getElem?_eq_none (by omega)] at q; cases q
      rw [if_pos hl, q]
    · rfl
  · cases e
theorem Dj {h : Hh} {n : Nat} {ds : List D} (w : Wf h) (l : bP h.length ds = true) : Wf (h.set n (.lst ds)) := by
  unfold Wf at w ⊢
  rw [List.length_set, List.all_eq_true] at *
  intro x hx
  rcases List.mem_or_eq_of_mem_set hx with hx | hx
  · exact w x hx
  · subst hx; exact l
structure Pen where
  a : Int
  b : Int
  s : Int
noncomputable abbrev de (p : Pen) : List D := [.int p.a, .int p.b, .int p.s]
noncomputable def nxt (x : Int) : Int := ((x + 7919) % 2147483647 * ((x + 7919) % 2147483647) + 48271 * ((x + 7919) % 2147483647) + 12345) % 2147483629
noncomputable def dS (p : Pen) (m : Int) : Int := if p.b = 1 /\ 0 < p.a then p.a % m else nxt (nxt p.s + 7) / 64 % m
noncomputable def eK (p : Pen) (m : Int) : Pen := if p.b = 1 /\ 0 < p.a then ⟨p.a / m, p.b, p.s⟩ else ⟨p.a, p.b, nxt (nxt p.s + 7)⟩
theorem qk (p : Pen) {m : Int} (h : 0 < m) : 0 <= dS p m := by unfold dS; split <;> exact Int.emod_nonneg _ (by omega)
theorem mM (p : Pen) {m : Int} (h : 0 < m) : dS p m < m := by unfold dS; split <;> exact Int.emod_lt_of_pos _ h
@[simp] theorem Hk {x : Int} {h : Hh} : dF [.int x] h = .ok (.int (nxt x)) h := by
  have h1 : 0 <= (x + 7919) % 2147483647 := Int.emod_nonneg _ (by decide)
  have h2 : (x + 7919) % 2147483647 < 2147483647 := Int.emod_lt_of_pos _ (by decide)
  have s1 : sml ((x + 7919) % 2147483647) = true := ke (by omega) (by omega)
  have s2 : sml 48271 = true := by decide +kernel
  simp [dF, br, s1, s2, nxt]
theorem yi {p : Pen} {m : Int} {h : Hh} {n : Nat} (e : aw h n = some (de p)) (hm : 0 < m) (hm2 : m <= 10 ^ 20) : aD [.ref n, .int m] h = .ok (.int (dS p m)) (h.set n (.lst (de (eK p m)))) := by
  have s1 : sml m = true := ke (by omega) (by omega)
  have s2 : sml 64 = true := by decide +kernel
  have i2 : ∀ (x y z : Int) (h : Hh), ixK [D.int x, .int y, .int z] 2 h = .ok (.int z) h := fun _ _ _ _ => rfl
  have n0 : ixN (de p).length 0 = some 0 := rfl
  have n2 : ixN (de p).length 2 = some 2 := rfl
  by_cases c : p.b = 1
  · by_cases c2 : 0 < p.a
    · simp [aD, br, jP e, c, c2, hm, s1, j0 e n0, dS, eK]
    · simp [aD, br, jP e, c, c2, i2, j0 e n2, jP (qm e), s1, s2, hm, dS, eK]
  · simp [aD, br, jP e, c, i2, j0 e n2, jP (qm e), s1, s2, hm, dS, eK]
@[simp] theorem lO {p : Pen} {m : Int} {h t : Hh} (hm : 0 < m /\ m <= 10 ^ 20) : aD [.ref h.length, .int m] (h ++ .lst (de p) :: t) = .ok (.int (dS p m)) (h ++ .lst (de (eK p m)) :: t) := by
  rw [yi cX hm.1 hm.2, gK]
noncomputable def rG (c : Int) : Pen := ⟨max c (0 - c), if max c (0 - c) ≥ 10 ^ 18 then 1 else 0, max c (0 - c) % 1000003⟩
@[simp] theorem IV {c : Int} {h : Hh} : b9 [.int c] h = .ok (.ref h.length) (h ++ [.lst (de (rG c))]) := by
  have s1 : sml 10 = true := by decide +kernel
  simp [b9, br, s1, rG]
@[simp] theorem Hi {ns : List Int} {h : Hh} : bM [.scr (ns.map D.int), .int 0] h = .ok (.int (ns.headD 0)) h := by
  cases ns with
  | nil => simp [bM, br]
  | cons c r => simp [bM, br]
@[simp] theorem GZ {i : Int} {h : Hh} : eP [.int i] h = .ok (.bl true) h := by simp [eP, br]
@[simp] theorem xT {i a b : Int} {h : Hh} : cS [.int i, .int a, .int b] h = .ok (.bl (decide (a <= i /\ i <= b))) h := by
  by_cases z : a <= i <;> simp [cS, br, z]
structure Ord (n : Nat) (xs : List Int) : Prop where
  len : xs.length = n
  nd : xs.Nodup
  lo : ∀ x ∈ xs, 0 <= x
  hi : ∀ x ∈ xs, x < n
noncomputable def fE (lo : Int) (n : Nat) : List Int := (List.range n).map fun (i : Nat) => lo + i
theorem lG (lo : Int) (n : Nat) : bS lo n = (fE lo n).map D.int := by simp [bS, fE, List.map_map]
theorem ie (lo : Int) (n : Nat) : (fE lo n).length = n := by simp [fE]
theorem gj (n : Nat) : Ord n (fE 0 n) := by
  refine ⟨ie _ _, ?_, ?_, ?_⟩
  · unfold fE List.Nodup
    rw [List.pairwise_map]
    exact List.Pairwise.imp (fun {a b} h e => h (by omega)) List.nodup_range
  · intro x hx; simp [fE] at hx; omega
  · intro x hx; simp [fE] at hx; omega
noncomputable def fF (s : Pen × List Int) (_ : Nat) : Pen × List Int := (eK s.1 s.2.length, s.2.eraseIdx (dS s.1 s.2.length).toNat)
noncomputable def iB (s : Pen × List Int) (_ : Nat) : Int := gI s.2 (dS s.1 s.2.length).toNat
noncomputable def qK (p : Pen) (k : Nat) : (Pen × List Int) × List Int := (List.range k).foldl (fun a x => (fF a.1 x, a.2 ++ [iB a.1 x])) ((p, fE 0 k), [])
noncomputable def mW (p : Pen) (k : Nat) : Pen := (qK p k).1.1
noncomputable def ly (p : Pen) (k : Nat) : List Int := (qK p k).2
theorem o6 {σ X β : Type} (f : σ -> X -> σ) (g : σ -> X -> β) : ∀ (xs : List X) (s : σ) (o : List β), (xs.foldl (fun a x => (f a.1 x, a.2 ++ [g a.1 x])) (s, o)).1 = xs.foldl f s
  | [], _, _ => rfl
  | x :: xs, s, o => by rw [List.foldl_cons, List.foldl_cons]; exact o6 f g xs _ _
theorem getElem_erase {X : Type} : ∀ {l : List X} {n : Nat} (h : n < l.length), (l[n] :: l.eraseIdx n).Perm l
  | x :: l, 0, _ => by simp
  | x :: l, n + 1, h => by
    simp only [List.getElem_cons_succ, List.eraseIdx_cons_succ]
    exact (List.Perm.swap _ _ _).trans (List.Perm.cons x (getElem_erase (by simpa using h)))
theorem BH (p : Pen) (k : Nat) : ∀ j, j <= k -> ∀ a, a = (List.range j).foldl (fun a x => (fF a.1 x, a.2 ++ [iB a.1 x])) ((p, fE 0 k), []) -> a.1.2.length = k - j /\ a.2.length = j /\ (a.2 ++ a.1.2).Perm (fE 0 k) := by
  intro j
  induction j with
  | zero => intro _ a e; subst e; simp [ie]
  | succ j ih =>
    intro hj a e
    rw [List.range_succ, List.foldl_append] at e
    generalize hb : (List.range j).foldl (fun a x => (fF a.1 x, a.2 ++ [iB a.1 x])) ((p, fE 0 k), []) = b at e
    obtain ⟨l1, l2, pm⟩ := ih (by omega) b hb.symm
    subst e
    simp only [List.foldl_cons, List.foldl_nil, fF, iB]
    have hp : (0 : Int) < (b.1.2.length : Nat) := by omega
    have d0 := qk b.1.1 hp
    have d1 := mM b.1.1 hp
    generalize dS b.1.1 (b.1.2.length : Nat) = d at d0 d1
    have hd : d.toNat < b.1.2.length := by omega
    refine ⟨by rw [List.length_eraseIdx, if_pos hd]; omega, by simp [l2], ?_⟩
    refine List.Perm.trans ?_ pm
    rw [List.append_assoc]
    refine List.Perm.append_left _ ?_
    rw [bw hd]
    exact getElem_erase hd
theorem yJ (p : Pen) (k : Nat) : Ord k (ly p k) := by
  obtain ⟨l1, l2, pm⟩ := BH p k k (Nat.le_refl _) _ rfl
  have e : (qK p k).1.2 = [] := List.eq_nil_of_length_eq_zero (by unfold qK; omega)
  have pm' : (ly p k).Perm (fE 0 k) := by
    unfold ly
    have : (qK p k).2 ++ (qK p k).1.2 = (qK p k).2 := by rw [e, List.append_nil]
    rw [<- this]; exact pm
  have o := gj k
  exact ⟨by rw [pm'.length_eq, o.len], pm'.nodup_iff.mpr o.nd, fun x hx => o.lo x (pm'.mem_iff.mp hx), fun x hx => o.hi x (pm'.mem_iff.mp hx)⟩
theorem Ft {n k : Nat} {ds : List D} {i : Int} {d : D} {h : Hh} (e : aw h n = some ds) (e2 : ixN ds.length i = some k) (e3 : ds[k]? = some d) (hl : ds.length <= 1000000) : sN (.ref n) [.int i] h = .ok d (h.set n (.lst (ds.eraseIdx k))) := by delta sN; dsimp only; rw [e]; dsimp only; rw [e2]; dsimp only; rw [e3]; exact if_pos hl
theorem jT {X Y : Type} (f : X -> Y) : ∀ (xs : List X) (k : Nat), (xs.map f).eraseIdx k = (xs.eraseIdx k).map f
  | [], _ => rfl
  | _ :: _, 0 => rfl
  | x :: xs, k + 1 => by simp [jT f xs k]
theorem BB {p : Pen} {k : Nat} {h : Hh} {n : Nat} (e : aw h n = some (de p)) (w : Wf h) (hk : k <= 1000) : bW [.ref n, .int k] h = .ok (.tup ((ly p k).map D.int)) (h.set n (.lst (de (mW p k)))) := by
  have hn := tW e
  have z1 : k <= 1000000 := by omega
  have st : ∀ (s : Pen × List Int) (x : Nat) (r : List Nat), (s.2.length = (x :: r).length /\ (x :: r).length <= k) -> ((fF s x).2.length = r.length /\ r.length <= k) ∧
      (cz sN (ag 1) (aa (ah aD (aa (ag 2) (aa (ah bR (aa (ag 1) ai)) ai))) ai)) [some (D.int (0 + (x : Int))), some (.ref h.length), some (.ref n)] (h.set n (.lst (de s.1)) ++ [.lst (s.2.map D.int)]) = .ok (D.int (iB s x)) (h.set n (.lst (de (fF s x).1)) ++ [.lst ((fF s x).2.map D.int)]) := by
    intro s x r ⟨hs, hr⟩
    simp only [List.length_cons] at hs hr
    have hp : (0 : Int) < (s.2.length : Nat) := by omega
    have hp2 : ((s.2.length : Nat) : Int) <= 10 ^ 20 := by omega
    have d0 := qk s.1 hp
    have d1 := mM s.1 hp
    have hd : (dS s.1 s.2.length).toNat < s.2.length := by omega
    refine ⟨⟨by simp only [fF]; rw [List.length_eraseIdx, if_pos hd]; omega, by omega⟩, ?_⟩
    have hL : (h.set n (.lst (de s.1))).length = h.length := List.length_set
    have e1 : aw (h.set n (.lst (de s.1)) ++ [.lst (s.2.map D.int)]) n = some (de s.1) := BG (qm e)
    have e2 : aw (h.set n (.lst (de s.1)) ++ [.lst (s.2.map D.int)]) h.length = some (s.2.map D.int) := by rw [<- hL]; exact cX
    have e3 : (h.set n (.lst (de s.1)) ++ [O.lst (s.2.map D.int)]).set n (.lst (de (eK s.1 s.2.length))) = h.set n (.lst (de (eK s.1 s.2.length))) ++ [.lst (s.2.map D.int)] := by rw [B4 (by omega), List.set_set]
    have hL' : (h.set n (.lst (de (eK s.1 s.2.length)))).length = h.length := List.length_set
    have e4 : aw (h.set n (.lst (de (eK s.1 s.2.length))) ++ [.lst (s.2.map D.int)]) h.length = some (s.2.map D.int) := by rw [<- hL']; exact cX
    have e5 : (s.2.map D.int)[(dS s.1 s.2.length).toNat]? = some (.int (iB s x)) := by
      rw [List.getElem?_map, List.getElem?_eq_getElem hd]; simp [iB, bw hd]
    have e6 : ixN (s.2.map D.int).length (dS s.1 s.2.length) = some (dS s.1 s.2.length).toNat := by rw [List.length_map]; exact lL (by omega) hd
    simp only [Bi, Fc, xG, ba, mL e2, if_true, Ey, DS, GQ, DO e2, List.length_map, yi e1 hp hp2, e3, Ft e4 e6 e5 (by rw [List.length_map]; omega)]
    rw [<- hL', gK, jT]
    rfl
  obtain ⟨ys, q1, q2, q3⟩ := pz (te := cz sN (ag 1) (aa (ah aD (aa (ag 2) (aa (ah bR (aa (ag 1) ai)) ai))) ai)) (ee := fun d => [some d, some (.ref h.length), some (.ref n)])
    (fun (s : Pen × List Int) => h.set n (.lst (de s.1)) ++ [.lst (s.2.map D.int)]) (fun (i : Nat) => D.int (0 + i)) fF (fun s x => D.int (iB s x)) (fun r s => s.2.length = r.length /\ r.length <= k) st (List.range k) (p, fE 0 k) ⟨by simp [ie], by simp⟩
  have q1' : dD tt1 (cz sN (ag 1) (aa (ah aD (aa (ag 2) (aa (ah bR (aa (ag 1) ai)) ai))) ai)) (fun d => [some d, some (.ref h.length), some (.ref n)]) (bS 0 k) (h ++ [.lst (bS 0 k)]) = .ok ((ly p k).map D.int) (h.set n (.lst (de (mW p k))) ++ [.lst []]) := by
    have a1 : h.set n (.lst (de p)) = h := zW e
    have a2 : ((List.range k).foldl fF (p, fE 0 k)).2 = [] := List.eq_nil_of_length_eq_zero q2.1
    have a3 : ((List.range k).foldl fF (p, fE 0 k)).1 = mW p k := by unfold mW qK; rw [o6]
    have a4 : ys = (ly p k).map D.int := by
      rw [q3]
      unfold ly qK
      have key : ∀ (xs : List Nat) (s : Pen × List Int) (o : List Int), (xs.foldl (fun (a : (Pen × List Int) × List D) x => (fF a.1 x, a.2 ++ [D.int (iB a.1 x)])) (s, o.map D.int)).2 = ((xs.foldl (fun (a : (Pen × List Int) × List Int) x => (fF a.1 x, a.2 ++ [iB a.1 x])) (s, o)).2).map D.int := by
        intro xs
        induction xs with
        | nil => intro s o; rfl
        | cons x xs ih =>
          intro s o
          rw [List.foldl_cons, List.foldl_cons]
          have := ih (fF s x) (o ++ [iB s x])
          simpa using this
      exact key _ _ []
    simp only [a1, a2, a3, a4, List.map_nil] at q1
    rw [<- lG] at q1
    exact q1
  have hL : (h.set n (.lst (de (mW p k)))).length = h.length := List.length_set
  have w' : Wf (h.set n (.lst (de (mW p k)))) := Dj w rfl
  have ex : bx h (.tup ((ly p k).map D.int)) (h.set n (.lst (de (mW p k))) ++ [.lst []]) = .ok (.tup ((ly p k).map D.int)) (h.set n (.lst (de (mW p k)))) := by
    have := bI (h := h.set n (.lst (de (mW p k)))) (t := [.lst []]) (d := .tup ((ly p k).map D.int)) w' (by simp)
    unfold bx at this ⊢
    rw [hL] at this
    exact this
  have hk6 : k <= 1000000 := by omega
  simp [bW, br, z1, h_, q1', ex, hk6]
noncomputable def iO {X : Type} (xs : List X) (lo hi : Option Int) : List X := (xs.drop (HT.sIx xs.length 0 lo)).take (HT.sIx xs.length xs.length hi - HT.sIx xs.length 0 lo)
theorem fq {X : Type} (f : X -> D) (xs : List X) (lo hi : Option Int) : cutD (xs.map f) lo hi = (iO xs lo hi).map f := by
  unfold cutD iO
  rw [List.length_map, List.map_take, List.map_drop]
theorem lP {X : Type} (xs : List X) (k : Nat) : iO xs none (some (k : Int)) = xs.take k := by
  unfold iO
  rw [HT.sf, HT.vG]
  simp
theorem ph {X : Type} (xs : List X) (k : Nat) : iO xs (some (k : Int)) none = xs.drop k := by
  unfold iO
  rw [HT.sf, HT.vG]
  rcases Nat.le_total k xs.length with h | h
  · rw [Nat.min_eq_left h, List.take_of_length_le (by simp)]
  · rw [Nat.min_eq_right h]; simp [List.drop_eq_nil_of_le h]
theorem nB {k : Nat} {h : Hh} : ∀ {ns : List Int}, (∀ x ∈ ns, sml x = true) -> fK (toPy (k + 1) h) (ns.map D.int) = some (ns.map PyData.int)
  | [], _ => rfl
  | n :: r, hs => by
    have h1 : sml n = true := hs n List.mem_cons_self
    rw [List.map_cons, fK, nB (ns := r) fun x hx => hs x (List.mem_cons_of_mem _ hx)]
    simp [toPy, h1]
theorem pH : ∀ ns : List Int, PyData.bulkAll (ns.map PyData.int) = ns.length
  | [] => rfl
  | n :: r => by rw [List.map_cons, PyData.bulkAll, pH r, PyData.bulk, List.length_cons]; omega
theorem B8 {i : Int} (h0 : 0 <= i) (h : i <= 1000000) : sml i = true := ke (by omega) (by omega)
noncomputable def jx (xs : List Int) : List Nat := (List.range (xs.length - 1)).filter fun i => decide (gI xs (i + 1) < gI xs i)
noncomputable def gR (xs : List Int) : List Int := (jx xs).map fun (i : Nat) => (i : Int)
theorem v_ {xs : List Int} {h : Hh} {d : D} (hd : ∀ (i : Int), dIx d (.int i) h = ixK (xs.map D.int) i h) : dD (aM asB (au dGt (au dIx (ag 1) (ag 0)) (au dIx (ag 1) (au (cL aF) (ag 0) (cC (.int 1)))))) (ag 0) (fun x => [some x, some d]) (bS 0 (xs.length - 1)) h = .ok ((gR xs).map D.int) h := by
  rw [zy (fun i => decide (gI xs (i + 1) < gI xs i)) (fun i => D.int i)]
  · simp [gR, jx, List.map_map]
  · intro i hi
    have e1 : ixK (xs.map D.int) (i : Int) h = .ok (.int (gI xs i)) h := lI rfl (by omega)
    have e2 : ixK (xs.map D.int) ((i : Int) + 1) h = .ok (.int (gI xs (i + 1))) h := lI (by omega) (by omega)
    simp [hd, e1, e2]
theorem yU {h : Hh} (w : Wf h) (p : Pen) : Wf (h ++ [.lst (de p)]) := w.app rfl
theorem vD (p : Pen) (m : Int) (h : 0 < m) : ∃ k : Nat, dS p m = (k : Int) /\ (k : Int) < m := by
  have h0 := qk p h
  have h1 := mM p h
  exact ⟨(dS p m).toNat, by omega, by omega⟩
theorem xn (ns : List Int) (lo hi : Option Int) : cutD (ns.map D.int) lo hi = (iO ns lo hi).map D.int := fq _ _ _ _
theorem A7 {X : Type} (xs : List X) (lo hi : Option Int) : (iO xs lo hi).length <= xs.length := by
  unfold iO; rw [List.length_take, List.length_drop]; omega
theorem yL {p : Pen} {k : Nat} {h : Hh} (w : Wf h) (hk : k <= 1000) : bW [.ref h.length, .int k] (h ++ [.lst (de p)]) = .ok (.tup ((ly p k).map D.int)) (h ++ [.lst (de (mW p k))]) := by
  rw [BB cX (yU w p) hk, gK]
theorem jn : ∀ (n : Nat) (xs : List Int), xs.Nodup -> (∀ x ∈ xs, 0 <= x /\ x < n) -> xs.length <= n
  | 0, xs, _, h => by
    cases xs with
    | nil => simp
    | cons x r => have := h x List.mem_cons_self; omega
  | n + 1, xs, nd, h => by
    by_cases hm : (n : Int) ∈ xs
    · have ih := jn n (xs.erase n) (nd.erase _) (fun x hx => by
        obtain ⟨a, b⟩ := (List.Nodup.mem_erase_iff nd).mp hx
        have := h x b; omega)
      rw [List.length_erase_of_mem hm] at ih
      omega
    · have ih := jn n xs nd (fun x hx => by
        have a := h x hx
        have b : x ≠ (n : Int) := fun e => hm (e ▸ hx)
        omega)
      omega
theorem qX {n : Nat} {xs : List Int} (o : Ord n xs) {j : Int} (h0 : 0 <= j) (h1 : j < n) : j ∈ xs := by
  refine Classical.byContradiction fun hj => ?_
  have := jn n (j :: xs) (List.nodup_cons.mpr ⟨hj, o.nd⟩) (fun x hx => by
    rcases List.mem_cons.mp hx with rfl | hx
    · exact ⟨h0, h1⟩
    · exact ⟨o.lo x hx, o.hi x hx⟩)
  rw [List.length_cons, o.len] at this
  omega
theorem yx {n : Nat} {xs : List Int} (o : Ord n xs) {j : Int} (h0 : 0 <= j) (h1 : j < n) : ∃ i : Nat, i < n /\ gI xs i = j := by
  obtain ⟨i, hi, e⟩ := List.getElem_of_mem (qX o h0 h1)
  exact ⟨i, by rw [<- o.len]; exact hi, by rw [bw hi, e]⟩
theorem iA {xs : List Int} (nd : xs.Nodup) {i j : Nat} (hi : i < xs.length) (hj : j < xs.length) (e : gI xs i = gI xs j) : i = j := by
  rw [bw hi, bw hj] at e
  rcases Nat.lt_trichotomy i j with z | z | z
  · exact absurd e (List.pairwise_iff_getElem.mp nd i j hi hj z)
  · exact z
  · exact absurd e.symm (List.pairwise_iff_getElem.mp nd j i hj hi z)
theorem iW {n : Nat} {xs : List Int} (o : Ord n xs) {i : Nat} (hi : i < n) : 0 <= gI xs i /\ gI xs i < n := ⟨o.lo _ (cK (by rw [o.len]; exact hi)), o.hi _ (cK (by rw [o.len]; exact hi))⟩
theorem Dy {n : Nat} {xs : List Int} (l : xs.length = n) (r : ∀ i, i < n -> 0 <= gI xs i /\ gI xs i < n) (inj : ∀ i j, i < n -> j < n -> gI xs i = gI xs j -> i = j) : Ord n xs := by
  refine ⟨l, ?_, fun x hx => ?_, fun x hx => ?_⟩
  · refine List.pairwise_iff_getElem.mpr fun i j hi hj hij e => ?_
    have := inj i j (by omega) (by omega) (by rw [bw hi, bw hj, e])
    omega
  · obtain ⟨i, hi, e⟩ := List.getElem_of_mem hx
    have := (r i (by omega)).1
    rwa [bw hi, e] at this
  · obtain ⟨i, hi, e⟩ := List.getElem_of_mem hx
    have := (r i (by omega)).2
    rwa [bw hi, e] at this
section
variable {env : En} {h : Hh}
@[simp] theorem Jg {β : Type} {m : En -> Hh -> R β} : up m env h = noR (m env h) := Eq.trans rfl rfl
@[simp] theorem zP {β γ : Type} {x : Xc} {f : β -> Hh -> R γ} : (R.err x h : R β).bind f = .err x h := Eq.trans rfl rfl
@[simp] theorem GY {x : Str} : ue x env h = .err ⟨x, []⟩ h := Eq.trans rfl rfl
theorem D6 {mb : MS} {mr : MF} {fl : Fl} {h' : Hh} (e : mb env h = .ok fl h') : qU mb mr env h = .ok fl h' := by unfold qU; rw [e]
theorem Dm {mb : MS} {mr : MF} {x : Xc} {d : D} (w : Wf h) (e : mb env h = .err x h) (c : bQ.contains x.cls = true) (r : mr [.exc x.cls x.fs] h = .ok d h) : qU mb mr env h = .ok (.rt d) h := by
  unfold qU
  rw [e]
  have w' : (h.take h.length).all (nJ h.length) = true := by rw [List.take_length]; exact w
  show (if (bQ.contains x.cls && (h.take h.length).all (nJ h.length)) = true then _ else _) = _
  rw [c, w', List.take_length, r]
  rfl
@[simp] theorem IQ {d0 d1 d2 : D} {ds : List D} : ixK (d0 :: d1 :: d2 :: ds) 2 h = .ok d2 h := gE (j := 2) rfl rfl
@[simp] theorem IG {d0 d1 d2 d3 : D} {ds : List D} : ixK (d0 :: d1 :: d2 :: d3 :: ds) 3 h = .ok d3 h := gE (j := 3) rfl rfl
@[simp] theorem I_ {d0 d1 d2 d3 d4 : D} {ds : List D} : ixK (d0 :: d1 :: d2 :: d3 :: d4 :: ds) 4 h = .ok d4 h := gE (j := 4) rfl rfl
end
noncomputable def itm : D -> Bool
  | .int _ => true
  | .bl _ => true
  | .non => true
  | .str _ => true
  | .tup _ => true
  | .frl _ => true
  | .edic => true
  | _ => false
noncomputable def isI : D -> Bool
  | .int _ => true
  | _ => false
noncomputable def pY : D -> Int
  | .int i => i
  | _ => 0
noncomputable def inR (a b : Int) : D -> Bool
  | .int i => decide (a <= i /\ i <= b)
  | _ => false
theorem Cs {a b : Int} {d : D} (e : inR a b d = true) : isI d = true := by cases d <;> first | rfl | (simp [inR] at e)
theorem CD {d : D} (e : isI d = true) : d = .int (pY d) := by cases d <;> first | rfl | (simp [isI] at e)
theorem vp : ∀ {ds : List D}, ds.all isI = true -> ds = (ds.map pY).map D.int
  | [], _ => rfl
  | d :: ds, e => by
    simp only [List.all_cons, Bool.and_eq_true] at e
    rw [List.map_cons, List.map_cons, <- vp e.2, <- CD e.1]
theorem Bm {a b : Int} : ∀ {ds : List D}, ds.all (inR a b) = true -> ds.all isI = true := fun {ds} e => by
  rw [List.all_eq_true] at e ⊢
  exact fun d hd => Cs (e d hd)
theorem wz {a b : Int} {d : D} {h : Hh} (k : itm d = true) : cS [d, .int a, .int b] h = .ok (.bl (inR a b d)) h := by
  cases d with
  | int i => rw [xT]; rfl
  | _ => first | (exact absurd k Bool.false_ne_true) | rfl
theorem Fb {d : D} {h : Hh} (k : itm d = true) (n : ∀ ds, d ≠ .tup ds) : nK "tuple" d h = .ok (.bl false) h := by
  cases d <;> first | (exact absurd k Bool.false_ne_true) | exact absurd rfl (n _) | rfl
noncomputable def BI (e : D) : Prop := itm e = true
structure Th (d : D) : Prop where
  it : itm d = true
  its : ∀ ds, d = .tup ds -> (∀ e ∈ ds, itm e = true) /\ ds.length <= 60
theorem BO {od : D} {xs ys : List Int} (o : BI od) (hl : xs.length + ys.length <= 50) : Th (.tup (xs.map D.int ++ od :: ys.map D.int)) := by
  refine ⟨rfl, fun ds e => ?_⟩
  cases e
  refine ⟨fun e he => ?_, by simp; omega⟩
  rcases List.mem_append.mp he with he | he
  · obtain ⟨i, hi, rfl⟩ := List.mem_map.mp he; rfl
  · rcases List.mem_cons.mp he with rfl | he
    · exact o
    · obtain ⟨i, hi, rfl⟩ := List.mem_map.mp he; rfl
theorem qR {xs : List Int} (hl : xs.length <= 60) : Th (.tup (xs.map D.int)) := by
  refine ⟨rfl, fun ds e => ?_⟩
  cases e
  exact ⟨fun e he => by obtain ⟨i, _, rfl⟩ := List.mem_map.mp he; rfl, by simpa using hl⟩
theorem Dq {xs : List D} : Th (.frl xs) := ⟨rfl, fun ds e => (nomatch e)⟩
noncomputable def OGB : MS := cT (iE (aM oF (ah cS (aa (ag 1) (aa (cC (.int 0)) (aa (au kQ (ah bR (aa (ag 0) ai)) (cC (.int 1))) ai)))))) (bj (cC (.bl false))) bH
theorem uF {es : List D} {h : Hh} : ∀ (ds : List D) (s : Option D), (∀ d ∈ ds, itm d = true) -> ∃ s', (ds.all (inR 0 ((es.length : Int) - 1)) = true -> dJ (gN 1) OGB ds [some (.tup es), s] h = .ok (.nx [some (.tup es), s']) h) /\ (ds.all (inR 0 ((es.length : Int) - 1)) = false -> dJ (gN 1) OGB ds [some (.tup es), s] h = .ok (.rt (.bl false)) h)
  | [], s, _ => ⟨s, fun _ => rfl, fun z => nomatch z⟩
  | d :: ds, s, k => by
    obtain ⟨s', e1, e2⟩ := uF (es := es) (h := h) ds (some d) (fun x hx => k x (List.mem_cons_of_mem _ hx))
    have w := wz (a := 0) (b := (es.length : Int) - 1) (h := h) (k d List.mem_cons_self)
    have b1 : inR 0 ((es.length : Int) - 1) d = true -> OGB [some (.tup es), some d] h = .ok (.nx [some (.tup es), some d]) h := fun c => by simp [OGB, w, c]
    have b2 : inR 0 ((es.length : Int) - 1) d = false -> OGB [some (.tup es), some d] h = .ok (.rt (.bl false)) h := fun c => by simp [OGB, w, c]
    refine ⟨s', fun z => ?_, fun z => ?_⟩
    · rw [List.all_cons, Bool.and_eq_true] at z
      rw [iH]
      simp only [wU, ba, List.set, b1 z.1, xO, e1 z.2]
    · rw [iH]
      simp only [wU, ba, List.set]
      cases c : inR 0 ((es.length : Int) - 1) d with
      | false => rw [b2 c]; simp
      | true =>
        rw [List.all_cons, c, Bool.true_and] at z
        simp only [b1 c, ba, xO, e2 z]
noncomputable def ogB (ds : List D) : Bool := decide (1 <= (ds.length : Int) /\ (ds.length : Int) <= 20) && (ds.all (inR 0 ((ds.length : Int) - 1)) && ((unl (ds.map pY)).length == ds.length))
noncomputable def ogD : D -> Bool
  | .tup ds => ogB ds
  | _ => false
theorem CW : bV = fun ds h => ((cf 2 (aB (cT (r_ (iE (aM oF (cUn (nK "tuple") (ag 0)))) (iE (aM asB (jw dLe dLe (cC (.int 1)) (ah bR (aa (ag 0) ai)) (cC (.int 20)))))) (bj (cC (.bl false))) bH)
    (aB (dg (dm (ag 0)) (gN 1) OGB) (bj (au dEq (ah bR (aa (ah rF (aa (ag 0) ai)) ai)) (ah bR (aa (ag 0) ai))))))) ds h).bind (bx h) := rfl
theorem uX {d : D} {h : Hh} (t : Th d) (w : Wf h) : bV [d] h = .ok (.bl (ogD d)) h := by
  have ex : ∀ t b, bx h (.bl b) (h ++ t) = .ok (.bl b) h := fun t b => bI w rfl
  have ex0 : ∀ b, bx h (.bl b) h = .ok (.bl b) h := fun b => sM w rfl
  by_cases nt : ∀ ds, d ≠ .tup ds
  · have e1 := Fb (h := h) t.it nt
    have e2 : ogD d = false := by cases d <;> first | rfl | exact absurd rfl (nt _)
    rw [CW, e2]
    simp [br, e1, ex0]
  · obtain ⟨ds, rfl⟩ : ∃ ds, d = .tup ds := Classical.byContradiction fun z => nt fun ds e => z ⟨ds, e⟩
    obtain ⟨k, _⟩ := t.its ds rfl
    obtain ⟨s', q1, q2⟩ := uF (es := ds) (h := h) ds none k
    show _ = R.ok (D.bl (ogB ds)) h
    unfold ogB
    rw [CW]
    by_cases c : 1 <= (ds.length : Int) /\ (ds.length : Int) <= 20
    · by_cases c2 : ds.all (inR 0 ((ds.length : Int) - 1)) = true
      · have q := q1 c2
        have ei := vp (Bm c2)
        have c3 : ds.length <= 4000 := by omega
        have st : rF [.tup ds] h = .ok (.ref h.length) (h ++ [.set (unl (ds.map pY))]) := by
          have := Dv (h := h) (ns := ds.map pY)
          rw [<- ei] at this
          rw [this, List.length_map, if_pos c3]
        have cc : (((unl (ds.map pY)).length : Int) == (ds.length : Int)) = ((unl (ds.map pY)).length == ds.length) := by
          rw [Bool.eq_iff_iff]; simp; omega
        simp only [br, List.map_cons, List.map_nil, List.length_cons, List.length_nil, List.replicate, List.cons_append, List.nil_append, GO, GB, FV, DB, DE, HD, xG, ba, Dl, Ep, Bool.not_true, A3]
        simp [c.1, c.2, q, st, c2, ex, cc]
      · simp only [Bool.not_eq_true] at c2
        have q := q2 c2
        simp [br, c.1, c.2, q, c2, ex0]
    · have c' : decide (1 <= (ds.length : Int) /\ (ds.length : Int) <= 20) = false := by simpa using c
      rw [c']
      by_cases c1 : 1 <= (ds.length : Int)
      · have c4 : ¬ (ds.length : Int) <= 20 := fun z => c ⟨c1, z⟩
        simp [br, c1, c4, ex0]
      · simp [br, c1, ex0]
theorem lD {xs : List Int} {k : Int} : k ∈ unl xs ↔ k ∈ xs := by
  have e : (List.range xs.length).map (fun i => xs.getD i 0) = xs := by
    refine List.ext_getElem (by simp) fun i h1 h2 => ?_
    simp [h2]
  have := PyProof.Rows.firstMet_any (fun i => xs.getD i 0) xs.length k
  rw [e] at this
  show k ∈ PyProof.Rows.firstMet (fun i => xs.getD i 0) xs.length ↔ _
  rw [Bool.eq_iff_iff] at this
  simpa using this
theorem uV : ∀ (ys acc : List Int), acc.Nodup -> (ys.foldl PyProof.Rows.step_dedup acc).Nodup
  | [], acc, h => h
  | y :: ys, acc, h => by
    rw [List.foldl_cons]
    refine uV ys _ ?_
    unfold PyProof.Rows.step_dedup
    split
    · exact h
    · rename_i z
      rw [List.nodup_append]
      refine ⟨h, by simp, fun a ha b hb => ?_⟩
      simp only [List.mem_singleton] at hb
      subst hb
      intro e
      subst e
      exact z (List.any_eq_true.mpr ⟨a, ha, by simp⟩)
theorem Eg (xs : List Int) : (unl xs).Nodup := uV _ [] List.nodup_nil
theorem ur : ∀ (as bs : List Int), as.Nodup -> (∀ a ∈ as, a ∈ bs) -> as.length <= bs.length
  | [], bs, _, _ => Nat.zero_le _
  | a :: as, bs, nd, s => by
    obtain ⟨h1, h2⟩ := List.nodup_cons.mp nd
    have hm := s a List.mem_cons_self
    have ih := ur as (bs.erase a) h2 fun x hx => by
      have hx' := s x (List.mem_cons_of_mem _ hx)
      have ne : x ≠ a := fun e => h1 (e ▸ hx)
      exact (List.mem_erase_of_ne ne).mpr hx'
    rw [List.length_erase_of_mem hm] at ih
    have : 0 < bs.length := List.length_pos_of_mem hm
    simp only [List.length_cons]
    omega
theorem xb {xs : List Int} (h1 : 1 <= xs.length) : ((xs.map D.int).all (inR 0 ((xs.length : Int) - 1)) && ((unl xs).length == xs.length)) = ((List.range xs.length).filter fun (i : Nat) => !(xs.any (· == (i : Int)))).isEmpty := by
  rw [Bool.eq_iff_iff, Bool.and_eq_true, List.isEmpty_iff, List.filter_eq_nil_iff, List.all_eq_true]
  simp only [beq_iff_eq, List.mem_range, Bool.not_eq_true', Bool.not_eq_false]
  constructor
  · intro ⟨a, b⟩ i hi
    have o : Ord xs.length (unl xs) := ⟨b, Eg xs, fun x hx => by
      have := a _ (List.mem_map_of_mem (lD.mp hx)); simp [inR] at this; omega, fun x hx => by
      have := a _ (List.mem_map_of_mem (lD.mp hx)); simp [inR] at this; omega⟩
    have := lD.mp (qX o (j := (i : Int)) (by omega) (by omega))
    exact List.any_eq_true.mpr ⟨_, this, by simp⟩
  · intro a
    have all : ∀ y ∈ fE 0 xs.length, y ∈ xs := fun y hy => by
      simp only [fE, List.mem_map, List.mem_range] at hy
      obtain ⟨i, hi, rfl⟩ := hy
      obtain ⟨z, hz, e⟩ := List.any_eq_true.mp (a i hi)
      have : z = (i : Int) := by simpa using e
      subst this
      simpa using hz
    have nd := (gj xs.length).nd
    refine ⟨fun d hd => ?_, ?_⟩
    · obtain ⟨x, hx, rfl⟩ := List.mem_map.mp hd
      refine Classical.byContradiction fun z => ?_
      have z' : ¬ (0 <= x /\ x <= (xs.length : Int) - 1) := by simpa [inR] using z
      have := ur (fE 0 xs.length) (xs.erase x) nd fun y hy => by
        have l := (gj xs.length).lo y hy
        have l2 := (gj xs.length).hi y hy
        have ne : y ≠ x := by omega
        exact (List.mem_erase_of_ne ne).mpr (all y hy)
      rw [ie, List.length_erase_of_mem hx] at this
      omega
    · have := ur (fE 0 xs.length) (unl xs) nd fun y hy => lD.mpr (all y hy)
      rw [ie] at this
      have := D2 xs
      omega
theorem DV {n : Nat} {xs : List Int} (o : Ord n xs) (h1 : 1 <= n) (h2 : n <= 20) : ogD (.tup (xs.map D.int)) = true := by
  show ogB (xs.map D.int) = true
  have hl := o.len
  have e : (xs.map D.int).map pY = xs := by rw [List.map_map]; exact (List.map_congr_left (fun _ _ => rfl)).trans (List.map_id xs)
  unfold ogB
  rw [e, List.length_map, wD o.nd, decide_eq_true (by omega), Bool.true_and, BEq.rfl, Bool.and_true, List.all_eq_true]
  intro d hd
  obtain ⟨x, hx, rfl⟩ := List.mem_map.mp hd
  have := o.lo x hx
  have := o.hi x hx
  exact decide_eq_true (by omega)
theorem t_ {n : Nat} {xs : List Int} {h : Hh} (o : Ord n xs) (h1 : 1 <= n) (h2 : n <= 20) (w : Wf h) : bV [.tup (xs.map D.int)] h = .ok (.bl true) h := by
  have hl := o.len
  have := uX (qR (xs := xs) (by omega)) w
  rwa [DV o h1 h2] at this
theorem kx {n : Nat} {xs : List Int} {h : Hh} (o : Ord n xs) (h1 : 1 <= n) (h2 : n <= 20) (w : Wf h) : aU [.tup (xs.map D.int)] h = .ok .non h := by
  simp [aU, br, t_ o h1 h2 w]
noncomputable abbrev TOr : D := .tup [.str "order"]
theorem HX {h : Hh} : bN [.exc "NoOrder" []] h = .ok TOr h := by kernel_rfl
theorem pI {d : D} {h : Hh} (t : Th d) (w : Wf h) (c : ogD d = false) : aK [d] h = .err ⟨"NoOrder", []⟩ h := by
  simp [aK, br, uX t w, c]
theorem yM (xs : List Int) : ogB (xs.map D.int) = (decide (1 <= (xs.length : Int) /\ (xs.length : Int) <= 20) && ((xs.map D.int).all (inR 0 ((xs.length : Int) - 1)) && ((unl xs).length == xs.length))) := by
  have : (xs.map D.int).map pY = xs := by rw [List.map_map]; exact (List.map_congr_left (fun _ _ => rfl)).trans (List.map_id xs)
  unfold ogB
  rw [this, List.length_map]
theorem BS {xs : List Int} (h1 : 1 <= xs.length) {k : Nat} (hk : k < xs.length) (hm : ∀ x ∈ xs, x ≠ (k : Int)) : ogD (.tup (xs.map D.int)) = false := by
  show ogB (xs.map D.int) = false
  rw [yM, xb h1]
  have : ((List.range xs.length).filter fun (i : Nat) => !(xs.any (· == (i : Int)))).isEmpty = false := by
    cases z : ((List.range xs.length).filter fun (i : Nat) => !(xs.any (· == (i : Int)))).isEmpty with
    | false => rfl
    | true =>
      have := List.filter_eq_nil_iff.mp (List.isEmpty_iff.mp z) k (List.mem_range.mpr hk)
      simp only [Bool.not_eq_true', Bool.not_eq_false] at this
      obtain ⟨x, hx, e⟩ := List.any_eq_true.mp this
      exact absurd (by simpa using e) (hm x hx)
  rw [this, Bool.and_false]
theorem Cm {ds : List D} (h : 20 < ds.length) : ogD (.tup ds) = false := by
  show ogB ds = false
  unfold ogB
  rw [decide_eq_false (by omega)]; rfl
theorem DX {ds : List D} {e : D} (he : e ∈ ds) (k : ∀ n : Nat, n = ds.length -> inR 0 ((n : Int) - 1) e = false) : ogD (.tup ds) = false := by
  show ogB ds = false
  unfold ogB
  have : ds.all (inR 0 ((ds.length : Int) - 1)) = false := by
    cases z : ds.all (inR 0 ((ds.length : Int) - 1)) with
    | false => rfl
    | true =>
      have := List.all_eq_true.mp z e he
      rw [k _ rfl] at this
      cases this
  rw [this]; simp
theorem pB (k : Nat) (h : Hh) : ∀ xs ys : List Int, eqL (eqD (k + 1) h) (xs.map D.int) (ys.map D.int) = some (decide (xs = ys))
  | [], [] => rfl
  | [], y :: ys => rfl
  | x :: xs, [] => rfl
  | x :: xs, y :: ys => by
    have ih := pB k h xs ys
    have e1 : eqD (k + 1) h (.int x) (.int y) = some (x == y) := rfl
    simp only [List.map_cons, eqL, e1, ih]
    by_cases a : x = y <;> by_cases b : xs = ys <;> simp [a, b]
noncomputable def orb (xs : List Int) (p : Int) : Nat -> Int
  | 0 => p
  | i + 1 => gI xs (orb xs p i).toNat
theorem kG {n : Nat} {xs : List Int} (o : Ord n xs) {p : Int} (h0 : 0 <= p) (h1 : p < n) : ∀ i, 0 <= orb xs p i /\ orb xs p i < n
  | 0 => ⟨h0, h1⟩
  | i + 1 => by have := kG o h0 h1 i; exact iW o (i := (orb xs p i).toNat) (by omega)
theorem qw (xs : List Int) (p : Int) (i : Nat) : ∀ j, orb xs (orb xs p i) j = orb xs p (i + j)
  | 0 => rfl
  | j + 1 => by show gI xs (orb xs (orb xs p i) j).toNat = gI xs (orb xs p (i + j)).toNat; rw [qw xs p i j]
theorem Bk {n : Nat} {xs : List Int} (o : Ord n xs) {p : Int} (h0 : 0 <= p) (h1 : p < n) {i j : Nat} (e : orb xs p (i + 1) = orb xs p (j + 1)) : orb xs p i = orb xs p j := by
  have a := kG o h0 h1 i
  have b := kG o h0 h1 j
  have := iA o.nd (i := (orb xs p i).toNat) (j := (orb xs p j).toNat) (by rw [o.len]; omega) (by rw [o.len]; omega) e
  omega
theorem mF {n : Nat} {xs : List Int} (o : Ord n xs) {p : Int} (h0 : 0 <= p) (h1 : p < n) (d : Nat) : ∀ i, orb xs p i = orb xs p (i + d) -> orb xs p d = p
  | 0, e => by rw [Nat.zero_add] at e; exact e.symm
  | i + 1, e => mF o h0 h1 d i (Bk o h0 h1 (by rw [show i + 1 + d = i + d + 1 by omega] at e; exact e))
theorem Bz {n : Nat} {xs : List Int} (o : Ord n xs) {p : Int} (h0 : 0 <= p) (h1 : p < n) : ∃ c, c < n /\ orb xs p (c + 1) = p := by
  refine Classical.byContradiction fun hc => ?_
  have no : ∀ c, c < n -> orb xs p (c + 1) ≠ p := fun c hn e => hc ⟨c, hn, e⟩
  have nd : ((List.range (n + 1)).map (orb xs p)).Nodup := by
    refine List.pairwise_iff_getElem.mpr fun i j hi hj hij e => ?_
    simp only [List.length_map, List.length_range] at hi hj
    simp only [List.getElem_map, List.getElem_range] at e
    have := mF o h0 h1 (j - i) i (by rw [show i + (j - i) = j by omega]; exact e)
    exact no (j - i - 1) (by omega) (by rw [show j - i - 1 + 1 = j - i by omega]; exact this)
  have := jn n _ nd (fun x hx => by obtain ⟨i, _, rfl⟩ := List.mem_map.mp hx; exact kG o h0 h1 i)
  simp at this
  omega
noncomputable def cy (xs : List Int) (p : Int) : Nat := (List.range xs.length).findIdx (fun i => orb xs p (i + 1) == p)
structure Cy (n : Nat) (xs : List Int) (p : Int) (c : Nat) : Prop where
  lt : c < n
  ret : orb xs p (c + 1) = p
  fst : ∀ i, i < c -> orb xs p (i + 1) ≠ p
theorem jJ {n : Nat} {xs : List Int} (o : Ord n xs) {p : Int} (h0 : 0 <= p) (h1 : p < n) : Cy n xs p (cy xs p) := by
  obtain ⟨c, hc, e⟩ := Bz o h0 h1
  have ex : ∃ x ∈ List.range xs.length, (fun i => orb xs p (i + 1) == p) x = true := ⟨c, by rw [o.len]; exact List.mem_range.mpr hc, by simpa using e⟩
  have lt := List.findIdx_lt_length_of_exists ex
  refine ⟨by show List.findIdx _ _ < n; have := lt; rw [List.length_range] at this; have l := o.len; omega, ?_, fun i hi => ?_⟩
  · have := List.findIdx_getElem (w := lt)
    simpa [cy] using this
  · have := List.not_of_lt_findIdx (p := fun i => orb xs p (i + 1) == p) (xs := List.range xs.length) hi
    simpa using this
noncomputable def wk (xs : List Int) (p : Int) : List Int := (List.range (cy xs p + 1)).map (orb xs p)
theorem eH (xs : List Int) (p : Int) : (wk xs p).length = cy xs p + 1 := by simp [wk]
theorem tS {n : Nat} {xs : List Int} (o : Ord n xs) {p : Int} (h0 : 0 <= p) (h1 : p < n) : ∀ i, orb xs p i ∈ wk xs p
  | 0 => List.mem_map.mpr ⟨0, by simp, rfl⟩
  | i + 1 => by
    obtain ⟨k, hk, e⟩ := List.mem_map.mp (tS o h0 h1 i)
    rw [List.mem_range] at hk
    have e2 : orb xs p (i + 1) = orb xs p (k + 1) := by show gI xs _ = gI xs _; rw [e]
    rw [e2]
    by_cases z : k + 1 < cy xs p + 1
    · exact List.mem_map.mpr ⟨k + 1, List.mem_range.mpr z, rfl⟩
    · have : k = cy xs p := by omega
      subst this
      rw [(jJ o h0 h1).ret]
      exact List.mem_map.mpr ⟨0, by simp, rfl⟩
theorem lY {n : Nat} {xs : List Int} (o : Ord n xs) {p x : Int} (h0 : 0 <= p) (h1 : p < n) (h : x ∈ wk xs p) : 0 <= x /\ x < n := by
  obtain ⟨i, _, rfl⟩ := List.mem_map.mp h
  exact kG o h0 h1 i
theorem CB (xs : List Int) (p : Int) : p ∈ wk xs p := List.mem_map.mpr ⟨0, by simp, rfl⟩
theorem iV {n : Nat} {xs : List Int} (o : Ord n xs) {p x : Int} (h0 : 0 <= p) (h1 : p < n) (h : x ∈ wk xs p) : p ∈ wk xs x := by
  have r := lY o h0 h1 h
  obtain ⟨i, hi, rfl⟩ := List.mem_map.mp h
  rw [List.mem_range] at hi
  have := tS o r.1 r.2 (cy xs p + 1 - i)
  rwa [qw, show i + (cy xs p + 1 - i) = cy xs p + 1 by omega, (jJ o h0 h1).ret] at this
theorem ni {n : Nat} {xs : List Int} (o : Ord n xs) {q p x : Int} (h0 : 0 <= q) (h1 : q < n) (h : x ∈ wk xs p) (hp : p ∈ wk xs q) : x ∈ wk xs q := by
  obtain ⟨i, _, rfl⟩ := List.mem_map.mp hp
  obtain ⟨j, _, rfl⟩ := List.mem_map.mp h
  rw [qw]
  exact tS o h0 h1 _
theorem tq (bt : Nat -> Nat -> Bool) : ∀ k, argBest bt k <= k
  | 0 => Nat.le_refl _
  | k + 1 => by
    have ih := tq bt k
    unfold argBest
    split <;> omega
theorem sI (ns : List Int) : ∀ k i, i <= k -> ns.getD i 0 <= ns.getD (argBest (fun i j => decide (ns.getD i 0 > ns.getD j 0)) k) 0
  | 0, i, h => by have : i = 0 := by omega
                  subst this; exact Int.le_refl _
  | k + 1, i, h => by
    have ih := sI ns k
    unfold argBest
    split
    · rename_i c
      simp only [decide_eq_true_eq] at c
      by_cases e : i = k + 1
      · subst e; exact Int.le_refl _
      · have := ih i (by omega); omega
    · rename_i c
      simp only [decide_eq_true_eq] at c
      by_cases e : i = k + 1
      · subst e; omega
      · exact ih i (by omega)
theorem max_mem {ns : List Int} (h : 0 < ns.length) : fA ns ∈ ns := by
  unfold fA
  have := tq (fun i j => decide (ns.getD i 0 > ns.getD j 0)) (ns.length - 1)
  rw [List.getD_eq_getElem?_getD, List.getElem?_eq_getElem (by omega)]
  exact List.getElem_mem _
theorem le_max {ns : List Int} {x : Int} (h : x ∈ ns) : x <= fA ns := by
  obtain ⟨i, hi, e⟩ := List.getElem_of_mem h
  have := sI ns (ns.length - 1) i (by omega)
  rw [List.getD_eq_getElem?_getD (i := i), List.getElem?_eq_getElem hi, Option.getD_some, e] at this
  exact this
noncomputable def fD (xs : List Int) (p : Int) : Bool := fA (wk xs p) == p
theorem iS {xs : List Int} {p : Int} : fD xs p = true ↔ ∀ x ∈ wk xs p, x <= p := by
  unfold fD
  rw [beq_iff_eq]
  constructor
  · intro e x hx
    have := le_max hx
    omega
  · intro h
    have a := h _ (max_mem (ns := wk xs p) (by rw [eH]; omega))
    have b := le_max (CB xs p)
    omega
noncomputable def dP (n : Nat) (xs : List Int) : List (List Int) := (((List.range n).map fun (i : Nat) => (i : Int)).filter (fD xs)).map (wk xs)
theorem rz (xs : List Int) (p : Int) (i : Nat) : (List.range (i + 1)).map (orb xs p) = (List.range i).map (orb xs p) ++ [orb xs p i] := by rw [List.range_succ, List.map_append]; rfl
theorem ky {xs : List Int} {p : Int} {i : Nat} {h : Hh} : ixK (((List.range (i + 1)).map (orb xs p)).map D.int) (-1) h = .ok (.int (orb xs p i)) h := by
  rw [rz]
  have e : ixN (((List.range i).map (orb xs p) ++ [orb xs p i]).map D.int).length (-1) = some i := by
    rw [List.length_map, List.length_append]; unfold ixN; simp; omega
  unfold ixK atI
  rw [e]
  simp
noncomputable def WC2 : MT := (aM asB (au dNe (au dIx (ag 0) (au dIx (ag 2) (cUn eL (cC (.int 1))))) (ag 1)))
noncomputable def WB2 : MS := (cb (cz bE (ag 2) (aa (au dIx (ag 0) (au dIx (ag 2) (cUn eL (cC (.int 1))))) ai)))
theorem GR : bX = jk (fun ds h => ((cf 3 (aB (bq 2 (ah (bT eT) (aa (ag 1) ai))) (aB (kD 64 WC2 WB2) (bj (ah a8 (aa (ag 2) ai)))))) ds h).bind (bx h)) := rfl
theorem kd {n : Nat} {xs : List Int} (o : Ord n xs) {p : Int} (h0 : 0 <= p) (h1 : p < n) (i : Nat) {h : Hh} : ixK (xs.map D.int) (orb xs p i) h = .ok (.int (orb xs p (i + 1))) h := by
  have := kG o h0 h1 i
  exact lI (j := (orb xs p i).toNat) (by omega) (by rw [o.len]; omega)
theorem D_ {n : Nat} {xs : List Int} {p : Int} {h : Hh} (o : Ord n xs) (h0 : 0 <= p) (h1 : p < n) (hn : n <= 20) : bX [.tup (xs.map D.int), .int p] h = .ok (.tup ((wk xs p).map D.int)) h := by
  have c := jJ o h0 h1
  have clt := c.lt
  have ixl : ∀ ds : List D, dIx (.ref 0) (.int (-1)) [.lst ds] = ixK ds (-1) [.lst ds] := fun ds => jP rfl
  have isl : ∀ ds : List D, isL (.ref 0) [.lst ds] = true := fun _ => rfl
  have ap : ∀ (ds : List D) d, ds.length < 1000000 -> bE (.ref 0) [d] [.lst ds] = .ok .non [.lst (ds ++ [d])] := fun ds d z => by
    have := oQ (h := []) (ds := ds) (d := d) (t := [])
    simpa [z] using this
  have wh := l8 (c := WC2) (b := WB2) (cy xs p) (fun _ => [some (.tup (xs.map D.int)), some (.int p), some (.ref 0)]) (fun i => [.lst (((List.range (i + 1)).map (orb xs p)).map D.int)])
    (fun i hi => by
      have ne : ¬ orb xs p (i + 1) = p := c.fst i hi
      have e1 := ky (xs := xs) (p := p) (i := i) (h := [.lst (((List.range (i + 1)).map (orb xs p)).map D.int)])
      generalize ((List.range (i + 1)).map (orb xs p)).map D.int = W at *
      simp [WC2, ixl, e1, kd o h0 h1, ne])
    (fun i hi => by
      have e1 := ky (xs := xs) (p := p) (i := i) (h := [.lst (((List.range (i + 1)).map (orb xs p)).map D.int)])
      have z : (((List.range (i + 1)).map (orb xs p)).map D.int).length < 1000000 := by simp; omega
      have e2 : ((List.range (i + 1 + 1)).map (orb xs p)).map D.int = ((List.range (i + 1)).map (orb xs p)).map D.int ++ [.int (orb xs p (i + 1))] := by rw [rz xs p (i + 1), List.map_append]; rfl
      rw [e2]
      generalize ((List.range (i + 1)).map (orb xs p)).map D.int = W at *
      simp [WB2, ixl, isl, e1, kd o h0 h1, ap _ _ z])
    (by
      have e1 := ky (xs := xs) (p := p) (i := cy xs p) (h := [.lst (((List.range (cy xs p + 1)).map (orb xs p)).map D.int)])
      have eq : orb xs p (cy xs p + 1) = p := c.ret
      generalize ((List.range (cy xs p + 1)).map (orb xs p)).map D.int = W at *
      simp [WC2, ixl, e1, kd o h0 h1, eq]) 64 (by omega)
  have wh : eD WC2 WB2 64 [some (.tup (xs.map D.int)), some (.int p), some (.ref 0)] [.lst [.int p]] = .ok (.nx [some (.tup (xs.map D.int)), some (.int p), some (.ref 0)]) [.lst ((wk xs p).map D.int)] := wh
  have tl : a8 [.ref 0] [.lst ((wk xs p).map D.int)] = .ok (.tup ((wk xs p).map D.int)) [.lst ((wk xs p).map D.int)] := Ef rfl
  have ex : bx [] (.tup ((wk xs p).map D.int)) [.lst ((wk xs p).map D.int)] = .ok (.tup ((wk xs p).map D.int)) [] := by
    have := bI (h := []) (t := [.lst ((wk xs p).map D.int)]) (d := .tup ((wk xs p).map D.int)) Wf.nil (by simp)
    simpa using this
  have lo1 : bP 0 [.tup (xs.map D.int), .int p] = true := by simp [bP, dR]
  have lo2 : dR 0 (.tup ((wk xs p).map D.int)) = true := by simp [dR]
  rw [GR]
  generalize (wk xs p).map D.int = W at *
  simp [jk, lo1, br, wh, tl, ex, lo2]
theorem vy {ns : List Int} {i x : Int} : x ∈ f9 ns i ↔ x ∈ ns \/ x = i := by
  unfold f9
  split
  · rename_i c
    obtain ⟨y, hy, e⟩ := List.any_eq_true.mp c
    rw [beq_iff_eq] at e
    subst e
    exact ⟨.inl, fun z => z.elim id fun e => e ▸ hy⟩
  · rw [List.mem_append, List.mem_singleton]
theorem ya {ns : List Int} {i : Int} (h : ns.Nodup) : (f9 ns i).Nodup := by
  unfold f9
  split
  · exact h
  · rename_i c
    have : i ∉ ns := fun hm => c (List.any_eq_true.mpr ⟨i, hm, by simp⟩)
    exact List.nodup_append.mpr ⟨h, List.nodup_cons.mpr ⟨by simp, List.nodup_nil⟩, fun a ha b hb => by rw [List.mem_singleton] at hb; subst hb; exact fun e => this (e ▸ ha)⟩
theorem nA {x : Int} : ∀ (ws ns : List Int), x ∈ ws.foldl f9 ns ↔ x ∈ ns \/ x ∈ ws
  | [], ns => by simp
  | w :: ws, ns => by
    rw [List.foldl_cons, nA ws, vy, List.mem_cons]
    constructor
    · rintro ((a | a) | a)
      · exact .inl a
      · exact .inr (.inl a)
      · exact .inr (.inr a)
    · rintro (a | a | a)
      · exact .inl (.inl a)
      · exact .inl (.inr a)
      · exact .inr a
theorem vm : ∀ (ws ns : List Int), ns.Nodup -> (ws.foldl f9 ns).Nodup
  | [], ns, h => h
  | w :: ws, ns, h => vm ws _ (ya h)
noncomputable def dnI (n : Nat) : List Int := (List.range n).map fun (i : Nat) => (n : Int) - 1 - i
theorem E2 : ∀ n : Nat, n < 21 -> 1 <= n -> (yd [.int ((n : Int) - 1), .int (-1), .int (-1)]).bind intsOf = some (dnI n) := by decide +kernel
theorem Fp {n : Nat} {h : Hh} (h1 : 1 <= n) (hn : n <= 20) : i_ [.int ((n : Int) - 1), .int (-1), .int (-1)] h = .ok (.snap ((dnI n).map D.int)) h := by
  have q := E2 n (by omega) h1
  obtain ⟨xs, e1, e2⟩ := Option.bind_eq_some_iff.mp q
  rw [<- eA e2]
  simp only [i_, e1]
noncomputable def w8 : MS := (cT (aM asB (au (rT true) (ag 3) (ag 2))) (aB (bq 4 (ah bX (aa (ag 0) (aa (ag 3) ai))))
    (aB (cb (cz bE (ag 1) (aa (ag 4) ai)))
    (dg (dm (ag 4)) (gN 5) (cb (kO i9 (ag 2) (aa (ag 5) ai)))))) bH)
noncomputable def tpI (b : List Int) : D := .tup (b.map D.int)
theorem gk {h : Hh} {R : O} {S : List Int} : setOf (h ++ [R, .set S]) (h.length + 1) = some S := by
  unfold setOf
  rw [List.getElem?_append_right (by omega), show h.length + 1 - h.length = 1 by omega]
  rfl
theorem rS {h : Hh} {R o o2 : O} : (h ++ [R, o]).set (h.length + 1) o2 = h ++ [R, o2] := by
  rw [List.set_append_right _ _ (by omega), show h.length + 1 - h.length = 1 by omega]
  rfl
theorem pq {n : Nat} {d0 d1 d3 d4 : Option D} {R : O} {h : Hh} : ∀ (ws S : List Int) (y : Option D), (∀ x ∈ ws, 0 <= x /\ x < n) -> (∀ x ∈ S, 0 <= x /\ x < n) -> S.Nodup -> n <= 20 -> 0 < ws.length -> dJ (gN 5) (cb (kO i9 (ag 2) (aa (ag 5) ai))) (ws.map D.int) [d0, d1, some (.ref (h.length + 1)), d3, d4, y] (h ++ [R, .set S]) = .ok (.nx [d0, d1, some (.ref (h.length + 1)), d3, d4, (ws.getLast?).map D.int]) (h ++ [R, .set (ws.foldl f9 S)])
  | [], S, y, _, _, _, _, h => by simp at h
  | [w], S, y, hw, hS, nd, hn, _ => by
    have lS := jn n S nd hS
    have is : isS (.ref (h.length + 1)) (h ++ [R, .set S]) = true := Ac gk
    have ad : i9 (.ref (h.length + 1)) [.int w] (h ++ [R, .set S]) = .ok .non (h ++ [R, .set (f9 S w)]) := by
      rw [r8 (ns := S) gk, if_pos (by omega), rS]
    rw [List.map_cons, iH]
    simp [uY, is, ad, Ci]
  | w :: v :: ws, S, y, hw, hS, nd, hn, _ => by
    have lS := jn n S nd hS
    have w0 := hw w List.mem_cons_self
    have q := pq (d0 := d0) (d1 := d1) (d3 := d3) (d4 := d4) (R := R) (h := h) (v :: ws) (f9 S w) (some (.int w)) (fun x hx => hw x (List.mem_cons_of_mem _ hx)) (fun x hx => by
      rcases vy.mp hx with z | z
      · exact hS x z
      · subst z; exact w0) (ya nd) hn (by simp)
    have is : isS (.ref (h.length + 1)) (h ++ [R, .set S]) = true := Ac gk
    have ad : i9 (.ref (h.length + 1)) [.int w] (h ++ [R, .set S]) = .ok .non (h ++ [R, .set (f9 S w)]) := by
      rw [r8 (ns := S) gk, if_pos (by omega), rS]
    rw [List.map_cons, iH, List.foldl_cons, List.getLast?_cons_cons]
    simp only [List.map_cons] at q ⊢
    simp [uY, is, ad, q]
structure RI (n : Nat) (xs : List Int) (i : Nat) (R : List (List Int)) (S : List Int) : Prop where
  nd : S.Nodup
  rng : ∀ x ∈ S, 0 <= x /\ x < n
  mem : ∀ x, x ∈ S ↔ ∃ q : Int, (n : Int) - i <= q /\ q < n /\ x ∈ wk xs q
  res : R = (((List.range i).map fun (j : Nat) => (n : Int) - 1 - j).filter (fD xs)).map (wk xs)
theorem Ab {n i : Nat} {xs : List Int} {R : List (List Int)} (h : R = (((List.range i).map fun (j : Nat) => (n : Int) - 1 - j).filter (fD xs)).map (wk xs)) : (((List.range (i + 1)).map fun (j : Nat) => (n : Int) - 1 - j).filter (fD xs)).map (wk xs) = if fD xs ((n : Int) - 1 - i) = true then R ++ [wk xs ((n : Int) - 1 - i)] else R := by
  rw [List.range_succ, List.map_append, List.filter_append, List.map_append, <- h]
  by_cases c : fD xs ((n : Int) - 1 - i) = true
  · rw [if_pos c]; simp [c]
  · rw [if_neg c]; simp [c]
theorem RI.step {n : Nat} {xs : List Int} {i : Nat} {R : List (List Int)} {S : List Int} (o : Ord n xs) (hi : i < n) (r : RI n xs i R S) :
    ((S.any (· == (n : Int) - 1 - i)) = true /\ RI n xs (i + 1) R S) \/ ((S.any (· == (n : Int) - 1 - i)) = false /\ RI n xs (i + 1) (R ++ [wk xs ((n : Int) - 1 - i)]) ((wk xs ((n : Int) - 1 - i)).foldl f9 S)) := by
  obtain ⟨p, hp⟩ : ∃ p : Int, (n : Int) - 1 - i = p := ⟨_, rfl⟩
  have p0 : 0 <= p := by omega
  have p1 : p < n := by omega
  have rs := Ab r.res
  rw [hp] at rs ⊢
  have iff : (p ∈ S) ↔ ¬ fD xs p = true := by
    rw [r.mem, iS]
    constructor
    · rintro ⟨q, q0, q1, hm⟩ h
      have := h q (iV o (by omega) q1 hm)
      omega
    · intro h
      refine Classical.byContradiction fun z => h fun x hx => ?_
      refine Classical.byContradiction fun hlt => z ?_
      have hr := lY o p0 p1 hx
      exact ⟨x, by omega, hr.2, iV o p0 p1 hx⟩
  by_cases c : p ∈ S
  · refine .inl ⟨List.any_eq_true.mpr ⟨p, c, by simp⟩, r.nd, r.rng, fun x => ?_, ?_⟩
    · rw [r.mem]
      constructor
      · rintro ⟨q, q0, q1, hm⟩; exact ⟨q, by omega, q1, hm⟩
      · rintro ⟨q, q0, q1, hm⟩
        by_cases e : q = p
        · subst e
          obtain ⟨q', a, b, hm'⟩ := (r.mem q).mp c
          exact ⟨q', a, b, ni o (by omega) b hm hm'⟩
        · exact ⟨q, by omega, q1, hm⟩
    · rw [rs, if_neg (iff.mp c)]
  · refine .inr ⟨?_, vm _ _ r.nd, fun x hx => ?_, fun x => ?_, ?_⟩
    · cases z : S.any (· == p) with
      | false => rfl
      | true =>
        obtain ⟨y, hy, e⟩ := List.any_eq_true.mp z
        rw [beq_iff_eq] at e
        exact absurd (e ▸ hy) c
    · rcases (nA _ _).mp hx with z | z
      · exact r.rng x z
      · exact lY o p0 p1 z
    · rw [nA, r.mem]
      constructor
      · rintro (⟨q, q0, q1, hm⟩ | hm)
        · exact ⟨q, by omega, q1, hm⟩
        · exact ⟨p, by omega, p1, hm⟩
      · rintro ⟨q, q0, q1, hm⟩
        by_cases e : q = p
        · subst e; exact .inr hm
        · exact .inl ⟨q, by omega, q1, hm⟩
    · have : fD xs p = true := Classical.byContradiction fun z => c (iff.mpr z)
      rw [rs, if_pos this]
theorem EV (n : Nat) : (((List.range n).map fun (j : Nat) => (n : Int) - 1 - j)).reverse = (List.range n).map fun (i : Nat) => (i : Int) := by
  refine List.ext_getElem (by simp) fun i h1 h2 => ?_
  simp only [List.length_map, List.length_range] at h2
  rw [List.getElem_reverse]
  simp
  omega
theorem rP {n : Nat} {xs : List Int} {h : Hh} (o : Ord n xs) (hn : n <= 20) : ∃ S y3 y4 y5, dJ (gN 3) w8 ((dnI n).map D.int) [some (.tup (xs.map D.int)), some (.ref h.length), some (.ref (h.length + 1)), none, none, none] (h ++ [.lst [], .set []]) = .ok (.nx [some (.tup (xs.map D.int)), some (.ref h.length), some (.ref (h.length + 1)), y3, y4, y5]) (h ++ [.lst ((dP n xs).map tpI).reverse, .set S]) := by
  obtain ⟨q, q2⟩ := B9 (σ := List (List Int) × List Int × Option D × Option D × Option D) (tg := gN 3) (body := w8) (fun (i : Nat) => D.int ((n : Int) - 1 - i)) n (fun s => [some (.tup (xs.map D.int)), some (.ref h.length), some (.ref (h.length + 1)), s.2.2.1, s.2.2.2.1, s.2.2.2.2]) (fun s => h ++ [.lst (s.1.map tpI), .set s.2.1])
    (fun s i => if (s.2.1.any (· == (n : Int) - 1 - i)) = true then (s.1, s.2.1, some (.int ((n : Int) - 1 - i)), s.2.2.2.1, s.2.2.2.2) else (s.1 ++ [wk xs ((n : Int) - 1 - i)], (wk xs ((n : Int) - 1 - i)).foldl f9 s.2.1, some (.int ((n : Int) - 1 - i)), some (tpI (wk xs ((n : Int) - 1 - i))), ((wk xs ((n : Int) - 1 - i)).getLast?).map D.int))
    (fun i s => RI n xs i s.1 s.2.1 /\ s.1.length <= i) ([], [], none, none, none) ⟨⟨List.nodup_nil, by simp, fun x => ⟨by simp, fun ⟨q, a, b, _⟩ => by omega⟩, rfl⟩, by simp⟩ (fun i s hi ⟨r, l⟩ => by
      obtain ⟨R, S, y3, y4, y5⟩ := s
      dsimp only at r l ⊢
      obtain ⟨p, hp⟩ : ∃ p : Int, (n : Int) - 1 - i = p := ⟨_, rfl⟩
      have st := r.step o hi
      rw [hp] at st ⊢
      have ins : ∀ (b : Bool), (S.any (· == p)) = b -> rT true (.int p) (.ref (h.length + 1)) (h ++ [.lst (R.map tpI), .set S]) = .ok (.bl (!b)) (h ++ [.lst (R.map tpI), .set S]) := fun b e => by
        rw [FG (ns := S) gk, e]; rfl
      rcases st with ⟨c, r'⟩ | ⟨c, r'⟩
      · rw [if_pos c]
        exact ⟨⟨r', show R.length <= i + 1 by omega⟩, .inl (by simp [w8, ins _ c])⟩
      · rw [if_neg (by rw [c]; exact Bool.false_ne_true)]
        refine ⟨⟨r', by simp; omega⟩, .inl ?_⟩
        have fr := D_ (p := p) (h := h ++ [.lst (R.map tpI), .set S]) o (by omega) (by omega) hn
        have isl : isL (.ref h.length) (h ++ [.lst (R.map tpI), .set S]) = true := mL cX
        have ap : bE (.ref h.length) [.tup ((wk xs p).map D.int)] (h ++ [.lst (R.map tpI), .set S]) = .ok .non (h ++ [.lst ((R ++ [wk xs p]).map tpI), .set S]) := by
          have := oQ (h := h) (ds := R.map tpI) (d := .tup ((wk xs p).map D.int)) (t := [.set S])
          have z : (R.map tpI).length < 1000000 := by simp; omega
          rw [if_pos z] at this
          rw [List.map_append]
          exact this
        have al := pq (n := n) (d0 := some (.tup (xs.map D.int))) (d1 := some (.ref h.length)) (d3 := some (.int p)) (d4 := some (.tup ((wk xs p).map D.int))) (R := .lst ((R ++ [wk xs p]).map tpI)) (h := h) (wk xs p) S y5 (fun x hx => lY o (by omega) (by omega) hx) r.rng r.nd hn (by rw [eH]; omega)
        generalize hW : (wk xs p).map D.int = W at *
        generalize (R ++ [wk xs p]).map tpI = R2 at *
        generalize R.map tpI = R1 at *
        simp [w8, ins _ c, fr, isl, ap, al, tpI, hW])
  obtain ⟨r, l⟩ := q2
  generalize (List.range n).foldl _ _ = s at q r l
  obtain ⟨R, S, y3, y4, y5⟩ := s
  dsimp only at q r l
  have rr : R.map tpI = ((dP n xs).map tpI).reverse := by
    have : (R.map tpI).reverse = (dP n xs).map tpI := by
      rw [r.res, <- List.map_reverse, <- List.map_reverse, <- List.filter_reverse, EV]; rfl
    rw [<- this, List.reverse_reverse]
  refine ⟨S, y3, y4, y5, ?_⟩
  rw [<- rr]
  have : (dnI n).map D.int = (List.range n).map fun (i : Nat) => D.int ((n : Int) - 1 - i) := by rw [dnI, List.map_map]; rfl
  rw [this]; exact q
theorem cr3 (a : MA) (env : En) (h : Hh) : iq i_ a env h = (a env h).bind i_ := rfl
theorem Ao {h : Hh} {L : List D} {t : Hh} : g_ aF (.ref h.length) (h ++ .lst L.reverse :: t) = .ok (.frl L) (h ++ .lst L.reverse :: t) := by
  delta g_; dsimp only; rw [cX]; dsimp only; rw [List.reverse_reverse]; rfl
theorem rL {n : Nat} {xs : List Int} : deep 8 (.frl ((dP n xs).map tpI)) = true := by
  have : ((dP n xs).map tpI).all (deep 7) = true := by
    rw [List.all_map, List.all_eq_true]
    intro b _
    simp [tpI]
  simpa [deep] using this
theorem Au {n : Nat} {xs : List Int} {h : Hh} (o : Ord n xs) (h1 : 1 <= n) (hn : n <= 20) : eB [.tup (xs.map D.int)] h = .ok (.frl ((dP n xs).map tpI)) h := by
  have oe := kx (h := []) o h1 (by omega) Wf.nil
  obtain ⟨S, y3, y4, y5, q⟩ := rP (h := []) o hn
  have dn := Fp (h := [.lst [], .set []]) h1 hn
  have rv := Ao (h := []) (L := (dP n xs).map tpI) (t := [.set S])
  have ex := bI (h := []) (t := [.lst ((dP n xs).map tpI).reverse, .set S]) (d := .frl ((dP n xs).map tpI)) Wf.nil rL
  have lo1 : bP 0 [.tup (xs.map D.int)] = true := by simp [bP, dR]
  have lo2 : dR 0 (.frl ((dP n xs).map tpI)) = true := by simp only [dR]; exact oP fun b => by simp [tpI, dR]
  have hl := o.len
  have e : eB = jk (fun ds h => ((cf 6 (aB (cb (ah aU (aa (ag 0) ai)))
    (aB (bq 1 (ah (bT eT) ai))
    (aB (bq 2 (ah jS ai))
    (aB (dg (iq i_ (aa (au kQ (ah bR (aa (ag 0) ai)) (cC (.int 1))) (aa (cUn eL (cC (.int 1))) (aa (cUn eL (cC (.int 1))) ai)))) (gN 3) w8)
    (bj (cUn (g_ aF) (ag 1)))))))) ds h).bind (bx h)) := rfl
  rw [e]
  simp only [List.nil_append, List.length_nil, Nat.zero_add] at q rv ex
  generalize (dP n xs).map tpI = RN at *
  simp [yp, jk, lo1, br, oe, hl, cr3, dn, q, rv, ex, lo2]
theorem wJ {n : Nat} {xs : List Int} {h : Hh} (o : Ord n xs) (h1 : 1 <= n) (hn : n <= 20) (w : Wf h) : bu [.tup (xs.map D.int)] h = .ok (.frl ((dP n xs).map tpI)) h := by
  obtain ⟨S, y3, y4, y5, q⟩ := rP (h := h) o hn
  have og := t_ (h := h) o h1 (by omega) w
  have dn := Fp (h := h ++ [.lst [], .set []]) h1 hn
  have rv := Ao (h := h) (L := (dP n xs).map tpI) (t := [.set S])
  have ex := bI (h := h) (t := [.lst ((dP n xs).map tpI).reverse, .set S]) (d := .frl ((dP n xs).map tpI)) w rL
  have hl := o.len
  have e : bu = fun ds h => ((cf 6 (aB (cb (ah aK (aa (up (ag 0)) ai)))
    (aB (up (bq 1 (ah (bT eT) ai)))
    (aB (up (bq 2 (ah jS ai)))
    (aB (up (dg (iq i_ (aa (au kQ (ah bR (aa (ag 0) ai)) (cC (.int 1))) (aa (cUn eL (cC (.int 1))) (aa (cUn eL (cC (.int 1))) ai)))) (gN 3) w8))
    (up (bj (cUn (g_ aF) (ag 1))))))))) ds h).bind (bx h) := rfl
  rw [e]
  generalize (dP n xs).map tpI = RN at *
  simp [yp, aK, og, br, hl, cr3, dn, q, rv, ex]
theorem uZ {σ : Type} {rd : Rdr} {tg : D -> En -> Hh -> R En} {body : MS} (enc : Nat -> D) (N : Nat) (E : σ -> En) (G : σ -> Hh) (I : Nat -> σ -> Prop) (hr : ∀ s i, i < N -> rd (G s) i = some (some (enc i))) (hr2 : ∀ s, rd (G s) N = some none)
    (st : ∀ i s, i < N -> I i s -> ∃ s', I (i + 1) s' /\ (tg (enc i) (E s) (G s)).bind body = .ok (.nx (E s')) (G s')) :
    ∀ (k i : Nat) (s : σ), i + k = N -> I i s -> ∃ s', f_ rd tg body k i (E s) (G s) = .ok (.nx (E s')) (G s') /\ I N s' := by
  intro k
  induction k with
  | zero =>
    intro i s e hi
    have : i = N := by omega
    subst this
    refine ⟨s, ?_, hi⟩
    unfold f_
    rw [hr2]
  | succ k ih =>
    intro i s e hi
    obtain ⟨s1, a, b⟩ := st i s (by omega) hi
    obtain ⟨s2, c, d⟩ := ih (i + 1) s1 (by omega) a
    refine ⟨s2, ?_, d⟩
    unfold f_
    rw [hr s i (by omega)]
    show (tg (enc i) (E s) (G s)).bind (fun e1 h1 => (body e1 h1).bind _) = _
    rw [<- bA, b]
    exact c
theorem qV {σ : Type} {tg : D -> En -> Hh -> R En} {body : MS} (enc : Nat -> D) (N : Nat) (E : σ -> En) (G : σ -> Hh) (I : Nat -> σ -> Prop)
    (st : ∀ i s, i < N -> I i s -> ∃ s', I (i + 1) s' /\ (tg (enc i) (E s) (G s)).bind body = .ok (.nx (E s')) (G s')) :
    ∀ (k i : Nat) (s : σ), i + k = N -> I i s -> ∃ s', dJ tg body ((List.range' i k).map enc) (E s) (G s) = .ok (.nx (E s')) (G s') /\ I N s' := by
  intro k
  induction k with
  | zero =>
    intro i s e hi
    have : i = N := by omega
    subst this
    exact ⟨s, rfl, hi⟩
  | succ k ih =>
    intro i s e hi
    obtain ⟨s1, a, b⟩ := st i s (by omega) hi
    obtain ⟨s2, c, d⟩ := ih (i + 1) s1 (by omega) a
    refine ⟨s2, ?_, d⟩
    rw [List.range'_succ, List.map_cons, dJ, <- bA, b]
    exact c
theorem Ex (n : Nat) : bS 0 n = (List.range' 0 n).map fun (i : Nat) => D.int i := by rw [o_, List.range_eq_range']
noncomputable def WC3 : MT := (aM asB (au dNe (au dIx (ag 0) (au dIx (ag 3) (cUn eL (cC (.int 1))))) (ag 2)))
noncomputable def WB3 : MS := (cb (cz bE (ag 3) (aa (au dIx (ag 0) (au dIx (ag 3) (cUn eL (cC (.int 1))))) ai)))
theorem B2 {ns : List Int} {h : Hh} (hp : 0 < ns.length) : md [.ref h.length] (h ++ [.lst (ns.map D.int)]) = .ok (.int (fA ns)) (h ++ [.lst (ns.map D.int)]) := by
  delta md; dsimp only
  rw [Es cX]; dsimp only
  rw [gS]; exact if_pos hp
theorem Av {n : Nat} {xs : List Int} {p : Int} {h : Hh} {d1 : Option D} (o : Ord n xs) (h0 : 0 <= p) (h1 : p < n) (hn : n <= 20) : eD WC3 WB3 64 [some (.tup (xs.map D.int)), d1, some (.int p), some (.ref h.length)] (h ++ [.lst [.int p]]) = .ok (.nx [some (.tup (xs.map D.int)), d1, some (.int p), some (.ref h.length)]) (h ++ [.lst ((wk xs p).map D.int)]) := by
  have c := jJ o h0 h1
  have clt := c.lt
  exact l8 (c := WC3) (b := WB3) (cy xs p) (fun _ => [some (.tup (xs.map D.int)), d1, some (.int p), some (.ref h.length)]) (fun i => h ++ [.lst (((List.range (i + 1)).map (orb xs p)).map D.int)])
    (fun i hi => by
      have ne : ¬ orb xs p (i + 1) = p := c.fst i hi
      have e1 := ky (xs := xs) (p := p) (i := i) (h := h ++ [.lst (((List.range (i + 1)).map (orb xs p)).map D.int)])
      generalize ((List.range (i + 1)).map (orb xs p)).map D.int = W at *
      simp [WC3, e1, kd o h0 h1, ne])
    (fun i hi => by
      have e1 := ky (xs := xs) (p := p) (i := i) (h := h ++ [.lst (((List.range (i + 1)).map (orb xs p)).map D.int)])
      have z : (((List.range (i + 1)).map (orb xs p)).map D.int).length < 1000000 := by simp; omega
      have e2 : ((List.range (i + 1 + 1)).map (orb xs p)).map D.int = ((List.range (i + 1)).map (orb xs p)).map D.int ++ [.int (orb xs p (i + 1))] := by rw [rz xs p (i + 1), List.map_append]; rfl
      rw [e2]
      generalize ((List.range (i + 1)).map (orb xs p)).map D.int = W at *
      simp [WB3, e1, kd o h0 h1, z])
    (by
      have e1 := ky (xs := xs) (p := p) (i := cy xs p) (h := h ++ [.lst (((List.range (cy xs p + 1)).map (orb xs p)).map D.int)])
      have eq : orb xs p (cy xs p + 1) = p := c.ret
      generalize ((List.range (cy xs p + 1)).map (orb xs p)).map D.int = W at *
      simp [WC3, e1, kd o h0 h1, eq]) 64 (by omega)
noncomputable def LLB : MS := (aB (bq 3 (ah (bT eT) (aa (ag 2) ai))) (aB (kD 64 WC3 WB3)
    (cT (aM asB (au dEq (ah jX (aa (ag 3) ai)) (ag 2))) (bq 1 (au (cL aF) (ag 1) (ah a8 (aa (ag 3) ai)))) bH)))
noncomputable def bz (n : Nat) (xs : List Int) : List Int := (dP n xs).flatten
noncomputable def lfI (xs : List Int) (i : Nat) : List Int := ((((List.range i).map fun (j : Nat) => (j : Int)).filter (fD xs)).map (wk xs)).flatten
theorem Fm (xs : List Int) (i : Nat) : lfI xs (i + 1) = if fD xs (i : Int) = true then lfI xs i ++ wk xs i else lfI xs i := by
  unfold lfI
  rw [List.range_succ, List.map_append, List.filter_append, List.map_append, List.flatten_append]
  by_cases c : fD xs (i : Int) = true
  · rw [if_pos c]; simp [c]
  · rw [if_neg c]; simp [c]
theorem Bx {n : Nat} {xs F : List Int} {p : Int} {t : Hh} {y3 : Option D} (o : Ord n xs) (h0 : 0 <= p) (h1 : p < n) (hn : n <= 20) (hF : F.length <= 1000) : LLB [some (.tup (xs.map D.int)), some (.tup (F.map D.int)), some (.int p), y3] t = .ok (.nx [some (.tup (xs.map D.int)), some (.tup ((if fD xs p = true then F ++ wk xs p else F).map D.int)), some (.int p), some (.ref t.length)]) (t ++ [.lst ((wk xs p).map D.int)]) := by
  have wl := Av (d1 := some (.tup (F.map D.int))) (h := t) o h0 h1 hn
  have mx := B2 (ns := wk xs p) (h := t) (by rw [eH]; omega)
  rw [<- Dp] at mx
  have cl := (jJ o h0 h1).lt
  have tu : a8 [.ref t.length] (t ++ [.lst ((wk xs p).map D.int)]) = .ok (.tup ((wk xs p).map D.int)) (t ++ [.lst ((wk xs p).map D.int)]) := by
    simp [a8, hX]
  have z : (F.map D.int).length + ((wk xs p).map D.int).length <= 1000000 := by rw [List.length_map, List.length_map, eH]; omega
  by_cases c : fD xs p = true
  · have c' : fA (wk xs p) = p := by simpa [fD] using c
    rw [c'] at mx
    rw [if_pos c, List.map_append]
    generalize (wk xs p).map D.int = W at *
    generalize F.map D.int = FF at *
    simp [LLB, wl, mx, tu, z]
  · have c' : ¬ fA (wk xs p) = p := by simpa [fD] using c
    rw [if_neg c]
    generalize (wk xs p).map D.int = W at *
    generalize F.map D.int = FF at *
    simp [LLB, wl, mx, c']
theorem um {n : Nat} {xs : List Int} (o : Ord n xs) (hn : n <= 20) : ∀ i, i <= n -> (lfI xs i).length <= i * 20
  | 0, _ => by simp [lfI]
  | i + 1, h => by
    have ih := um o hn i (by omega)
    have c := (jJ o (p := (i : Int)) (by omega) (by omega)).lt
    rw [Fm]
    split
    · rw [List.length_append, eH]; omega
    · omega
theorem vd {n : Nat} {xs : List Int} : bz n xs = lfI xs n := rfl
theorem Cz {n : Nat} {xs : List Int} {h : Hh} (o : Ord n xs) (hn : n <= 20) : cQ [.tup (xs.map D.int)] h = .ok (.tup ((bz n xs).map D.int)) h := by
  obtain ⟨s, q, e⟩ := qV (σ := Hh × List Int × Option D × Option D) (tg := gN 2) (body := LLB) (fun (i : Nat) => D.int i) n (fun s => [some (.tup (xs.map D.int)), some (.tup (s.2.1.map D.int)), s.2.2.1, s.2.2.2]) (fun s => s.1) (fun i s => s.2.1 = lfI xs i) (fun i s hi hs => by
    obtain ⟨H, F, y2, y3⟩ := s
    dsimp only at hs
    subst hs
    have b := Bx (p := (i : Int)) (F := lfI xs i) (t := H) (y3 := y3) o (by omega) (by omega) hn (by have := um o hn i (by omega); omega)
    rw [<- Fm] at b
    exact ⟨(H ++ [.lst ((wk xs i).map D.int)], lfI xs (i + 1), some (.int i), some (.ref H.length)), rfl, by simp only [wU, ba, List.set]; exact b⟩) n 0 ([], [], none, none) (by omega) rfl
  obtain ⟨H, F, y2, y3⟩ := s
  dsimp only at e q
  subst e
  rw [<- Ex, <- vd] at q
  have ex : bx [] (.tup ((bz n xs).map D.int)) H = .ok (.tup ((bz n xs).map D.int)) [] := by
    have := bI (h := []) (t := H) (d := .tup ((bz n xs).map D.int)) Wf.nil (by simp [deep])
    simpa using this
  have e : cQ = jk (fun ds h => ((cf 4 (aB (bq 1 (ah fQ ai)) (aB (dg (iq jW (aa (ah bR (aa (ag 0) ai)) ai)) (gN 2) LLB) (bj (ag 1))))) ds h).bind (bx h)) := rfl
  have hl := o.len
  have lo1 : bP 0 [.tup (xs.map D.int)] = true := by simp [bP, dR]
  have lo2 : dR 0 (.tup ((bz n xs).map D.int)) = true := by simp [dR]
  have z : n <= 1000000 := by omega
  rw [e]
  simp only [List.map_nil] at q
  generalize (bz n xs).map D.int = LA at *
  simp [jk, lo1, br, hl, z, q, ex, lo2]
theorem C_ {b : List Int} {H : Hh} {y : Option D} : ∀ (k j : Nat) (acc : List Int), j + k = b.length -> acc.length + k <= 1000000 -> sS H.length (Src.snap (b.map D.int)).rdr (ag 1) (fun e => [y, some e]) k j (H ++ [.lst (acc.map D.int)]) = .ok () (H ++ [.lst ((acc ++ b.drop j).map D.int)])
  | 0, j, acc, e, _ => by
    unfold sS
    have : (Src.snap (b.map D.int)).rdr (H ++ [.lst (acc.map D.int)]) j = some none := by
      simp only [Src.rdr]
      rw [List.getElem?_eq_none (by rw [List.length_map]; omega)]
    rw [this, List.drop_eq_nil_of_le (by omega)]
    simp
  | k + 1, j, acc, e, l => by
    have lt : j < b.length := by omega
    unfold sS
    have g : (Src.snap (b.map D.int)).rdr (H ++ [.lst (acc.map D.int)]) j = some (some (.int b[j])) := by
      simp only [Src.rdr]
      rw [List.getElem?_map, List.getElem?_eq_getElem lt]; rfl
    rw [g]
    have a : An H.length (.int b[j]) (H ++ [.lst (acc.map D.int)]) = .ok () (H ++ [.lst ((acc ++ [b[j]]).map D.int)]) := by
      unfold An
      rw [cX]
      dsimp only
      rw [if_pos (by rw [List.length_map]; omega), gK, List.map_append]
      rfl
    have t : ag 1 [y, some (.int b[j])] (H ++ [.lst (acc.map D.int)]) = .ok (.int b[j]) (H ++ [.lst (acc.map D.int)]) := rfl
    dsimp only
    rw [t, ba, a, ba, C_ k (j + 1) _ (by omega) (by simp; omega), List.drop_eq_getElem_cons lt, List.append_assoc]
    rfl
theorem C9 {env : En} {L : List (List Int)} {H : Hh} : ∀ (k i : Nat) (acc : List Int), i + k = L.length -> acc.length + (L.drop i).flatten.length <= 1000000 -> oD H.length (Src.snap (L.map tpI)).rdr (dm (ag 0)) (ag 1) (gp [] env) k i (H ++ [.lst (acc.map D.int)]) = .ok () (H ++ [.lst ((acc ++ (L.drop i).flatten).map D.int)])
  | 0, i, acc, e, _ => by
    unfold oD
    have : (Src.snap (L.map tpI)).rdr (H ++ [.lst (acc.map D.int)]) i = some none := by
      simp only [Src.rdr]
      rw [List.getElem?_eq_none (by rw [List.length_map]; omega)]
    rw [this, List.drop_eq_nil_of_le (by omega)]
    simp
  | k + 1, i, acc, e, l => by
    have lt : i < L.length := by omega
    rw [List.drop_eq_getElem_cons lt, List.flatten_cons, List.length_append] at l
    unfold oD
    have g : (Src.snap (L.map tpI)).rdr (H ++ [.lst (acc.map D.int)]) i = some (some (tpI L[i])) := by
      simp only [Src.rdr]
      rw [List.getElem?_map, List.getElem?_eq_getElem lt]; rfl
    rw [g]
    have mi : dm (ag 0) (gp [] env (some (tpI L[i])) none) (H ++ [.lst (acc.map D.int)]) = .ok (.snap (L[i].map D.int)) (H ++ [.lst (acc.map D.int)]) := by simp [gp, tpI]
    have fu : (Src.snap (L[i].map D.int)).fuel (H ++ [.lst (acc.map D.int)]) = L[i].length := by show (L[i].map D.int).length = _; rw [List.length_map]
    dsimp only
    rw [mi, ba, fu]
    have c : (fun e => gp [] env (some (tpI L[i])) (some e)) = fun e => [some (tpI L[i]), some e] := rfl
    rw [c, C_ L[i].length 0 acc (by omega) (by omega), ba, List.drop_zero]
    rw [C9 k (i + 1) (acc ++ L[i]) (by omega) (by rw [List.length_append]; omega), List.drop_eq_getElem_cons lt, List.flatten_cons, List.append_assoc]
theorem HP {mi : MI} {env : En} {L : List (List Int)} {H : Hh} (e : mi env H = .ok (.snap (L.map tpI)) H) (hl : L.flatten.length <= 1000000) : qF mi [] (dm (ag 0)) (ag 1) env H = .ok (.ref H.length) (H ++ [.lst (L.flatten.map D.int)]) := by
  unfold qF
  have := C9 (env := env) (L := L) (H := H) L.length 0 [] (by omega) (by simpa using hl)
  simp only [List.drop_zero, List.nil_append, List.map_nil] at this
  have f : (Src.snap (L.map tpI)).fuel H = L.length := by show (L.map tpI).length = _; rw [List.length_map]
  rw [e, ba, f, this]
  rfl
theorem xl {n : Nat} {xs : List Int} (o : Ord n xs) (hn : n <= 20) : (bz n xs).length <= 400 := by
  have := um o hn n (Nat.le_refl _)
  rw [vd]; omega
theorem AB {n : Nat} {xs : List Int} {h : Hh} (o : Ord n xs) (h1 : 1 <= n) (hn : n <= 20) (w : Wf h) : fV [.tup (xs.map D.int)] h = .ok (.tup ((bz n xs).map D.int)) h /\ ft [.tup (xs.map D.int)] h = .ok (.tup ((bz n xs).map D.int)) h := by
  have r1 := Au (h := h) o h1 hn
  have r2 := wJ (h := h) o h1 hn w
  have ll := xl o hn
  have c2 := HP (mi := fun _ h => .ok (.snap ((dP n xs).map tpI)) h) (env := [some (.tup (xs.map D.int))]) (L := dP n xs) (H := h) rfl (by show (bz n xs).length <= _; omega)
  have e0 : (dP n xs).flatten = bz n xs := rfl
  rw [e0] at c2
  have tu : a8 [.ref h.length] (h ++ [.lst ((bz n xs).map D.int)]) = .ok (.tup ((bz n xs).map D.int)) (h ++ [.lst ((bz n xs).map D.int)]) := by simp [a8, hX]
  have ex := bI (h := h) (t := [.lst ((bz n xs).map D.int)]) (d := .tup ((bz n xs).map D.int)) w (by simp [deep])
  generalize (bz n xs).map D.int = LA at *
  generalize (dP n xs).map tpI = RN at *
  exact ⟨by simp [fV, br, r1, c2, tu, ex], by simp [ft, br, r2, c2, tu, ex]⟩
theorem ua {l : List Int} {i j : Nat} {v : Int} (hj : j < l.length) : gI (l.set i v) j = if i = j then v else gI l j := by
  rw [bw (by simpa using hj), bw hj, List.getElem_set]
noncomputable def pmx (os : List Int) : Nat -> Int
  | 0 => gI os 0
  | i + 1 => max (pmx os i) (gI os (i + 1))
noncomputable def fW (n : Nat) (os : List Int) (i : Nat) : Int := if i + 1 < n then gI os (i + 1) else n
noncomputable def nxI (n : Nat) (os : List Int) (i : Nat) : Int := if pmx os i < fW n os i then pmx os i else fW n os i
theorem zH {n : Nat} {os : List Int} (o : Ord n os) : ∀ i, i < n -> 0 <= pmx os i /\ pmx os i < n
  | 0, h => iW o h
  | i + 1, h => by
    have := zH o i (by omega)
    have := iW o h
    rw [pmx]; omega
structure Tk (n : Nat) (os Z : List Int) : Prop where
  len : Z.length = n
  at' : ∀ j, j < n -> gI Z (gI os j).toNat = nxI n os j
noncomputable def TKB : MS := (cT (aM asB (au dGt (ag 4) (ag 2))) (aB (eE df (ag 1) (ag 3) (ag 2)) (bq 2 (ag 4))) (eE df (ag 1) (ag 3) (ag 4)))
theorem Cb {n : Nat} {os : List Int} (o : Ord n os) : jL (os.map D.int) ((os.drop 1 ++ [(n : Int)]).map D.int) = (List.range' 0 n).map fun (i : Nat) => D.tup [.int (gI os i), .int (fW n os i)] := by
  have hl := o.len
  refine List.ext_getElem? fun i => ?_
  rw [j6, List.getElem?_map, List.getElem?_map, List.getElem?_map]
  by_cases hi : i < n
  · have l1 : i < os.length := by omega
    have e1 : os[i]? = some (gI os i) := by rw [bw l1, List.getElem?_eq_getElem l1]
    have e2 : (os.drop 1 ++ [(n : Int)])[i]? = some (fW n os i) := by
      unfold fW
      by_cases h2 : i + 1 < n
      · rw [if_pos h2, List.getElem?_append_left (by simp; omega), List.getElem?_drop, bw (by omega), List.getElem?_eq_getElem (by omega)]
        congr 2; omega
      · rw [if_neg h2, List.getElem?_append_right (by simp; omega)]
        have : i - (os.drop 1).length = 0 := by simp; omega
        rw [this]; rfl
    have e3 : (List.range' 0 n)[i]? = some i := by rw [<- List.range_eq_range', List.getElem?_range hi]
    rw [e1, e2, e3]; rfl
  · have e1 : os[i]? = none := List.getElem?_eq_none (by omega)
    have e3 : (List.range' 0 n)[i]? = none := List.getElem?_eq_none (by simp; omega)
    rw [e1, e3]; rfl
theorem Cj {n : Nat} {os : List Int} {h : Hh} (o : Ord n os) (h1 : 1 <= n) : ∃ Z y2 y3 y4, Tk n os Z /\ dJ (gT2 3 4) TKB ((List.range' 0 n).map fun (i : Nat) => D.tup [.int (gI os i), .int (fW n os i)]) [some (.tup (os.map D.int)), some (.ref h.length), some (.int (gI os 0)), none, none] (h ++ [.lst (List.replicate n (.int 0))]) = .ok (.nx [some (.tup (os.map D.int)), some (.ref h.length), y2, y3, y4]) (h ++ [.lst (Z.map D.int)]) := by
  obtain ⟨s, q, e⟩ := qV (σ := List Int × Int × Option D × Option D) (tg := gT2 3 4) (body := TKB) (fun (i : Nat) => D.tup [.int (gI os i), .int (fW n os i)]) n (fun s => [some (.tup (os.map D.int)), some (.ref h.length), some (.int s.2.1), s.2.2.1, s.2.2.2]) (fun s => h ++ [.lst (s.1.map D.int)]) (fun i s => s.1.length = n /\ (i < n -> s.2.1 = pmx os i) /\ ∀ j, j < i -> gI s.1 (gI os j).toNat = nxI n os j) (fun i s hi hs => by
    obtain ⟨Z, f, y3, y4⟩ := s
    obtain ⟨zl, hf, hv⟩ := hs
    dsimp only at zl hf hv ⊢
    have hf := hf hi
    subst hf
    have r := iW o hi
    obtain ⟨p, hp⟩ : ∃ p : Nat, gI os i = (p : Int) := ⟨(gI os i).toNat, by omega⟩
    have pl : p < Z.length := by omega
    have st : ∀ v : Int, df (.ref h.length) (.int (p : Int)) (.int v) (h ++ [.lst (Z.map D.int)]) = .ok () (h ++ [.lst ((Z.set p v).map D.int)]) := fun v => by
      rw [j0 cX (show ixN (Z.map D.int).length (p : Int) = some p from by rw [List.length_map]; exact lL rfl pl), gK, List.map_set]
    have vals : ∀ v, v = nxI n os i -> ∀ j, j < i + 1 -> gI (Z.set p v) (gI os j).toNat = nxI n os j := fun v ev j hj => by
      have rj := iW o (show j < n by omega)
      rw [ua (by omega)]
      by_cases c : p = (gI os j).toNat
      · rw [if_pos c]
        have : gI os j = gI os i := by omega
        have ji : j = i := by
          by_cases z : j = i
          · exact z
          · exfalso
            have l1 : j < os.length := by rw [o.len]; omega
            have l2 : i < os.length := by rw [o.len]; omega
            rw [bw l1, bw l2] at this
            exact z ((List.getElem_inj o.nd).mp this)
        rw [ji]; exact ev
      · rw [if_neg c]
        have : j ≠ i := fun z => c (by subst z; omega)
        exact hv j (by omega)
    by_cases c : pmx os i < fW n os i
    · refine ⟨(Z.set p (pmx os i), fW n os i, some (.int (gI os i)), some (.int (fW n os i))), ⟨by simp [zl], fun hi2 => ?_, vals _ (by unfold nxI; rw [if_pos c])⟩, ?_⟩
      · dsimp only
        have : fW n os i = gI os (i + 1) := by unfold fW; rw [if_pos hi2]
        rw [this] at c ⊢
        rw [pmx]; omega
      · dsimp only
        rw [hp]
        simp [TKB, c, st]
    · refine ⟨(Z.set p (fW n os i), pmx os i, some (.int (gI os i)), some (.int (fW n os i))), ⟨by simp [zl], fun hi2 => ?_, vals _ (by unfold nxI; rw [if_neg c])⟩, ?_⟩
      · dsimp only
        have : fW n os i = gI os (i + 1) := by unfold fW; rw [if_pos hi2]
        rw [this] at c
        rw [pmx]; omega
      · dsimp only
        rw [hp]
        simp [TKB, c, st]) n 0 (List.replicate n 0, gI os 0, none, none) (by omega) ⟨by simp, fun _ => rfl, fun j hj => by omega⟩
  obtain ⟨Z, f, y3, y4⟩ := s
  obtain ⟨zl, hf, hv⟩ := e
  dsimp only at zl hf hv q
  refine ⟨Z, some (.int f), y3, y4, ⟨zl, hv⟩, ?_⟩
  rw [List.map_replicate] at q
  exact q
theorem vn {n : Nat} {os Z Y : List Int} (o : Ord n os) (a : Tk n os Z) (b : Tk n os Y) : Z = Y := by
  refine List.ext_getElem (by rw [a.len, b.len]) fun p h1 h2 => ?_
  obtain ⟨i, hi, e⟩ := yx o (j := (p : Int)) (by omega) (by rw [<- a.len]; omega)
  have za := a.at' i hi
  have zb := b.at' i hi
  have ep : (gI os i).toNat = p := by omega
  rw [ep, bw h1] at za
  rw [ep, bw h2] at zb
  rw [za, zb]
theorem vi {n : Nat} {os : List Int} {h : Hh} (o : Ord n os) (h1 : 1 <= n) (hn : n <= 20) (w : Wf h) : ∃ Z, Tk n os Z /\ dw [.tup (os.map D.int)] h = .ok (.tup (Z.map D.int)) h /\ bJ [.tup (os.map D.int)] h = .ok (.tup (Z.map D.int)) h := by
  obtain ⟨Z, y2, y3, y4, tk, q⟩ := Cj (h := h) o h1
  refine ⟨Z, tk, ?_⟩
  have hl := o.len
  have oe := kx (h := h) o h1 hn w
  have og := t_ (h := h) o h1 hn w
  rw [<- Cb o] at q
  have ct : iO os (some 1) none = os.drop 1 := ph os 1
  have cd : cutD (os.map D.int) (some 1) none = (os.drop 1).map D.int := by rw [fq, ct]
  have e1 : (os.drop 1 ++ [(n : Int)]).map D.int = (os.drop 1).map D.int ++ [.int n] := by simp
  rw [e1] at q
  have i0 := lI (h := h ++ [.lst (List.replicate n (.int 0))]) (ns := os) (i := 0) (j := 0) rfl (by omega)
  have tu : a8 [.ref h.length] (h ++ [.lst (Z.map D.int)]) = .ok (.tup (Z.map D.int)) (h ++ [.lst (Z.map D.int)]) := by simp [a8, hX]
  have ex := bI (h := h) (t := [.lst (Z.map D.int)]) (d := .tup (Z.map D.int)) w (by simp [deep])
  have z1 : n <= 1000000 := by omega
  have z2 : (os.drop 1).length + 1 <= 1000000 := by simp; omega
  have z3 : ((os.drop 1).map D.int).length + 1 <= 1000000 := by simp; omega
  have z4 : 1 <= (n : Int) := by omega
  have e2 : dw = fun ds h => ((cf 5 (aB (cb (ah aU (aa (ag 0) ai)))
    (aB (bq 1 (au (jC eT) (ah (bT aF) (aa (cC (.int 0)) ai)) (ah bR (aa (ag 0) ai))))
    (aB (bq 2 (au dIx (ag 0) (cC (.int 0))))
    (aB (dg (pG (aa (ag 0) (aa (au (cL aF) (cA aF (ag 0) (di (cC (.int 1))) b8) (ah fQ (aa (ah bR (aa (ag 0) ai)) ai))) ai))) (gT2 3 4) TKB)
    (bj (ah a8 (aa (ag 1) ai)))))))) ds h).bind (bx h) := rfl
  have e3 : bJ = fun ds h => ((cf 5 (aB (cb (ah aK (aa (up (ag 0)) ai)))
    (aB (up (bq 1 (au (jC eT) (ah (bT aF) (aa (cC (.int 0)) ai)) (ah bR (aa (ag 0) ai)))))
    (aB (up (bq 2 (au dIx (ag 0) (cC (.int 0)))))
    (aB (up (dg (pG (aa (ag 0) (aa (au (cL aF) (cA aF (ag 0) (di (cC (.int 1))) b8) (ah fQ (aa (ah bR (aa (ag 0) ai)) ai))) ai))) (gT2 3 4) TKB))
    (up (bj (ah a8 (aa (ag 1) ai))))))))) ds h).bind (bx h) := rfl
  rw [e2, e3]
  generalize (os.drop 1).map D.int = OD at *
  generalize Z.map D.int = ZD at *
  exact ⟨by simp [br, oe, hl, z1, z4, i0, cd, z3, q, tu, ex], by simp [aK, og, br, hl, z1, z4, i0, cd, z3, q, tu, ex]⟩
structure Bks (n : Nat) (os : List Int) (Bs : List (List Int)) : Prop where
  fl : Bs.flatten = os
  ne : ∀ b ∈ Bs, b ≠ []
  hd : ∀ b ∈ Bs, ∀ x ∈ b, x <= b.headD 0
  up : (Bs.map fun b => b.headD 0).Pairwise (· < ·)
theorem yC {n : Nat} {xs : List Int} (o : Ord n xs) : Bks n (bz n xs) (dP n xs) := by
  have hh : ∀ p, (wk xs p).headD 0 = p := fun p => by
    unfold wk; rw [List.range_succ_eq_map]; rfl
  refine ⟨rfl, fun b hb => ?_, fun b hb x hx => ?_, ?_⟩
  · obtain ⟨p, hp, rfl⟩ := List.mem_map.mp hb
    intro z
    have := eH xs p
    rw [z] at this; simp at this
  · obtain ⟨p, hp, rfl⟩ := List.mem_map.mp hb
    rw [hh]
    exact (iS.mp (List.mem_filter.mp hp).2) x hx
  · have e : ((dP n xs).map fun b => b.headD 0) = ((List.range n).map fun (i : Nat) => (i : Int)).filter (fD xs) := by
      unfold dP
      rw [List.map_map]
      refine Eq.trans (List.map_congr_left fun p _ => hh p) ?_
      simp
    rw [e]
    refine List.Pairwise.filter _ ?_
    rw [List.pairwise_map]
    exact List.pairwise_lt_range.imp fun h => by omega
theorem qI (os : List Int) : ∀ i k, k <= i -> gI os k <= pmx os i
  | 0, k, h => by have : k = 0 := by omega
                  subst this; exact Int.le_refl _
  | i + 1, k, h => by
    rw [pmx]
    by_cases c : k = i + 1
    · subst c; omega
    · have := qI os i k (by omega); omega
theorem lH (os : List Int) : ∀ i, ∃ k, k <= i /\ gI os k = pmx os i
  | 0 => ⟨0, Nat.le_refl _, rfl⟩
  | i + 1 => by
    obtain ⟨k, hk, e⟩ := lH os i
    by_cases c : gI os (i + 1) <= pmx os i
    · exact ⟨k, by omega, by rw [e, pmx]; omega⟩
    · exact ⟨i + 1, Nat.le_refl _, by rw [pmx]; omega⟩
theorem Eh {A B : List Int} {i : Nat} (h : i < A.length) : gI (A ++ B) i = gI A i := by
  rw [bw (by simp; omega), bw h, List.getElem_append_left h]
theorem Ds {A B : List Int} {j : Nat} (h : j < B.length) : gI (A ++ B) (A.length + j) = gI B j := by
  rw [bw (by simp; omega), bw h, List.getElem_append_right (by omega)]
  congr 1; omega
theorem yB : ∀ (Bs : List (List Int)) (i : Nat), i < Bs.flatten.length -> ∃ A b C j, Bs = A ++ b :: C /\ j < b.length /\ i = A.flatten.length + j
  | [], i, h => by simp at h
  | b :: Bs, i, h => by
    by_cases c : i < b.length
    · exact ⟨[], b, Bs, i, rfl, c, by simp⟩
    · rw [List.flatten_cons, List.length_append] at h
      obtain ⟨A, d, C, j, e, hj, ei⟩ := yB Bs (i - b.length) (by omega)
      refine ⟨b :: A, d, C, j, by rw [e]; rfl, hj, ?_⟩
      rw [List.flatten_cons, List.length_append]; omega
noncomputable def cyc (b : List Int) (j : Nat) : Int := if j + 1 < b.length then gI b (j + 1) else b.headD 0
theorem yV {n : Nat} {os : List Int} {A C : List (List Int)} {b : List Int} {j : Nat} (o : Ord n os) (k : Bks n os (A ++ b :: C)) (hj : j < b.length) : gI os (A.flatten.length + j) = gI b j /\ nxI n os (A.flatten.length + j) = cyc b j := by
  have fl : os = A.flatten ++ (b ++ C.flatten) := by rw [<- k.fl, List.flatten_append, List.flatten_cons]
  have ln : A.flatten.length + (b.length + C.flatten.length) = n := by rw [<- o.len, fl]; simp
  have bm : b ∈ A ++ b :: C := by simp
  have at0 : ∀ t, t < b.length -> gI os (A.flatten.length + t) = gI b t := fun t ht => by
    rw [fl, Ds (by simp; omega), Eh ht]
  have h0 : gI b 0 = b.headD 0 := by cases b <;> rfl
  have ups := k.up
  rw [List.map_append, List.map_cons, List.pairwise_append] at ups
  have lessA : ∀ x ∈ A.flatten, x < b.headD 0 := fun x hx => by
    obtain ⟨a, ha, hx⟩ := List.mem_flatten.mp hx
    have u1 := k.hd a (List.mem_append_left _ ha) x hx
    have u2 := ups.2.2 (a.headD 0) (List.mem_map.mpr ⟨a, ha, rfl⟩) (b.headD 0) List.mem_cons_self
    omega
  have pm : pmx os (A.flatten.length + j) = b.headD 0 := by
    refine Int.le_antisymm ?_ ?_
    · obtain ⟨t, ht, e⟩ := lH os (A.flatten.length + j)
      rw [<- e]
      by_cases c : t < A.flatten.length
      · rw [fl, Eh c]
        have := lessA _ (cK (ns := A.flatten) (j := t) c)
        omega
      · have := at0 (t - A.flatten.length) (by omega)
        rw [show A.flatten.length + (t - A.flatten.length) = t by omega] at this
        rw [this]
        exact k.hd b bm _ (cK (by omega))
    · have := qI os (A.flatten.length + j) A.flatten.length (by omega)
      have a0 := at0 0 (by omega)
      rw [Nat.add_zero] at a0
      rw [a0, h0] at this
      exact this
  refine ⟨at0 j hj, ?_⟩
  unfold nxI cyc
  rw [pm]
  by_cases c : j + 1 < b.length
  · have f : fW n os (A.flatten.length + j) = gI b (j + 1) := by
      unfold fW
      rw [if_pos (by omega), show A.flatten.length + j + 1 = A.flatten.length + (j + 1) by omega, at0 _ c]
    have := k.hd b bm (gI b (j + 1)) (cK c)
    rw [f, if_pos c, if_neg (by omega)]
  · rw [if_neg c]
    have g : b.headD 0 < fW n os (A.flatten.length + j) := by
      unfold fW
      by_cases c2 : A.flatten.length + j + 1 < n
      · rw [if_pos c2]
        cases C with
        | nil => rw [List.flatten_nil, List.length_nil] at ln; omega
        | cons d C =>
          have dn : d ≠ [] := k.ne d (by simp)
          have dl : 0 < d.length := List.length_pos_iff.mpr dn
          have e : gI os (A.flatten.length + j + 1) = gI d 0 := by
            rw [fl, show A.flatten.length + j + 1 = A.flatten.length + (b.length + 0) by omega, Ds (by simp; omega), Ds (by simp; omega), List.flatten_cons, Eh dl]
          have d0 : gI d 0 = d.headD 0 := by cases d <;> rfl
          rw [e, d0]
          have u := ups.2.1
          rw [List.map_cons, List.pairwise_cons] at u
          exact u.1 _ List.mem_cons_self
      · rw [if_neg c2]
        have : b.headD 0 ∈ os := by
          rw [fl, <- h0]
          exact List.mem_append_right _ (List.mem_append_left _ (cK (by omega)))
        exact o.hi _ this
    rw [if_pos g]
theorem tO {n : Nat} {os Z : List Int} {Bs : List (List Int)} (o : Ord n os) (k : Bks n os Bs) : Tk n os Z ↔ Z.length = n /\ ∀ b ∈ Bs, ∀ j, j < b.length -> gI Z (gI b j).toNat = cyc b j := by
  constructor
  · intro t
    refine ⟨t.len, fun b hb j hj => ?_⟩
    obtain ⟨A, C, rfl⟩ := List.append_of_mem hb
    obtain ⟨e1, e2⟩ := yV o k hj
    have l : A.flatten.length + j < n := by
      rw [<- o.len, <- k.fl, List.flatten_append, List.flatten_cons]; simp; omega
    rw [<- e1, t.at' _ l, e2]
  · rintro ⟨l, v⟩
    refine ⟨l, fun i hi => ?_⟩
    obtain ⟨A, b, C, j, e, hj, rfl⟩ := yB Bs i (by rw [k.fl, o.len]; exact hi)
    subst e
    obtain ⟨e1, e2⟩ := yV o k hj
    rw [e1, e2]
    exact v b (by simp) j hj
theorem GP {n : Nat} {xs : List Int} (o : Ord n xs) {p : Int} (h0 : 0 <= p) (h1 : p < n) : (wk xs p).Nodup := by
  have c := jJ o h0 h1
  refine List.pairwise_iff_getElem.mpr fun i j hi hj hij e => ?_
  unfold wk at hi hj e
  simp only [List.length_map, List.length_range] at hi hj
  simp only [List.getElem_map, List.getElem_range] at e
  have := mF o h0 h1 (j - i) i (by rw [show i + (j - i) = j by omega]; exact e)
  exact c.fst (j - i - 1) (by omega) (by rw [show j - i - 1 + 1 = j - i by omega]; exact this)
theorem qs {n : Nat} {xs b : List Int} (h : b ∈ dP n xs) : ∃ p : Int, 0 <= p /\ p < n /\ fD xs p = true /\ b = wk xs p := by
  obtain ⟨p, hp, rfl⟩ := List.mem_map.mp h
  obtain ⟨a, c⟩ := List.mem_filter.mp hp
  obtain ⟨i, hi, rfl⟩ := List.mem_map.mp a
  have := List.mem_range.mp hi
  exact ⟨_, by omega, by omega, c, rfl⟩
theorem xW {n : Nat} {xs : List Int} (o : Ord n xs) {x : Int} (h0 : 0 <= x) (h1 : x < n) : x ∈ bz n xs := by
  have pm : fA (wk xs x) ∈ wk xs x := max_mem (by rw [eH]; omega)
  generalize hp : fA (wk xs x) = p at pm
  have pr := lY o h0 h1 pm
  have tp : fD xs p = true := iS.mpr fun y hy => by
    have := ni o h0 h1 hy pm
    rw [<- hp]; exact le_max this
  refine List.mem_flatten.mpr ⟨wk xs p, List.mem_map.mpr ⟨p, List.mem_filter.mpr ⟨List.mem_map.mpr ⟨p.toNat, List.mem_range.mpr (by omega), by omega⟩, tp⟩, rfl⟩, iV o h0 h1 pm⟩
theorem Be {n : Nat} {xs : List Int} (o : Ord n xs) : (bz n xs).Nodup := by
  unfold bz
  refine List.pairwise_flatten.mpr ⟨fun b hb => ?_, ?_⟩
  · obtain ⟨p, h0, h1, _, rfl⟩ := qs hb
    exact GP o h0 h1
  · unfold dP
    rw [List.pairwise_map]
    have pw : (((List.range n).map fun (i : Nat) => (i : Int)).filter (fD xs)).Pairwise (· < ·) := by
      refine List.Pairwise.filter _ ?_
      rw [List.pairwise_map]
      exact List.pairwise_lt_range.imp fun h => by omega
    refine List.Pairwise.imp_of_mem (fun {p q} hp hq lt => ?_) pw
    obtain ⟨a1, c1⟩ := List.mem_filter.mp hp
    obtain ⟨a2, c2⟩ := List.mem_filter.mp hq
    obtain ⟨i, hi, rfl⟩ := List.mem_map.mp a1
    obtain ⟨j, hj, rfl⟩ := List.mem_map.mp a2
    have hi := List.mem_range.mp hi
    have hj := List.mem_range.mp hj
    intro x hx y hy exy
    subst exy
    have s := iV o (p := (i : Int)) (x := x) (by omega) (by omega) hx
    have xr := lY o (by omega) (by omega) hx
    -- q is in x's walk, so in p's
    have t := iV o (p := (j : Int)) (x := x) (by omega) (by omega) hy
    have u := ni o (q := (i : Int)) (p := x) (x := (j : Int)) (by omega) (by omega) t hx
    have := iS.mp c1 _ u
    omega
theorem len_sub : ∀ (xs ys : List Int), xs.Nodup -> (∀ x ∈ xs, x ∈ ys) -> xs.length <= ys.length
  | [], ys, _, _ => by simp
  | x :: xs, ys, nd, h => by
    have nd' := List.nodup_cons.mp nd
    have m := h x List.mem_cons_self
    have := len_sub xs (ys.erase x) nd'.2 fun y hy => by
      have : y ≠ x := fun z => nd'.1 (z ▸ hy)
      exact (List.mem_erase_of_ne this).mpr (h y (List.mem_cons_of_mem _ hy))
    rw [List.length_erase_of_mem m] at this
    have p : 0 < ys.length := List.length_pos_of_mem m
    rw [List.length_cons]; omega
theorem r9 {n : Nat} {xs : List Int} (o : Ord n xs) : Ord n (bz n xs) := by
  have rg : ∀ x ∈ bz n xs, 0 <= x /\ x < n := fun x hx => by
    obtain ⟨b, hb, hx⟩ := List.mem_flatten.mp hx
    obtain ⟨p, h0, h1, _, rfl⟩ := qs hb
    exact lY o h0 h1 hx
  have nd := Be o
  refine ⟨Nat.le_antisymm (jn n _ nd rg) ?_, nd, fun x hx => (rg x hx).1, fun x hx => (rg x hx).2⟩
  have := len_sub xs (bz n xs) o.nd fun x hx => xW o (o.lo x hx) (o.hi x hx)
  rw [o.len] at this
  exact this
theorem AL {xs : List Int} {p : Int} {j : Nat} (h : j < cy xs p + 1) : gI (wk xs p) j = orb xs p j := by
  rw [bw (by rw [eH]; exact h)]
  simp [wk]
theorem vB {n : Nat} {xs : List Int} (o : Ord n xs) : Tk n (bz n xs) xs := by
  refine (tO (r9 o) (yC o)).mpr ⟨o.len, fun b hb j hj => ?_⟩
  obtain ⟨p, h0, h1, _, rfl⟩ := qs hb
  rw [eH] at hj
  rw [AL hj]
  have e : gI xs (orb xs p j).toNat = orb xs p (j + 1) := rfl
  unfold cyc
  rw [e, eH]
  by_cases c : j + 1 < cy xs p + 1
  · rw [if_pos c, AL c]
  · rw [if_neg c]
    have : j = cy xs p := by omega
    subst this
    rw [(jJ o h0 h1).ret]
    unfold wk; rw [List.range_succ_eq_map]; rfl
theorem tB : ∀ (xs ys : List Int), xs.Pairwise (· < ·) -> ys.Pairwise (· < ·) -> (∀ x, x ∈ xs ↔ x ∈ ys) -> xs = ys
  | [], [], _, _, _ => rfl
  | [], y :: ys, _, _, h => by have := (h y).mpr List.mem_cons_self; simp at this
  | x :: xs, [], _, _, h => by have := (h x).mp List.mem_cons_self; simp at this
  | x :: xs, y :: ys, hx, hy, h => by
    have px := List.pairwise_cons.mp hx
    have py := List.pairwise_cons.mp hy
    have e : x = y := by
      rcases List.mem_cons.mp ((h x).mp List.mem_cons_self) with z | z
      · exact z
      · rcases List.mem_cons.mp ((h y).mpr List.mem_cons_self) with w | w
        · exact w.symm
        · have := px.1 y w; have := py.1 x z; omega
    subst e
    congr 1
    refine tB xs ys px.2 py.2 fun z => ⟨fun hz => ?_, fun hz => ?_⟩
    · rcases List.mem_cons.mp ((h z).mp (List.mem_cons_of_mem _ hz)) with w | w
      · have := px.1 z hz; omega
      · exact w
    · rcases List.mem_cons.mp ((h z).mpr (List.mem_cons_of_mem _ hz)) with w | w
      · have := py.1 z hz; omega
      · exact w
theorem mX (b : List Int) : b.headD 0 = gI b 0 := by cases b <;> rfl
section
variable {n : Nat} {os Z : List Int} {Bs : List (List Int)} (o : Ord n os) (k : Bks n os Bs) (tk : Tk n os Z)
include o k in
theorem CY {b : List Int} (hb : b ∈ Bs) : b.Nodup := by
  have nd := o.nd
  rw [<- k.fl] at nd
  exact (List.pairwise_flatten.mp nd).1 b hb
include o k in
theorem vI {b : List Int} (hb : b ∈ Bs) {x : Int} (hx : x ∈ b) : 0 <= x /\ x < n := by
  have m : x ∈ os := by rw [<- k.fl]; exact List.mem_flatten.mpr ⟨b, hb, hx⟩
  exact ⟨o.lo x m, o.hi x m⟩
theorem pw_ne {R : List Int -> List Int -> Prop} : ∀ {L : List (List Int)}, L.Pairwise R -> ∀ a ∈ L, ∀ b ∈ L, a ≠ b -> R a b \/ R b a
  | [], _, a, ha, _, _, _ => by simp at ha
  | c :: L, h, a, ha, b, hb, ne => by
    have p := List.pairwise_cons.mp h
    rcases List.mem_cons.mp ha with e1 | ha2
    · rcases List.mem_cons.mp hb with e2 | hb2
      · exact absurd (e1.trans e2.symm) ne
      · rw [e1]; exact .inl (p.1 b hb2)
    · rcases List.mem_cons.mp hb with e2 | hb2
      · rw [e2]; exact .inr (p.1 a ha2)
      · exact pw_ne p.2 a ha2 b hb2 ne
include o k in
theorem Fj {a b : List Int} (ha : a ∈ Bs) (hb : b ∈ Bs) {x : Int} (h1 : x ∈ a) (h2 : x ∈ b) : a = b := by
  have nd := o.nd
  rw [<- k.fl] at nd
  refine Classical.byContradiction fun ne => ?_
  rcases pw_ne (List.pairwise_flatten.mp nd).2 a ha b hb ne with r | r
  · exact r x h1 x h2 rfl
  · exact r x h2 x h1 rfl
include o k in
theorem uW {p : Nat} (hp : p < n) : ∃ b ∈ Bs, ∃ j, j < b.length /\ gI b j = (p : Int) := by
  have m : (p : Int) ∈ os := qX o (by omega) (by omega)
  rw [<- k.fl] at m
  obtain ⟨b, hb, hx⟩ := List.mem_flatten.mp m
  obtain ⟨j, hj, e⟩ := List.getElem_of_mem hx
  exact ⟨b, hb, j, hj, by rw [bw hj]; exact e⟩
theorem qN {b : List Int} {j : Nat} (hj : j < b.length) : cyc b j ∈ b := by
  unfold cyc
  split
  · exact cK (by assumption)
  · rw [mX]; exact cK (by omega)
theorem Cw {b : List Int} {i j : Nat} (nd : b.Nodup) (hi : i < b.length) (hj : j < b.length) (e : cyc b i = cyc b j) : i = j := by
  unfold cyc at e
  rw [mX] at e
  by_cases c1 : i + 1 < b.length <;> by_cases c2 : j + 1 < b.length
  · rw [if_pos c1, if_pos c2] at e
    have := iA nd c1 c2 e; omega
  · rw [if_pos c1, if_neg c2] at e
    have := iA nd c1 (by omega) e; omega
  · rw [if_neg c1, if_pos c2] at e
    have := iA nd (by omega) c2 e; omega
  · omega
include o k tk in
theorem rN {b : List Int} (hb : b ∈ Bs) {j : Nat} (hj : j < b.length) : gI Z (gI b j).toNat = cyc b j := ((tO o k).mp tk).2 b hb j hj
include o k tk in
theorem uz : Ord n Z := by
  refine Dy tk.len (fun p hp => ?_) (fun p q hp hq e => ?_)
  · obtain ⟨b, hb, j, hj, ep⟩ := uW o k hp
    have := rN o k tk hb hj
    rw [ep, Int.toNat_natCast] at this
    rw [this]
    exact vI o k hb (qN hj)
  · obtain ⟨b, hb, j, hj, ep⟩ := uW o k hp
    obtain ⟨c, hc, i, hi, eq⟩ := uW o k hq
    have v1 := rN o k tk hb hj
    have v2 := rN o k tk hc hi
    rw [ep, Int.toNat_natCast] at v1
    rw [eq, Int.toNat_natCast] at v2
    have ev : cyc b j = cyc c i := by rw [<- v1, <- v2, e]
    have bc : b = c := Fj o k hb hc (qN hj) (by rw [ev]; exact qN hi)
    subst bc
    have ij := Cw (CY o k hb) hj hi ev
    subst ij
    rw [ep] at eq
    omega
include o k tk in
theorem pQ {b : List Int} (hb : b ∈ Bs) : ∀ j, j < b.length -> orb Z (b.headD 0) j = gI b j
  | 0, h => mX b
  | j + 1, h => by
    show gI Z (orb Z (b.headD 0) j).toNat = _
    rw [pQ hb j (by omega), rN o k tk hb (by omega)]
    unfold cyc
    rw [if_pos h]
include o k tk in
theorem zf {b : List Int} (hb : b ∈ Bs) : wk Z (b.headD 0) = b := by
  have ne := k.ne b hb
  have l : 0 < b.length := List.length_pos_iff.mpr ne
  have hr := vI o k hb (x := b.headD 0) (by rw [mX]; exact cK l)
  have c := jJ (uz o k tk) hr.1 hr.2
  have nd := CY o k hb
  have e : cy Z (b.headD 0) = b.length - 1 := by
    by_cases h1 : cy Z (b.headD 0) + 1 < b.length
    · have r : gI b (cy Z (b.headD 0) + 1) = gI b 0 := by
        rw [<- pQ o k tk hb _ h1, c.ret]; exact mX b
      have := iA nd h1 l r
      omega
    · by_cases h2 : b.length - 1 < cy Z (b.headD 0)
      · exfalso
        refine c.fst _ h2 ?_
        show gI Z (orb Z (b.headD 0) (b.length - 1)).toNat = _
        rw [pQ o k tk hb _ (by omega), rN o k tk hb (by omega)]
        unfold cyc
        rw [if_neg (by omega)]
      · omega
  refine List.ext_getElem (by rw [eH, e]; omega) fun i h1 h2 => ?_
  rw [<- bw h1, <- bw h2, AL (by rw [eH] at h1; exact h1), pQ o k tk hb i h2]
include o k tk in
theorem A_ : bz n Z = os := by
  have oz := uz o k tk
  have hs : ((List.range n).map fun (i : Nat) => (i : Int)).filter (fD Z) = Bs.map fun b => b.headD 0 := by
    refine tB _ _ ?_ k.up fun x => ⟨fun hx => ?_, fun hx => ?_⟩
    · refine List.Pairwise.filter _ ?_
      rw [List.pairwise_map]
      exact List.pairwise_lt_range.imp fun h => by omega
    · obtain ⟨a, c⟩ := List.mem_filter.mp hx
      obtain ⟨p, hp, rfl⟩ := List.mem_map.mp a
      have hp := List.mem_range.mp hp
      obtain ⟨b, hb, j, hj, ep⟩ := uW o k hp
      have pb : (p : Int) ∈ b := by rw [<- ep]; exact cK hj
      have l : 0 < b.length := by omega
      have hm : b.headD 0 ∈ b := by rw [mX]; exact cK l
      have hr := vI o k hb hm
      have w : (p : Int) ∈ wk Z (b.headD 0) := by rw [zf o k tk hb]; exact pb
      have s := iV oz hr.1 hr.2 w
      have t1 := iS.mp c _ s
      have t2 := k.hd b hb _ pb
      exact List.mem_map.mpr ⟨b, hb, by omega⟩
    · obtain ⟨b, hb, rfl⟩ := List.mem_map.mp hx
      have l : 0 < b.length := List.length_pos_iff.mpr (k.ne b hb)
      have hm : b.headD 0 ∈ b := by rw [mX]; exact cK l
      have hr := vI o k hb hm
      refine List.mem_filter.mpr ⟨List.mem_map.mpr ⟨(b.headD 0).toNat, List.mem_range.mpr (by omega), by omega⟩, iS.mpr fun y hy => ?_⟩
      rw [zf o k tk hb] at hy
      exact k.hd b hb y hy
  have : dP n Z = Bs := by
    unfold dP
    rw [hs, List.map_map]
    refine Eq.trans (List.map_congr_left fun b hb => zf o k tk hb) ?_
    simp
  unfold bz
  rw [this, k.fl]
end
noncomputable def jG (n : Nat) (xs : List Int) : List Int := ((List.range n).filter fun (i : Nat) => decide (gI xs i < (i : Int))).map fun (i : Nat) => (i : Int)
theorem oY {n : Nat} {os xs : List Int} (o : Ord n os) (t : Tk n os xs) {i : Nat} (hi : i < n) : gI xs (gI os i).toNat < gI os i ↔ (i + 1 < n /\ gI os (i + 1) < gI os i) := by
  rw [t.at' i hi]
  have p1 := qI os i i (Nat.le_refl _)
  have p2 := zH o i hi
  unfold nxI fW
  by_cases c : i + 1 < n
  · rw [if_pos c]
    by_cases c2 : pmx os i < gI os (i + 1)
    · rw [if_pos c2]; constructor
      · intro h; omega
      · intro h; omega
    · rw [if_neg c2]; constructor
      · intro h; exact ⟨c, h⟩
      · intro h; exact h.2
  · rw [if_neg c, if_pos (by omega)]; constructor
    · intro h; omega
    · intro h; omega
theorem rJ {n : Nat} {os xs : List Int} (o : Ord n os) (t : Tk n os xs) : (gR os).length = (jG n xs).length := by
  have F : ((jx os).map (gI os)).length = (gR os).length := by unfold gR; simp
  have inj : ∀ i j, i < n -> j < n -> gI os i = gI os j -> i = j := fun i j hi hj e => iA o.nd (by rw [o.len]; exact hi) (by rw [o.len]; exact hj) e
  have nd1 : ((jx os).map (gI os)).Nodup := by
    unfold jx
    refine List.pairwise_map.mpr ?_
    have : ((List.range (os.length - 1)).filter fun i => decide (gI os (i + 1) < gI os i)).Pairwise (· < ·) := List.Pairwise.filter _ List.pairwise_lt_range
    refine List.Pairwise.imp_of_mem (fun {a b} ha hb lt e => ?_) this
    have ha := List.mem_range.mp (List.mem_filter.mp ha).1
    have hb := List.mem_range.mp (List.mem_filter.mp hb).1
    rw [o.len] at ha hb
    have := inj a b (by omega) (by omega) e
    omega
  have nd2 : (jG n xs).Nodup := by
    unfold jG
    refine List.pairwise_map.mpr ?_
    have : ((List.range n).filter fun (i : Nat) => decide (gI xs i < (i : Int))).Pairwise (· < ·) := List.Pairwise.filter _ List.pairwise_lt_range
    exact this.imp fun h e => by omega
  have m : ∀ x, x ∈ (jx os).map (gI os) ↔ x ∈ jG n xs := fun x => by
    unfold jx jG
    constructor
    · intro hx
      obtain ⟨i, hi, rfl⟩ := List.mem_map.mp hx
      obtain ⟨a, b⟩ := List.mem_filter.mp hi
      have a := List.mem_range.mp a
      rw [o.len] at a
      have r := iW o (show i < n by omega)
      have d := (oY o t (show i < n by omega)).mpr ⟨by omega, of_decide_eq_true b⟩
      refine List.mem_map.mpr ⟨(gI os i).toNat, List.mem_filter.mpr ⟨List.mem_range.mpr (by omega), decide_eq_true (by omega)⟩, by omega⟩
    · intro hx
      obtain ⟨p, hp, rfl⟩ := List.mem_map.mp hx
      obtain ⟨a, b⟩ := List.mem_filter.mp hp
      have a := List.mem_range.mp a
      have b := of_decide_eq_true b
      obtain ⟨i, hi, e⟩ := yx o (j := (p : Int)) (by omega) (by omega)
      have ep : (gI os i).toNat = p := by omega
      have d := (oY o t hi).mp (by rw [ep, e]; exact b)
      refine List.mem_map.mpr ⟨i, List.mem_filter.mpr ⟨List.mem_range.mpr (by rw [o.len]; omega), decide_eq_true d.2⟩, e⟩
  rw [<- F]
  exact Nat.le_antisymm (len_sub _ _ nd1 fun x hx => (m x).mp hx) (len_sub _ _ nd2 fun x hx => (m x).mpr hx)
noncomputable def bkS (os : List Int) : Nat -> List (List Int) × List Int
  | 0 => ([], [gI os 0])
  | i + 1 => if pmx os i < gI os (i + 1) then ((bkS os i).1 ++ [(bkS os i).2], [gI os (i + 1)]) else ((bkS os i).1, (bkS os i).2 ++ [gI os (i + 1)])
structure BkP (os : List Int) (i : Nat) (I : List (List Int)) (l : List Int) : Prop where
  fl : I.flatten ++ l = os.take (i + 1)
  ne : ∀ b ∈ I, b ≠ []
  nl : l ≠ []
  hd : ∀ b ∈ I, ∀ x ∈ b, x <= b.headD 0
  hl : ∀ x ∈ l, x <= l.headD 0
  lh : l.headD 0 = pmx os i
  up : (I.map fun b => b.headD 0).Pairwise (· < ·)
  lt : ∀ b ∈ I, b.headD 0 < l.headD 0
theorem uq {os : List Int} {i : Nat} (h : i < os.length) : os.take (i + 1) = os.take i ++ [gI os i] := by
  rw [List.take_succ_eq_append_getElem h, bw h]
theorem AK {os : List Int} : ∀ i, i < os.length -> BkP os i (bkS os i).1 (bkS os i).2
  | 0, h => by
    refine ⟨?_, by simp [bkS], by simp [bkS], by simp [bkS], by simp [bkS], rfl, by simp [bkS], by simp [bkS]⟩
    rw [uq h]; simp [bkS]
  | i + 1, h => by
    have k := AK (os := os) i (by omega)
    unfold bkS
    generalize (bkS os i).1 = I at *
    generalize (bkS os i).2 = l at *
    by_cases c : pmx os i < gI os (i + 1)
    · rw [if_pos c]
      refine ⟨?_, fun b hb => ?_, by simp, fun b hb => ?_, by simp, ?_, ?_, fun b hb => ?_⟩
      · rw [uq h, <- k.fl]; simp
      · rcases List.mem_append.mp hb with z | z
        · exact k.ne b z
        · rw [List.mem_singleton] at z; subst z; exact k.nl
      · rcases List.mem_append.mp hb with z | z
        · exact k.hd b z
        · rw [List.mem_singleton] at z; subst z; exact k.hl
      · show gI os (i + 1) = pmx os (i + 1)
        rw [pmx]; omega
      · rw [List.map_append, List.pairwise_append]
        refine ⟨k.up, by simp, fun a ha b hb => ?_⟩
        obtain ⟨d, hd, rfl⟩ := List.mem_map.mp ha
        simp only [List.map_cons, List.map_nil, List.mem_singleton] at hb
        subst hb
        exact k.lt d hd
      · have lh := k.lh
        show b.headD 0 < gI os (i + 1)
        rcases List.mem_append.mp hb with z | z
        · have := k.lt b z; omega
        · rw [List.mem_singleton] at z; subst z; omega
    · rw [if_neg c]
      have nl := k.nl
      have hh : (l ++ [gI os (i + 1)]).headD 0 = l.headD 0 := by
        cases l with
        | nil => exact absurd rfl nl
        | cons a l => rfl
      have lh := k.lh
      refine ⟨?_, k.ne, by simp, k.hd, fun x hx => ?_, ?_, k.up, fun b hb => by rw [hh]; exact k.lt b hb⟩
      · rw [uq h, <- k.fl]; simp
      · rw [hh]
        rcases List.mem_append.mp hx with z | z
        · exact k.hl x z
        · rw [List.mem_singleton] at z; subst z; omega
      · show (l ++ [gI os (i + 1)]).headD 0 = pmx os (i + 1)
        rw [hh, pmx]; omega
noncomputable def bkL (os : List Int) : List (List Int) := (bkS os (os.length - 1)).1 ++ [(bkS os (os.length - 1)).2]
theorem uy {n : Nat} {os : List Int} (o : Ord n os) (h1 : 1 <= n) : Bks n os (bkL os) := by
  have hl := o.len
  have k := AK (os := os) (os.length - 1) (by omega)
  unfold bkL
  generalize (bkS os (os.length - 1)).1 = I at *
  generalize (bkS os (os.length - 1)).2 = l at *
  refine ⟨?_, fun b hb => ?_, fun b hb => ?_, ?_⟩
  · have := k.fl
    rw [show os.length - 1 + 1 = os.length by omega, List.take_length] at this
    rw [<- this]; simp
  · rcases List.mem_append.mp hb with z | z
    · exact k.ne b z
    · rw [List.mem_singleton] at z; subst z; exact k.nl
  · rcases List.mem_append.mp hb with z | z
    · exact k.hd b z
    · rw [List.mem_singleton] at z; subst z; exact k.hl
  · rw [List.map_append, List.pairwise_append]
    refine ⟨k.up, by simp, fun a ha b hb => ?_⟩
    obtain ⟨d, hd, rfl⟩ := List.mem_map.mp ha
    simp only [List.map_cons, List.map_nil, List.mem_singleton] at hb
    subst hb
    exact k.lt d hd
noncomputable def hpT (Bs : List (List Int)) : Hh := .lst ((List.range Bs.length).map fun j => D.ref (j + 1)) :: Bs.map fun b => O.lst (b.map D.int)
theorem F1 (Bs : List (List Int)) : aw (hpT Bs) 0 = some ((List.range Bs.length).map fun j => D.ref (j + 1)) := rfl
theorem yT (J : List (List Int)) (l : List Int) : aw (hpT (J ++ [l])) (J.length + 1) = some (l.map D.int) := by
  unfold aw hpT
  simp
theorem zG (J : List (List Int)) (l : List Int) : dIx (.ref 0) (.int (-1)) (hpT (J ++ [l])) = .ok (.ref (J.length + 1)) (hpT (J ++ [l])) := by
  rw [jP (F1 _), List.length_append, List.length_singleton, List.range_succ, List.map_append, List.map_cons, List.map_nil]
  have : ixN (((List.range J.length).map fun j => D.ref (j + 1)) ++ [D.ref (J.length + 1)]).length (-1) = some J.length := by
    rw [List.length_append]; unfold ixN; simp; omega
  unfold ixK atI
  rw [this]
  simp
theorem uH (J : List (List Int)) (l : List Int) (x : Int) (hl : l.length < 1000) : bE (.ref (J.length + 1)) [.int x] (hpT (J ++ [l])) = .ok .non (hpT (J ++ [l ++ [x]])) := by
  rw [mJ (yT J l), if_pos (by rw [List.length_map]; omega)]
  congr 1
  unfold hpT
  simp [List.set_append_right]
theorem BY (Bs : List (List Int)) (hb : Bs.length < 1000) : bE (.ref 0) [.ref (Bs.length + 1)] (hpT Bs ++ [.lst []]) = .ok .non (hpT (Bs ++ [[]])) := by
  have e : aw (hpT Bs ++ [.lst []]) 0 = some ((List.range Bs.length).map fun j => D.ref (j + 1)) := rfl
  rw [mJ e, if_pos (by simp; omega)]
  congr 1
  unfold hpT
  simp [List.range_succ]
theorem Bu (Bs : List (List Int)) : (hpT Bs).length = Bs.length + 1 := by simp [hpT]
noncomputable def LT1 : MS := (aB (cT (aM asB (au dEq (ag 3) (ah jX (aa (cA aF (ag 0) b8 (di (au (cL aF) (ag 2) (cC (.int 1))))) ai)))) (cb (cz bE (ag 1) (aa (ah (bT eT) ai) ai))) bH)
    (cb (cz bE (au dIx (ag 1) (cUn eL (cC (.int 1)))) (aa (ag 3) ai))))
theorem Ax {os : List Int} {i : Nat} {x : Int} {Bs : List (List Int)} {y4 y5 y6 : Option D} (hi : i < os.length) (hb : Bs.length < 1000) (e : fA (os.take (i + 1)) = x) : LT1 [some (.tup (os.map D.int)), some (.ref 0), some (.int i), some (.int x), y4, y5, y6] (hpT Bs) = .ok (.nx [some (.tup (os.map D.int)), some (.ref 0), some (.int i), some (.int x), y4, y5, y6]) (hpT (Bs ++ [[x]])) := by
  have ct : iO os none (some ((i : Int) + 1)) = os.take (i + 1) := lP os (i + 1)
  have cd : cutD (os.map D.int) none (some ((i : Int) + 1)) = (os.take (i + 1)).map D.int := by rw [fq, ct]
  have mx := x_ (ns := os.take (i + 1)) (h := hpT Bs) (by simp; omega)
  rw [e] at mx
  have a1 := BY Bs hb
  have a2 := zG Bs []
  have a3 := uH Bs [] x (by simp)
  have l1 : isL (.ref 0) (hpT Bs) = true := rfl
  have l2 : isL (.ref (Bs.length + 1)) (hpT (Bs ++ [[]])) = true := mL (yT Bs [])
  have hl := Bu Bs
  rw [List.nil_append] at a3
  generalize hpT (Bs ++ [[]]) = H2 at *
  generalize hpT (Bs ++ [[x]]) = H3 at *
  generalize hpT Bs = H1 at *
  simp [-List.map_take, LT1, cd, mx, l1, hl, a1, a2, l2, a3]
theorem Et {os : List Int} {i : Nat} {x : Int} {J : List (List Int)} {l : List Int} {y4 y5 y6 : Option D} (hi : i < os.length) (hb : l.length < 1000) (e : fA (os.take (i + 1)) ≠ x) : LT1 [some (.tup (os.map D.int)), some (.ref 0), some (.int i), some (.int x), y4, y5, y6] (hpT (J ++ [l])) = .ok (.nx [some (.tup (os.map D.int)), some (.ref 0), some (.int i), some (.int x), y4, y5, y6]) (hpT (J ++ [l ++ [x]])) := by
  have ct : iO os none (some ((i : Int) + 1)) = os.take (i + 1) := lP os (i + 1)
  have cd : cutD (os.map D.int) none (some ((i : Int) + 1)) = (os.take (i + 1)).map D.int := by rw [fq, ct]
  have mx := x_ (ns := os.take (i + 1)) (h := hpT (J ++ [l])) (by simp; omega)
  have a2 := zG J l
  have a3 := uH J l x hb
  have l2 : isL (.ref (J.length + 1)) (hpT (J ++ [l])) = true := mL (yT J l)
  have e' : ¬ x = fA (os.take (i + 1)) := fun z => e z.symm
  generalize hpT (J ++ [l ++ [x]]) = H3 at *
  generalize hpT (J ++ [l]) = H1 at *
  simp [-List.map_take, LT1, cd, mx, e', a2, l2, a3]
theorem Bq {os : List Int} {i : Nat} (hi : i < os.length) : fA (os.take (i + 1)) = pmx os i := by
  have ln : (os.take (i + 1)).length = i + 1 := by simp; omega
  have g : ∀ k, k <= i -> gI (os.take (i + 1)) k = gI os k := fun k hk => by
    rw [bw (by omega), bw (by omega), List.getElem_take]
  refine Int.le_antisymm ?_ ?_
  · obtain ⟨k, hk, e⟩ := List.getElem_of_mem (max_mem (ns := os.take (i + 1)) (by omega))
    rw [<- e, <- bw hk, g k (by omega)]
    exact qI os i k (by omega)
  · obtain ⟨k, hk, e⟩ := lH os i
    rw [<- e, <- g k hk]
    exact le_max (cK (by omega))
theorem AI (os : List Int) : ∀ i, (bkS os i).1.length <= i /\ (bkS os i).2.length <= i + 1
  | 0 => by simp [bkS]
  | i + 1 => by
    have := AI os i
    unfold bkS
    by_cases c : pmx os i < gI os (i + 1)
    · rw [if_pos c]; simp; omega
    · rw [if_neg c]; simp; omega
noncomputable def bkT (os : List Int) : Nat -> List (List Int)
  | 0 => []
  | i + 1 => (bkS os i).1 ++ [(bkS os i).2]
theorem Ec (os : List Int) : eh (os.map D.int) = (List.range' 0 os.length).map fun (i : Nat) => D.tup [.int i, .int (gI os i)] := by
  unfold eh
  rw [List.length_map, List.range_eq_range']
  refine List.map_congr_left fun i hi => ?_
  have l : i < os.length := by
    have := List.mem_range'_1.mp hi; omega
  rw [List.getD_eq_getElem?_getD, List.getElem?_map, List.getElem?_eq_getElem l, bw l]; rfl
theorem BR {n : Nat} {os : List Int} (o : Ord n os) (hn : n <= 20) : ∃ y2 y3, dJ (gT2 2 3) LT1 (eh (os.map D.int)) [some (.tup (os.map D.int)), some (.ref 0), none, none, none, none, none] (hpT []) = .ok (.nx [some (.tup (os.map D.int)), some (.ref 0), y2, y3, none, none, none]) (hpT (bkT os n)) := by
  have hl := o.len
  obtain ⟨s, q, e⟩ := qV (σ := List (List Int) × Option D × Option D) (tg := gT2 2 3) (body := LT1) (fun (i : Nat) => D.tup [.int i, .int (gI os i)]) n (fun s => [some (.tup (os.map D.int)), some (.ref 0), s.2.1, s.2.2, none, none, none]) (fun s => hpT s.1) (fun i s => s.1 = bkT os i) (fun i s hi hs => by
    obtain ⟨Bs, y2, y3⟩ := s
    dsimp only at hs
    subst hs
    refine ⟨(bkT os (i + 1), some (.int i), some (.int (gI os i))), rfl, ?_⟩
    dsimp only
    rw [Fy, ba]
    simp only [List.set]
    have mp := Bq (os := os) (i := i) (by omega)
    cases i with
    | zero => exact Ax (Bs := []) (by omega) (by simp) mp
    | succ i =>
      have bl := AI os i
      show LT1 _ (hpT ((bkS os i).1 ++ [(bkS os i).2])) = .ok _ (hpT ((bkS os (i + 1)).1 ++ [(bkS os (i + 1)).2]))
      by_cases c : pmx os i < gI os (i + 1)
      · have e1 : bkS os (i + 1) = ((bkS os i).1 ++ [(bkS os i).2], [gI os (i + 1)]) := if_pos c
        rw [e1]
        refine Ax (by omega) (by simp; omega) ?_
        rw [mp, pmx]; omega
      · have e1 : bkS os (i + 1) = ((bkS os i).1, (bkS os i).2 ++ [gI os (i + 1)]) := if_neg c
        rw [e1]
        refine Et (by omega) (by omega) ?_
        rw [mp, pmx]
        intro z
        obtain ⟨k, hk, ek⟩ := lH os i
        have := iA o.nd (i := k) (j := i + 1) (by omega) (by omega) (by omega)
        omega) n 0 ([], none, none) (by omega) rfl
  obtain ⟨Bs, y2, y3⟩ := s
  dsimp only at e q
  subst e
  refine ⟨y2, y3, ?_⟩
  rw [Ec, hl]
  exact q
theorem Gi {n : Nat} {os : List Int} (o : Ord n os) (h1 : 1 <= n) : bkT os n = bkL os := by
  have hl := o.len
  obtain ⟨m, rfl⟩ : ∃ m, n = m + 1 := ⟨n - 1, by omega⟩
  unfold bkL
  rw [show os.length - 1 = m by omega]
  rfl
noncomputable def kix (b : List Int) (j : Nat) : Nat := if j = 0 then b.length - 1 else j - 1
theorem l6 {b : List Int} {j : Nat} (h : j < b.length) : kix b j < b.length := by unfold kix; split <;> omega
theorem Bo {b : List Int} {i j : Nat} (hi : i < b.length) (hj : j < b.length) (e : kix b i = kix b j) : i = j := by
  unfold kix at e; split at e <;> split at e <;> omega
theorem Eo {b : List Int} {j : Nat} {h : Hh} (hj : j < b.length) : ixK (b.map D.int) ((j : Int) - 1) h = .ok (.int (gI b (kix b j))) h := by
  have e : ixN (b.map D.int).length ((j : Int) - 1) = some (kix b j) := by
    rw [List.length_map]
    unfold kix
    by_cases c : j = 0
    · subst c
      rw [if_pos rfl]
      unfold ixN
      rw [if_neg (by omega), if_pos (by omega)]
      congr 1; omega
    · rw [if_neg c]; exact lL (by omega) (by omega)
  refine xU ?_
  unfold atI
  rw [e]
  simp [bw (l6 hj), List.getElem?_eq_getElem (l6 hj)]
theorem xD {Bs : List (List Int)} {r : Nat} {b : List Int} {t : Hh} (e : Bs[r]? = some b) : aw (hpT Bs ++ t) (r + 1) = some (b.map D.int) := by
  have hr : r < Bs.length := (List.getElem?_eq_some_iff.mp e).1
  unfold aw hpT
  rw [List.cons_append, List.getElem?_cons_succ, List.getElem?_append_left (by simpa using hr), List.getElem?_map, e]
  rfl
noncomputable def LT2 : MS := (eE df (ag 4) (au dIx (ag 5) (au kQ (ag 6) (cC (.int 1)))) (ag 3))
theorem yg {n r : Nat} {os Z b : List Int} {Bs : List (List Int)} {y2 y3 y6 : Option D} (eb : Bs[r]? = some b) (nd : b.Nodup) (lo : ∀ x ∈ b, 0 <= x /\ x < n) (zl : Z.length = n) : ∃ Z' y3' y6', Z'.length = n /\ (∀ j, j < b.length -> gI Z' (gI b j).toNat = cyc b j) /\ (∀ x : Int, 0 <= x -> x < n -> x ∉ b -> gI Z' x.toNat = gI Z x.toNat) ∧
    f_ (Src.liveE (r + 1)).rdr (gT2 6 3) LT2 b.length 0 [some (.tup (os.map D.int)), some (.ref 0), y2, y3, some (.ref (hpT Bs).length), some (.ref (r + 1)), y6] (hpT Bs ++ [.lst (Z.map D.int)]) = .ok (.nx [some (.tup (os.map D.int)), some (.ref 0), y2, y3', some (.ref (hpT Bs).length), some (.ref (r + 1)), y6']) (hpT Bs ++ [.lst (Z'.map D.int)]) := by
  have rd : ∀ t : Hh, aw (hpT Bs ++ t) (r + 1) = some (b.map D.int) := fun t => xD eb
  obtain ⟨s, q, e⟩ := uZ (σ := List Int × Option D × Option D) (rd := (Src.liveE (r + 1)).rdr) (tg := gT2 6 3) (body := LT2) (fun j => D.tup [.int j, .int (gI b j)]) b.length (fun s => [some (.tup (os.map D.int)), some (.ref 0), y2, s.2.1, some (.ref (hpT Bs).length), some (.ref (r + 1)), s.2.2]) (fun s => hpT Bs ++ [.lst (s.1.map D.int)]) (fun j s => s.1.length = n /\ (∀ t, t < j -> gI s.1 (gI b (kix b t)).toNat = gI b t) /\ (∀ x : Int, 0 <= x -> x < n -> x ∉ b -> gI s.1 x.toNat = gI Z x.toNat))
    (fun s j hj => by simp [Src.rdr, rd, bw hj, List.getElem?_eq_getElem hj]) (fun s => by simp [Src.rdr, rd]) (fun j s hj hs => by
      obtain ⟨Y, y3, y6⟩ := s
      obtain ⟨yl, hv, hk⟩ := hs
      dsimp only at yl hv hk ⊢
      have kl := l6 hj
      have r := lo _ (cK kl)
      obtain ⟨p, hp⟩ : ∃ p : Nat, gI b (kix b j) = (p : Int) := ⟨(gI b (kix b j)).toNat, by omega⟩
      have pl : p < Y.length := by omega
      have st : df (.ref (hpT Bs).length) (.int (p : Int)) (.int (gI b j)) (hpT Bs ++ [.lst (Y.map D.int)]) = .ok () (hpT Bs ++ [.lst ((Y.set p (gI b j)).map D.int)]) := by
        rw [j0 cX (show ixN (Y.map D.int).length (p : Int) = some p from by rw [List.length_map]; exact lL rfl pl), gK, List.map_set]
      refine ⟨(Y.set p (gI b j), some (.int (gI b j)), some (.int j)), ⟨by simp [yl], fun t ht => ?_, fun x h0 h1 hx => ?_⟩, ?_⟩
      · dsimp only
        have rt := lo _ (cK (l6 (b := b) (j := t) (by omega)))
        rw [ua (by omega)]
        by_cases c : t = j
        · subst c
          rw [if_pos (by omega)]
        · have ne : ¬ gI b (kix b t) = gI b (kix b j) := fun z => c (Bo (by omega) hj (iA nd (l6 (by omega)) kl z))
          rw [if_neg (by omega)]
          exact hv t (by omega)
      · dsimp only
        have ne : ¬ x = gI b (kix b j) := fun z => hx (by rw [z]; exact cK kl)
        rw [ua (by omega), if_neg (by omega)]
        exact hk x h0 h1 hx
      · dsimp only
        have ix := jP (h := hpT Bs ++ [.lst (Y.map D.int)]) (i := (j : Int) - 1) (rd _)
        rw [Eo hj, hp] at ix
        generalize hpT Bs = H at *
        simp [LT2, ix, st]) b.length 0 (Z, y3, y6) (by omega) ⟨zl, fun t ht => by omega, fun _ _ _ _ => rfl⟩
  obtain ⟨Z', y3', y6'⟩ := s
  obtain ⟨zl', hv, hk⟩ := e
  dsimp only at zl' hv hk q
  refine ⟨Z', y3', y6', zl', fun j hj => ?_, hk, q⟩
  unfold cyc
  by_cases c : j + 1 < b.length
  · rw [if_pos c]
    have := hv (j + 1) c
    have k : kix b (j + 1) = j := by unfold kix; rw [if_neg (by omega)]; omega
    rw [k] at this
    exact this
  · rw [if_neg c]
    have := hv 0 (by omega)
    have k : kix b 0 = j := by unfold kix; rw [if_pos rfl]; omega
    rw [k] at this
    rw [this]
    cases b <;> rfl
noncomputable def LT3 : MS := dg (fC (ag 5)) (gT2 6 3) LT2
theorem Aw {n : Nat} {os : List Int} {Bs : List (List Int)} {y2 y3 : Option D} (o : Ord n os) (k : Bks n os Bs) : ∃ Z y3' y5' y6', Tk n os Z /\ f_ (Src.live 0).rdr (gN 5) LT3 Bs.length 0 [some (.tup (os.map D.int)), some (.ref 0), y2, y3, some (.ref (hpT Bs).length), none, none] (hpT Bs ++ [.lst (List.replicate n (.int 0))]) = .ok (.nx [some (.tup (os.map D.int)), some (.ref 0), y2, y3', some (.ref (hpT Bs).length), y5', y6']) (hpT Bs ++ [.lst (Z.map D.int)]) := by
  have rd : ∀ t : Hh, aw (hpT Bs ++ t) 0 = some ((List.range Bs.length).map fun j => D.ref (j + 1)) := fun t => rfl
  have pw := o.nd
  rw [<- k.fl] at pw
  obtain ⟨nds, dj⟩ := List.pairwise_flatten.mp pw
  have ins : ∀ b ∈ Bs, ∀ x ∈ b, 0 <= x /\ x < n := fun b hb x hx => by
    have : x ∈ os := by rw [<- k.fl]; exact List.mem_flatten.mpr ⟨b, hb, hx⟩
    exact ⟨o.lo x this, o.hi x this⟩
  obtain ⟨s, q, e⟩ := uZ (σ := List Int × Option D × Option D × Option D) (rd := (Src.live 0).rdr) (tg := gN 5) (body := LT3) (fun j => D.ref (j + 1)) Bs.length (fun s => [some (.tup (os.map D.int)), some (.ref 0), y2, s.2.1, some (.ref (hpT Bs).length), s.2.2.1, s.2.2.2]) (fun s => hpT Bs ++ [.lst (s.1.map D.int)]) (fun i s => s.1.length = n /\ ∀ r b, r < i -> Bs[r]? = some b -> ∀ j, j < b.length -> gI s.1 (gI b j).toNat = cyc b j)
    (fun s j hj => by simp [Src.rdr, rd, hj]) (fun s => by simp [Src.rdr, rd]) (fun i s hi hs => by
      obtain ⟨Y, y3, y5, y6⟩ := s
      obtain ⟨yl, hv⟩ := hs
      dsimp only at yl hv ⊢
      have eb : Bs[i]? = some Bs[i] := List.getElem?_eq_getElem hi
      have bm : Bs[i] ∈ Bs := List.getElem_mem hi
      obtain ⟨Z, z3, z6, zl, zc, zk, q⟩ := yg (n := n) (r := i) (os := os) (Z := Y) (y2 := y2) (y3 := y3) (y6 := y6) eb (nds _ bm) (ins _ bm) yl
      refine ⟨(Z, z3, some (.ref (i + 1)), z6), ⟨zl, fun r b hr er j hj => ?_⟩, ?_⟩
      · dsimp only
        by_cases c : r = i
        · subst c
          rw [eb] at er; cases er
          exact zc j hj
        · obtain ⟨rl, er'⟩ := List.getElem?_eq_some_iff.mp er
          have mj := cK (ns := b) hj
          have hb : b ∈ Bs := List.mem_of_getElem? er
          have r2 := ins b hb _ mj
          rw [zk _ r2.1 r2.2 (fun z => by
            have d := List.pairwise_iff_getElem.mp dj r i rl hi (by omega)
            rw [er'] at d
            exact d _ mj _ z rfl)]
          exact hv r b (by omega) er j hj
      · dsimp only
        have rb : aw (hpT Bs ++ [.lst (Y.map D.int)]) (i + 1) = some (Bs[i].map D.int) := xD eb
        have en : o8 (.ref (i + 1)) (hpT Bs ++ [.lst (Y.map D.int)]) = .ok (.liveE (i + 1)) (hpT Bs ++ [.lst (Y.map D.int)]) := by simp only [o8, rb]
        rw [wU, ba]
        simp only [List.set]
        show dg (fC (ag 5)) (gT2 6 3) LT2 _ _ = _
        rw [FX]
        have mi : fC (ag 5) [some (.tup (os.map D.int)), some (.ref 0), y2, y3, some (.ref (hpT Bs).length), some (.ref (i + 1)), y6] (hpT Bs ++ [.lst (Y.map D.int)]) = .ok (.liveE (i + 1)) (hpT Bs ++ [.lst (Y.map D.int)]) := en
        rw [mi, ba]
        show f_ (Src.liveE (i + 1)).rdr (gT2 6 3) LT2 ((aw (hpT Bs ++ [.lst (Y.map D.int)]) (i + 1)).getD []).length 0 _ _ = _
        rw [rb, Option.getD_some, List.length_map]
        exact q) Bs.length 0 (List.replicate n 0, y3, none, none) (by omega) ⟨by simp, fun r b hr => by omega⟩
  obtain ⟨Z, y3', y5', y6'⟩ := s
  obtain ⟨zl, hv⟩ := e
  dsimp only at zl hv q
  refine ⟨Z, y3', y5', y6', (tO o k).mpr ⟨zl, fun b hb j hj => ?_⟩, ?_⟩
  · obtain ⟨r, hr, er⟩ := List.getElem_of_mem hb
    exact hv r b hr (by rw [List.getElem?_eq_getElem hr, er]) j hj
  · rw [List.map_replicate] at q
    exact q
theorem zd {n : Nat} {os : List Int} {h : Hh} (o : Ord n os) (h1 : 1 <= n) (hn : n <= 20) : ∃ Z, Tk n os Z /\ bF [.tup (os.map D.int)] h = .ok (.tup (Z.map D.int)) h := by
  obtain ⟨y2, y3, q1⟩ := BR o hn
  rw [Gi o h1] at q1
  obtain ⟨Z, z3, z5, z6, tk, q2⟩ := Aw (y2 := y2) (y3 := y3) o (uy o h1)
  refine ⟨Z, tk, ?_⟩
  generalize bkL os = Bs at *
  have hl := o.len
  have ex : bx [] (.tup (Z.map D.int)) (hpT Bs ++ [.lst (Z.map D.int)]) = .ok (.tup (Z.map D.int)) [] := by
    have := bI (h := []) (t := hpT Bs ++ [.lst (Z.map D.int)]) (d := .tup (Z.map D.int)) Wf.nil (by simp [deep])
    simpa using this
  have e : bF = jk (fun ds h => ((cf 7 (aB (bq 1 (ah (bT eT) ai)) (aB (dg (fC (ag 0)) (gT2 2 3) LT1)
    (aB (bq 4 (au (jC eT) (ah (bT aF) (aa (cC (.int 0)) ai)) (ah bR (aa (ag 0) ai))))
    (aB (dg (dm (ag 1)) (gN 5) LT3)
    (bj (ah a8 (aa (ag 4) ai)))))))) ds h).bind (bx h)) := rfl
  have lo1 : bP 0 [.tup (os.map D.int)] = true := by simp [bP, dR]
  have lo2 : dR 0 (.tup (Z.map D.int)) = true := by simp [dR]
  have z1 : n <= 1000000 := by omega
  have z4 : 1 <= (n : Int) := by omega
  have sk : DI (gN 5) LT3 [some (.tup (os.map D.int)), some (.ref 0), y2, y3, some (.ref (hpT Bs).length), none, none] (.live 0) (hpT Bs ++ [.lst (List.replicate n (.int 0))]) = .ok (.nx [some (.tup (os.map D.int)), some (.ref 0), y2, z3, some (.ref (hpT Bs).length), z5, z6]) (hpT Bs ++ [.lst (Z.map D.int)]) := by
    show f_ (Src.live 0).rdr (gN 5) LT3 ((aw (hpT Bs ++ [.lst (List.replicate n (.int 0))]) 0).getD []).length 0 _ _ = _
    have : aw (hpT Bs ++ [.lst (List.replicate n (.int 0))]) 0 = some ((List.range Bs.length).map fun j => D.ref (j + 1)) := rfl
    rw [this, Option.getD_some, List.length_map, List.length_range]
    exact q2
  have sq : wH (.ref 0) (hpT Bs ++ [.lst (List.replicate n (.int 0))]) = .ok (.live 0) (hpT Bs ++ [.lst (List.replicate n (.int 0))]) := rfl
  have tu : a8 [.ref (hpT Bs).length] (hpT Bs ++ [.lst (Z.map D.int)]) = .ok (.tup (Z.map D.int)) (hpT Bs ++ [.lst (Z.map D.int)]) := by simp [a8, hX]
  have h0 : hpT [] = [.lst []] := rfl
  have nw : eT [] [] = .ok (.ref 0) [O.lst []] := rfl
  rw [h0] at q1
  rw [e]
  generalize hpT Bs = H at *
  generalize Z.map D.int = ZD at *
  simp [jk, lo1, br, nw, hl, q1, z1, z4, sq, sk, tu, ex, lo2]
noncomputable def B0 : MS := (cT (aM asB (au dNe (eg aF (iq jW (aa (cC (.int 5)) ai)) [9] tt1 (ah aI (aa (ag 0) (aa (ag 1) ai)))) (au (jC aF) (ah (bT aF) (aa (ah fQ (aa (cC (.str "order")) ai)) ai)) (cC (.int 5))))) (bj (cC (.bl false))) bH)
noncomputable def B1 : MS := (aB (bq 2 (ah b9 (aa (ag 1) ai))) (aB (qY 3 4 (aa (ah aD (aa (ag 2) (aa (cC (.int 5)) ai))) (aa (au (cL aF) (cC (.int 1)) (ah aD (aa (ag 2) (aa (cC (.int 20)) ai)))) ai))) (aB (qY 5 6 (aa (ah aD (aa (ag 2) (aa (ag 4) ai))) (aa (au dIx (ah (bT aF) (aa (au (cL aF) (ag 4) (cC (.int 1))) (aa (cUn eL (cC (.int 1))) (aa (cC (.bl true)) (aa (cC .non) (aa (cC (.str "0")) (aa (ah (bT aF) (aa (cC (.int 0)) ai)) (aa (cC .edic) (aa (ah fQ (aa (cC (.int 0)) ai)) ai))))))))) (ah aD (aa (ag 2) (aa (cC (.int 8)) ai)))) ai))) (aB (bq 7 (ah bW (aa (ag 2) (aa (ag 4) ai)))) (aB (cT (aM asB (au dLt (ag 3) (cC (.int 2)))) (bq 7 (au dIx (ah (bT aF) (aa (ah fG (aa (ag 4) ai)) (aa (cUn (g_ aF) (ah fG (aa (ag 4) ai))) ai))) (ag 3))) bH) (aB (bq 8 (ah (bT aF) (aa (ah cQ (aa (ag 7) ai)) (aa (ah bF (aa (ag 7) ai)) ai)))) (aB (cT (aM asB (au dNe (ah jZ (aa (eg aF (iq jW (aa (cC (.int 2)) ai)) [7] tt1 (ah aI (aa (ag 0) (aa (ag 1) ai)))) ai)) (ah jZ (aa (ag 8) ai)))) (bj (cC (.bl false))) bH) (aB (cT (r_ (aM asB (au dNe (ah aI (aa (cC (.int 1)) (aa (ah fV (aa (ag 7) ai)) ai))) (ag 7))) (aM asB (au dNe (ah aI (aa (cC (.int 0)) (aa (ah dw (aa (ag 7) ai)) ai))) (ag 7)))) (bj (cC (.bl false))) bH) (aB (cT (aM asB (au dNe (ah bR (aa (ah cx (aa (ah fV (aa (ag 7) ai)) ai)) ai)) (ah bR (aa (ah dB (aa (ag 7) ai)) ai)))) (bj (cC (.bl false))) bH) (dg (dm (ah (bT aF) (aa (au (cL aF) (au (cL aF) (cA aF (ag 7) b8 (di (ag 5))) (ah fQ (aa (ag 6) ai))) (cA aF (ag 7) (di (ag 5)) b8)) (aa (ah (dList aF) (aa (ag 7) ai)) (aa (ah fQ ai) (aa (cC .non) (aa (ah fG (aa (cC (.int 21)) ai)) (aa (au (cL aF) (ag 7) (cA aF (ag 7) b8 (di (cC (.int 1))))) ai)))))))) (gN 9) B0))))))))))
theorem yG : lU = fun ds h => ((cf 10 (aB (dg (dm (au (cL aF) (ah (bT aF) (aa (ah bM (aa (ag 0) (aa (cC (.int 0)) ai))) ai)) (cA aF (ag 0) (di (cC (.int 1))) (di (cC (.int 5)))))) (gN 1) B1) (bj (cC (.bl true))))) ds h).bind (bx h) := rfl
noncomputable def Aj : Prop := ∀ (ns : List Int) (c : Int) (y2 y3 y4 y5 y6 y7 y8 y9 : Option D) (h : Hh), Wf h -> Ok (B1 [some (.scr (ns.map D.int)), some (.int c), y2, y3, y4, y5, y6, y7, y8, y9] h) fun fl h2 => ∃ z2 z3 z4 z5 z6 z7 z8 z9, fl = .nx [some (.scr (ns.map D.int)), some (.int c), z2, z3, z4, z5, z6, z7, z8, z9] /\ Wf h2
theorem E8 (step : Aj) (ns : List Int) (hl : ns.length <= 63) : ∃ h, lU [.scr (ns.map D.int)] [] = .ok (.bl true) h := by
  have key : Ok (dJ (gN 1) B1 (((ns.headD 0) :: iO ns (some 1) (some 5)).map D.int) [some (.scr (ns.map D.int)), none, none, none, none, none, none, none, none, none] []) fun fl h2 => (∃ e, fl = .nx e) /\ Wf h2 := by
    refine qg D.int (fun e h => (∃ y1 y2 y3 y4 y5 y6 y7 y8 y9, e = [some (.scr (ns.map D.int)), y1, y2, y3, y4, y5, y6, y7, y8, y9]) /\ Wf h) _ _ _ ⟨⟨_, _, _, _, _, _, _, _, _, rfl⟩, Wf.nil⟩ (fun x e h _ ⟨⟨y1, y2, y3, y4, y5, y6, y7, y8, y9, e1⟩, w⟩ => ?_) (fun e h ⟨_, w⟩ => ⟨⟨_, rfl⟩, w⟩)
    subst e1
    simp only [wU, ba, List.set]
    refine (step ns x y2 y3 y4 y5 y6 y7 y8 y9 h w).mono fun fl h2 ⟨z2, z3, z4, z5, z6, z7, z8, z9, e2, w2⟩ => ?_
    subst e2
    exact ⟨⟨_, _, _, _, _, _, _, _, _, rfl⟩, w2⟩
  obtain ⟨fl, h2, e, ⟨e', rfl⟩, w⟩ := key
  have cl := A7 ns (some 1) (some 5)
  have c1 : 1 + (iO ns (some 1) (some 5)).length <= 1000000 := by omega
  have ex : bx [] (.bl true) h2 = .ok (.bl true) [] := by
    have := bI (h := []) (t := h2) (d := .bl true) Wf.nil rfl
    simpa using this
  refine ⟨[], ?_⟩
  have e2 : dJ (gN 1) B1 (D.int (ns.headD 0) :: (iO ns (some 1) (some 5)).map D.int) [some (.scr (ns.map D.int)), none, none, none, none, none, none, none, none, none] [] = .ok (.nx e') h2 := e
  rw [yG]
  simp [br, xn, c1, e2, ex, -List.headD_eq_head?_getD]
noncomputable def TB : MS := (bj (ny eJ (up (au dIx (ah (bT aF) (aa (cC (.fn "laid")) (aa (cC (.fn "taken_up")) (aa (cC (.fn "rounds_of")) (aa (cC (.fn "lifts_of")) (aa (cC (.fn "drops_of")) ai)))))) (ag 0))) (aa (up (ag 1)) ai)))
theorem vv : aI = cf 3 (qU TB bN) := rfl
noncomputable abbrev XO : Xc := ⟨"NoOrder", []⟩
theorem ip {d0 d1 : D} {h : Hh} (wf : Wf h) (e : TB [some d0, some d1, none] h = .err XO h) : aI [d0, d1] h = .ok TOr h := by
  have q := Dm (mr := bN) wf e (by decide) HX
  rw [vv]; simp [br, q]
theorem uM {d0 d1 d : D} {h : Hh} (e : TB [some d0, some d1, none] h = .ok (.rt d) h) : aI [d0, d1] h = .ok d h := by
  have q := D6 (mr := bN) e
  rw [vv]; simp [br, q]
theorem zL {d1 d : D} {h : Hh} (e : ft [d1] h = .ok d h) : aI [.int 0, d1] h = .ok d h := uM (by simp [TB, gy (tab := eJ) (x := "laid") (m := ft) (h1 := h), e])
theorem zY {d1 d : D} {h : Hh} (e : bJ [d1] h = .ok d h) : aI [.int 1, d1] h = .ok d h := uM (by simp [TB, gy (tab := eJ) (x := "taken_up") (m := bJ) (h1 := h), e])
section
variable {d : D} {h : Hh} (t : Th d) (w : Wf h) (c : ogD d = false)
include t w c
theorem FN : bu [d] h = .err XO h := by simp [bu, br, pI t w c]
theorem HV : ft [d] h = .err XO h := by simp [ft, br, gT, FN t w c]
theorem HG : bJ [d] h = .err XO h := by simp [bJ, br, pI t w c]
theorem Hu : dz [d] h = .err XO h := by simp [dz, br, pI t w c]
theorem HF : dv [d] h = .err XO h := by simp [dv, br, pI t w c]
theorem DT (k : Nat) (hk : k < 5) : aI [.int (0 + (k : Int)), d] h = .ok TOr h := by
  match k, hk with
  | 0, _ => exact ip w (by simp [TB, gy (tab := eJ) (x := "laid") (m := ft) (h1 := h), HV t w c])
  | 1, _ => exact ip w (by simp [TB, gy (tab := eJ) (x := "taken_up") (m := bJ) (h1 := h), HG t w c])
  | 2, _ => exact ip w (by simp [TB, gy (tab := eJ) (x := "rounds_of") (m := bu) (h1 := h), FN t w c])
  | 3, _ => exact ip w (by simp [TB, gy (tab := eJ) (x := "lifts_of") (m := dz) (h1 := h), Hu t w c])
  | 4, _ => exact ip w (by simp [TB, gy (tab := eJ) (x := "drops_of") (m := dv) (h1 := h), HF t w c])
theorem Ia : dD tt1 (ah aI (aa (ag 0) (aa (ag 1) ai))) (fun x => [some x, some d]) (bS 0 5) h = .ok [TOr, TOr, TOr, TOr, TOr] h := by
  unfold bS
  rw [zD (fun (i : Nat) => D.int (0 + i)) (fun _ => TOr) (List.range 5) (fun i hi => by
    have := DT t w c i (List.mem_range.mp hi)
    rw [Int.zero_add] at this
    simp [this])]
  rfl
end
theorem Io {h : Hh} : dNe (.frl [TOr, TOr, TOr, TOr, TOr]) (.frl [TOr, TOr, TOr, TOr, TOr]) h = .ok (.bl false) h := by kernel_rfl
structure Bd (d : D) : Prop where
  th : Th d
  og : ogD d = false
theorem lK {n : Nat} {xs : List Int} (o : Ord n xs) (h2 : n <= 20) : ∀ x ∈ xs, sml x = true := fun x hx => B8 (o.lo x hx) (by have := o.hi x hx; omega)
theorem x9 {a b i : Int} (h : ¬ (a <= i /\ i <= b)) : inR a b (.int i) = false := decide_eq_false h
noncomputable def wrs (n : Nat) : List D := [.int ((n : Int) + 1), .int (-1), .bl true, .non, .str "0", .frl [.int 0], .edic, .tup [.int 0]]
theorem D3 {n : Nat} (h1 : 1 <= n) (h2 : n <= 20) : ∀ d ∈ wrs n, BI d /\ inR 0 (((n + 1 : Nat) : Int) - 1) d = false := by
  intro d hd
  simp only [wrs, List.mem_cons, List.not_mem_nil, or_false] at hd
  rcases hd with rfl | rfl | rfl | rfl | rfl | rfl | rfl | rfl
  · exact ⟨rfl, x9 (by omega)⟩
  · exact ⟨rfl, x9 (by omega)⟩
  · exact ⟨rfl, rfl⟩
  · exact ⟨rfl, rfl⟩
  · exact ⟨rfl, rfl⟩
  · exact ⟨rfl, rfl⟩
  · exact ⟨rfl, rfl⟩
  · exact ⟨rfl, rfl⟩
noncomputable def som (b : D) (xs : List Int) : List D := [b, .frl (xs.map D.int), .tup [], .non, .tup (bS 0 21), .tup (xs.map D.int ++ [.int (gI xs 0)])]
theorem Ck {n : Nat} {xs : List Int} {b : D} (o : Ord n xs) (h1 : 1 <= n) (h2 : n <= 20) (bd : Bd b) : ∀ d ∈ som b xs, Bd d := by
  have l := o.len
  have sm := lK o h2
  have h0 : gI xs 0 ∈ xs := cK (by omega)
  intro d hd
  simp only [som, List.mem_cons, List.not_mem_nil, or_false] at hd
  rcases hd with rfl | rfl | rfl | rfl | rfl | rfl
  · exact bd
  · exact ⟨Dq, rfl⟩
  · exact ⟨⟨rfl, fun ds e => by cases e; exact ⟨by simp, by simp⟩⟩, rfl⟩
  · exact ⟨⟨rfl, fun ds e => (nomatch e)⟩, rfl⟩
  · rw [lG]
    exact ⟨qR (by decide), Cm (by decide)⟩
  · have e : xs.map D.int ++ [.int (gI xs 0)] = (xs ++ [gI xs 0]).map D.int := by simp
    have mm : ∀ x ∈ xs ++ [gI xs 0], sml x = true /\ x < n := fun x hx => by
      rcases List.mem_append.mp hx with hx | hx
      · exact ⟨sm x hx, o.hi x hx⟩
      · simp only [List.mem_singleton] at hx; subst hx; exact ⟨sm _ h0, o.hi _ h0⟩
    rw [e]
    exact ⟨qR (by simp; omega), BS (by simp) (k := n) (by simp; omega) (fun x hx => by have := (mm x hx).2; omega)⟩
theorem BU {n sp : Nat} {xs : List Int} {wr : D} (o : Ord n xs) (h2 : n <= 20) (hs : sp < n) (wa : BI wr /\ inR 0 (((n + 1 : Nat) : Int) - 1) wr = false) : Bd (.tup ((xs.take sp).map D.int ++ wr :: (xs.drop sp).map D.int)) := by
  have l := o.len
  have sm := lK o h2
  have l1 : (xs.take sp).length = sp := by rw [List.length_take]; omega
  have l3 : (xs.drop sp).length = n - sp := by rw [List.length_drop]; omega
  refine ⟨BO wa.1 (by omega), DX (e := wr) (by simp) fun k hk => ?_⟩
  have : k = n + 1 := by rw [hk]; simp [l1, l3]; omega
  rw [this]; exact wa.2
theorem FO {d0 d1 d2 d3 d4 d5 d6 d7 d8 : Option D} {d : D} {h : Hh} (b : Bd d) (w : Wf h) : B0 [d0, d1, d2, d3, d4, d5, d6, d7, d8, some d] h = .ok (.nx [d0, d1, d2, d3, d4, d5, d6, d7, d8, some d]) h := by
  have q := Ia b.th w b.og
  simp [B0, q, Io, List.replicate]
theorem Gg {d0 d1 d2 d3 d4 d5 d6 d7 d8 : Option D} {h : Hh} (w : Wf h) : ∀ (L : List D) (y9 : Option D), (∀ d ∈ L, Bd d) -> ∃ z9, dJ (gN 9) B0 L [d0, d1, d2, d3, d4, d5, d6, d7, d8, y9] h = .ok (.nx [d0, d1, d2, d3, d4, d5, d6, d7, d8, z9]) h
  | [], y9, _ => ⟨y9, rfl⟩
  | d :: L, y9, b => by
    obtain ⟨z9, q⟩ := Gg w (d0 := d0) (d1 := d1) (d2 := d2) (d3 := d3) (d4 := d4) (d5 := d5) (d6 := d6) (d7 := d7) (d8 := d8) L (some d) (fun x hx => b x (List.mem_cons_of_mem _ hx))
    refine ⟨z9, ?_⟩
    rw [iH]
    simp only [wU, ba, List.set, FO (b d List.mem_cons_self) w, xO, q]
theorem wd {xs : List Int} {f : Nat -> Bool} {tt : MT} {h : Hh} (ht : ∀ i, i < xs.length -> tt [some (.int (i : Nat)), some (.int (gI xs i))] h = .ok (f i) h) : dD (unp tt) (unp (ag 0)) (fun x => [some x]) (eh (xs.map D.int)) h = .ok ((((List.range xs.length).filter f).map fun (i : Nat) => (i : Int)).map D.int) h := by
  rw [wO, comp_map (fun (i : Nat) => D.tup [.int i, .int (gI xs i)]) f (fun (i : Nat) => D.int i) _ (fun i hi => ⟨by
    have := ht i (List.mem_range.mp hi)
    simpa using this, fun _ => by simp⟩), List.map_map]
  rfl
theorem BA {n : Nat} {xs : List Int} {h : Hh} (o : Ord n xs) (h1 : 1 <= n) (hn : n <= 20) (w : Wf h) : dB [.tup (xs.map D.int)] h = .ok (.tup ((jG n xs).map D.int)) h := by
  have oe := kx (h := h) o h1 hn w
  have hl := o.len
  have q := wd (xs := xs) (f := fun (i : Nat) => decide (gI xs i < (i : Int))) (tt := aM asB (au dLt (ag 1) (ag 0))) (h := h) (fun i hi => by simp)
  have z : xs.length <= 1000000 := by omega
  rw [hl] at q
  unfold jG
  generalize (((List.range n).filter fun (i : Nat) => decide (gI xs i < (i : Int))).map fun (i : Nat) => (i : Int)).map D.int = W at *
  simp [dB, br, oe, z, q]
theorem AE {xs : List Int} {h : Hh} (h1 : 1 <= xs.length) (hl : xs.length <= 20) : cx [.tup (xs.map D.int)] h = .ok (.frl ((gR xs).map D.int)) h := by
  have q := v_ (xs := xs) (h := h) (d := .tup (xs.map D.int)) (fun i => by simp)
  have e : ((xs.length : Int) - 1).toNat = xs.length - 1 := by omega
  have z1 : ((xs.length : Int) - 1).natAbs <= 1000000 := by omega
  have z2 : xs.length - 1 <= 1000000 := by omega
  generalize (gR xs).map D.int = W at *
  simp [cx, br, e, z1, z2, q]
theorem neT {h : Hh} {xs : List Int} : dNe (.tup (xs.map D.int)) (.tup (xs.map D.int)) h = .ok (.bl false) h := by
  have : eqD eqN h (.tup (xs.map D.int)) (.tup (xs.map D.int)) = some (decide (xs = xs)) := pB 10 h xs xs
  simp only [dNe, this]; simp
noncomputable def SI : MS := (cT (aM asB (au dLt (ag 3) (cC (.int 2)))) (bq 7 (au dIx (ah (bT aF) (aa (ah fG (aa (ag 4) ai)) (aa (cUn (g_ aF) (ah fG (aa (ag 4) ai))) ai))) (ag 3))) bH)
theorem Gr {n wy : Nat} {xs : List Int} {d0 d1 d2 d5 d6 y8 y9 : Option D} {h : Hh} (o : Ord n xs) (hn : n <= 20) : ∃ ys, Ord n ys /\ SI [d0, d1, d2, some (.int wy), some (.int n), d5, d6, some (.tup (xs.map D.int)), y8, y9] h = .ok (.nx [d0, d1, d2, some (.int wy), some (.int n), d5, d6, some (.tup (ys.map D.int)), y8, y9]) h := by
  have z : n <= 1000000 := by omega
  match wy with
  | 0 =>
    refine ⟨fE 0 n, gj n, ?_⟩
    rw [<- lG]
    simp [SI, z]
  | 1 =>
    refine ⟨(fE 0 n).reverse, ?_, ?_⟩
    · have r := gj n
      exact ⟨by simp [r.len], List.pairwise_reverse.mpr (r.nd.imp fun h => Ne.symm h), fun x hx => r.lo x (List.mem_reverse.mp hx), fun x hx => r.hi x (List.mem_reverse.mp hx)⟩
    · rw [List.map_reverse, <- lG]
      simp [SI, z]
  | k + 2 =>
    refine ⟨xs, o, ?_⟩
    have : ¬ ((k + 2 : Nat) : Int) < 2 := by omega
    generalize ((k + 2 : Nat) : Int) = W at *
    simp [SI, this]
theorem rep2 {as bs : List Int} {h : Hh} (sa : ∀ x ∈ as, sml x = true) (sb : ∀ x ∈ bs, sml x = true) (la : as.length <= 60) (lb : bs.length <= 60) : ∃ s, jZ [.frl [.tup (as.map D.int), .tup (bs.map D.int)]] h = .ok (.str s) h := by
  have t : ∀ cs : List Int, (∀ x ∈ cs, sml x = true) -> toPy 11 h (.tup (cs.map D.int)) = some (.tuple (cs.map PyData.int)) := fun cs sc => by
    show (fK (toPy (9 + 1) h) (cs.map D.int)).map PyData.tuple = _
    rw [nB sc]; rfl
  have e1 : toPy 12 h (.frl [.tup (as.map D.int), .tup (bs.map D.int)]) = some (.list [.tuple (as.map PyData.int), .tuple (bs.map PyData.int)]) := by
    show (fK (toPy 11 h) _).map PyData.list = _
    simp only [fK, t as sa, t bs sb]; rfl
  have e2 : PyData.bulk (.list [.tuple (as.map PyData.int), .tuple (bs.map PyData.int)]) <= 8000 := by
    simp [PyData.bulk, PyData.bulkAll, pH]; omega
  refine ⟨(PyData.list [.tuple (as.map PyData.int), .tuple (bs.map PyData.int)]).shown, ?_⟩
  show uv _ h = _
  delta uv; rw [e1]; exact if_pos e2
noncomputable def S2 : MS := (aB (bq 8 (ah (bT aF) (aa (ah cQ (aa (ag 7) ai)) (aa (ah bF (aa (ag 7) ai)) ai)))) (aB (cT (aM asB (au dNe (ah jZ (aa (eg aF (iq jW (aa (cC (.int 2)) ai)) [7] tt1 (ah aI (aa (ag 0) (aa (ag 1) ai)))) ai)) (ah jZ (aa (ag 8) ai)))) (bj (cC (.bl false))) bH) (aB (cT (r_ (aM asB (au dNe (ah aI (aa (cC (.int 1)) (aa (ah fV (aa (ag 7) ai)) ai))) (ag 7))) (aM asB (au dNe (ah aI (aa (cC (.int 0)) (aa (ah dw (aa (ag 7) ai)) ai))) (ag 7)))) (bj (cC (.bl false))) bH) (aB (cT (aM asB (au dNe (ah bR (aa (ah cx (aa (ah fV (aa (ag 7) ai)) ai)) ai)) (ah bR (aa (ah dB (aa (ag 7) ai)) ai)))) (bj (cC (.bl false))) bH) (dg (dm (ah (bT aF) (aa (au (cL aF) (au (cL aF) (cA aF (ag 7) b8 (di (ag 5))) (ah fQ (aa (ag 6) ai))) (cA aF (ag 7) (di (ag 5)) b8)) (aa (ah (dList aF) (aa (ag 7) ai)) (aa (ah fQ ai) (aa (cC .non) (aa (ah fG (aa (cC (.int 21)) ai)) (aa (au (cL aF) (ag 7) (cA aF (ag 7) b8 (di (cC (.int 1))))) ai)))))))) (gN 9) B0)))))
noncomputable def S1 : MS := (aB (bq 2 (ah b9 (aa (ag 1) ai))) (aB (qY 3 4 (aa (ah aD (aa (ag 2) (aa (cC (.int 5)) ai))) (aa (au (cL aF) (cC (.int 1)) (ah aD (aa (ag 2) (aa (cC (.int 20)) ai)))) ai))) (aB (qY 5 6 (aa (ah aD (aa (ag 2) (aa (ag 4) ai))) (aa (au dIx (ah (bT aF) (aa (au (cL aF) (ag 4) (cC (.int 1))) (aa (cUn eL (cC (.int 1))) (aa (cC (.bl true)) (aa (cC .non) (aa (cC (.str "0")) (aa (ah (bT aF) (aa (cC (.int 0)) ai)) (aa (cC .edic) (aa (ah fQ (aa (cC (.int 0)) ai)) ai))))))))) (ah aD (aa (ag 2) (aa (cC (.int 8)) ai)))) ai))) (aB (bq 7 (ah bW (aa (ag 2) (aa (ag 4) ai)))) (aB SI S2)))))
theorem Fs : B1 = S1 := rfl
theorem Gy {n sp : Nat} {xs : List Int} {wr : D} {d0 d1 d2 d3 d4 y8 y9 : Option D} {h : Hh} (o : Ord n xs) (h1 : 1 <= n) (hn : n <= 20) (hs : sp < n) (wa : BI wr /\ inR 0 (((n + 1 : Nat) : Int) - 1) wr = false) (w : Wf h) : ∃ z8 z9, S2 [d0, d1, d2, d3, d4, some (.int sp), some wr, some (.tup (xs.map D.int)), y8, y9] h = .ok (.nx [d0, d1, d2, d3, d4, some (.int sp), some wr, some (.tup (xs.map D.int)), z8, z9]) h := by
  have hl := o.len
  have ll := Cz (h := h) o hn
  obtain ⟨Z, tz, lt⟩ := zd (h := h) o h1 hn
  obtain ⟨la, le⟩ := AB (h := h) o h1 hn w
  obtain ⟨Z', tz', tm, te⟩ := vi (h := h) o h1 hn w
  have := vn o tz' tz
  subst this
  have lo := r9 o
  have zo := uz o (uy o h1) tz
  have t0 := zL le
  have t1 := zY te
  obtain ⟨Y, ty, _, ye⟩ := vi (h := h) lo h1 hn w
  have := vn lo ty (vB o)
  subst this
  have t2 := zY ye
  obtain ⟨_, ze⟩ := AB (h := h) zo h1 hn w
  rw [A_ o (uy o h1) tz] at ze
  have t3 := zL ze
  have lf := AE (xs := bz n Y) (h := h) (by rw [lo.len]; exact h1) (by rw [lo.len]; exact hn)
  have dr := BA (h := h) o h1 hn w
  have fd := rJ lo (vB o)
  obtain ⟨s, rp⟩ := rep2 (h := h) (lK lo hn) (lK zo hn) (by rw [lo.len]; omega) (by rw [zo.len]; omega)
  obtain ⟨z9, bd⟩ := Gg (h := h) (d0 := d0) (d1 := d1) (d2 := d2) (d3 := d3) (d4 := d4) (d5 := some (.int sp)) (d6 := some wr) (d7 := some (.tup (Y.map D.int))) (d8 := some (.frl [.tup ((bz n Y).map D.int), .tup (Z'.map D.int)])) w (som (.tup ((Y.take sp).map D.int ++ wr :: (Y.drop sp).map D.int)) Y) y9 (Ck o h1 hn (BU o hn hs wa))
  refine ⟨some (.frl [.tup ((bz n Y).map D.int), .tup (Z'.map D.int)]), z9, ?_⟩
  have c1 : iO Y none (some (sp : Int)) = Y.take sp := lP Y sp
  have c3 : iO Y (some (sp : Int)) none = Y.drop sp := ph Y sp
  have cc1 : cutD (Y.map D.int) none (some (sp : Int)) = (Y.take sp).map D.int := by rw [fq, c1]
  have cc3 : cutD (Y.map D.int) (some (sp : Int)) none = (Y.drop sp).map D.int := by rw [fq, c3]
  have cc0 : cutD (Y.map D.int) none (some 1) = [.int (gI Y 0)] := by
    rw [fq]
    have := lP Y 1
    rw [show ((1 : Nat) : Int) = 1 from rfl] at this
    rw [this]
    cases Y with
    | nil => simp at hl; omega
    | cons x r => rfl
  have lX : (Y.map D.int).length = n := by rw [List.length_map]; exact hl
  have lm1 : ((Y.take sp).map D.int).length = sp := by rw [List.length_map, List.length_take]; omega
  have lm3 : ((Y.drop sp).map D.int).length = n - sp := by rw [List.length_map, List.length_drop]; omega
  have z1 : sp + 1 <= 1000000 := by omega
  have z2 : sp + 1 + (n - sp) <= 1000000 := by omega
  have z3 : n + 1 <= 1000000 := by omega
  have z4 : n <= 1000000 := by omega
  have ne := neT (h := h) (xs := Y)
  have i2 : bS 0 2 = [.int 0, .int 1] := rfl
  unfold som at bd
  generalize hI21 : bS 0 21 = I21 at bd
  have lfl : ((gR (bz n Y)).map D.int).length = (jG n Y).length := by rw [List.length_map]; exact fd
  have lfd : ((jG n Y).map D.int).length = (jG n Y).length := by rw [List.length_map]
  have nel : dNe (.int ((jG n Y).length : Nat)) (.int ((jG n Y).length : Nat)) h = .ok (.bl false) h := by simp
  generalize (jG n Y).length = DL at *
  generalize (gR (bz n Y)).map D.int = FL at *
  generalize (jG n Y).map D.int = DR at *
  generalize (bz n Y).map D.int = LA at *
  generalize Z'.map D.int = ZD at *
  generalize (Y.take sp).map D.int = M1 at *
  generalize (Y.drop sp).map D.int = M3 at *
  generalize Y.map D.int = XS at *
  have cm : dD tt1 (ah aI (aa (ag 0) (aa (ag 1) ai))) (fun x => [some x, some (.tup XS)]) [.int 0, .int 1] h = .ok [.tup LA, .tup ZD] h := by simp [dD, t0, t1]
  simp [S2, ll, lt, i2, cm, rp, la, t2, ne, tm, t3, lf, dr, lfl, lfd, cc1, cc3, cc0, lX, lm1, lm3, z1, z2, z3, z4, hI21, bd]
theorem BZ : Aj := by
  intro ns c y2 y3 y4 y5 y6 y7 y8 y9 h w
  obtain ⟨wy, ew, hw⟩ := vD (rG c) 5 (by decide)
  obtain ⟨a, ea, ha⟩ := vD (eK (rG c) 5) 20 (by decide)
  obtain ⟨n, hn⟩ : ∃ n : Nat, 1 + (a : Int) = n := ⟨1 + a, by omega⟩
  have h1 : 1 <= n := by omega
  have h2 : n <= 20 := by omega
  generalize hP1 : eK (eK (rG c) 5) 20 = P1 at *
  obtain ⟨sp, es, hs⟩ := vD P1 n (by omega)
  obtain ⟨u, eu, hu⟩ := vD (eK P1 n) 8 (by decide)
  generalize hP3 : eK (eK P1 n) 8 = P3 at *
  have hs' : sp < n := by omega
  have o := yJ P3 n
  have eo := yL (p := P3) (k := n) w (by omega)
  generalize ly P3 n = xs at o eo
  generalize mW P3 n = P4 at eo
  have hu' : u < (wrs n).length := by show u < 8; omega
  have wa := D3 (n := n) h1 h2 _ (List.getElem_mem hu')
  have ix : ∀ H : Hh, ixK [.int ((n : Int) + 1), .int (-1), .bl true, .non, .str "0", .frl [.int 0], .edic, .tup [.int 0]] (u : Int) H = .ok (wrs n)[u] H := fun H => gE (ds := wrs n) rfl (List.getElem?_eq_getElem hu')
  generalize (wrs n)[u] = wr at *
  have wf := yU w P4
  obtain ⟨ys, oy, si⟩ := Gr (n := n) (wy := wy) (xs := xs) (d0 := some (.scr (ns.map D.int))) (d1 := some (.int c)) (d2 := some (.ref h.length)) (d5 := some (.int sp)) (d6 := some wr) (y8 := y8) (y9 := y9) (h := h ++ [.lst (de P4)]) o h2
  obtain ⟨z8, z9, s2⟩ := Gy (n := n) (sp := sp) (xs := ys) (wr := wr) (d0 := some (.scr (ns.map D.int))) (d1 := some (.int c)) (d2 := some (.ref h.length)) (d3 := some (.int wy)) (d4 := some (.int n)) (y8 := y8) (y9 := y9) (h := h ++ [.lst (de P4)]) oy h1 h2 hs' wa wf
  have D5 := fun (p : Pen) => lO (p := p) (m := 5) (h := h) (t := []) (by decide)
  have D20 := fun (p : Pen) => lO (p := p) (m := 20) (h := h) (t := []) (by decide)
  have D8 := fun (p : Pen) => lO (p := p) (m := 8) (h := h) (t := []) (by decide)
  have dn : 0 < (n : Int) /\ (n : Int) <= 10 ^ 20 := by omega
  have Dn := fun (p : Pen) => lO (p := p) (m := (n : Int)) (h := h) (t := []) dn
  refine ⟨_, _, ?_, some (.ref h.length), some (.int wy), some (.int n), some (.int sp), some wr, some (.tup (ys.map D.int)), z8, z9, rfl, wf⟩
  generalize ys.map D.int = YS at *
  generalize xs.map D.int = XS at *
  rw [Fs]
  simp [S1, D5, D20, D8, Dn, ew, ea, hn, hP1, es, eu, hP3, ix, eo, si, s2]
theorem EA (ns : List Int) (hl : ns.length <= 63) : ∃ h, lU [.scr (ns.map D.int)] [] = .ok (.bl true) h := E8 BZ ns hl
end FC
open PySem PySem.W PyProof.Rows
local macro_rules | `(tactic| o_head $H) => `(tactic| (refine holds_open (q := FC.Q) (loose := []) (Xt := (fun s => xlAt FC.Q [] s && recOk (RowW.records (OpenRow.toRowW (OpenLaw.row PySem.Challenge.rw_fallcounts_k62_laid_and_taken_up))) s)) (XP := XL FC.Q []) (Yf := Hook.obs $H) (Ya := Hook.val $H) (YP := Hook.says $H) (N := 5022) (L2.FE.wM (by decide) (by kernel_rfl) (fun _ => by kernel_rfl) FC.FP FC.F4 (fun w os => by kernel_rfl)) (Hook.of $H) (Hook.keeps $H) (fun s e => xl_of s (Bool.and_eq_true_iff.mp e).1) XL.keeps (by rfl) (by rfl) (by rfl) (fun s e => recFacts_of (Bool.and_eq_true_iff.mp e).2) (by rfl) (by first | assumption | decide +kernel) (by decide +kernel) ⟨rfl, rfl, rfl, rfl, rfl, by decide +kernel⟩ ?hw ?hc))
set_option maxRecDepth 100000 in
set_option maxHeartbeats 0 in
theorem PySem.Challenge.cw_fallcounts_k62_laid_and_taken_up_holds : PySem.Challenge.rw_fallcounts_k62_laid_and_taken_up.Holds := by
  w_on; o_law; k_head; w_witness2
  k_fill
  refine FC.walk (l := PySem.Challenge.rw_fallcounts_k62_laid_and_taken_up) rfl rfl (fun w h Y => by first | exact PySem.W.kIn_of Y | exact PySem.W.km_in_of Y) FC.EA ?F
  case F =>
    intro w mg fa h KX G hmg
    have T : FC.Text (L2.KOf KX) := by
      dsimp only [L2.KOf]
      refine' ⟨?fB, ?f6, ?iI, ?iR, ?gW, ?iw, ?eF, ?fv, ?fi, ?jv, ?iP, ?gJ, ?fj, ?gq, ?il, ?ug, ?ju, ?jy, ?jr, ?iK, ?gY, ?zS, ?cls, ?gz, ?tH, ?iu, ?xZ, ?gH, ?Ad, ?uf, ?x8, ?rC, ?tL, ?xX, ?qx, ?yF, ?cV⟩
      (case fB => refine' L2.FE.bU ?a ?l ?c ?k; (case a => k_is); (case l => k_is); (case c => k_is); (case k => k_is))
      (case f6 => refine' L2.FE.bU ?a ?l ?c ?k; (case a => k_is); (case l => k_is); (case c => k_is); (case k => k_is))
      (case iI => refine' L2.FE.bU ?a ?l ?c ?k; (case a => k_is); (case l => k_is); (case c => k_is); (case k => k_is))
      (case iR => refine' L2.FE.bU ?a ?l ?c ?k; (case a => k_is); (case l => k_is); (case c => k_is); (case k => k_is))
      (case gW => refine' L2.FE.bU ?a ?l ?c ?k; (case a => k_is); (case l => k_is); (case c => k_is); (case k => k_is))
      (case iw => refine' L2.FE.bU ?a ?l ?c ?k; (case a => k_is); (case l => k_is); (case c => k_is); (case k => k_is))
      (case eF => refine' L2.FE.bU ?a ?l ?c ?k; (case a => k_is); (case l => k_is); (case c => k_is); (case k => k_is))
      (case fv => refine' L2.FE.bU ?a ?l ?c ?k; (case a => k_is); (case l => k_is); (case c => k_is); (case k => k_is))
      (case fi => refine' L2.FE.bU ?a ?l ?c ?k; (case a => k_is); (case l => k_is); (case c => k_is); (case k => k_is))
      (case jv => refine' L2.FE.bU ?a ?l ?c ?k; (case a => k_is); (case l => k_is); (case c => k_is); (case k => k_is))
      (case iP => refine' L2.FE.bU ?a ?l ?c ?k; (case a => k_is); (case l => k_is); (case c => k_is); (case k => k_is))
      (case gJ => refine' L2.FE.bU ?a ?l ?c ?k; (case a => k_is); (case l => k_is); (case c => k_is); (case k => k_is))
      (case fj => refine' L2.FE.bU ?a ?l ?c ?k; (case a => k_is); (case l => k_is); (case c => k_is); (case k => k_is))
      (case gq => refine' L2.FE.bU ?a ?l ?c ?k; (case a => k_is); (case l => k_is); (case c => k_is); (case k => k_is))
      (case il => refine' L2.FE.bU ?a ?l ?c ?k; (case a => k_is); (case l => k_is); (case c => k_is); (case k => k_is))
      (case ug => refine' L2.FE.bU ?a ?l ?c ?k; (case a => k_is); (case l => k_is); (case c => k_is); (case k => k_is))
      (case ju => refine' L2.FE.bU ?a ?l ?c ?k; (case a => k_is); (case l => k_is); (case c => k_is); (case k => k_is))
      (case jy => refine' L2.FE.bU ?a ?l ?c ?k; (case a => k_is); (case l => k_is); (case c => k_is); (case k => k_is))
      (case jr => refine' L2.FE.bU ?a ?l ?c ?k; (case a => k_is); (case l => k_is); (case c => k_is); (case k => k_is))
      (case iK => refine' L2.FE.bU ?a ?l ?c ?k; (case a => k_is); (case l => k_is); (case c => k_is); (case k => k_is))
      (case gY => refine' L2.FE.bU ?a ?l ?c ?k; (case a => k_is); (case l => k_is); (case c => k_is); (case k => k_is))
      (case zS => refine' L2.FE.bU ?a ?l ?c ?k; (case a => k_is); (case l => k_is); (case c => k_is); (case k => k_is))
      (case cls => refine' L2.EX ?e0 ?e1 ?e2 ?e3 ?e4 ?e5 ?e6 ?e7 ?c; (case e0 => k_is); (case e1 => k_is); (case e2 => k_is); (case e3 => k_is); (case e4 => k_is); (case e5 => k_is); (case e6 => k_is); (case e7 => k_is); (case c => kernel_rfl))
      (case gz => k_is)
      (case tH => k_is)
      (case iu => k_is)
      (case xZ => k_is)
      (case gH => k_is)
      (case Ad => k_is)
      (case uf => k_is)
      (case x8 => k_is)
      (case rC => k_is)
      (case tL => k_is)
      (case xX => k_is)
      (case qx => k_is)
      (case yF => k_is)
      (case cV => exact ⟨_, rfl⟩)
    exact FC.all_mk KX G hmg T
