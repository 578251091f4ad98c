import PyProof.Rows.All
import Wide.All
import OpenK.AllK
import Wide.FinOn
import Open.SpecLaws
import KE.OsGo
import HandS.ForSpec
import HandS.Iter
import HandS.Walk
import PySem.Challenge.RW_nightballoons_s01_answers
import PyFlatLaws
section
set_option Elab.async false
namespace Nb
open Si95

/-- a call as a flat list -/
def flat1 : Call → List Int
  | .begins w a c o k => [0, w, a, c, o, k]
  | .load g s => [1, g, s]
  | .check l => 2 :: (l.length : Int) :: l.map (fun (n : Nat) => (n : Int))
  | .nights => [3]
  | .needs n => [4, n]
  | .most => [5]
def flat : List Call → List Int
  | [] => []
  | q :: r => flat1 q ++ flat r
def small (n : Nat) : Prop := n < 4294967296
/-- a call's numbers within the bounds that are told -/
def Inb : Call → Prop
  | .begins w a c o k => small w ∧ small a ∧ small c ∧ small o ∧ small k
  | .load g s => small g ∧ small s
  | .check l => l.length ≤ 40 ∧ ∀ n ∈ l, small n
  | .nights => True
  | .needs n => small n
  | .most => True
/-- one answer as numbers -/
def ans (a : Ans) : List Int := a.v :: a.l
/-- answers of a row of calls from a balloon -/
def runs : Balloon → List Call → List (List Int)
  | _, [] => []
  | b, q :: r => ans (step b q).2 :: runs (step b q).1 r
def after : Balloon → List Call → Balloon
  | b, [] => b
  | b, q :: r => after (step b q).1 r

theorem flat_append : ∀ (p q : List Call), flat (p ++ q) = flat p ++ flat q
  | [], _ => rfl
  | a :: p, q => by
    show flat1 a ++ flat (p ++ q) = flat1 a ++ flat p ++ flat q
    rw [flat_append p q, List.append_assoc]
theorem runs_append : ∀ (b : Balloon) (p q : List Call), runs b (p ++ q) = runs b p ++ runs (after b p) q
  | _, [], _ => rfl
  | b, a :: p, q => by
    show ans (step b a).2 :: runs (step b a).1 (p ++ q) = ans (step b a).2 :: runs (step b a).1 p ++ runs (after (step b a).1 p) q
    rw [runs_append _ p q]; rfl
theorem after_append : ∀ (b : Balloon) (p q : List Call), after b (p ++ q) = after (after b p) q
  | _, [], _ => rfl
  | b, a :: p, q => after_append (step b a).1 p q
theorem told_append : ∀ (p q : List (List Int)), PyFlat.told (p ++ q) = PyFlat.told p ++ PyFlat.told q := by
  intro p q
  unfold PyFlat.told
  rw [List.flatMap_append]
theorem told_cons (a : List Int) (r : List (List Int)) : PyFlat.told (a :: r) = ((a.length : Int) :: a) ++ PyFlat.told r := rfl

theorem toNat_back {z : Int} (h : 0 ≤ z) : ((z.toNat : Nat) : Int) = z := Int.toNat_of_nonneg h
theorem map_back : ∀ {l : List Int}, (∀ x ∈ l, 0 ≤ x) → (l.map Int.toNat).map (fun (n : Nat) => (n : Int)) = l
  | [], _ => rfl
  | a :: l, h => by
    simp only [List.map_cons]
    rw [toNat_back (h a (List.Mem.head _)), map_back fun x hx => h x (List.Mem.tail _ hx)]
theorem within_iff {lo hi z : Int} : PyInside.within lo hi z = true ↔ lo ≤ z ∧ z ≤ hi := by
  unfold PyInside.within
  simp
theorem small_of {z : Int} (h : PyInside.within 0 4294967295 z = true) : small z.toNat := by
  have := within_iff.1 h
  unfold small; omega
theorem nn_of {z : Int} (h : PyInside.within 0 4294967295 z = true) : 0 ≤ z := (within_iff.1 h).1

/-- one call of the shape and within the bounds is a call of the document, and the machine's step is its -/
theorem call_of {c : List (List Int)} (hs : PyFlat.okCall PySi95.shape c) (hb : PyInside.call PySi95.bound c = true) :
    ∃ q : Call, PyFlat.put1 c = flat1 q ∧ Inb q ∧ Si95Neutral.callOf ((PySi95.whole c).headD []) = some q := by
  obtain ⟨p, a, xs, rfl, h⟩ := hs
  unfold PySi95.shape at h
  split at h
  · next e =>
    subst e
    obtain ⟨h1, h2⟩ := Prod.mk.inj (Option.some.inj h)
    match a, h1, xs, h2 with
    | [x0, x1, x2, x3, x4], _, [], _ =>
      have hb' : ((PyInside.within 0 4294967295 x0 && (PyInside.within 0 4294967295 x1 && (PyInside.within 0 4294967295 x2 && (PyInside.within 0 4294967295 x3 && (PyInside.within 0 4294967295 x4 && true))))) && true) = true := hb
      simp only [Bool.and_eq_true, and_true] at hb'
      obtain ⟨b0, b1, b2, b3, b4⟩ := hb'
      refine ⟨.begins x0.toNat x1.toNat x2.toNat x3.toNat x4.toNat, ?_, ⟨small_of b0, small_of b1, small_of b2, small_of b3, small_of b4⟩, rfl⟩
      show [0, x0, x1, x2, x3, x4] = [0, ((x0.toNat : Nat) : Int), ((x1.toNat : Nat) : Int), ((x2.toNat : Nat) : Int), ((x3.toNat : Nat) : Int), ((x4.toNat : Nat) : Int)]
      rw [toNat_back (nn_of b0), toNat_back (nn_of b1), toNat_back (nn_of b2), toNat_back (nn_of b3), toNat_back (nn_of b4)]
  · split at h
    · next _ e =>
      subst e
      obtain ⟨h1, h2⟩ := Prod.mk.inj (Option.some.inj h)
      match a, h1, xs, h2 with
      | [x0, x1], _, [], _ =>
        have hb' : ((PyInside.within 0 4294967295 x0 && (PyInside.within 0 4294967295 x1 && true)) && true) = true := hb
        simp only [Bool.and_eq_true, and_true] at hb'
        obtain ⟨b0, b1⟩ := hb'
        refine ⟨.load x0.toNat x1.toNat, ?_, ⟨small_of b0, small_of b1⟩, rfl⟩
        show [1, x0, x1] = [1, ((x0.toNat : Nat) : Int), ((x1.toNat : Nat) : Int)]
        rw [toNat_back (nn_of b0), toNat_back (nn_of b1)]
    · split at h
      · next _ _ e =>
        subst e
        obtain ⟨h1, h2⟩ := Prod.mk.inj (Option.some.inj h)
        match a, h1, xs, h2 with
        | [], _, [r], _ =>
          have hb' : (true && (decide (0 ≤ r.length) && decide (r.length ≤ 40) && r.all (PyInside.within 0 4294967295) && true)) = true := hb
          simp only [Bool.and_eq_true, and_true, true_and, decide_eq_true_eq, List.all_eq_true] at hb'
          obtain ⟨⟨_, hl⟩, ha⟩ := hb'
          refine ⟨.check (r.map Int.toNat), ?_, ⟨by rw [List.length_map]; exact hl, ?_⟩, ?_⟩
          · show 2 :: ((r.length : Int) :: r ++ []) = 2 :: (((r.map Int.toNat).length : Nat) : Int) :: (r.map Int.toNat).map (fun (n : Nat) => (n : Int))
            rw [map_back (fun x hx => nn_of (ha x hx)), List.length_map, List.append_nil]
          · intro n hn
            obtain ⟨z, hz, rfl⟩ := List.mem_map.1 hn
            exact small_of (ha z hz)
          · show (if (r.map Int.toNat).length ≤ 40 then some (Call.check (r.map Int.toNat)) else none) = _
            rw [if_pos (by rw [List.length_map]; exact hl)]
      · split at h
        · next _ _ _ e =>
          subst e
          obtain ⟨h1, h2⟩ := Prod.mk.inj (Option.some.inj h)
          match a, h1, xs, h2 with
          | [], _, [], _ => exact ⟨.nights, rfl, trivial, rfl⟩
        · split at h
          · next _ _ _ _ e =>
            subst e
            obtain ⟨h1, h2⟩ := Prod.mk.inj (Option.some.inj h)
            match a, h1, xs, h2 with
            | [x0], _, [], _ =>
              have hb' : ((PyInside.within 0 4294967295 x0 && true) && true) = true := hb
              simp only [Bool.and_eq_true, and_true] at hb'
              refine ⟨.needs x0.toNat, ?_, small_of hb', rfl⟩
              show [4, x0] = [4, ((x0.toNat : Nat) : Int)]
              rw [toNat_back (nn_of hb')]
          · split at h
            · next _ _ _ _ _ e =>
              subst e
              obtain ⟨h1, h2⟩ := Prod.mk.inj (Option.some.inj h)
              match a, h1, xs, h2 with
              | [], _, [], _ => exact ⟨.most, rfl, trivial, rfl⟩
            · cases h
theorem step_of {s : Balloon} {c : List (List Int)} {q : Call} (h : Si95Neutral.callOf (c.headD []) = some q) : Si95Neutral.step s c = ((step s q).1, ans (step s q).2) := by
  unfold Si95Neutral.step
  rw [h]
  rfl
theorem calls_of : ∀ {cs : List (List (List Int))}, (∀ c ∈ cs, PyFlat.okCall PySi95.shape c) → (∀ c ∈ cs, PyInside.call PySi95.bound c = true) →
    ∃ qs : List Call, PyFlat.put cs = flat qs ∧ qs.length = cs.length ∧ (∀ q ∈ qs, Inb q) ∧ ∀ s, PyFlat.played Si95Neutral.step s (cs.map PySi95.whole) = runs s qs
  | [], _, _ => ⟨[], rfl, rfl, (fun _ h => by cases h), fun _ => rfl⟩
  | c :: cs, h1, h2 => by
    obtain ⟨q, e1, e2, e3⟩ := call_of (h1 c (List.Mem.head _)) (h2 c (List.Mem.head _))
    obtain ⟨qs, i1, i2, i3, i4⟩ := calls_of (cs := cs) (fun d hd => h1 d (List.Mem.tail _ hd)) (fun d hd => h2 d (List.Mem.tail _ hd))
    refine ⟨q :: qs, ?_, ?_, ?_, ?_⟩
    · show PyFlat.put1 c ++ PyFlat.put cs = flat1 q ++ flat qs
      rw [e1, i1]
    · show qs.length + 1 = cs.length + 1
      rw [i2]
    · intro x hx
      cases hx with
      | head => exact e2
      | tail _ hx => exact i3 x hx
    · intro s
      show (Si95Neutral.step s (PySi95.whole c)).2 :: PyFlat.played Si95Neutral.step (Si95Neutral.step s (PySi95.whole c)).1 (cs.map PySi95.whole) = ans (step s q).2 :: runs (step s q).1 qs
      rw [step_of e3, i4]
/-- THE REQUEST in plain words -/
theorem request {ns : List Int} (h : PySi95.answers_asked ns = true) :
    ∃ qs : List Call, ns = flat qs ∧ qs.length ≤ 60 ∧ (∀ q ∈ qs, Inb q) ∧ PySi95.answers ns = PyFlat.told (runs init qs) ∧ (PySi95.answers ns).length ≤ 10000000 := by
  unfold PySi95.answers_asked at h
  cases e : PyFlat.calls PySi95.shape ns.length ns with
  | none => rw [e] at h; cases h
  | some cs =>
    rw [e] at h
    simp only [Bool.and_eq_true] at h
    obtain ⟨⟨⟨⟨_, hm⟩, hi⟩, _⟩, hl⟩ := h
    obtain ⟨hp, hk⟩ := PyFlat.put_calls _ _ _ e
    obtain ⟨qs, i1, i2, i3, i4⟩ := calls_of hk (fun c hc => (List.all_eq_true.1 hi) c hc)
    refine ⟨qs, hp.trans i1, ?_, i3, ?_, of_decide_eq_true hl⟩
    · rw [i2]; exact of_decide_eq_true hm
    · unfold PySi95.answers PySi95.calls
      rw [e]
      show PyFlat.told (PyFlat.played Si95Neutral.step Si95Neutral.start (cs.map PySi95.whole)) = _
      rw [i4]; rfl
end Nb
end

section
set_option Elab.async false
namespace Nb
open Si95

/-! the plain plan: only weight, day, night, over, leak of the balloon count -/
theorem plain_with (b : Balloon) (x : Nat) : ∀ (f : Nat) (s : Stand), (b.with_ x).plain f s = b.plain f s
  | 0, _ => rfl
  | f + 1, s => by
    show (match b.least (b.byDay s) with
      | none => []
      | some t => t :: (b.with_ x).plain f (Balloon.byNight (b.byDay s) t)) = _
    show _ = (match b.least (b.byDay s) with
      | none => []
      | some t => t :: b.plain f (Balloon.byNight (b.byDay s) t))
    cases b.least (b.byDay s) with
    | none => rfl
    | some t =>
      show t :: (b.with_ x).plain f (Balloon.byNight (b.byDay s) t) = t :: b.plain f (Balloon.byNight (b.byDay s) t)
      rw [plain_with b x f]
theorem plain_step (b : Balloon) (f : Nat) (s : Stand) : b.plain (f + 1) s =
    if b.weight ≤ b.night * (b.byDay s).gas then (b.weight + s.sand - b.night * (b.byDay s).gas) :: b.plain f ⟨(b.byDay s).gas, s.sand - (b.weight + s.sand - b.night * (b.byDay s).gas)⟩ else [] := by
  show (match b.least (b.byDay s) with
    | none => []
    | some t => t :: b.plain f (Balloon.byNight (b.byDay s) t)) = _
  unfold Balloon.least
  by_cases h : b.weight ≤ b.night * (b.byDay s).gas
  · rw [if_pos h, if_pos h]; rfl
  · rw [if_neg h, if_neg h]
theorem plain_down {b : Balloon} {f : Nat} {s : Stand} (h : ¬ b.weight ≤ b.night * (b.byDay s).gas) : b.plain f s = [] := by
  cases f with
  | zero => rfl
  | succ f => rw [plain_step, if_neg h]
/-- gas falls by day -/
theorem byDay_gas (b : Balloon) (s : Stand) : (b.byDay s).gas ≤ s.gas - b.leak := by
  show min s.gas _ - b.leak ≤ s.gas - b.leak
  have := Nat.min_le_left s.gas ((b.weight + s.sand + b.over) / b.day)
  omega
/-- so many turns as there is gas are enough -/
theorem plain_more {b : Balloon} (hw : 1 ≤ b.weight) (hk : 1 ≤ b.leak) : ∀ (f g : Nat) (s : Stand), s.gas ≤ f → s.gas ≤ g → b.plain f s = b.plain g s := by
  have none0 : ∀ (s : Stand), s.gas = 0 → ¬ b.weight ≤ b.night * (b.byDay s).gas := by
    intro s h
    have h0 := byDay_gas b s
    have h1 : (b.byDay s).gas = 0 := by omega
    rw [h1, Nat.mul_zero]; omega
  intro f
  induction f with
  | zero =>
    intro g s h1 h2
    rw [plain_down (none0 s (by omega)), plain_down (none0 s (by omega))]
  | succ f ih =>
    intro g s h1 h2
    cases g with
    | zero => rw [plain_down (none0 s (by omega)), plain_down (none0 s (by omega))]
    | succ g =>
      by_cases h : b.weight ≤ b.night * (b.byDay s).gas
      · have h0 := byDay_gas b s
        rw [plain_step, plain_step, if_pos h, if_pos h, ih g _ (by show (b.byDay s).gas ≤ f; omega) (by show (b.byDay s).gas ≤ g; omega)]
      · rw [plain_down h, plain_down h]
/-- each night costs a measure at the least -/
theorem plain_short {b : Balloon} (hk : 1 ≤ b.leak) (hw : 1 ≤ b.weight) : ∀ (f : Nat) (s : Stand), (b.plain f s).length ≤ s.gas - 1 := by
  intro f
  induction f with
  | zero => intro s; exact Nat.zero_le _
  | succ f ih =>
    intro s
    by_cases h : b.weight ≤ b.night * (b.byDay s).gas
    · rw [plain_step, if_pos h, List.length_cons]
      have h0 := byDay_gas b s
      have h1 := ih ⟨(b.byDay s).gas, s.sand - (b.weight + s.sand - b.night * (b.byDay s).gas)⟩
      have h2 : (b.plain f ⟨(b.byDay s).gas, s.sand - (b.weight + s.sand - b.night * (b.byDay s).gas)⟩).length ≤ (b.byDay s).gas - 1 := h1
      have h3 : 1 ≤ (b.byDay s).gas := by
        cases e : (b.byDay s).gas with
        | zero => rw [e, Nat.mul_zero] at h; omega
        | succ n => omega
      omega
    · rw [plain_down h]; exact Nat.zero_le _
/-- thrown sand is no more than there is -/
theorem byDay_mono (b : Balloon) {s t : Stand} (hg : s.gas ≤ t.gas) (hs : s.sand ≤ t.sand) : (b.byDay s).gas ≤ (b.byDay t).gas := by
  show min s.gas ((b.weight + s.sand + b.over) / b.day) - b.leak ≤ min t.gas ((b.weight + t.sand + b.over) / b.day) - b.leak
  have h1 : (b.weight + s.sand + b.over) / b.day ≤ (b.weight + t.sand + b.over) / b.day := Nat.div_le_div_right (by omega)
  omega
/-- MORE AT THE START, NO FEWER NIGHTS -/
theorem plain_mono (b : Balloon) : ∀ (f : Nat) (s t : Stand), s.gas ≤ t.gas → s.sand ≤ t.sand → (b.plain f s).length ≤ (b.plain f t).length := by
  intro f
  induction f with
  | zero => intro s t _ _; exact Nat.le_refl _
  | succ f ih =>
    intro s t hg hs
    have hd := byDay_mono b hg hs
    have hn : b.night * (b.byDay s).gas ≤ b.night * (b.byDay t).gas := Nat.mul_le_mul_left _ hd
    by_cases h : b.weight ≤ b.night * (b.byDay s).gas
    · have h' : b.weight ≤ b.night * (b.byDay t).gas := Nat.le_trans h hn
      rw [plain_step, plain_step, if_pos h, if_pos h', List.length_cons, List.length_cons]
      have := ih ⟨(b.byDay s).gas, s.sand - (b.weight + s.sand - b.night * (b.byDay s).gas)⟩ ⟨(b.byDay t).gas, t.sand - (b.weight + t.sand - b.night * (b.byDay t).gas)⟩ hd (by
        show s.sand - (b.weight + s.sand - b.night * (b.byDay s).gas) ≤ t.sand - (b.weight + t.sand - b.night * (b.byDay t).gas)
        omega)
      omega
    · rw [plain_down h]; exact Nat.zero_le _
/-- nights with so much sand -/
def nts (b : Balloon) (x : Nat) : Nat := (b.plain (b.gas + 1) ⟨b.gas, x⟩).length
theorem nights_with (b : Balloon) (x : Nat) : (b.with_ x).nights = nts b x := by
  show ((b.with_ x).plain (b.gas + 1) ⟨b.gas, x⟩).length = _
  rw [plain_with]; rfl
theorem nights_is (b : Balloon) : b.nights = nts b b.sand := rfl
theorem nts_mono (b : Balloon) {x y : Nat} (h : x ≤ y) : nts b x ≤ nts b y := plain_mono b _ _ _ (Nat.le_refl _) h
/-! halving finds the least one -/
theorem halved_spec (f : Nat → Bool) (mono : ∀ x y, x ≤ y → f x = true → f y = true) : ∀ (k lo hi : Nat), hi - lo ≤ k + 1 → lo < hi → f lo = false → f hi = true →
    f (halved f k lo hi) = true ∧ lo < halved f k lo hi ∧ halved f k lo hi ≤ hi ∧ ∀ x, x < halved f k lo hi → f x = false := by
  have below : ∀ (lo x : Nat), f lo = false → x ≤ lo → f x = false := by
    intro lo x h hx
    cases e : f x with
    | false => rfl
    | true => rw [mono x lo hx e] at h; cases h
  intro k
  induction k with
  | zero =>
    intro lo hi h hl h0 h1
    refine ⟨h1, hl, Nat.le_refl _, fun x hx => below lo x h0 ?_⟩
    have : x < hi := hx
    omega
  | succ k ih =>
    intro lo hi h hl h0 h1
    by_cases c : hi ≤ lo + 1
    · have e : halved f (k + 1) lo hi = hi := by unfold halved; rw [if_pos c]
      rw [e]
      exact ⟨h1, hl, Nat.le_refl _, fun x hx => below lo x h0 (by omega)⟩
    · by_cases cm : f ((lo + hi) / 2) = true
      · have e : halved f (k + 1) lo hi = halved f k lo ((lo + hi) / 2) := by
          show (if hi ≤ lo + 1 then hi else if f ((lo + hi) / 2) = true then halved f k lo ((lo + hi) / 2) else halved f k ((lo + hi) / 2) hi) = _
          rw [if_neg c, if_pos cm]
        rw [e]
        obtain ⟨a1, a2, a3, a4⟩ := ih lo ((lo + hi) / 2) (by omega) (by omega) h0 cm
        exact ⟨a1, a2, by omega, a4⟩
      · have e : halved f (k + 1) lo hi = halved f k ((lo + hi) / 2) hi := by
          show (if hi ≤ lo + 1 then hi else if f ((lo + hi) / 2) = true then halved f k lo ((lo + hi) / 2) else halved f k ((lo + hi) / 2) hi) = _
          rw [if_neg c, if_neg cm]
        rw [e]
        obtain ⟨a1, a2, a3, a4⟩ := ih ((lo + hi) / 2) hi (by omega) (by omega) (by simpa using cm) h1
        exact ⟨a1, by omega, a3, a4⟩
/-! what needs answers, by what holds of it -/
theorem needs_none_lift {b : Balloon} (n : Nat) (h : ¬ b.weight ≤ b.day * b.gas) : b.needs n = none := by
  unfold Balloon.needs Balloon.most
  rw [if_neg h]
theorem needs_none {b : Balloon} {n : Nat} (h : nts b (b.day * b.gas - b.weight) < n) : b.needs n = none := by
  unfold Balloon.needs Balloon.most
  by_cases c : b.weight ≤ b.day * b.gas
  · rw [if_pos c]
    show (if (b.with_ (b.day * b.gas - b.weight)).nights < n then none else _) = none
    rw [nights_with, if_pos h]
  · rw [if_neg c]
/-- the least one is what it answers -/
theorem needs_some {b : Balloon} {n x : Nat} (hl : b.weight ≤ b.day * b.gas) (hx : x ≤ b.day * b.gas - b.weight) (h1 : n ≤ nts b x) (h2 : ∀ y, y < x → nts b y < n) : b.needs n = some x := by
  have hm : ¬ nts b (b.day * b.gas - b.weight) < n := by
    have := nts_mono b hx
    omega
  unfold Balloon.needs Balloon.most
  rw [if_pos hl]
  show (if (b.with_ (b.day * b.gas - b.weight)).nights < n then none else if n ≤ (b.with_ 0).nights then some 0 else some (halved (fun s => decide (n ≤ (b.with_ s).nights)) (b.day * b.gas - b.weight) 0 (b.day * b.gas - b.weight))) = some x
  rw [nights_with, if_neg hm, nights_with]
  by_cases c : n ≤ nts b 0
  · rw [if_pos c]
    cases x with
    | zero => rfl
    | succ x => have := h2 0 (by omega); omega
  · rw [if_neg c]
    have ef : (fun s => decide (n ≤ (b.with_ s).nights)) = fun s => decide (n ≤ nts b s) := by
      funext s; rw [nights_with]
    rw [ef]
    have pos : 0 < b.day * b.gas - b.weight := by
      rcases Nat.eq_zero_or_pos (b.day * b.gas - b.weight) with z | z
      · rw [z] at hm; omega
      · exact z
    obtain ⟨a1, a2, a3, a4⟩ := halved_spec (fun s => decide (n ≤ nts b s)) (fun x y hxy hf => by
      have h3 := of_decide_eq_true hf
      have h4 := nts_mono b hxy
      exact decide_eq_true (by omega)) (b.day * b.gas - b.weight) 0 (b.day * b.gas - b.weight) (by omega) pos (decide_eq_false (by omega)) (decide_eq_true (by omega))
    congr 1
    have b1 := of_decide_eq_true a1
    rcases Nat.lt_trichotomy (halved (fun s => decide (n ≤ nts b s)) (b.day * b.gas - b.weight) 0 (b.day * b.gas - b.weight)) x with q | q | q
    · have := h2 _ q; omega
    · exact q
    · have := of_decide_eq_false (a4 x q); omega
/-! what a balloon is like, always -/
structure Ok (b : Balloon) : Prop where
  w1 : 1 ≤ b.weight
  w2 : b.weight ≤ 10000
  d1 : 1 ≤ b.day
  d2 : b.day ≤ 100
  n1 : 1 ≤ b.night
  n2 : b.night ≤ b.day
  o2 : b.over ≤ 10000
  k1 : 1 ≤ b.leak
  k2 : b.leak ≤ 200
  g1 : 1 ≤ b.gas
  g2 : b.gas ≤ 200
  s2 : b.sand ≤ 10000
theorem ok_init : Ok init := ⟨by decide, by decide, by decide, by decide, by decide, by decide, by decide, by decide, by decide, by decide, by decide, by decide⟩
theorem ok_step {b : Balloon} (h : Ok b) (q : Call) : Ok (step b q).1 := by
  cases q with
  | begins w a c o k =>
    show Ok (if w < 1 ∨ MASS < w ∨ c < 1 ∨ a < c ∨ LIFT < a ∨ MASS < o ∨ k < 1 ∨ GAS < k then (b, ok (-1)) else (⟨w, a, c, o, k, 1, 0⟩, ok 0)).1
    by_cases e : w < 1 ∨ MASS < w ∨ c < 1 ∨ a < c ∨ LIFT < a ∨ MASS < o ∨ k < 1 ∨ GAS < k
    · rw [if_pos e]; exact h
    · rw [if_neg e]
      unfold MASS LIFT GAS at e
      simp only [not_or] at e
      constructor <;> first | (show _ ≤ _; dsimp only; omega)
  | load g s =>
    show Ok (if g < 1 ∨ GAS < g ∨ MASS < s then (b, ok (-1)) else if ({ b with gas := g, sand := s } : Balloon).lifts = false then (b, ok (-6)) else ({ b with gas := g, sand := s }, ok ((b.day * g - b.weight - s : Nat) : Int))).1
    by_cases e : g < 1 ∨ GAS < g ∨ MASS < s
    · rw [if_pos e]; exact h
    · rw [if_neg e]
      by_cases e2 : ({ b with gas := g, sand := s } : Balloon).lifts = false
      · rw [if_pos e2]; exact h
      · rw [if_neg e2]
        unfold MASS GAS at e
        simp only [not_or] at e
        exact ⟨h.w1, h.w2, h.d1, h.d2, h.n1, h.n2, h.o2, h.k1, h.k2, by show 1 ≤ g; omega, by show g ≤ 200; omega, by show s ≤ 10000; omega⟩
  | check l =>
    show Ok (if b.lifts = false then (b, ok (-3)) else (b, _)).1
    split <;> exact h
  | nights =>
    show Ok (if b.lifts = false then (b, ok (-3)) else (b, _)).1
    split <;> exact h
  | needs n =>
    show Ok (if GAS < n then (b, ok (-1)) else (b, _)).1
    split <;> exact h
  | most => exact h
theorem ok_after : ∀ {b : Balloon} (l : List Call), Ok b → Ok (after b l)
  | _, [], h => h
  | _, q :: r, h => ok_after r (ok_step h q)
end Nb
end

section
set_option Elab.async false
set_option maxRecDepth 100000
set_option maxHeartbeats 4000000
namespace Nb
open PySem PySem.Spec PyProof.Rows L2
open PySem.W (Codec)
open Si95 (Balloon Stand Call)
/-! ### the text by places -/
def top (i : Nat) : Stmt := PySem.Challenge.pw_nightballoons_s01_answers.main.body.getD i (.Pass ⟨0, 0, 0, 0⟩)
abbrev sInit : Stmt := inClass (top 4) 0
abbrev sLift : Stmt := inClass (top 4) 1
abbrev sDay : Stmt := inClass (top 4) 2
abbrev sThrow : Stmt := inClass (top 4) 3
abbrev sWrong : Stmt := inClass (top 4) 4
abbrev sPlan : Stmt := inClass (top 4) 5
abbrev sNts : Stmt := inClass (top 4) 6
abbrev sMost : Stmt := inClass (top 4) 7
abbrev sLeast : Stmt := inClass (top 4) 8
abbrev sAns : Stmt := top 23
abbrev sEnd : Stmt := top 24
abbrev sCall : Stmt := top 25
abbrev sBegins : Stmt := top 26
abbrev sLoad : Stmt := top 27
abbrev sCheck : Stmt := top 28
abbrev sNights : Stmt := top 29
abbrev sNeeds : Stmt := top 30
abbrev sMostC : Stmt := top 31
/-! ### an if whose test is known -/
theorem if_t {c : Bool} {A B : Prop} (hc : c = true) (h : A) : if c = true then A else B := by
  rw [if_pos hc]; exact h
theorem if_f {c : Bool} {A B : Prop} (hc : c = false) (h : B) : if c = true then A else B := by
  rw [hc, if_neg Bool.false_ne_true]; exact h
/-! ### the heap: how a balloon lies in it -/
def bF (b : Balloon) : List (Str × V) := [("weight", .int b.weight), ("day", .int b.day), ("night", .int b.night), ("over", .int b.over), ("leak", .int b.leak), ("gas", .int b.gas), ("sand", .int b.sand)]
def BalAt (C : Addr) (H : Hp) (a : Addr) (b : Balloon) : Prop := ∃ dx, H a = some (.ins C dx (bF b))
theorem lk_here {k : Str} {v : V} {r : List (Str × V)} : List.lookup k ((k, v) :: r) = some v := by
  have e : (k == k) = true := beq_self_eq_true k
  simp only [List.lookup, e]
theorem lk_past {k g : Str} {v : V} {r : List (Str × V)} (h : (k == g) = false) : List.lookup k ((g, v) :: r) = List.lookup k r := by
  simp only [List.lookup, h]
theorem put_here {f : Str} {v x : V} {r : List (Str × V)} : putF f v ((f, x) :: r) = (f, v) :: r := if_pos rfl
theorem put_past {f g : Str} {v x : V} {r : List (Str × V)} (h : ¬ g = f) : putF f v ((g, x) :: r) = (g, x) :: putF f v r := if_neg h
theorem fW (b : Balloon) : (bF b).lookup ("weight" : Str) = some (.int b.weight) := lk_here
theorem fD (b : Balloon) : (bF b).lookup ("day" : Str) = some (.int b.day) := (lk_past (by decide +kernel)).trans lk_here
theorem fN (b : Balloon) : (bF b).lookup ("night" : Str) = some (.int b.night) := (lk_past (by decide +kernel)).trans ((lk_past (by decide +kernel)).trans lk_here)
theorem fO (b : Balloon) : (bF b).lookup ("over" : Str) = some (.int b.over) := (lk_past (by decide +kernel)).trans ((lk_past (by decide +kernel)).trans ((lk_past (by decide +kernel)).trans lk_here))
theorem fK (b : Balloon) : (bF b).lookup ("leak" : Str) = some (.int b.leak) := (lk_past (by decide +kernel)).trans ((lk_past (by decide +kernel)).trans ((lk_past (by decide +kernel)).trans ((lk_past (by decide +kernel)).trans lk_here)))
theorem fG (b : Balloon) : (bF b).lookup ("gas" : Str) = some (.int b.gas) := (lk_past (by decide +kernel)).trans ((lk_past (by decide +kernel)).trans ((lk_past (by decide +kernel)).trans ((lk_past (by decide +kernel)).trans ((lk_past (by decide +kernel)).trans lk_here))))
theorem fS (b : Balloon) : (bF b).lookup ("sand" : Str) = some (.int b.sand) := (lk_past (by decide +kernel)).trans ((lk_past (by decide +kernel)).trans ((lk_past (by decide +kernel)).trans ((lk_past (by decide +kernel)).trans ((lk_past (by decide +kernel)).trans ((lk_past (by decide +kernel)).trans lk_here)))))
/-- a name that is none of the seven -/
theorem fNo (b : Balloon) {m : Str} (h : (m == "weight") = false ∧ (m == "day") = false ∧ (m == "night") = false ∧ (m == "over") = false ∧ (m == "leak") = false ∧ (m == "gas") = false ∧ (m == "sand") = false) : (bF b).lookup m = none := by
  obtain ⟨h1, h2, h3, h4, h5, h6, h7⟩ := h
  exact (lk_past h1).trans ((lk_past h2).trans ((lk_past h3).trans ((lk_past h4).trans ((lk_past h5).trans ((lk_past h6).trans ((lk_past h7).trans rfl))))))
theorem pW (b : Balloon) (y : Nat) : putF "weight" (.int y) (bF b) = bF { b with weight := y } := put_here
theorem pD (b : Balloon) (y : Nat) : putF "day" (.int y) (bF b) = bF { b with day := y } := (put_past (by decide +kernel)).trans (congrArg _ put_here)
theorem pN (b : Balloon) (y : Nat) : putF "night" (.int y) (bF b) = bF { b with night := y } := (put_past (by decide +kernel)).trans (congrArg _ ((put_past (by decide +kernel)).trans (congrArg _ put_here)))
theorem pO (b : Balloon) (y : Nat) : putF "over" (.int y) (bF b) = bF { b with over := y } := (put_past (by decide +kernel)).trans (congrArg _ ((put_past (by decide +kernel)).trans (congrArg _ ((put_past (by decide +kernel)).trans (congrArg _ put_here)))))
theorem pK (b : Balloon) (y : Nat) : putF "leak" (.int y) (bF b) = bF { b with leak := y } := (put_past (by decide +kernel)).trans (congrArg _ ((put_past (by decide +kernel)).trans (congrArg _ ((put_past (by decide +kernel)).trans (congrArg _ ((put_past (by decide +kernel)).trans (congrArg _ put_here)))))))
theorem pG (b : Balloon) (y : Nat) : putF "gas" (.int y) (bF b) = bF { b with gas := y } := (put_past (by decide +kernel)).trans (congrArg _ ((put_past (by decide +kernel)).trans (congrArg _ ((put_past (by decide +kernel)).trans (congrArg _ ((put_past (by decide +kernel)).trans (congrArg _ ((put_past (by decide +kernel)).trans (congrArg _ put_here)))))))))
theorem pS (b : Balloon) (y : Nat) : putF "sand" (.int y) (bF b) = bF { b with sand := y } := (put_past (by decide +kernel)).trans (congrArg _ ((put_past (by decide +kernel)).trans (congrArg _ ((put_past (by decide +kernel)).trans (congrArg _ ((put_past (by decide +kernel)).trans (congrArg _ ((put_past (by decide +kernel)).trans (congrArg _ ((put_past (by decide +kernel)).trans (congrArg _ put_here)))))))))))
/-- a row of fields that holds more -/
def bFs (l : List (Str × Int)) : List (Str × V) := l.map fun p => (p.1, V.int p.2)
theorem put_new {f : Str} {v : V} : ∀ {r : List (Str × V)}, (∀ p ∈ r, ¬ p.1 = f) → putF f v r = r ++ [(f, v)]
  | [], _ => rfl
  | (g, x) :: r, h => (put_past (h _ (List.Mem.head _))).trans (congrArg _ (put_new fun p hp => h p (List.Mem.tail _ hp)))
/-! ### what the top has written -/
structure Txt (K : PySem.W.Frag) (mg : Str → Option Value) (C : Addr) : Prop where
  cl : Cls K C
  nW : NoAttr K C "weight"
  nD : NoAttr K C "day"
  nN : NoAttr K C "night"
  nO : NoAttr K C "over"
  nK : NoAttr K C "leak"
  nG : NoAttr K C "gas"
  nS : NoAttr K C "sand"
  gC : mg "Balloon" = some (.ref C)
  len : mg "len" = none
  max : mg "max" = none
  min : mg "min" = none
  enum : mg "enumerate" = none
  cNW : ∃ t, mg "NOTHING_WRONG" = some (.int 0 t)
  cTL : ∃ t, mg "TOO_LITTLE_SAND" = some (.int 1 t)
  cCD : ∃ t, mg "COMES_DOWN" = some (.int 2 t)
  cB : ∃ t, mg "BEGINS" = some (.int 0 t)
  cL : ∃ t, mg "LOAD" = some (.int 1 t)
  cC : ∃ t, mg "CHECK" = some (.int 2 t)
  cN : ∃ t, mg "NIGHTS" = some (.int 3 t)
  cNe : ∃ t, mg "NEEDS" = some (.int 4 t)
  cM : ∃ t, mg "MOST" = some (.int 5 t)
  cMN : ∃ t, mg "MOST_NIGHTS" = some (.int 200 t)
  cNT : ∃ t, mg "NOT_AS_TOLD" = some (.int (-1) t)
  cNL : ∃ t, mg "NOT_LIFTED" = some (.int (-3) t)
  cWD : ∃ t, mg "WOULD_NOT_DO" = some (.int (-6) t)
  cMW : ∃ t, mg "MOST_WEIGHT" = some (.int 10000 t)
  cML : ∃ t, mg "MOST_LIFT" = some (.int 100 t)
  cMO : ∃ t, mg "MOST_OVER" = some (.int 10000 t)
  cMK : ∃ t, mg "MOST_LEAK" = some (.int 200 t)
  cMG : ∃ t, mg "MOST_GAS" = some (.int 200 t)
  cMS : ∃ t, mg "MOST_SAND" = some (.int 10000 t)
/-- a module's number as an expression -/
theorem pe_num {X : Cx} {x : Str} {i : Int} {pos : Pos} (hm : ∃ t, X.mg x = some (.int i t)) (hg : Gl X x := by rfl) (hd : (x == ("__debug__" : Str)) = false := by decide) : PE X (.Name x pos) (tC (.int i)) := by
  obtain ⟨t, h⟩ := hm
  exact pe_glob hg h ⟨t, rfl⟩ hd
/-! ### promises -/
def spInit (C : Addr) : Sp := fun vs H Q _ => ∃ (p dx : Addr), vs = [.ref p] ∧ H p = some (.ins C dx []) ∧
  ∀ H' : Hp, BalAt C H' p Si95.init → (∀ b o, H b = some o → b ≠ p → H' b = some o) → Q .non H'
def spLift (C : Addr) : Sp := fun vs H Q _ => ∃ (a : Addr) (b : Balloon) (g s : Int), vs = [.ref a, .int g, .int s] ∧ BalAt C H a b ∧ Ok b ∧ Q (.int (g * (b.day : Int) - ((b.weight : Int) + s))) H
def spDay (C : Addr) : Sp := fun vs H Q _ => ∃ (a : Addr) (b : Balloon) (g s : Nat), vs = [.ref a, .int g, .int s] ∧ BalAt C H a b ∧ Ok b ∧ Q (.int ((b.byDay ⟨g, s⟩).gas : Nat)) H
def wrongN (b : Balloon) (g s t : Nat) : Nat := if s < t then 1 else if b.night * g < b.weight + (s - t) then 2 else 0
def leastN (b : Balloon) (g s : Nat) : Nat := b.weight + s - b.night * g
def spThrow (C : Addr) : Sp := fun vs H Q _ => ∃ (a : Addr) (b : Balloon) (g s : Nat), vs = [.ref a, .int g, .int s] ∧ BalAt C H a b ∧ Ok b ∧ Q (.int (leastN b g s : Nat)) H
/-- all that is new: one list of these numbers -/
def NewL (H : Hp) (zs : List Int) (Q : VK) : Prop := ∀ (H' : Hp) (p : Addr), H p = none → Same H H' → H' p = some (.lst (zs.map V.int)) → Q (.ref p) H'
def spPlan (C : Addr) : Sp := fun vs H Q _ => ∃ (a : Addr) (b : Balloon) (s : Nat), vs = [.ref a, .int s] ∧ BalAt C H a b ∧ Ok b ∧ NewL H (Si95.ints (b.plain (b.gas + 1) ⟨b.gas, s⟩)) Q
def spNts (C : Addr) : Sp := fun vs H Q _ => ∃ (a : Addr) (b : Balloon) (s : Nat), vs = [.ref a, .int s] ∧ BalAt C H a b ∧ Ok b ∧ ∀ H' : Hp, Same H H' → Q (.int (nts b s : Nat)) H'
def spMost (C : Addr) : Sp := fun vs H Q _ => ∃ (a : Addr) (b : Balloon), vs = [.ref a] ∧ BalAt C H a b ∧ Ok b ∧ Q (.int (((b.day * b.gas : Nat) : Int) - (b.weight : Int))) H
def spLeast (C : Addr) : Sp := fun vs H Q _ => ∃ (a : Addr) (b : Balloon) (n e : Nat), vs = [.ref a, .int n, .int e] ∧ BalAt C H a b ∧ Ok b ∧ n ≤ nts b e ∧
  ∀ (x : Nat) (H' : Hp), Same H H' → x ≤ e → n ≤ nts b x → (∀ y, y < x → nts b y < n) → Q (.int x) H'
def spWrong (C : Addr) : Sp := fun vs H Q _ => ∃ (a : Addr) (b : Balloon) (g s t : Nat), vs = [.ref a, .int g, .int s, .int t] ∧ BalAt C H a b ∧ Ok b ∧ Q (.int (wrongN b g s t : Nat)) H
section
variable {P : Program} {w : World} {K : PySem.W.Frag} {mg : Str → Option Value} {base : Heap} {C : Addr}
theorem scI : FnScope ["self"] ["self"] (defScope sInit) := ⟨rfl, rfl, rfl, by decide +kernel, rfl, by decide +kernel, by decide +kernel⟩
theorem init_new : putF "sand" (.int 0) (putF "gas" (.int 1) (putF "leak" (.int 1) (putF "over" (.int 0) (putF "night" (.int 1) (putF "day" (.int 1) (putF "weight" (.int 1) [])))))) = bF Si95.init := by
  have e1 : putF "weight" (.int 1) [] = [(("weight" : Str), V.int 1)] := rfl
  rw [e1]
  rw [put_new (f := "day") (by decide +kernel)]
  rw [put_new (f := "night") (by decide +kernel)]
  rw [put_new (f := "over") (by decide +kernel)]
  rw [put_new (f := "leak") (by decide +kernel)]
  rw [put_new (f := "gas") (by decide +kernel)]
  rw [put_new (f := "sand") (by decide +kernel)]
  rfl
end
end Nb
end

section
set_option Elab.async false
set_option linter.all false
set_option maxRecDepth 100000
set_option maxHeartbeats 4000000
namespace Nb
open PySem PySem.Spec PyProof.Rows L2
open PySem.W (Codec)
open Si95 (Balloon Stand Call)
section
variable {P : Program} {w : World} {K : PySem.W.Frag} {mg : Str → Option Value} {base : Heap} {C : Addr}
theorem d_init {f : Addr} {fd : FuncData} (F : Fun K "__init__" "Balloon.__init__" sInit f fd) (T : Txt K mg C) : FnOk P w K mg base CX0 1 f fd ["self"] (spInit C) := by
  refine F.ok scI (fun vs H Q E h => ?_) (fun cdv A outer s H vs Q E hr h => ?_)
  · obtain ⟨p, dx, rfl, _⟩ := h
    rfl
  · obtain ⟨p, dx, rfl, hp, k⟩ := h
    refine ⟨_, pss_cons (ps_fld (pv 0) pe_int rfl) (pss_cons (ps_fld (pv 0) pe_int rfl) (pss_cons (ps_fld (pv 0) pe_int rfl) (pss_cons (ps_fld (pv 0) pe_int rfl) (pss_cons (ps_fld (pv 0) pe_int rfl) (pss_cons (ps_fld (pv 0) pe_int rfl) (pss_one (ps_fld (pv 0) pe_int rfl))))))), ?_⟩
    refine ⟨_, rfl, p, C, dx, [], rfl, hp, T.cl, T.nW, (by show 0 < 1000; decide), ?_⟩
    refine ⟨_, rfl, p, C, dx, _, rfl, upd_same, T.cl, T.nD, (by show 1 < 1000; decide), ?_⟩
    refine ⟨_, rfl, p, C, dx, _, rfl, upd_same, T.cl, T.nN, (by decide +kernel), ?_⟩
    refine ⟨_, rfl, p, C, dx, _, rfl, upd_same, T.cl, T.nO, (by decide +kernel), ?_⟩
    refine ⟨_, rfl, p, C, dx, _, rfl, upd_same, T.cl, T.nK, (by decide +kernel), ?_⟩
    refine ⟨_, rfl, p, C, dx, _, rfl, upd_same, T.cl, T.nG, (by decide +kernel), ?_⟩
    refine ⟨_, rfl, p, C, dx, _, rfl, upd_same, T.cl, T.nS, (by decide +kernel), ?_⟩
    exact k _ ⟨dx, Eq.trans upd_same (congrArg (fun q => some (HO.ins C dx q)) init_new)⟩ fun b o e hb => by
      rw [upd_ne hb, upd_ne hb, upd_ne hb, upd_ne hb, upd_ne hb, upd_ne hb, upd_ne hb]
      exact e
theorem scLi : FnScope ["self", "gas", "sand"] ["self", "gas", "sand"] (defScope sLift) := ⟨rfl, rfl, rfl, by decide +kernel, rfl, by decide +kernel, by decide +kernel⟩
theorem cmul_day {b : Balloon} (h : Ok b) (g : Int) : CMul g (b.day : Int) := .inr ⟨by have := h.d2; omega, by have := h.d2; omega⟩
theorem d_lift {f : Addr} {fd : FuncData} (F : Fun K "lift_to_spare" "Balloon.lift_to_spare" sLift f fd) (T : Txt K mg C) : FnOk P w K mg base CX0 1 f fd ["self", "gas", "sand"] (spLift C) := by
  refine F.ok scLi (fun vs H Q E h => ?_) (fun cdv A outer s H vs Q E hr h => ?_)
  · obtain ⟨a, b, g, s, rfl, _⟩ := h
    rfl
  · obtain ⟨a, b, g, sd, rfl, ⟨dx, h1⟩, ob, k⟩ := h
    refine ⟨_, pss_one (ps_ret (pe_op op_sub (pe_op op_mul (pv 1) (pe_fld (pv 0) rfl)) (pe_op op_add (pe_fld (pv 0) rfl) (pv 2)))), ?_⟩
    exact ⟨_, rfl, _, rfl, a, C, dx, _, _, rfl, h1, T.cl, T.nD, fD b, _, _, rfl, rfl, cmul_day ob g, _, rfl, a, C, dx, _, _, rfl, h1, T.cl, T.nW, fW b, _, rfl, _, _, rfl, rfl, _, _, rfl, rfl, k⟩
theorem scDa : FnScope ["self", "gas", "sand", "most_kept"] ["self", "gas", "sand"] (defScope sDay) := ⟨rfl, rfl, rfl, by decide +kernel, rfl, by decide +kernel, by decide +kernel⟩
theorem day_eq {b : Balloon} (h : Ok b) (g s : Nat) (m : Int) (hm : m = (((b.weight + s + b.over) / b.day : Nat) : Int)) :
    (if (0 : Int) > (if m < (g : Int) then m else (g : Int)) - (b.leak : Int) then (0 : Int) else (if m < (g : Int) then m else (g : Int)) - (b.leak : Int)) = (((b.byDay ⟨g, s⟩).gas : Nat) : Int) := by
  subst hm
  show _ = ((min g ((b.weight + s + b.over) / b.day) - b.leak : Nat) : Int)
  generalize (b.weight + s + b.over) / b.day = q
  by_cases c : (q : Int) < (g : Int)
  · rw [if_pos c, Nat.min_eq_right (by omega)]
    split <;> omega
  · rw [if_neg c, Nat.min_eq_left (by omega)]
    split <;> omega
theorem d_day {f : Addr} {fd : FuncData} (F : Fun K "gas_after_day" "Balloon.gas_after_day" sDay f fd) (T : Txt K mg C) : FnOk P w K mg base CX0 1 f fd ["self", "gas", "sand"] (spDay C) := by
  refine F.ok scDa (fun vs H Q E h => ?_) (fun cdv A outer s H vs Q E hr h => ?_)
  · obtain ⟨a, b, g, s, rfl, _⟩ := h
    rfl
  · obtain ⟨a, b, g, sd, rfl, ⟨dx, h1⟩, ob, k⟩ := h
    refine ⟨_, pss_cons (ps_set (i := 3) scDa.nd rfl (Or.inl rfl) (pe_op op_fdiv (pe_op op_add (pe_op op_add (pe_fld (pv 0) rfl) (pv 2)) (pe_fld (pv 0) rfl)) (pe_fld (pv 0) rfl)))
      (pss_one (ps_ret (pe_callB (call_max2 rfl) (by rfl) T.max (by decide +kernel) (pa_cons (pe_op op_sub (pe_callB (call_min2 rfl) (by rfl) T.min (by decide +kernel) (pa_cons (pv 1) (pa_cons (pv 3) pa_nil))) (pe_fld (pv 0) rfl)) (pa_cons pe_int pa_nil))))), ?_⟩
    refine ⟨_, rfl, a, C, dx, _, _, rfl, h1, T.cl, T.nW, fW b, _, rfl, _, _, rfl, rfl, _, rfl, a, C, dx, _, _, rfl, h1, T.cl, T.nO, fO b, _, _, rfl, rfl, _, rfl, a, C, dx, _, _, rfl, h1, T.cl, T.nD, fD b, _, _, rfl, rfl, ⟨by have := ob.d1; omega, by have := ob.d2; omega⟩, ?_⟩
    refine ⟨_, rfl, _, rfl, _, _, rfl, _, rfl, a, C, dx, _, _, rfl, h1, T.cl, T.nK, fK b, _, _, rfl, rfl, _, _, rfl, ?_⟩
    have e := day_eq ob g sd (((b.weight : Int) + (sd : Int) + (b.over : Int)) / (b.day : Int)) (by
      rw [Int.natCast_ediv, Int.natCast_add, Int.natCast_add])
    rw [e]
    exact k
theorem cmul_night {b : Balloon} (h : Ok b) (g : Int) : CMul g (b.night : Int) := .inr ⟨by have := h.d2; have := h.n2; omega, by have := h.d2; have := h.n2; omega⟩
theorem scTh : FnScope ["self", "gas", "sand"] ["self", "gas", "sand"] (defScope sThrow) := ⟨rfl, rfl, rfl, by decide +kernel, rfl, by decide +kernel, by decide +kernel⟩
theorem least_eq (b : Balloon) (g s : Nat) :
    (if (0 : Int) > ((b.weight : Int) + (s : Int)) - (g : Int) * (b.night : Int) then (0 : Int) else ((b.weight : Int) + (s : Int)) - (g : Int) * (b.night : Int)) = ((leastN b g s : Nat) : Int) := by
  have e : ((g : Int) * (b.night : Int)) = ((b.night * g : Nat) : Int) := by rw [Int.natCast_mul, Int.mul_comm]
  rw [e]
  unfold leastN
  generalize b.night * g = m
  split <;> omega
theorem d_throw {f : Addr} {fd : FuncData} (F : Fun K "least_to_throw" "Balloon.least_to_throw" sThrow f fd) (T : Txt K mg C) : FnOk P w K mg base CX0 1 f fd ["self", "gas", "sand"] (spThrow C) := by
  refine F.ok scTh (fun vs H Q E h => ?_) (fun cdv A outer s H vs Q E hr h => ?_)
  · obtain ⟨a, b, g, s, rfl, _⟩ := h
    rfl
  · obtain ⟨a, b, g, sd, rfl, ⟨dx, h1⟩, ob, k⟩ := h
    refine ⟨_, pss_one (ps_ret (pe_callB (call_max2 rfl) (by rfl) T.max (by decide +kernel) (pa_cons (pe_op op_sub (pe_op op_add (pe_fld (pv 0) rfl) (pv 2)) (pe_op op_mul (pv 1) (pe_fld (pv 0) rfl))) (pa_cons pe_int pa_nil)))), ?_⟩
    refine ⟨_, rfl, a, C, dx, _, _, rfl, h1, T.cl, T.nW, fW b, _, rfl, _, _, rfl, rfl, _, rfl, _, rfl, a, C, dx, _, _, rfl, h1, T.cl, T.nN, fN b, _, _, rfl, rfl, cmul_night ob g, _, _, rfl, rfl, _, _, rfl, ?_⟩
    rw [least_eq b g sd]
    exact k
theorem scWr : FnScope ["self", "gas", "sand", "thrown"] ["self", "gas", "sand", "thrown"] (defScope sWrong) := ⟨rfl, rfl, rfl, by decide +kernel, rfl, by decide +kernel, by decide +kernel⟩
theorem d_wrong {f fT : Addr} {fd fdT : FuncData} (F : Fun K "wrong_by_night" "Balloon.wrong_by_night" sWrong f fd) (T : Txt K mg C)
    (FT : Fun K "least_to_throw" "Balloon.least_to_throw" sThrow fT fdT) (bT : Binds K fdT ["self", "gas", "sand"] []) (mT : Meth K C "least_to_throw" fT) : FnOk P w K mg base CX0 2 f fd ["self", "gas", "sand", "thrown"] (spWrong C) := by
  have GT : FnOk P w K mg base CX0 1 fT fdT ["self", "gas", "sand"] (spThrow C) := d_throw FT T
  refine F.ok scWr (fun vs H Q E h => ?_) (fun cdv A outer s H vs Q E hr h => ?_)
  · obtain ⟨a, b, g, s, t, rfl, _⟩ := h
    rfl
  · obtain ⟨a, b, g, sd, t, rfl, ⟨dx, h1⟩, ob, k⟩ := h
    refine ⟨_, pss_cons (ps_if (pt_cmpR op_gt (pv 3) (pv 2) (nomark _)) (pss_one (ps_ret (pe_num T.cTL))) pss_nil)
      (pss_cons (ps_if (pt_cmpR op_lt (pv 3) (pe_meth (pv 0) T.cl mT GT hr bT .nil pass0 (pa_cons (pv 1) (pa_cons (pv 2) pa_nil))) (nomark _)) (pss_one (ps_ret (pe_num T.cCD))) pss_nil)
      (pss_one (ps_ret (pe_num T.cNW)))), ?_⟩
    refine ⟨_, rfl, _, rfl, _, _, rfl, rfl, _, rfl, ?_⟩
    unfold wrongN at k
    by_cases c : sd < t
    · rw [if_pos c] at k
      exact if_t (decide_eq_true (by omega)) k
    · rw [if_neg c] at k
      refine if_f (decide_eq_false (by omega)) ?_
      refine ⟨_, rfl, _, rfl, a, dx, _, rfl, h1, fNo b (by decide +kernel), _, rfl, _, rfl, a, b, g, sd, rfl, ⟨dx, h1⟩, ob, _, _, rfl, rfl, _, rfl, ?_⟩
      have e : leastN b g sd = b.weight + sd - b.night * g := rfl
      by_cases d : b.night * g < b.weight + (sd - t)
      · rw [if_pos d] at k
        exact if_t (decide_eq_true (by rw [e]; omega)) k
      · rw [if_neg d] at k
        exact if_f (decide_eq_false (by rw [e]; omega)) k
end
end Nb
end

section
set_option Elab.async false
set_option linter.all false
set_option maxRecDepth 100000
set_option maxHeartbeats 4000000
namespace Nb
open PySem PySem.Spec PyProof.Rows L2
open PySem.W (Codec)
open Si95 (Balloon Stand Call)
/-! ### expressions that only give a value -/
def Gv (t : TE) (σ : L2.St) (H : Hp) (v : V) : Prop := ∀ Q : VK, Q v H → t σ H Q
def Gt (t : TT) (σ : L2.St) (H : Hp) (b : Bool) : Prop := ∀ Q : Bool → Hp → Prop, Q b H → t σ H Q
theorem gv_var {i : Nat} {σ : L2.St} {H : Hp} {v : V} (h : σ[i]? = some (some v)) : Gv (tVar i) σ H v := fun _ q => ⟨v, h, q⟩
theorem gv_c {v : V} {σ : L2.St} {H : Hp} : Gv (tC v) σ H v := fun _ q => q
theorem gv_op {ta tb : TE} {g : Int → Int → V} {σ : L2.St} {H : Hp} {i j : Int} (ha : Gv ta σ H (.int i)) (hb : Gv tb σ H (.int j)) : Gv (tOp (rI0 g) ta tb) σ H (g i j) :=
  fun _ q => ha _ (hb _ ⟨i, j, rfl, rfl, q⟩)
theorem gv_opC {ta tb : TE} {c : Int → Int → Prop} {g : Int → Int → V} {σ : L2.St} {H : Hp} {i j : Int} (ha : Gv ta σ H (.int i)) (hb : Gv tb σ H (.int j)) (hc : c i j) : Gv (tOp (rI c g) ta tb) σ H (g i j) :=
  fun _ q => ha _ (hb _ ⟨i, j, rfl, rfl, hc, q⟩)
theorem gt_of {t : TE} {σ : L2.St} {H : Hp} {b : Bool} (h : Gv t σ H (.bl b)) : Gt (tTest t) σ H b := fun _ q => h _ ⟨b, rfl, q⟩
theorem gt_chain {ta tb tc : TE} {σ : L2.St} {H : Hp} {i j k : Int} (ha : Gv ta σ H (.int i)) (hb : Gv tb σ H (.int j)) (hc : Gv tc σ H (.int k)) :
    Gt (tTest (tChain (rI0 fun i j => .bl (decide (i ≤ j))) (rI0 fun i j => .bl (decide (i ≤ j))) ta tb tc)) σ H (decide (i ≤ j ∧ j ≤ k)) := by
  intro Q q
  refine ha _ (hb _ ⟨i, j, rfl, rfl, decide (i ≤ j), rfl, ?_⟩)
  by_cases c : i ≤ j
  · refine if_t (decide_eq_true c) (hc _ ⟨j, k, rfl, rfl, decide (j ≤ k), rfl, ?_⟩)
    have e : decide (i ≤ j ∧ j ≤ k) = decide (j ≤ k) := by simp [c]
    rw [e] at q; exact q
  · refine if_f (decide_eq_false c) ⟨false, rfl, ?_⟩
    have e : decide (i ≤ j ∧ j ≤ k) = false := by simp [c]
    rw [e] at q; exact q
theorem gt_and {t u : TT} {σ : L2.St} {H : Hp} {a b : Bool} (ha : Gt t σ H a) (hb : Gt u σ H b) : Gt (tAnd t u) σ H (a && b) := by
  intro Q q
  refine ha _ ?_
  cases a with
  | true => exact if_t rfl (hb _ q)
  | false => exact if_f rfl q
theorem gt_or {t u : TT} {σ : L2.St} {H : Hp} {a b : Bool} (ha : Gt t σ H a) (hb : Gt u σ H b) : Gt (tOr t u) σ H (a || b) := by
  intro Q q
  refine ha _ ?_
  cases a with
  | true => exact if_t rfl q
  | false => exact if_f rfl (hb _ q)
theorem gt_not {t : TT} {σ : L2.St} {H : Hp} {a : Bool} (ha : Gt t σ H a) : Gt (tNot t) σ H (!a) := fun _ q => ha _ q
/-- an if whose test only gives a value -/
theorem rd_if {c : TT} {t u : TS} {D : Ends} {σ : L2.St} {H : Hp} {b : Bool} (h : Gt c σ H b) (ht : b = true → t D σ H) (hu : b = false → u D σ H) : tIfS c t u D σ H := by
  refine h _ ?_
  cases b with
  | true => exact if_t rfl (ht rfl)
  | false => exact if_f rfl (hu rfl)
theorem rd_seq {t u : TS} {D : Ends} {σ : L2.St} {H : Hp} (h : t { D with nx := u D } σ H) : tSeq t u D σ H := h
/-! ### what an operation's def hands back: a new list, the balloon as it is then, all else as it was -/
def Back (C : Addr) (H : Hp) (a : Addr) (b : Balloon) (zs : List Int) (Q : VK) : Prop :=
  ∀ (H' : Hp) (p : Addr), H p = none → H' p = some (.lst (zs.map V.int)) → BalAt C H' a b → (∀ x o, H x = some o → x ≠ a → H' x = some o) → Q (.ref p) H'
def spBegins (C : Addr) : Sp := fun vs H Q _ => ∃ (a : Addr) (b : Balloon) (w d n o k : Nat), vs = [.ref a, .int w, .int d, .int n, .int o, .int k] ∧ BalAt C H a b ∧ Ok b ∧
  Back C H a (Si95.step b (.begins w d n o k)).1 (ans (Si95.step b (.begins w d n o k)).2) Q
def spLoad (C : Addr) : Sp := fun vs H Q _ => ∃ (a : Addr) (b : Balloon) (g s : Nat), vs = [.ref a, .int g, .int s] ∧ BalAt C H a b ∧ Ok b ∧
  Back C H a (Si95.step b (.load g s)).1 (ans (Si95.step b (.load g s)).2) Q
def spCheck (K : PySem.W.Frag) (C : Addr) : Sp := fun vs H Q _ => ∃ (a l : Addr) (b : Balloon) (ns : List Nat), vs = [.ref a, .ref l] ∧ BalAt C H a b ∧ Ok b ∧ SqL K H l (ns.map fun (n : Nat) => V.int n) ∧ ns.length ≤ 40 ∧
  Back C H a b (ans (Si95.step b (.check ns)).2) Q
/-- the new list handed back, nothing else changed -/
theorem Back.same {C : Addr} {H H1 : Hp} {a p : Addr} {b : Balloon} {zs : List Int} {Q : VK} (k : Back C H a b zs Q) (ha : BalAt C H a b) (s : Same H H1) (hp : H1 p = none) : Q (.ref p) (upd H1 p (.lst (zs.map V.int))) := by
  obtain ⟨dx, h1⟩ := ha
  refine k _ p (s.free hp) upd_same ⟨dx, ?_⟩ fun x o e _ => ?_
  · rw [upd_ne (ne_of_none (s _ _ h1) hp)]; exact s _ _ h1
  · rw [upd_ne (ne_of_none (s _ _ e) hp)]; exact s _ _ e
section
variable {P : Program} {w : World} {K : PySem.W.Frag} {mg : Str → Option Value} {base : Heap} {C : Addr}
theorem scBe : FnScope ["balloon", "weight", "day", "night", "over", "leak"] ["balloon", "weight", "day", "night", "over", "leak"] (defScope sBegins) := ⟨rfl, rfl, rfl, by decide +kernel, rfl, by decide +kernel, by decide +kernel⟩
theorem begins_bad {b : Balloon} {w d n o k : Nat} (h : w < 1 ∨ 10000 < w ∨ n < 1 ∨ d < n ∨ 100 < d ∨ 10000 < o ∨ k < 1 ∨ 200 < k) : Si95.step b (.begins w d n o k) = (b, Si95.ok (-1)) := if_pos h
theorem begins_good {b : Balloon} {w d n o k : Nat} (h : ¬ (w < 1 ∨ 10000 < w ∨ n < 1 ∨ d < n ∨ 100 < d ∨ 10000 < o ∨ k < 1 ∨ 200 < k)) : Si95.step b (.begins w d n o k) = (⟨w, d, n, o, k, 1, 0⟩, Si95.ok 0) := if_neg h
theorem d_begins {f : Addr} {fd : FuncData} (F : Fun K "begins" "begins" sBegins f fd) (T : Txt K mg C) : FnOk P w K mg base CX0 1 f fd ["balloon", "weight", "day", "night", "over", "leak"] (spBegins C) := by
  refine F.ok scBe (fun vs H Q E h => ?_) (fun cdv A outer s H vs Q E hr h => ?_)
  · obtain ⟨a, b, w, d, n, o, k, rfl, _⟩ := h
    rfl
  · obtain ⟨a, b, wt, d, n, o, lk, rfl, hb, ob, k⟩ := h
    refine ⟨_, (pss_cons (ps_if (pt_not (PW.pt (pw_and (pt_chain op_le op_le pe_int (pv 1) (pe_num T.cMW)) (pw_and (pt_chain op_le op_le pe_int (pv 2) (pe_num T.cML)) (pw_and1 (pt_chain op_le op_le pe_int (pv 3) (pv 2))))))) (pss_one (ps_ret (pe_lst (pa_cons (pe_num T.cNT) pa_nil)))) pss_nil)
      (pss_cons (ps_if (pt_not (PW.pt (pw_and (pt_chain op_le op_le pe_int (pv 4) (pe_num T.cMO)) (pw_and1 (pt_chain op_le op_le pe_int (pv 5) (pe_num T.cMK)))))) (pss_one (ps_ret (pe_lst (pa_cons (pe_num T.cNT) pa_nil)))) pss_nil)
      (pss_cons (ps_fld (pv 0) (pv 1) rfl)
      (pss_cons (ps_fld (pv 0) (pv 2) rfl)
      (pss_cons (ps_fld (pv 0) (pv 3) rfl)
      (pss_cons (ps_fld (pv 0) (pv 4) rfl)
      (pss_cons (ps_fld (pv 0) (pv 5) rfl)
      (pss_cons (ps_fld (pv 0) pe_int rfl)
      (pss_cons (ps_fld (pv 0) pe_int rfl)
      (pss_one (ps_ret (pe_lst (pa_cons pe_int pa_nil))))))))))))), ?_⟩
    refine rd_seq (rd_if (gt_not (gt_and (gt_chain gv_c (gv_var rfl) gv_c) (gt_and (gt_chain gv_c (gv_var rfl) gv_c) (gt_chain gv_c (gv_var rfl) (gv_var rfl))))) (fun c => ?_) (fun c => ?_))
    · have c' : wt < 1 ∨ 10000 < wt ∨ n < 1 ∨ d < n ∨ 100 < d ∨ 10000 < o ∨ lk < 1 ∨ 200 < lk := by
        simp only [Bool.not_eq_true', Bool.and_eq_false_iff, decide_eq_false_iff_not] at c
        omega
      rw [begins_bad c'] at k
      exact ⟨by show 1 ≤ sizeLine; decide, fun p hp => k.same hb (Same.refl _) hp⟩
    · refine rd_seq (rd_if (gt_not (gt_and (gt_chain gv_c (gv_var rfl) gv_c) (gt_chain gv_c (gv_var rfl) gv_c))) (fun c2 => ?_) (fun c2 => ?_))
      · have c' : wt < 1 ∨ 10000 < wt ∨ n < 1 ∨ d < n ∨ 100 < d ∨ 10000 < o ∨ lk < 1 ∨ 200 < lk := by
          simp only [Bool.not_eq_true', Bool.and_eq_false_iff, decide_eq_false_iff_not] at c2
          omega
        rw [begins_bad c'] at k
        exact ⟨by show 1 ≤ sizeLine; decide, fun p hp => k.same hb (Same.refl _) hp⟩
      · have c' : ¬ (wt < 1 ∨ 10000 < wt ∨ n < 1 ∨ d < n ∨ 100 < d ∨ 10000 < o ∨ lk < 1 ∨ 200 < lk) := by
          simp only [Bool.not_eq_false', Bool.and_eq_true, decide_eq_true_eq] at c c2
          omega
        rw [begins_good c'] at k
        obtain ⟨dx, h1⟩ := hb
        refine ⟨_, rfl, _, rfl, a, C, dx, _, rfl, h1, T.cl, T.nW, (by show 7 < 1000; decide), ?_⟩
        rw [pW]
        refine ⟨_, rfl, _, rfl, a, C, dx, _, rfl, upd_same, T.cl, T.nD, (by show 7 < 1000; decide), ?_⟩
        rw [pD]
        refine ⟨_, rfl, _, rfl, a, C, dx, _, rfl, upd_same, T.cl, T.nN, (by show 7 < 1000; decide), ?_⟩
        rw [pN]
        refine ⟨_, rfl, _, rfl, a, C, dx, _, rfl, upd_same, T.cl, T.nO, (by show 7 < 1000; decide), ?_⟩
        rw [pO]
        refine ⟨_, rfl, _, rfl, a, C, dx, _, rfl, upd_same, T.cl, T.nK, (by show 7 < 1000; decide), ?_⟩
        rw [pK]
        refine ⟨_, rfl, a, C, dx, _, rfl, upd_same, T.cl, T.nG, (by show 7 < 1000; decide), ?_⟩
        refine ⟨_, rfl, a, C, dx, _, rfl, upd_same, T.cl, T.nS, (by rw [show (1 : Int) = ((1 : Nat) : Int) from rfl, pG]; show 7 < 1000; decide), ?_⟩
        refine ⟨by show 1 ≤ sizeLine; decide, fun p hp => ?_⟩
        have hpa : H p = none := by
          cases e : H p with
          | none => rfl
          | some o' =>
            by_cases ea : p = a
            · subst ea
              rw [upd_same] at hp
              cases hp
            · rw [upd_ne ea, upd_ne ea, upd_ne ea, upd_ne ea, upd_ne ea, upd_ne ea, upd_ne ea, e] at hp
              cases hp
        have nap : a ≠ p := ne_of_none h1 hpa
        refine k _ p hpa upd_same ⟨dx, ?_⟩ fun x o' e hx => ?_
        · rw [upd_ne nap, upd_same]
          rw [show (1 : Int) = ((1 : Nat) : Int) from rfl, pG, show (0 : Int) = ((0 : Nat) : Int) from rfl, pS]
        · rw [upd_ne (ne_of_none e hpa), upd_ne hx, upd_ne hx, upd_ne hx, upd_ne hx, upd_ne hx, upd_ne hx, upd_ne hx]
          exact e
end
end Nb
end

section
set_option Elab.async false
set_option linter.all false
set_option maxRecDepth 100000
set_option maxHeartbeats 4000000
namespace Nb
open PySem PySem.Spec PyProof.Rows L2
open PySem.W (Codec)
open Si95 (Balloon Stand Call)
section
variable {P : Program} {w : World} {K : PySem.W.Frag} {mg : Str → Option Value} {base : Heap} {C : Addr}
/-! ### load -/
theorem scLo : FnScope ["balloon", "gas", "sand", "spare"] ["balloon", "gas", "sand"] (defScope sLoad) := ⟨rfl, rfl, rfl, by decide +kernel, rfl, by decide +kernel, by decide +kernel⟩
theorem load_bad {b : Balloon} {g s : Nat} (h : g < 1 ∨ 200 < g ∨ 10000 < s) : Si95.step b (.load g s) = (b, Si95.ok (-1)) := if_pos h
theorem load_heavy {b : Balloon} {g s : Nat} (h : ¬ (g < 1 ∨ 200 < g ∨ 10000 < s)) (h2 : b.day * g < b.weight + s) : Si95.step b (.load g s) = (b, Si95.ok (-6)) := by
  have e : ({ b with gas := g, sand := s } : Balloon).lifts = false := decide_eq_false (by show ¬ b.weight + s ≤ b.day * g; omega)
  exact (if_neg h).trans (if_pos e)
theorem load_good {b : Balloon} {g s : Nat} (h : ¬ (g < 1 ∨ 200 < g ∨ 10000 < s)) (h2 : ¬ b.day * g < b.weight + s) : Si95.step b (.load g s) = ({ b with gas := g, sand := s }, Si95.ok ((b.day * g - b.weight - s : Nat) : Int)) := by
  have e : ¬ ({ b with gas := g, sand := s } : Balloon).lifts = false := by
    have e2 : ({ b with gas := g, sand := s } : Balloon).lifts = true := decide_eq_true (by show b.weight + s ≤ b.day * g; omega)
    rw [e2]; exact Bool.noConfusion
  exact (if_neg h).trans (if_neg e)
theorem spare_eq (b : Balloon) (g s : Nat) : ((g : Int) * (b.day : Int) - ((b.weight : Int) + (s : Int))) = ((b.day * g : Nat) : Int) - ((b.weight + s : Nat) : Int) := by
  rw [Int.natCast_mul, Int.mul_comm (g : Int), Int.natCast_add]
theorem d_load {f fL : Addr} {fd fdL : FuncData} (F : Fun K "load" "load" sLoad f fd) (T : Txt K mg C) (FL : Fun K "lift_to_spare" "Balloon.lift_to_spare" sLift fL fdL) (bL : Binds K fdL ["self", "gas", "sand"] []) (mL : Meth K C "lift_to_spare" fL) :
    FnOk P w K mg base CX0 2 f fd ["balloon", "gas", "sand"] (spLoad C) := by
  have GL : FnOk P w K mg base CX0 1 fL fdL ["self", "gas", "sand"] (spLift C) := d_lift FL T
  refine F.ok scLo (fun vs H Q E h => ?_) (fun cdv A outer s H vs Q E hr h => ?_)
  · obtain ⟨a, b, g, s, rfl, _⟩ := h
    rfl
  · obtain ⟨a, b, g, sd, rfl, hb, ob, k⟩ := h
    refine ⟨_, (pss_cons (ps_if (pt_not (PW.pt (pw_and (pt_chain op_le op_le pe_int (pv 1) (pe_num T.cMG)) (pw_and1 (pt_chain op_le op_le pe_int (pv 2) (pe_num T.cMS)))))) (pss_one (ps_ret (pe_lst (pa_cons (pe_num T.cNT) pa_nil)))) pss_nil)
      (pss_cons (ps_set (i := 3) scLo.nd rfl (Or.inl rfl) (pe_meth (pv 0) T.cl mL GL hr bL .nil pass0 (pa_cons (pv 1) (pa_cons (pv 2) pa_nil))))
      (pss_cons (ps_if (pt_cmpR op_lt (pv 3) pe_int (nomark _)) (pss_one (ps_ret (pe_lst (pa_cons (pe_num T.cWD) pa_nil)))) pss_nil)
      (pss_cons (ps_fld (pv 0) (pv 1) rfl)
      (pss_cons (ps_fld (pv 0) (pv 2) rfl)
      (pss_one (ps_ret (pe_lst (pa_cons (pv 3) pa_nil))))))))), ?_⟩
    refine rd_seq (rd_if (gt_not (gt_and (gt_chain gv_c (gv_var rfl) gv_c) (gt_chain gv_c (gv_var rfl) gv_c))) (fun c => ?_) (fun c => ?_))
    · have c' : g < 1 ∨ 200 < g ∨ 10000 < sd := by
        simp only [Bool.not_eq_true', Bool.and_eq_false_iff, decide_eq_false_iff_not] at c
        omega
      rw [load_bad c'] at k
      exact ⟨by show 1 ≤ sizeLine; decide, fun p hp => k.same hb (Same.refl _) hp⟩
    · have c' : ¬ (g < 1 ∨ 200 < g ∨ 10000 < sd) := by
        simp only [Bool.not_eq_false', Bool.and_eq_true, decide_eq_true_eq] at c
        omega
      obtain ⟨dx, h1⟩ := id hb
      refine ⟨_, rfl, a, dx, _, rfl, h1, fNo b (by decide +kernel), _, rfl, _, rfl, a, b, g, sd, rfl, hb, ob, ?_⟩
      refine ⟨_, rfl, _, _, rfl, rfl, _, rfl, ?_⟩
      have e := spare_eq b g sd
      by_cases d : b.day * g < b.weight + sd
      · refine if_t (decide_eq_true (by rw [e]; omega)) ?_
        rw [load_heavy c' d] at k
        exact ⟨by show 1 ≤ sizeLine; decide, fun p hp => k.same hb (Same.refl _) hp⟩
      · refine if_f (decide_eq_false (by rw [e]; omega)) ?_
        rw [load_good c' d] at k
        refine ⟨_, rfl, _, rfl, a, C, dx, _, rfl, h1, T.cl, T.nG, (by show 7 < 1000; decide), ?_⟩
        rw [pG]
        refine ⟨_, rfl, _, rfl, a, C, dx, _, rfl, upd_same, T.cl, T.nS, (by show 7 < 1000; decide), ?_⟩
        rw [pS]
        refine ⟨_, rfl, (by show 1 ≤ sizeLine; decide), fun p hp => ?_⟩
        have hpa : H p = none := by
          cases e : H p with
          | none => rfl
          | some o' =>
            by_cases ea : p = a
            · subst ea
              rw [upd_same] at hp
              cases hp
            · rw [upd_ne ea, upd_ne ea, e] at hp
              cases hp
        have nap : a ≠ p := ne_of_none h1 hpa
        refine k _ p hpa ?_ ⟨dx, ?_⟩ fun x o' e hx => ?_
        · have e2 : ((g : Int) * (b.day : Int) - ((b.weight : Int) + (sd : Int))) = ((b.day * g - b.weight - sd : Nat) : Int) := by rw [e]; omega
          rw [e2]
          exact upd_same
        · rw [upd_ne nap, upd_same]
        · rw [upd_ne (ne_of_none e hpa), upd_ne hx, upd_ne hx]
          exact e
end
end Nb
end

section
set_option Elab.async false
set_option linter.all false
set_option maxRecDepth 100000
set_option maxHeartbeats 4000000
namespace Nb
open PySem PySem.Spec PyProof.Rows L2
open PySem.W (Codec)
open Si95 (Balloon Stand Call)
/-! ### the plan, night by night -/
theorem goes_ok_more {b : Balloon} : ∀ (l r : List Nat) (k : Nat) (s d : Stand), b.goes k s l = .ok d → b.goes k s (l ++ r) = b.goes (k + l.length) d r
  | [], r, k, s, d, h => by
    have e : s = d := Except.ok.inj h
    subst e; rfl
  | t :: l, r, k, s, d, h => by
    have u : ∀ m : List Nat, b.goes k s (t :: m) = if (b.byDay s).sand < t then .error (k, 1) else if b.up (Balloon.byNight (b.byDay s) t) = false then .error (k, 2) else b.goes (k + 1) (Balloon.byNight (b.byDay s) t) m := fun _ => rfl
    rw [u] at h
    rw [List.cons_append, u]
    by_cases c1 : (b.byDay s).sand < t
    · rw [if_pos c1] at h; cases h
    · rw [if_neg c1] at h ⊢
      by_cases c2 : b.up (Balloon.byNight (b.byDay s) t) = false
      · rw [if_pos c2] at h; cases h
      · rw [if_neg c2] at h ⊢
        rw [goes_ok_more l r _ _ d h, List.length_cons]
        congr 1
        omega
theorem goes_err_more {b : Balloon} : ∀ (l r : List Nat) (k : Nat) (s : Stand) (e : Nat × Nat), b.goes k s l = .error e → b.goes k s (l ++ r) = .error e
  | [], r, k, s, e, h => by cases h
  | t :: l, r, k, s, e, h => by
    have u : ∀ m : List Nat, b.goes k s (t :: m) = if (b.byDay s).sand < t then .error (k, 1) else if b.up (Balloon.byNight (b.byDay s) t) = false then .error (k, 2) else b.goes (k + 1) (Balloon.byNight (b.byDay s) t) m := fun _ => rfl
    rw [u] at h
    rw [List.cons_append, u]
    by_cases c1 : (b.byDay s).sand < t
    · rw [if_pos c1] at h ⊢; exact h
    · rw [if_neg c1] at h ⊢
      by_cases c2 : b.up (Balloon.byNight (b.byDay s) t) = false
      · rw [if_pos c2] at h ⊢; exact h
      · rw [if_neg c2] at h ⊢
        exact goes_err_more l r _ _ e h
/-- one night more: the program's own number for what is wrong -/
theorem goes_one {b : Balloon} (k g s t : Nat) : b.goes k ⟨g, s⟩ [t] = if wrongN b (b.byDay ⟨g, s⟩).gas s t = 0 then .ok ⟨(b.byDay ⟨g, s⟩).gas, s - t⟩ else .error (k, wrongN b (b.byDay ⟨g, s⟩).gas s t) := by
  have u : b.goes k ⟨g, s⟩ [t] = if s < t then .error (k, 1) else if b.up ⟨(b.byDay ⟨g, s⟩).gas, s - t⟩ = false then .error (k, 2) else .ok ⟨(b.byDay ⟨g, s⟩).gas, s - t⟩ := rfl
  rw [u]
  unfold wrongN
  by_cases c1 : s < t
  · rw [if_pos c1, if_pos c1, if_neg (by decide)]
  · rw [if_neg c1, if_neg c1]
    by_cases c2 : b.night * (b.byDay ⟨g, s⟩).gas < b.weight + (s - t)
    · have e : b.up ⟨(b.byDay ⟨g, s⟩).gas, s - t⟩ = false := decide_eq_false (by show ¬ b.weight + (s - t) ≤ b.night * (b.byDay ⟨g, s⟩).gas; omega)
      rw [if_pos e, if_pos c2, if_neg (by decide)]
    · have e : b.up ⟨(b.byDay ⟨g, s⟩).gas, s - t⟩ = true := decide_eq_true (by show b.weight + (s - t) ≤ b.night * (b.byDay ⟨g, s⟩).gas; omega)
      rw [e, if_neg Bool.noConfusion, if_neg c2, if_pos rfl]
theorem check_low {b : Balloon} {l : List Nat} (h : b.day * b.gas < b.weight + b.sand) : Si95.step b (.check l) = (b, Si95.ok (-3)) := by
  have e : b.lifts = false := decide_eq_false (by omega)
  exact if_pos e
theorem check_high {b : Balloon} {l : List Nat} (h : ¬ b.day * b.gas < b.weight + b.sand) : Si95.step b (.check l) = (b, match b.goes 0 b.begun l with
    | .error x => ⟨-6, Si95.ints [x.1, x.2]⟩
    | .ok s => ⟨((l.length : Nat) : Int), Si95.ints [s.gas, s.sand]⟩) := by
  have e : b.lifts = true := decide_eq_true (by omega)
  refine if_neg ?_
  rw [e]; exact Bool.noConfusion
theorem check_ok {b : Balloon} {l : List Nat} {s : Stand} (h : ¬ b.day * b.gas < b.weight + b.sand) (g : b.goes 0 b.begun l = .ok s) : ans (Si95.step b (.check l)).2 = [(l.length : Int), (s.gas : Int), (s.sand : Int)] := by
  rw [check_high h, g]; rfl
theorem check_err {b : Balloon} {l : List Nat} {x : Nat × Nat} (h : ¬ b.day * b.gas < b.weight + b.sand) (g : b.goes 0 b.begun l = .error x) : ans (Si95.step b (.check l)).2 = [-6, (x.1 : Int), (x.2 : Int)] := by
  rw [check_high h, g]; rfl
theorem take_more {α : Type} : ∀ {l : List α} {i : Nat} {x : α}, l[i]? = some x → l.take (i + 1) = l.take i ++ [x]
  | [], i, x, h => by simp at h
  | a :: l, 0, x, h => by
    have e : a = x := Option.some.inj h
    subst e
    rfl
  | a :: l, i + 1, x, h => by
    have ih := take_more (l := l) (i := i) (x := x) h
    show a :: l.take (i + 1) = a :: l.take i ++ [x]
    rw [ih]
    rfl
section
variable {P : Program} {w : World} {K : PySem.W.Frag} {mg : Str → Option Value} {base : Heap} {C : Addr}
theorem scCh : FnScope ["balloon", "plan", "gas", "sand", "night", "thrown", "wrong"] ["balloon", "plan"] (defScope sCheck) := ⟨rfl, rfl, rfl, by decide +kernel, rfl, by decide +kernel, by decide +kernel⟩
theorem d_check {f fL fD fW fT : Addr} {fd fdL fdD fdW fdT : FuncData} (F : Fun K "check" "check" sCheck f fd) (T : Txt K mg C)
    (FL : Fun K "lift_to_spare" "Balloon.lift_to_spare" sLift fL fdL) (bL : Binds K fdL ["self", "gas", "sand"] []) (mL : Meth K C "lift_to_spare" fL)
    (FD : Fun K "gas_after_day" "Balloon.gas_after_day" sDay fD fdD) (bD : Binds K fdD ["self", "gas", "sand"] []) (mD : Meth K C "gas_after_day" fD)
    (FW : Fun K "wrong_by_night" "Balloon.wrong_by_night" sWrong fW fdW) (bW : Binds K fdW ["self", "gas", "sand", "thrown"] []) (mW : Meth K C "wrong_by_night" fW)
    (FT : Fun K "least_to_throw" "Balloon.least_to_throw" sThrow fT fdT) (bT : Binds K fdT ["self", "gas", "sand"] []) (mT : Meth K C "least_to_throw" fT) :
    FnOk P w K mg base CX0 3 f fd ["balloon", "plan"] (spCheck K C) := by
  have GL : FnOk P w K mg base CX0 1 fL fdL ["self", "gas", "sand"] (spLift C) := d_lift FL T
  have GD : FnOk P w K mg base CX0 1 fD fdD ["self", "gas", "sand"] (spDay C) := d_day FD T
  have GW : FnOk P w K mg base CX0 2 fW fdW ["self", "gas", "sand", "thrown"] (spWrong C) := d_wrong FW T FT bT mT
  refine F.ok scCh (fun vs H Q E h => ?_) (fun cdv A outer s H vs Q E hr h => ?_)
  · obtain ⟨a, l, b, ns, rfl, _⟩ := h
    rfl
  · obtain ⟨a, l, b, ns, rfl, hb, ob, hS, hlen, k⟩ := h
    have hr1 : Room 1 _ := hr.mono (by decide)
    refine ⟨_, (pss_cons (ps_set (i := 2) scCh.nd rfl (Or.inl rfl) (pe_fld (pv 0) rfl))
      (pss_cons (ps_set (i := 3) scCh.nd rfl (Or.inl rfl) (pe_fld (pv 0) rfl))
      (pss_cons (ps_if (pt_cmpR op_lt (pe_meth (pv 0) T.cl mL GL hr1 bL .nil pass0 (pa_cons (pv 2) (pa_cons (pv 3) pa_nil))) pe_int (nomark _)) (pss_one (ps_ret (pe_lst (pa_cons (pe_num T.cNL) pa_nil)))) pss_nil)
      (pss_cons (ps_for PassesOwn.never rfl (pi_enum (by rfl) T.enum (pa_cons (pv 1) pa_nil)) (pg_tup rfl (pgs_cons (pg_name (i := 4) scCh.nd rfl (Or.inl rfl)) (pgs_cons (pg_name (i := 5) scCh.nd rfl (Or.inl rfl)) pgs_nil)))
        (pss_cons (ps_set (i := 2) scCh.nd rfl (Or.inl rfl) (pe_meth (pv 0) T.cl mD GD hr1 bD .nil pass0 (pa_cons (pv 2) (pa_cons (pv 3) pa_nil))))
      (pss_cons (ps_set (i := 6) scCh.nd rfl (Or.inl rfl) (pe_meth (pv 0) T.cl mW GW hr bW .nil pass0 (pa_cons (pv 2) (pa_cons (pv 3) (pa_cons (pv 5) pa_nil)))))
      (pss_cons (ps_if (pt_cmpR op_ne (pv 6) (pe_num T.cNW) (nomark _)) (pss_one (ps_ret (pe_lst (pa_cons (pe_num T.cWD) (pa_cons (pv 4) (pa_cons (pv 6) pa_nil)))))) pss_nil)
      (pss_one (ps_set (i := 3) scCh.nd rfl (Or.inl rfl) (pe_op op_sub (pv 3) (pv 5))))))))
      (pss_one (ps_ret (pe_lst (pa_cons (pe_callB call_len_seq (by rfl) T.len PySem.boot_len (pa_cons (pv 1) pa_nil)) (pa_cons (pv 2) (pa_cons (pv 3) pa_nil)))))))))), ?_⟩
    obtain ⟨dx, h1⟩ := id hb
    refine ⟨_, rfl, a, C, dx, _, _, rfl, h1, T.cl, T.nG, fG b, _, rfl, a, C, dx, _, _, rfl, h1, T.cl, T.nS, fS b, ?_⟩
    refine ⟨_, rfl, a, dx, _, rfl, h1, fNo b (by decide +kernel), _, rfl, _, rfl, a, b, b.gas, b.sand, rfl, hb, ob, _, _, rfl, rfl, _, rfl, ?_⟩
    have e := spare_eq b b.gas b.sand
    by_cases c : b.day * b.gas < b.weight + b.sand
    · refine if_t (decide_eq_true (by rw [e]; omega)) ?_
      rw [check_low c] at k
      exact ⟨by show 1 ≤ sizeLine; decide, fun p hp => k.same hb (Same.refl _) hp⟩
    · refine if_f (decide_eq_false (by rw [e]; omega)) ?_
      refine ⟨_, rfl, l, _, rfl, hS, for_it (walk_enum (K := K) (a := l) (xs := ns.map fun (n : Nat) => V.int n))
        (fun i σ H' => ∃ (g s : Nat) (v4 v5 v6 : Option V), σ = [some (.ref a), some (.ref l), some (.int g), some (.int s), v4, v5, v6] ∧ Same H H' ∧ b.goes 0 b.begun (ns.take i) = .ok ⟨g, s⟩)
        ⟨b.gas, b.sand, none, none, none, rfl, Same.refl _, rfl⟩ (fun i σ H' _ ⟨_, _, _, _, _, _, sm, _⟩ => sm.seq hS) ?_ ?_⟩
      · rintro i x σ H1 H2 hi ⟨g, sd, v4, v5, v6, rfl, sm, go⟩ ⟨Tp, x1, x2, rfl, hT, rfl, e1, e2⟩
        have e1' : V.int (i : Nat) = x1 := Option.some.inj e1
        subst e1'
        obtain ⟨t, ht, rfl⟩ : ∃ t : Nat, ns[i]? = some t ∧ x2 = V.int t := by
          dsimp only at e2
          rw [List.getElem?_map] at e2
          cases q : ns[i]? with
          | none => rw [q] at e2; cases e2
          | some t => rw [q] at e2; exact ⟨t, rfl, (Option.some.inj e2).symm⟩
        have sm2 : Same H (upd H1 Tp (.tup [.int (i : Nat), .int t])) := fun x o e => by
          rw [upd_ne (ne_of_none (sm _ _ e) hT)]; exact sm _ _ e
        have h2 := sm2 _ _ h1
        refine ⟨Tp, _, rfl, SqT.of upd_same, rfl, _, _, rfl, _, _, rfl, rfl, ?_⟩
        refine ⟨_, rfl, a, dx, _, rfl, h2, fNo b (by decide +kernel), _, rfl, _, rfl, a, b, g, sd, rfl, ⟨dx, h2⟩, ob, ?_⟩
        refine ⟨_, rfl, a, dx, _, rfl, h2, fNo b (by decide +kernel), _, rfl, _, rfl, _, rfl, a, b, (b.byDay ⟨g, sd⟩).gas, sd, t, rfl, ⟨dx, h2⟩, ob, ?_⟩
        refine ⟨_, rfl, rfl, _, rfl, ?_⟩
        have tm := take_more ht
        have one := goes_one (b := b) (0 + (ns.take i).length) g sd t
        have gm := goes_ok_more (b := b) (ns.take i) [t] 0 b.begun ⟨g, sd⟩ go
        have li : (ns.take i).length = i := by
          rw [List.length_take]
          have := (List.getElem?_eq_some_iff.mp ht).1
          omega
        rw [one, ← tm] at gm
        by_cases cw : wrongN b (b.byDay ⟨g, sd⟩).gas sd t = 0
        · rw [if_pos cw] at gm
          refine if_f (by rw [cw]; rfl) ?_
          refine ⟨_, rfl, _, rfl, _, _, rfl, rfl, ?_⟩
          refine ⟨(b.byDay ⟨g, sd⟩).gas, sd - t, some (.int i), some (.int t), some (.int (wrongN b (b.byDay ⟨g, sd⟩).gas sd t : Nat)), ?_, sm2, gm⟩
          have ts : t ≤ sd := by
            unfold wrongN at cw
            by_cases c1 : sd < t
            · rw [if_pos c1] at cw; cases cw
            · omega
          have e3 : (sd : Int) - (t : Int) = ((sd - t : Nat) : Int) := by omega
          rw [← e3]
          rfl
        · rw [if_neg cw, li, Nat.zero_add] at gm
          have all := goes_err_more (b := b) _ (ns.drop (i + 1)) 0 b.begun _ gm
          rw [List.take_append_drop] at all
          refine if_t (by
            have : ¬ V.int ((wrongN b (b.byDay ⟨g, sd⟩).gas sd t : Nat) : Int) = V.int 0 := by
              intro q
              have q2 := V.int.inj q
              omega
            simp [this]) ?_
          rw [check_err c all] at k
          exact ⟨_, rfl, _, rfl, by show 3 ≤ sizeLine; decide, fun p hp => k.same hb sm2 hp⟩
      · rintro σ H1 ⟨g, sd, v4, v5, v6, rfl, sm, go⟩
        rw [List.length_map, List.take_length] at go
        rw [check_ok c go] at k
        refine ⟨_, rfl, l, _, rfl, .inl (sm.seq hS), _, rfl, _, rfl, (by show 3 ≤ sizeLine; decide), fun p hp => ?_⟩
        rw [List.length_map]
        exact k.same hb sm hp
end
end Nb
end

section
set_option Elab.async false
set_option linter.all false
set_option maxRecDepth 100000
set_option maxHeartbeats 4000000
namespace Nb
open PySem PySem.Spec PyProof.Rows L2
open PySem.W (Codec)
open Si95 (Balloon Stand Call)
/-- the number in a slot -/
def slotN (σ : L2.St) (i : Nat) : Nat := match σ[i]? with
  | some (some (V.int n)) => n.toNat
  | _ => 0
theorem ints_more (l : List Nat) (t : Nat) : (Si95.ints l).map V.int ++ [V.int (t : Nat)] = (Si95.ints (l ++ [t])).map V.int := by
  unfold Si95.ints
  rw [List.map_append, List.map_append]
  rfl
theorem ints_len (l : List Nat) : ((Si95.ints l).map V.int).length = l.length := by
  unfold Si95.ints
  rw [List.length_map, List.length_map]
theorem nts_lt {b : Balloon} (h : Ok b) (s : Nat) : nts b s ≤ 199 := by
  have e := plain_short h.k1 h.w1 (b.gas + 1) ⟨b.gas, s⟩
  have e2 : nts b s ≤ b.gas - 1 := e
  have := h.g2
  omega
section
variable {P : Program} {w : World} {K : PySem.W.Frag} {mg : Str → Option Value} {base : Heap} {C : Addr}
theorem scPl : FnScope ["self", "sand", "gas", "thrown", "least"] ["self", "sand"] (defScope sPlan) := ⟨rfl, rfl, rfl, by decide +kernel, rfl, by decide +kernel, by decide +kernel⟩
theorem d_plan {f fD fT : Addr} {fd fdD fdT : FuncData} (F : Fun K "least_plan" "Balloon.least_plan" sPlan f fd) (T : Txt K mg C)
    (FD : Fun K "gas_after_day" "Balloon.gas_after_day" sDay fD fdD) (bD : Binds K fdD ["self", "gas", "sand"] []) (mD : Meth K C "gas_after_day" fD)
    (FT : Fun K "least_to_throw" "Balloon.least_to_throw" sThrow fT fdT) (bT : Binds K fdT ["self", "gas", "sand"] []) (mT : Meth K C "least_to_throw" fT) :
    FnOk P w K mg base CX0 2 f fd ["self", "sand"] (spPlan C) := by
  have GD : FnOk P w K mg base CX0 1 fD fdD ["self", "gas", "sand"] (spDay C) := d_day FD T
  have GT : FnOk P w K mg base CX0 1 fT fdT ["self", "gas", "sand"] (spThrow C) := d_throw FT T
  refine F.ok scPl (fun vs H Q E h => ?_) (fun cdv A outer s H vs Q E hr h => ?_)
  · obtain ⟨a, b, s, rfl, _⟩ := h
    rfl
  · obtain ⟨a, b, sd, rfl, ⟨dx, h1⟩, ob, k⟩ := h
    refine ⟨_, (pss_cons (ps_set (i := 2) scPl.nd rfl (Or.inl rfl) (pe_fld (pv 0) rfl))
      (pss_cons (ps_set (i := 3) scPl.nd rfl (Or.inl rfl) (pe_lst pa_nil))
      (pss_one (ps_while PassesOwn.never (pt_val pe_bl)
        (pss_cons (ps_set (i := 2) scPl.nd rfl (Or.inl rfl) (pe_meth (pv 0) T.cl mD GD hr bD .nil pass0 (pa_cons (pv 2) (pa_cons (pv 1) pa_nil))))
      (pss_cons (ps_set (i := 4) scPl.nd rfl (Or.inl rfl) (pe_meth (pv 0) T.cl mT GT hr bT .nil pass0 (pa_cons (pv 2) (pa_cons (pv 1) pa_nil))))
      (pss_cons (ps_if (pt_cmpR op_gt (pv 4) (pv 1) (nomark _)) (pss_one (ps_ret (pv 3))) pss_nil)
      (pss_cons (ps_expr (pe_bm PySem.F.plainAttrs_list PySem.F.slot_list_append PySem.F.type_list_append mt_append (pv 3) (pa_cons (pv 4) pa_nil)))
      (pss_one (ps_set (i := 1) scPl.nd rfl (Or.inl rfl) (pe_op op_sub (pv 1) (pv 4)))))))))))), ?_⟩
    refine ⟨_, rfl, a, C, dx, _, _, rfl, h1, T.cl, T.nG, fG b, (by show 0 ≤ sizeLine; decide), fun o ho => ?_⟩
    have s0 : Same H (upd H o (.lst [])) := fun x ob e => by
      rw [upd_ne (ne_of_none e ho)]; exact e
    refine while_by (fun σ H' => ∃ (g s : Nat) (l : List Nat) (v4 : Option V), σ = [some (.ref a), some (.int s), some (.int g), some (.ref o), v4] ∧ Same H H' ∧ H' o = some (.lst ((Si95.ints l).map V.int)) ∧ b.plain (b.gas + 1) ⟨b.gas, sd⟩ = l ++ b.plain (g + 1) ⟨g, s⟩)
      (fun σ _ => slotN σ 2) ⟨b.gas, sd, [], none, rfl, s0, upd_same, rfl⟩ ?_ ?_
    · rintro σ H1 ⟨g, s, l, v4, rfl, sm, ho1, pl⟩
      have h2 := sm _ _ h1
      refine ⟨true, rfl, iteT ?_⟩
      refine ⟨_, rfl, a, dx, _, rfl, h2, fNo b (by decide +kernel), _, rfl, _, rfl, a, b, g, s, rfl, ⟨dx, h2⟩, ob, ?_⟩
      refine ⟨_, rfl, a, dx, _, rfl, h2, fNo b (by decide +kernel), _, rfl, _, rfl, a, b, (b.byDay ⟨g, s⟩).gas, s, rfl, ⟨dx, h2⟩, ob, ?_⟩
      refine ⟨_, rfl, _, rfl, _, _, rfl, rfl, _, rfl, ?_⟩
      have st := plain_step b g ⟨g, s⟩
      have lg := byDay_gas b ⟨g, s⟩
      have lg' : (b.byDay ⟨g, s⟩).gas ≤ g - b.leak := lg
      have k1 := ob.k1
      have w1 := ob.w1
      have eL : leastN b (b.byDay ⟨g, s⟩).gas s = b.weight + s - b.night * (b.byDay ⟨g, s⟩).gas := rfl
      by_cases c : b.weight ≤ b.night * (b.byDay ⟨g, s⟩).gas
      · refine if_f (decide_eq_false (by rw [eL]; omega)) ?_
        rw [if_pos c] at st
        have g1 : 1 ≤ (b.byDay ⟨g, s⟩).gas := by
          cases e : (b.byDay ⟨g, s⟩).gas with
          | zero => rw [e, Nat.mul_zero] at c; omega
          | succ n => omega
        have sz : l.length ≤ 199 := by
          have e1 := nts_lt ob sd
          have e2 : nts b sd = (b.plain (b.gas + 1) ⟨b.gas, sd⟩).length := rfl
          rw [pl, List.length_append] at e2
          omega
        have big : (200 : Nat) < sizeLine := by decide
        refine ⟨_, rfl, .inl ⟨rfl, _, SqL.of ho1⟩, _, rfl, o, _, _, rfl, rfl, ho1, (by rw [ints_len]; omega), ?_⟩
        refine ⟨_, rfl, _, rfl, _, _, rfl, rfl, ?_⟩
        refine ⟨⟨(b.byDay ⟨g, s⟩).gas, s - leastN b (b.byDay ⟨g, s⟩).gas s, l ++ [leastN b (b.byDay ⟨g, s⟩).gas s], some (.int (leastN b (b.byDay ⟨g, s⟩).gas s : Nat)), ?_, ?_, ?_, ?_⟩, ?_⟩
        · have ls : leastN b (b.byDay ⟨g, s⟩).gas s ≤ s := by rw [eL]; omega
          have e3 : (s : Int) - (leastN b (b.byDay ⟨g, s⟩).gas s : Nat) = ((s - leastN b (b.byDay ⟨g, s⟩).gas s : Nat) : Int) := by omega
          rw [← e3]
          rfl
        · intro x ob e
          have nxo : x ≠ o := ne_of_none e ho
          rw [upd_ne nxo]
          exact sm _ _ e
        · rw [upd_same, ints_more]
        · rw [pl, st, List.append_assoc, eL]
          show l ++ (_ :: _) = l ++ (_ :: _)
          rw [plain_more w1 k1 g ((b.byDay ⟨g, s⟩).gas + 1) _ (by show (b.byDay ⟨g, s⟩).gas ≤ g; omega) (by show (b.byDay ⟨g, s⟩).gas ≤ (b.byDay ⟨g, s⟩).gas + 1; omega)]
          rfl
        · show (b.byDay ⟨g, s⟩).gas < g
          omega
      · refine if_t (decide_eq_true (by rw [eL]; omega)) ?_
        rw [if_neg c] at st
        rw [st, List.append_nil] at pl
        refine ⟨_, rfl, k _ o ho sm ?_⟩
        rw [pl]
        exact ho1
    · rintro σ H1 Q1 Q2 hq ⟨d, e, q⟩
      exact ⟨d, e, hq _ _ q⟩
theorem scNt : FnScope ["self", "sand"] ["self", "sand"] (defScope sNts) := ⟨rfl, rfl, rfl, by decide +kernel, rfl, by decide +kernel, by decide +kernel⟩
theorem d_nts {f fP : Addr} {fd fdP : FuncData} (F : Fun K "nights_up" "Balloon.nights_up" sNts f fd) (T : Txt K mg C)
    (GP : FnOk P w K mg base CX0 2 fP fdP ["self", "sand"] (spPlan C)) (bP : Binds K fdP ["self", "sand"] []) (mP : Meth K C "least_plan" fP) :
    FnOk P w K mg base CX0 3 f fd ["self", "sand"] (spNts C) := by
  refine F.ok scNt (fun vs H Q E h => ?_) (fun cdv A outer s H vs Q E hr h => ?_)
  · obtain ⟨a, b, s, rfl, _⟩ := h
    rfl
  · obtain ⟨a, b, sd, rfl, ⟨dx, h1⟩, ob, k⟩ := h
    refine ⟨_, pss_one (ps_ret (pe_callB call_len_seq (by rfl) T.len PySem.boot_len (pa_cons (pe_meth (pv 0) T.cl mP GP hr bP .nil pass0 (pa_cons (pv 1) pa_nil)) pa_nil))), ?_⟩
    refine ⟨_, rfl, a, dx, _, rfl, h1, fNo b (by decide +kernel), _, rfl, a, b, sd, rfl, ⟨dx, h1⟩, ob, fun H1 p hp sm hl => ⟨p, _, rfl, .inl (SqL.of hl), ?_⟩⟩
    rw [ints_len]
    exact k H1 sm
theorem scMo : FnScope ["self"] ["self"] (defScope sMost) := ⟨rfl, rfl, rfl, by decide +kernel, rfl, by decide +kernel, by decide +kernel⟩
theorem d_most {f fL : Addr} {fd fdL : FuncData} (F : Fun K "most_sand" "Balloon.most_sand" sMost f fd) (T : Txt K mg C)
    (FL : Fun K "lift_to_spare" "Balloon.lift_to_spare" sLift fL fdL) (bL : Binds K fdL ["self", "gas", "sand"] []) (mL : Meth K C "lift_to_spare" fL) :
    FnOk P w K mg base CX0 2 f fd ["self"] (spMost C) := by
  have GL : FnOk P w K mg base CX0 1 fL fdL ["self", "gas", "sand"] (spLift C) := d_lift FL T
  refine F.ok scMo (fun vs H Q E h => ?_) (fun cdv A outer s H vs Q E hr h => ?_)
  · obtain ⟨a, b, rfl, _⟩ := h
    rfl
  · obtain ⟨a, b, rfl, ⟨dx, h1⟩, ob, k⟩ := h
    refine ⟨_, pss_one (ps_ret (pe_meth (pv 0) T.cl mL GL hr bL .nil pass0 (pa_cons (pe_fld (pv 0) rfl) (pa_cons pe_int pa_nil)))), ?_⟩
    refine ⟨_, rfl, a, dx, _, rfl, h1, fNo b (by decide +kernel), _, rfl, a, C, dx, _, _, rfl, h1, T.cl, T.nG, fG b, a, b, b.gas, 0, rfl, ⟨dx, h1⟩, ob, ?_⟩
    have e : ((b.gas : Int) * (b.day : Int) - ((b.weight : Int) + 0)) = ((b.day * b.gas : Nat) : Int) - (b.weight : Int) := by
      rw [Int.natCast_mul, Int.mul_comm (b.gas : Int), Int.add_zero]
    rw [e]
    exact k
theorem scLe : FnScope ["self", "many", "enough", "least", "middle"] ["self", "many", "enough"] (defScope sLeast) := ⟨rfl, rfl, rfl, by decide +kernel, rfl, by decide +kernel, by decide +kernel⟩
theorem d_least {f fN : Addr} {fd fdN : FuncData} (F : Fun K "least_sand" "Balloon.least_sand" sLeast f fd) (T : Txt K mg C)
    (GN : FnOk P w K mg base CX0 3 fN fdN ["self", "sand"] (spNts C)) (bN : Binds K fdN ["self", "sand"] []) (mN : Meth K C "nights_up" fN) :
    FnOk P w K mg base CX0 4 f fd ["self", "many", "enough"] (spLeast C) := by
  refine F.ok scLe (fun vs H Q E h => ?_) (fun cdv A outer s H vs Q E hr h => ?_)
  · obtain ⟨a, b, n, e, rfl, _⟩ := h
    rfl
  · obtain ⟨a, b, n, top, rfl, ⟨dx, h1⟩, ob, hn, k⟩ := h
    refine ⟨_, (pss_cons (ps_set (i := 3) scLe.nd rfl (Or.inl rfl) pe_int)
      (pss_cons (ps_while PassesOwn.never (pt_cmpR op_lt (pv 3) (pv 2) (nomark _))
        (pss_cons (ps_set (i := 4) scLe.nd rfl (Or.inl rfl) (pe_op op_fdiv (pe_op op_add (pv 3) (pv 2)) pe_int))
      (pss_one (ps_if (pt_cmpR op_lt (pe_meth (pv 0) T.cl mN GN hr bN .nil pass0 (pa_cons (pv 4) pa_nil)) (pv 1) (nomark _))
            (pss_one (ps_set (i := 3) scLe.nd rfl (Or.inl rfl) (pe_op op_add (pv 4) pe_int)))
            (pss_one (ps_set (i := 2) scLe.nd rfl (Or.inl rfl) (pv 4)))))))
      (pss_one (ps_ret (pv 3))))), ?_⟩
    refine while_by (fun σ H' => ∃ (lo hi : Nat) (v4 : Option V), σ = [some (.ref a), some (.int n), some (.int hi), some (.int lo), v4] ∧ Same H H' ∧ lo ≤ hi ∧ hi ≤ top ∧ n ≤ nts b hi ∧ ∀ y, y < lo → nts b y < n)
      (fun σ _ => slotN σ 2 - slotN σ 3) ⟨0, top, none, rfl, Same.refl _, Nat.zero_le _, Nat.le_refl _, hn, fun y hy => absurd hy (Nat.not_lt_zero y)⟩ ?_ ?_
    · rintro σ H1 ⟨lo, hi, v4, rfl, sm, l1, l2, n1, n2⟩
      have h2 := sm _ _ h1
      refine ⟨_, rfl, _, rfl, _, _, rfl, rfl, _, rfl, ?_⟩
      by_cases c : lo < hi
      · refine if_t (decide_eq_true (by omega)) ?_
        refine ⟨_, rfl, _, rfl, _, _, rfl, rfl, _, _, rfl, rfl, ⟨by decide, by decide⟩, ?_⟩
        have em : ((lo : Int) + (hi : Int)) / 2 = (((lo + hi) / 2 : Nat) : Int) := by omega
        dsimp only
        rw [em]
        refine ⟨_, rfl, a, dx, _, rfl, h2, fNo b (by decide +kernel), _, rfl, a, b, (lo + hi) / 2, rfl, ⟨dx, h2⟩, ob, fun H2 sm2 => ?_⟩
        refine ⟨_, rfl, _, _, rfl, rfl, _, rfl, ?_⟩
        have sm3 := sm.trans sm2
        by_cases d : nts b ((lo + hi) / 2) < n
        · refine if_t (decide_eq_true (by omega)) ?_
          refine ⟨_, rfl, _, _, rfl, rfl, ?_⟩
          refine ⟨⟨(lo + hi) / 2 + 1, hi, some (.int (((lo + hi) / 2 : Nat) : Int)), rfl, sm3, by omega, l2, n1, fun y hy => ?_⟩, ?_⟩
          · have := nts_mono b (x := y) (y := (lo + hi) / 2) (by omega)
            omega
          · show hi - ((lo + hi) / 2 + 1) < hi - lo
            omega
        · refine if_f (decide_eq_false (by omega)) ?_
          refine ⟨_, rfl, ?_⟩
          refine ⟨⟨lo, (lo + hi) / 2, some (.int (((lo + hi) / 2 : Nat) : Int)), rfl, sm3, by omega, by omega, by omega, n2⟩, ?_⟩
          show (lo + hi) / 2 - lo < hi - lo
          omega
      · refine if_f (decide_eq_false (by omega)) ?_
        have e : lo = hi := by omega
        subst e
        exact ⟨_, rfl, k lo H1 sm l2 n1 n2⟩
    · rintro σ H1 Q1 Q2 hq ⟨v, e1, u, e2, i, j, e3, e4, d, e5, q⟩
      exact ⟨v, e1, u, e2, i, j, e3, e4, d, e5, hq _ _ q⟩
end
end Nb
end

section
set_option Elab.async false
set_option linter.all false
set_option maxRecDepth 100000
set_option maxHeartbeats 4000000
namespace Nb
open PySem PySem.Spec PyProof.Rows L2
open PySem.W (Codec)
open Si95 (Balloon Stand Call)
def spNights (C : Addr) : Sp := fun vs H Q _ => ∃ (a : Addr) (b : Balloon), vs = [.ref a] ∧ BalAt C H a b ∧ Ok b ∧ Back C H a b (ans (Si95.step b .nights).2) Q
def spNeeds (C : Addr) : Sp := fun vs H Q _ => ∃ (a : Addr) (b : Balloon) (n : Nat), vs = [.ref a, .int n] ∧ BalAt C H a b ∧ Ok b ∧ Back C H a b (ans (Si95.step b (.needs n)).2) Q
def spMostC (C : Addr) : Sp := fun vs H Q _ => ∃ (a : Addr) (b : Balloon), vs = [.ref a] ∧ BalAt C H a b ∧ Ok b ∧ Back C H a b (ans (Si95.step b .most).2) Q
/-! ### the three answers, case by case -/
theorem nights_low {b : Balloon} (h : b.day * b.gas < b.weight + b.sand) : Si95.step b .nights = (b, Si95.ok (-3)) := by
  have e : b.lifts = false := decide_eq_false (by omega)
  exact if_pos e
theorem nights_high {b : Balloon} (h : ¬ b.day * b.gas < b.weight + b.sand) : ans (Si95.step b .nights).2 = ((nts b b.sand : Nat) : Int) :: Si95.ints (b.plain (b.gas + 1) ⟨b.gas, b.sand⟩) := by
  have e : b.lifts = true := decide_eq_true (by omega)
  have e2 : Si95.step b .nights = (b, ⟨((b.nights : Nat) : Int), Si95.ints (b.plain (b.gas + 1) b.begun)⟩) := by
    refine if_neg ?_
    rw [e]; exact Bool.noConfusion
  rw [e2]
  rfl
theorem needs_big {b : Balloon} {n : Nat} (h : 200 < n) : ans (Si95.step b (.needs n)).2 = [-1] := by
  have e : Si95.step b (.needs n) = (b, Si95.ok (-1)) := if_pos h
  rw [e]; rfl
theorem needs_step {b : Balloon} {n : Nat} (h : ¬ 200 < n) : Si95.step b (.needs n) = (b, match b.needs n with
    | none => Si95.ok (-6)
    | some s => Si95.ok ((s : Nat) : Int)) := if_neg h
theorem needs_no {b : Balloon} {n : Nat} (h : ¬ 200 < n) (e : b.needs n = none) : ans (Si95.step b (.needs n)).2 = [-6] := by
  rw [needs_step h, e]; rfl
theorem needs_yes {b : Balloon} {n x : Nat} (h : ¬ 200 < n) (e : b.needs n = some x) : ans (Si95.step b (.needs n)).2 = [((x : Nat) : Int)] := by
  rw [needs_step h, e]; rfl
theorem most_step {b : Balloon} : Si95.step b .most = (b, match b.most with
    | none => Si95.ok (-6)
    | some m => ⟨((m : Nat) : Int), Si95.ints [(b.with_ m).nights]⟩) := rfl
theorem most_no {b : Balloon} (h : b.day * b.gas < b.weight) : ans (Si95.step b .most).2 = [-6] := by
  have e : b.most = none := if_neg (by omega)
  rw [most_step, e]; rfl
theorem most_yes {b : Balloon} (h : ¬ b.day * b.gas < b.weight) : ans (Si95.step b .most).2 = [((b.day * b.gas - b.weight : Nat) : Int), ((nts b (b.day * b.gas - b.weight) : Nat) : Int)] := by
  have e : b.most = some (b.day * b.gas - b.weight) := if_pos (by omega)
  rw [most_step, e]
  show [((b.day * b.gas - b.weight : Nat) : Int), (((b.with_ (b.day * b.gas - b.weight)).nights : Nat) : Int)] = _
  rw [nights_with]
section
variable {P : Program} {w : World} {K : PySem.W.Frag} {mg : Str → Option Value} {base : Heap} {C : Addr}
theorem scNi : FnScope ["balloon", "thrown"] ["balloon"] (defScope sNights) := ⟨rfl, rfl, rfl, by decide +kernel, rfl, by decide +kernel, by decide +kernel⟩
theorem d_nights {f fL fP : Addr} {fd fdL fdP : FuncData} (F : Fun K "nights" "nights" sNights f fd) (T : Txt K mg C)
    (FL : Fun K "lift_to_spare" "Balloon.lift_to_spare" sLift fL fdL) (bL : Binds K fdL ["self", "gas", "sand"] []) (mL : Meth K C "lift_to_spare" fL)
    (GP : FnOk P w K mg base CX0 2 fP fdP ["self", "sand"] (spPlan C)) (bP : Binds K fdP ["self", "sand"] []) (mP : Meth K C "least_plan" fP) :
    FnOk P w K mg base CX0 3 f fd ["balloon"] (spNights C) := by
  have GL : FnOk P w K mg base CX0 1 fL fdL ["self", "gas", "sand"] (spLift C) := d_lift FL T
  refine F.ok scNi (fun vs H Q E h => ?_) (fun cdv A outer s H vs Q E hr h => ?_)
  · obtain ⟨a, b, rfl, _⟩ := h
    rfl
  · obtain ⟨a, b, rfl, hb, ob, k⟩ := h
    have hr1 : Room 1 _ := hr.mono (by decide)
    refine ⟨_, (pss_cons (ps_if (pt_cmpR op_lt (pe_meth (pv 0) T.cl mL GL hr1 bL .nil pass0 (pa_cons (pe_fld (pv 0) rfl) (pa_cons (pe_fld (pv 0) rfl) pa_nil))) pe_int (nomark _)) (pss_one (ps_ret (pe_lst (pa_cons (pe_num T.cNL) pa_nil)))) pss_nil)
      (pss_cons (ps_set (i := 1) scNi.nd rfl (Or.inl rfl) (pe_meth (pv 0) T.cl mP GP hr bP .nil pass0 (pa_cons (pe_fld (pv 0) rfl) pa_nil)))
      (pss_one (ps_ret (pe_op op_cat (pe_lst (pa_cons (pe_callB call_len_seq (by rfl) T.len PySem.boot_len (pa_cons (pv 1) pa_nil)) pa_nil)) (pv 1)))))), ?_⟩
    obtain ⟨dx, h1⟩ := id hb
    refine ⟨_, rfl, a, dx, _, rfl, h1, fNo b (by decide +kernel), _, rfl, a, C, dx, _, _, rfl, h1, T.cl, T.nG, fG b, _, rfl, a, C, dx, _, _, rfl, h1, T.cl, T.nS, fS b, a, b, b.gas, b.sand, rfl, hb, ob, _, _, rfl, rfl, _, rfl, ?_⟩
    have e := spare_eq b b.gas b.sand
    by_cases c : b.day * b.gas < b.weight + b.sand
    · refine if_t (decide_eq_true (by rw [e]; omega)) ?_
      rw [nights_low c] at k
      exact ⟨by show 1 ≤ sizeLine; decide, fun p hp => k.same hb (Same.refl _) hp⟩
    · refine if_f (decide_eq_false (by rw [e]; omega)) ?_
      rw [nights_high c] at k
      refine ⟨_, rfl, a, dx, _, rfl, h1, fNo b (by decide +kernel), _, rfl, a, C, dx, _, _, rfl, h1, T.cl, T.nS, fS b, a, b, b.sand, rfl, hb, ob, fun H1 p hp sm hl => ?_⟩
      have big : (200 : Nat) < sizeLine := by decide
      have le := nts_lt ob b.sand
      have ln : ((Si95.ints (b.plain (b.gas + 1) ⟨b.gas, b.sand⟩)).map V.int).length = nts b b.sand := ints_len _
      refine ⟨_, rfl, p, _, rfl, .inl (SqL.of hl), (by show 1 ≤ sizeLine; decide), fun q hq => ?_⟩
      have npq : p ≠ q := ne_of_none hl hq
      have sm2 : Same H1 (upd H1 q (.lst [V.int (((Si95.ints (b.plain (b.gas + 1) ⟨b.gas, b.sand⟩)).map V.int).length : Nat)])) := fun x o e => by
        rw [upd_ne (ne_of_none e hq)]; exact e
      refine ⟨_, rfl, q, p, _, _, rfl, rfl, upd_same, (by rw [upd_ne npq]; exact hl), (by rw [ln]; show 1 + _ ≤ _; omega), fun r hr2 => ?_⟩
      rw [ln] at sm2 hr2 ⊢
      exact k.same hb (sm.trans sm2) hr2
theorem scNe : FnScope ["balloon", "many", "most_sand"] ["balloon", "many"] (defScope sNeeds) := ⟨rfl, rfl, rfl, by decide +kernel, rfl, by decide +kernel, by decide +kernel⟩
theorem d_needs {f fM fN fE : Addr} {fd fdM fdN fdE : FuncData} (F : Fun K "needs" "needs" sNeeds f fd) (T : Txt K mg C)
    (GM : FnOk P w K mg base CX0 2 fM fdM ["self"] (spMost C)) (bM : Binds K fdM ["self"] []) (mM : Meth K C "most_sand" fM)
    (GN : FnOk P w K mg base CX0 3 fN fdN ["self", "sand"] (spNts C)) (bN : Binds K fdN ["self", "sand"] []) (mN : Meth K C "nights_up" fN)
    (GE : FnOk P w K mg base CX0 4 fE fdE ["self", "many", "enough"] (spLeast C)) (bE : Binds K fdE ["self", "many", "enough"] []) (mE : Meth K C "least_sand" fE) :
    FnOk P w K mg base CX0 5 f fd ["balloon", "many"] (spNeeds C) := by
  refine F.ok scNe (fun vs H Q E h => ?_) (fun cdv A outer s H vs Q E hr h => ?_)
  · obtain ⟨a, b, n, rfl, _⟩ := h
    rfl
  · obtain ⟨a, b, n, rfl, hb, ob, k⟩ := h
    have hr2 : Room 2 _ := hr.mono (by decide)
    have hr3 : Room 3 _ := hr.mono (by decide)
    refine ⟨_, (pss_cons (ps_if (pt_cmpR op_gt (pv 1) (pe_num T.cMN) (nomark _)) (pss_one (ps_ret (pe_lst (pa_cons (pe_num T.cNT) pa_nil)))) pss_nil)
      (pss_cons (ps_set (i := 2) scNe.nd rfl (Or.inl rfl) (pe_meth0 (pv 0) T.cl mM GM hr2 bM .nil pass0))
      (pss_cons (ps_if (PW.pt (pw_or (pt_cmpR op_lt (pv 2) pe_int (nomark _)) (pw_or1 (pt_cmpR op_lt (pe_meth (pv 0) T.cl mN GN hr3 bN .nil pass0 (pa_cons (pv 2) pa_nil)) (pv 1) (nomark _))))) (pss_one (ps_ret (pe_lst (pa_cons (pe_num T.cWD) pa_nil)))) pss_nil)
      (pss_one (ps_ret (pe_lst (pa_cons (pe_meth (pv 0) T.cl mE GE hr bE .nil pass0 (pa_cons (pv 1) (pa_cons (pv 2) pa_nil))) pa_nil))))))), ?_⟩
    obtain ⟨dx, h1⟩ := id hb
    refine ⟨_, rfl, _, _, rfl, rfl, _, rfl, ?_⟩
    by_cases c : 200 < n
    · refine if_t (decide_eq_true (by omega)) ?_
      rw [needs_big c] at k
      exact ⟨by show 1 ≤ sizeLine; decide, fun p hp => k.same hb (Same.refl _) hp⟩
    · refine if_f (decide_eq_false (by omega)) ?_
      refine ⟨_, rfl, a, dx, _, rfl, h1, fNo b (by decide +kernel), a, b, rfl, hb, ob, ?_⟩
      refine ⟨_, rfl, _, _, rfl, rfl, _, rfl, ?_⟩
      by_cases c2 : b.day * b.gas < b.weight
      · refine if_t (decide_eq_true (by omega)) ?_
        refine iteT ?_
        rw [needs_no c (needs_none_lift n (by omega))] at k
        exact ⟨by show 1 ≤ sizeLine; decide, fun p hp => k.same hb (Same.refl _) hp⟩
      · refine if_f (decide_eq_false (by omega)) ?_
        have em : ((b.day * b.gas : Nat) : Int) - (b.weight : Int) = ((b.day * b.gas - b.weight : Nat) : Int) := by omega
        rw [em]
        refine ⟨_, rfl, a, dx, _, rfl, h1, fNo b (by decide +kernel), _, rfl, a, b, b.day * b.gas - b.weight, rfl, hb, ob, fun H1 sm => ?_⟩
        refine ⟨_, rfl, _, _, rfl, rfl, _, rfl, ?_⟩
        by_cases c3 : nts b (b.day * b.gas - b.weight) < n
        · refine if_t (decide_eq_true (by omega)) ?_
          rw [needs_no c (needs_none c3)] at k
          exact ⟨by show 1 ≤ sizeLine; decide, fun p hp => k.same hb sm hp⟩
        · refine if_f (decide_eq_false (by omega)) ?_
          have h2 := sm _ _ h1
          refine ⟨_, rfl, a, dx, _, rfl, h2, fNo b (by decide +kernel), _, rfl, _, rfl, a, b, n, b.day * b.gas - b.weight, rfl, ⟨dx, h2⟩, ob, by omega, fun x H2 sm2 x1 x2 x3 => ?_⟩
          rw [needs_yes c (needs_some (by omega) x1 x2 x3)] at k
          exact ⟨by show 1 ≤ sizeLine; decide, fun p hp => k.same hb (sm.trans sm2) hp⟩
theorem scMC : FnScope ["balloon", "most_sand"] ["balloon"] (defScope sMostC) := ⟨rfl, rfl, rfl, by decide +kernel, rfl, by decide +kernel, by decide +kernel⟩
theorem d_mostC {f fM fN : Addr} {fd fdM fdN : FuncData} (F : Fun K "most" "most" sMostC f fd) (T : Txt K mg C)
    (GM : FnOk P w K mg base CX0 2 fM fdM ["self"] (spMost C)) (bM : Binds K fdM ["self"] []) (mM : Meth K C "most_sand" fM)
    (GN : FnOk P w K mg base CX0 3 fN fdN ["self", "sand"] (spNts C)) (bN : Binds K fdN ["self", "sand"] []) (mN : Meth K C "nights_up" fN) :
    FnOk P w K mg base CX0 4 f fd ["balloon"] (spMostC C) := by
  refine F.ok scMC (fun vs H Q E h => ?_) (fun cdv A outer s H vs Q E hr h => ?_)
  · obtain ⟨a, b, rfl, _⟩ := h
    rfl
  · obtain ⟨a, b, rfl, hb, ob, k⟩ := h
    have hr2 : Room 2 _ := hr.mono (by decide)
    refine ⟨_, (pss_cons (ps_set (i := 1) scMC.nd rfl (Or.inl rfl) (pe_meth0 (pv 0) T.cl mM GM hr2 bM .nil pass0))
      (pss_cons (ps_if (pt_cmpR op_lt (pv 1) pe_int (nomark _)) (pss_one (ps_ret (pe_lst (pa_cons (pe_num T.cWD) pa_nil)))) pss_nil)
      (pss_one (ps_ret (pe_lst (pa_cons (pv 1) (pa_cons (pe_meth (pv 0) T.cl mN GN hr bN .nil pass0 (pa_cons (pv 1) pa_nil)) pa_nil))))))), ?_⟩
    obtain ⟨dx, h1⟩ := id hb
    refine ⟨_, rfl, a, dx, _, rfl, h1, fNo b (by decide +kernel), a, b, rfl, hb, ob, ?_⟩
    refine ⟨_, rfl, _, _, rfl, rfl, _, rfl, ?_⟩
    by_cases c : b.day * b.gas < b.weight
    · refine if_t (decide_eq_true (by omega)) ?_
      rw [most_no c] at k
      exact ⟨by show 1 ≤ sizeLine; decide, fun p hp => k.same hb (Same.refl _) hp⟩
    · refine if_f (decide_eq_false (by omega)) ?_
      rw [most_yes c] at k
      have em : ((b.day * b.gas : Nat) : Int) - (b.weight : Int) = ((b.day * b.gas - b.weight : Nat) : Int) := by omega
      rw [em]
      refine ⟨_, rfl, _, rfl, a, dx, _, rfl, h1, fNo b (by decide +kernel), _, rfl, a, b, b.day * b.gas - b.weight, rfl, hb, ob, fun H1 sm => ?_⟩
      exact ⟨by show 2 ≤ sizeLine; decide, fun p hp => k.same hb sm hp⟩
end
end Nb
end

section
set_option Elab.async false
set_option linter.all false
set_option maxRecDepth 100000
set_option maxHeartbeats 4000000
namespace Nb
open PySem PySem.Spec PyProof.Rows L2
open PySem.W (Codec)
open Si95 (Balloon Stand Call)
/-! ### a call in the row: its number, what comes behind it -/
def place : Call → Int
  | .begins .. => 0
  | .load .. => 1
  | .check .. => 2
  | .nights => 3
  | .needs .. => 4
  | .most => 5
def body : Call → List Int
  | .begins w a c o k => [w, a, c, o, k]
  | .load g s => [g, s]
  | .check l => (l.length : Int) :: l.map (fun (n : Nat) => (n : Int))
  | .nights => []
  | .needs n => [n]
  | .most => []
theorem flat1_eq (q : Call) : flat1 q = place q :: body q := by cases q <;> rfl
def vI (l : List Int) : List V := l.map V.int
theorem vI_app (l m : List Int) : vI (l ++ m) = vI l ++ vI m := List.map_append
theorem vI_len (l : List Int) : (vI l).length = l.length := List.length_map _
/-- where a call ends: the list is pre, the call, what comes behind -/
def spEnd (K : PySem.W.Frag) : Sp := fun vs H Q _ => ∃ (l : Addr) (pre r : List Int) (q : Call), vs = [.ref l, .int (pre.length : Nat)] ∧ SqL K H l (vI (pre ++ (flat1 q ++ r))) ∧
  ∀ H' : Hp, Same H H' → Q (.int ((pre.length + (flat1 q).length : Nat) : Int)) H'
def spCall (K : PySem.W.Frag) (C : Addr) : Sp := fun vs H Q _ => ∃ (a l : Addr) (b : Balloon) (q : Call), vs = [.ref a, .int (place q), .ref l] ∧ BalAt C H a b ∧ Ok b ∧ Inb q ∧ H l = some (.lst (vI (body q))) ∧
  Back C H a (Si95.step b q).1 (ans (Si95.step b q).2) Q
theorem at_mid (pre r : List Int) (x : Int) : atI (vI (pre ++ (x :: r))) ((pre.length : Nat) : Int) = some (.int x) := by
  refine atI_nat ?_
  rw [vI_app, List.getElem?_append_right (by rw [vI_len]; exact Nat.le_refl _), vI_len, Nat.sub_self]
  rfl
theorem at_mid1 (pre r : List Int) (x y : Int) : atI (vI (pre ++ (x :: y :: r))) ((pre.length : Int) + 1) = some (.int y) := by
  have e : ((pre.length : Int) + 1) = ((pre.length + 1 : Nat) : Int) := by omega
  rw [e]
  refine atI_nat ?_
  rw [vI_app, List.getElem?_append_right (by rw [vI_len]; omega), vI_len, show pre.length + 1 - pre.length = 1 by omega]
  rfl
theorem cut_tail (x : Int) (m : List Int) : cutV (vI (x :: m)) (some 1) none = vI m := by
  unfold cutV
  have e : HT.sIx (vI (x :: m)).length 0 (some 1) = 1 := by
    rw [show (1 : Int) = ((1 : Nat) : Int) from rfl, HT.sIx_nat, vI_len, List.length_cons]
    omega
  rw [e, HT.sIx_none, vI_len, List.length_cons]
  show (vI m).take (m.length + 1 - 1) = vI m
  rw [show m.length + 1 - 1 = (vI m).length by rw [vI_len]; omega, List.take_length]
theorem eq_t {i j : Int} (h : i = j) : decide (V.int i = V.int j) = true := decide_eq_true (congrArg V.int h)
theorem eq_f {i j : Int} (h : ¬ i = j) : decide (V.int i = V.int j) = false := decide_eq_false fun e => h (V.int.inj e)
/-- what was promised of a later heap -/
theorem Back.past {C : Addr} {H H1 : Hp} {a : Addr} {b : Balloon} {zs : List Int} {Q : VK} (k : Back C H a b zs Q) (s : Same H H1) : Back C H1 a b zs Q :=
  fun H' p hp h1 hb kk => k H' p (s.free hp) h1 hb fun x o e hx => kk x o (s _ _ e) hx
theorem stay_check (b : Balloon) (l : List Nat) : (Si95.step b (.check l)).1 = b := by
  show (if b.lifts = false then (b, Si95.ok (-3)) else (b, _)).1 = b
  split <;> rfl
theorem stay_nights (b : Balloon) : (Si95.step b .nights).1 = b := by
  show (if b.lifts = false then (b, Si95.ok (-3)) else (b, _)).1 = b
  split <;> rfl
theorem stay_needs (b : Balloon) (n : Nat) : (Si95.step b (.needs n)).1 = b := by
  show (if Si95.GAS < n then (b, Si95.ok (-1)) else (b, _)).1 = b
  split <;> rfl
theorem stay_most (b : Balloon) : (Si95.step b .most).1 = b := rfl
section
variable {P : Program} {w : World} {K : PySem.W.Frag} {mg : Str → Option Value} {base : Heap} {C : Addr}
theorem scEn : FnScope ["calls", "start", "call"] ["calls", "start"] (defScope sEnd) := ⟨rfl, rfl, rfl, by decide +kernel, rfl, by decide +kernel, by decide +kernel⟩
theorem d_end {f : Addr} {fd : FuncData} (F : Fun K "call_end" "call_end" sEnd f fd) (T : Txt K mg C) : FnOk P w K mg base CX0 1 f fd ["calls", "start"] (spEnd K) := by
  refine F.ok scEn (fun vs H Q E h => ?_) (fun cdv A outer s H vs Q E hr h => ?_)
  · obtain ⟨l, pre, r, q, rfl, _⟩ := h
    rfl
  · obtain ⟨l, pre, r, q, rfl, hS, k⟩ := h
    refine ⟨_, (pss_cons (ps_set (i := 2) scEn.nd rfl (Or.inl rfl) (pe_ix ix_list (pv 0) (pv 1) (fun _ _ => rfl)))
      (pss_cons (ps_if (pt_cmpR op_eq (pv 2) (pe_num T.cB) (nomark _)) (pss_one (ps_ret (pe_op op_add (pv 1) pe_int))) pss_nil)
      (pss_cons (ps_if (pt_cmpR op_eq (pv 2) (pe_num T.cL) (nomark _)) (pss_one (ps_ret (pe_op op_add (pv 1) pe_int))) pss_nil)
      (pss_cons (ps_if (pt_cmpR op_eq (pv 2) (pe_num T.cC) (nomark _)) (pss_one (ps_ret (pe_op op_add (pe_op op_add (pv 1) pe_int) (pe_ix ix_list (pv 0) (pe_op op_add (pv 1) pe_int) (fun _ _ => rfl))))) pss_nil)
      (pss_cons (ps_if (pt_cmpR op_eq (pv 2) (pe_num T.cNe) (nomark _)) (pss_one (ps_ret (pe_op op_add (pv 1) pe_int))) pss_nil)
      (pss_cons (ps_if (pt_cmpR op_in_seq (pv 2) (pe_tup (pa_cons (pe_num T.cN) (pa_cons (pe_num T.cM) pa_nil))) (by rfl)) (pss_one (ps_ret (pe_op op_add (pv 1) pe_int))) pss_nil)
      (pss_one ps_never))))))), ?_⟩
    have hS2 : SqL K H l (vI (pre ++ (place q :: (body q ++ r)))) := by rw [flat1_eq] at hS; exact hS
    refine ⟨_, rfl, _, rfl, l, _, _, _, rfl, rfl, hS2, at_mid _ _ _, ?_⟩
    refine ⟨_, rfl, rfl, _, rfl, ?_⟩
    have done : ∀ (m : Nat) (z : Int), (flat1 q).length = m → z = (m : Int) → ∀ H' : Hp, Same H H' → Q (.int ((pre.length : Int) + z)) H' := by
      intro m z e1 e2 H' sm
      have := k H' sm
      rw [e1] at this
      rw [e2]
      exact this
    cases q with
    | begins x0 x1 x2 x3 x4 =>
      refine if_t (eq_t rfl) ?_
      exact ⟨_, rfl, _, _, rfl, rfl, done 6 6 rfl rfl H (Same.refl _)⟩
    | load x0 x1 =>
      refine if_f (eq_f (by simp [place])) ?_
      refine ⟨_, rfl, rfl, _, rfl, if_t (eq_t rfl) ?_⟩
      exact ⟨_, rfl, _, _, rfl, rfl, done 3 3 rfl rfl H (Same.refl _)⟩
    | check ns =>
      refine if_f (eq_f (by simp [place])) ?_
      refine ⟨_, rfl, rfl, _, rfl, if_f (eq_f (by simp [place])) ?_⟩
      refine ⟨_, rfl, rfl, _, rfl, if_t (eq_t rfl) ?_⟩
      have e3 : (pre.length : Int) + ((2 : Int) + (ns.length : Int)) = ((pre.length : Int) + 2) + (ns.length : Int) := by omega
      have d3 := done (ns.length + 2) (2 + (ns.length : Int)) (by
        show (ns.map (fun (n : Nat) => (n : Int))).length + 1 + 1 = ns.length + 2
        rw [List.length_map]) (by omega) H (Same.refl _)
      rw [e3] at d3
      exact ⟨_, rfl, _, _, rfl, rfl, _, rfl, _, rfl, _, _, rfl, rfl, l, _, _, _, rfl, rfl, hS2, at_mid1 _ _ _ _, _, _, rfl, rfl, d3⟩
    | nights =>
      refine if_f (eq_f (by simp [place])) ?_
      refine ⟨_, rfl, rfl, _, rfl, if_f (eq_f (by simp [place])) ?_⟩
      refine ⟨_, rfl, rfl, _, rfl, if_f (eq_f (by simp [place])) ?_⟩
      refine ⟨_, rfl, rfl, _, rfl, if_f (eq_f (by simp [place])) ?_⟩
      refine ⟨_, rfl, (by show 2 ≤ sizeLine; decide), fun t ht => ?_⟩
      refine ⟨t, _, rfl, .inr (SqT.of upd_same), rfl, rfl, _, rfl, if_t rfl ?_⟩
      have s1 : Same H (upd H t (.tup [V.int 3, V.int 5])) := fun x o e => by
        rw [upd_ne (ne_of_none e ht)]; exact e
      exact ⟨_, rfl, _, _, rfl, rfl, done 1 1 rfl rfl _ s1⟩
    | needs n =>
      refine if_f (eq_f (by simp [place])) ?_
      refine ⟨_, rfl, rfl, _, rfl, if_f (eq_f (by simp [place])) ?_⟩
      refine ⟨_, rfl, rfl, _, rfl, if_f (eq_f (by simp [place])) ?_⟩
      refine ⟨_, rfl, rfl, _, rfl, if_t (eq_t rfl) ?_⟩
      exact ⟨_, rfl, _, _, rfl, rfl, done 2 2 rfl rfl H (Same.refl _)⟩
    | most =>
      refine if_f (eq_f (by simp [place])) ?_
      refine ⟨_, rfl, rfl, _, rfl, if_f (eq_f (by simp [place])) ?_⟩
      refine ⟨_, rfl, rfl, _, rfl, if_f (eq_f (by simp [place])) ?_⟩
      refine ⟨_, rfl, rfl, _, rfl, if_f (eq_f (by simp [place])) ?_⟩
      refine ⟨_, rfl, (by show 2 ≤ sizeLine; decide), fun t ht => ?_⟩
      refine ⟨t, _, rfl, .inr (SqT.of upd_same), rfl, rfl, _, rfl, if_t rfl ?_⟩
      have s1 : Same H (upd H t (.tup [V.int 3, V.int 5])) := fun x o e => by
        rw [upd_ne (ne_of_none e ht)]; exact e
      exact ⟨_, rfl, _, _, rfl, rfl, done 1 1 rfl rfl _ s1⟩
theorem scCa : FnScope ["balloon", "call", "numbers"] ["balloon", "call", "numbers"] (defScope sCall) := ⟨rfl, rfl, rfl, by decide +kernel, rfl, by decide +kernel, by decide +kernel⟩
theorem d_call {f f1 f2 f3 f4 f5 f6 : Addr} {fd fd1 fd2 fd3 fd4 fd5 fd6 : FuncData} (F : Fun K "answer_call" "answer_call" sCall f fd) (T : Txt K mg C)
    (g1 : mg "begins" = some (.ref f1)) (k1 : PySem.W.keepIn K (.ref f1) = true) (b1 : Binds K fd1 ["balloon", "weight", "day", "night", "over", "leak"] []) (G1 : FnOk P w K mg base CX0 1 f1 fd1 ["balloon", "weight", "day", "night", "over", "leak"] (spBegins C))
    (g2 : mg "load" = some (.ref f2)) (k2 : PySem.W.keepIn K (.ref f2) = true) (b2 : Binds K fd2 ["balloon", "gas", "sand"] []) (G2 : FnOk P w K mg base CX0 2 f2 fd2 ["balloon", "gas", "sand"] (spLoad C))
    (g3 : mg "check" = some (.ref f3)) (k3 : PySem.W.keepIn K (.ref f3) = true) (b3 : Binds K fd3 ["balloon", "plan"] []) (G3 : FnOk P w K mg base CX0 3 f3 fd3 ["balloon", "plan"] (spCheck K C))
    (g4 : mg "nights" = some (.ref f4)) (k4 : PySem.W.keepIn K (.ref f4) = true) (b4 : Binds K fd4 ["balloon"] []) (G4 : FnOk P w K mg base CX0 3 f4 fd4 ["balloon"] (spNights C))
    (g5 : mg "needs" = some (.ref f5)) (k5 : PySem.W.keepIn K (.ref f5) = true) (b5 : Binds K fd5 ["balloon", "many"] []) (G5 : FnOk P w K mg base CX0 5 f5 fd5 ["balloon", "many"] (spNeeds C))
    (g6 : mg "most" = some (.ref f6)) (k6 : PySem.W.keepIn K (.ref f6) = true) (b6 : Binds K fd6 ["balloon"] []) (G6 : FnOk P w K mg base CX0 4 f6 fd6 ["balloon"] (spMostC C)) :
    FnOk P w K mg base CX0 6 f fd ["balloon", "call", "numbers"] (spCall K C) := by
  refine F.ok scCa (fun vs H Q E h => ?_) (fun cdv A outer s H vs Q E hr h => ?_)
  · obtain ⟨a, l, b, q, rfl, _⟩ := h
    rfl
  · obtain ⟨a, l, b, q, rfl, hb, ob, hi, hl, k⟩ := h
    have r1 : Room 1 _ := hr.mono (by decide)
    have r2 : Room 2 _ := hr.mono (by decide)
    have r3 : Room 3 _ := hr.mono (by decide)
    have r4 : Room 4 _ := hr.mono (by decide)
    refine ⟨_, (pss_cons (ps_if (pt_cmpR op_eq (pv 1) (pe_num T.cB) (nomark _)) (pss_one (ps_ret (pe_call G1 r1 rfl g1 k1 b1 .nil pass0 (pa_cons (pv 0) (pa_cons (pe_ix ix_list (pv 2) pe_int (fun _ _ => rfl)) (pa_cons (pe_ix ix_list (pv 2) pe_int (fun _ _ => rfl)) (pa_cons (pe_ix ix_list (pv 2) pe_int (fun _ _ => rfl)) (pa_cons (pe_ix ix_list (pv 2) pe_int (fun _ _ => rfl)) (pa_cons (pe_ix ix_list (pv 2) pe_int (fun _ _ => rfl)) pa_nil))))))))) pss_nil)
      (pss_cons (ps_if (pt_cmpR op_eq (pv 1) (pe_num T.cL) (nomark _)) (pss_one (ps_ret (pe_call G2 r2 rfl g2 k2 b2 .nil pass0 (pa_cons (pv 0) (pa_cons (pe_ix ix_list (pv 2) pe_int (fun _ _ => rfl)) (pa_cons (pe_ix ix_list (pv 2) pe_int (fun _ _ => rfl)) pa_nil)))))) pss_nil)
      (pss_cons (ps_if (pt_cmpR op_eq (pv 1) (pe_num T.cC) (nomark _)) (pss_one (ps_ret (pe_call G3 r3 rfl g3 k3 b3 .nil pass0 (pa_cons (pv 0) (pa_cons (pe_slice sl_list (pv 2) (po_some pe_int) po_none) pa_nil))))) pss_nil)
      (pss_cons (ps_if (pt_cmpR op_eq (pv 1) (pe_num T.cN) (nomark _)) (pss_one (ps_ret (pe_call G4 r3 rfl g4 k4 b4 .nil pass0 (pa_cons (pv 0) pa_nil)))) pss_nil)
      (pss_cons (ps_if (pt_cmpR op_eq (pv 1) (pe_num T.cNe) (nomark _)) (pss_one (ps_ret (pe_call G5 hr rfl g5 k5 b5 .nil pass0 (pa_cons (pv 0) (pa_cons (pe_ix ix_list (pv 2) pe_int (fun _ _ => rfl)) pa_nil))))) pss_nil)
      (pss_one (ps_ret (pe_call G6 r4 rfl g6 k6 b6 .nil pass0 (pa_cons (pv 0) pa_nil))))))))), ?_⟩
    refine ⟨_, rfl, rfl, _, rfl, ?_⟩
    have hS := SqL.of (K := K) hl
    cases q with
    | begins x0 x1 x2 x3 x4 =>
      refine if_t (eq_t rfl) ?_
      refine ⟨_, rfl, _, rfl, l, _, _, _, rfl, rfl, hS, (by rfl), _, rfl, l, _, _, _, rfl, rfl, hS, (by rfl), _, rfl, l, _, _, _, rfl, rfl, hS, (by rfl), _, rfl, l, _, _, _, rfl, rfl, hS, (by rfl), _, rfl, l, _, _, _, rfl, rfl, hS, (by rfl), ?_⟩
      exact ⟨a, b, x0, x1, x2, x3, x4, rfl, hb, ob, k⟩
    | load x0 x1 =>
      refine if_f (eq_f (by simp [place])) ?_
      refine ⟨_, rfl, rfl, _, rfl, if_t (eq_t rfl) ?_⟩
      refine ⟨_, rfl, _, rfl, l, _, _, _, rfl, rfl, hS, (by rfl), _, rfl, l, _, _, _, rfl, rfl, hS, (by rfl), ?_⟩
      exact ⟨a, b, x0, x1, rfl, hb, ob, k⟩
    | check ns =>
      refine if_f (eq_f (by simp [place])) ?_
      refine ⟨_, rfl, rfl, _, rfl, if_f (eq_f (by simp [place])) ?_⟩
      refine ⟨_, rfl, rfl, _, rfl, if_t (eq_t rfl) ?_⟩
      rw [stay_check] at k
      refine ⟨_, rfl, _, rfl, _, rfl, l, _, rfl, hS, fun c hc => ?_⟩
      have s1 : Same H (upd H c (.lst (cutV (vI (body (.check ns))) (some 1) none))) := fun x o e => by
        rw [upd_ne (ne_of_none e hc)]; exact e
      have e1 : cutV (vI (body (.check ns))) (some 1) none = ns.map fun (n : Nat) => V.int n := by
        show cutV (vI ((ns.length : Int) :: ns.map (fun (n : Nat) => (n : Int)))) (some 1) none = _
        rw [cut_tail]
        unfold vI
        rw [List.map_map]
        rfl
      obtain ⟨dx, h1⟩ := hb
      refine ⟨a, c, b, ns, rfl, ⟨dx, s1 _ _ h1⟩, ob, ?_, hi.1, k.past s1⟩
      rw [e1]
      exact SqL.of upd_same
    | nights =>
      refine if_f (eq_f (by simp [place])) ?_
      refine ⟨_, rfl, rfl, _, rfl, if_f (eq_f (by simp [place])) ?_⟩
      refine ⟨_, rfl, rfl, _, rfl, if_f (eq_f (by simp [place])) ?_⟩
      refine ⟨_, rfl, rfl, _, rfl, if_t (eq_t rfl) ?_⟩
      rw [stay_nights] at k
      exact ⟨_, rfl, a, b, rfl, hb, ob, k⟩
    | needs n =>
      refine if_f (eq_f (by simp [place])) ?_
      refine ⟨_, rfl, rfl, _, rfl, if_f (eq_f (by simp [place])) ?_⟩
      refine ⟨_, rfl, rfl, _, rfl, if_f (eq_f (by simp [place])) ?_⟩
      refine ⟨_, rfl, rfl, _, rfl, if_f (eq_f (by simp [place])) ?_⟩
      refine ⟨_, rfl, rfl, _, rfl, if_t (eq_t rfl) ?_⟩
      rw [stay_needs] at k
      refine ⟨_, rfl, _, rfl, l, _, _, _, rfl, rfl, hS, (by rfl), ?_⟩
      exact ⟨a, b, n, rfl, hb, ob, k⟩
    | most =>
      refine if_f (eq_f (by simp [place])) ?_
      refine ⟨_, rfl, rfl, _, rfl, if_f (eq_f (by simp [place])) ?_⟩
      refine ⟨_, rfl, rfl, _, rfl, if_f (eq_f (by simp [place])) ?_⟩
      refine ⟨_, rfl, rfl, _, rfl, if_f (eq_f (by simp [place])) ?_⟩
      refine ⟨_, rfl, rfl, _, rfl, if_f (eq_f (by simp [place])) ?_⟩
      rw [stay_most] at k
      exact ⟨_, rfl, a, b, rfl, hb, ob, k⟩
end
end Nb
end

section
set_option Elab.async false
set_option linter.all false
set_option maxRecDepth 100000
set_option maxHeartbeats 4000000
namespace Nb
open PySem PySem.Spec PyProof.Rows L2
open PySem.W (Codec)
open Si95 (Balloon Stand Call)
/-! ### all calls, one behind the other -/
def spAns (K : PySem.W.Frag) : Sp := fun vs H Q _ => ∃ (l : Addr) (qs : List Call), vs = [.ref l] ∧ SqL K H l (vI (flat qs)) ∧ (∀ q ∈ qs, Inb q) ∧ (PyFlat.told (runs Si95.init qs)).length ≤ 10000000 ∧
  ∀ (H' : Hp) (p : Addr), H' p = some (.lst (vI (PyFlat.told (runs Si95.init qs)))) → Same H H' → Q (.ref p) H'
theorem cut_mid (pre m r : List Int) (x : Int) : cutV (vI (pre ++ ((x :: m) ++ r))) (some ((pre.length : Int) + 1)) (some ((pre.length + (x :: m).length : Nat) : Int)) = vI m := by
  have n1 : (vI (pre ++ ((x :: m) ++ r))).length = pre.length + (m.length + 1 + r.length) := by
    rw [vI_len, List.length_append, List.length_append, List.length_cons]
  have e1 : HT.sIx (vI (pre ++ ((x :: m) ++ r))).length 0 (some ((pre.length : Int) + 1)) = pre.length + 1 := by
    have q : ((pre.length : Int) + 1) = ((pre.length + 1 : Nat) : Int) := by omega
    rw [q, HT.sIx_nat]; omega
  have e2 : HT.sIx (vI (pre ++ ((x :: m) ++ r))).length (vI (pre ++ ((x :: m) ++ r))).length (some ((pre.length + (x :: m).length : Nat) : Int)) = pre.length + (m.length + 1) := by
    rw [HT.sIx_nat, List.length_cons]; omega
  show ((vI (pre ++ ((x :: m) ++ r))).drop (HT.sIx (vI (pre ++ ((x :: m) ++ r))).length 0 (some ((pre.length : Int) + 1)))).take (HT.sIx (vI (pre ++ ((x :: m) ++ r))).length (vI (pre ++ ((x :: m) ++ r))).length (some ((pre.length + (x :: m).length : Nat) : Int)) - HT.sIx (vI (pre ++ ((x :: m) ++ r))).length 0 (some ((pre.length : Int) + 1))) = vI m
  rw [e1, e2]
  have e3 : vI (pre ++ ((x :: m) ++ r)) = vI (pre ++ [x]) ++ (vI m ++ vI r) := by
    rw [← vI_app, ← vI_app, List.append_assoc]; rfl
  have l3 : (vI (pre ++ [x])).length = pre.length + 1 := by rw [vI_len, List.length_append]; rfl
  rw [e3, show pre.length + 1 = (vI (pre ++ [x])).length from l3.symm, List.drop_left, l3, show pre.length + (m.length + 1) - (pre.length + 1) = (vI m).length by rw [vI_len]; omega, List.take_left]
section
variable {P : Program} {w : World} {K : PySem.W.Frag} {mg : Str → Option Value} {base : Heap} {C : Addr}
theorem scAn : FnScope ["calls", "balloon", "answered", "start", "end", "answer"] ["calls"] (defScope sAns) := ⟨rfl, rfl, rfl, by decide +kernel, rfl, by decide +kernel, by decide +kernel⟩
theorem d_answers {f fI fE fC : Addr} {fd fdI fdE fdC : FuncData} (F : Fun K "answers" "answers" sAns f fd) (T : Txt K mg C) (M : Mk K C fI) (FI : Fun K "__init__" "Balloon.__init__" sInit fI fdI) (bI : Binds K fdI ["self"] [])
    (gE : mg "call_end" = some (.ref fE)) (kE : PySem.W.keepIn K (.ref fE) = true) (bE : Binds K fdE ["calls", "start"] []) (GE : FnOk P w K mg base CX0 1 fE fdE ["calls", "start"] (spEnd K))
    (gCl : mg "answer_call" = some (.ref fC)) (kC : PySem.W.keepIn K (.ref fC) = true) (bC : Binds K fdC ["balloon", "call", "numbers"] []) {n : Nat} (hn : 1 ≤ n) (GC : FnOk P w K mg base CX0 (n + 1) fC fdC ["balloon", "call", "numbers"] (spCall K C)) :
    FnOk P w K mg base CX0 (n + 2) f fd ["calls"] (spAns K) := by
  have GI : FnOk P w K mg base CX0 1 fI fdI ["self"] (spInit C) := d_init FI T
  refine F.ok scAn (fun vs H Q E h => ?_) (fun cdv A outer s H vs Q E hr h => ?_)
  · obtain ⟨l, qs, rfl, _⟩ := h
    rfl
  · obtain ⟨l, qs, rfl, hS, hin, hlen, k⟩ := h
    have hr1 : Room 1 _ := hr.mono (by omega)
    have hr2 : Room 2 _ := hr.mono (by omega)
    refine ⟨_, (pss_cons (ps_set (i := 1) scAn.nd rfl (Or.inl rfl) (pe_make0 M GI hr2 rfl T.gC bI .nil pass0))
      (pss_cons (ps_set (i := 2) scAn.nd rfl (Or.inl rfl) (pe_lst pa_nil))
      (pss_cons (ps_set (i := 3) scAn.nd rfl (Or.inl rfl) pe_int)
      (pss_cons (ps_while PassesOwn.never (pt_cmpR op_lt (pv 3) (pe_callB call_len_seq (by rfl) T.len PySem.boot_len (pa_cons (pv 0) pa_nil)) (nomark _))
        (pss_cons (ps_set (i := 4) scAn.nd rfl (Or.inl rfl) (pe_call GE hr1 rfl gE kE bE .nil pass0 (pa_cons (pv 0) (pa_cons (pv 3) pa_nil))))
      (pss_cons (ps_set (i := 5) scAn.nd rfl (Or.inl rfl) (pe_call GC hr rfl gCl kC bC .nil pass0 (pa_cons (pv 1) (pa_cons (pe_ix ix_list (pv 0) (pv 3) (fun _ _ => rfl)) (pa_cons (pe_slice sl_list (pv 0) (po_some (pe_op op_add (pv 3) pe_int)) (po_some (pv 4))) pa_nil)))))
      (pss_cons (ps_expr (pe_bm PySem.F.plainAttrs_list PySem.F.slot_list_append PySem.F.type_list_append mt_append (pv 2) (pa_cons (pe_callB call_len_seq (by rfl) T.len PySem.boot_len (pa_cons (pv 5) pa_nil)) pa_nil)))
      (pss_cons (ps_expr (pe_bm PySem.F.plainAttrs_list PySem.F.slot_list_extend PySem.F.type_list_extend mt_extend (pv 2) (pa_cons (pv 5) pa_nil)))
      (pss_one (ps_set (i := 3) scAn.nd rfl (Or.inl rfl) (pv 4))))))))
      (pss_one (ps_ret (pv 2))))))), ?_⟩
    intro x dx nx nd ne
    refine ⟨x, dx, rfl, upd_same, fun H1 b1 k1 => ⟨rfl, ?_⟩⟩
    have s1 : Same H H1 := Same.made nx nd k1
    refine ⟨by show 0 ≤ sizeLine; decide, fun o ho => ?_⟩
    have s2 : Same H (upd H1 o (.lst [])) := fun c q e => by
      rw [upd_ne (ne_of_none (s1 _ _ e) ho)]; exact s1 _ _ e
    obtain ⟨dy, hx1⟩ := b1
    have nxo : x ≠ o := ne_of_none hx1 ho
    refine while_by (fun σ H' => ∃ (p r : List Call) (v4 v5 : Option V), qs = p ++ r ∧ σ = [some (.ref l), some (.ref x), some (.ref o), some (.int ((flat p).length : Nat)), v4, v5] ∧ Same H H' ∧ BalAt C H' x (after Si95.init p) ∧ H' o = some (.lst (vI (PyFlat.told (runs Si95.init p)))))
      (fun σ _ => (flat qs).length - slotN σ 3) ⟨[], qs, none, none, rfl, rfl, s2, ⟨dy, by rw [upd_ne nxo]; exact hx1⟩, upd_same⟩ ?_ ?_
    · rintro σ H2 ⟨p, r, v4, v5, eq, rfl, sm, hb, ho2⟩
      refine ⟨_, rfl, _, rfl, l, _, rfl, .inl (sm.seq hS), _, _, rfl, rfl, _, rfl, ?_⟩
      rw [vI_len]
      cases r with
      | nil =>
        rw [List.append_nil] at eq
        subst eq
        refine if_f (decide_eq_false (by omega)) ?_
        exact ⟨_, rfl, k _ o ho2 sm⟩
      | cons q r =>
        have ef : flat qs = flat p ++ (flat1 q ++ flat r) := by rw [eq, flat_append]; rfl
        have el : (flat qs).length = (flat p).length + ((flat1 q).length + (flat r).length) := by rw [ef, List.length_append, List.length_append]
        have q1 : 1 ≤ (flat1 q).length := by rw [flat1_eq]; exact Nat.succ_le_succ (Nat.zero_le _)
        refine if_t (decide_eq_true (by omega)) ?_
        have hS2 : SqL K H2 l (vI (flat p ++ (flat1 q ++ flat r))) := by rw [← ef]; exact sm.seq hS
        refine ⟨_, rfl, _, rfl, l, flat p, flat r, q, rfl, hS2, fun Hn smn => ?_⟩
        have hS2 : SqL K Hn l (vI (flat p ++ (flat1 q ++ flat r))) := smn.seq hS2
        have sm : Same H Hn := sm.trans smn
        have ho2 := smn _ _ ho2
        have hb : BalAt C Hn x (after Si95.init p) := by
          obtain ⟨dz, hx2⟩ := hb
          exact ⟨dz, smn _ _ hx2⟩
        rw [flat1_eq] at hS2
        refine ⟨_, rfl, _, rfl, _, rfl, l, _, _, _, rfl, rfl, hS2, at_mid _ _ _, _, rfl, _, rfl, _, _, rfl, rfl, _, rfl, _, rfl, _, rfl, l, _, rfl, hS2, fun c hc => ?_⟩
        rw [flat1_eq, cut_mid]
        obtain ⟨dz, hx2⟩ := hb
        have nxc : x ≠ c := ne_of_none hx2 hc
        have noc : o ≠ c := ne_of_none ho2 hc
        have okb : Ok (after Si95.init p) := ok_after p ok_init
        refine ⟨x, c, after Si95.init p, q, rfl, ⟨dz, by rw [upd_ne nxc]; exact hx2⟩, okb, hin q (by rw [eq]; simp), upd_same, fun H3 d hd h3 b3 k3 => ?_⟩
        have nxo : x ≠ o := ne_of hx2 ho2 (by intro z; cases z)
        have ho3 : H3 o = some (.lst (vI (PyFlat.told (runs Si95.init p)))) := k3 o _ (by rw [upd_ne noc]; exact ho2) nxo.symm
        have hd2 : Hn d = none := by
          by_cases e : d = c
          · rw [e]; exact hc
          · rw [upd_ne e] at hd; exact hd
        have ndo : d ≠ o := (ne_of_none ho2 hd2).symm
        have ndx : d ≠ x := (ne_of_none hx2 hd2).symm
        have eT : PyFlat.told (runs Si95.init (p ++ [q])) = PyFlat.told (runs Si95.init p) ++ (((ans (Si95.step (after Si95.init p) q).2).length : Int) :: ans (Si95.step (after Si95.init p) q).2) := by
          rw [runs_append, told_append]
          show _ ++ PyFlat.told [ans (Si95.step (after Si95.init p) q).2] = _
          rw [told_cons]
          show _ ++ (_ ++ []) = _
          rw [List.append_nil]
        have eT2 : PyFlat.told (runs Si95.init qs) = PyFlat.told (runs Si95.init (p ++ [q])) ++ PyFlat.told (runs (after Si95.init (p ++ [q])) r) := by
          rw [← told_append, ← runs_append, eq, List.append_assoc]; rfl
        have lT : (PyFlat.told (runs Si95.init p)).length + ((ans (Si95.step (after Si95.init p) q).2).length + 1) ≤ 10000000 := by
          have := hlen
          rw [eT2, eT, List.length_append, List.length_append, List.length_cons] at this
          omega
        have big : (10000000 : Nat) < sizeLine := by decide
        refine ⟨_, rfl, .inl ⟨rfl, _, SqL.of ho3⟩, _, rfl, d, _, rfl, .inl (SqL.of h3), o, _, _, rfl, rfl, ho3, (by rw [vI_len]; omega), ?_⟩
        refine ⟨_, rfl, .inl ⟨rfl, _, SqL.of upd_same⟩, _, rfl, o, d, _, _, rfl, rfl, upd_same, (by rw [upd_ne ndo]; exact h3), (by rw [List.length_append, vI_len, List.length_map, List.length_singleton]; omega), ?_⟩
        refine ⟨_, rfl, ⟨p ++ [q], r, some (.int (((flat p).length + (place q :: body q).length : Nat) : Int)), some (.ref d), by rw [eq, List.append_assoc]; rfl, ?_, ?_, ?_, ?_⟩, ?_⟩
        · have e5 : (flat (p ++ [q])).length = (flat p).length + (place q :: body q).length := by
            rw [flat_append, List.length_append]
            show (flat p).length + (flat1 q ++ []).length = _
            rw [List.append_nil, flat1_eq]
          rw [e5]
          rfl
        · intro b ob e
          have nbo : b ≠ o := by
            intro z
            rw [z] at e
            rw [s1.free ho] at e
            cases e
          have nbx : b ≠ x := ne_of_none e nx
          rw [upd_ne nbo, upd_ne nbo]
          exact k3 b ob (by rw [upd_ne (ne_of_none (sm _ _ e) hc)]; exact sm _ _ e) nbx
        · obtain ⟨d3, b3⟩ := b3
          refine ⟨d3, ?_⟩
          rw [upd_ne nxo, upd_ne nxo, after_append]
          exact b3
        · rw [upd_same, eT, vI_app, List.append_assoc]
          show some (HO.lst (vI (PyFlat.told (runs Si95.init p)) ++ ([V.int (((ans (Si95.step (after Si95.init p) q).2).map V.int).length : Nat)] ++ (ans (Si95.step (after Si95.init p) q).2).map V.int))) = _
          rw [List.length_map]
          rfl
        · show (flat qs).length - ((flat p).length + (place q :: body q).length) < (flat qs).length - (flat p).length
          rw [← flat1_eq]
          omega
    · rintro σ H2 Q1 Q2 hq ⟨v, e, u, e2, a', ys, e3, e4, i, j, e5, e6, b', e7, q⟩
      exact ⟨v, e, u, e2, a', ys, e3, e4, i, j, e5, e6, b', e7, hq _ _ q⟩
end
end Nb
end

section
set_option Elab.async false
set_option linter.all false
set_option maxRecDepth 100000
set_option maxHeartbeats 4000000
namespace Nb
open PySem PySem.Spec PyProof.Rows L2
open PySem.W (Codec)
open Si95 (Balloon Stand Call)
theorem all_mk {P : Program} {w : World} {K : PySem.W.Frag} {h : Heap} {mg : Str → Option Value} {fa C f1 f2 f3 f4 f5 f6 f7 f8 f9 f10 f11 f12 f13 f14 f15 f16 f17 f18 : Addr} (X : K.In h) (G : h.Ns mainGlobals mg) (hfa : mg "answers" = some (.ref fa))
    {od1 an1 od2 an2 od3 an3 od4 an4 od5 an5 od6 an6 od7 an7 od8 an8 od9 an9 od10 an10 od11 an11 od12 an12 od13 an13 od14 an14 od15 an15 od16 an16 od17 an17 od18 an18 : Option Addr} {sl1 sl2 sl3 sl4 sl5 sl6 sl7 sl8 sl9 sl10 sl11 sl12 sl13 sl14 sl15 sl16 sl17 sl18 : Array (Option Value)} {oc1 kV1 dc1 pm1 cd1 ct1 oc2 kV2 dc2 pm2 cd2 ct2 oc3 kV3 dc3 pm3 cd3 ct3 oc4 kV4 dc4 pm4 cd4 ct4 oc5 kV5 dc5 pm5 cd5 ct5 oc6 kV6 dc6 pm6 cd6 ct6 oc7 kV7 dc7 pm7 cd7 ct7 oc8 kV8 dc8 pm8 cd8 ct8 oc9 kV9 dc9 pm9 cd9 ct9 oc10 kV10 dc10 pm10 cd10 ct10 oc11 kV11 dc11 pm11 cd11 ct11 oc12 kV12 dc12 pm12 cd12 ct12 oc13 kV13 dc13 pm13 cd13 ct13 oc14 kV14 dc14 pm14 cd14 ct14 oc15 kV15 dc15 pm15 cd15 ct15 oc16 kV16 dc16 pm16 cd16 ct16 oc17 kV17 dc17 pm17 cd17 ct17 oc18 kV18 dc18 pm18 cd18 ct18 : Value}
    {tcNW tcTL tcCD tcB tcL tcC tcN tcNe tcM tcMN tcNT tcNL tcWD tcMW tcML tcMO tcMK tcMG tcMS : Tok}
    (aC : PySem.W.nsIn K mainGlobals "Balloon" = some (some (.ref C)))
    (a1 : PySem.W.findIn K (.ref C) "__init__" = some (some (.ref f1))) (i1 : PySem.W.isFn K (.ref f1) = true)
    (l1 : K.lookup f1 = some ⟨oc1, od1, .func (PySem.W.fnOf "__init__" "Balloon.__init__" (defArgs sInit) (defBody sInit) (defScope sInit) .none kV1 dc1 pm1 an1 cd1 ct1), sl1⟩) (c1 : PySem.W.codeIn K cd1 "Balloon.__init__" = true) (k1 : PySem.W.keepIn K (.ref f1) = true)
    (a2 : PySem.W.findIn K (.ref C) "lift_to_spare" = some (some (.ref f2))) (i2 : PySem.W.isFn K (.ref f2) = true)
    (l2 : K.lookup f2 = some ⟨oc2, od2, .func (PySem.W.fnOf "lift_to_spare" "Balloon.lift_to_spare" (defArgs sLift) (defBody sLift) (defScope sLift) .none kV2 dc2 pm2 an2 cd2 ct2), sl2⟩) (c2 : PySem.W.codeIn K cd2 "Balloon.lift_to_spare" = true) (k2 : PySem.W.keepIn K (.ref f2) = true)
    (a3 : PySem.W.findIn K (.ref C) "gas_after_day" = some (some (.ref f3))) (i3 : PySem.W.isFn K (.ref f3) = true)
    (l3 : K.lookup f3 = some ⟨oc3, od3, .func (PySem.W.fnOf "gas_after_day" "Balloon.gas_after_day" (defArgs sDay) (defBody sDay) (defScope sDay) .none kV3 dc3 pm3 an3 cd3 ct3), sl3⟩) (c3 : PySem.W.codeIn K cd3 "Balloon.gas_after_day" = true) (k3 : PySem.W.keepIn K (.ref f3) = true)
    (a4 : PySem.W.findIn K (.ref C) "least_to_throw" = some (some (.ref f4))) (i4 : PySem.W.isFn K (.ref f4) = true)
    (l4 : K.lookup f4 = some ⟨oc4, od4, .func (PySem.W.fnOf "least_to_throw" "Balloon.least_to_throw" (defArgs sThrow) (defBody sThrow) (defScope sThrow) .none kV4 dc4 pm4 an4 cd4 ct4), sl4⟩) (c4 : PySem.W.codeIn K cd4 "Balloon.least_to_throw" = true) (k4 : PySem.W.keepIn K (.ref f4) = true)
    (a5 : PySem.W.findIn K (.ref C) "wrong_by_night" = some (some (.ref f5))) (i5 : PySem.W.isFn K (.ref f5) = true)
    (l5 : K.lookup f5 = some ⟨oc5, od5, .func (PySem.W.fnOf "wrong_by_night" "Balloon.wrong_by_night" (defArgs sWrong) (defBody sWrong) (defScope sWrong) .none kV5 dc5 pm5 an5 cd5 ct5), sl5⟩) (c5 : PySem.W.codeIn K cd5 "Balloon.wrong_by_night" = true) (k5 : PySem.W.keepIn K (.ref f5) = true)
    (a6 : PySem.W.findIn K (.ref C) "least_plan" = some (some (.ref f6))) (i6 : PySem.W.isFn K (.ref f6) = true)
    (l6 : K.lookup f6 = some ⟨oc6, od6, .func (PySem.W.fnOf "least_plan" "Balloon.least_plan" (defArgs sPlan) (defBody sPlan) (defScope sPlan) .none kV6 dc6 pm6 an6 cd6 ct6), sl6⟩) (c6 : PySem.W.codeIn K cd6 "Balloon.least_plan" = true) (k6 : PySem.W.keepIn K (.ref f6) = true)
    (a7 : PySem.W.findIn K (.ref C) "nights_up" = some (some (.ref f7))) (i7 : PySem.W.isFn K (.ref f7) = true)
    (l7 : K.lookup f7 = some ⟨oc7, od7, .func (PySem.W.fnOf "nights_up" "Balloon.nights_up" (defArgs sNts) (defBody sNts) (defScope sNts) .none kV7 dc7 pm7 an7 cd7 ct7), sl7⟩) (c7 : PySem.W.codeIn K cd7 "Balloon.nights_up" = true) (k7 : PySem.W.keepIn K (.ref f7) = true)
    (a8 : PySem.W.findIn K (.ref C) "most_sand" = some (some (.ref f8))) (i8 : PySem.W.isFn K (.ref f8) = true)
    (l8 : K.lookup f8 = some ⟨oc8, od8, .func (PySem.W.fnOf "most_sand" "Balloon.most_sand" (defArgs sMost) (defBody sMost) (defScope sMost) .none kV8 dc8 pm8 an8 cd8 ct8), sl8⟩) (c8 : PySem.W.codeIn K cd8 "Balloon.most_sand" = true) (k8 : PySem.W.keepIn K (.ref f8) = true)
    (a9 : PySem.W.findIn K (.ref C) "least_sand" = some (some (.ref f9))) (i9 : PySem.W.isFn K (.ref f9) = true)
    (l9 : K.lookup f9 = some ⟨oc9, od9, .func (PySem.W.fnOf "least_sand" "Balloon.least_sand" (defArgs sLeast) (defBody sLeast) (defScope sLeast) .none kV9 dc9 pm9 an9 cd9 ct9), sl9⟩) (c9 : PySem.W.codeIn K cd9 "Balloon.least_sand" = true) (k9 : PySem.W.keepIn K (.ref f9) = true)
    (a10 : PySem.W.nsIn K mainGlobals "answers" = some (some (.ref f10)))
    (l10 : K.lookup f10 = some ⟨oc10, od10, .func (PySem.W.fnOf "answers" "answers" (defArgs sAns) (defBody sAns) (defScope sAns) .none kV10 dc10 pm10 an10 cd10 ct10), sl10⟩) (c10 : PySem.W.codeIn K cd10 "answers" = true) (k10 : PySem.W.keepIn K (.ref f10) = true)
    (a11 : PySem.W.nsIn K mainGlobals "call_end" = some (some (.ref f11)))
    (l11 : K.lookup f11 = some ⟨oc11, od11, .func (PySem.W.fnOf "call_end" "call_end" (defArgs sEnd) (defBody sEnd) (defScope sEnd) .none kV11 dc11 pm11 an11 cd11 ct11), sl11⟩) (c11 : PySem.W.codeIn K cd11 "call_end" = true) (k11 : PySem.W.keepIn K (.ref f11) = true)
    (a12 : PySem.W.nsIn K mainGlobals "answer_call" = some (some (.ref f12)))
    (l12 : K.lookup f12 = some ⟨oc12, od12, .func (PySem.W.fnOf "answer_call" "answer_call" (defArgs sCall) (defBody sCall) (defScope sCall) .none kV12 dc12 pm12 an12 cd12 ct12), sl12⟩) (c12 : PySem.W.codeIn K cd12 "answer_call" = true) (k12 : PySem.W.keepIn K (.ref f12) = true)
    (a13 : PySem.W.nsIn K mainGlobals "begins" = some (some (.ref f13)))
    (l13 : K.lookup f13 = some ⟨oc13, od13, .func (PySem.W.fnOf "begins" "begins" (defArgs sBegins) (defBody sBegins) (defScope sBegins) .none kV13 dc13 pm13 an13 cd13 ct13), sl13⟩) (c13 : PySem.W.codeIn K cd13 "begins" = true) (k13 : PySem.W.keepIn K (.ref f13) = true)
    (a14 : PySem.W.nsIn K mainGlobals "load" = some (some (.ref f14)))
    (l14 : K.lookup f14 = some ⟨oc14, od14, .func (PySem.W.fnOf "load" "load" (defArgs sLoad) (defBody sLoad) (defScope sLoad) .none kV14 dc14 pm14 an14 cd14 ct14), sl14⟩) (c14 : PySem.W.codeIn K cd14 "load" = true) (k14 : PySem.W.keepIn K (.ref f14) = true)
    (a15 : PySem.W.nsIn K mainGlobals "check" = some (some (.ref f15)))
    (l15 : K.lookup f15 = some ⟨oc15, od15, .func (PySem.W.fnOf "check" "check" (defArgs sCheck) (defBody sCheck) (defScope sCheck) .none kV15 dc15 pm15 an15 cd15 ct15), sl15⟩) (c15 : PySem.W.codeIn K cd15 "check" = true) (k15 : PySem.W.keepIn K (.ref f15) = true)
    (a16 : PySem.W.nsIn K mainGlobals "nights" = some (some (.ref f16)))
    (l16 : K.lookup f16 = some ⟨oc16, od16, .func (PySem.W.fnOf "nights" "nights" (defArgs sNights) (defBody sNights) (defScope sNights) .none kV16 dc16 pm16 an16 cd16 ct16), sl16⟩) (c16 : PySem.W.codeIn K cd16 "nights" = true) (k16 : PySem.W.keepIn K (.ref f16) = true)
    (a17 : PySem.W.nsIn K mainGlobals "needs" = some (some (.ref f17)))
    (l17 : K.lookup f17 = some ⟨oc17, od17, .func (PySem.W.fnOf "needs" "needs" (defArgs sNeeds) (defBody sNeeds) (defScope sNeeds) .none kV17 dc17 pm17 an17 cd17 ct17), sl17⟩) (c17 : PySem.W.codeIn K cd17 "needs" = true) (k17 : PySem.W.keepIn K (.ref f17) = true)
    (a18 : PySem.W.nsIn K mainGlobals "most" = some (some (.ref f18)))
    (l18 : K.lookup f18 = some ⟨oc18, od18, .func (PySem.W.fnOf "most" "most" (defArgs sMostC) (defBody sMostC) (defScope sMostC) .none kV18 dc18 pm18 an18 cd18 ct18), sl18⟩) (c18 : PySem.W.codeIn K cd18 "most" = true) (k18 : PySem.W.keepIn K (.ref f18) = true)
    (pg : PySem.W.plainGet K C Str.empty = true) (hd : PySem.W.hasDictIn K C = true) (po : PySem.W.plainOver K C = true) (sa : PySem.W.findIn K (.ref C) "__setattr__" = some (some (.builtin "object.__setattr__"))) (mk : PySem.W.makesIn K C = true) (kc : PySem.W.keepIn K (.ref C) = true)
    (nW : PySem.W.findIn K (.ref C) "weight" = some none)
    (nD : PySem.W.findIn K (.ref C) "day" = some none)
    (nN : PySem.W.findIn K (.ref C) "night" = some none)
    (nO : PySem.W.findIn K (.ref C) "over" = some none)
    (nK : PySem.W.findIn K (.ref C) "leak" = some none)
    (nG : PySem.W.findIn K (.ref C) "gas" = some none)
    (nS : PySem.W.findIn K (.ref C) "sand" = some none)
    (zlen : PySem.W.nsIn K mainGlobals "len" = some none)
    (zmax : PySem.W.nsIn K mainGlobals "max" = some none)
    (zmin : PySem.W.nsIn K mainGlobals "min" = some none)
    (zenum : PySem.W.nsIn K mainGlobals "enumerate" = some none)
    (xcNW : PySem.W.nsIn K mainGlobals "NOTHING_WRONG" = some (some (.int (0) tcNW)))
    (xcTL : PySem.W.nsIn K mainGlobals "TOO_LITTLE_SAND" = some (some (.int (1) tcTL)))
    (xcCD : PySem.W.nsIn K mainGlobals "COMES_DOWN" = some (some (.int (2) tcCD)))
    (xcB : PySem.W.nsIn K mainGlobals "BEGINS" = some (some (.int (0) tcB)))
    (xcL : PySem.W.nsIn K mainGlobals "LOAD" = some (some (.int (1) tcL)))
    (xcC : PySem.W.nsIn K mainGlobals "CHECK" = some (some (.int (2) tcC)))
    (xcN : PySem.W.nsIn K mainGlobals "NIGHTS" = some (some (.int (3) tcN)))
    (xcNe : PySem.W.nsIn K mainGlobals "NEEDS" = some (some (.int (4) tcNe)))
    (xcM : PySem.W.nsIn K mainGlobals "MOST" = some (some (.int (5) tcM)))
    (xcMN : PySem.W.nsIn K mainGlobals "MOST_NIGHTS" = some (some (.int (200) tcMN)))
    (xcNT : PySem.W.nsIn K mainGlobals "NOT_AS_TOLD" = some (some (.int (-1) tcNT)))
    (xcNL : PySem.W.nsIn K mainGlobals "NOT_LIFTED" = some (some (.int (-3) tcNL)))
    (xcWD : PySem.W.nsIn K mainGlobals "WOULD_NOT_DO" = some (some (.int (-6) tcWD)))
    (xcMW : PySem.W.nsIn K mainGlobals "MOST_WEIGHT" = some (some (.int (10000) tcMW)))
    (xcML : PySem.W.nsIn K mainGlobals "MOST_LIFT" = some (some (.int (100) tcML)))
    (xcMO : PySem.W.nsIn K mainGlobals "MOST_OVER" = some (some (.int (10000) tcMO)))
    (xcMK : PySem.W.nsIn K mainGlobals "MOST_LEAK" = some (some (.int (200) tcMK)))
    (xcMG : PySem.W.nsIn K mainGlobals "MOST_GAS" = some (some (.int (200) tcMG)))
    (xcMS : PySem.W.nsIn K mainGlobals "MOST_SAND" = some (some (.int (10000) tcMS)))
    : ∃ fd : FuncData, (∀ (s : Shared) (us : List Value), us.length = (["calls"] : List Str).length → BindsTo s fd ⟨us, []⟩ ((["calls"] : List Str).zip us)) ∧ ∀ base : Heap, K.In base → base.Ns mainGlobals mg → FnOk P w K mg base CX0 7 fa fd ["calls"] (spAns K) := by
  have e := hfa.symm.trans (PySem.W.mg_of X G a10)
  cases e
  have T : Txt K mg C := ⟨⟨pg, hd, po, sa⟩, nW, nD, nN, nO, nK, nG, nS, PySem.W.mg_of X G aC, PySem.W.mg_none_of X G zlen, PySem.W.mg_none_of X G zmax, PySem.W.mg_none_of X G zmin, PySem.W.mg_none_of X G zenum, ⟨_, PySem.W.mg_of X G xcNW⟩, ⟨_, PySem.W.mg_of X G xcTL⟩, ⟨_, PySem.W.mg_of X G xcCD⟩, ⟨_, PySem.W.mg_of X G xcB⟩, ⟨_, PySem.W.mg_of X G xcL⟩, ⟨_, PySem.W.mg_of X G xcC⟩, ⟨_, PySem.W.mg_of X G xcN⟩, ⟨_, PySem.W.mg_of X G xcNe⟩, ⟨_, PySem.W.mg_of X G xcM⟩, ⟨_, PySem.W.mg_of X G xcMN⟩, ⟨_, PySem.W.mg_of X G xcNT⟩, ⟨_, PySem.W.mg_of X G xcNL⟩, ⟨_, PySem.W.mg_of X G xcWD⟩, ⟨_, PySem.W.mg_of X G xcMW⟩, ⟨_, PySem.W.mg_of X G xcML⟩, ⟨_, PySem.W.mg_of X G xcMO⟩, ⟨_, PySem.W.mg_of X G xcMK⟩, ⟨_, PySem.W.mg_of X G xcMG⟩, ⟨_, PySem.W.mg_of X G xcMS⟩⟩
  have F1 := fun_mk (st := sInit) l1 c1 k1
  have F2 := fun_mk (st := sLift) l2 c2 k2
  have F3 := fun_mk (st := sDay) l3 c3 k3
  have F4 := fun_mk (st := sThrow) l4 c4 k4
  have F5 := fun_mk (st := sWrong) l5 c5 k5
  have F6 := fun_mk (st := sPlan) l6 c6 k6
  have F7 := fun_mk (st := sNts) l7 c7 k7
  have F8 := fun_mk (st := sMost) l8 c8 k8
  have F9 := fun_mk (st := sLeast) l9 c9 k9
  have F10 := fun_mk (st := sAns) l10 c10 k10
  have F11 := fun_mk (st := sEnd) l11 c11 k11
  have F12 := fun_mk (st := sCall) l12 c12 k12
  have F13 := fun_mk (st := sBegins) l13 c13 k13
  have F14 := fun_mk (st := sLoad) l14 c14 k14
  have F15 := fun_mk (st := sCheck) l15 c15 k15
  have F16 := fun_mk (st := sNights) l16 c16 k16
  have F17 := fun_mk (st := sNeeds) l17 c17 k17
  have F18 := fun_mk (st := sMostC) l18 c18 k18
  have b1 := F1.binds (ps := ["self"]) fun _ _ _ _ _ _ us hl => match us, hl with | [_], _ => rfl
  have b2 := F2.binds (ps := ["self", "gas", "sand"]) fun _ _ _ _ _ _ us hl => match us, hl with | [_, _, _], _ => rfl
  have b3 := F3.binds (ps := ["self", "gas", "sand"]) fun _ _ _ _ _ _ us hl => match us, hl with | [_, _, _], _ => rfl
  have b4 := F4.binds (ps := ["self", "gas", "sand"]) fun _ _ _ _ _ _ us hl => match us, hl with | [_, _, _], _ => rfl
  have b5 := F5.binds (ps := ["self", "gas", "sand", "thrown"]) fun _ _ _ _ _ _ us hl => match us, hl with | [_, _, _, _], _ => rfl
  have b6 := F6.binds (ps := ["self", "sand"]) fun _ _ _ _ _ _ us hl => match us, hl with | [_, _], _ => rfl
  have b7 := F7.binds (ps := ["self", "sand"]) fun _ _ _ _ _ _ us hl => match us, hl with | [_, _], _ => rfl
  have b8 := F8.binds (ps := ["self"]) fun _ _ _ _ _ _ us hl => match us, hl with | [_], _ => rfl
  have b9 := F9.binds (ps := ["self", "many", "enough"]) fun _ _ _ _ _ _ us hl => match us, hl with | [_, _, _], _ => rfl
  have b10 := F10.binds (ps := ["calls"]) fun _ _ _ _ _ _ us hl => match us, hl with | [_], _ => rfl
  have b11 := F11.binds (ps := ["calls", "start"]) fun _ _ _ _ _ _ us hl => match us, hl with | [_, _], _ => rfl
  have b12 := F12.binds (ps := ["balloon", "call", "numbers"]) fun _ _ _ _ _ _ us hl => match us, hl with | [_, _, _], _ => rfl
  have b13 := F13.binds (ps := ["balloon", "weight", "day", "night", "over", "leak"]) fun _ _ _ _ _ _ us hl => match us, hl with | [_, _, _, _, _, _], _ => rfl
  have b14 := F14.binds (ps := ["balloon", "gas", "sand"]) fun _ _ _ _ _ _ us hl => match us, hl with | [_, _, _], _ => rfl
  have b15 := F15.binds (ps := ["balloon", "plan"]) fun _ _ _ _ _ _ us hl => match us, hl with | [_, _], _ => rfl
  have b16 := F16.binds (ps := ["balloon"]) fun _ _ _ _ _ _ us hl => match us, hl with | [_], _ => rfl
  have b17 := F17.binds (ps := ["balloon", "many"]) fun _ _ _ _ _ _ us hl => match us, hl with | [_, _], _ => rfl
  have b18 := F18.binds (ps := ["balloon"]) fun _ _ _ _ _ _ us hl => match us, hl with | [_], _ => rfl
  exact ⟨PySem.W.fnOf "answers" "answers" (defArgs sAns) (defBody sAns) (defScope sAns) .none kV10 dc10 pm10 an10 cd10 ct10, fun s us hu => match us, hu with | [_], _ => .of_eq rfl, fun base _ _ => have GP := d_plan (P := P) (w := w) (base := base) (mg := mg) (C := C) F6 T F3 b3 ⟨a3, i3, k3⟩ F4 b4 ⟨a4, i4, k4⟩
    have GN := d_nts (P := P) (w := w) (base := base) (mg := mg) (C := C) F7 T GP b6 ⟨a6, i6, k6⟩
    have GM := d_most (P := P) (w := w) (base := base) (mg := mg) (C := C) F8 T F2 b2 ⟨a2, i2, k2⟩
    have GE := d_least (P := P) (w := w) (base := base) (mg := mg) (C := C) F9 T GN b7 ⟨a7, i7, k7⟩
    d_answers F10 T ⟨mk, a1, i1, kc⟩ F1 b1 (PySem.W.mg_of X G a11) k11 b11 (d_end F11 T) (PySem.W.mg_of X G a12) k12 b12 (n := 5) (by decide)
      (d_call F12 T (PySem.W.mg_of X G a13) k13 b13 (d_begins F13 T) (PySem.W.mg_of X G a14) k14 b14 (d_load F14 T F2 b2 ⟨a2, i2, k2⟩) (PySem.W.mg_of X G a15) k15 b15 (d_check F15 T F2 b2 ⟨a2, i2, k2⟩ F3 b3 ⟨a3, i3, k3⟩ F5 b5 ⟨a5, i5, k5⟩ F4 b4 ⟨a4, i4, k4⟩)
        (PySem.W.mg_of X G a16) k16 b16 (d_nights F16 T F2 b2 ⟨a2, i2, k2⟩ GP b6 ⟨a6, i6, k6⟩) (PySem.W.mg_of X G a17) k17 b17 (d_needs F17 T GM b8 ⟨a8, i8, k8⟩ GN b7 ⟨a7, i7, k7⟩ GE b9 ⟨a9, i9, k9⟩)
        (PySem.W.mg_of X G a18) k18 b18 (d_mostC F18 T GM b8 ⟨a8, i8, k8⟩ GN b7 ⟨a7, i7, k7⟩))⟩
end Nb
open PySem PySem.W PyProof.Rows
set_option maxRecDepth 100000 in
set_option maxHeartbeats 8000000 in
theorem PySem.Challenge.cw_nightballoons_s01_answers_holds : PySem.Challenge.rw_nightballoons_s01_answers.Holds := by
  w_on; k_headS; (case hw => exact ⟨[.list [.int 3]], by decide +kernel, by decide +kernel⟩)
  k_fillS
  refine L2.walk_specK (r := PySem.Challenge.rw_nightballoons_s01_answers) (k := 7) (CX := L2.CX0) (ps := ["calls"]) (sp := Nb.spAns) (by decide +kernel) rfl rfl ⟨rfl, by decide, by decide⟩ (fun w h Y => PySem.W.kIn_of Y) ?F ?S (fun _ _ _ _ z => z)
  case F =>
    intro w mg fa h Y KX G hmg
    refine' Nb.all_mk KX G hmg ?aC ?a1 ?i1 ?l1 ?c1 ?k1 ?a2 ?i2 ?l2 ?c2 ?k2 ?a3 ?i3 ?l3 ?c3 ?k3 ?a4 ?i4 ?l4 ?c4 ?k4 ?a5 ?i5 ?l5 ?c5 ?k5 ?a6 ?i6 ?l6 ?c6 ?k6 ?a7 ?i7 ?l7 ?c7 ?k7 ?a8 ?i8 ?l8 ?c8 ?k8 ?a9 ?i9 ?l9 ?c9 ?k9 ?a10 ?l10 ?c10 ?k10 ?a11 ?l11 ?c11 ?k11 ?a12 ?l12 ?c12 ?k12 ?a13 ?l13 ?c13 ?k13 ?a14 ?l14 ?c14 ?k14 ?a15 ?l15 ?c15 ?k15 ?a16 ?l16 ?c16 ?k16 ?a17 ?l17 ?c17 ?k17 ?a18 ?l18 ?c18 ?k18 ?pg ?hd ?po ?sa ?mk ?kc ?nW ?nD ?nN ?nO ?nK ?nG ?nS ?zlen ?zmax ?zmin ?zenum ?xcNW ?xcTL ?xcCD ?xcB ?xcL ?xcC ?xcN ?xcNe ?xcM ?xcMN ?xcNT ?xcNL ?xcWD ?xcMW ?xcML ?xcMO ?xcMK ?xcMG ?xcMS
    (case aC => k_is)
    (case a1 => k_is)
    (case i1 => k_is)
    (case l1 => k_is)
    (case c1 => k_is)
    (case k1 => k_is)
    (case a2 => k_is)
    (case i2 => k_is)
    (case l2 => k_is)
    (case c2 => k_is)
    (case k2 => k_is)
    (case a3 => k_is)
    (case i3 => k_is)
    (case l3 => k_is)
    (case c3 => k_is)
    (case k3 => k_is)
    (case a4 => k_is)
    (case i4 => k_is)
    (case l4 => k_is)
    (case c4 => k_is)
    (case k4 => k_is)
    (case a5 => k_is)
    (case i5 => k_is)
    (case l5 => k_is)
    (case c5 => k_is)
    (case k5 => k_is)
    (case a6 => k_is)
    (case i6 => k_is)
    (case l6 => k_is)
    (case c6 => k_is)
    (case k6 => k_is)
    (case a7 => k_is)
    (case i7 => k_is)
    (case l7 => k_is)
    (case c7 => k_is)
    (case k7 => k_is)
    (case a8 => k_is)
    (case i8 => k_is)
    (case l8 => k_is)
    (case c8 => k_is)
    (case k8 => k_is)
    (case a9 => k_is)
    (case i9 => k_is)
    (case l9 => k_is)
    (case c9 => k_is)
    (case k9 => k_is)
    (case a10 => k_is)
    (case l10 => k_is)
    (case c10 => k_is)
    (case k10 => k_is)
    (case a11 => k_is)
    (case l11 => k_is)
    (case c11 => k_is)
    (case k11 => k_is)
    (case a12 => k_is)
    (case l12 => k_is)
    (case c12 => k_is)
    (case k12 => k_is)
    (case a13 => k_is)
    (case l13 => k_is)
    (case c13 => k_is)
    (case k13 => k_is)
    (case a14 => k_is)
    (case l14 => k_is)
    (case c14 => k_is)
    (case k14 => k_is)
    (case a15 => k_is)
    (case l15 => k_is)
    (case c15 => k_is)
    (case k15 => k_is)
    (case a16 => k_is)
    (case l16 => k_is)
    (case c16 => k_is)
    (case k16 => k_is)
    (case a17 => k_is)
    (case l17 => k_is)
    (case c17 => k_is)
    (case k17 => k_is)
    (case a18 => k_is)
    (case l18 => k_is)
    (case c18 => k_is)
    (case k18 => k_is)
    (case pg => k_is)
    (case hd => k_is)
    (case po => k_is)
    (case sa => k_is)
    (case mk => k_is)
    (case kc => k_is)
    (case nW => k_is)
    (case nD => k_is)
    (case nN => k_is)
    (case nO => k_is)
    (case nK => k_is)
    (case nG => k_is)
    (case nS => k_is)
    (case zlen => k_is)
    (case zmax => k_is)
    (case zmin => k_is)
    (case zenum => k_is)
    (case xcNW => k_is)
    (case xcTL => k_is)
    (case xcCD => k_is)
    (case xcB => k_is)
    (case xcL => k_is)
    (case xcC => k_is)
    (case xcN => k_is)
    (case xcNe => k_is)
    (case xcM => k_is)
    (case xcMN => k_is)
    (case xcNT => k_is)
    (case xcNL => k_is)
    (case xcWD => k_is)
    (case xcMW => k_is)
    (case xcML => k_is)
    (case xcMO => k_is)
    (case xcMK => k_is)
    (case xcMG => k_is)
    (case xcMS => k_is)
  case S =>
    intro K H xs a hO hwi hask hx
    cases hx with
    | cons h1 h2 =>
      cases h2
      cases h1 with
      | lst hs ha =>
        have e := L2.ints_dw a.1 _ ha
        subst e
        obtain ⟨qs, q1, q2, q3, q4, q5⟩ := Nb.request hask
        refine ⟨_, qs, rfl, ?_, q3, ?_, fun H' p hp sm => ?_⟩
        · rw [← q1]; exact hs
        · rw [← q4]; exact q5
        · rw [← q4] at hp
          exact .lst (L2.SqL.of hp) (L2.dw_ints _)
#print axioms PySem.Challenge.cw_nightballoons_s01_answers_holds
end
