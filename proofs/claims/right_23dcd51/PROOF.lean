import PyProof.Rows.All
import Wide.All
import OpenK.AllK
import Wide.FinOn
import Open.SpecLaws
import KE.OsGo
import HandS.ForSpec
import HandS.Comp
import HandS.Iter
import HandS.Walk
import HandS.Evl
import PyKs437
import PySem.Challenge.RW_lanebookings_s01_right
/-! # The mathematics of Lanes side by side: plain Lean, over whole numbers -/
namespace Lb

structure Bk where
  b : Int
  e : Int
  w : Int

instance : Inhabited Bk := ⟨⟨0, 0, 0⟩⟩

def told (k : Bk) : Bool := (decide (0 ≤ k.b) && (decide (k.b < k.e) && decide (k.e ≤ 12))) && (decide (1 ≤ k.w) && decide (k.w ≤ 8))
def meets (x y : Bk) : Bool := decide (x.b < y.e) && decide (y.b < x.e)
def share (x : Bk) (f : Int) (y : Bk) (g : Int) : Bool := decide (f < g + y.w) && decide (g < f + x.w)
def chunk : List Int → List Bk
  | a :: b :: c :: l => ⟨a, b, c⟩ :: chunk l
  | _ => []
def okNs (ns : List Int) : Bool := decide (ns.length % 3 = 0) && decide (ns.length ≤ 18) && (chunk ns).all told
def toB (k : Bk) : Ks437.Booking := ⟨k.b.toNat, k.e.toNat, k.w.toNat⟩

theorem chunk_len : ∀ ns : List Int, (chunk ns).length = ns.length / 3
  | [] => rfl
  | [_] => by simp [chunk]
  | [_, _] => by simp [chunk]
  | a :: b :: c :: l => by
    have ih := chunk_len l
    show (chunk l).length + 1 = (l.length + 1 + 1 + 1) / 3
    omega
theorem chunk_get : ∀ (ns : List Int) (k : Nat), 3 * k + 2 < ns.length → (chunk ns)[k]? = some ⟨ns.getD (3 * k) 0, ns.getD (3 * k + 1) 0, ns.getD (3 * k + 2) 0⟩
  | [], k, h => by simp at h
  | [_], k, h => by simp at h
  | [_, _], k, h => by
    simp only [List.length_cons, List.length_nil] at h
    omega
  | a :: b :: c :: l, 0, h => rfl
  | a :: b :: c :: l, k + 1, h => by
    have ih := chunk_get l k (by simp only [List.length_cons] at h; omega)
    show (chunk l)[k]? = _
    rw [ih]
    have e1 : 3 * (k + 1) = 3 * k + 3 := by omega
    rw [e1]
    rfl
theorem bookings_of : ∀ ns : List Int, Ks437.bookingsOf (Ks437Neutral.nats ns) = (chunk ns).map toB
  | [] => rfl
  | [_] => rfl
  | [_, _] => rfl
  | a :: b :: c :: l => by
    have ih := bookings_of l
    show Ks437.Booking.mk a.toNat b.toNat c.toNat :: Ks437.bookingsOf (Ks437Neutral.nats l) = toB ⟨a, b, c⟩ :: (chunk l).map toB
    rw [ih]
    rfl
theorem mem_chunk : ∀ {ns : List Int} {k : Bk}, (∀ x ∈ ns, 0 ≤ x) → k ∈ chunk ns → 0 ≤ k.b ∧ 0 ≤ k.e ∧ 0 ≤ k.w
  | [], k, _, h => by simp [chunk] at h
  | [_], k, _, h => by simp [chunk] at h
  | [_, _], k, _, h => by simp [chunk] at h
  | a :: b :: c :: l, k, hn, h => by
    have h' : k ∈ Bk.mk a b c :: chunk l := h
    rcases List.mem_cons.mp h' with e | m
    · subst e
      exact ⟨hn a (by simp), hn b (by simp), hn c (by simp)⟩
    · exact mem_chunk (fun x hx => hn x (by simp [hx])) m
theorem told_is {k : Bk} (h1 : 0 ≤ k.b) (h2 : 0 ≤ k.e) (h3 : 0 ≤ k.w) :
    (decide ((toB k).from_ < (toB k).to_) && decide ((toB k).to_ ≤ Ks437.HOURS) && decide (1 ≤ (toB k).wide) && decide ((toB k).wide ≤ 8)) = told k := by
  have a1 : decide ((toB k).from_ < (toB k).to_) = decide (k.b < k.e) := decide_eq_decide.mpr (by simp only [toB]; omega)
  have a2 : decide ((toB k).to_ ≤ Ks437.HOURS) = decide (k.e ≤ 12) := decide_eq_decide.mpr (by simp only [toB, Ks437.HOURS]; omega)
  have a3 : decide (1 ≤ (toB k).wide) = decide (1 ≤ k.w) := decide_eq_decide.mpr (by simp only [toB]; omega)
  have a4 : decide ((toB k).wide ≤ 8) = decide (k.w ≤ 8) := decide_eq_decide.mpr (by simp only [toB]; omega)
  unfold told
  rw [a1, a2, a3, a4, decide_eq_true h1, Bool.true_and, Bool.and_assoc]
theorem all_congr {α : Type} {p q : α → Bool} : ∀ {l : List α}, (∀ x ∈ l, p x = q x) → l.all p = l.all q
  | [], _ => rfl
  | a :: l, h => by
    rw [List.all_cons, List.all_cons, h a (by simp), all_congr fun x hx => h x (by simp [hx])]
theorem ok_is {ns : List Int} (hn : ∀ x ∈ ns, 0 ≤ x) : Ks437.okBookings ns.length ((chunk ns).map toB) = okNs ns := by
  unfold Ks437.okBookings okNs
  rw [List.all_map, List.length_map, chunk_len]
  have e3 : (chunk ns).all ((fun b => decide (b.from_ < b.to_) && decide (b.to_ ≤ Ks437.HOURS) && decide (1 ≤ b.wide) && decide (b.wide ≤ 8)) ∘ toB) = (chunk ns).all told := all_congr fun k hk => by
    obtain ⟨h1, h2, h3⟩ := mem_chunk hn hk
    exact told_is h1 h2 h3
  rw [e3]
  by_cases h : ns.length % 3 = 0
  · have e1 : (ns.length % 3 == 0) = true := beq_iff_eq.mpr h
    have e2 : decide (ns.length / 3 ≤ Ks437.BOOKINGS) = decide (ns.length ≤ 18) := decide_eq_decide.mpr (by unfold Ks437.BOOKINGS; omega)
    rw [e1, e2, decide_eq_true h]
  · have e1 : (ns.length % 3 == 0) = false := beq_eq_false_iff_ne.mpr h
    rw [e1, decide_eq_false h]
    rfl
theorem told_iff {k : Bk} : told k = true ↔ 0 ≤ k.b ∧ k.b < k.e ∧ k.e ≤ 12 ∧ 1 ≤ k.w ∧ k.w ≤ 8 := by
  unfold told
  simp only [Bool.and_eq_true, decide_eq_true_eq]
  exact ⟨fun ⟨⟨a, b, c⟩, d, e⟩ => ⟨a, b, c, d, e⟩, fun ⟨a, b, c, d, e⟩ => ⟨⟨a, b, c⟩, d, e⟩⟩
theorem okNs_iff {ns : List Int} : okNs ns = true ↔ ns.length % 3 = 0 ∧ ns.length ≤ 18 ∧ ∀ k ∈ chunk ns, told k = true := by
  unfold okNs
  simp only [Bool.and_eq_true, decide_eq_true_eq, List.all_eq_true]
  exact ⟨fun ⟨⟨a, b⟩, c⟩ => ⟨a, b, c⟩, fun ⟨a, b, c⟩ => ⟨⟨a, b⟩, c⟩⟩

/-! ## right -/
def bAt (bs : List Bk) (k : Nat) : Bk := bs.getD k default
def fAt (fs : List Int) (k : Nat) : Int := fs.getD k 0
/-- the k-th booking and an earlier one clash -/
def clash (bs : List Bk) (fs : List Int) (k j : Nat) : Bool := meets (bAt bs k) (bAt bs j) && share (bAt bs k) (fAt fs k) (bAt bs j) (fAt fs j)
def good (n : Int) (bs : List Bk) (fs : List Int) (k : Nat) : Prop := fAt fs k + (bAt bs k).w ≤ n ∧ ∀ j, j < k → clash bs fs k j = false
def rightP (n : Int) (bs : List Bk) (fs : List Int) : Prop := ∀ k, k < bs.length → good n bs fs k

/-- what the specification asks of two, in the program's words -/
theorem clear_is {b c : Bk} {x y : Int} (hb : told b = true) (hc : told c = true) (hx : 0 ≤ x) (hy : 0 ≤ y) :
    Ks437.clear (toB b) (toB c) x.toNat y.toNat = true ↔ (meets c b && share c y b x) = false := by
  have hb' := told_iff.mp hb
  have hc' := told_iff.mp hc
  unfold Ks437.clear Ks437.meet meets share
  simp only [Bool.or_eq_true, Bool.not_eq_true', Bool.and_eq_false_iff, decide_eq_true_eq, decide_eq_false_iff_not]
  simp only [toB]
  omega
theorem getD_cons_succ' {α : Type} (a : α) (l : List α) (k : Nat) (d : α) : (a :: l).getD (k + 1) d = l.getD k d := rfl
theorem rightP_cons {n : Int} {b : Bk} {l : List Bk} {x : Int} {r : List Int} : rightP n (b :: l) (x :: r) ↔
    x + b.w ≤ n ∧ (∀ k, k < l.length → (meets (bAt l k) b && share (bAt l k) (fAt r k) b x) = false) ∧ rightP n l r := by
  constructor
  · intro h
    refine ⟨(h 0 (Nat.succ_pos _)).1, fun k hk => ?_, fun k hk => ⟨?_, fun j hj => ?_⟩⟩
    · exact (h (k + 1) (Nat.succ_lt_succ hk)).2 0 (Nat.succ_pos _)
    · exact (h (k + 1) (Nat.succ_lt_succ hk)).1
    · exact (h (k + 1) (Nat.succ_lt_succ hk)).2 (j + 1) (Nat.succ_lt_succ hj)
  · rintro ⟨h1, h2, h3⟩ k hk
    cases k with
    | zero => exact ⟨h1, fun j hj => absurd hj (Nat.not_lt_zero _)⟩
    | succ k =>
      have hk' : k < l.length := Nat.lt_of_succ_lt_succ hk
      refine ⟨(h3 k hk').1, fun j hj => ?_⟩
      cases j with
      | zero => exact h2 k hk'
      | succ j => exact (h3 k hk').2 j (Nat.lt_of_succ_lt_succ hj)
theorem all_zip {α β : Type} {p : α × β → Bool} {da : α} {db : β} : ∀ {l : List α} {r : List β}, l.length = r.length → ((l.zip r).all p = true ↔ ∀ k, k < l.length → p (l.getD k da, r.getD k db) = true)
  | [], [], _ => by simp
  | [], _ :: _, h => by simp at h
  | _ :: _, [], h => by simp at h
  | a :: l, c :: r, h => by
    have ih := all_zip (p := p) (da := da) (db := db) (l := l) (r := r) (by simpa using h)
    rw [List.zip_cons_cons, List.all_cons, Bool.and_eq_true, ih]
    constructor
    · rintro ⟨h1, h2⟩ k hk
      cases k with
      | zero => exact h1
      | succ k => exact h2 k (Nat.lt_of_succ_lt_succ hk)
    · intro h
      exact ⟨h 0 (Nat.succ_pos _), fun k hk => h (k + 1) (Nat.succ_lt_succ hk)⟩
theorem bAt_mem {bs : List Bk} {k : Nat} (h : k < bs.length) : bAt bs k ∈ bs := by
  unfold bAt
  rw [List.getD_eq_getElem?_getD, List.getElem?_eq_getElem h]
  exact List.getElem_mem h
theorem fAt_mem {fs : List Int} {k : Nat} (h : k < fs.length) : fAt fs k ∈ fs := by
  unfold fAt
  rw [List.getD_eq_getElem?_getD, List.getElem?_eq_getElem h]
  exact List.getElem_mem h
theorem getD_map {α β : Type} (f : α → β) (d : α) (e : β) : ∀ {l : List α} {k : Nat}, k < l.length → (l.map f).getD k e = f (l.getD k d)
  | [], _, h => absurd h (Nat.not_lt_zero _)
  | _ :: _, 0, _ => rfl
  | _ :: l, k + 1, h => getD_map f d e (l := l) (k := k) (Nat.lt_of_succ_lt_succ h)
theorem right_iff {n : Int} (hn : 0 ≤ n) : ∀ {bs : List Bk} {fs : List Int}, bs.length = fs.length → (∀ k ∈ bs, told k = true) → (∀ x ∈ fs, 0 ≤ x) →
    (Ks437.right n.toNat (bs.map toB) (fs.map Int.toNat) = true ↔ rightP n bs fs)
  | [], [], _, _, _ => ⟨fun _ k hk => absurd hk (Nat.not_lt_zero _), fun _ => rfl⟩
  | [], _ :: _, h, _, _ => by simp at h
  | _ :: _, [], h, _, _ => by simp at h
  | b :: l, x :: r, h, hb, hx => by
    have hl : l.length = r.length := by simpa using h
    have ih := right_iff hn (bs := l) (fs := r) hl (fun k hk => hb k (by simp [hk])) (fun y hy => hx y (by simp [hy]))
    have tb := hb b (by simp)
    have tx := hx x (by simp)
    have tb' := told_iff.mp tb
    show (decide (x.toNat + (toB b).wide ≤ n.toNat) && ((l.map toB).zip (r.map Int.toNat)).all (fun y => Ks437.clear (toB b) y.1 x.toNat y.2) && Ks437.right n.toNat (l.map toB) (r.map Int.toNat)) = true ↔ _
    rw [rightP_cons, Bool.and_eq_true, Bool.and_eq_true, ih, decide_eq_true_eq, all_zip (da := toB default) (db := 0) (by simpa using hl), and_assoc]
    have e1 : (x.toNat + (toB b).wide ≤ n.toNat) ↔ x + b.w ≤ n := by simp only [toB]; omega
    rw [e1]
    refine and_congr Iff.rfl (and_congr ?_ Iff.rfl)
    rw [List.length_map]
    refine forall_congr' fun k => imp_congr_right fun hk => ?_
    rw [getD_map toB default (toB default) hk, getD_map Int.toNat 0 0 (by rw [← hl]; exact hk)]
    exact clear_is tb (hb _ (by simp only [List.mem_cons]; exact .inr (bAt_mem hk))) tx (hx _ (by simp only [List.mem_cons]; exact .inr (fAt_mem (by rw [← hl]; exact hk))))

/-- the whole answer of right, in the program's words -/
def rightA (n : Int) (ns fs : List Int) (yes : Bool) : List Int :=
  if (okNs ns && decide (0 ≤ n ∧ n ≤ 24)) = true then (if (decide (fs.length = (chunk ns).length) && fs.all fun x => decide (0 ≤ x) && decide (x ≤ 100)) = true then (if yes = true then [1] else [0]) else [-22]) else [-22]
theorem right_is {n : Int} {ns fs : List Int} (hn : 0 ≤ n) (hns : ∀ x ∈ ns, 0 ≤ x) (hfs : ∀ x ∈ fs, 0 ≤ x) {yes : Bool}
    (hy : okNs ns = true → fs.length = (chunk ns).length → (yes = true ↔ rightP n (chunk ns) fs)) : PyKs437.right n ns fs = rightA n ns fs yes := by
  show Ks437Neutral.out (Ks437.answer (.right n.toNat (Ks437Neutral.nats ns) (Ks437Neutral.nats fs))) = _
  unfold Ks437.answer Ks437.given rightA
  dsimp only
  rw [bookings_of]
  have e0 : (Ks437Neutral.nats ns).length = ns.length := List.length_map _
  rw [e0, ok_is hns]
  have e1 : (decide (n.toNat ≤ 24) && okNs ns) = (okNs ns && decide (0 ≤ n ∧ n ≤ 24)) := by
    rw [Bool.and_comm, decide_eq_decide.mpr (show n.toNat ≤ 24 ↔ (0 ≤ n ∧ n ≤ 24) by omega)]
  rw [e1]
  by_cases c1 : (okNs ns && decide (0 ≤ n ∧ n ≤ 24)) = true
  · rw [if_pos c1, if_pos c1]
    obtain ⟨hok, hn24⟩ := Bool.and_eq_true_iff.mp c1
    have hk := okNs_iff.mp hok
    have e2 : (Ks437Neutral.nats fs).length = fs.length := List.length_map _
    have e3 : (Ks437Neutral.nats fs).any (fun v => decide (100 < v)) = !(fs.all fun x => decide (0 ≤ x) && decide (x ≤ 100)) := by
      unfold Ks437Neutral.nats
      rw [List.any_map, List.not_all_eq_any_not]
      induction fs with
      | nil => rfl
      | cons a l ih =>
        have ha := hfs a (by simp)
        rw [List.any_cons, List.any_cons]
        congr 1
        · simp only [Function.comp]
          rw [decide_eq_true ha, Bool.true_and]
          by_cases c : 100 < a.toNat
          · rw [decide_eq_true c, decide_eq_false (by omega : ¬ a ≤ 100)]
            rfl
          · rw [decide_eq_false c, decide_eq_true (by omega : a ≤ 100)]
            rfl
        · have hl' : ∀ x ∈ l, 0 ≤ x := fun x hx => hfs x (by simp [hx])
          have : ∀ {l : List Int}, (∀ x ∈ l, 0 ≤ x) → l.any ((fun v => decide (100 < v)) ∘ Int.toNat) = l.any fun x => !(decide (0 ≤ x) && decide (x ≤ 100)) := by
            intro l
            induction l with
            | nil => intro _; rfl
            | cons a l ih =>
              intro h
              have ha := h a (by simp)
              rw [List.any_cons, List.any_cons, ih fun x hx => h x (by simp [hx])]
              congr 1
              simp only [Function.comp]
              rw [decide_eq_true ha, Bool.true_and]
              by_cases c : 100 < a.toNat
              · rw [decide_eq_true c, decide_eq_false (by omega : ¬ a ≤ 100)]
                rfl
              · rw [decide_eq_false c, decide_eq_true (by omega : a ≤ 100)]
                rfl
          exact this hl'
    have e5 : Ks437Neutral.nats fs = fs.map Int.toNat := rfl
    rw [e2, e3, List.length_map]
    by_cases c2 : fs.length = (chunk ns).length
    · cases c3 : fs.all fun x => decide (0 ≤ x) && decide (x ≤ 100) with
      | false =>
        rw [if_pos (.inr rfl), if_neg (by rw [Bool.and_false]; exact Bool.false_ne_true)]
        rfl
      | true =>
        rw [if_neg (by rintro (h | h); exact h c2; exact Bool.false_ne_true h), if_pos (Bool.and_eq_true_iff.mpr ⟨decide_eq_true c2, rfl⟩), e5]
        have hr := right_iff hn (bs := chunk ns) (fs := fs) c2.symm hk.2.2 hfs
        have hy' := hy hok c2
        have e4 : Ks437.right n.toNat ((chunk ns).map toB) (fs.map Int.toNat) = yes := by
          cases yes with
          | true => exact hr.mpr (hy'.mp rfl)
          | false =>
            cases e : Ks437.right n.toNat ((chunk ns).map toB) (fs.map Int.toNat) with
            | false => rfl
            | true => exact (hy'.mpr (hr.mp e)).symm
        rw [e4]
        cases yes <;> rfl
    · rw [if_pos (.inl c2), if_neg (by rw [decide_eq_false c2]; exact Bool.false_ne_true)]
      rfl
  · rw [if_neg c1, if_neg c1]
    rfl
end Lb
/-! # The mathematics of ways to put bookings: what put, ways, fewest of the specification find -/
namespace Lw
open Ks437

/-- r completes done by l: all fits, none on another's lane -/
def okExt (n : Nat) : List (Booking × Nat) → List Booking → List Nat → Prop
  | _, [], [] => True
  | done, b :: l, x :: r => x + b.wide ≤ n ∧ (∀ y ∈ done, clear y.1 b y.2 x = true) ∧ okExt n (done ++ [(b, x)]) l r
  | _, _, _ => False
/-- the lesser at the first place at which they differ -/
def lexLt : List Nat → List Nat → Prop
  | x :: r, y :: s => x < y ∨ (x = y ∧ lexLt r s)
  | _, _ => False
theorem okExt_len {n : Nat} : ∀ {done : List (Booking × Nat)} {l : List Booking} {r : List Nat}, okExt n done l r → r.length = l.length
  | _, [], [], _ => rfl
  | _, b :: l, x :: r, h => by
    show r.length + 1 = l.length + 1
    rw [okExt_len h.2.2]
  | _, [], _ :: _, h => h.elim
  | _, _ :: _, [], h => h.elim
/-! ## put finds the first one -/
theorem findSome_none {α β : Type} {f : α → Option β} : ∀ {l : List α}, l.findSome? f = none ↔ ∀ x ∈ l, f x = none
  | [] => by simp
  | a :: l => by
    rw [List.findSome?_cons]
    cases h : f a with
    | some b => simp [h]
    | none =>
      rw [findSome_none (l := l)]
      simp [h]
/-- the first of the numbers below m at which f tells something -/
theorem findSome_range {β : Type} {f : Nat → Option β} {m : Nat} {v : β} (h : (List.range m).findSome? f = some v) : ∃ x, x < m ∧ f x = some v ∧ ∀ y, y < x → f y = none := by
  induction m with
  | zero => simp at h
  | succ m ih =>
    rw [List.range_succ, List.findSome?_append] at h
    cases e : (List.range m).findSome? f with
    | some u =>
      rw [e] at h
      obtain rfl : u = v := by simpa using h
      obtain ⟨x, h1, h2, h3⟩ := ih e
      exact ⟨x, Nat.lt_succ_of_lt h1, h2, h3⟩
    | none =>
      rw [e] at h
      have h' : f m = some v := by simpa using h
      exact ⟨m, Nat.lt_succ_self _, h', fun y hy => findSome_none.mp e y (List.mem_range.mpr hy)⟩
theorem put_cons {n : Nat} {done : List (Booking × Nat)} {b : Booking} {l : List Booking} : put n done (b :: l) =
    (List.range (n + 1 - b.wide)).findSome? fun x => if done.all fun y => clear y.1 b y.2 x then match put n (done ++ [(b, x)]) l with | none => none | some r => some (x :: r) else none := rfl
theorem put_none {n : Nat} : ∀ {l : List Booking} {done : List (Booking × Nat)}, put n done l = none → ∀ r, ¬ okExt n done l r
  | [], _, h, _ => by cases h
  | b :: l, done, h, [] => fun z => z
  | b :: l, done, h, x :: r => fun ⟨h1, h2, h3⟩ => by
    rw [put_cons] at h
    have z := findSome_none.mp h x (List.mem_range.mpr (by omega))
    rw [if_pos (List.all_eq_true.mpr h2)] at z
    cases e : put n (done ++ [(b, x)]) l with
    | none => exact put_none e r h3
    | some s =>
      rw [e] at z
      cases z
theorem put_some {n : Nat} : ∀ {l : List Booking} {done : List (Booking × Nat)} {r : List Nat}, put n done l = some r → okExt n done l r ∧ ∀ s, okExt n done l s → s = r ∨ lexLt r s
  | [], done, r, h => by
    obtain rfl : [] = r := Option.some.inj h
    refine ⟨trivial, fun s hs => ?_⟩
    cases s with
    | nil => exact .inl rfl
    | cons _ _ => exact hs.elim
  | b :: l, done, r, h => by
    rw [put_cons] at h
    obtain ⟨x, hx, hf, hb⟩ := findSome_range h
    by_cases c : (done.all fun y => clear y.1 b y.2 x) = true
    · rw [if_pos c] at hf
      cases e : put n (done ++ [(b, x)]) l with
      | none =>
        rw [e] at hf
        cases hf
      | some t =>
        rw [e] at hf
        obtain rfl : x :: t = r := Option.some.inj hf
        obtain ⟨g1, g2⟩ := put_some e
        refine ⟨⟨by omega, List.all_eq_true.mp c, g1⟩, fun s hs => ?_⟩
        cases s with
        | nil => exact hs.elim
        | cons y s =>
          obtain ⟨h1, h2, h3⟩ := hs
          by_cases lt : y < x
          · have z := hb y lt
            rw [if_pos (List.all_eq_true.mpr h2)] at z
            cases e2 : put n (done ++ [(b, y)]) l with
            | none => exact absurd h3 (put_none e2 s)
            | some t2 =>
              rw [e2] at z
              cases z
          · by_cases eq : y = x
            · subst eq
              rcases g2 s h3 with z | z
              · subst z
                exact .inl rfl
              · exact .inr (.inr ⟨rfl, z⟩)
            · exact .inr (.inl (by omega))
    · rw [if_neg c] at hf
      cases hf
theorem lexLt_irrefl : ∀ r : List Nat, ¬ lexLt r r
  | [] => fun h => h
  | x :: r => fun h => by
    rcases h with h | ⟨_, h⟩
    · omega
    · exact lexLt_irrefl r h
theorem lexLt_asymm : ∀ {r s : List Nat}, lexLt r s → ¬ lexLt s r
  | x :: r, y :: s, h, h' => by
    rcases h with h | ⟨e, h⟩
    · rcases h' with g | ⟨g, _⟩ <;> omega
    · rcases h' with g | ⟨_, g⟩
      · omega
      · exact lexLt_asymm h g
  | [], _, h, _ => h.elim
  | _ :: _, [], h, _ => h.elim
/-- what put tells is just the first way -/
theorem put_eq {n : Nat} {l : List Booking} {done : List (Booking × Nat)} {r : List Nat} (h1 : okExt n done l r) (h2 : ∀ s, okExt n done l s → s = r ∨ lexLt r s) : put n done l = some r := by
  cases e : put n done l with
  | none => exact absurd h1 (put_none e r)
  | some t =>
    obtain ⟨g1, g2⟩ := put_some e
    rcases h2 t g1 with z | z
    · rw [z]
    · rcases g2 r h1 with y | y
      · rw [y]
      · exact absurd z (lexLt_asymm y)
theorem put_none_iff {n : Nat} {l : List Booking} {done : List (Booking × Nat)} : put n done l = none ↔ ∀ r, ¬ okExt n done l r := by
  constructor
  · exact put_none
  · intro h
    cases e : put n done l with
    | none => rfl
    | some r => exact absurd (put_some e).1 (h r)
theorem put_isSome_iff {n : Nat} {l : List Booking} {done : List (Booking × Nat)} : (put n done l).isSome = true ↔ ∃ r, okExt n done l r := by
  constructor
  · intro h
    obtain ⟨r, e⟩ := Option.isSome_iff_exists.mp h
    exact ⟨r, (put_some e).1⟩
  · rintro ⟨r, h⟩
    cases e : put n done l with
    | none => exact absurd h (put_none e r)
    | some _ => rfl
/-! ## okExt from nothing is right -/
theorem right_cons {n : Nat} {b : Booking} {l : List Booking} {x : Nat} {r : List Nat} : right n (b :: l) (x :: r) = (decide (x + b.wide ≤ n) && (l.zip r).all (fun y => clear b y.1 x y.2) && right n l r) := rfl
theorem okExt_app {n : Nat} : ∀ {l : List Booking} {done : List (Booking × Nat)} {r : List Nat}, okExt n done l r ↔ (right n l r = true ∧ ∀ y ∈ done, ∀ z ∈ l.zip r, clear y.1 z.1 y.2 z.2 = true)
  | [], done, [] => by simp [okExt, right]
  | [], done, _ :: _ => by simp [okExt, right]
  | _ :: _, done, [] => by simp [okExt, right]
  | b :: l, done, x :: r => by
    have ih := okExt_app (n := n) (l := l) (done := done ++ [(b, x)]) (r := r)
    show (x + b.wide ≤ n ∧ (∀ y ∈ done, clear y.1 b y.2 x = true) ∧ okExt n (done ++ [(b, x)]) l r) ↔ _
    rw [ih, right_cons, List.zip_cons_cons, Bool.and_eq_true, Bool.and_eq_true, decide_eq_true_eq, List.all_eq_true]
    constructor
    · rintro ⟨h1, h2, h3, h4⟩
      refine ⟨⟨⟨h1, fun z hz => h4 (b, x) (by simp) z hz⟩, h3⟩, fun y hy z hz => ?_⟩
      rcases List.mem_cons.mp hz with rfl | hz
      · exact h2 y hy
      · exact h4 y (by simp [hy]) z hz
    · rintro ⟨⟨⟨h1, h2⟩, h3⟩, h4⟩
      refine ⟨h1, fun y hy => h4 y hy (b, x) (by simp), h3, fun y hy z hz => ?_⟩
      rcases List.mem_append.mp hy with hy | hy
      · exact h4 y hy z (by simp [hz])
      · obtain rfl := List.mem_singleton.mp hy
        exact h2 z hz
theorem okExt_right {n : Nat} {l : List Booking} {r : List Nat} : okExt n [] l r ↔ right n l r = true := by
  rw [okExt_app]
  exact ⟨fun h => h.1, fun h => ⟨h, fun y hy => by simp at hy⟩⟩
/-! ## more lanes are no harm; side by side is a way -/
theorem okExt_mono {n m : Nat} (hnm : n ≤ m) : ∀ {l : List Booking} {done : List (Booking × Nat)} {r : List Nat}, okExt n done l r → okExt m done l r
  | [], _, [], _ => trivial
  | [], _, _ :: _, h => h.elim
  | _ :: _, _, [], h => h.elim
  | _ :: _, _, _ :: _, ⟨h1, h2, h3⟩ => ⟨Nat.le_trans h1 hnm, h2, okExt_mono hnm h3⟩
def wides (l : List Booking) : Nat := (l.map fun b => b.wide).sum
theorem okExt_side {n : Nat} : ∀ {l : List Booking} {done : List (Booking × Nat)} {S : Nat}, (∀ y ∈ done, y.2 + y.1.wide ≤ S) → S + wides l ≤ n → ∃ r, okExt n done l r
  | [], _, _, _, _ => ⟨[], trivial⟩
  | b :: l, done, S, h1, h2 => by
    have e : wides (b :: l) = b.wide + wides l := by
      unfold wides
      rw [List.map_cons, List.sum_cons]
    obtain ⟨r, hr⟩ := okExt_side (n := n) (l := l) (done := done ++ [(b, S)]) (S := S + b.wide) (fun y hy => by
      rcases List.mem_append.mp hy with hy | hy
      · have := h1 y hy
        omega
      · obtain rfl := List.mem_singleton.mp hy
        exact Nat.le_refl _) (by omega)
    refine ⟨S :: r, by omega, fun y hy => ?_, hr⟩
    have := h1 y hy
    unfold clear
    rw [decide_eq_true this]
    simp
theorem side_way (l : List Booking) : ∃ r, okExt (wides l) [] l r := okExt_side (S := 0) (fun y hy => by simp at hy) (by omega)
/-! ## the peak fits: no lanes below it -/
/-- how much of a piece lies below n -/
def cov (n : Nat) (p : Nat × Nat) : Nat := min (p.1 + p.2) n - p.1
theorem cov_succ (n : Nat) (p : Nat × Nat) : cov (n + 1) p = cov n p + (if p.1 ≤ n ∧ n < p.1 + p.2 then 1 else 0) := by
  unfold cov
  split <;> omega
def apart (p q : Nat × Nat) : Prop := p.1 + p.2 ≤ q.1 ∨ q.1 + q.2 ≤ p.1
theorem cov_none {n : Nat} {p : Nat × Nat} (hp : p.1 ≤ n ∧ n < p.1 + p.2) : ∀ {ps : List (Nat × Nat)}, (∀ q ∈ ps, apart p q) → (ps.map (cov (n + 1))).sum = (ps.map (cov n)).sum
  | [], _ => rfl
  | q :: ps, h => by
    rw [List.map_cons, List.map_cons, List.sum_cons, List.sum_cons, cov_none hp (ps := ps) fun x hx => h x (by simp [hx]), cov_succ, if_neg (by
      have a := h q (by simp)
      unfold apart at a
      omega)]
    rfl
theorem cov_one {n : Nat} : ∀ {ps : List (Nat × Nat)}, ps.Pairwise apart → (ps.map (cov (n + 1))).sum ≤ (ps.map (cov n)).sum + 1
  | [], _ => by simp
  | p :: ps, h => by
    obtain ⟨h1, h2⟩ := List.pairwise_cons.mp h
    rw [List.map_cons, List.map_cons, List.sum_cons, List.sum_cons, cov_succ]
    by_cases c : p.1 ≤ n ∧ n < p.1 + p.2
    · rw [if_pos c, cov_none c h1]
      omega
    · rw [if_neg c]
      have := cov_one (n := n) h2
      omega
theorem cov_le {ps : List (Nat × Nat)} (h : ps.Pairwise apart) : ∀ n, (ps.map (cov n)).sum ≤ n
  | 0 => by
    have : ∀ qs : List (Nat × Nat), (qs.map (cov 0)).sum = 0 := fun qs => by
      induction qs with
      | nil => rfl
      | cons q qs ih =>
        rw [List.map_cons, List.sum_cons, ih]
        unfold cov
        omega
    rw [this]
    exact Nat.le_refl _
  | n + 1 => Nat.le_trans (cov_one h) (Nat.succ_le_succ (cov_le h n))
theorem cov_full {n : Nat} : ∀ {ps : List (Nat × Nat)}, (∀ p ∈ ps, p.1 + p.2 ≤ n) → (ps.map (cov n)).sum = (ps.map (·.2)).sum
  | [], _ => rfl
  | p :: ps, h => by
    rw [List.map_cons, List.map_cons, List.sum_cons, List.sum_cons, cov_full fun x hx => h x (by simp [hx])]
    have := h p (by simp)
    have e : cov n p = p.2 := by
      unfold cov
      omega
    rw [e]
/-- a right way's pieces in an hour -/
def has (h : Nat) (b : Booking) : Bool := decide (b.from_ ≤ h) && decide (h < b.to_)
def pieces (h : Nat) (l : List Booking) (r : List Nat) : List (Nat × Nat) := ((l.zip r).filter fun z => has h z.1).map fun z => (z.2, z.1.wide)
theorem has_meet {h : Nat} {a b : Booking} (ha : has h a = true) (hb : has h b = true) : meet a b = true := by
  unfold has at ha hb
  unfold meet
  rw [Bool.and_eq_true, decide_eq_true_eq, decide_eq_true_eq] at ha hb ⊢
  omega
theorem clear_apart {h : Nat} {a b : Booking} {x y : Nat} (ha : has h a = true) (hb : has h b = true) (c : clear a b x y = true) : apart (x, a.wide) (y, b.wide) := by
  unfold clear at c
  rw [has_meet ha hb, Bool.not_true, Bool.false_or, Bool.or_eq_true, decide_eq_true_eq, decide_eq_true_eq] at c
  exact c
theorem pieces_ok {n h : Nat} : ∀ {l : List Booking} {r : List Nat}, right n l r = true → (pieces h l r).Pairwise apart ∧ (∀ p ∈ pieces h l r, p.1 + p.2 ≤ n) ∧ ((pieces h l r).map (·.2)).sum = asked l h
  | [], [], _ => by simp [pieces, asked]
  | [], _ :: _, e => by simp [right] at e
  | _ :: _, [], e => by simp [right] at e
  | b :: l, x :: r, e => by
    unfold right at e
    rw [Bool.and_eq_true, Bool.and_eq_true, decide_eq_true_eq] at e
    obtain ⟨⟨e1, e2⟩, e3⟩ := e
    obtain ⟨h1, h2, h3⟩ := pieces_ok (n := n) (h := h) e3
    have ea : asked (b :: l) h = (if has h b = true then b.wide else 0) + asked l h := by
      unfold asked
      rw [List.filter_cons]
      show (List.map (fun b => b.wide) (if has h b = true then b :: _ else _)).sum = _
      split
      · rw [List.map_cons, List.sum_cons]
      · omega
    have ep : pieces h (b :: l) (x :: r) = if has h b = true then (x, b.wide) :: pieces h l r else pieces h l r := by
      unfold pieces
      rw [List.zip_cons_cons, List.filter_cons]
      split <;> rfl
    rw [ea, ep]
    by_cases c : has h b = true
    · rw [if_pos c, if_pos c]
      refine ⟨List.pairwise_cons.mpr ⟨fun q hq => ?_, h1⟩, fun p hp => ?_, ?_⟩
      · unfold pieces at hq
        obtain ⟨z, hz, rfl⟩ := List.mem_map.mp hq
        obtain ⟨hz1, hz2⟩ := List.mem_filter.mp hz
        exact clear_apart c hz2 (List.all_eq_true.mp e2 z hz1)
      · rcases List.mem_cons.mp hp with rfl | hp
        · exact e1
        · exact h2 p hp
      · rw [List.map_cons, List.sum_cons, h3]
    · rw [if_neg c, if_neg c]
      exact ⟨h1, h2, by rw [h3]; omega⟩
theorem asked_le {n : Nat} {l : List Booking} {r : List Nat} (e : right n l r = true) (h : Nat) : asked l h ≤ n := by
  obtain ⟨h1, h2, h3⟩ := pieces_ok (h := h) e
  rw [← h3, ← cov_full h2]
  exact cov_le h1 n
theorem foldl_max_le {m : Nat} : ∀ {l : List Nat} {a : Nat}, l.foldl max a ≤ m ↔ a ≤ m ∧ ∀ x ∈ l, x ≤ m
  | [], a => by simp
  | b :: l, a => by
    rw [List.foldl_cons, foldl_max_le (l := l), Nat.max_le]
    simp only [List.mem_cons, forall_eq_or_imp]
    exact and_assoc
theorem peak_le {n : Nat} {l : List Booking} {r : List Nat} (e : right n l r = true) : peak l ≤ n := by
  unfold peak
  refine foldl_max_le.mpr ⟨Nat.zero_le _, fun x hx => ?_⟩
  obtain ⟨h, _, rfl⟩ := List.mem_map.mp hx
  exact asked_le e h
/-! ## ways and fewest -/
theorem ways_eq (n : Nat) (l : List Booking) : ways n l = put n [] l := by
  unfold ways
  by_cases c : peak l ≤ n
  · rw [if_pos c]
  · rw [if_neg c]
    exact (put_none_iff.mpr fun r h => c (peak_le (okExt_right.mp h))).symm
theorem ways_isSome {n : Nat} {l : List Booking} : (ways n l).isSome = true ↔ ∃ r, right n l r = true := by
  rw [ways_eq, put_isSome_iff]
  exact ⟨fun ⟨r, h⟩ => ⟨r, okExt_right.mp h⟩, fun ⟨r, h⟩ => ⟨r, okExt_right.mpr h⟩⟩
theorem ways_mono {n m : Nat} {l : List Booking} (h : n ≤ m) (e : (ways n l).isSome = true) : (ways m l).isSome = true := by
  rw [ways_eq, put_isSome_iff] at e ⊢
  obtain ⟨r, hr⟩ := e
  exact ⟨r, okExt_mono h hr⟩
theorem ways_side (l : List Booking) : (ways (wides l) l).isSome = true := by
  rw [ways_eq, put_isSome_iff]
  exact side_way l
theorem ways_peak {n : Nat} {l : List Booking} (e : (ways n l).isSome = true) : peak l ≤ n := by
  obtain ⟨r, hr⟩ := ways_isSome.mp e
  exact peak_le hr
/-- fewest is the only number at which there is a way and below which there is none -/
theorem find_range {p : Nat → Bool} {m k : Nat} (hk : k < m) (h1 : p k = true) (h2 : ∀ j, j < k → p j = false) : (List.range m).find? p = some k := by
  induction m with
  | zero => omega
  | succ m ih =>
    rw [List.range_succ, List.find?_append]
    by_cases c : k < m
    · rw [ih c]
      rfl
    · have : k = m := by omega
      subst this
      have e : (List.range k).find? p = none := List.find?_eq_none.mpr fun x hx => by
        rw [h2 x (List.mem_range.mp hx)]
        exact Bool.false_ne_true
      rw [e]
      simp [h1]
theorem fewest_is {l : List Booking} {k : Nat} (h1 : (ways k l).isSome = true) (h2 : ∀ j, j < k → (ways j l).isSome = false) : fewest l = k := by
  have hk : k < wides l + 1 := by
    refine Nat.lt_of_not_le fun c => ?_
    have := h2 (wides l) (by omega)
    rw [ways_side] at this
    cases this
  unfold fewest
  have := find_range (p := fun n => (ways n l).isSome) hk h1 h2
  unfold wides at this
  rw [this]
  rfl
theorem fewest_way (l : List Booking) : (ways (fewest l) l).isSome = true ∧ ∀ j, j < fewest l → (ways j l).isSome = false := by
  have : ∃ k, (ways k l).isSome = true ∧ ∀ j, j < k → (ways j l).isSome = false := by
    have key : ∀ m, (ways m l).isSome = true → ∃ k, (ways k l).isSome = true ∧ ∀ j, j < k → (ways j l).isSome = false := fun m => by
      induction m with
      | zero => exact fun h => ⟨0, h, fun j hj => absurd hj (Nat.not_lt_zero _)⟩
      | succ m ih =>
        intro h
        cases e : (ways m l).isSome with
        | true => exact ih e
        | false => exact ⟨m + 1, h, fun j hj => by
            cases e2 : (ways j l).isSome with
            | false => rfl
            | true =>
              rw [ways_mono (by omega) e2] at e
              cases e⟩
    exact key _ (ways_side l)
  obtain ⟨k, h1, h2⟩ := this
  rw [fewest_is h1 h2]
  exact ⟨h1, h2⟩
theorem fewest_le {l : List Booking} : peak l ≤ fewest l ∧ fewest l ≤ wides l := by
  obtain ⟨h1, h2⟩ := fewest_way l
  refine ⟨ways_peak h1, Nat.le_of_not_lt fun c => ?_⟩
  have := h2 _ c
  rw [ways_side] at this
  cases this
end Lw
set_option Elab.async false
set_option maxRecDepth 100000
set_option maxHeartbeats 2000000
/-! # Rules that the layer lacks: a chain of three comparisons; what own classes, chains, all and enumerate evaluate to -/
namespace Lb
open PySem PySem.Spec PyProof.Rows L2 Evl

section
variable {X : Cx} {a b c d : Expr} {ta tb tc td : TE} {pos : Pos}
/-- a op1 b op2 c op3 d -/
def tChain3 (r r' r'' : R2) (ta tb tc td : TE) : TE := fun σ H Q => ta σ H fun x H1 => tb σ H1 fun y H2 => r x y H2 fun z H3 => ∃ k, z = .bl k ∧
  (if k = true then tc σ H3 fun w H4 => r' y w H4 fun z' H5 => ∃ k', z' = .bl k' ∧ (if k' = true then td σ H5 fun w' H6 => r'' w w' H6 Q else Q (.bl false) H5) else Q (.bl false) H3)
theorem pe_chain3 {op op' op'' : CmpOp} {r r' r'' : R2} (ho : OpR X (compareOp op) r) (ho' : OpR X (compareOp op') r') (ho'' : OpR X (compareOp op'') r'') (ha : PE X a ta) (hb : PE X b tb) (hc : PE X c tc) (hd : PE X d td)
    (hm : lastMarks [op, op', op''] [b, c, d] = false := by with_unfolding_all rfl) : PE X (.Compare a [op, op', op''] [b, c, d] pos) (tChain3 r r' r'' ta tb tc td) := by
  refine ⟨fun pins s σ H Q I h => ?_⟩
  refine Compare_chain (thn (ha.run pins s σ H _ I h) fun v s1 ⟨x, H1, I1, r1, q1⟩ => chain_link (thn (hb.run pins s1 σ H1 _ I1 q1) fun u s2 ⟨y, H2, I2, r2, q2⟩ =>
    thn (ho pins s2 σ H2 x y v u _ I2 r1 r2 q2) fun d s3 ⟨z, H3, I3, r3, k, e, q3⟩ => ?_)) hm
  subst e
  cases r3
  refine wpAny_truthy_bool ?_
  cases k with
  | false => exact ite_ff ⟨.bl false, H3, I3, rfl, q3⟩
  | true =>
    refine ite_tt (chain_link (thn (hc.run pins s3 σ H3 _ I3 q3) fun w' s4 ⟨z', H4, I4, r4, q4⟩ => thn (ho' pins s4 σ H4 y z' u w' _ I4 r2 r4 q4) fun d' s5 ⟨z2, H5, I5, r5, k2, e2, q5⟩ => ?_))
    subst e2
    cases r5
    refine wpAny_truthy_bool ?_
    cases k2 with
    | false => exact ite_ff ⟨.bl false, H5, I5, rfl, q5⟩
    | true => exact ite_tt (chain_last (thn (hd.run pins s5 σ H5 _ I5 q5) fun w2 s6 ⟨z3, H6, I6, r6, q6⟩ => ho'' pins s6 σ H6 z' z3 w' w2 Q I6 r4 r6 q6))
end

section
variable {K : PySem.W.Frag} {σ : L2.St} {H : Hp} {ta tb tc td te : TE} {x y z w v : V} {r r' r'' : R2}
theorem ev_chain {k k' : Bool} (ha : Ev ta σ H x) (hb : Ev tb σ H y) (hr : RV r x y H (.bl k)) (hc : k = true → Ev tc σ H z) (hr' : k = true → RV r' y z H (.bl k')) : Ev (tChain r r' ta tb tc) σ H (.bl (k && k')) := fun H1 e Q q =>
  ha H1 e _ fun H2 e2 => hb H2 (e.trans e2) _ fun H3 e3 => hr H3 ((e.trans e2).trans e3) _ fun H4 e4 => ⟨k, rfl, by
    cases k with
    | true =>
      rw [if_pos rfl]
      exact hc rfl H4 (((e.trans e2).trans e3).trans e4) _ fun H5 e5 => hr' rfl H5 ((((e.trans e2).trans e3).trans e4).trans e5) Q fun H6 e6 => q H6 ((((e2.trans e3).trans e4).trans e5).trans e6)
    | false =>
      rw [if_neg Bool.false_ne_true]
      exact q H4 ((e2.trans e3).trans e4)⟩
theorem ev_chain3 {k k' k'' : Bool} (ha : Ev ta σ H x) (hb : Ev tb σ H y) (hr : RV r x y H (.bl k)) (hc : k = true → Ev tc σ H z) (hr' : k = true → RV r' y z H (.bl k')) (hd : k' = true → Ev td σ H w) (hr'' : k' = true → RV r'' z w H (.bl k'')) :
    Ev (tChain3 r r' r'' ta tb tc td) σ H (.bl (k && (k' && k''))) := fun H1 e Q q =>
  ha H1 e _ fun H2 e2 => hb H2 (e.trans e2) _ fun H3 e3 => hr H3 ((e.trans e2).trans e3) _ fun H4 e4 => ⟨k, rfl, by
    cases k with
    | true =>
      rw [if_pos rfl]
      refine hc rfl H4 (((e.trans e2).trans e3).trans e4) _ fun H5 e5 => hr' rfl H5 ((((e.trans e2).trans e3).trans e4).trans e5) _ fun H6 e6 => ⟨k', rfl, ?_⟩
      have e16 := (((e2.trans e3).trans e4).trans e5).trans e6
      cases k' with
      | true =>
        rw [if_pos rfl]
        exact hd rfl H6 (e.trans e16) _ fun H7 e7 => hr'' rfl H7 ((e.trans e16).trans e7) Q fun H8 e8 => q H8 ((e16.trans e7).trans e8)
      | false =>
        rw [if_neg Bool.false_ne_true]
        exact q H6 e16
    | false =>
      rw [if_neg Bool.false_ne_true]
      exact q H4 ((e2.trans e3).trans e4)⟩
/-- a field of an own object -/
theorem ev_fld {p C dx : Addr} {fs : List (Str × V)} {f : Str} (ha : Ev ta σ H (.ref p)) (hp : H p = some (.ins C dx fs)) (c : Cls K C) (n : NoAttr K C f) (l : fs.lookup f = some v) : Ev (tFld K ta f) σ H v := fun H1 e Q q =>
  ha H1 e _ fun H2 e2 => ⟨p, C, dx, fs, v, rfl, e2 _ _ (e _ _ hp), c, n, l, q H2 e2⟩
/-- a method's call -/
theorem ev_meth {p C dx : Addr} {fs : List (Str × V)} {m : Str} {sp : Sp} {dvs vs : List V} {E : XK} {t : TA} (ha : Ev ta σ H (.ref p)) (hp : H p = some (.ins C dx fs)) (l : fs.lookup m = none) (h : EvA t σ H vs) (hs : SpV sp (.ref p :: (vs ++ dvs)) H z) :
    Ev (tMeth C m sp dvs E ta t) σ H z := fun H1 e Q q =>
  ha H1 e _ fun H2 e2 => ⟨p, dx, fs, rfl, e2 _ _ (e _ _ hp), l, h H2 (e.trans e2) _ fun H3 e3 => hs H3 ((e.trans e2).trans e3) Q (fun H4 e4 => q H4 ((e2.trans e3).trans e4)) E⟩
/-- all([..]) of a new list of truth values -/
theorem ev_allN {bs : List Bool} (ha : EvL ta σ H (bs.map V.bl)) : Ev (tCB (rAll K) (tCons ta tNil)) σ H (.bl (bs.all id)) := fun H1 e Q q =>
  ha H1 e _ fun p H2 _ e2 h2 => ⟨p, bs, rfl, sq_of h2, q H2 e2⟩
theorem et_tt {P : Prop} [Decidable P] {t : TT} (h : EvT t σ H (decide P)) (p : P) : EvT t σ H true := by
  rw [decide_eq_true p] at h
  exact h
/-- for i, x in enumerate(xs), xs a list that stands -/
theorem s_forE {a : Addr} {xs : List V} {ta : TA} {ji jx : Nat} {tu : TS} {D : Ends} (h : EvA ta σ H [.ref a]) (hx : SqL K H a xs) (Pv : Nat → L2.St → Hp → Prop) (h0 : ∀ H1, Ex H H1 → Pv 0 σ H1) (hl : ∀ i σ' H', i ≤ xs.length → Pv i σ' H' → SqL K H' a xs)
    (hs : ∀ (i : Nat) x σ' H', xs[i]? = some x → Pv i σ' H' → ∀ H2, Ex H' H2 → tu { D with nx := Pv (i + 1), ct := Pv (i + 1), bk := D.nx } ((σ'.set ji (some (.int (i : Int)))).set jx (some x)) H2) (hd : ∀ σ' H', Pv xs.length σ' H' → D.nx σ' H') :
    tFor (iEnum K ta) (gTup K 2 (gCons (gName ji) (gCons (gName jx) gNil))) tu D σ H :=
  h H (Ex.refl H) _ fun H1 e => ⟨a, xs, rfl, ex_l e hx, for_it walk_enum Pv (h0 H1 e) hl (fun i x σ' H' H2 hi hP hy => by
    obtain ⟨T, y1, y2, rfl, hT, rfl, e1, e2⟩ := hy
    cases e1
    exact ⟨T, _, rfl, st_of upd_same, rfl, _, _, rfl, _, _, rfl, rfl, hs i y2 σ' H' e2 hP _ (Ex.new hT)⟩) hd⟩
theorem q_forE {a : Addr} {xs : List V} {ta : TA} {ji jx : Nat} {tu tz : TS} {D : Ends} (h : EvA ta σ H [.ref a]) (hx : SqL K H a xs) (Pv : Nat → L2.St → Hp → Prop) (h0 : ∀ H1, Ex H H1 → Pv 0 σ H1) (hl : ∀ i σ' H', i ≤ xs.length → Pv i σ' H' → SqL K H' a xs)
    (hs : ∀ (i : Nat) x σ' H', xs[i]? = some x → Pv i σ' H' → ∀ H2, Ex H' H2 → tu { D with nx := Pv (i + 1), ct := Pv (i + 1), bk := tz D } ((σ'.set ji (some (.int (i : Int)))).set jx (some x)) H2) (hd : ∀ σ' H', Pv xs.length σ' H' → tz D σ' H') :
    tSeq (tFor (iEnum K ta) (gTup K 2 (gCons (gName ji) (gCons (gName jx) gNil))) tu) tz D σ H := s_forE (D := { D with nx := tz D }) h hx Pv h0 hl hs hd
theorem rgc3 : ∀ n : Nat, n ≤ 24 → n % 3 = 0 → RgC 0 (n : Int) 3 (n / 3) := by
  have h : ∀ n : Fin 25, n.val % 3 = 0 → (3 : Int) ≠ 0 ∧ (3 : Int).natAbs < 1073741824 ∧ Builtin.Range.small 0 ((n.val : Nat) : Int) 3 = true ∧ Builtin.Range.rangeSize 0 ((n.val : Nat) : Int) 3 = (n.val / 3 : Nat) := by decide +kernel
  intro n hn h3
  exact h ⟨n, by omega⟩ h3
end
end Lb
set_option Elab.async false
set_option maxRecDepth 100000
set_option maxHeartbeats 2000000
/-! # The bookings as objects; the promises and readings of what all calls share -/
namespace Lb
open PySem PySem.Spec PyProof.Rows L2 Evl

def rAdd : R2 := rI0 fun i j => .int (i + j)
def rGt : R2 := rI0 fun i j => .bl (decide (j < i))
def rLt : R2 := rI0 fun i j => .bl (decide (i < j))
def rLe : R2 := rI0 fun i j => .bl (decide (i ≤ j))
def rMod : R2 := rI (fun _ j => 0 < j) fun i j => .int (i % j)
def rMul : R2 := rI CMul fun i j => .int (i * j)
/-! ### The heap: a booking, a list of bookings -/
def bF (k : Bk) : List (Str × V) := [("begin", .int k.b), ("end", .int k.e), ("wide", .int k.w)]
def BkAt (C : Addr) (H : Hp) (a : Addr) (k : Bk) : Prop := ∃ dx, H a = some (.ins C dx (bF k))
def BksAt (C : Addr) (H : Hp) (as : List Addr) (ks : List Bk) : Prop := as.length = ks.length ∧ ∀ i a, as[i]? = some a → BkAt C H a (bAt ks i)
def LstAt (C : Addr) (H : Hp) (p : Addr) (ks : List Bk) : Prop := ∃ as : List Addr, H p = some (.lst (as.map V.ref)) ∧ BksAt C H as ks
theorem BkAt.mono {C a : Addr} {H H' : Hp} {k : Bk} (e : Ex H H') (h : BkAt C H a k) : BkAt C H' a k := by
  obtain ⟨dx, h⟩ := h
  exact ⟨dx, e _ _ h⟩
theorem BksAt.mono {C : Addr} {H H' : Hp} {as : List Addr} {ks : List Bk} (e : Ex H H') (h : BksAt C H as ks) : BksAt C H' as ks := ⟨h.1, fun i a hi => (h.2 i a hi).mono e⟩
theorem LstAt.mono {C p : Addr} {H H' : Hp} {ks : List Bk} (e : Ex H H') (h : LstAt C H p ks) : LstAt C H' p ks := by
  obtain ⟨as, h1, h2⟩ := h
  exact ⟨as, e _ _ h1, h2.mono e⟩
theorem lk_here {k : Str} {v : V} {r : List (Str × V)} : List.lookup k ((k, v) :: r) = some v := by
  have e : (k == k) = true := beq_self_eq_true k
  simp only [List.lookup, e]
theorem lk_past {k g : Str} {v : V} {r : List (Str × V)} (h : (k == g) = false) : List.lookup k ((g, v) :: r) = List.lookup k r := by
  simp only [List.lookup, h]
theorem put_past {f g : Str} {v x : V} {r : List (Str × V)} (h : ¬ g = f) : putF f v ((g, x) :: r) = (g, x) :: putF f v r := if_neg h
theorem bF_b (k : Bk) : (bF k).lookup ("begin" : Str) = some (.int k.b) := lk_here
theorem bF_e (k : Bk) : (bF k).lookup ("end" : Str) = some (.int k.e) := (lk_past (by decide +kernel)).trans lk_here
theorem bF_w (k : Bk) : (bF k).lookup ("wide" : Str) = some (.int k.w) := (lk_past (by decide +kernel)).trans ((lk_past (by decide +kernel)).trans lk_here)
theorem bF_told (k : Bk) : (bF k).lookup ("is_as_told" : Str) = none := (lk_past (by decide +kernel)).trans ((lk_past (by decide +kernel)).trans ((lk_past (by decide +kernel)).trans rfl))
theorem bF_shares (k : Bk) : (bF k).lookup ("shares_hour_with" : Str) = none := (lk_past (by decide +kernel)).trans ((lk_past (by decide +kernel)).trans ((lk_past (by decide +kernel)).trans rfl))
theorem bF_new (b e w : Int) : putF "wide" (.int w) (putF "end" (.int e) (putF "begin" (.int b) [])) = bF ⟨b, e, w⟩ := by
  show putF "wide" (.int w) (putF "end" (.int e) [("begin", .int b)]) = _
  rw [put_past (by decide +kernel)]
  show putF "wide" (.int w) [("begin", .int b), ("end", .int e)] = _
  rw [put_past (by decide +kernel), put_past (by decide +kernel)]
  rfl
/-! ### What the top has written -/
def Num (mg : Str → Option Value) (x : Str) (i : Int) : Prop := ∃ t, mg x = some (.int i t)
theorem pe_num {X : Cx} {x : Str} {i : Int} {pos : Pos} (h : Num X.mg x i) (hg : Gl X x) (hd : (x == ("__debug__" : Str)) = false := by decide) : PE X (.Name x pos) (tC (.int i)) := by
  obtain ⟨t, h⟩ := h
  exact pe_glob hg h ⟨_, rfl⟩ hd
structure Txt (K : PySem.W.Frag) (mg : Str → Option Value) (C : Addr) : Prop where
  cl : Cls K C
  nB : NoAttr K C "begin"
  nE : NoAttr K C "end"
  nW : NoAttr K C "wide"
  gC : mg "Booking" = some (.ref C)
  noe : Num mg "NUMBERS_OF_EACH" 3
  mob : Num mg "MOST_BOOKINGS" 6
  lae : Num mg "LAST_END" 12
  wid : Num mg "WIDEST" 8
  len : mg "len" = none
  all : mg "all" = none
  rng : mg "range" = none
/-! ### The promises -/
def spInit (C : Addr) : Sp := fun vs H Q _ => ∃ (p dx : Addr) (b e w : Int), vs = [.ref p, .int b, .int e, .int w] ∧ H p = some (.ins C dx []) ∧
  ∀ H' : Hp, BkAt C H' p ⟨b, e, w⟩ → (∀ a o, H a = some o → a ≠ p → H' a = some o) → Q .non H'
def spWidth : Sp := fun vs H Q _ => ∃ w : Int, vs = [.int w] ∧ RetV (.bl (decide (1 ≤ w) && decide (w ≤ 8))) H Q
def spTold (C : Addr) : Sp := fun vs H Q _ => ∃ (p : Addr) (k : Bk), vs = [.ref p] ∧ BkAt C H p k ∧ RetV (.bl (told k)) H Q
def spShares (C : Addr) : Sp := fun vs H Q _ => ∃ (p q : Addr) (k m : Bk), vs = [.ref p, .ref q] ∧ BkAt C H p k ∧ BkAt C H q m ∧ RetV (.bl (meets k m)) H Q
def spRead (K : PySem.W.Frag) (C : Addr) : Sp := fun vs H Q _ => ∃ (a : Addr) (ns : List Int), vs = [.ref a] ∧ SqL K H a (ns.map V.int) ∧ ns.length % 3 = 0 ∧ ns.length ≤ 24 ∧
  ∀ (p : Addr) (H' : Hp), H p = none → Ex H H' → LstAt C H' p (chunk ns) → Q (.ref p) H'
def spAre (K : PySem.W.Frag) : Sp := fun vs H Q _ => ∃ (a : Addr) (ns : List Int), vs = [.ref a] ∧ SqL K H a (ns.map V.int) ∧ ns.length ≤ 24 ∧ RetV (.bl (okNs ns)) H Q
def spShare (C : Addr) : Sp := fun vs H Q _ => ∃ (p q : Addr) (k m : Bk) (f g : Int), vs = [.ref p, .int f, .ref q, .int g] ∧ BkAt C H p k ∧ BkAt C H q m ∧ RetV (.bl (share k f m g)) H Q
/-! ### The readings -/
def t_init (K : PySem.W.Frag) : TS := tSeq (sFld K (tVar 0) (tVar 1) "begin") (tSeq (sFld K (tVar 0) (tVar 2) "end") (sFld K (tVar 0) (tVar 3) "wide"))
def t_width : TS := tRet (tChain rLe rLe (tC (.int 1)) (tVar 0) (tC (.int 8)))
def t_told (K : PySem.W.Frag) : TS := tRet (tAndV (tChain3 rLe rLt rLe (tC (.int 0)) (tFld K (tVar 0) "begin") (tFld K (tVar 0) "end") (tC (.int 12))) (tCall spWidth [] E0 (tCons (tFld K (tVar 0) "wide") tNil)))
def t_shares (K : PySem.W.Frag) : TS := tRet (tAndV (tOp rLt (tFld K (tVar 0) "begin") (tFld K (tVar 1) "end")) (tOp rLt (tFld K (tVar 1) "begin") (tFld K (tVar 0) "end")))
/-- slots: numbers, at -/
def t_read (K : PySem.W.Frag) (C : Addr) : TS := tRet (tLc (iRng3 (tCons (tC (.int 0)) (tCons (tCB (rLenS K) (tCons (tVar 0) tNil)) (tCons (tC (.int 3)) tNil)))) (gName 1) tYes
  (tMake C (spInit C) [] E0 (tCons (tOp (rIxL K) (tVar 0) (tVar 1)) (tCons (tOp (rIxL K) (tVar 0) (tOp rAdd (tVar 1) (tC (.int 1)))) (tCons (tOp (rIxL K) (tVar 0) (tOp rAdd (tVar 1) (tC (.int 2)))) tNil)))) [1])
/-- slots: numbers, booking -/
def t_are (K : PySem.W.Frag) (C : Addr) : TS :=
  tSeq (tIfS (tTest (tOp rNe (tOp rMod (tCB (rLenS K) (tCons (tVar 0) tNil)) (tC (.int 3))) (tC (.int 0)))) (tRet (tC (.bl false))) tNext)
  (tSeq (tIfS (tTest (tOp rGt (tCB (rLenS K) (tCons (tVar 0) tNil)) (tOp rMul (tC (.int 3)) (tC (.int 6))))) (tRet (tC (.bl false))) tNext)
  (tRet (tCB (rAll K) (tCons (tLc (iList K (tCall (spRead K C) [] E0 (tCons (tVar 0) tNil))) (gName 1) tYes (tMeth C "is_as_told" (spTold C) [] E0 (tVar 1) tNil) [1]) tNil))))
/-- slots: booking, first, other, other_first -/
def t_share (K : PySem.W.Frag) : TS := tRet (tAndV (tOp rLt (tVar 1) (tOp rAdd (tVar 3) (tFld K (tVar 2) "wide"))) (tOp rLt (tVar 3) (tOp rAdd (tVar 1) (tFld K (tVar 0) "wide"))))
section
variable {K : PySem.W.Frag} {mg : Str → Option Value} {C : Addr}
theorem pure_init (T : Txt K mg C) (vs : List V) (H : Hp) (Q : VK) (E : XK) (h : spInit C vs H Q E) : t_init K { nx := fun _ H' => Q .non H', rt := Q } (start ["self", "begin", "end", "wide"] vs) H := by
  obtain ⟨p, dx, b, e, w, rfl, hp, k⟩ := h
  refine ⟨_, rfl, _, rfl, p, C, dx, [], rfl, hp, T.cl, T.nB, (by show 0 < 1000; decide), ?_⟩
  refine ⟨_, rfl, _, rfl, p, C, dx, _, rfl, upd_same, T.cl, T.nE, (by show 1 < 1000; decide), ?_⟩
  refine ⟨_, rfl, _, rfl, p, C, dx, _, rfl, upd_same, T.cl, T.nW, (by show (putF "end" (.int e) [(("begin" : Str), V.int b)]).length < 1000; rw [put_past (by decide +kernel)]; show 2 < 1000; decide), ?_⟩
  exact k _ ⟨dx, Eq.trans upd_same (congrArg (fun q => some (HO.ins C dx q)) (bF_new b e w))⟩ fun a o h hb => by
    rw [upd_ne hb, upd_ne hb, upd_ne hb]
    exact h
theorem pure_width (vs : List V) (H : Hp) (Q : VK) (E : XK) (h : spWidth vs H Q E) : t_width { nx := fun _ H' => Q .non H', rt := Q } (start ["wide"] vs) H := by
  obtain ⟨w, rfl, r⟩ := h
  exact s_ret (ev_chain ev_c (ev_var (v := .int w) rfl) rv_I0 (fun _ => ev_c) (fun _ => rv_I0)) fun H1 e => r H1 e
theorem pure_told (T : Txt K mg C) (vs : List V) (H : Hp) (Q : VK) (E : XK) (h : spTold C vs H Q E) : t_told K { nx := fun _ H' => Q .non H', rt := Q } (start ["self"] vs) H := by
  obtain ⟨p, k, rfl, ⟨dx, hp⟩, q⟩ := h
  exact s_ret (ev_andV (ev_chain3 ev_c (ev_fld (ev_var rfl) hp T.cl T.nB (bF_b k)) rv_I0 (fun _ => ev_fld (ev_var rfl) hp T.cl T.nE (bF_e k)) (fun _ => rv_I0) (fun _ => ev_c) (fun _ => rv_I0))
    (fun _ => ev_call (vs := [.int k.w]) (ea_cons (ev_fld (ev_var rfl) hp T.cl T.nW (bF_w k)) ea_nil) fun H1 e1 Q' q' E' => ⟨k.w, rfl, fun H2 e2 => q' H2 e2⟩)) fun H1 e => q H1 e
theorem pure_shares (T : Txt K mg C) (vs : List V) (H : Hp) (Q : VK) (E : XK) (h : spShares C vs H Q E) : t_shares K { nx := fun _ H' => Q .non H', rt := Q } (start ["self", "other"] vs) H := by
  obtain ⟨p, q, k, m, rfl, ⟨dx, hp⟩, ⟨dy, hq⟩, r⟩ := h
  exact s_ret (ev_andV (ev_op (ev_fld (ev_var rfl) hp T.cl T.nB (bF_b k)) (ev_fld (ev_var rfl) hq T.cl T.nE (bF_e m)) rv_I0)
    (fun _ => ev_op (ev_fld (ev_var rfl) hq T.cl T.nB (bF_b m)) (ev_fld (ev_var rfl) hp T.cl T.nE (bF_e k)) rv_I0)) fun H1 e => r H1 e
theorem pure_share (T : Txt K mg C) (vs : List V) (H : Hp) (Q : VK) (E : XK) (h : spShare C vs H Q E) : t_share K { nx := fun _ H' => Q .non H', rt := Q } (start ["booking", "first", "other", "other_first"] vs) H := by
  obtain ⟨p, q, k, m, f, g, rfl, ⟨dx, hp⟩, ⟨dy, hq⟩, r⟩ := h
  exact s_ret (ev_andV (ev_op (ev_var rfl) (ev_op (ev_var rfl) (ev_fld (ev_var rfl) hq T.cl T.nW (bF_w m)) rv_I0) rv_I0)
    (fun _ => ev_op (ev_var rfl) (ev_op (ev_var rfl) (ev_fld (ev_var rfl) hp T.cl T.nW (bF_w k)) rv_I0) rv_I0)) fun H1 e => r H1 e
theorem at_get {ns : List Int} {i : Nat} {z : Int} (e : z = (i : Int)) (h : i < ns.length) : atI (ns.map V.int) z = some (.int (ns.getD i 0)) := by
  refine at_of e ?_
  rw [List.getElem?_map, List.getElem?_eq_getElem h, List.getD_eq_getElem?_getD, List.getElem?_eq_getElem h]
  rfl
/-- one booking made of three numbers -/
theorem make_bk {σ : L2.St} {H : Hp} {t : TA} {b e w : Int} (h : EvA t σ H [.int b, .int e, .int w]) : ∀ H1, Ex H H1 → ∀ Q : VK, (∀ a H2, Ex H1 H2 → BkAt C H2 a ⟨b, e, w⟩ → Q (.ref a) H2) → tMake C (spInit C) [] E0 t σ H1 Q := fun H1 e1 Q q =>
  h H1 e1 _ fun H2 e2 x dx nx nd _ => ⟨x, dx, b, e, w, rfl, upd_same, fun H3 J kp => ⟨rfl, q x H3 (e2.trans (Same.made nx nd kp)) J⟩⟩
/-- what a comprehension over a range has made of bookings behind i turns -/
def Cb (C : Addr) (H : Hp) (D : Addr) (ks : List Bk) (i : Nat) (H' : Hp) : Prop := H D = none ∧ Ex H H' ∧ ∃ as : List Addr, H' D = some (.lst (as.map V.ref)) ∧ as.length = i ∧ ∀ j a, as[j]? = some a → BkAt C H' a (bAt ks j)
theorem cb_turn {H H3 : Hp} {D : Addr} {ks : List Bk} {i : Nat} {te : TE} {σ2 : L2.St} (p : Cb C H D ks i H3) (hi : i < 1000) (h : ∀ H1, Ex H H1 → ∀ Q : VK, (∀ a H2, Ex H1 H2 → BkAt C H2 a (bAt ks i) → Q (.ref a) H2) → te σ2 H1 Q) :
    te σ2 H3 fun y H4 => ∃ acc, H4 D = some (.lst acc) ∧ acc.length < sizeLine ∧ Cb C H D ks (i + 1) (upd H4 D (.lst (acc ++ [y]))) := by
  obtain ⟨hD, e, as, h1, h2, h3⟩ := p
  refine h H3 e _ fun a H4 e4 hb => ⟨as.map V.ref, e4 _ _ h1, Nat.lt_of_le_of_lt (by rw [List.length_map, h2]; exact Nat.le_of_lt hi) (by decide), hD, Ex.mut (e.trans e4) hD, as ++ [a], by rw [upd_same, List.map_append] <;> rfl, by rw [List.length_append, h2] <;> rfl, ?_⟩
  have keep : ∀ {b : Addr} {k : Bk}, BkAt C H4 b k → BkAt C (upd H4 D (.lst (as.map V.ref ++ [V.ref a]))) b k := fun {b k} ⟨dx, hb⟩ => ⟨dx, by
    rw [upd_ne (ne_of hb (e4 _ _ h1) (by intro z; cases z))]
    exact hb⟩
  intro j b hj
  by_cases c : j < as.length
  · rw [List.getElem?_append_left c] at hj
    exact keep ((h3 j b hj).mono e4)
  · have c2 : j = i := by
      obtain ⟨hl, _⟩ := List.getElem?_eq_some_iff.mp hj
      rw [List.length_append] at hl
      have : [a].length = 1 := rfl
      omega
    subst c2
    rw [List.getElem?_append_right (by omega), h2, Nat.sub_self] at hj
    cases hj
    exact keep hb
theorem tyes_of {σ : L2.St} {H : Hp} {A B : Hp → Prop} (h : A H) : tYes σ H fun b H3 => if b = true then A H3 else B H3 := by
  show if true = true then A H else B H
  rw [if_pos rfl]
  exact h
theorem given_all {n : Nat} {v : Nat → V} {xs : List V} (hn : xs.length = n) (h : ∀ i x, xs[i]? = some x → v i = x) : given n (fun _ => true) v = xs := by
  subst hn
  unfold given
  rw [List.filter_eq_self.mpr (fun _ _ => rfl)]
  refine List.ext_getElem (by simp) fun i h1 h2 => ?_
  rw [List.getElem_map, List.getElem_range]
  exact h i _ (List.getElem?_eq_getElem h2)
theorem bAt_of {ks : List Bk} {i : Nat} {k : Bk} (h : ks[i]? = some k) : bAt ks i = k := by
  unfold bAt
  rw [List.getD_eq_getElem?_getD, h]
  rfl
theorem pure_read (vs : List V) (H : Hp) (Q : VK) (E : XK) (h : spRead K C vs H Q E) : t_read K C { nx := fun _ H' => Q .non H', rt := Q } (start ["numbers", "at"] vs) H := by
  obtain ⟨a, ns, rfl, hs, h3, h24, k⟩ := h
  have hl : ((ns.map V.int).length : Int) = (ns.length : Int) := by rw [List.length_map]
  show tLc _ _ _ _ _ _ _ _
  refine ⟨_, rfl, a, ns.map V.int, rfl, .inl hs, 0, ((ns.map V.int).length : Int), 3, ns.length / 3, rfl, by rw [hl]; exact rgc3 _ h24 h3, fun D hD => lc_it (walk_rangeC (lo := 0) (c := 3) (n := ns.length / 3)) (Cb C H D (chunk ns)) ⟨hD, Ex.new hD, [], upd_same, rfl, fun j b hj => by simp at hj⟩ (fun _ _ _ _ => trivial) (fun i x H3 H4 hi p y => ?_) (fun H3 p => ?_)⟩
  · obtain ⟨rfl, rfl⟩ := y
    refine ⟨rfl, tyes_of (cb_turn (te := tMake C (spInit C) [] E0 _) p (by omega) fun H1 e1 Q' q => ?_)⟩
    have g := chunk_get ns i (by omega)
    rw [bAt_of g] at q
    refine make_bk (ea_cons (ev_op (ev_var (v := .ref a) rfl) (ev_var rfl) (rv_ixL (ex_l e1 hs) (at_get (i := 3 * i) (by omega) (by omega)))) (ea_cons (ev_op (ev_var (v := .ref a) rfl) (ev_op (ev_var rfl) ev_c rv_I0) (rv_ixL (ex_l e1 hs) (at_get (i := 3 * i + 1) (by omega) (by omega))))
      (ea_cons (ev_op (ev_var (v := .ref a) rfl) (ev_op (ev_var rfl) ev_c rv_I0) (rv_ixL (ex_l e1 hs) (at_get (i := 3 * i + 2) (by omega) (by omega)))) ea_nil))) H1 (Ex.refl H1) Q' q
  · obtain ⟨_, e, as, h1, h2, h4⟩ := p
    exact k D H3 hD e ⟨as, h1, by rw [h2, chunk_len], h4⟩
theorem pure_are (vs : List V) (H : Hp) (Q : VK) (E : XK) (h : spAre K vs H Q E) : t_are K C { nx := fun _ H' => Q .non H', rt := Q } (start ["numbers", "booking"] vs) H := by
  obtain ⟨a, ns, rfl, hs, h24, k⟩ := h
  have hl : ((ns.map V.int).length : Int) = (ns.length : Int) := by rw [List.length_map]
  have hlen : Ev (tCB (rLenS K) (tCons (tVar 0) tNil)) (start ["numbers", "booking"] [V.ref a]) H (.int (ns.length : Int)) := ev_is (ev_len (ev_var rfl) hs) (by rw [hl])
  refine q_when (et_test (ev_op (ev_op hlen ev_c (rv_I (by show (0 : Int) < 3; decide))) ev_c (rv_ne rfl))) (fun hb H1 e1 => s_ret ev_c fun H2 e2 => ?_) (fun hb H1 e1 => ?_)
  · have hne : ns.length % 3 ≠ 0 := by
      intro z
      have : ((ns.length : Int) % 3) = 0 := by omega
      rw [this] at hb
      simp at hb
    have e : okNs ns = false := by
      unfold okNs
      rw [decide_eq_false hne]
      rfl
    have z := k H2 (e1.trans e2)
    rw [e] at z
    exact z
  have h3 : ns.length % 3 = 0 := by
    simp at hb
    omega
  refine q_when (et_test (ev_op (hlen.mono e1) (ev_op ev_c ev_c (rv_I (.inl ⟨by decide, by decide⟩))) rv_I0)) (fun hb H2 e2 => s_ret ev_c fun H3 e3 => ?_) (fun hb H2 e2 => ?_)
  · have hne : ¬ ns.length ≤ 18 := by
      have := of_decide_eq_true hb
      omega
    have e : okNs ns = false := by
      unfold okNs
      rw [decide_eq_false hne, Bool.and_false]
      rfl
    have z := k H3 ((e1.trans e2).trans e3)
    rw [e] at z
    exact z
  have h18 : ns.length ≤ 18 := by
    have := of_decide_eq_false hb
    omega
  refine ⟨_, rfl, a, ns, rfl, ex_l (e1.trans e2) hs, h3, h24, fun p H3 hp e3 hL => ?_⟩
  obtain ⟨as, hq, hB⟩ := hL
  have e : okNs ns = ((chunk ns).map told).all id := by
    unfold okNs
    rw [decide_eq_true h3, decide_eq_true h18, List.all_map]
    rfl
  have hx : given (as.map V.ref).length (fun _ => true) (fun i => V.bl (told (bAt (chunk ns) i))) = ((chunk ns).map told).map V.bl := by
    refine given_all (by rw [List.length_map, List.length_map, List.length_map, hB.1]) fun i x hi => ?_
    rw [List.getElem?_map, List.getElem?_map] at hi
    cases q : (chunk ns)[i]? with
    | none =>
      rw [q] at hi
      cases hi
    | some m =>
      rw [q] at hi
      show V.bl (told (bAt (chunk ns) i)) = x
      rw [bAt_of q]
      exact Option.some.inj hi
  have z := el_lcL (K := K) (te := tMeth C "is_as_told" (spTold C) [] E0 (tVar 1) tNil) (t := tYes) (vs := [1]) (j := 1) (σ := start ["numbers", "booking"] [V.ref a]) (H := H3) (tl := tC (.ref p)) (fun _ => true) (fun i => V.bl (told (bAt (chunk ns) i))) (ev_c) (sq_of hq)
    (by rw [List.length_map, hB.1, chunk_len]; omega) (fun _ => rfl) (fun i x H4 e4 hi H5 e5 Q' q => q H5 (Ex.refl H5)) (fun i x H4 e4 hi _ => by
      rw [List.getElem?_map] at hi
      cases q : as[i]? with
      | none =>
        rw [q] at hi
        cases hi
      | some b =>
        rw [q] at hi
        obtain rfl := Option.some.inj hi
        obtain ⟨dx, hb⟩ := (hB.2 i b q).mono e4
        exact ev_meth (vs := []) (ev_var rfl) hb (bF_told _) ea_nil fun H5 e5 Q' q' E' => ⟨b, _, rfl, ⟨dx, e5 _ _ hb⟩, fun H6 e6 => q' H6 e6⟩)
  rw [hx] at z
  have g : tRet (tCB (rAll K) (tCons (tLc (iList K (tC (.ref p))) (gName 1) tYes (tMeth C "is_as_told" (spTold C) [] E0 (tVar 1) tNil) [1]) tNil)) { nx := fun _ H' => Q .non H', rt := Q } (start ["numbers", "booking"] [V.ref a]) H3 :=
    s_ret (ev_allN z) fun H4 e4 => by
      have y := k H4 (((e1.trans e2).trans e3).trans e4)
      rw [e] at y
      exact y
  exact g
end
end Lb
/-! # Orders that are tried: bookings put one by one, each as low as it goes; whether a way goes on; the first way -/
namespace Lb
/-- on another's lane in the same hour -/
def hits (b : Bk) (x : Int) (q : Bk × Int) : Bool := meets b q.1 && share b x q.1 q.2
theorem hits_iff {b : Bk} {x : Int} {q : Bk × Int} : hits b x q = true ↔ meets b q.1 = true ∧ x < q.2 + q.1.w ∧ q.2 < x + b.w := by
  unfold hits share
  rw [Bool.and_eq_true, Bool.and_eq_true, decide_eq_true_eq, decide_eq_true_eq]
theorem meets_comm (a b : Bk) : meets a b = meets b a := by
  unfold meets
  rw [Bool.and_comm]
theorem hits_comm (p q : Bk × Int) : hits p.1 p.2 q = hits q.1 q.2 p := by
  rw [Bool.eq_iff_iff, hits_iff, hits_iff, meets_comm]
  exact ⟨fun ⟨a, b, c⟩ => ⟨a, c, b⟩, fun ⟨a, b, c⟩ => ⟨a, c, b⟩⟩
def noHit (p q : Bk × Int) : Prop := hits p.1 p.2 q = false
theorem noHit_symm {p q : Bk × Int} (h : noHit p q) : noHit q p := by
  unfold noHit at h ⊢
  rw [hits_comm]
  exact h
/-! ## the lowest lane that is free -/
def scan (b : Bk) : Int → List (Bk × Int) → Int
  | f, [] => f
  | f, q :: l => scan b (if hits b f q = true then q.2 + q.1.w else f) l
theorem scan_stay {b : Bk} {f : Int} : ∀ {l : List (Bk × Int)}, (∀ q ∈ l, f + b.w ≤ q.2) → scan b f l = f
  | [], _ => rfl
  | q :: l, h => by
    have h1 := h q (by simp)
    have e : ¬ hits b f q = true := fun z => by
      have := (hits_iff.mp z).2.2
      omega
    show scan b (if hits b f q = true then q.2 + q.1.w else f) l = f
    rw [if_neg e]
    exact scan_stay fun x hx => h x (by simp [hx])
theorem scan_ok {b : Bk} : ∀ {l : List (Bk × Int)} {f : Int}, l.Pairwise (fun p q => p.2 ≤ q.2) →
    f ≤ scan b f l ∧ (∀ q ∈ l, hits b (scan b f l) q = false) ∧ ∀ x, f ≤ x → x < scan b f l → ∃ q ∈ l, hits b x q = true
  | [], f, _ => ⟨Int.le_refl _, (fun _ h => absurd h (by simp)), fun x h1 h2 => absurd h2 (by show ¬ x < f; omega)⟩
  | q :: l, f, hs => by
    obtain ⟨hq, hl⟩ := List.pairwise_cons.mp hs
    have e : scan b f (q :: l) = scan b (if hits b f q = true then q.2 + q.1.w else f) l := rfl
    rw [e]
    by_cases c : hits b f q = true
    · rw [if_pos c]
      obtain ⟨i1, i2, i3⟩ := scan_ok (b := b) (l := l) (f := q.2 + q.1.w) hl
      have c' := hits_iff.mp c
      refine ⟨by omega, fun p hp => ?_, fun x h1 h2 => ?_⟩
      · rcases List.mem_cons.mp hp with rfl | hp
        · rw [Bool.eq_false_iff]
          intro z
          have := (hits_iff.mp z).2.1
          omega
        · exact i2 p hp
      · by_cases d : q.2 + q.1.w ≤ x
        · obtain ⟨p, hp, z⟩ := i3 x d h2
          exact ⟨p, by simp [hp], z⟩
        · exact ⟨q, by simp, hits_iff.mpr ⟨c'.1, by omega, by omega⟩⟩
    · rw [if_neg c]
      obtain ⟨i1, i2, i3⟩ := scan_ok (b := b) (l := l) (f := f) hl
      refine ⟨i1, fun p hp => ?_, fun x h1 h2 => ?_⟩
      · rcases List.mem_cons.mp hp with rfl | hp
        · rw [Bool.eq_false_iff]
          intro z
          have z' := hits_iff.mp z
          have c2 : ¬ (f < p.2 + p.1.w ∧ p.2 < f + b.w) := fun y => c (hits_iff.mpr ⟨z'.1, y⟩)
          by_cases d : p.2 < f + b.w
          · omega
          · have := scan_stay (b := b) (f := f) (l := l) fun x hx => by
              have := hq x hx
              omega
            omega
        · exact i2 p hp
      · obtain ⟨p, hp, z⟩ := i3 x h1 h2
        exact ⟨p, by simp [hp], z⟩
/-- the least first lane from 0 on at which nothing of ps is hit -/
def Least (b : Bk) (ps : List (Bk × Int)) (r : Int) : Prop := 0 ≤ r ∧ (∀ q ∈ ps, hits b r q = false) ∧ ∀ x, 0 ≤ x → x < r → ∃ q ∈ ps, hits b x q = true
theorem Least.eq {b : Bk} {ps : List (Bk × Int)} {r s : Int} (h : Least b ps r) (h' : Least b ps s) : r = s := by
  obtain ⟨a1, a2, a3⟩ := h
  obtain ⟨b1, b2, b3⟩ := h'
  by_cases c : r < s
  · obtain ⟨q, hq, z⟩ := b3 r a1 c
    rw [a2 q hq] at z
    cases z
  · by_cases d : s < r
    · obtain ⟨q, hq, z⟩ := a3 s b1 d
      rw [b2 q hq] at z
      cases z
    · omega
theorem least_scan {b : Bk} {ps qs : List (Bk × Int)} (hp : qs.Perm ps) (hs : qs.Pairwise (fun p q => p.2 ≤ q.2)) : Least b ps (scan b 0 qs) := by
  obtain ⟨h1, h2, h3⟩ := scan_ok (b := b) (f := 0) hs
  refine ⟨h1, fun q hq => h2 q (hp.mem_iff.mpr hq), fun x hx hl => ?_⟩
  obtain ⟨q, hq, z⟩ := h3 x hx hl
  exact ⟨q, hp.mem_iff.mp hq, z⟩
theorem sort_snd (ps : List (Bk × Int)) : ∃ qs : List (Bk × Int), qs.Perm ps ∧ qs.Pairwise (fun (p q : Bk × Int) => p.2 ≤ q.2) := by
  refine ⟨ps.mergeSort fun p q => decide (p.2 ≤ q.2), List.mergeSort_perm _ _, ?_⟩
  have h := List.pairwise_mergeSort (le := fun (p q : Bk × Int) => decide (p.2 ≤ q.2)) (fun a b c h1 h2 => by
    rw [decide_eq_true_eq] at h1 h2 ⊢
    omega) (fun a b => by
    rw [Bool.or_eq_true, decide_eq_true_eq, decide_eq_true_eq]
    omega) ps
  exact h.imp fun {a b} h => of_decide_eq_true h
theorem least_any (b : Bk) (ps : List (Bk × Int)) : ∃ r, Least b ps r := by
  obtain ⟨qs, h1, h2⟩ := sort_snd ps
  exact ⟨_, least_scan h1 h2⟩
theorem Least.le {b : Bk} {ps : List (Bk × Int)} {r y : Int} (h : Least b ps r) (hy : 0 ≤ y) (hf : ∀ q ∈ ps, hits b y q = false) : r ≤ y := by
  refine Int.not_lt.mp fun c => ?_
  obtain ⟨q, hq, z⟩ := h.2.2 y hy c
  rw [hf q hq] at z
  cases z
/-! ## one by one, in an order -/
def Fits (n : Int) : List (Bk × Int) → List Bk → Prop
  | _, [] => True
  | ps, b :: l => ∃ r, Least b ps r ∧ r + b.w ≤ n ∧ Fits n (ps ++ [(b, r)]) l
/-- pairs of a booking and its first lane that stand right -/
def Ok (n : Int) (ps : List (Bk × Int)) : Prop := (∀ p ∈ ps, 0 ≤ p.2 ∧ p.2 + p.1.w ≤ n) ∧ ps.Pairwise noHit
theorem Ok.perm {n : Int} {ps qs : List (Bk × Int)} (h : ps.Perm qs) (o : Ok n ps) : Ok n qs :=
  ⟨fun p hp => o.1 p (h.mem_iff.mpr hp), (h.pairwise_iff fun {_ _} => noHit_symm).mp o.2⟩
theorem Ok.snoc {n : Int} {ps : List (Bk × Int)} {b : Bk} {r : Int} (o : Ok n ps) (h : Least b ps r) (hn : r + b.w ≤ n) : Ok n (ps ++ [(b, r)]) := by
  refine ⟨fun p hp => ?_, List.pairwise_append.mpr ⟨o.2, List.pairwise_singleton _ _, fun p hp q hq => ?_⟩⟩
  · rcases List.mem_append.mp hp with hp | hp
    · exact o.1 p hp
    · rw [List.mem_singleton.mp hp]
      exact ⟨h.1, hn⟩
  · rw [List.mem_singleton.mp hq]
    exact noHit_symm (h.2.1 p hp)
/-- what fits in an order is a way -/
theorem fits_ok {n : Int} : ∀ {l : List Bk} {ps : List (Bk × Int)}, Ok n ps → Fits n ps l → ∃ qs : List (Bk × Int), qs.map Prod.fst = l ∧ Ok n (ps ++ qs)
  | [], ps, o, _ => ⟨[], rfl, by rw [List.append_nil]; exact o⟩
  | b :: l, ps, o, ⟨r, h1, h2, h3⟩ => by
    obtain ⟨qs, e, o'⟩ := fits_ok (o.snoc h1 h2) h3
    exact ⟨(b, r) :: qs, by rw [List.map_cons, e], by rw [List.append_assoc] at o'; exact o'⟩
/-- a way in rising order fits: each booking comes to stand no higher than it does there -/
theorem ok_fits {n : Int} : ∀ {qs : List (Bk × Int)} {ps : List (Bk × Int)} {gs : List (Bk × Int)} {ys : List Int}, (∀ q ∈ qs, 1 ≤ q.1.w) → Ok n (ps ++ (gs.zip ys).map (fun z => (z.1.1, z.2)) ++ qs) → gs.length = ys.length → (∀ z ∈ gs.zip ys, z.1.2 ≤ z.2) →
    (∀ z ∈ gs.zip ys, ∀ q ∈ qs, z.2 ≤ q.2) → qs.Pairwise (fun p q => p.2 ≤ q.2) → Fits n (ps ++ gs) (qs.map Prod.fst)
  | [], _, _, _, _, _, _, _, _, _ => trivial
  | (b, y) :: qs, ps, gs, ys, hw, o, hl, hle, hge, hs => by
    obtain ⟨hs1, hs2⟩ := List.pairwise_cons.mp hs
    have hwb : 1 ≤ b.w := hw (b, y) (by simp)
    obtain ⟨r, hr⟩ := least_any b (ps ++ gs)
    have hy := o.1 (b, y) (by simp)
    have far := (List.pairwise_append.mp o.2).2.2
    have free : ∀ q ∈ ps ++ gs, hits b y q = false := fun q hq => by
      rcases List.mem_append.mp hq with hq | hq
      · exact noHit_symm (far q (by simp [hq]) (b, y) (by simp))
      · obtain ⟨j, hj⟩ := List.mem_iff_getElem?.mp hq
        have hj1 : j < gs.length := (List.getElem?_eq_some_iff.mp hj).1
        obtain ⟨v, hv⟩ : ∃ v, ys[j]? = some v := ⟨_, List.getElem?_eq_getElem (by omega)⟩
        have hz : (q, v) ∈ gs.zip ys := List.mem_of_getElem? (i := j) (by rw [List.getElem?_zip_eq_some]; exact ⟨hj, hv⟩)
        have h1 := hle _ hz
        have h2 := hge _ hz (b, y) (by simp)
        have h3 : noHit (b, y) (q.1, v) := noHit_symm (far (q.1, v) (List.mem_append_right _ (List.mem_map.mpr ⟨(q, v), hz, rfl⟩)) (b, y) (by simp))
        rw [Bool.eq_false_iff]
        intro z
        have z' := hits_iff.mp z
        have : hits b y (q.1, v) = true := hits_iff.mpr ⟨z'.1, by dsimp only at *; omega, by dsimp only at *; omega⟩
        unfold noHit at h3
        rw [h3] at this
        cases this
    have le := hr.le hy.1 free
    refine ⟨r, hr, by have := hy.2; dsimp only at *; omega, ?_⟩
    have ih := ok_fits (n := n) (qs := qs) (ps := ps) (gs := gs ++ [(b, r)]) (ys := ys ++ [y]) (fun q hq => hw q (by simp [hq])) ?_ (by simp [hl]) ?_ ?_ hs2
    · rw [← List.append_assoc] at ih
      exact ih
    · rw [List.zip_append hl, List.map_append]
      show Ok n (ps ++ ((gs.zip ys).map (fun z => (z.1.1, z.2)) ++ [(b, y)]) ++ qs)
      have e : ps ++ ((gs.zip ys).map (fun z => (z.1.1, z.2)) ++ [(b, y)]) ++ qs = ps ++ (gs.zip ys).map (fun z => (z.1.1, z.2)) ++ (b, y) :: qs := by simp
      rw [e]
      exact o
    · intro z hz
      rw [List.zip_append hl] at hz
      rcases List.mem_append.mp hz with hz | hz
      · exact hle z hz
      · rw [List.mem_singleton.mp hz]
        exact le
    · intro z hz q hq
      rw [List.zip_append hl] at hz
      rcases List.mem_append.mp hz with hz | hz
      · exact hge z hz q (by simp [hq])
      · rw [List.mem_singleton.mp hz]
        exact hs1 q hq
/-- a permutation of the first parts is one of the pairs -/
theorem perm_fst {α β : Type} : ∀ {l m : List α}, l.Perm m → ∀ {qs : List (α × β)}, qs.map Prod.fst = l → ∃ ps : List (α × β), ps.map Prod.fst = m ∧ ps.Perm qs := by
  intro l m h
  induction h with
  | nil => exact fun {qs} e => ⟨qs, e, .refl _⟩
  | cons x _ ih =>
    intro qs e
    cases qs with
    | nil => cases e
    | cons q qs =>
      obtain ⟨e1, e2⟩ := List.cons.inj e
      obtain ⟨ps, f1, f2⟩ := ih e2
      exact ⟨q :: ps, by rw [List.map_cons, e1, f1], f2.cons q⟩
  | swap x y l =>
    intro qs e
    match qs, e with
    | a :: b :: qs, e =>
      obtain ⟨e1, e2⟩ := List.cons.inj e
      obtain ⟨e3, e4⟩ := List.cons.inj e2
      exact ⟨b :: a :: qs, by rw [List.map_cons, List.map_cons, e1, e3, e4], .swap _ _ _⟩
  | trans _ _ ih1 ih2 =>
    intro qs e
    obtain ⟨ps, f1, f2⟩ := ih1 e
    obtain ⟨rs, g1, g2⟩ := ih2 f1
    exact ⟨rs, g1, g2.trans f2⟩
/-- **trying all orders is enough** -/
theorem orders_enough {n : Int} {ps : List (Bk × Int)} {l : List Bk} (o : Ok n ps) (hw : ∀ b ∈ l, 1 ≤ b.w) : (∃ m : List Bk, m.Perm l ∧ Fits n ps m) ↔ ∃ qs : List (Bk × Int), qs.map Prod.fst = l ∧ Ok n (ps ++ qs) := by
  constructor
  · rintro ⟨m, hm, hf⟩
    obtain ⟨qs, e, o'⟩ := fits_ok o hf
    obtain ⟨rs, e2, hp⟩ := perm_fst hm e
    exact ⟨rs, e2, o'.perm (hp.symm.append_left ps)⟩
  · rintro ⟨qs, e, o'⟩
    obtain ⟨rs, hp, hs⟩ := sort_snd qs
    refine ⟨rs.map Prod.fst, by rw [← e]; exact hp.map _, ?_⟩
    have := ok_fits (n := n) (qs := rs) (ps := ps) (gs := []) (ys := []) (fun q hq => hw _ (by rw [← e]; exact List.mem_map.mpr ⟨q, hp.mem_iff.mp hq, rfl⟩)) (by simpa using o'.perm (hp.symm.append_left ps)) rfl (by simp) (by simp) hs
    rw [List.append_nil] at this
    exact this
end Lb
set_option Elab.async false
set_option maxRecDepth 100000
set_option maxHeartbeats 2000000
/-! # right: its helpers' promises and readings -/
namespace Lb
open PySem PySem.Spec PyProof.Rows L2 Evl

def spIsR (K : PySem.W.Frag) (C : Addr) : Sp := fun vs H Q _ => ∃ (n : Int) (p q : Addr) (ks : List Bk) (fs : List Int), vs = [.int n, .ref p, .ref q] ∧ LstAt C H p ks ∧ SqL K H q (fs.map V.int) ∧ fs.length = ks.length ∧ ks.length ≤ 8 ∧
  ∃ yes : Bool, (yes = true ↔ rightP n ks fs) ∧ RetV (.bl yes) H Q
def spFirsts (K : PySem.W.Frag) : Sp := fun vs H Q _ => ∃ (q : Addr) (m : Int) (fs : List Int), vs = [.ref q, .int m] ∧ SqL K H q (fs.map V.int) ∧ fs.length ≤ 24 ∧
  RetV (.bl (decide ((fs.length : Int) = m) && fs.all fun x => decide (0 ≤ x) && decide (x ≤ 100))) H Q
/-- a number, two lists of numbers are handed in; the specification's list comes out -/
def spRight (K : PySem.W.Frag) : Sp := fun vs H Q _ => ∃ (n : Int) (a q : Addr) (ns fs : List Int), vs = [.int n, .ref a, .ref q] ∧ SqL K H a (ns.map V.int) ∧ SqL K H q (fs.map V.int) ∧ ns.length ≤ 24 ∧ fs.length ≤ 24 ∧ 0 ≤ n ∧ (∀ x ∈ ns, 0 ≤ x) ∧ (∀ x ∈ fs, 0 ≤ x) ∧
  ∀ (H' : Hp) (p : Addr), H' p = some (.lst ((PyKs437.right n ns fs).map V.int)) → Q (.ref p) H'
def spColl (C : Addr) : Sp := fun vs H Q _ => ∃ (p q : Addr) (k m : Bk) (f g : Int), vs = [.ref p, .int f, .ref q, .int g] ∧ BkAt C H p k ∧ BkAt C H q m ∧ RetV (.bl (hits k f (m, g))) H Q
def spLanes : Sp := fun vs H Q _ => ∃ n m : Int, vs = [.int n, .int m] ∧ RetV (.bl (decide (0 ≤ n) && decide (n ≤ m))) H Q
/-- slots: booking, first, other, other_first -/
def t_coll (C : Addr) : TS := tRet (tAndV (tMeth C "shares_hour_with" (spShares C) [] E0 (tVar 0) (tCons (tVar 2) tNil)) (tCall (spShare C) [] E0 (tCons (tVar 0) (tCons (tVar 1) (tCons (tVar 2) (tCons (tVar 3) tNil))))))
def t_lanes : TS := tRet (tChain rLe rLe (tC (.int 0)) (tVar 0) (tVar 1))
/-- slots: lanes, bookings, firsts, number, booking, first, earlier -/
def t_isr (K : PySem.W.Frag) (C : Addr) : TS :=
  tSeq (tFor (iEnum K (tCons (tVar 1) tNil)) (gTup K 2 (gCons (gName 3) (gCons (gName 4) gNil)))
    (tSeq (tAsg (tOp (rIxL K) (tVar 2) (tVar 3)) (gName 5))
    (tSeq (tIfS (tTest (tOp rGt (tOp rAdd (tVar 5) (tFld K (tVar 4) "wide")) (tVar 0))) (tRet (tC (.bl false))) tNext)
    (tFor (iRng1 (tCons (tVar 3) tNil)) (gName 6)
      (tIfS (tB (tCall (spColl C) [] E0 (tCons (tVar 4) (tCons (tVar 5) (tCons (tOp (rIxL K) (tVar 1) (tVar 6)) (tCons (tOp (rIxL K) (tVar 2) (tVar 6)) tNil))))))
        (tRet (tC (.bl false))) tNext)))))
  (tRet (tC (.bl true)))
/-- slots: firsts, how_many, first -/
def t_firsts (K : PySem.W.Frag) : TS :=
  tSeq (tIfS (tTest (tOp rNe (tCB (rLenS K) (tCons (tVar 0) tNil)) (tVar 1))) (tRet (tC (.bl false))) tNext)
  (tRet (tCB (rAll K) (tCons (tLc (iList K (tVar 0)) (gName 2) tYes (tChain rLe rLe (tC (.int 0)) (tVar 2) (tC (.int 100))) [2]) tNil)))
/-- slots: lanes, bookings, firsts, told -/
def t_right (K : PySem.W.Frag) (C : Addr) : TS :=
  tSeq (tIfS (tOr (tNot (tB (tCall (spAre K) [] E0 (tCons (tVar 1) tNil)))) (tNot (tB (tCall spLanes [] E0 (tCons (tVar 0) (tCons (tC (.int 24)) tNil)))))) (tRet (tLst (tCons (tUn (rU fun i => .int (-i)) (tC (.int 22))) tNil))) tNext)
  (tSeq (tAsg (tCall (spRead K C) [] E0 (tCons (tVar 1) tNil)) (gName 3))
  (tSeq (tIfS (tNot (tB (tCall (spFirsts K) [] E0 (tCons (tVar 2) (tCons (tCB (rLenS K) (tCons (tVar 3) tNil)) tNil))))) (tRet (tLst (tCons (tUn (rU fun i => .int (-i)) (tC (.int 22))) tNil))) tNext)
  (tSeq (tIfS (tB (tCall (spIsR K C) [] E0 (tCons (tVar 0) (tCons (tVar 3) (tCons (tVar 2) tNil))))) (tRet (tLst (tCons (tC (.int 1)) tNil))) tNext)
  (tRet (tLst (tCons (tC (.int 0)) tNil))))))
section
variable {K : PySem.W.Frag} {mg : Str → Option Value} {C : Addr}
theorem fget {fs : List Int} {i : Nat} (h : i < fs.length) : atI (fs.map V.int) (i : Int) = some (.int (fAt fs i)) := at_get rfl h
theorem pure_coll (vs : List V) (H : Hp) (Q : VK) (E : XK) (h : spColl C vs H Q E) : t_coll C { nx := fun _ H' => Q .non H', rt := Q } (start ["booking", "first", "other", "other_first"] vs) H := by
  obtain ⟨p, q, k, m, f, g, rfl, ⟨dx, hp⟩, hq, r⟩ := h
  exact s_ret (ev_andV (ev_meth (vs := [.ref q]) (ev_var rfl) hp (bF_shares _) (ea_cons (ev_var rfl) ea_nil) fun H1 e1 Q' q' E' => ⟨p, q, k, m, rfl, ⟨dx, e1 _ _ hp⟩, hq.mono e1, fun H2 e2 => q' H2 e2⟩)
    (fun _ => ev_call (vs := [.ref p, .int f, .ref q, .int g]) (ea_cons (ev_var rfl) (ea_cons (ev_var rfl) (ea_cons (ev_var rfl) (ea_cons (ev_var rfl) ea_nil)))) fun H1 e1 Q' q' E' => ⟨p, q, k, m, f, g, rfl, ⟨dx, e1 _ _ hp⟩, hq.mono e1, fun H2 e2 => q' H2 e2⟩)) fun H1 e => r H1 e
theorem pure_lanes (vs : List V) (H : Hp) (Q : VK) (E : XK) (h : spLanes vs H Q E) : t_lanes { nx := fun _ H' => Q .non H', rt := Q } (start ["lanes", "most"] vs) H := by
  obtain ⟨n, m, rfl, r⟩ := h
  exact s_ret (ev_chain ev_c (ev_var (v := .int n) rfl) rv_I0 (fun _ => ev_var (v := .int m) rfl) (fun _ => rv_I0)) fun H1 e => r H1 e
theorem pure_isr (T : Txt K mg C) (vs : List V) (H : Hp) (Q : VK) (E : XK) (h : spIsR K C vs H Q E) :
    t_isr K C { nx := fun _ H' => Q .non H', rt := Q } (start ["lanes", "bookings", "firsts", "number", "booking", "first", "earlier"] vs) H := by
  obtain ⟨n, p, q, ks, fs, rfl, ⟨as, hp, hB⟩, hq, hlen, h8, yes, hyes, k⟩ := h
  have no : ∀ {H1 : Hp}, Ex H H1 → ¬ rightP n ks fs → Q (.bl false) H1 := fun {H1} e hn => by
    have z := k H1 e
    cases yes with
    | false => exact z
    | true => exact absurd (hyes.mp rfl) hn
  refine q_forE (xs := as.map V.ref) (ea_cons (ev_var rfl) ea_nil) (sq_of hp)
    (fun i σ H' => Ex H H' ∧ (∃ v3 v4 v5 v6, σ = [some (.int n), some (.ref p), some (.ref q), v3, v4, v5, v6]) ∧ ∀ m, m < i → good n ks fs m)
    (fun H1 e => ⟨e, ⟨_, _, _, _, rfl⟩, fun m hm => absurd hm (Nat.not_lt_zero _)⟩) (fun i σ H' _ P => sq_of (P.1 _ _ hp)) ?_ ?_
  · rintro i x σ H' hi ⟨e0, ⟨v3, v4, v5, v6, rfl⟩, hg⟩ H2 e2
    have e := e0.trans e2
    obtain ⟨b, hb, rfl⟩ : ∃ b, as[i]? = some b ∧ x = V.ref b := by
      rw [List.getElem?_map] at hi
      cases z : as[i]? with
      | none =>
        rw [z] at hi
        cases hi
      | some b =>
        rw [z] at hi
        exact ⟨b, rfl, (Option.some.inj hi).symm⟩
    have hil : i < as.length := (List.getElem?_eq_some_iff.mp hb).1
    have hik : i < ks.length := by rw [← hB.1]; exact hil
    have hif : i < fs.length := by omega
    obtain ⟨dx, hbo⟩ := (hB.2 i b hb).mono e
    refine q_asg (v := .int (fAt fs i)) (ev_op (ev_var (v := .ref q) rfl) (ev_var (v := .int (i : Int)) rfl) (rv_ixL (ex_l e hq) (fget hif))) fun H3 e3 => ?_
    have hb3 := e3 _ _ hbo
    have e03 := e.trans e3
    refine q_when (et_test (ev_op (ev_op (ev_var (v := .int (fAt fs i)) rfl) (ev_fld (ev_var (v := .ref b) rfl) hb3 T.cl T.nW (bF_w _)) rv_I0) (ev_var (v := .int n) rfl) rv_I0)) (fun hc H4 e4 => s_ret ev_c fun H5 e5 => ?_) (fun hc H4 e4 => ?_)
    · refine no ((e03.trans e4).trans e5) fun z => ?_
      have := of_decide_eq_true hc
      have := (z i hik).1
      omega
    have e04 := e03.trans e4
    have hfirst : fAt fs i + (bAt ks i).w ≤ n := by
      have := of_decide_eq_false hc
      omega
    refine s_forR1 (n := (i : Int)) (ea_cons (ev_var rfl) ea_nil) ⟨by omega, by omega⟩
      (fun j σ H' => Ex H H' ∧ (∃ v6, σ = [some (.int n), some (.ref p), some (.ref q), some (.int (i : Int)), some (.ref b), some (.int (fAt fs i)), v6]) ∧ ∀ m, m < j → clash ks fs i m = false)
      (fun H5 e5 => ⟨e04.trans e5, ⟨_, rfl⟩, fun m hm => absurd hm (Nat.not_lt_zero _)⟩) ?_ ?_
    · rintro j σ H5 hj ⟨e5, ⟨w6, rfl⟩, hcl⟩
      have hji : j < i := by omega
      obtain ⟨c, hc'⟩ : ∃ c, as[j]? = some c := ⟨_, List.getElem?_eq_getElem (by omega)⟩
      have hcx : atI (as.map V.ref) (j : Int) = some (.ref c) := at_of rfl (by rw [List.getElem?_map, hc'] <;> rfl)
      have hbi := (hB.2 i b hb).mono e5
      have hcj := (hB.2 j c hc').mono e5
      refine s_when (b := clash ks fs i j) (et_B (ev_call (vs := [.ref b, .int (fAt fs i), .ref c, .int (fAt fs j)]) (ea_cons (ev_var rfl) (ea_cons (ev_var rfl) (ea_cons (ev_op (ev_var (v := .ref p) rfl) (ev_var (v := .int (j : Int)) rfl) (rv_ixL (sq_of (e5 _ _ hp)) hcx)) (ea_cons (ev_op (ev_var (v := .ref q) rfl) (ev_var (v := .int (j : Int)) rfl) (rv_ixL (ex_l e5 hq) (fget (by omega)))) ea_nil))))
        fun H7 e7 Q' q' E' => ⟨b, c, _, _, _, _, rfl, hbi.mono e7, hcj.mono e7, fun H8 e8 => q' H8 e8⟩)) (fun hb' H7 e7 => s_ret ev_c fun H8 e8 => ?_) (fun hb' H7 e7 => ?_)
      · refine no ((e5.trans e7).trans e8) fun z => ?_
        have := (z i hik).2 j hji
        rw [hb'] at this
        cases this
      · refine ⟨e5.trans e7, ⟨_, rfl⟩, fun m hm => ?_⟩
        by_cases z : m < j
        · exact hcl m z
        · have : m = j := by omega
          subst this
          exact hb'
    · rintro σ H5 ⟨e5, ⟨w6, rfl⟩, hcl⟩
      refine ⟨e5, ⟨_, _, _, _, rfl⟩, fun m hm => ?_⟩
      by_cases z : m < i
      · exact hg m z
      · have : m = i := by omega
        subst this
        exact ⟨hfirst, fun j hj => hcl j (by omega)⟩
  · rintro σ H1 ⟨e, ⟨v3, v4, v5, v6, rfl⟩, hg⟩
    refine s_ret ev_c fun H2 e2 => ?_
    have y : yes = true := hyes.mpr fun m hm => hg m (by rw [List.length_map, hB.1]; exact hm)
    have z := k H2 (e.trans e2)
    rw [y] at z
    exact z
theorem pure_firsts (vs : List V) (H : Hp) (Q : VK) (E : XK) (h : spFirsts K vs H Q E) : t_firsts K { nx := fun _ H' => Q .non H', rt := Q } (start ["firsts", "how_many", "first"] vs) H := by
  obtain ⟨q, m, fs, rfl, hq, h24, k⟩ := h
  have hl : ((fs.map V.int).length : Int) = (fs.length : Int) := by rw [List.length_map]
  have hlen : Ev (tCB (rLenS K) (tCons (tVar 0) tNil)) (start ["firsts", "how_many", "first"] [V.ref q, V.int m]) H (.int (fs.length : Int)) := ev_is (ev_len (ev_var rfl) hq) (by rw [hl])
  refine q_when (et_test (ev_op hlen (ev_var (v := .int m) rfl) (rv_ne rfl))) (fun hb H1 e1 => s_ret ev_c fun H2 e2 => ?_) (fun hb H1 e1 => ?_)
  · have hne : ¬ (fs.length : Int) = m := by
      intro z
      rw [z] at hb
      simp at hb
    have z := k H2 (e1.trans e2)
    rw [decide_eq_false hne] at z
    exact z
  have he : (fs.length : Int) = m := by
    simp at hb
    exact hb
  have hx : given (fs.map V.int).length (fun _ => true) (fun i => V.bl (decide (0 ≤ fAt fs i) && decide (fAt fs i ≤ 100))) = (fs.map fun x => decide (0 ≤ x) && decide (x ≤ 100)).map V.bl := by
    refine given_all (by simp) fun i x hi => ?_
    rw [List.getElem?_map, List.getElem?_map] at hi
    cases z : fs[i]? with
    | none =>
      rw [z] at hi
      cases hi
    | some y =>
      rw [z] at hi
      have ey : fAt fs i = y := by
        unfold fAt
        rw [List.getD_eq_getElem?_getD, z]
        rfl
      show V.bl (decide (0 ≤ fAt fs i) && decide (fAt fs i ≤ 100)) = x
      rw [ey]
      exact Option.some.inj hi
  have z := el_lcL (K := K) (te := tChain rLe rLe (tC (.int 0)) (tVar 2) (tC (.int 100))) (t := tYes) (vs := [2]) (j := 2) (σ := start ["firsts", "how_many", "first"] [V.ref q, V.int m]) (H := H1) (tl := tVar 0) (fun _ => true) (fun i => V.bl (decide (0 ≤ fAt fs i) && decide (fAt fs i ≤ 100))) (ev_var rfl) (ex_l e1 hq)
    (by rw [List.length_map]; omega) (fun _ => rfl) (fun i x H4 e4 hi H5 e5 Q' q => q H5 (Ex.refl H5)) (fun i x H4 e4 hi _ => by
      rw [List.getElem?_map] at hi
      cases z : fs[i]? with
      | none =>
        rw [z] at hi
        cases hi
      | some y =>
        rw [z] at hi
        obtain rfl := Option.some.inj hi
        have ey : fAt fs i = y := by
          unfold fAt
          rw [List.getD_eq_getElem?_getD, z]
          rfl
        rw [ey]
        exact ev_chain ev_c (ev_var (v := .int y) rfl) rv_I0 (fun _ => ev_c) (fun _ => rv_I0))
  rw [hx] at z
  refine s_ret (ev_allN z) fun H4 e4 => ?_
  have y := k H4 (e1.trans e4)
  rw [decide_eq_true he, Bool.true_and] at y
  rw [List.all_map]
  exact y
theorem pure_right (vs : List V) (H : Hp) (Q : VK) (E : XK) (h : spRight K vs H Q E) : t_right K C { nx := fun _ H' => Q .non H', rt := Q } (start ["lanes", "bookings", "firsts", "told"] vs) H := by
  obtain ⟨n, a, q, ns, fs, rfl, ha, hq, h24, hf24, hn, hns, hfs, k⟩ := h
  obtain ⟨yes, hyes⟩ : ∃ yes : Bool, (yes = true ↔ rightP n (chunk ns) fs) := by
    rcases Classical.em (rightP n (chunk ns) fs) with h | h
    · exact ⟨true, fun _ => h, fun _ => rfl⟩
    · exact ⟨false, fun z => Bool.noConfusion z, fun z => absurd z h⟩
  have neg : ∀ {σ : L2.St} {H : Hp}, EvL (tLst (tCons (tUn (rU fun i => .int (-i)) (tC (.int 22))) tNil)) σ H [.int (-22)] := fun {σ H} => el_lst (ea_cons (ev_un ev_c ru_neg) ea_nil) (by decide)
  refine q_when (b := !okNs ns || !(decide (0 ≤ n) && decide (n ≤ 24))) (et_or (et_not (et_B (ev_call (vs := [.ref a]) (ea_cons (ev_var rfl) ea_nil) fun H1 e1 Q' q' E' => ⟨a, ns, rfl, ex_l e1 ha, h24, fun H2 e2 => q' H2 e2⟩)))
    (fun _ => et_not (et_B (ev_call (vs := [.int n, .int 24]) (ea_cons (ev_var rfl) (ea_cons ev_c ea_nil)) fun H1 e1 Q' q' E' => ⟨n, 24, rfl, fun H2 e2 => q' H2 e2⟩)))) (fun hb H1 e1 => s_retL neg fun p H2 hp e2 h2 => ?_) (fun hb H1 e1 => ?_)
  · have r := right_is hn hns hfs (yes := yes) (fun _ _ => hyes)
    refine k H2 p ?_
    rw [h2, r]
    have c : ¬ (okNs ns && decide (0 ≤ n ∧ n ≤ 24)) = true := by
      intro z
      obtain ⟨z1, z2⟩ := Bool.and_eq_true_iff.mp z
      have z3 := of_decide_eq_true z2
      rw [z1, decide_eq_true z3.1, decide_eq_true z3.2] at hb
      cases hb
    unfold rightA
    rw [if_neg c]
    rfl
  have hb' := Bool.or_eq_false_iff.mp hb
  have hok : okNs ns = true := by simpa using hb'.1
  have hn24 : 0 ≤ n ∧ n ≤ 24 := by simpa using hb'.2
  have hk := okNs_iff.mp hok
  have c1 : (okNs ns && decide (0 ≤ n ∧ n ≤ 24)) = true := by rw [hok, decide_eq_true hn24]; rfl
  refine ⟨_, rfl, a, ns, rfl, ex_l e1 ha, hk.1, h24, fun p H2 hp e2 hL => ?_⟩
  have e02 := e1.trans e2
  obtain ⟨as, hpl, hB⟩ := hL
  have hcl : ((as.map V.ref).length : Int) = ((chunk ns).length : Int) := by rw [List.length_map, hB.1]
  have hlen : Ev (tCB (rLenS K) (tCons (tVar 3) tNil)) [some (.int n), some (.ref a), some (.ref q), some (.ref p)] H2 (.int ((chunk ns).length : Int)) := ev_is (ev_len (ev_var rfl) (sq_of hpl)) (by rw [hcl])
  have c8 : (chunk ns).length ≤ 8 := by rw [chunk_len]; omega
  refine q_when (et_not (et_B (ev_call (vs := [.ref q, .int ((chunk ns).length : Int)]) (ea_cons (ev_var rfl) (ea_cons hlen ea_nil)) fun H3 e3 Q' q' E' => ⟨q, _, fs, rfl, ex_l (e02.trans e3) hq, hf24, fun H4 e4 => q' H4 e4⟩)))
    (fun hb H3 e3 => s_retL neg fun p' H4 hp' e4 h4 => ?_) (fun hb H3 e3 => ?_)
  · have r := right_is hn hns hfs (yes := yes) (fun _ _ => hyes)
    refine k H4 p' ?_
    rw [h4, r]
    have c2 : ¬ (decide (fs.length = (chunk ns).length) && fs.all fun x => decide (0 ≤ x) && decide (x ≤ 100)) = true := by
      intro z
      have d : decide ((fs.length : Int) = ((chunk ns).length : Int)) = decide (fs.length = (chunk ns).length) := decide_eq_decide.mpr (by omega)
      rw [d, z] at hb
      cases hb
    unfold rightA
    rw [if_pos c1, if_neg c2]
    rfl
  have d : decide ((fs.length : Int) = ((chunk ns).length : Int)) = decide (fs.length = (chunk ns).length) := decide_eq_decide.mpr (by omega)
  have c2 : (decide (fs.length = (chunk ns).length) && fs.all fun x => decide (0 ≤ x) && decide (x ≤ 100)) = true := by
    rw [d] at hb
    simpa using hb
  have hfl : fs.length = (chunk ns).length := of_decide_eq_true (Bool.and_eq_true_iff.mp c2).1
  have e03 := e02.trans e3
  refine q_when (b := yes) (et_B (ev_call (vs := [.int n, .ref p, .ref q]) (ea_cons (ev_var rfl) (ea_cons (ev_var rfl) (ea_cons (ev_var rfl) ea_nil))) fun H4 e4 Q' q' E' =>
    ⟨n, p, q, chunk ns, fs, rfl, ⟨as, e4 _ _ (e3 _ _ hpl), hB.mono (e3.trans e4)⟩, ex_l (e03.trans e4) hq, hfl, c8, yes, hyes, fun H5 e5 => q' H5 e5⟩)) (fun hb' H4 e4 => s_retL (el_lst (ea_cons ev_c ea_nil) (by decide)) fun p' H5 hp' e5 h5 => ?_)
    (fun hb' H4 e4 => s_retL (el_lst (ea_cons ev_c ea_nil) (by decide)) fun p' H5 hp' e5 h5 => ?_)
  · have r := right_is hn hns hfs (yes := yes) (fun _ _ => hyes)
    refine k H5 p' ?_
    rw [h5, r, hb']
    unfold rightA
    rw [if_pos c1, if_pos c2]
    rfl
  · have r := right_is hn hns hfs (yes := yes) (fun _ _ => hyes)
    refine k H5 p' ?_
    rw [h5, r, hb']
    unfold rightA
    rw [if_pos c1, if_pos c2]
    rfl
end
end Lb
set_option Elab.async false
set_option maxRecDepth 100000
set_option maxHeartbeats 2000000

/-! # The program's text: each def holds its promise -/
namespace Lb
open PySem PySem.Spec PyProof.Rows L2 Evl
open PySem.W (Codec)
def top (i : Nat) : Stmt := PySem.Challenge.pw_lanebookings_s01_right.main.body.getD i (.Pass ⟨0, 0, 0, 0⟩)
abbrev sInit : Stmt := inClass (top 7) 0
abbrev sWidth : Stmt := top 6
abbrev sTold : Stmt := inClass (top 7) 1
abbrev sShares : Stmt := inClass (top 7) 3
abbrev sRead : Stmt := top 8
abbrev sAre : Stmt := top 9
abbrev sShare : Stmt := top 11
abbrev sColl : Stmt := top 12
abbrev sIsR : Stmt := top 13
abbrev sLanes : Stmt := top 17
abbrev sFirsts : Stmt := top 18
abbrev sRight : Stmt := top 19
theorem scInit : FnScope ["self", "begin", "end", "wide"] ["self", "begin", "end", "wide"] (defScope sInit) := ⟨rfl, rfl, rfl, by decide +kernel, rfl, by decide +kernel, by decide +kernel⟩
theorem scWidth : FnScope ["wide"] ["wide"] (defScope sWidth) := ⟨rfl, rfl, rfl, by decide +kernel, rfl, by decide +kernel, by decide +kernel⟩
theorem scTold : FnScope ["self"] ["self"] (defScope sTold) := ⟨rfl, rfl, rfl, by decide +kernel, rfl, by decide +kernel, by decide +kernel⟩
theorem scShares : FnScope ["self", "other"] ["self", "other"] (defScope sShares) := ⟨rfl, rfl, rfl, by decide +kernel, rfl, by decide +kernel, by decide +kernel⟩
theorem scRead : FnScope ["numbers", "at"] ["numbers"] (defScope sRead) := ⟨rfl, rfl, rfl, by decide +kernel, rfl, by decide +kernel, by decide +kernel⟩
theorem scAre : FnScope ["numbers", "booking"] ["numbers"] (defScope sAre) := ⟨rfl, rfl, rfl, by decide +kernel, rfl, by decide +kernel, by decide +kernel⟩
theorem scShare : FnScope ["booking", "first", "other", "other_first"] ["booking", "first", "other", "other_first"] (defScope sShare) := ⟨rfl, rfl, rfl, by decide +kernel, rfl, by decide +kernel, by decide +kernel⟩
theorem scColl : FnScope ["booking", "first", "other", "other_first"] ["booking", "first", "other", "other_first"] (defScope sColl) := ⟨rfl, rfl, rfl, by decide +kernel, rfl, by decide +kernel, by decide +kernel⟩
theorem scIsR : FnScope ["lanes", "bookings", "firsts", "number", "booking", "first", "earlier"] ["lanes", "bookings", "firsts"] (defScope sIsR) := ⟨rfl, rfl, rfl, by decide +kernel, rfl, by decide +kernel, by decide +kernel⟩
theorem scLanes : FnScope ["lanes", "most"] ["lanes", "most"] (defScope sLanes) := ⟨rfl, rfl, rfl, by decide +kernel, rfl, by decide +kernel, by decide +kernel⟩
theorem scFirsts : FnScope ["firsts", "how_many", "first"] ["firsts", "how_many"] (defScope sFirsts) := ⟨rfl, rfl, rfl, by decide +kernel, rfl, by decide +kernel, by decide +kernel⟩
theorem scRight : FnScope ["lanes", "bookings", "firsts", "told"] ["lanes", "bookings", "firsts"] (defScope sRight) := ⟨rfl, rfl, rfl, by decide +kernel, rfl, by decide +kernel, by decide +kernel⟩
theorem boot_all : bootBuiltins "all" = some (.builtin "all") := by decide +kernel
section
variable {P : Program} {w : World} {K : PySem.W.Frag} {mg : Str → Option Value} {base : Heap} {C : Addr}
theorem ok_init {f : Addr} {fd : FuncData} (F : Fun K "__init__" "Booking.__init__" sInit f fd) (T : Txt K mg C) : FnOk P w K mg base CX0 1 f fd ["self", "begin", "end", "wide"] (spInit C) := by
  refine F.ok scInit (fun vs H Q E h => ?_) (fun cdv A outer s H vs Q E hr h => ⟨t_init K, ?_, pure_init T vs H Q E h⟩)
  · obtain ⟨p, dx, b, e, w, rfl, _⟩ := h
    rfl
  · exact pss_cons (ps_fld (pv 0) (pv 1) rfl) (pss_cons (ps_fld (pv 0) (pv 2) rfl) (pss_one (ps_fld (pv 0) (pv 3) rfl)))
theorem ok_width {f : Addr} {fd : FuncData} (F : Fun K "is_width_as_told" "is_width_as_told" sWidth f fd) (T : Txt K mg C) : FnOk P w K mg base CX0 1 f fd ["wide"] spWidth := by
  refine F.ok scWidth (fun vs H Q E h => ?_) (fun cdv A outer s H vs Q E hr h => ⟨t_width, ?_, pure_width vs H Q E h⟩)
  · obtain ⟨w, rfl, _⟩ := h
    rfl
  · exact pss_one (ps_ret (pe_chain op_le op_le pe_int (pv 0) (pe_num T.wid rfl)))
theorem ok_told {f fW : Addr} {fd fdW : FuncData} (F : Fun K "is_as_told" "Booking.is_as_told" sTold f fd) (T : Txt K mg C) (gW : mg "is_width_as_told" = some (.ref fW)) (kW : PySem.W.keepIn K (.ref fW) = true)
    (GW : FnOk P w K mg base CX0 1 fW fdW ["wide"] spWidth) (bW : Binds K fdW ["wide"] []) : FnOk P w K mg base CX0 2 f fd ["self"] (spTold C) := by
  refine F.ok scTold (fun vs H Q E h => ?_) (fun cdv A outer s H vs Q E hr h => ⟨t_told K, ?_, pure_told T vs H Q E h⟩)
  · obtain ⟨p, k, rfl, _⟩ := h
    rfl
  · exact pss_one (ps_ret (pe_and (pe_chain3 op_le op_lt op_le pe_int (pe_fld (pv 0) rfl) (pe_fld (pv 0) rfl) (pe_num T.lae rfl)) (pe_one (pe_call GW hr rfl gW kW bW .nil pass0 (pa_cons (pe_fld (pv 0) rfl) pa_nil)))))
theorem ok_shares {f : Addr} {fd : FuncData} (F : Fun K "shares_hour_with" "Booking.shares_hour_with" sShares f fd) (T : Txt K mg C) : FnOk P w K mg base CX0 1 f fd ["self", "other"] (spShares C) := by
  refine F.ok scShares (fun vs H Q E h => ?_) (fun cdv A outer s H vs Q E hr h => ⟨t_shares K, ?_, pure_shares T vs H Q E h⟩)
  · obtain ⟨p, q, k, m, rfl, _⟩ := h
    rfl
  · exact pss_one (ps_ret (pe_and (pe_cmpR op_lt (pe_fld (pv 0) rfl) (pe_fld (pv 1) rfl) (nomark _)) (pe_one (pe_cmpR op_lt (pe_fld (pv 1) rfl) (pe_fld (pv 0) rfl) (nomark _)))))
theorem ok_read {f fI : Addr} {fd fdI : FuncData} (F : Fun K "read_bookings" "read_bookings" sRead f fd) (T : Txt K mg C) (M : Mk K C fI) (bI : Binds K fdI ["self", "begin", "end", "wide"] [])
    (FI : Fun K "__init__" "Booking.__init__" sInit fI fdI) : FnOk P w K mg base CX0 3 f fd ["numbers"] (spRead K C) := by
  have GI : FnOk P w K mg base CX0 1 fI fdI ["self", "begin", "end", "wide"] (spInit C) := ok_init FI T
  refine F.ok scRead (fun vs H Q E h => ?_) (fun cdv A outer s H vs Q E hr h => ⟨t_read K C, ?_, pure_read vs H Q E h⟩)
  · obtain ⟨a, ns, rfl, _⟩ := h
    rfl
  · exact pss_one (ps_ret (pe_lc (own := [("at", 1)]) (g := gName 1) rfl scRead.nd
      (pi_range3 rfl T.rng (pa_cons pe_int (pa_cons (pe_callB call_len_seq (by rfl) T.len PySem.boot_len (pa_cons (pv 0) pa_nil)) (pa_cons (pe_num T.noe rfl) pa_nil))))
      (blkOk_by (own := [("at", 1)]) (N := ["numbers", "at"]) (sc := defScope sRead) (by decide +kernel))
      (fun _ _ _ _ _ => pg_name (i := 1) scRead.nd rfl (Or.inl rfl)) (fun _ _ _ _ _ => pts_nil)
      (fun _ _ _ _ _ => pe_make M GI hr rfl T.gC bI .nil pass0 (pa_cons (pe_ix ix_list (pv 0) (pv 1) (fun _ _ => rfl)) (pa_cons (pe_ix ix_list (pv 0) (pe_op op_add (pv 1) pe_int) (fun _ _ => rfl)) (pa_cons (pe_ix ix_list (pv 0) (pe_op op_add (pv 1) pe_int) (fun _ _ => rfl)) pa_nil))))))
theorem ok_are {f fR fT : Addr} {fd fdR fdT : FuncData} (F : Fun K "are_as_told" "are_as_told" sAre f fd) (T : Txt K mg C) (gR : mg "read_bookings" = some (.ref fR)) (kR : PySem.W.keepIn K (.ref fR) = true)
    (GR : FnOk P w K mg base CX0 3 fR fdR ["numbers"] (spRead K C)) (bR : Binds K fdR ["numbers"] []) (GT : FnOk P w K mg base CX0 2 fT fdT ["self"] (spTold C)) (bT : Binds K fdT ["self"] []) (mT : Meth K C "is_as_told" fT) :
    FnOk P w K mg base CX0 4 f fd ["numbers"] (spAre K) := by
  refine F.ok scAre (fun vs H Q E h => ?_) (fun cdv A outer s H vs Q E hr h => ⟨t_are K C, ?_, pure_are vs H Q E h⟩)
  · obtain ⟨a, ns, rfl, _⟩ := h
    rfl
  · have hr1 : Room 2 _ := hr.mono (by decide)
    exact pss_cons (ps_if (pt_cmpR op_ne (pe_op op_mod (pe_callB call_len_seq (by rfl) T.len PySem.boot_len (pa_cons (pv 0) pa_nil)) (pe_num T.noe rfl)) pe_int (nomark _)) (pss_one (ps_ret pe_bl)) pss_nil)
      (pss_cons (ps_if (pt_cmpR op_gt (pe_callB call_len_seq (by rfl) T.len PySem.boot_len (pa_cons (pv 0) pa_nil)) (pe_op op_mul (pe_num T.noe rfl) (pe_num T.mob rfl)) (nomark _)) (pss_one (ps_ret pe_bl)) pss_nil)
      (pss_one (ps_ret (pe_callB (cr_all rfl) (by rfl) T.all boot_all (pa_cons (pe_lc (own := [("booking", 1)]) (g := gName 1) rfl scAre.nd
        (pi_list (pe_call GR hr rfl gR kR bR .nil pass0 (pa_cons (pv 0) pa_nil)))
        (blkOk_by (own := [("booking", 1)]) (N := ["numbers", "booking"]) (sc := defScope sAre) (by decide +kernel))
        (fun _ _ _ _ _ => pg_name (i := 1) scAre.nd rfl (Or.inl rfl)) (fun _ _ _ _ _ => pts_nil)
        (fun _ _ _ _ _ => pe_meth0 (pv 1) T.cl mT GT hr1 bT .nil pass0)) pa_nil)))))
theorem ok_share {f : Addr} {fd : FuncData} (F : Fun K "share_lane" "share_lane" sShare f fd) (T : Txt K mg C) : FnOk P w K mg base CX0 1 f fd ["booking", "first", "other", "other_first"] (spShare C) := by
  refine F.ok scShare (fun vs H Q E h => ?_) (fun cdv A outer s H vs Q E hr h => ⟨t_share K, ?_, pure_share T vs H Q E h⟩)
  · obtain ⟨p, q, k, m, f, g, rfl, _⟩ := h
    rfl
  · exact pss_one (ps_ret (pe_and (pe_cmpR op_lt (pv 1) (pe_op op_add (pv 3) (pe_fld (pv 2) rfl)) (nomark _)) (pe_one (pe_cmpR op_lt (pv 3) (pe_op op_add (pv 1) (pe_fld (pv 0) rfl)) (nomark _)))))
theorem ok_coll {f fS fL : Addr} {fd fdS fdL : FuncData} (F : Fun K "collide" "collide" sColl f fd) (T : Txt K mg C) (gL : mg "share_lane" = some (.ref fL)) (kL : PySem.W.keepIn K (.ref fL) = true)
    (GL : FnOk P w K mg base CX0 1 fL fdL ["booking", "first", "other", "other_first"] (spShare C)) (bL : Binds K fdL ["booking", "first", "other", "other_first"] []) (GS : FnOk P w K mg base CX0 1 fS fdS ["self", "other"] (spShares C)) (bS : Binds K fdS ["self", "other"] []) (mS : Meth K C "shares_hour_with" fS) :
    FnOk P w K mg base CX0 2 f fd ["booking", "first", "other", "other_first"] (spColl C) := by
  refine F.ok scColl (fun vs H Q E h => ?_) (fun cdv A outer s H vs Q E hr h => ⟨t_coll C, ?_, pure_coll vs H Q E h⟩)
  · obtain ⟨p, q, k, m, f, g, rfl, _⟩ := h
    rfl
  · exact pss_one (ps_ret (pe_and (pe_meth (pv 0) T.cl mS GS hr bS .nil pass0 (pa_cons (pv 2) pa_nil)) (pe_one (pe_call GL hr rfl gL kL bL .nil pass0 (pa_cons (pv 0) (pa_cons (pv 1) (pa_cons (pv 2) (pa_cons (pv 3) pa_nil))))))))
theorem ok_isr {f fO : Addr} {fd fdO : FuncData} (F : Fun K "is_right" "is_right" sIsR f fd) (T : Txt K mg C) (nenu : mg "enumerate" = none) (gO : mg "collide" = some (.ref fO)) (kO : PySem.W.keepIn K (.ref fO) = true)
    (GO : FnOk P w K mg base CX0 2 fO fdO ["booking", "first", "other", "other_first"] (spColl C)) (bO : Binds K fdO ["booking", "first", "other", "other_first"] []) : FnOk P w K mg base CX0 3 f fd ["lanes", "bookings", "firsts"] (spIsR K C) := by
  refine F.ok scIsR (fun vs H Q E h => ?_) (fun cdv A outer s H vs Q E hr h => ⟨t_isr K C, ?_, pure_isr T vs H Q E h⟩)
  · obtain ⟨n, p, q, ks, fs, rfl, _⟩ := h
    rfl
  · exact pss_cons (ps_for PassesOwn.never rfl (pi_enum (by rfl) nenu (pa_cons (pv 1) pa_nil)) (pg_tup rfl (pgs_cons (pg_name (i := 3) scIsR.nd rfl (Or.inl rfl)) (pgs_cons (pg_name (i := 4) scIsR.nd rfl (Or.inl rfl)) pgs_nil)))
        (pss_cons (ps_set (i := 5) scIsR.nd rfl (Or.inl rfl) (pe_ix ix_list (pv 2) (pv 3) (fun _ _ => rfl)))
        (pss_cons (ps_if (pt_cmpR op_gt (pe_op op_add (pv 5) (pe_fld (pv 4) rfl)) (pv 0) (nomark _)) (pss_one (ps_ret pe_bl)) pss_nil)
        (pss_one (ps_for PassesOwn.never rfl (pi_range1 rfl T.rng (pa_cons (pv 3) pa_nil)) (pg_name (i := 6) scIsR.nd rfl (Or.inl rfl))
          (pss_one (ps_if (pt_val (pe_call GO hr rfl gO kO bO .nil pass0 (pa_cons (pv 4) (pa_cons (pv 5) (pa_cons (pe_ix ix_list (pv 1) (pv 6) (fun _ _ => rfl)) (pa_cons (pe_ix ix_list (pv 2) (pv 6) (fun _ _ => rfl)) pa_nil))))))
            (pss_one (ps_ret pe_bl)) pss_nil)))))))
      (pss_one (ps_ret pe_bl))
theorem ok_lanes {f : Addr} {fd : FuncData} (F : Fun K "are_lanes_as_told" "are_lanes_as_told" sLanes f fd) : FnOk P w K mg base CX0 1 f fd ["lanes", "most"] spLanes := by
  refine F.ok scLanes (fun vs H Q E h => ?_) (fun cdv A outer s H vs Q E hr h => ⟨t_lanes, ?_, pure_lanes vs H Q E h⟩)
  · obtain ⟨n, m, rfl, _⟩ := h
    rfl
  · exact pss_one (ps_ret (pe_chain op_le op_le pe_int (pv 0) (pv 1)))
theorem ok_firsts {f : Addr} {fd : FuncData} (F : Fun K "are_firsts_as_told" "are_firsts_as_told" sFirsts f fd) (T : Txt K mg C) (mof : Num mg "MOST_FIRST" 100) : FnOk P w K mg base CX0 1 f fd ["firsts", "how_many"] (spFirsts K) := by
  refine F.ok scFirsts (fun vs H Q E h => ?_) (fun cdv A outer s H vs Q E hr h => ⟨t_firsts K, ?_, pure_firsts vs H Q E h⟩)
  · obtain ⟨q, m, fs, rfl, _⟩ := h
    rfl
  · exact pss_cons (ps_if (pt_cmpR op_ne (pe_callB call_len_seq (by rfl) T.len PySem.boot_len (pa_cons (pv 0) pa_nil)) (pv 1) (nomark _)) (pss_one (ps_ret pe_bl)) pss_nil)
      (pss_one (ps_ret (pe_callB (cr_all rfl) (by rfl) T.all boot_all (pa_cons (pe_lc (own := [("first", 2)]) (g := gName 2) rfl scFirsts.nd
        (pi_list (pv 0))
        (blkOk_by (own := [("first", 2)]) (N := ["firsts", "how_many", "first"]) (sc := defScope sFirsts) (by decide +kernel))
        (fun _ _ _ _ _ => pg_name (i := 2) scFirsts.nd rfl (Or.inl rfl)) (fun _ _ _ _ _ => pts_nil)
        (fun _ _ _ _ _ => pe_chain op_le op_le pe_int (pv 2) (pe_num mof rfl))) pa_nil))))
theorem ok_right {f fA fR fF fI fN : Addr} {fd fdA fdR fdF fdI fdN : FuncData} (F : Fun K "right" "right" sRight f fd) (T : Txt K mg C)
    (gA : mg "are_as_told" = some (.ref fA)) (kA : PySem.W.keepIn K (.ref fA) = true) (GA : FnOk P w K mg base CX0 4 fA fdA ["numbers"] (spAre K)) (bA : Binds K fdA ["numbers"] [])
    (gN : mg "are_lanes_as_told" = some (.ref fN)) (kN : PySem.W.keepIn K (.ref fN) = true) (GN : FnOk P w K mg base CX0 1 fN fdN ["lanes", "most"] spLanes) (bN : Binds K fdN ["lanes", "most"] []) (mol : Num mg "MOST_LANES" 24)
    (gR : mg "read_bookings" = some (.ref fR)) (kR : PySem.W.keepIn K (.ref fR) = true) (GR : FnOk P w K mg base CX0 3 fR fdR ["numbers"] (spRead K C)) (bR : Binds K fdR ["numbers"] [])
    (gF : mg "are_firsts_as_told" = some (.ref fF)) (kF : PySem.W.keepIn K (.ref fF) = true) (GF : FnOk P w K mg base CX0 1 fF fdF ["firsts", "how_many"] (spFirsts K)) (bF : Binds K fdF ["firsts", "how_many"] [])
    (gI : mg "is_right" = some (.ref fI)) (kI : PySem.W.keepIn K (.ref fI) = true) (GI : FnOk P w K mg base CX0 3 fI fdI ["lanes", "bookings", "firsts"] (spIsR K C)) (bI : Binds K fdI ["lanes", "bookings", "firsts"] []) :
    FnOk P w K mg base CX0 5 f fd ["lanes", "bookings", "firsts"] (spRight K) := by
  refine F.ok scRight (fun vs H Q E h => ?_) (fun cdv A outer s H vs Q E hr h => ⟨t_right K C, ?_, pure_right vs H Q E h⟩)
  · obtain ⟨n, a, q, ns, fs, rfl, _⟩ := h
    rfl
  · have hr1 : Room 1 _ := hr.mono (by decide)
    have hr3 : Room 3 _ := hr.mono (by decide)
    exact pss_cons (ps_if (PW.pt (pw_or (pt_not (pt_val (pe_call GA hr rfl gA kA bA .nil pass0 (pa_cons (pv 1) pa_nil)))) (pw_or1 (pt_not (pt_val (pe_call GN hr1 rfl gN kN bN .nil pass0 (pa_cons (pv 0) (pa_cons (pe_num mol rfl) pa_nil))))))))
        (pss_one (ps_ret (pe_lst (pa_cons (pe_un un_neg pe_int) pa_nil)))) pss_nil)
      (pss_cons (ps_set (i := 3) scRight.nd rfl (Or.inl rfl) (pe_call GR hr3 rfl gR kR bR .nil pass0 (pa_cons (pv 1) pa_nil)))
      (pss_cons (ps_if (pt_not (pt_val (pe_call GF hr1 rfl gF kF bF .nil pass0 (pa_cons (pv 2) (pa_cons (pe_callB call_len_seq (by rfl) T.len PySem.boot_len (pa_cons (pv 3) pa_nil)) pa_nil)))))
        (pss_one (ps_ret (pe_lst (pa_cons (pe_un un_neg pe_int) pa_nil)))) pss_nil)
      (pss_cons (ps_if (pt_val (pe_call GI hr3 rfl gI kI bI .nil pass0 (pa_cons (pv 0) (pa_cons (pv 3) (pa_cons (pv 2) pa_nil))))) (pss_one (ps_ret (pe_lst (pa_cons pe_int pa_nil)))) pss_nil)
      (pss_one (ps_ret (pe_lst (pa_cons pe_int pa_nil)))))))
end
end Lb
set_option Elab.async false
set_option maxRecDepth 100000
set_option maxHeartbeats 2000000

namespace Lb
open PySem PySem.Spec PyProof.Rows L2 Evl
open PySem.W (Codec)
theorem all_mk {P : Program} {w : World} {K : PySem.W.Frag} {h : Heap} {mg : Str → Option Value} {fa C f1 f2 f3 f4 f5 f6 f7 f8 f9 f10 f11 f12 : Addr} (X : K.In h) (G : h.Ns mainGlobals mg) (hfa : mg "right" = some (.ref fa))
    {od1 an1 od2 an2 od3 an3 od4 an4 od5 an5 od6 an6 od7 an7 od8 an8 od9 an9 od10 an10 od11 an11 od12 an12 : Option Addr} {sl1 sl2 sl3 sl4 sl5 sl6 sl7 sl8 sl9 sl10 sl11 sl12 : Array (Option Value)} {oc1 kV1 dc1 pm1 cd1 ct1 oc2 kV2 dc2 pm2 cd2 ct2 oc3 kV3 dc3 pm3 cd3 ct3 oc4 kV4 dc4 pm4 cd4 ct4 oc5 kV5 dc5 pm5 cd5 ct5 oc6 kV6 dc6 pm6 cd6 ct6 oc7 kV7 dc7 pm7 cd7 ct7 oc8 kV8 dc8 pm8 cd8 ct8 oc9 kV9 dc9 pm9 cd9 ct9 oc10 kV10 dc10 pm10 cd10 ct10 oc11 kV11 dc11 pm11 cd11 ct11 oc12 kV12 dc12 pm12 cd12 ct12 : Value} {tk0 tk1 tk2 tk3 tk4 tk5 : Tok}
    (aC : PySem.W.nsIn K mainGlobals "Booking" = some (some (.ref C)))
    (a1 : PySem.W.findIn K (.ref C) "__init__" = some (some (.ref f1)))
    (i1 : PySem.W.isFn K (.ref f1) = true)
    (l1 : K.lookup f1 = some ⟨oc1, od1, .func (PySem.W.fnOf "__init__" "Booking.__init__" (defArgs sInit) (defBody sInit) (defScope sInit) .none kV1 dc1 pm1 an1 cd1 ct1), sl1⟩)
    (c1 : PySem.W.codeIn K cd1 "Booking.__init__" = true)
    (k1 : PySem.W.keepIn K (.ref f1) = true)
    (a2 : PySem.W.nsIn K mainGlobals "is_width_as_told" = some (some (.ref f2)))
    (l2 : K.lookup f2 = some ⟨oc2, od2, .func (PySem.W.fnOf "is_width_as_told" "is_width_as_told" (defArgs sWidth) (defBody sWidth) (defScope sWidth) .none kV2 dc2 pm2 an2 cd2 ct2), sl2⟩)
    (c2 : PySem.W.codeIn K cd2 "is_width_as_told" = true)
    (k2 : PySem.W.keepIn K (.ref f2) = true)
    (a3 : PySem.W.findIn K (.ref C) "is_as_told" = some (some (.ref f3)))
    (i3 : PySem.W.isFn K (.ref f3) = true)
    (l3 : K.lookup f3 = some ⟨oc3, od3, .func (PySem.W.fnOf "is_as_told" "Booking.is_as_told" (defArgs sTold) (defBody sTold) (defScope sTold) .none kV3 dc3 pm3 an3 cd3 ct3), sl3⟩)
    (c3 : PySem.W.codeIn K cd3 "Booking.is_as_told" = true)
    (k3 : PySem.W.keepIn K (.ref f3) = true)
    (a4 : PySem.W.findIn K (.ref C) "shares_hour_with" = some (some (.ref f4)))
    (i4 : PySem.W.isFn K (.ref f4) = true)
    (l4 : K.lookup f4 = some ⟨oc4, od4, .func (PySem.W.fnOf "shares_hour_with" "Booking.shares_hour_with" (defArgs sShares) (defBody sShares) (defScope sShares) .none kV4 dc4 pm4 an4 cd4 ct4), sl4⟩)
    (c4 : PySem.W.codeIn K cd4 "Booking.shares_hour_with" = true)
    (k4 : PySem.W.keepIn K (.ref f4) = true)
    (a5 : PySem.W.nsIn K mainGlobals "read_bookings" = some (some (.ref f5)))
    (l5 : K.lookup f5 = some ⟨oc5, od5, .func (PySem.W.fnOf "read_bookings" "read_bookings" (defArgs sRead) (defBody sRead) (defScope sRead) .none kV5 dc5 pm5 an5 cd5 ct5), sl5⟩)
    (c5 : PySem.W.codeIn K cd5 "read_bookings" = true)
    (k5 : PySem.W.keepIn K (.ref f5) = true)
    (a6 : PySem.W.nsIn K mainGlobals "are_as_told" = some (some (.ref f6)))
    (l6 : K.lookup f6 = some ⟨oc6, od6, .func (PySem.W.fnOf "are_as_told" "are_as_told" (defArgs sAre) (defBody sAre) (defScope sAre) .none kV6 dc6 pm6 an6 cd6 ct6), sl6⟩)
    (c6 : PySem.W.codeIn K cd6 "are_as_told" = true)
    (k6 : PySem.W.keepIn K (.ref f6) = true)
    (a7 : PySem.W.nsIn K mainGlobals "share_lane" = some (some (.ref f7)))
    (l7 : K.lookup f7 = some ⟨oc7, od7, .func (PySem.W.fnOf "share_lane" "share_lane" (defArgs sShare) (defBody sShare) (defScope sShare) .none kV7 dc7 pm7 an7 cd7 ct7), sl7⟩)
    (c7 : PySem.W.codeIn K cd7 "share_lane" = true)
    (k7 : PySem.W.keepIn K (.ref f7) = true)
    (a8 : PySem.W.nsIn K mainGlobals "collide" = some (some (.ref f8)))
    (l8 : K.lookup f8 = some ⟨oc8, od8, .func (PySem.W.fnOf "collide" "collide" (defArgs sColl) (defBody sColl) (defScope sColl) .none kV8 dc8 pm8 an8 cd8 ct8), sl8⟩)
    (c8 : PySem.W.codeIn K cd8 "collide" = true)
    (k8 : PySem.W.keepIn K (.ref f8) = true)
    (a9 : PySem.W.nsIn K mainGlobals "is_right" = some (some (.ref f9)))
    (l9 : K.lookup f9 = some ⟨oc9, od9, .func (PySem.W.fnOf "is_right" "is_right" (defArgs sIsR) (defBody sIsR) (defScope sIsR) .none kV9 dc9 pm9 an9 cd9 ct9), sl9⟩)
    (c9 : PySem.W.codeIn K cd9 "is_right" = true)
    (k9 : PySem.W.keepIn K (.ref f9) = true)
    (a10 : PySem.W.nsIn K mainGlobals "are_lanes_as_told" = some (some (.ref f10)))
    (l10 : K.lookup f10 = some ⟨oc10, od10, .func (PySem.W.fnOf "are_lanes_as_told" "are_lanes_as_told" (defArgs sLanes) (defBody sLanes) (defScope sLanes) .none kV10 dc10 pm10 an10 cd10 ct10), sl10⟩)
    (c10 : PySem.W.codeIn K cd10 "are_lanes_as_told" = true)
    (k10 : PySem.W.keepIn K (.ref f10) = true)
    (a11 : PySem.W.nsIn K mainGlobals "are_firsts_as_told" = some (some (.ref f11)))
    (l11 : K.lookup f11 = some ⟨oc11, od11, .func (PySem.W.fnOf "are_firsts_as_told" "are_firsts_as_told" (defArgs sFirsts) (defBody sFirsts) (defScope sFirsts) .none kV11 dc11 pm11 an11 cd11 ct11), sl11⟩)
    (c11 : PySem.W.codeIn K cd11 "are_firsts_as_told" = true)
    (k11 : PySem.W.keepIn K (.ref f11) = true)
    (a12 : PySem.W.nsIn K mainGlobals "right" = some (some (.ref f12)))
    (l12 : K.lookup f12 = some ⟨oc12, od12, .func (PySem.W.fnOf "right" "right" (defArgs sRight) (defBody sRight) (defScope sRight) .none kV12 dc12 pm12 an12 cd12 ct12), sl12⟩)
    (c12 : PySem.W.codeIn K cd12 "right" = true)
    (k12 : PySem.W.keepIn K (.ref f12) = true)
    (pg : PySem.W.plainGet K C Str.empty = true)
    (hd : PySem.W.hasDictIn K C = true)
    (po : PySem.W.plainOver K C = true)
    (sa : PySem.W.findIn K (.ref C) "__setattr__" = some (some (.builtin "object.__setattr__")))
    (mk : PySem.W.makesIn K C = true)
    (kc : PySem.W.keepIn K (.ref C) = true)
    (n_begin : PySem.W.findIn K (.ref C) "begin" = some none)
    (n_end : PySem.W.findIn K (.ref C) "end" = some none)
    (n_wide : PySem.W.findIn K (.ref C) "wide" = some none)
    (u_NUMBERS_OF_EACH : PySem.W.nsIn K mainGlobals "NUMBERS_OF_EACH" = some (some (.int 3 tk0)))
    (u_MOST_BOOKINGS : PySem.W.nsIn K mainGlobals "MOST_BOOKINGS" = some (some (.int 6 tk1)))
    (u_LAST_END : PySem.W.nsIn K mainGlobals "LAST_END" = some (some (.int 12 tk2)))
    (u_WIDEST : PySem.W.nsIn K mainGlobals "WIDEST" = some (some (.int 8 tk3)))
    (u_MOST_LANES : PySem.W.nsIn K mainGlobals "MOST_LANES" = some (some (.int 24 tk4)))
    (u_MOST_FIRST : PySem.W.nsIn K mainGlobals "MOST_FIRST" = some (some (.int 100 tk5)))
    (b_len : PySem.W.nsIn K mainGlobals "len" = some none)
    (b_all : PySem.W.nsIn K mainGlobals "all" = some none)
    (b_range : PySem.W.nsIn K mainGlobals "range" = some none)
    (b_enumerate : PySem.W.nsIn K mainGlobals "enumerate" = some none) :
    ∃ fd : FuncData, (∀ (s : Shared) (us : List Value), us.length = (["lanes", "bookings", "firsts"] : List Str).length → BindsTo s fd ⟨us, []⟩ ((["lanes", "bookings", "firsts"] : List Str).zip us)) ∧ ∀ base : Heap, K.In base → base.Ns mainGlobals mg → FnOk P w K mg base CX0 5 fa fd ["lanes", "bookings", "firsts"] (spRight K) := by
  have e := hfa.symm.trans (PySem.W.mg_of X G a12)
  cases e
  have F1 := fun_mk (st := sInit) l1 c1 k1
  have b1 := F1.binds (ps := ["self", "begin", "end", "wide"]) fun _ _ _ _ _ _ us hl => match us, hl with | [_, _, _, _], _ => rfl
  have F2 := fun_mk (st := sWidth) l2 c2 k2
  have b2 := F2.binds (ps := ["wide"]) fun _ _ _ _ _ _ us hl => match us, hl with | [_], _ => rfl
  have g2 := PySem.W.mg_of X G a2
  have F3 := fun_mk (st := sTold) l3 c3 k3
  have b3 := F3.binds (ps := ["self"]) fun _ _ _ _ _ _ us hl => match us, hl with | [_], _ => rfl
  have F4 := fun_mk (st := sShares) l4 c4 k4
  have b4 := F4.binds (ps := ["self", "other"]) fun _ _ _ _ _ _ us hl => match us, hl with | [_, _], _ => rfl
  have F5 := fun_mk (st := sRead) l5 c5 k5
  have b5 := F5.binds (ps := ["numbers"]) fun _ _ _ _ _ _ us hl => match us, hl with | [_], _ => rfl
  have g5 := PySem.W.mg_of X G a5
  have F6 := fun_mk (st := sAre) l6 c6 k6
  have b6 := F6.binds (ps := ["numbers"]) fun _ _ _ _ _ _ us hl => match us, hl with | [_], _ => rfl
  have g6 := PySem.W.mg_of X G a6
  have F7 := fun_mk (st := sShare) l7 c7 k7
  have b7 := F7.binds (ps := ["booking", "first", "other", "other_first"]) fun _ _ _ _ _ _ us hl => match us, hl with | [_, _, _, _], _ => rfl
  have g7 := PySem.W.mg_of X G a7
  have F8 := fun_mk (st := sColl) l8 c8 k8
  have b8 := F8.binds (ps := ["booking", "first", "other", "other_first"]) fun _ _ _ _ _ _ us hl => match us, hl with | [_, _, _, _], _ => rfl
  have g8 := PySem.W.mg_of X G a8
  have F9 := fun_mk (st := sIsR) l9 c9 k9
  have b9 := F9.binds (ps := ["lanes", "bookings", "firsts"]) fun _ _ _ _ _ _ us hl => match us, hl with | [_, _, _], _ => rfl
  have g9 := PySem.W.mg_of X G a9
  have F10 := fun_mk (st := sLanes) l10 c10 k10
  have b10 := F10.binds (ps := ["lanes", "most"]) fun _ _ _ _ _ _ us hl => match us, hl with | [_, _], _ => rfl
  have g10 := PySem.W.mg_of X G a10
  have F11 := fun_mk (st := sFirsts) l11 c11 k11
  have b11 := F11.binds (ps := ["firsts", "how_many"]) fun _ _ _ _ _ _ us hl => match us, hl with | [_, _], _ => rfl
  have g11 := PySem.W.mg_of X G a11
  have F12 := fun_mk (st := sRight) l12 c12 k12
  have b12 := F12.binds (ps := ["lanes", "bookings", "firsts"]) fun _ _ _ _ _ _ us hl => match us, hl with | [_, _, _], _ => rfl
  have g12 := PySem.W.mg_of X G a12
  have T : Txt K mg C := ⟨⟨pg, hd, po, sa⟩, n_begin, n_end, n_wide, PySem.W.mg_of X G aC, ⟨_, PySem.W.mg_of X G u_NUMBERS_OF_EACH⟩, ⟨_, PySem.W.mg_of X G u_MOST_BOOKINGS⟩, ⟨_, PySem.W.mg_of X G u_LAST_END⟩, ⟨_, PySem.W.mg_of X G u_WIDEST⟩, PySem.W.mg_none_of X G b_len, PySem.W.mg_none_of X G b_all, PySem.W.mg_none_of X G b_range⟩
  have fin := fun base : Heap => by
    have GR := ok_read (P := P) (w := w) (mg := mg) (base := base) F5 T ⟨mk, a1, i1, kc⟩ b1 F1
    have GWd := ok_width (P := P) (w := w) (mg := mg) (base := base) F2 T
    have GA := ok_are (P := P) (w := w) (base := base) F6 T g5 k5 GR b5 (ok_told F3 T g2 k2 GWd b2) b3 ⟨a3, i3, k3⟩
    have GO := ok_coll (P := P) (w := w) (base := base) F8 T g7 k7 (ok_share F7 T) b7 (ok_shares F4 T) b4 ⟨a4, i4, k4⟩
    have GI := ok_isr (P := P) (w := w) (base := base) F9 T (PySem.W.mg_none_of X G b_enumerate) g8 k8 GO b8
    exact ok_right (P := P) (w := w) (base := base) F12 T g6 k6 GA b6 g10 k10 (ok_lanes F10) b10 ⟨_, PySem.W.mg_of X G u_MOST_LANES⟩ g5 k5 GR b5 g11 k11 (ok_firsts F11 T ⟨_, PySem.W.mg_of X G u_MOST_FIRST⟩) b11 g9 k9 GI b9
  exact ⟨PySem.W.fnOf "right" "right" (defArgs sRight) (defBody sRight) (defScope sRight) .none kV12 dc12 pm12 an12 cd12 ct12, fun s us hu => match us, hu with | [_, _, _], _ => .of_eq rfl, fun base _ _ => fin base⟩
end Lb
open PySem PySem.W PyProof.Rows
set_option maxRecDepth 100000 in
set_option maxHeartbeats 0 in
theorem PySem.Challenge.cw_lanebookings_s01_right_holds : PySem.Challenge.rw_lanebookings_s01_right.Holds := by
  w_on; k_headS; (case hw => exact ⟨[.int 0, .list [], .list []], by decide +kernel, by decide +kernel⟩)
  k_fillS
  refine L2.walk_specK (r := PySem.Challenge.rw_lanebookings_s01_right) (k := 5) (CX := L2.CX0) (ps := ["lanes", "bookings", "firsts"]) (sp := Lb.spRight) (by decide +kernel) rfl rfl ⟨rfl, by decide, by decide⟩ (fun w h Y => PySem.W.kIn_of Y) ?F ?S (fun _ _ _ _ z => z)
  case F =>
    intro w mg fa h Y KX G hmg
    refine' Lb.all_mk KX G hmg ?aC ?a1 ?i1 ?l1 ?c1 ?k1 ?a2 ?l2 ?c2 ?k2 ?a3 ?i3 ?l3 ?c3 ?k3 ?a4 ?i4 ?l4 ?c4 ?k4 ?a5 ?l5 ?c5 ?k5 ?a6 ?l6 ?c6 ?k6 ?a7 ?l7 ?c7 ?k7 ?a8 ?l8 ?c8 ?k8 ?a9 ?l9 ?c9 ?k9 ?a10 ?l10 ?c10 ?k10 ?a11 ?l11 ?c11 ?k11 ?a12 ?l12 ?c12 ?k12 ?pg ?hd ?po ?sa ?mk ?kc ?n_begin ?n_end ?n_wide ?u_NUMBERS_OF_EACH ?u_MOST_BOOKINGS ?u_LAST_END ?u_WIDEST ?u_MOST_LANES ?u_MOST_FIRST ?b_len ?b_all ?b_range ?b_enumerate
    (case aC => k_is)
    (case a1 => k_is)
    (case i1 => k_is)
    (case l1 => k_is)
    (case c1 => k_is)
    (case k1 => k_is)
    (case a2 => k_is)
    (case l2 => k_is)
    (case c2 => k_is)
    (case k2 => k_is)
    (case a3 => k_is)
    (case i3 => k_is)
    (case l3 => k_is)
    (case c3 => k_is)
    (case k3 => k_is)
    (case a4 => k_is)
    (case i4 => k_is)
    (case l4 => k_is)
    (case c4 => k_is)
    (case k4 => k_is)
    (case a5 => k_is)
    (case l5 => k_is)
    (case c5 => k_is)
    (case k5 => k_is)
    (case a6 => k_is)
    (case l6 => k_is)
    (case c6 => k_is)
    (case k6 => k_is)
    (case a7 => k_is)
    (case l7 => k_is)
    (case c7 => k_is)
    (case k7 => k_is)
    (case a8 => k_is)
    (case l8 => k_is)
    (case c8 => k_is)
    (case k8 => k_is)
    (case a9 => k_is)
    (case l9 => k_is)
    (case c9 => k_is)
    (case k9 => k_is)
    (case a10 => k_is)
    (case l10 => k_is)
    (case c10 => k_is)
    (case k10 => k_is)
    (case a11 => k_is)
    (case l11 => k_is)
    (case c11 => k_is)
    (case k11 => k_is)
    (case a12 => k_is)
    (case l12 => k_is)
    (case c12 => k_is)
    (case k12 => k_is)
    (case pg => k_is)
    (case hd => k_is)
    (case po => k_is)
    (case sa => k_is)
    (case mk => k_is)
    (case kc => k_is)
    (case n_begin => k_is)
    (case n_end => k_is)
    (case n_wide => k_is)
    (case u_NUMBERS_OF_EACH => k_is)
    (case u_MOST_BOOKINGS => k_is)
    (case u_LAST_END => k_is)
    (case u_WIDEST => k_is)
    (case u_MOST_LANES => k_is)
    (case u_MOST_FIRST => k_is)
    (case b_len => k_is)
    (case b_all => k_is)
    (case b_range => k_is)
    (case b_enumerate => k_is)
  case S =>
    intro K H xs a hO hwi hask hx
    obtain ⟨n, ns, fs, u⟩ := a
    have q : (Codec.inInt 0 4294967295 n && ((Codec.inLen 0 24 ns && ns.all (Codec.inInt 0 4294967295)) && ((Codec.inLen 0 24 fs && fs.all (Codec.inInt 0 4294967295)) && true))) = true := hwi
    rw [Bool.and_eq_true, Bool.and_eq_true, Bool.and_eq_true, Bool.and_eq_true, Bool.and_eq_true] at q
    obtain ⟨q1, ⟨q2, q3⟩, ⟨q4, q5⟩, _⟩ := q
    cases hx with
    | cons h1 h2 =>
      cases h2 with
      | cons h2 h3 =>
        cases h3 with
        | cons h3 h4 =>
          cases h4
          cases h1
          cases h2 with
          | lst hs2 ha2 =>
            cases h3 with
            | lst hs3 ha3 =>
              have e2 := L2.ints_dw ns _ ha2
              have e3 := L2.ints_dw fs _ ha3
              subst e2 e3
              exact ⟨n, _, _, ns, fs, rfl, hs2, hs3, (Codec.inNat_iff.mp q2).2, (Codec.inNat_iff.mp q4).2, (Codec.inInt_iff.mp q1).1, fun x hx => (Codec.inInt_iff.mp (List.all_eq_true.mp q3 x hx)).1, fun x hx => (Codec.inInt_iff.mp (List.all_eq_true.mp q5 x hx)).1,
                fun H' p hp => .lst (L2.SqL.of hp) (L2.dw_ints _)⟩
#print axioms PySem.Challenge.cw_lanebookings_s01_right_holds
