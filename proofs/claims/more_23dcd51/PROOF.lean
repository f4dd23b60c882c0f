import PyProof.Rows.All
import Wide.All
import OpenK.AllK
import Wide.FinOn
import Open.SpecLaws
import KE.OsGo
import HandS.ForSpec
import HandS.Comp
import HandS.Iter
import HandS.Walk
import HandS.Evl
import KE.KSortKey
import HandS.Lambda
import KE.KItemsList
import KE.KNest
import PyKs437
import PySem.Challenge.RW_lanebookings_s05_more
/-! # The mathematics of Lanes side by side: plain Lean, over whole numbers -/
namespace Lb

structure Bk where
  b : Int
  e : Int
  w : Int

instance : Inhabited Bk := ⟨⟨0, 0, 0⟩⟩

def told (k : Bk) : Bool := (decide (0 ≤ k.b) && (decide (k.b < k.e) && decide (k.e ≤ 12))) && (decide (1 ≤ k.w) && decide (k.w ≤ 8))
def meets (x y : Bk) : Bool := decide (x.b < y.e) && decide (y.b < x.e)
def share (x : Bk) (f : Int) (y : Bk) (g : Int) : Bool := decide (f < g + y.w) && decide (g < f + x.w)
def chunk : List Int → List Bk
  | a :: b :: c :: l => ⟨a, b, c⟩ :: chunk l
  | _ => []
def okNs (ns : List Int) : Bool := decide (ns.length % 3 = 0) && decide (ns.length ≤ 18) && (chunk ns).all told
def toB (k : Bk) : Ks437.Booking := ⟨k.b.toNat, k.e.toNat, k.w.toNat⟩

theorem chunk_len : ∀ ns : List Int, (chunk ns).length = ns.length / 3
  | [] => rfl
  | [_] => by simp [chunk]
  | [_, _] => by simp [chunk]
  | a :: b :: c :: l => by
    have ih := chunk_len l
    show (chunk l).length + 1 = (l.length + 1 + 1 + 1) / 3
    omega
theorem chunk_get : ∀ (ns : List Int) (k : Nat), 3 * k + 2 < ns.length → (chunk ns)[k]? = some ⟨ns.getD (3 * k) 0, ns.getD (3 * k + 1) 0, ns.getD (3 * k + 2) 0⟩
  | [], k, h => by simp at h
  | [_], k, h => by simp at h
  | [_, _], k, h => by
    simp only [List.length_cons, List.length_nil] at h
    omega
  | a :: b :: c :: l, 0, h => rfl
  | a :: b :: c :: l, k + 1, h => by
    have ih := chunk_get l k (by simp only [List.length_cons] at h; omega)
    show (chunk l)[k]? = _
    rw [ih]
    have e1 : 3 * (k + 1) = 3 * k + 3 := by omega
    rw [e1]
    rfl
theorem bookings_of : ∀ ns : List Int, Ks437.bookingsOf (Ks437Neutral.nats ns) = (chunk ns).map toB
  | [] => rfl
  | [_] => rfl
  | [_, _] => rfl
  | a :: b :: c :: l => by
    have ih := bookings_of l
    show Ks437.Booking.mk a.toNat b.toNat c.toNat :: Ks437.bookingsOf (Ks437Neutral.nats l) = toB ⟨a, b, c⟩ :: (chunk l).map toB
    rw [ih]
    rfl
theorem mem_chunk : ∀ {ns : List Int} {k : Bk}, (∀ x ∈ ns, 0 ≤ x) → k ∈ chunk ns → 0 ≤ k.b ∧ 0 ≤ k.e ∧ 0 ≤ k.w
  | [], k, _, h => by simp [chunk] at h
  | [_], k, _, h => by simp [chunk] at h
  | [_, _], k, _, h => by simp [chunk] at h
  | a :: b :: c :: l, k, hn, h => by
    have h' : k ∈ Bk.mk a b c :: chunk l := h
    rcases List.mem_cons.mp h' with e | m
    · subst e
      exact ⟨hn a (by simp), hn b (by simp), hn c (by simp)⟩
    · exact mem_chunk (fun x hx => hn x (by simp [hx])) m
theorem told_is {k : Bk} (h1 : 0 ≤ k.b) (h2 : 0 ≤ k.e) (h3 : 0 ≤ k.w) :
    (decide ((toB k).from_ < (toB k).to_) && decide ((toB k).to_ ≤ Ks437.HOURS) && decide (1 ≤ (toB k).wide) && decide ((toB k).wide ≤ 8)) = told k := by
  have a1 : decide ((toB k).from_ < (toB k).to_) = decide (k.b < k.e) := decide_eq_decide.mpr (by simp only [toB]; omega)
  have a2 : decide ((toB k).to_ ≤ Ks437.HOURS) = decide (k.e ≤ 12) := decide_eq_decide.mpr (by simp only [toB, Ks437.HOURS]; omega)
  have a3 : decide (1 ≤ (toB k).wide) = decide (1 ≤ k.w) := decide_eq_decide.mpr (by simp only [toB]; omega)
  have a4 : decide ((toB k).wide ≤ 8) = decide (k.w ≤ 8) := decide_eq_decide.mpr (by simp only [toB]; omega)
  unfold told
  rw [a1, a2, a3, a4, decide_eq_true h1, Bool.true_and, Bool.and_assoc]
theorem all_congr {α : Type} {p q : α → Bool} : ∀ {l : List α}, (∀ x ∈ l, p x = q x) → l.all p = l.all q
  | [], _ => rfl
  | a :: l, h => by
    rw [List.all_cons, List.all_cons, h a (by simp), all_congr fun x hx => h x (by simp [hx])]
theorem ok_is {ns : List Int} (hn : ∀ x ∈ ns, 0 ≤ x) : Ks437.okBookings ns.length ((chunk ns).map toB) = okNs ns := by
  unfold Ks437.okBookings okNs
  rw [List.all_map, List.length_map, chunk_len]
  have e3 : (chunk ns).all ((fun b => decide (b.from_ < b.to_) && decide (b.to_ ≤ Ks437.HOURS) && decide (1 ≤ b.wide) && decide (b.wide ≤ 8)) ∘ toB) = (chunk ns).all told := all_congr fun k hk => by
    obtain ⟨h1, h2, h3⟩ := mem_chunk hn hk
    exact told_is h1 h2 h3
  rw [e3]
  by_cases h : ns.length % 3 = 0
  · have e1 : (ns.length % 3 == 0) = true := beq_iff_eq.mpr h
    have e2 : decide (ns.length / 3 ≤ Ks437.BOOKINGS) = decide (ns.length ≤ 18) := decide_eq_decide.mpr (by unfold Ks437.BOOKINGS; omega)
    rw [e1, e2, decide_eq_true h]
  · have e1 : (ns.length % 3 == 0) = false := beq_eq_false_iff_ne.mpr h
    rw [e1, decide_eq_false h]
    rfl
theorem told_iff {k : Bk} : told k = true ↔ 0 ≤ k.b ∧ k.b < k.e ∧ k.e ≤ 12 ∧ 1 ≤ k.w ∧ k.w ≤ 8 := by
  unfold told
  simp only [Bool.and_eq_true, decide_eq_true_eq]
  exact ⟨fun ⟨⟨a, b, c⟩, d, e⟩ => ⟨a, b, c, d, e⟩, fun ⟨a, b, c, d, e⟩ => ⟨⟨a, b, c⟩, d, e⟩⟩
theorem okNs_iff {ns : List Int} : okNs ns = true ↔ ns.length % 3 = 0 ∧ ns.length ≤ 18 ∧ ∀ k ∈ chunk ns, told k = true := by
  unfold okNs
  simp only [Bool.and_eq_true, decide_eq_true_eq, List.all_eq_true]
  exact ⟨fun ⟨⟨a, b⟩, c⟩ => ⟨a, b, c⟩, fun ⟨a, b, c⟩ => ⟨⟨a, b⟩, c⟩⟩

/-! ## right -/
def bAt (bs : List Bk) (k : Nat) : Bk := bs.getD k default
def fAt (fs : List Int) (k : Nat) : Int := fs.getD k 0
/-- the k-th booking and an earlier one clash -/
def clash (bs : List Bk) (fs : List Int) (k j : Nat) : Bool := meets (bAt bs k) (bAt bs j) && share (bAt bs k) (fAt fs k) (bAt bs j) (fAt fs j)
def good (n : Int) (bs : List Bk) (fs : List Int) (k : Nat) : Prop := fAt fs k + (bAt bs k).w ≤ n ∧ ∀ j, j < k → clash bs fs k j = false
def rightP (n : Int) (bs : List Bk) (fs : List Int) : Prop := ∀ k, k < bs.length → good n bs fs k

/-- what the specification asks of two, in the program's words -/
theorem clear_is {b c : Bk} {x y : Int} (hb : told b = true) (hc : told c = true) (hx : 0 ≤ x) (hy : 0 ≤ y) :
    Ks437.clear (toB b) (toB c) x.toNat y.toNat = true ↔ (meets c b && share c y b x) = false := by
  have hb' := told_iff.mp hb
  have hc' := told_iff.mp hc
  unfold Ks437.clear Ks437.meet meets share
  simp only [Bool.or_eq_true, Bool.not_eq_true', Bool.and_eq_false_iff, decide_eq_true_eq, decide_eq_false_iff_not]
  simp only [toB]
  omega
theorem getD_cons_succ' {α : Type} (a : α) (l : List α) (k : Nat) (d : α) : (a :: l).getD (k + 1) d = l.getD k d := rfl
theorem rightP_cons {n : Int} {b : Bk} {l : List Bk} {x : Int} {r : List Int} : rightP n (b :: l) (x :: r) ↔
    x + b.w ≤ n ∧ (∀ k, k < l.length → (meets (bAt l k) b && share (bAt l k) (fAt r k) b x) = false) ∧ rightP n l r := by
  constructor
  · intro h
    refine ⟨(h 0 (Nat.succ_pos _)).1, fun k hk => ?_, fun k hk => ⟨?_, fun j hj => ?_⟩⟩
    · exact (h (k + 1) (Nat.succ_lt_succ hk)).2 0 (Nat.succ_pos _)
    · exact (h (k + 1) (Nat.succ_lt_succ hk)).1
    · exact (h (k + 1) (Nat.succ_lt_succ hk)).2 (j + 1) (Nat.succ_lt_succ hj)
  · rintro ⟨h1, h2, h3⟩ k hk
    cases k with
    | zero => exact ⟨h1, fun j hj => absurd hj (Nat.not_lt_zero _)⟩
    | succ k =>
      have hk' : k < l.length := Nat.lt_of_succ_lt_succ hk
      refine ⟨(h3 k hk').1, fun j hj => ?_⟩
      cases j with
      | zero => exact h2 k hk'
      | succ j => exact (h3 k hk').2 j (Nat.lt_of_succ_lt_succ hj)
theorem all_zip {α β : Type} {p : α × β → Bool} {da : α} {db : β} : ∀ {l : List α} {r : List β}, l.length = r.length → ((l.zip r).all p = true ↔ ∀ k, k < l.length → p (l.getD k da, r.getD k db) = true)
  | [], [], _ => by simp
  | [], _ :: _, h => by simp at h
  | _ :: _, [], h => by simp at h
  | a :: l, c :: r, h => by
    have ih := all_zip (p := p) (da := da) (db := db) (l := l) (r := r) (by simpa using h)
    rw [List.zip_cons_cons, List.all_cons, Bool.and_eq_true, ih]
    constructor
    · rintro ⟨h1, h2⟩ k hk
      cases k with
      | zero => exact h1
      | succ k => exact h2 k (Nat.lt_of_succ_lt_succ hk)
    · intro h
      exact ⟨h 0 (Nat.succ_pos _), fun k hk => h (k + 1) (Nat.succ_lt_succ hk)⟩
theorem bAt_mem {bs : List Bk} {k : Nat} (h : k < bs.length) : bAt bs k ∈ bs := by
  unfold bAt
  rw [List.getD_eq_getElem?_getD, List.getElem?_eq_getElem h]
  exact List.getElem_mem h
theorem fAt_mem {fs : List Int} {k : Nat} (h : k < fs.length) : fAt fs k ∈ fs := by
  unfold fAt
  rw [List.getD_eq_getElem?_getD, List.getElem?_eq_getElem h]
  exact List.getElem_mem h
theorem getD_map {α β : Type} (f : α → β) (d : α) (e : β) : ∀ {l : List α} {k : Nat}, k < l.length → (l.map f).getD k e = f (l.getD k d)
  | [], _, h => absurd h (Nat.not_lt_zero _)
  | _ :: _, 0, _ => rfl
  | _ :: l, k + 1, h => getD_map f d e (l := l) (k := k) (Nat.lt_of_succ_lt_succ h)
theorem right_iff {n : Int} (hn : 0 ≤ n) : ∀ {bs : List Bk} {fs : List Int}, bs.length = fs.length → (∀ k ∈ bs, told k = true) → (∀ x ∈ fs, 0 ≤ x) →
    (Ks437.right n.toNat (bs.map toB) (fs.map Int.toNat) = true ↔ rightP n bs fs)
  | [], [], _, _, _ => ⟨fun _ k hk => absurd hk (Nat.not_lt_zero _), fun _ => rfl⟩
  | [], _ :: _, h, _, _ => by simp at h
  | _ :: _, [], h, _, _ => by simp at h
  | b :: l, x :: r, h, hb, hx => by
    have hl : l.length = r.length := by simpa using h
    have ih := right_iff hn (bs := l) (fs := r) hl (fun k hk => hb k (by simp [hk])) (fun y hy => hx y (by simp [hy]))
    have tb := hb b (by simp)
    have tx := hx x (by simp)
    have tb' := told_iff.mp tb
    show (decide (x.toNat + (toB b).wide ≤ n.toNat) && ((l.map toB).zip (r.map Int.toNat)).all (fun y => Ks437.clear (toB b) y.1 x.toNat y.2) && Ks437.right n.toNat (l.map toB) (r.map Int.toNat)) = true ↔ _
    rw [rightP_cons, Bool.and_eq_true, Bool.and_eq_true, ih, decide_eq_true_eq, all_zip (da := toB default) (db := 0) (by simpa using hl), and_assoc]
    have e1 : (x.toNat + (toB b).wide ≤ n.toNat) ↔ x + b.w ≤ n := by simp only [toB]; omega
    rw [e1]
    refine and_congr Iff.rfl (and_congr ?_ Iff.rfl)
    rw [List.length_map]
    refine forall_congr' fun k => imp_congr_right fun hk => ?_
    rw [getD_map toB default (toB default) hk, getD_map Int.toNat 0 0 (by rw [← hl]; exact hk)]
    exact clear_is tb (hb _ (by simp only [List.mem_cons]; exact .inr (bAt_mem hk))) tx (hx _ (by simp only [List.mem_cons]; exact .inr (fAt_mem (by rw [← hl]; exact hk))))

/-- the whole answer of right, in the program's words -/
def rightA (n : Int) (ns fs : List Int) (yes : Bool) : List Int :=
  if (okNs ns && decide (0 ≤ n ∧ n ≤ 24)) = true then (if (decide (fs.length = (chunk ns).length) && fs.all fun x => decide (0 ≤ x) && decide (x ≤ 100)) = true then (if yes = true then [1] else [0]) else [-22]) else [-22]
theorem right_is {n : Int} {ns fs : List Int} (hn : 0 ≤ n) (hns : ∀ x ∈ ns, 0 ≤ x) (hfs : ∀ x ∈ fs, 0 ≤ x) {yes : Bool}
    (hy : okNs ns = true → fs.length = (chunk ns).length → (yes = true ↔ rightP n (chunk ns) fs)) : PyKs437.right n ns fs = rightA n ns fs yes := by
  show Ks437Neutral.out (Ks437.answer (.right n.toNat (Ks437Neutral.nats ns) (Ks437Neutral.nats fs))) = _
  unfold Ks437.answer Ks437.given rightA
  dsimp only
  rw [bookings_of]
  have e0 : (Ks437Neutral.nats ns).length = ns.length := List.length_map _
  rw [e0, ok_is hns]
  have e1 : (decide (n.toNat ≤ 24) && okNs ns) = (okNs ns && decide (0 ≤ n ∧ n ≤ 24)) := by
    rw [Bool.and_comm, decide_eq_decide.mpr (show n.toNat ≤ 24 ↔ (0 ≤ n ∧ n ≤ 24) by omega)]
  rw [e1]
  by_cases c1 : (okNs ns && decide (0 ≤ n ∧ n ≤ 24)) = true
  · rw [if_pos c1, if_pos c1]
    obtain ⟨hok, hn24⟩ := Bool.and_eq_true_iff.mp c1
    have hk := okNs_iff.mp hok
    have e2 : (Ks437Neutral.nats fs).length = fs.length := List.length_map _
    have e3 : (Ks437Neutral.nats fs).any (fun v => decide (100 < v)) = !(fs.all fun x => decide (0 ≤ x) && decide (x ≤ 100)) := by
      unfold Ks437Neutral.nats
      rw [List.any_map, List.not_all_eq_any_not]
      induction fs with
      | nil => rfl
      | cons a l ih =>
        have ha := hfs a (by simp)
        rw [List.any_cons, List.any_cons]
        congr 1
        · simp only [Function.comp]
          rw [decide_eq_true ha, Bool.true_and]
          by_cases c : 100 < a.toNat
          · rw [decide_eq_true c, decide_eq_false (by omega : ¬ a ≤ 100)]
            rfl
          · rw [decide_eq_false c, decide_eq_true (by omega : a ≤ 100)]
            rfl
        · have hl' : ∀ x ∈ l, 0 ≤ x := fun x hx => hfs x (by simp [hx])
          have : ∀ {l : List Int}, (∀ x ∈ l, 0 ≤ x) → l.any ((fun v => decide (100 < v)) ∘ Int.toNat) = l.any fun x => !(decide (0 ≤ x) && decide (x ≤ 100)) := by
            intro l
            induction l with
            | nil => intro _; rfl
            | cons a l ih =>
              intro h
              have ha := h a (by simp)
              rw [List.any_cons, List.any_cons, ih fun x hx => h x (by simp [hx])]
              congr 1
              simp only [Function.comp]
              rw [decide_eq_true ha, Bool.true_and]
              by_cases c : 100 < a.toNat
              · rw [decide_eq_true c, decide_eq_false (by omega : ¬ a ≤ 100)]
                rfl
              · rw [decide_eq_false c, decide_eq_true (by omega : a ≤ 100)]
                rfl
          exact this hl'
    have e5 : Ks437Neutral.nats fs = fs.map Int.toNat := rfl
    rw [e2, e3, List.length_map]
    by_cases c2 : fs.length = (chunk ns).length
    · cases c3 : fs.all fun x => decide (0 ≤ x) && decide (x ≤ 100) with
      | false =>
        rw [if_pos (.inr rfl), if_neg (by rw [Bool.and_false]; exact Bool.false_ne_true)]
        rfl
      | true =>
        rw [if_neg (by rintro (h | h); exact h c2; exact Bool.false_ne_true h), if_pos (Bool.and_eq_true_iff.mpr ⟨decide_eq_true c2, rfl⟩), e5]
        have hr := right_iff hn (bs := chunk ns) (fs := fs) c2.symm hk.2.2 hfs
        have hy' := hy hok c2
        have e4 : Ks437.right n.toNat ((chunk ns).map toB) (fs.map Int.toNat) = yes := by
          cases yes with
          | true => exact hr.mpr (hy'.mp rfl)
          | false =>
            cases e : Ks437.right n.toNat ((chunk ns).map toB) (fs.map Int.toNat) with
            | false => rfl
            | true => exact (hy'.mpr (hr.mp e)).symm
        rw [e4]
        cases yes <;> rfl
    · rw [if_pos (.inl c2), if_neg (by rw [decide_eq_false c2]; exact Bool.false_ne_true)]
      rfl
  · rw [if_neg c1, if_neg c1]
    rfl
end Lb
/-! # The mathematics of ways to put bookings: what put, ways, fewest of the specification find -/
namespace Lw
open Ks437

/-- r completes done by l: all fits, none on another's lane -/
def okExt (n : Nat) : List (Booking × Nat) → List Booking → List Nat → Prop
  | _, [], [] => True
  | done, b :: l, x :: r => x + b.wide ≤ n ∧ (∀ y ∈ done, clear y.1 b y.2 x = true) ∧ okExt n (done ++ [(b, x)]) l r
  | _, _, _ => False
/-- the lesser at the first place at which they differ -/
def lexLt : List Nat → List Nat → Prop
  | x :: r, y :: s => x < y ∨ (x = y ∧ lexLt r s)
  | _, _ => False
theorem okExt_len {n : Nat} : ∀ {done : List (Booking × Nat)} {l : List Booking} {r : List Nat}, okExt n done l r → r.length = l.length
  | _, [], [], _ => rfl
  | _, b :: l, x :: r, h => by
    show r.length + 1 = l.length + 1
    rw [okExt_len h.2.2]
  | _, [], _ :: _, h => h.elim
  | _, _ :: _, [], h => h.elim
/-! ## put finds the first one -/
theorem findSome_none {α β : Type} {f : α → Option β} : ∀ {l : List α}, l.findSome? f = none ↔ ∀ x ∈ l, f x = none
  | [] => by simp
  | a :: l => by
    rw [List.findSome?_cons]
    cases h : f a with
    | some b => simp [h]
    | none =>
      rw [findSome_none (l := l)]
      simp [h]
/-- the first of the numbers below m at which f tells something -/
theorem findSome_range {β : Type} {f : Nat → Option β} {m : Nat} {v : β} (h : (List.range m).findSome? f = some v) : ∃ x, x < m ∧ f x = some v ∧ ∀ y, y < x → f y = none := by
  induction m with
  | zero => simp at h
  | succ m ih =>
    rw [List.range_succ, List.findSome?_append] at h
    cases e : (List.range m).findSome? f with
    | some u =>
      rw [e] at h
      obtain rfl : u = v := by simpa using h
      obtain ⟨x, h1, h2, h3⟩ := ih e
      exact ⟨x, Nat.lt_succ_of_lt h1, h2, h3⟩
    | none =>
      rw [e] at h
      have h' : f m = some v := by simpa using h
      exact ⟨m, Nat.lt_succ_self _, h', fun y hy => findSome_none.mp e y (List.mem_range.mpr hy)⟩
theorem put_cons {n : Nat} {done : List (Booking × Nat)} {b : Booking} {l : List Booking} : put n done (b :: l) =
    (List.range (n + 1 - b.wide)).findSome? fun x => if done.all fun y => clear y.1 b y.2 x then match put n (done ++ [(b, x)]) l with | none => none | some r => some (x :: r) else none := rfl
theorem put_none {n : Nat} : ∀ {l : List Booking} {done : List (Booking × Nat)}, put n done l = none → ∀ r, ¬ okExt n done l r
  | [], _, h, _ => by cases h
  | b :: l, done, h, [] => fun z => z
  | b :: l, done, h, x :: r => fun ⟨h1, h2, h3⟩ => by
    rw [put_cons] at h
    have z := findSome_none.mp h x (List.mem_range.mpr (by omega))
    rw [if_pos (List.all_eq_true.mpr h2)] at z
    cases e : put n (done ++ [(b, x)]) l with
    | none => exact put_none e r h3
    | some s =>
      rw [e] at z
      cases z
theorem put_some {n : Nat} : ∀ {l : List Booking} {done : List (Booking × Nat)} {r : List Nat}, put n done l = some r → okExt n done l r ∧ ∀ s, okExt n done l s → s = r ∨ lexLt r s
  | [], done, r, h => by
    obtain rfl : [] = r := Option.some.inj h
    refine ⟨trivial, fun s hs => ?_⟩
    cases s with
    | nil => exact .inl rfl
    | cons _ _ => exact hs.elim
  | b :: l, done, r, h => by
    rw [put_cons] at h
    obtain ⟨x, hx, hf, hb⟩ := findSome_range h
    by_cases c : (done.all fun y => clear y.1 b y.2 x) = true
    · rw [if_pos c] at hf
      cases e : put n (done ++ [(b, x)]) l with
      | none =>
        rw [e] at hf
        cases hf
      | some t =>
        rw [e] at hf
        obtain rfl : x :: t = r := Option.some.inj hf
        obtain ⟨g1, g2⟩ := put_some e
        refine ⟨⟨by omega, List.all_eq_true.mp c, g1⟩, fun s hs => ?_⟩
        cases s with
        | nil => exact hs.elim
        | cons y s =>
          obtain ⟨h1, h2, h3⟩ := hs
          by_cases lt : y < x
          · have z := hb y lt
            rw [if_pos (List.all_eq_true.mpr h2)] at z
            cases e2 : put n (done ++ [(b, y)]) l with
            | none => exact absurd h3 (put_none e2 s)
            | some t2 =>
              rw [e2] at z
              cases z
          · by_cases eq : y = x
            · subst eq
              rcases g2 s h3 with z | z
              · subst z
                exact .inl rfl
              · exact .inr (.inr ⟨rfl, z⟩)
            · exact .inr (.inl (by omega))
    · rw [if_neg c] at hf
      cases hf
theorem lexLt_irrefl : ∀ r : List Nat, ¬ lexLt r r
  | [] => fun h => h
  | x :: r => fun h => by
    rcases h with h | ⟨_, h⟩
    · omega
    · exact lexLt_irrefl r h
theorem lexLt_asymm : ∀ {r s : List Nat}, lexLt r s → ¬ lexLt s r
  | x :: r, y :: s, h, h' => by
    rcases h with h | ⟨e, h⟩
    · rcases h' with g | ⟨g, _⟩ <;> omega
    · rcases h' with g | ⟨_, g⟩
      · omega
      · exact lexLt_asymm h g
  | [], _, h, _ => h.elim
  | _ :: _, [], h, _ => h.elim
/-- what put tells is just the first way -/
theorem put_eq {n : Nat} {l : List Booking} {done : List (Booking × Nat)} {r : List Nat} (h1 : okExt n done l r) (h2 : ∀ s, okExt n done l s → s = r ∨ lexLt r s) : put n done l = some r := by
  cases e : put n done l with
  | none => exact absurd h1 (put_none e r)
  | some t =>
    obtain ⟨g1, g2⟩ := put_some e
    rcases h2 t g1 with z | z
    · rw [z]
    · rcases g2 r h1 with y | y
      · rw [y]
      · exact absurd z (lexLt_asymm y)
theorem put_none_iff {n : Nat} {l : List Booking} {done : List (Booking × Nat)} : put n done l = none ↔ ∀ r, ¬ okExt n done l r := by
  constructor
  · exact put_none
  · intro h
    cases e : put n done l with
    | none => rfl
    | some r => exact absurd (put_some e).1 (h r)
theorem put_isSome_iff {n : Nat} {l : List Booking} {done : List (Booking × Nat)} : (put n done l).isSome = true ↔ ∃ r, okExt n done l r := by
  constructor
  · intro h
    obtain ⟨r, e⟩ := Option.isSome_iff_exists.mp h
    exact ⟨r, (put_some e).1⟩
  · rintro ⟨r, h⟩
    cases e : put n done l with
    | none => exact absurd h (put_none e r)
    | some _ => rfl
/-! ## okExt from nothing is right -/
theorem right_cons {n : Nat} {b : Booking} {l : List Booking} {x : Nat} {r : List Nat} : right n (b :: l) (x :: r) = (decide (x + b.wide ≤ n) && (l.zip r).all (fun y => clear b y.1 x y.2) && right n l r) := rfl
theorem okExt_app {n : Nat} : ∀ {l : List Booking} {done : List (Booking × Nat)} {r : List Nat}, okExt n done l r ↔ (right n l r = true ∧ ∀ y ∈ done, ∀ z ∈ l.zip r, clear y.1 z.1 y.2 z.2 = true)
  | [], done, [] => by simp [okExt, right]
  | [], done, _ :: _ => by simp [okExt, right]
  | _ :: _, done, [] => by simp [okExt, right]
  | b :: l, done, x :: r => by
    have ih := okExt_app (n := n) (l := l) (done := done ++ [(b, x)]) (r := r)
    show (x + b.wide ≤ n ∧ (∀ y ∈ done, clear y.1 b y.2 x = true) ∧ okExt n (done ++ [(b, x)]) l r) ↔ _
    rw [ih, right_cons, List.zip_cons_cons, Bool.and_eq_true, Bool.and_eq_true, decide_eq_true_eq, List.all_eq_true]
    constructor
    · rintro ⟨h1, h2, h3, h4⟩
      refine ⟨⟨⟨h1, fun z hz => h4 (b, x) (by simp) z hz⟩, h3⟩, fun y hy z hz => ?_⟩
      rcases List.mem_cons.mp hz with rfl | hz
      · exact h2 y hy
      · exact h4 y (by simp [hy]) z hz
    · rintro ⟨⟨⟨h1, h2⟩, h3⟩, h4⟩
      refine ⟨h1, fun y hy => h4 y hy (b, x) (by simp), h3, fun y hy z hz => ?_⟩
      rcases List.mem_append.mp hy with hy | hy
      · exact h4 y hy z (by simp [hz])
      · obtain rfl := List.mem_singleton.mp hy
        exact h2 z hz
theorem okExt_right {n : Nat} {l : List Booking} {r : List Nat} : okExt n [] l r ↔ right n l r = true := by
  rw [okExt_app]
  exact ⟨fun h => h.1, fun h => ⟨h, fun y hy => by simp at hy⟩⟩
/-! ## more lanes are no harm; side by side is a way -/
theorem okExt_mono {n m : Nat} (hnm : n ≤ m) : ∀ {l : List Booking} {done : List (Booking × Nat)} {r : List Nat}, okExt n done l r → okExt m done l r
  | [], _, [], _ => trivial
  | [], _, _ :: _, h => h.elim
  | _ :: _, _, [], h => h.elim
  | _ :: _, _, _ :: _, ⟨h1, h2, h3⟩ => ⟨Nat.le_trans h1 hnm, h2, okExt_mono hnm h3⟩
def wides (l : List Booking) : Nat := (l.map fun b => b.wide).sum
theorem okExt_side {n : Nat} : ∀ {l : List Booking} {done : List (Booking × Nat)} {S : Nat}, (∀ y ∈ done, y.2 + y.1.wide ≤ S) → S + wides l ≤ n → ∃ r, okExt n done l r
  | [], _, _, _, _ => ⟨[], trivial⟩
  | b :: l, done, S, h1, h2 => by
    have e : wides (b :: l) = b.wide + wides l := by
      unfold wides
      rw [List.map_cons, List.sum_cons]
    obtain ⟨r, hr⟩ := okExt_side (n := n) (l := l) (done := done ++ [(b, S)]) (S := S + b.wide) (fun y hy => by
      rcases List.mem_append.mp hy with hy | hy
      · have := h1 y hy
        omega
      · obtain rfl := List.mem_singleton.mp hy
        exact Nat.le_refl _) (by omega)
    refine ⟨S :: r, by omega, fun y hy => ?_, hr⟩
    have := h1 y hy
    unfold clear
    rw [decide_eq_true this]
    simp
theorem side_way (l : List Booking) : ∃ r, okExt (wides l) [] l r := okExt_side (S := 0) (fun y hy => by simp at hy) (by omega)
/-! ## the peak fits: no lanes below it -/
/-- how much of a piece lies below n -/
def cov (n : Nat) (p : Nat × Nat) : Nat := min (p.1 + p.2) n - p.1
theorem cov_succ (n : Nat) (p : Nat × Nat) : cov (n + 1) p = cov n p + (if p.1 ≤ n ∧ n < p.1 + p.2 then 1 else 0) := by
  unfold cov
  split <;> omega
def apart (p q : Nat × Nat) : Prop := p.1 + p.2 ≤ q.1 ∨ q.1 + q.2 ≤ p.1
theorem cov_none {n : Nat} {p : Nat × Nat} (hp : p.1 ≤ n ∧ n < p.1 + p.2) : ∀ {ps : List (Nat × Nat)}, (∀ q ∈ ps, apart p q) → (ps.map (cov (n + 1))).sum = (ps.map (cov n)).sum
  | [], _ => rfl
  | q :: ps, h => by
    rw [List.map_cons, List.map_cons, List.sum_cons, List.sum_cons, cov_none hp (ps := ps) fun x hx => h x (by simp [hx]), cov_succ, if_neg (by
      have a := h q (by simp)
      unfold apart at a
      omega)]
    rfl
theorem cov_one {n : Nat} : ∀ {ps : List (Nat × Nat)}, ps.Pairwise apart → (ps.map (cov (n + 1))).sum ≤ (ps.map (cov n)).sum + 1
  | [], _ => by simp
  | p :: ps, h => by
    obtain ⟨h1, h2⟩ := List.pairwise_cons.mp h
    rw [List.map_cons, List.map_cons, List.sum_cons, List.sum_cons, cov_succ]
    by_cases c : p.1 ≤ n ∧ n < p.1 + p.2
    · rw [if_pos c, cov_none c h1]
      omega
    · rw [if_neg c]
      have := cov_one (n := n) h2
      omega
theorem cov_le {ps : List (Nat × Nat)} (h : ps.Pairwise apart) : ∀ n, (ps.map (cov n)).sum ≤ n
  | 0 => by
    have : ∀ qs : List (Nat × Nat), (qs.map (cov 0)).sum = 0 := fun qs => by
      induction qs with
      | nil => rfl
      | cons q qs ih =>
        rw [List.map_cons, List.sum_cons, ih]
        unfold cov
        omega
    rw [this]
    exact Nat.le_refl _
  | n + 1 => Nat.le_trans (cov_one h) (Nat.succ_le_succ (cov_le h n))
theorem cov_full {n : Nat} : ∀ {ps : List (Nat × Nat)}, (∀ p ∈ ps, p.1 + p.2 ≤ n) → (ps.map (cov n)).sum = (ps.map (·.2)).sum
  | [], _ => rfl
  | p :: ps, h => by
    rw [List.map_cons, List.map_cons, List.sum_cons, List.sum_cons, cov_full fun x hx => h x (by simp [hx])]
    have := h p (by simp)
    have e : cov n p = p.2 := by
      unfold cov
      omega
    rw [e]
/-- a right way's pieces in an hour -/
def has (h : Nat) (b : Booking) : Bool := decide (b.from_ ≤ h) && decide (h < b.to_)
def pieces (h : Nat) (l : List Booking) (r : List Nat) : List (Nat × Nat) := ((l.zip r).filter fun z => has h z.1).map fun z => (z.2, z.1.wide)
theorem has_meet {h : Nat} {a b : Booking} (ha : has h a = true) (hb : has h b = true) : meet a b = true := by
  unfold has at ha hb
  unfold meet
  rw [Bool.and_eq_true, decide_eq_true_eq, decide_eq_true_eq] at ha hb ⊢
  omega
theorem clear_apart {h : Nat} {a b : Booking} {x y : Nat} (ha : has h a = true) (hb : has h b = true) (c : clear a b x y = true) : apart (x, a.wide) (y, b.wide) := by
  unfold clear at c
  rw [has_meet ha hb, Bool.not_true, Bool.false_or, Bool.or_eq_true, decide_eq_true_eq, decide_eq_true_eq] at c
  exact c
theorem pieces_ok {n h : Nat} : ∀ {l : List Booking} {r : List Nat}, right n l r = true → (pieces h l r).Pairwise apart ∧ (∀ p ∈ pieces h l r, p.1 + p.2 ≤ n) ∧ ((pieces h l r).map (·.2)).sum = asked l h
  | [], [], _ => by simp [pieces, asked]
  | [], _ :: _, e => by simp [right] at e
  | _ :: _, [], e => by simp [right] at e
  | b :: l, x :: r, e => by
    unfold right at e
    rw [Bool.and_eq_true, Bool.and_eq_true, decide_eq_true_eq] at e
    obtain ⟨⟨e1, e2⟩, e3⟩ := e
    obtain ⟨h1, h2, h3⟩ := pieces_ok (n := n) (h := h) e3
    have ea : asked (b :: l) h = (if has h b = true then b.wide else 0) + asked l h := by
      unfold asked
      rw [List.filter_cons]
      show (List.map (fun b => b.wide) (if has h b = true then b :: _ else _)).sum = _
      split
      · rw [List.map_cons, List.sum_cons]
      · omega
    have ep : pieces h (b :: l) (x :: r) = if has h b = true then (x, b.wide) :: pieces h l r else pieces h l r := by
      unfold pieces
      rw [List.zip_cons_cons, List.filter_cons]
      split <;> rfl
    rw [ea, ep]
    by_cases c : has h b = true
    · rw [if_pos c, if_pos c]
      refine ⟨List.pairwise_cons.mpr ⟨fun q hq => ?_, h1⟩, fun p hp => ?_, ?_⟩
      · unfold pieces at hq
        obtain ⟨z, hz, rfl⟩ := List.mem_map.mp hq
        obtain ⟨hz1, hz2⟩ := List.mem_filter.mp hz
        exact clear_apart c hz2 (List.all_eq_true.mp e2 z hz1)
      · rcases List.mem_cons.mp hp with rfl | hp
        · exact e1
        · exact h2 p hp
      · rw [List.map_cons, List.sum_cons, h3]
    · rw [if_neg c, if_neg c]
      exact ⟨h1, h2, by rw [h3]; omega⟩
theorem asked_le {n : Nat} {l : List Booking} {r : List Nat} (e : right n l r = true) (h : Nat) : asked l h ≤ n := by
  obtain ⟨h1, h2, h3⟩ := pieces_ok (h := h) e
  rw [← h3, ← cov_full h2]
  exact cov_le h1 n
theorem foldl_max_le {m : Nat} : ∀ {l : List Nat} {a : Nat}, l.foldl max a ≤ m ↔ a ≤ m ∧ ∀ x ∈ l, x ≤ m
  | [], a => by simp
  | b :: l, a => by
    rw [List.foldl_cons, foldl_max_le (l := l), Nat.max_le]
    simp only [List.mem_cons, forall_eq_or_imp]
    exact and_assoc
theorem peak_le {n : Nat} {l : List Booking} {r : List Nat} (e : right n l r = true) : peak l ≤ n := by
  unfold peak
  refine foldl_max_le.mpr ⟨Nat.zero_le _, fun x hx => ?_⟩
  obtain ⟨h, _, rfl⟩ := List.mem_map.mp hx
  exact asked_le e h
/-! ## ways and fewest -/
theorem ways_eq (n : Nat) (l : List Booking) : ways n l = put n [] l := by
  unfold ways
  by_cases c : peak l ≤ n
  · rw [if_pos c]
  · rw [if_neg c]
    exact (put_none_iff.mpr fun r h => c (peak_le (okExt_right.mp h))).symm
theorem ways_isSome {n : Nat} {l : List Booking} : (ways n l).isSome = true ↔ ∃ r, right n l r = true := by
  rw [ways_eq, put_isSome_iff]
  exact ⟨fun ⟨r, h⟩ => ⟨r, okExt_right.mp h⟩, fun ⟨r, h⟩ => ⟨r, okExt_right.mpr h⟩⟩
theorem ways_mono {n m : Nat} {l : List Booking} (h : n ≤ m) (e : (ways n l).isSome = true) : (ways m l).isSome = true := by
  rw [ways_eq, put_isSome_iff] at e ⊢
  obtain ⟨r, hr⟩ := e
  exact ⟨r, okExt_mono h hr⟩
theorem ways_side (l : List Booking) : (ways (wides l) l).isSome = true := by
  rw [ways_eq, put_isSome_iff]
  exact side_way l
theorem ways_peak {n : Nat} {l : List Booking} (e : (ways n l).isSome = true) : peak l ≤ n := by
  obtain ⟨r, hr⟩ := ways_isSome.mp e
  exact peak_le hr
/-- fewest is the only number at which there is a way and below which there is none -/
theorem find_range {p : Nat → Bool} {m k : Nat} (hk : k < m) (h1 : p k = true) (h2 : ∀ j, j < k → p j = false) : (List.range m).find? p = some k := by
  induction m with
  | zero => omega
  | succ m ih =>
    rw [List.range_succ, List.find?_append]
    by_cases c : k < m
    · rw [ih c]
      rfl
    · have : k = m := by omega
      subst this
      have e : (List.range k).find? p = none := List.find?_eq_none.mpr fun x hx => by
        rw [h2 x (List.mem_range.mp hx)]
        exact Bool.false_ne_true
      rw [e]
      simp [h1]
theorem fewest_is {l : List Booking} {k : Nat} (h1 : (ways k l).isSome = true) (h2 : ∀ j, j < k → (ways j l).isSome = false) : fewest l = k := by
  have hk : k < wides l + 1 := by
    refine Nat.lt_of_not_le fun c => ?_
    have := h2 (wides l) (by omega)
    rw [ways_side] at this
    cases this
  unfold fewest
  have := find_range (p := fun n => (ways n l).isSome) hk h1 h2
  unfold wides at this
  rw [this]
  rfl
theorem fewest_way (l : List Booking) : (ways (fewest l) l).isSome = true ∧ ∀ j, j < fewest l → (ways j l).isSome = false := by
  have : ∃ k, (ways k l).isSome = true ∧ ∀ j, j < k → (ways j l).isSome = false := by
    have key : ∀ m, (ways m l).isSome = true → ∃ k, (ways k l).isSome = true ∧ ∀ j, j < k → (ways j l).isSome = false := fun m => by
      induction m with
      | zero => exact fun h => ⟨0, h, fun j hj => absurd hj (Nat.not_lt_zero _)⟩
      | succ m ih =>
        intro h
        cases e : (ways m l).isSome with
        | true => exact ih e
        | false => exact ⟨m + 1, h, fun j hj => by
            cases e2 : (ways j l).isSome with
            | false => rfl
            | true =>
              rw [ways_mono (by omega) e2] at e
              cases e⟩
    exact key _ (ways_side l)
  obtain ⟨k, h1, h2⟩ := this
  rw [fewest_is h1 h2]
  exact ⟨h1, h2⟩
theorem fewest_le {l : List Booking} : peak l ≤ fewest l ∧ fewest l ≤ wides l := by
  obtain ⟨h1, h2⟩ := fewest_way l
  refine ⟨ways_peak h1, Nat.le_of_not_lt fun c => ?_⟩
  have := h2 _ c
  rw [ways_side] at this
  cases this
end Lw
/-! # What is due of put, fewest, peak and more, over the numbers as Python hands them in -/
namespace Lb
abbrev bs (ns : List Int) : List Ks437.Booking := (chunk ns).map toB
theorem given_is {ns : List Int} (hns : ∀ x ∈ ns, 0 ≤ x) (b : Bool) (f : List Ks437.Booking → Ks437.Ans) :
    Ks437.given (Ks437Neutral.nats ns) b f = if (b && okNs ns) = true then f (bs ns) else Ks437.no (-22) := by
  unfold Ks437.given
  dsimp only
  rw [bookings_of]
  have e0 : (Ks437Neutral.nats ns).length = ns.length := List.length_map _
  rw [e0, ok_is hns]
def intsOf (l : List Nat) : List Int := l.map Int.ofNat
theorem put_is {n : Int} {ns : List Int} (hn : 0 ≤ n) (hns : ∀ x ∈ ns, 0 ≤ x) :
    PyKs437.put n ns = if (okNs ns && decide (n ≤ 24)) = true then (match Ks437.put n.toNat [] (bs ns) with | none => [-33] | some x => ((chunk ns).length : Int) :: intsOf x) else [-22] := by
  show Ks437Neutral.out (Ks437.answer (.put n.toNat (Ks437Neutral.nats ns))) = _
  unfold Ks437.answer
  dsimp only
  rw [given_is hns]
  have e1 : (decide (n.toNat ≤ 24) && okNs ns) = (okNs ns && decide (n ≤ 24)) := by
    rw [Bool.and_comm, decide_eq_decide.mpr (show n.toNat ≤ 24 ↔ n ≤ 24 by omega)]
  rw [e1]
  by_cases c : (okNs ns && decide (n ≤ 24)) = true
  · rw [if_pos c, if_pos c, Lw.ways_eq]
    cases Ks437.put n.toNat [] (bs ns) with
    | none => rfl
    | some x =>
      show ((bs ns).length : Int) :: intsOf x = _
      rw [List.length_map]
  · rw [if_neg c, if_neg c]
    rfl
theorem fewest_is {ns : List Int} (hns : ∀ x ∈ ns, 0 ≤ x) : PyKs437.fewest ns = if okNs ns = true then [(Ks437.fewest (bs ns) : Int)] else [-22] := by
  show Ks437Neutral.out (Ks437.answer (.fewest (Ks437Neutral.nats ns))) = _
  unfold Ks437.answer
  dsimp only
  rw [given_is hns, Bool.true_and]
  by_cases c : okNs ns = true
  · rw [if_pos c, if_pos c]
    rfl
  · rw [if_neg c, if_neg c]
    rfl
theorem peak_is {ns : List Int} (hns : ∀ x ∈ ns, 0 ≤ x) : PyKs437.peak ns = if okNs ns = true then (Ks437.peak (bs ns) : Int) :: ((Ks437.tight (bs ns)).length : Int) :: intsOf (Ks437.tight (bs ns)) else [-22] := by
  show Ks437Neutral.out (Ks437.answer (.peak (Ks437Neutral.nats ns))) = _
  unfold Ks437.answer
  dsimp only
  rw [given_is hns, Bool.true_and]
  by_cases c : okNs ns = true
  · rw [if_pos c, if_pos c]
    rfl
  · rw [if_neg c, if_neg c]
    rfl
theorem more_is {n w : Int} {ns : List Int} (hn : 0 ≤ n) (hw : 0 ≤ w) (hns : ∀ x ∈ ns, 0 ≤ x) : PyKs437.more n w ns = if (okNs ns && (decide (n ≤ 12) && (decide (1 ≤ w) && decide (w ≤ 8)))) = true then
    (if 6 ≤ (chunk ns).length then [-28] else if (Ks437.put n.toNat [] (bs ns)).isNone = true then [-33] else ((Ks437.more n.toNat w.toNat (bs ns)).length : Int) :: intsOf (Ks437.more n.toNat w.toNat (bs ns))) else [-22] := by
  show Ks437Neutral.out (Ks437.answer (.more n.toNat w.toNat (Ks437Neutral.nats ns))) = _
  unfold Ks437.answer
  dsimp only
  rw [given_is hns]
  have e1 : (decide (n.toNat ≤ 12) && decide (1 ≤ w.toNat) && decide (w.toNat ≤ 8) && okNs ns) = (okNs ns && (decide (n ≤ 12) && (decide (1 ≤ w) && decide (w ≤ 8)))) := by
    rw [Bool.and_comm, Bool.and_assoc, decide_eq_decide.mpr (show n.toNat ≤ 12 ↔ n ≤ 12 by omega), decide_eq_decide.mpr (show 1 ≤ w.toNat ↔ 1 ≤ w by omega), decide_eq_decide.mpr (show w.toNat ≤ 8 ↔ w ≤ 8 by omega)]
  rw [e1]
  by_cases c : (okNs ns && (decide (n ≤ 12) && (decide (1 ≤ w) && decide (w ≤ 8)))) = true
  · rw [if_pos c, if_pos c, Lw.ways_eq, List.length_map]
    unfold Ks437.BOOKINGS
    by_cases c2 : 6 ≤ (chunk ns).length
    · rw [if_pos c2, if_pos c2]
      rfl
    · rw [if_neg c2, if_neg c2]
      by_cases c3 : (Ks437.put n.toNat [] (bs ns)).isNone = true
      · rw [if_pos c3, if_pos c3]
        rfl
      · rw [if_neg c3, if_neg c3]
        generalize Ks437.more n.toNat w.toNat (bs ns) = z
        rfl
  · rw [if_neg c, if_neg c]
    rfl
/-! ## the hours' sums over whole numbers -/
def hasI (h : Int) (k : Bk) : Bool := decide (k.b ≤ h) && decide (h < k.e)
def askedI (ks : List Bk) (h : Int) : Int := ((ks.filter (hasI h)).map fun k => k.w).sum
theorem askedI_is {h : Nat} : ∀ {ks : List Bk}, (∀ k ∈ ks, told k = true) → askedI ks (h : Int) = (Ks437.asked (ks.map toB) h : Int)
  | [], _ => rfl
  | k :: ks, ht => by
    have ih := askedI_is (h := h) (ks := ks) fun x hx => ht x (by simp [hx])
    have hk := told_iff.mp (ht k (by simp))
    have e : (decide ((toB k).from_ ≤ h) && decide (h < (toB k).to_)) = hasI h k := by
      unfold hasI
      rw [decide_eq_decide.mpr (show (toB k).from_ ≤ h ↔ k.b ≤ h by simp only [toB]; omega), decide_eq_decide.mpr (show h < (toB k).to_ ↔ (h : Int) < k.e by simp only [toB]; omega)]
    unfold askedI Ks437.asked at ih ⊢
    rw [List.map_cons, List.filter_cons, List.filter_cons, e]
    by_cases c : hasI h k = true
    · rw [if_pos c, if_pos c, List.map_cons, List.map_cons, List.sum_cons, List.sum_cons, ih]
      simp only [toB]
      omega
    · rw [if_neg c, if_neg c]
      exact ih
end Lb
set_option Elab.async false
set_option maxRecDepth 100000
set_option maxHeartbeats 2000000
/-! # Rules that the layer lacks: a chain of three comparisons; what own classes, chains, all and enumerate evaluate to -/
namespace Lb
open PySem PySem.Spec PyProof.Rows L2 Evl

section
variable {X : Cx} {a b c d : Expr} {ta tb tc td : TE} {pos : Pos}
/-- a op1 b op2 c op3 d -/
def tChain3 (r r' r'' : R2) (ta tb tc td : TE) : TE := fun σ H Q => ta σ H fun x H1 => tb σ H1 fun y H2 => r x y H2 fun z H3 => ∃ k, z = .bl k ∧
  (if k = true then tc σ H3 fun w H4 => r' y w H4 fun z' H5 => ∃ k', z' = .bl k' ∧ (if k' = true then td σ H5 fun w' H6 => r'' w w' H6 Q else Q (.bl false) H5) else Q (.bl false) H3)
theorem pe_chain3 {op op' op'' : CmpOp} {r r' r'' : R2} (ho : OpR X (compareOp op) r) (ho' : OpR X (compareOp op') r') (ho'' : OpR X (compareOp op'') r'') (ha : PE X a ta) (hb : PE X b tb) (hc : PE X c tc) (hd : PE X d td)
    (hm : lastMarks [op, op', op''] [b, c, d] = false := by with_unfolding_all rfl) : PE X (.Compare a [op, op', op''] [b, c, d] pos) (tChain3 r r' r'' ta tb tc td) := by
  refine ⟨fun pins s σ H Q I h => ?_⟩
  refine Compare_chain (thn (ha.run pins s σ H _ I h) fun v s1 ⟨x, H1, I1, r1, q1⟩ => chain_link (thn (hb.run pins s1 σ H1 _ I1 q1) fun u s2 ⟨y, H2, I2, r2, q2⟩ =>
    thn (ho pins s2 σ H2 x y v u _ I2 r1 r2 q2) fun d s3 ⟨z, H3, I3, r3, k, e, q3⟩ => ?_)) hm
  subst e
  cases r3
  refine wpAny_truthy_bool ?_
  cases k with
  | false => exact ite_ff ⟨.bl false, H3, I3, rfl, q3⟩
  | true =>
    refine ite_tt (chain_link (thn (hc.run pins s3 σ H3 _ I3 q3) fun w' s4 ⟨z', H4, I4, r4, q4⟩ => thn (ho' pins s4 σ H4 y z' u w' _ I4 r2 r4 q4) fun d' s5 ⟨z2, H5, I5, r5, k2, e2, q5⟩ => ?_))
    subst e2
    cases r5
    refine wpAny_truthy_bool ?_
    cases k2 with
    | false => exact ite_ff ⟨.bl false, H5, I5, rfl, q5⟩
    | true => exact ite_tt (chain_last (thn (hd.run pins s5 σ H5 _ I5 q5) fun w2 s6 ⟨z3, H6, I6, r6, q6⟩ => ho'' pins s6 σ H6 z' z3 w' w2 Q I6 r4 r6 q6))
end

section
variable {K : PySem.W.Frag} {σ : L2.St} {H : Hp} {ta tb tc td te : TE} {x y z w v : V} {r r' r'' : R2}
theorem ev_chain {k k' : Bool} (ha : Ev ta σ H x) (hb : Ev tb σ H y) (hr : RV r x y H (.bl k)) (hc : k = true → Ev tc σ H z) (hr' : k = true → RV r' y z H (.bl k')) : Ev (tChain r r' ta tb tc) σ H (.bl (k && k')) := fun H1 e Q q =>
  ha H1 e _ fun H2 e2 => hb H2 (e.trans e2) _ fun H3 e3 => hr H3 ((e.trans e2).trans e3) _ fun H4 e4 => ⟨k, rfl, by
    cases k with
    | true =>
      rw [if_pos rfl]
      exact hc rfl H4 (((e.trans e2).trans e3).trans e4) _ fun H5 e5 => hr' rfl H5 ((((e.trans e2).trans e3).trans e4).trans e5) Q fun H6 e6 => q H6 ((((e2.trans e3).trans e4).trans e5).trans e6)
    | false =>
      rw [if_neg Bool.false_ne_true]
      exact q H4 ((e2.trans e3).trans e4)⟩
theorem ev_chain3 {k k' k'' : Bool} (ha : Ev ta σ H x) (hb : Ev tb σ H y) (hr : RV r x y H (.bl k)) (hc : k = true → Ev tc σ H z) (hr' : k = true → RV r' y z H (.bl k')) (hd : k' = true → Ev td σ H w) (hr'' : k' = true → RV r'' z w H (.bl k'')) :
    Ev (tChain3 r r' r'' ta tb tc td) σ H (.bl (k && (k' && k''))) := fun H1 e Q q =>
  ha H1 e _ fun H2 e2 => hb H2 (e.trans e2) _ fun H3 e3 => hr H3 ((e.trans e2).trans e3) _ fun H4 e4 => ⟨k, rfl, by
    cases k with
    | true =>
      rw [if_pos rfl]
      refine hc rfl H4 (((e.trans e2).trans e3).trans e4) _ fun H5 e5 => hr' rfl H5 ((((e.trans e2).trans e3).trans e4).trans e5) _ fun H6 e6 => ⟨k', rfl, ?_⟩
      have e16 := (((e2.trans e3).trans e4).trans e5).trans e6
      cases k' with
      | true =>
        rw [if_pos rfl]
        exact hd rfl H6 (e.trans e16) _ fun H7 e7 => hr'' rfl H7 ((e.trans e16).trans e7) Q fun H8 e8 => q H8 ((e16.trans e7).trans e8)
      | false =>
        rw [if_neg Bool.false_ne_true]
        exact q H6 e16
    | false =>
      rw [if_neg Bool.false_ne_true]
      exact q H4 ((e2.trans e3).trans e4)⟩
/-- a field of an own object -/
theorem ev_fld {p C dx : Addr} {fs : List (Str × V)} {f : Str} (ha : Ev ta σ H (.ref p)) (hp : H p = some (.ins C dx fs)) (c : Cls K C) (n : NoAttr K C f) (l : fs.lookup f = some v) : Ev (tFld K ta f) σ H v := fun H1 e Q q =>
  ha H1 e _ fun H2 e2 => ⟨p, C, dx, fs, v, rfl, e2 _ _ (e _ _ hp), c, n, l, q H2 e2⟩
/-- a method's call -/
theorem ev_meth {p C dx : Addr} {fs : List (Str × V)} {m : Str} {sp : Sp} {dvs vs : List V} {E : XK} {t : TA} (ha : Ev ta σ H (.ref p)) (hp : H p = some (.ins C dx fs)) (l : fs.lookup m = none) (h : EvA t σ H vs) (hs : SpV sp (.ref p :: (vs ++ dvs)) H z) :
    Ev (tMeth C m sp dvs E ta t) σ H z := fun H1 e Q q =>
  ha H1 e _ fun H2 e2 => ⟨p, dx, fs, rfl, e2 _ _ (e _ _ hp), l, h H2 (e.trans e2) _ fun H3 e3 => hs H3 ((e.trans e2).trans e3) Q (fun H4 e4 => q H4 ((e2.trans e3).trans e4)) E⟩
/-- all([..]) of a new list of truth values -/
theorem ev_allN {bs : List Bool} (ha : EvL ta σ H (bs.map V.bl)) : Ev (tCB (rAll K) (tCons ta tNil)) σ H (.bl (bs.all id)) := fun H1 e Q q =>
  ha H1 e _ fun p H2 _ e2 h2 => ⟨p, bs, rfl, sq_of h2, q H2 e2⟩
theorem et_tt {P : Prop} [Decidable P] {t : TT} (h : EvT t σ H (decide P)) (p : P) : EvT t σ H true := by
  rw [decide_eq_true p] at h
  exact h
/-- for i, x in enumerate(xs), xs a list that stands -/
theorem s_forE {a : Addr} {xs : List V} {ta : TA} {ji jx : Nat} {tu : TS} {D : Ends} (h : EvA ta σ H [.ref a]) (hx : SqL K H a xs) (Pv : Nat → L2.St → Hp → Prop) (h0 : ∀ H1, Ex H H1 → Pv 0 σ H1) (hl : ∀ i σ' H', i ≤ xs.length → Pv i σ' H' → SqL K H' a xs)
    (hs : ∀ (i : Nat) x σ' H', xs[i]? = some x → Pv i σ' H' → ∀ H2, Ex H' H2 → tu { D with nx := Pv (i + 1), ct := Pv (i + 1), bk := D.nx } ((σ'.set ji (some (.int (i : Int)))).set jx (some x)) H2) (hd : ∀ σ' H', Pv xs.length σ' H' → D.nx σ' H') :
    tFor (iEnum K ta) (gTup K 2 (gCons (gName ji) (gCons (gName jx) gNil))) tu D σ H :=
  h H (Ex.refl H) _ fun H1 e => ⟨a, xs, rfl, ex_l e hx, for_it walk_enum Pv (h0 H1 e) hl (fun i x σ' H' H2 hi hP hy => by
    obtain ⟨T, y1, y2, rfl, hT, rfl, e1, e2⟩ := hy
    cases e1
    exact ⟨T, _, rfl, st_of upd_same, rfl, _, _, rfl, _, _, rfl, rfl, hs i y2 σ' H' e2 hP _ (Ex.new hT)⟩) hd⟩
theorem q_forE {a : Addr} {xs : List V} {ta : TA} {ji jx : Nat} {tu tz : TS} {D : Ends} (h : EvA ta σ H [.ref a]) (hx : SqL K H a xs) (Pv : Nat → L2.St → Hp → Prop) (h0 : ∀ H1, Ex H H1 → Pv 0 σ H1) (hl : ∀ i σ' H', i ≤ xs.length → Pv i σ' H' → SqL K H' a xs)
    (hs : ∀ (i : Nat) x σ' H', xs[i]? = some x → Pv i σ' H' → ∀ H2, Ex H' H2 → tu { D with nx := Pv (i + 1), ct := Pv (i + 1), bk := tz D } ((σ'.set ji (some (.int (i : Int)))).set jx (some x)) H2) (hd : ∀ σ' H', Pv xs.length σ' H' → tz D σ' H') :
    tSeq (tFor (iEnum K ta) (gTup K 2 (gCons (gName ji) (gCons (gName jx) gNil))) tu) tz D σ H := s_forE (D := { D with nx := tz D }) h hx Pv h0 hl hs hd
theorem rgc3 : ∀ n : Nat, n ≤ 24 → n % 3 = 0 → RgC 0 (n : Int) 3 (n / 3) := by
  have h : ∀ n : Fin 25, n.val % 3 = 0 → (3 : Int) ≠ 0 ∧ (3 : Int).natAbs < 1073741824 ∧ Builtin.Range.small 0 ((n.val : Nat) : Int) 3 = true ∧ Builtin.Range.rangeSize 0 ((n.val : Nat) : Int) 3 = (n.val / 3 : Nat) := by decide +kernel
  intro n hn h3
  exact h ⟨n, by omega⟩ h3
end
end Lb
set_option Elab.async false
set_option maxRecDepth 100000
set_option maxHeartbeats 2000000
/-! # The bookings as objects; the promises and readings of what all calls share -/
namespace Lb
open PySem PySem.Spec PyProof.Rows L2 Evl

def rAdd : R2 := rI0 fun i j => .int (i + j)
def rGt : R2 := rI0 fun i j => .bl (decide (j < i))
def rLt : R2 := rI0 fun i j => .bl (decide (i < j))
def rLe : R2 := rI0 fun i j => .bl (decide (i ≤ j))
def rMod : R2 := rI (fun _ j => 0 < j) fun i j => .int (i % j)
def rMul : R2 := rI CMul fun i j => .int (i * j)
/-! ### The heap: a booking, a list of bookings -/
def bF (k : Bk) : List (Str × V) := [("begin", .int k.b), ("end", .int k.e), ("wide", .int k.w)]
def BkAt (C : Addr) (H : Hp) (a : Addr) (k : Bk) : Prop := ∃ dx, H a = some (.ins C dx (bF k))
def BksAt (C : Addr) (H : Hp) (as : List Addr) (ks : List Bk) : Prop := as.length = ks.length ∧ ∀ i a, as[i]? = some a → BkAt C H a (bAt ks i)
def LstAt (C : Addr) (H : Hp) (p : Addr) (ks : List Bk) : Prop := ∃ as : List Addr, H p = some (.lst (as.map V.ref)) ∧ BksAt C H as ks
theorem BkAt.mono {C a : Addr} {H H' : Hp} {k : Bk} (e : Ex H H') (h : BkAt C H a k) : BkAt C H' a k := by
  obtain ⟨dx, h⟩ := h
  exact ⟨dx, e _ _ h⟩
theorem BksAt.mono {C : Addr} {H H' : Hp} {as : List Addr} {ks : List Bk} (e : Ex H H') (h : BksAt C H as ks) : BksAt C H' as ks := ⟨h.1, fun i a hi => (h.2 i a hi).mono e⟩
theorem LstAt.mono {C p : Addr} {H H' : Hp} {ks : List Bk} (e : Ex H H') (h : LstAt C H p ks) : LstAt C H' p ks := by
  obtain ⟨as, h1, h2⟩ := h
  exact ⟨as, e _ _ h1, h2.mono e⟩
theorem lk_here {k : Str} {v : V} {r : List (Str × V)} : List.lookup k ((k, v) :: r) = some v := by
  have e : (k == k) = true := beq_self_eq_true k
  simp only [List.lookup, e]
theorem lk_past {k g : Str} {v : V} {r : List (Str × V)} (h : (k == g) = false) : List.lookup k ((g, v) :: r) = List.lookup k r := by
  simp only [List.lookup, h]
theorem put_past {f g : Str} {v x : V} {r : List (Str × V)} (h : ¬ g = f) : putF f v ((g, x) :: r) = (g, x) :: putF f v r := if_neg h
theorem bF_b (k : Bk) : (bF k).lookup ("begin" : Str) = some (.int k.b) := lk_here
theorem bF_e (k : Bk) : (bF k).lookup ("end" : Str) = some (.int k.e) := (lk_past (by decide +kernel)).trans lk_here
theorem bF_w (k : Bk) : (bF k).lookup ("wide" : Str) = some (.int k.w) := (lk_past (by decide +kernel)).trans ((lk_past (by decide +kernel)).trans lk_here)
theorem bF_told (k : Bk) : (bF k).lookup ("is_as_told" : Str) = none := (lk_past (by decide +kernel)).trans ((lk_past (by decide +kernel)).trans ((lk_past (by decide +kernel)).trans rfl))
theorem bF_shares (k : Bk) : (bF k).lookup ("shares_hour_with" : Str) = none := (lk_past (by decide +kernel)).trans ((lk_past (by decide +kernel)).trans ((lk_past (by decide +kernel)).trans rfl))
theorem bF_new (b e w : Int) : putF "wide" (.int w) (putF "end" (.int e) (putF "begin" (.int b) [])) = bF ⟨b, e, w⟩ := by
  show putF "wide" (.int w) (putF "end" (.int e) [("begin", .int b)]) = _
  rw [put_past (by decide +kernel)]
  show putF "wide" (.int w) [("begin", .int b), ("end", .int e)] = _
  rw [put_past (by decide +kernel), put_past (by decide +kernel)]
  rfl
/-! ### What the top has written -/
def Num (mg : Str → Option Value) (x : Str) (i : Int) : Prop := ∃ t, mg x = some (.int i t)
theorem pe_num {X : Cx} {x : Str} {i : Int} {pos : Pos} (h : Num X.mg x i) (hg : Gl X x) (hd : (x == ("__debug__" : Str)) = false := by decide) : PE X (.Name x pos) (tC (.int i)) := by
  obtain ⟨t, h⟩ := h
  exact pe_glob hg h ⟨_, rfl⟩ hd
structure Txt (K : PySem.W.Frag) (mg : Str → Option Value) (C : Addr) : Prop where
  cl : Cls K C
  nB : NoAttr K C "begin"
  nE : NoAttr K C "end"
  nW : NoAttr K C "wide"
  gC : mg "Booking" = some (.ref C)
  noe : Num mg "NUMBERS_OF_EACH" 3
  mob : Num mg "MOST_BOOKINGS" 6
  lae : Num mg "LAST_END" 12
  wid : Num mg "WIDEST" 8
  len : mg "len" = none
  all : mg "all" = none
  rng : mg "range" = none
/-! ### The promises -/
def spInit (C : Addr) : Sp := fun vs H Q _ => ∃ (p dx : Addr) (b e w : Int), vs = [.ref p, .int b, .int e, .int w] ∧ H p = some (.ins C dx []) ∧
  ∀ H' : Hp, BkAt C H' p ⟨b, e, w⟩ → (∀ a o, H a = some o → a ≠ p → H' a = some o) → Q .non H'
def spWidth : Sp := fun vs H Q _ => ∃ w : Int, vs = [.int w] ∧ RetV (.bl (decide (1 ≤ w) && decide (w ≤ 8))) H Q
def spTold (C : Addr) : Sp := fun vs H Q _ => ∃ (p : Addr) (k : Bk), vs = [.ref p] ∧ BkAt C H p k ∧ RetV (.bl (told k)) H Q
def spShares (C : Addr) : Sp := fun vs H Q _ => ∃ (p q : Addr) (k m : Bk), vs = [.ref p, .ref q] ∧ BkAt C H p k ∧ BkAt C H q m ∧ RetV (.bl (meets k m)) H Q
def spRead (K : PySem.W.Frag) (C : Addr) : Sp := fun vs H Q _ => ∃ (a : Addr) (ns : List Int), vs = [.ref a] ∧ SqL K H a (ns.map V.int) ∧ ns.length % 3 = 0 ∧ ns.length ≤ 24 ∧
  ∀ (p : Addr) (H' : Hp), H p = none → Ex H H' → LstAt C H' p (chunk ns) → Q (.ref p) H'
def spAre (K : PySem.W.Frag) : Sp := fun vs H Q _ => ∃ (a : Addr) (ns : List Int), vs = [.ref a] ∧ SqL K H a (ns.map V.int) ∧ ns.length ≤ 24 ∧ RetV (.bl (okNs ns)) H Q
def spShare (C : Addr) : Sp := fun vs H Q _ => ∃ (p q : Addr) (k m : Bk) (f g : Int), vs = [.ref p, .int f, .ref q, .int g] ∧ BkAt C H p k ∧ BkAt C H q m ∧ RetV (.bl (share k f m g)) H Q
/-! ### The readings -/
def t_init (K : PySem.W.Frag) : TS := tSeq (sFld K (tVar 0) (tVar 1) "begin") (tSeq (sFld K (tVar 0) (tVar 2) "end") (sFld K (tVar 0) (tVar 3) "wide"))
def t_width : TS := tRet (tChain rLe rLe (tC (.int 1)) (tVar 0) (tC (.int 8)))
def t_told (K : PySem.W.Frag) : TS := tRet (tAndV (tChain3 rLe rLt rLe (tC (.int 0)) (tFld K (tVar 0) "begin") (tFld K (tVar 0) "end") (tC (.int 12))) (tCall spWidth [] E0 (tCons (tFld K (tVar 0) "wide") tNil)))
def t_shares (K : PySem.W.Frag) : TS := tRet (tAndV (tOp rLt (tFld K (tVar 0) "begin") (tFld K (tVar 1) "end")) (tOp rLt (tFld K (tVar 1) "begin") (tFld K (tVar 0) "end")))
/-- slots: numbers, at -/
def t_read (K : PySem.W.Frag) (C : Addr) : TS := tRet (tLc (iRng3 (tCons (tC (.int 0)) (tCons (tCB (rLenS K) (tCons (tVar 0) tNil)) (tCons (tC (.int 3)) tNil)))) (gName 1) tYes
  (tMake C (spInit C) [] E0 (tCons (tOp (rIxL K) (tVar 0) (tVar 1)) (tCons (tOp (rIxL K) (tVar 0) (tOp rAdd (tVar 1) (tC (.int 1)))) (tCons (tOp (rIxL K) (tVar 0) (tOp rAdd (tVar 1) (tC (.int 2)))) tNil)))) [1])
/-- slots: numbers, booking -/
def t_are (K : PySem.W.Frag) (C : Addr) : TS :=
  tSeq (tIfS (tTest (tOp rNe (tOp rMod (tCB (rLenS K) (tCons (tVar 0) tNil)) (tC (.int 3))) (tC (.int 0)))) (tRet (tC (.bl false))) tNext)
  (tSeq (tIfS (tTest (tOp rGt (tCB (rLenS K) (tCons (tVar 0) tNil)) (tOp rMul (tC (.int 3)) (tC (.int 6))))) (tRet (tC (.bl false))) tNext)
  (tRet (tCB (rAll K) (tCons (tLc (iList K (tCall (spRead K C) [] E0 (tCons (tVar 0) tNil))) (gName 1) tYes (tMeth C "is_as_told" (spTold C) [] E0 (tVar 1) tNil) [1]) tNil))))
/-- slots: booking, first, other, other_first -/
def t_share (K : PySem.W.Frag) : TS := tRet (tAndV (tOp rLt (tVar 1) (tOp rAdd (tVar 3) (tFld K (tVar 2) "wide"))) (tOp rLt (tVar 3) (tOp rAdd (tVar 1) (tFld K (tVar 0) "wide"))))
section
variable {K : PySem.W.Frag} {mg : Str → Option Value} {C : Addr}
theorem pure_init (T : Txt K mg C) (vs : List V) (H : Hp) (Q : VK) (E : XK) (h : spInit C vs H Q E) : t_init K { nx := fun _ H' => Q .non H', rt := Q } (start ["self", "begin", "end", "wide"] vs) H := by
  obtain ⟨p, dx, b, e, w, rfl, hp, k⟩ := h
  refine ⟨_, rfl, _, rfl, p, C, dx, [], rfl, hp, T.cl, T.nB, (by show 0 < 1000; decide), ?_⟩
  refine ⟨_, rfl, _, rfl, p, C, dx, _, rfl, upd_same, T.cl, T.nE, (by show 1 < 1000; decide), ?_⟩
  refine ⟨_, rfl, _, rfl, p, C, dx, _, rfl, upd_same, T.cl, T.nW, (by show (putF "end" (.int e) [(("begin" : Str), V.int b)]).length < 1000; rw [put_past (by decide +kernel)]; show 2 < 1000; decide), ?_⟩
  exact k _ ⟨dx, Eq.trans upd_same (congrArg (fun q => some (HO.ins C dx q)) (bF_new b e w))⟩ fun a o h hb => by
    rw [upd_ne hb, upd_ne hb, upd_ne hb]
    exact h
theorem pure_width (vs : List V) (H : Hp) (Q : VK) (E : XK) (h : spWidth vs H Q E) : t_width { nx := fun _ H' => Q .non H', rt := Q } (start ["wide"] vs) H := by
  obtain ⟨w, rfl, r⟩ := h
  exact s_ret (ev_chain ev_c (ev_var (v := .int w) rfl) rv_I0 (fun _ => ev_c) (fun _ => rv_I0)) fun H1 e => r H1 e
theorem pure_told (T : Txt K mg C) (vs : List V) (H : Hp) (Q : VK) (E : XK) (h : spTold C vs H Q E) : t_told K { nx := fun _ H' => Q .non H', rt := Q } (start ["self"] vs) H := by
  obtain ⟨p, k, rfl, ⟨dx, hp⟩, q⟩ := h
  exact s_ret (ev_andV (ev_chain3 ev_c (ev_fld (ev_var rfl) hp T.cl T.nB (bF_b k)) rv_I0 (fun _ => ev_fld (ev_var rfl) hp T.cl T.nE (bF_e k)) (fun _ => rv_I0) (fun _ => ev_c) (fun _ => rv_I0))
    (fun _ => ev_call (vs := [.int k.w]) (ea_cons (ev_fld (ev_var rfl) hp T.cl T.nW (bF_w k)) ea_nil) fun H1 e1 Q' q' E' => ⟨k.w, rfl, fun H2 e2 => q' H2 e2⟩)) fun H1 e => q H1 e
theorem pure_shares (T : Txt K mg C) (vs : List V) (H : Hp) (Q : VK) (E : XK) (h : spShares C vs H Q E) : t_shares K { nx := fun _ H' => Q .non H', rt := Q } (start ["self", "other"] vs) H := by
  obtain ⟨p, q, k, m, rfl, ⟨dx, hp⟩, ⟨dy, hq⟩, r⟩ := h
  exact s_ret (ev_andV (ev_op (ev_fld (ev_var rfl) hp T.cl T.nB (bF_b k)) (ev_fld (ev_var rfl) hq T.cl T.nE (bF_e m)) rv_I0)
    (fun _ => ev_op (ev_fld (ev_var rfl) hq T.cl T.nB (bF_b m)) (ev_fld (ev_var rfl) hp T.cl T.nE (bF_e k)) rv_I0)) fun H1 e => r H1 e
theorem pure_share (T : Txt K mg C) (vs : List V) (H : Hp) (Q : VK) (E : XK) (h : spShare C vs H Q E) : t_share K { nx := fun _ H' => Q .non H', rt := Q } (start ["booking", "first", "other", "other_first"] vs) H := by
  obtain ⟨p, q, k, m, f, g, rfl, ⟨dx, hp⟩, ⟨dy, hq⟩, r⟩ := h
  exact s_ret (ev_andV (ev_op (ev_var rfl) (ev_op (ev_var rfl) (ev_fld (ev_var rfl) hq T.cl T.nW (bF_w m)) rv_I0) rv_I0)
    (fun _ => ev_op (ev_var rfl) (ev_op (ev_var rfl) (ev_fld (ev_var rfl) hp T.cl T.nW (bF_w k)) rv_I0) rv_I0)) fun H1 e => r H1 e
theorem at_get {ns : List Int} {i : Nat} {z : Int} (e : z = (i : Int)) (h : i < ns.length) : atI (ns.map V.int) z = some (.int (ns.getD i 0)) := by
  refine at_of e ?_
  rw [List.getElem?_map, List.getElem?_eq_getElem h, List.getD_eq_getElem?_getD, List.getElem?_eq_getElem h]
  rfl
/-- one booking made of three numbers -/
theorem make_bk {σ : L2.St} {H : Hp} {t : TA} {b e w : Int} (h : EvA t σ H [.int b, .int e, .int w]) : ∀ H1, Ex H H1 → ∀ Q : VK, (∀ a H2, Ex H1 H2 → BkAt C H2 a ⟨b, e, w⟩ → Q (.ref a) H2) → tMake C (spInit C) [] E0 t σ H1 Q := fun H1 e1 Q q =>
  h H1 e1 _ fun H2 e2 x dx nx nd _ => ⟨x, dx, b, e, w, rfl, upd_same, fun H3 J kp => ⟨rfl, q x H3 (e2.trans (Same.made nx nd kp)) J⟩⟩
/-- what a comprehension over a range has made of bookings behind i turns -/
def Cb (C : Addr) (H : Hp) (D : Addr) (ks : List Bk) (i : Nat) (H' : Hp) : Prop := H D = none ∧ Ex H H' ∧ ∃ as : List Addr, H' D = some (.lst (as.map V.ref)) ∧ as.length = i ∧ ∀ j a, as[j]? = some a → BkAt C H' a (bAt ks j)
theorem cb_turn {H H3 : Hp} {D : Addr} {ks : List Bk} {i : Nat} {te : TE} {σ2 : L2.St} (p : Cb C H D ks i H3) (hi : i < 1000) (h : ∀ H1, Ex H H1 → ∀ Q : VK, (∀ a H2, Ex H1 H2 → BkAt C H2 a (bAt ks i) → Q (.ref a) H2) → te σ2 H1 Q) :
    te σ2 H3 fun y H4 => ∃ acc, H4 D = some (.lst acc) ∧ acc.length < sizeLine ∧ Cb C H D ks (i + 1) (upd H4 D (.lst (acc ++ [y]))) := by
  obtain ⟨hD, e, as, h1, h2, h3⟩ := p
  refine h H3 e _ fun a H4 e4 hb => ⟨as.map V.ref, e4 _ _ h1, Nat.lt_of_le_of_lt (by rw [List.length_map, h2]; exact Nat.le_of_lt hi) (by decide), hD, Ex.mut (e.trans e4) hD, as ++ [a], by rw [upd_same, List.map_append] <;> rfl, by rw [List.length_append, h2] <;> rfl, ?_⟩
  have keep : ∀ {b : Addr} {k : Bk}, BkAt C H4 b k → BkAt C (upd H4 D (.lst (as.map V.ref ++ [V.ref a]))) b k := fun {b k} ⟨dx, hb⟩ => ⟨dx, by
    rw [upd_ne (ne_of hb (e4 _ _ h1) (by intro z; cases z))]
    exact hb⟩
  intro j b hj
  by_cases c : j < as.length
  · rw [List.getElem?_append_left c] at hj
    exact keep ((h3 j b hj).mono e4)
  · have c2 : j = i := by
      obtain ⟨hl, _⟩ := List.getElem?_eq_some_iff.mp hj
      rw [List.length_append] at hl
      have : [a].length = 1 := rfl
      omega
    subst c2
    rw [List.getElem?_append_right (by omega), h2, Nat.sub_self] at hj
    cases hj
    exact keep hb
theorem tyes_of {σ : L2.St} {H : Hp} {A B : Hp → Prop} (h : A H) : tYes σ H fun b H3 => if b = true then A H3 else B H3 := by
  show if true = true then A H else B H
  rw [if_pos rfl]
  exact h
theorem given_all {n : Nat} {v : Nat → V} {xs : List V} (hn : xs.length = n) (h : ∀ i x, xs[i]? = some x → v i = x) : given n (fun _ => true) v = xs := by
  subst hn
  unfold given
  rw [List.filter_eq_self.mpr (fun _ _ => rfl)]
  refine List.ext_getElem (by simp) fun i h1 h2 => ?_
  rw [List.getElem_map, List.getElem_range]
  exact h i _ (List.getElem?_eq_getElem h2)
theorem bAt_of {ks : List Bk} {i : Nat} {k : Bk} (h : ks[i]? = some k) : bAt ks i = k := by
  unfold bAt
  rw [List.getD_eq_getElem?_getD, h]
  rfl
theorem pure_read (vs : List V) (H : Hp) (Q : VK) (E : XK) (h : spRead K C vs H Q E) : t_read K C { nx := fun _ H' => Q .non H', rt := Q } (start ["numbers", "at"] vs) H := by
  obtain ⟨a, ns, rfl, hs, h3, h24, k⟩ := h
  have hl : ((ns.map V.int).length : Int) = (ns.length : Int) := by rw [List.length_map]
  show tLc _ _ _ _ _ _ _ _
  refine ⟨_, rfl, a, ns.map V.int, rfl, .inl hs, 0, ((ns.map V.int).length : Int), 3, ns.length / 3, rfl, by rw [hl]; exact rgc3 _ h24 h3, fun D hD => lc_it (walk_rangeC (lo := 0) (c := 3) (n := ns.length / 3)) (Cb C H D (chunk ns)) ⟨hD, Ex.new hD, [], upd_same, rfl, fun j b hj => by simp at hj⟩ (fun _ _ _ _ => trivial) (fun i x H3 H4 hi p y => ?_) (fun H3 p => ?_)⟩
  · obtain ⟨rfl, rfl⟩ := y
    refine ⟨rfl, tyes_of (cb_turn (te := tMake C (spInit C) [] E0 _) p (by omega) fun H1 e1 Q' q => ?_)⟩
    have g := chunk_get ns i (by omega)
    rw [bAt_of g] at q
    refine make_bk (ea_cons (ev_op (ev_var (v := .ref a) rfl) (ev_var rfl) (rv_ixL (ex_l e1 hs) (at_get (i := 3 * i) (by omega) (by omega)))) (ea_cons (ev_op (ev_var (v := .ref a) rfl) (ev_op (ev_var rfl) ev_c rv_I0) (rv_ixL (ex_l e1 hs) (at_get (i := 3 * i + 1) (by omega) (by omega))))
      (ea_cons (ev_op (ev_var (v := .ref a) rfl) (ev_op (ev_var rfl) ev_c rv_I0) (rv_ixL (ex_l e1 hs) (at_get (i := 3 * i + 2) (by omega) (by omega)))) ea_nil))) H1 (Ex.refl H1) Q' q
  · obtain ⟨_, e, as, h1, h2, h4⟩ := p
    exact k D H3 hD e ⟨as, h1, by rw [h2, chunk_len], h4⟩
theorem pure_are (vs : List V) (H : Hp) (Q : VK) (E : XK) (h : spAre K vs H Q E) : t_are K C { nx := fun _ H' => Q .non H', rt := Q } (start ["numbers", "booking"] vs) H := by
  obtain ⟨a, ns, rfl, hs, h24, k⟩ := h
  have hl : ((ns.map V.int).length : Int) = (ns.length : Int) := by rw [List.length_map]
  have hlen : Ev (tCB (rLenS K) (tCons (tVar 0) tNil)) (start ["numbers", "booking"] [V.ref a]) H (.int (ns.length : Int)) := ev_is (ev_len (ev_var rfl) hs) (by rw [hl])
  refine q_when (et_test (ev_op (ev_op hlen ev_c (rv_I (by show (0 : Int) < 3; decide))) ev_c (rv_ne rfl))) (fun hb H1 e1 => s_ret ev_c fun H2 e2 => ?_) (fun hb H1 e1 => ?_)
  · have hne : ns.length % 3 ≠ 0 := by
      intro z
      have : ((ns.length : Int) % 3) = 0 := by omega
      rw [this] at hb
      simp at hb
    have e : okNs ns = false := by
      unfold okNs
      rw [decide_eq_false hne]
      rfl
    have z := k H2 (e1.trans e2)
    rw [e] at z
    exact z
  have h3 : ns.length % 3 = 0 := by
    simp at hb
    omega
  refine q_when (et_test (ev_op (hlen.mono e1) (ev_op ev_c ev_c (rv_I (.inl ⟨by decide, by decide⟩))) rv_I0)) (fun hb H2 e2 => s_ret ev_c fun H3 e3 => ?_) (fun hb H2 e2 => ?_)
  · have hne : ¬ ns.length ≤ 18 := by
      have := of_decide_eq_true hb
      omega
    have e : okNs ns = false := by
      unfold okNs
      rw [decide_eq_false hne, Bool.and_false]
      rfl
    have z := k H3 ((e1.trans e2).trans e3)
    rw [e] at z
    exact z
  have h18 : ns.length ≤ 18 := by
    have := of_decide_eq_false hb
    omega
  refine ⟨_, rfl, a, ns, rfl, ex_l (e1.trans e2) hs, h3, h24, fun p H3 hp e3 hL => ?_⟩
  obtain ⟨as, hq, hB⟩ := hL
  have e : okNs ns = ((chunk ns).map told).all id := by
    unfold okNs
    rw [decide_eq_true h3, decide_eq_true h18, List.all_map]
    rfl
  have hx : given (as.map V.ref).length (fun _ => true) (fun i => V.bl (told (bAt (chunk ns) i))) = ((chunk ns).map told).map V.bl := by
    refine given_all (by rw [List.length_map, List.length_map, List.length_map, hB.1]) fun i x hi => ?_
    rw [List.getElem?_map, List.getElem?_map] at hi
    cases q : (chunk ns)[i]? with
    | none =>
      rw [q] at hi
      cases hi
    | some m =>
      rw [q] at hi
      show V.bl (told (bAt (chunk ns) i)) = x
      rw [bAt_of q]
      exact Option.some.inj hi
  have z := el_lcL (K := K) (te := tMeth C "is_as_told" (spTold C) [] E0 (tVar 1) tNil) (t := tYes) (vs := [1]) (j := 1) (σ := start ["numbers", "booking"] [V.ref a]) (H := H3) (tl := tC (.ref p)) (fun _ => true) (fun i => V.bl (told (bAt (chunk ns) i))) (ev_c) (sq_of hq)
    (by rw [List.length_map, hB.1, chunk_len]; omega) (fun _ => rfl) (fun i x H4 e4 hi H5 e5 Q' q => q H5 (Ex.refl H5)) (fun i x H4 e4 hi _ => by
      rw [List.getElem?_map] at hi
      cases q : as[i]? with
      | none =>
        rw [q] at hi
        cases hi
      | some b =>
        rw [q] at hi
        obtain rfl := Option.some.inj hi
        obtain ⟨dx, hb⟩ := (hB.2 i b q).mono e4
        exact ev_meth (vs := []) (ev_var rfl) hb (bF_told _) ea_nil fun H5 e5 Q' q' E' => ⟨b, _, rfl, ⟨dx, e5 _ _ hb⟩, fun H6 e6 => q' H6 e6⟩)
  rw [hx] at z
  have g : tRet (tCB (rAll K) (tCons (tLc (iList K (tC (.ref p))) (gName 1) tYes (tMeth C "is_as_told" (spTold C) [] E0 (tVar 1) tNil) [1]) tNil)) { nx := fun _ H' => Q .non H', rt := Q } (start ["numbers", "booking"] [V.ref a]) H3 :=
    s_ret (ev_allN z) fun H4 e4 => by
      have y := k H4 (((e1.trans e2).trans e3).trans e4)
      rw [e] at y
      exact y
  exact g
end
end Lb
/-! # Orders that are tried: bookings put one by one, each as low as it goes; whether a way goes on; the first way -/
namespace Lb
/-- on another's lane in the same hour -/
def hits (b : Bk) (x : Int) (q : Bk × Int) : Bool := meets b q.1 && share b x q.1 q.2
theorem hits_iff {b : Bk} {x : Int} {q : Bk × Int} : hits b x q = true ↔ meets b q.1 = true ∧ x < q.2 + q.1.w ∧ q.2 < x + b.w := by
  unfold hits share
  rw [Bool.and_eq_true, Bool.and_eq_true, decide_eq_true_eq, decide_eq_true_eq]
theorem meets_comm (a b : Bk) : meets a b = meets b a := by
  unfold meets
  rw [Bool.and_comm]
theorem hits_comm (p q : Bk × Int) : hits p.1 p.2 q = hits q.1 q.2 p := by
  rw [Bool.eq_iff_iff, hits_iff, hits_iff, meets_comm]
  exact ⟨fun ⟨a, b, c⟩ => ⟨a, c, b⟩, fun ⟨a, b, c⟩ => ⟨a, c, b⟩⟩
def noHit (p q : Bk × Int) : Prop := hits p.1 p.2 q = false
theorem noHit_symm {p q : Bk × Int} (h : noHit p q) : noHit q p := by
  unfold noHit at h ⊢
  rw [hits_comm]
  exact h
/-! ## the lowest lane that is free -/
def scan (b : Bk) : Int → List (Bk × Int) → Int
  | f, [] => f
  | f, q :: l => scan b (if hits b f q = true then q.2 + q.1.w else f) l
theorem scan_stay {b : Bk} {f : Int} : ∀ {l : List (Bk × Int)}, (∀ q ∈ l, f + b.w ≤ q.2) → scan b f l = f
  | [], _ => rfl
  | q :: l, h => by
    have h1 := h q (by simp)
    have e : ¬ hits b f q = true := fun z => by
      have := (hits_iff.mp z).2.2
      omega
    show scan b (if hits b f q = true then q.2 + q.1.w else f) l = f
    rw [if_neg e]
    exact scan_stay fun x hx => h x (by simp [hx])
theorem scan_ok {b : Bk} : ∀ {l : List (Bk × Int)} {f : Int}, l.Pairwise (fun p q => p.2 ≤ q.2) →
    f ≤ scan b f l ∧ (∀ q ∈ l, hits b (scan b f l) q = false) ∧ ∀ x, f ≤ x → x < scan b f l → ∃ q ∈ l, hits b x q = true
  | [], f, _ => ⟨Int.le_refl _, (fun _ h => absurd h (by simp)), fun x h1 h2 => absurd h2 (by show ¬ x < f; omega)⟩
  | q :: l, f, hs => by
    obtain ⟨hq, hl⟩ := List.pairwise_cons.mp hs
    have e : scan b f (q :: l) = scan b (if hits b f q = true then q.2 + q.1.w else f) l := rfl
    rw [e]
    by_cases c : hits b f q = true
    · rw [if_pos c]
      obtain ⟨i1, i2, i3⟩ := scan_ok (b := b) (l := l) (f := q.2 + q.1.w) hl
      have c' := hits_iff.mp c
      refine ⟨by omega, fun p hp => ?_, fun x h1 h2 => ?_⟩
      · rcases List.mem_cons.mp hp with rfl | hp
        · rw [Bool.eq_false_iff]
          intro z
          have := (hits_iff.mp z).2.1
          omega
        · exact i2 p hp
      · by_cases d : q.2 + q.1.w ≤ x
        · obtain ⟨p, hp, z⟩ := i3 x d h2
          exact ⟨p, by simp [hp], z⟩
        · exact ⟨q, by simp, hits_iff.mpr ⟨c'.1, by omega, by omega⟩⟩
    · rw [if_neg c]
      obtain ⟨i1, i2, i3⟩ := scan_ok (b := b) (l := l) (f := f) hl
      refine ⟨i1, fun p hp => ?_, fun x h1 h2 => ?_⟩
      · rcases List.mem_cons.mp hp with rfl | hp
        · rw [Bool.eq_false_iff]
          intro z
          have z' := hits_iff.mp z
          have c2 : ¬ (f < p.2 + p.1.w ∧ p.2 < f + b.w) := fun y => c (hits_iff.mpr ⟨z'.1, y⟩)
          by_cases d : p.2 < f + b.w
          · omega
          · have := scan_stay (b := b) (f := f) (l := l) fun x hx => by
              have := hq x hx
              omega
            omega
        · exact i2 p hp
      · obtain ⟨p, hp, z⟩ := i3 x h1 h2
        exact ⟨p, by simp [hp], z⟩
/-- the least first lane from 0 on at which nothing of ps is hit -/
def Least (b : Bk) (ps : List (Bk × Int)) (r : Int) : Prop := 0 ≤ r ∧ (∀ q ∈ ps, hits b r q = false) ∧ ∀ x, 0 ≤ x → x < r → ∃ q ∈ ps, hits b x q = true
theorem Least.eq {b : Bk} {ps : List (Bk × Int)} {r s : Int} (h : Least b ps r) (h' : Least b ps s) : r = s := by
  obtain ⟨a1, a2, a3⟩ := h
  obtain ⟨b1, b2, b3⟩ := h'
  by_cases c : r < s
  · obtain ⟨q, hq, z⟩ := b3 r a1 c
    rw [a2 q hq] at z
    cases z
  · by_cases d : s < r
    · obtain ⟨q, hq, z⟩ := a3 s b1 d
      rw [b2 q hq] at z
      cases z
    · omega
theorem least_scan {b : Bk} {ps qs : List (Bk × Int)} (hp : qs.Perm ps) (hs : qs.Pairwise (fun p q => p.2 ≤ q.2)) : Least b ps (scan b 0 qs) := by
  obtain ⟨h1, h2, h3⟩ := scan_ok (b := b) (f := 0) hs
  refine ⟨h1, fun q hq => h2 q (hp.mem_iff.mpr hq), fun x hx hl => ?_⟩
  obtain ⟨q, hq, z⟩ := h3 x hx hl
  exact ⟨q, hp.mem_iff.mp hq, z⟩
theorem sort_snd (ps : List (Bk × Int)) : ∃ qs : List (Bk × Int), qs.Perm ps ∧ qs.Pairwise (fun (p q : Bk × Int) => p.2 ≤ q.2) := by
  refine ⟨ps.mergeSort fun p q => decide (p.2 ≤ q.2), List.mergeSort_perm _ _, ?_⟩
  have h := List.pairwise_mergeSort (le := fun (p q : Bk × Int) => decide (p.2 ≤ q.2)) (fun a b c h1 h2 => by
    rw [decide_eq_true_eq] at h1 h2 ⊢
    omega) (fun a b => by
    rw [Bool.or_eq_true, decide_eq_true_eq, decide_eq_true_eq]
    omega) ps
  exact h.imp fun {a b} h => of_decide_eq_true h
theorem least_any (b : Bk) (ps : List (Bk × Int)) : ∃ r, Least b ps r := by
  obtain ⟨qs, h1, h2⟩ := sort_snd ps
  exact ⟨_, least_scan h1 h2⟩
theorem Least.le {b : Bk} {ps : List (Bk × Int)} {r y : Int} (h : Least b ps r) (hy : 0 ≤ y) (hf : ∀ q ∈ ps, hits b y q = false) : r ≤ y := by
  refine Int.not_lt.mp fun c => ?_
  obtain ⟨q, hq, z⟩ := h.2.2 y hy c
  rw [hf q hq] at z
  cases z
/-! ## one by one, in an order -/
def Fits (n : Int) : List (Bk × Int) → List Bk → Prop
  | _, [] => True
  | ps, b :: l => ∃ r, Least b ps r ∧ r + b.w ≤ n ∧ Fits n (ps ++ [(b, r)]) l
/-- pairs of a booking and its first lane that stand right -/
def Ok (n : Int) (ps : List (Bk × Int)) : Prop := (∀ p ∈ ps, 0 ≤ p.2 ∧ p.2 + p.1.w ≤ n) ∧ ps.Pairwise noHit
theorem Ok.perm {n : Int} {ps qs : List (Bk × Int)} (h : ps.Perm qs) (o : Ok n ps) : Ok n qs :=
  ⟨fun p hp => o.1 p (h.mem_iff.mpr hp), (h.pairwise_iff fun {_ _} => noHit_symm).mp o.2⟩
theorem Ok.snoc {n : Int} {ps : List (Bk × Int)} {b : Bk} {r : Int} (o : Ok n ps) (h : Least b ps r) (hn : r + b.w ≤ n) : Ok n (ps ++ [(b, r)]) := by
  refine ⟨fun p hp => ?_, List.pairwise_append.mpr ⟨o.2, List.pairwise_singleton _ _, fun p hp q hq => ?_⟩⟩
  · rcases List.mem_append.mp hp with hp | hp
    · exact o.1 p hp
    · rw [List.mem_singleton.mp hp]
      exact ⟨h.1, hn⟩
  · rw [List.mem_singleton.mp hq]
    exact noHit_symm (h.2.1 p hp)
/-- what fits in an order is a way -/
theorem fits_ok {n : Int} : ∀ {l : List Bk} {ps : List (Bk × Int)}, Ok n ps → Fits n ps l → ∃ qs : List (Bk × Int), qs.map Prod.fst = l ∧ Ok n (ps ++ qs)
  | [], ps, o, _ => ⟨[], rfl, by rw [List.append_nil]; exact o⟩
  | b :: l, ps, o, ⟨r, h1, h2, h3⟩ => by
    obtain ⟨qs, e, o'⟩ := fits_ok (o.snoc h1 h2) h3
    exact ⟨(b, r) :: qs, by rw [List.map_cons, e], by rw [List.append_assoc] at o'; exact o'⟩
/-- a way in rising order fits: each booking comes to stand no higher than it does there -/
theorem ok_fits {n : Int} : ∀ {qs : List (Bk × Int)} {ps : List (Bk × Int)} {gs : List (Bk × Int)} {ys : List Int}, (∀ q ∈ qs, 1 ≤ q.1.w) → Ok n (ps ++ (gs.zip ys).map (fun z => (z.1.1, z.2)) ++ qs) → gs.length = ys.length → (∀ z ∈ gs.zip ys, z.1.2 ≤ z.2) →
    (∀ z ∈ gs.zip ys, ∀ q ∈ qs, z.2 ≤ q.2) → qs.Pairwise (fun p q => p.2 ≤ q.2) → Fits n (ps ++ gs) (qs.map Prod.fst)
  | [], _, _, _, _, _, _, _, _, _ => trivial
  | (b, y) :: qs, ps, gs, ys, hw, o, hl, hle, hge, hs => by
    obtain ⟨hs1, hs2⟩ := List.pairwise_cons.mp hs
    have hwb : 1 ≤ b.w := hw (b, y) (by simp)
    obtain ⟨r, hr⟩ := least_any b (ps ++ gs)
    have hy := o.1 (b, y) (by simp)
    have far := (List.pairwise_append.mp o.2).2.2
    have free : ∀ q ∈ ps ++ gs, hits b y q = false := fun q hq => by
      rcases List.mem_append.mp hq with hq | hq
      · exact noHit_symm (far q (by simp [hq]) (b, y) (by simp))
      · obtain ⟨j, hj⟩ := List.mem_iff_getElem?.mp hq
        have hj1 : j < gs.length := (List.getElem?_eq_some_iff.mp hj).1
        obtain ⟨v, hv⟩ : ∃ v, ys[j]? = some v := ⟨_, List.getElem?_eq_getElem (by omega)⟩
        have hz : (q, v) ∈ gs.zip ys := List.mem_of_getElem? (i := j) (by rw [List.getElem?_zip_eq_some]; exact ⟨hj, hv⟩)
        have h1 := hle _ hz
        have h2 := hge _ hz (b, y) (by simp)
        have h3 : noHit (b, y) (q.1, v) := noHit_symm (far (q.1, v) (List.mem_append_right _ (List.mem_map.mpr ⟨(q, v), hz, rfl⟩)) (b, y) (by simp))
        rw [Bool.eq_false_iff]
        intro z
        have z' := hits_iff.mp z
        have : hits b y (q.1, v) = true := hits_iff.mpr ⟨z'.1, by dsimp only at *; omega, by dsimp only at *; omega⟩
        unfold noHit at h3
        rw [h3] at this
        cases this
    have le := hr.le hy.1 free
    refine ⟨r, hr, by have := hy.2; dsimp only at *; omega, ?_⟩
    have ih := ok_fits (n := n) (qs := qs) (ps := ps) (gs := gs ++ [(b, r)]) (ys := ys ++ [y]) (fun q hq => hw q (by simp [hq])) ?_ (by simp [hl]) ?_ ?_ hs2
    · rw [← List.append_assoc] at ih
      exact ih
    · rw [List.zip_append hl, List.map_append]
      show Ok n (ps ++ ((gs.zip ys).map (fun z => (z.1.1, z.2)) ++ [(b, y)]) ++ qs)
      have e : ps ++ ((gs.zip ys).map (fun z => (z.1.1, z.2)) ++ [(b, y)]) ++ qs = ps ++ (gs.zip ys).map (fun z => (z.1.1, z.2)) ++ (b, y) :: qs := by simp
      rw [e]
      exact o
    · intro z hz
      rw [List.zip_append hl] at hz
      rcases List.mem_append.mp hz with hz | hz
      · exact hle z hz
      · rw [List.mem_singleton.mp hz]
        exact le
    · intro z hz q hq
      rw [List.zip_append hl] at hz
      rcases List.mem_append.mp hz with hz | hz
      · exact hge z hz q (by simp [hq])
      · rw [List.mem_singleton.mp hz]
        exact hs1 q hq
/-- a permutation of the first parts is one of the pairs -/
theorem perm_fst {α β : Type} : ∀ {l m : List α}, l.Perm m → ∀ {qs : List (α × β)}, qs.map Prod.fst = l → ∃ ps : List (α × β), ps.map Prod.fst = m ∧ ps.Perm qs := by
  intro l m h
  induction h with
  | nil => exact fun {qs} e => ⟨qs, e, .refl _⟩
  | cons x _ ih =>
    intro qs e
    cases qs with
    | nil => cases e
    | cons q qs =>
      obtain ⟨e1, e2⟩ := List.cons.inj e
      obtain ⟨ps, f1, f2⟩ := ih e2
      exact ⟨q :: ps, by rw [List.map_cons, e1, f1], f2.cons q⟩
  | swap x y l =>
    intro qs e
    match qs, e with
    | a :: b :: qs, e =>
      obtain ⟨e1, e2⟩ := List.cons.inj e
      obtain ⟨e3, e4⟩ := List.cons.inj e2
      exact ⟨b :: a :: qs, by rw [List.map_cons, List.map_cons, e1, e3, e4], .swap _ _ _⟩
  | trans _ _ ih1 ih2 =>
    intro qs e
    obtain ⟨ps, f1, f2⟩ := ih1 e
    obtain ⟨rs, g1, g2⟩ := ih2 f1
    exact ⟨rs, g1, g2.trans f2⟩
/-- **trying all orders is enough** -/
theorem orders_enough {n : Int} {ps : List (Bk × Int)} {l : List Bk} (o : Ok n ps) (hw : ∀ b ∈ l, 1 ≤ b.w) : (∃ m : List Bk, m.Perm l ∧ Fits n ps m) ↔ ∃ qs : List (Bk × Int), qs.map Prod.fst = l ∧ Ok n (ps ++ qs) := by
  constructor
  · rintro ⟨m, hm, hf⟩
    obtain ⟨qs, e, o'⟩ := fits_ok o hf
    obtain ⟨rs, e2, hp⟩ := perm_fst hm e
    exact ⟨rs, e2, o'.perm (hp.symm.append_left ps)⟩
  · rintro ⟨qs, e, o'⟩
    obtain ⟨rs, hp, hs⟩ := sort_snd qs
    refine ⟨rs.map Prod.fst, by rw [← e]; exact hp.map _, ?_⟩
    have := ok_fits (n := n) (qs := rs) (ps := ps) (gs := []) (ys := []) (fun q hq => hw _ (by rw [← e]; exact List.mem_map.mpr ⟨q, hp.mem_iff.mp hq, rfl⟩)) (by simpa using o'.perm (hp.symm.append_left ps)) rfl (by simp) (by simp) hs
    rw [List.append_nil] at this
    exact this
end Lb
/-! # Whether a way goes on; the search for the first one; the fewest lanes -/
namespace Lb
theorem rightP_ok {n : Int} : ∀ {ks : List Bk} {gs : List Int}, gs.length = ks.length → (Ok n (ks.zip gs) ↔ (∀ x ∈ gs, 0 ≤ x) ∧ rightP n ks gs)
  | [], [], _ => ⟨fun _ => ⟨fun _ h => absurd h (by simp), fun k hk => absurd hk (Nat.not_lt_zero _)⟩, fun _ => ⟨fun _ h => absurd h (by simp), List.Pairwise.nil⟩⟩
  | [], _ :: _, h => by simp at h
  | _ :: _, [], h => by simp at h
  | b :: l, x :: r, h => by
    have hl : r.length = l.length := by simpa using h
    have ih := rightP_ok (n := n) (ks := l) (gs := r) hl
    have key : (∀ q ∈ l.zip r, noHit (b, x) q) ↔ ∀ k, k < l.length → (meets (bAt l k) b && share (bAt l k) (fAt r k) b x) = false := by
      constructor
      · intro hq k hk
        have hz : (bAt l k, fAt r k) ∈ l.zip r := List.mem_of_getElem? (i := k) (by
          rw [List.getElem?_zip_eq_some]
          unfold bAt fAt
          rw [List.getD_eq_getElem?_getD, List.getD_eq_getElem?_getD, List.getElem?_eq_getElem hk, List.getElem?_eq_getElem (by omega)]
          exact ⟨rfl, rfl⟩)
        exact noHit_symm (hq _ hz)
      · intro hk q hq
        obtain ⟨k, e⟩ := List.mem_iff_getElem?.mp hq
        obtain ⟨e1, e2⟩ := List.getElem?_zip_eq_some.mp e
        have hk1 : k < l.length := (List.getElem?_eq_some_iff.mp e1).1
        have h1 := hk k hk1
        have f1 : bAt l k = q.1 := by
          unfold bAt
          rw [List.getD_eq_getElem?_getD, e1]
          rfl
        have f2 : fAt r k = q.2 := by
          unfold fAt
          rw [List.getD_eq_getElem?_getD, e2]
          rfl
        rw [f1, f2] at h1
        exact noHit_symm (p := q) (q := (b, x)) h1
    rw [rightP_cons, ← key]
    unfold Ok at ih ⊢
    rw [List.zip_cons_cons, List.pairwise_cons]
    constructor
    · rintro ⟨h1, h2, h3⟩
      obtain ⟨i1, i2⟩ := ih.mp ⟨fun p hp => h1 p (by simp [hp]), h3⟩
      have hb := h1 (b, x) (by simp)
      refine ⟨fun y hy => ?_, hb.2, h2, i2⟩
      rcases List.mem_cons.mp hy with rfl | hy
      · exact hb.1
      · exact i1 y hy
    · rintro ⟨h1, h2, h3, h4⟩
      obtain ⟨i1, i2⟩ := ih.mpr ⟨fun y hy => h1 y (by simp [hy]), h4⟩
      refine ⟨fun p hp => ?_, h3, i2⟩
      rcases List.mem_cons.mp hp with rfl | hp
      · exact ⟨h1 _ (by simp), h2⟩
      · exact i1 p hp
/-- a right way for all -/
def Way (n : Int) (ks : List Bk) (gs : List Int) : Prop := gs.length = ks.length ∧ (∀ x ∈ gs, 0 ≤ x) ∧ rightP n ks gs
theorem way_ok {n : Int} {ks : List Bk} {gs : List Int} : Way n ks gs ↔ gs.length = ks.length ∧ Ok n (ks.zip gs) := by
  constructor
  · rintro ⟨h1, h2, h3⟩
    exact ⟨h1, (rightP_ok h1).mpr ⟨h2, h3⟩⟩
  · rintro ⟨h1, h2⟩
    obtain ⟨h3, h4⟩ := (rightP_ok h1).mp h2
    exact ⟨h1, h3, h4⟩
/-- a right way begins so -/
def Goes (n : Int) (ks : List Bk) (fs : List Int) : Prop := ∃ gs, Way n ks (fs ++ gs)
theorem zip_parts {ks : List Bk} {fs gs : List Int} (h : fs.length ≤ ks.length) : ks.zip (fs ++ gs) = (ks.take fs.length).zip fs ++ (ks.drop fs.length).zip gs := by
  have e := List.zip_append (l₁ := ks.take fs.length) (r₁ := ks.drop fs.length) (l₂ := fs) (r₂ := gs) (by rw [List.length_take]; omega)
  rw [List.take_append_drop] at e
  exact e
theorem unzip_eq : ∀ qs : List (Bk × Int), (qs.map Prod.fst).zip (qs.map Prod.snd) = qs
  | [] => rfl
  | q :: qs => by rw [List.map_cons, List.map_cons, List.zip_cons_cons, unzip_eq qs]
theorem goes_iff {n : Int} {ks : List Bk} {fs : List Int} (h : fs.length ≤ ks.length) (hp : ∀ x ∈ fs, 0 ≤ x) (hw : ∀ b ∈ ks, 1 ≤ b.w) :
    Goes n ks fs ↔ rightP n (ks.take fs.length) fs ∧ ∃ m : List Bk, m.Perm (ks.drop fs.length) ∧ Fits n ((ks.take fs.length).zip fs) m := by
  have hl : fs.length = (ks.take fs.length).length := by rw [List.length_take]; omega
  have hwd : ∀ b ∈ ks.drop fs.length, 1 ≤ b.w := fun b hb => hw b (List.mem_of_mem_drop hb)
  constructor
  · rintro ⟨gs, hg⟩
    obtain ⟨g1, g2⟩ := way_ok.mp hg
    rw [zip_parts h] at g2
    have o : Ok n ((ks.take fs.length).zip fs) := ⟨fun p hp => g2.1 p (List.mem_append_left _ hp), (List.pairwise_append.mp g2.2).1⟩
    refine ⟨((rightP_ok hl).mp o).2, (orders_enough o hwd).mpr ⟨_, ?_, g2⟩⟩
    rw [List.length_append] at g1
    exact List.map_fst_zip (by rw [List.length_drop]; omega)
  · rintro ⟨h1, h2⟩
    have o : Ok n ((ks.take fs.length).zip fs) := (rightP_ok hl).mpr ⟨hp, h1⟩
    obtain ⟨qs, e, o'⟩ := (orders_enough o hwd).mp h2
    refine ⟨qs.map Prod.snd, way_ok.mpr ⟨?_, ?_⟩⟩
    · have e2 := congrArg List.length e
      rw [List.length_map, List.length_drop] at e2
      rw [List.length_append, List.length_map, e2]
      omega
    · rw [zip_parts h]
      have e3 : (ks.drop fs.length).zip (qs.map Prod.snd) = qs := by
        rw [← e]
        exact unzip_eq qs
      rw [e3]
      exact o'
/-! ## the search -/
def Lead : List Int → List Int → Prop
  | x :: r, y :: s => x < y ∨ (x = y ∧ Lead r s)
  | _, _ => False
theorem lead_app : ∀ {fs s : List Int} (t : List Int), Lead fs s → Lead (fs ++ t) s
  | [], _, _, h => h.elim
  | _ :: _, [], _, h => h.elim
  | x :: r, y :: s, t, h => by
    rcases h with h | ⟨h1, h2⟩
    · exact .inl h
    · exact .inr ⟨h1, lead_app t h2⟩
theorem lead_at {x y : Int} (h : x < y) : ∀ (fs t : List Int), Lead (fs ++ [x]) (fs ++ y :: t)
  | [], _ => .inl h
  | _ :: fs, t => .inr ⟨rfl, lead_at h fs t⟩
structure Sofar (n : Int) (ks : List Bk) (fs : List Int) : Prop where
  len : fs.length ≤ ks.length
  pos : ∀ x ∈ fs, 0 ≤ x
  goes : fs = [] ∨ Goes n ks fs
  first : ∀ s, Way n ks s → (∃ t, s = fs ++ t) ∨ Lead fs s
theorem sofar_nil {n : Int} {ks : List Bk} : Sofar n ks [] := ⟨Nat.zero_le _, (fun _ h => absurd h (by simp)), .inl rfl, fun s _ => .inl ⟨s, rfl⟩⟩
theorem goes_next {n : Int} {ks : List Bk} {fs t : List Int} (hl : fs.length < ks.length) (hw : Way n ks (fs ++ t)) : ∃ y r, t = y :: r ∧ 0 ≤ y ∧ Goes n ks (fs ++ [y]) := by
  cases t with
  | nil =>
    have := hw.1
    rw [List.append_nil] at this
    omega
  | cons y r => exact ⟨y, r, rfl, hw.2.1 y (by simp), r, by rw [List.append_assoc]; exact hw⟩
theorem Sofar.step {n : Int} {ks : List Bk} {fs : List Int} {x : Int} (S : Sofar n ks fs) (hl : fs.length < ks.length) (hx : 0 ≤ x) (hg : Goes n ks (fs ++ [x])) (hmin : ∀ y, 0 ≤ y → y < x → ¬ Goes n ks (fs ++ [y])) : Sofar n ks (fs ++ [x]) := by
  refine ⟨by rw [List.length_append, List.length_singleton]; omega, fun y hy => ?_, .inr hg, fun s hs => ?_⟩
  · rcases List.mem_append.mp hy with hy | hy
    · exact S.pos y hy
    · rw [List.mem_singleton.mp hy]
      exact hx
  · rcases S.first s hs with ⟨t, rfl⟩ | h
    · obtain ⟨y, r, rfl, hy, g⟩ := goes_next hl hs
      by_cases c : y < x
      · exact absurd g (hmin y hy c)
      · by_cases d : y = x
        · subst d
          exact .inl ⟨r, by rw [List.append_assoc]; rfl⟩
        · exact .inr (lead_at (by omega) fs r)
    · exact .inr (lead_app _ h)
theorem goes_lt {n : Int} {ks : List Bk} {fs : List Int} {y : Int} (hw : ∀ b ∈ ks, 1 ≤ b.w) (g : Goes n ks (fs ++ [y])) : y < n := by
  obtain ⟨gs, h1, _, h3⟩ := g
  rw [List.append_assoc] at h1 h3
  have hk : fs.length < ks.length := by
    rw [← h1, List.length_append, List.length_append, List.length_singleton]
    omega
  have h := (h3 fs.length hk).1
  have e : fAt (fs ++ ([y] ++ gs)) fs.length = y := by
    unfold fAt
    rw [List.getD_eq_getElem?_getD, List.getElem?_append_right (Nat.le_refl _), Nat.sub_self]
    rfl
  rw [e] at h
  have := hw _ (bAt_mem hk)
  omega
theorem Sofar.stuck {n : Int} {ks : List Bk} {fs : List Int} (S : Sofar n ks fs) (hl : fs.length < ks.length) (hw : ∀ b ∈ ks, 1 ≤ b.w) (h : ∀ y, 0 ≤ y → y < n → ¬ Goes n ks (fs ++ [y])) : ∀ s, ¬ Way n ks s := by
  have no : ∀ t, ¬ Way n ks (fs ++ t) := fun t ht => by
    obtain ⟨y, r, _, hy, g⟩ := goes_next hl ht
    exact h y hy (goes_lt hw g) g
  intro s hs
  rcases S.goes with rfl | ⟨t, ht⟩
  · exact no s hs
  · exact no t ht
theorem Sofar.done {n : Int} {ks : List Bk} {fs : List Int} (S : Sofar n ks fs) (hl : fs.length = ks.length) : Way n ks fs ∧ ∀ s, Way n ks s → s = fs ∨ Lead fs s := by
  refine ⟨?_, fun s hs => ?_⟩
  · rcases S.goes with rfl | ⟨t, ht⟩
    · exact ⟨hl, (fun _ h => absurd h (by simp)), fun k hk => absurd hk (by rw [← hl]; exact Nat.not_lt_zero _)⟩
    · have e := ht.1
      rw [List.length_append] at e
      have : t = [] := List.length_eq_zero_iff.mp (by omega)
      rw [this, List.append_nil] at ht
      exact ht
  · rcases S.first s hs with ⟨t, rfl⟩ | h
    · have e := hs.1
      rw [List.length_append] at e
      have : t = [] := List.length_eq_zero_iff.mp (by omega)
      rw [this, List.append_nil]
      exact .inl rfl
    · exact .inr h
/-! ## the specification's search -/
theorem toNat_ofNat : ∀ s : List Nat, (s.map Int.ofNat).map Int.toNat = s
  | [] => rfl
  | x :: s => by rw [List.map_cons, List.map_cons, toNat_ofNat s] <;> rfl
theorem lead_lex : ∀ {fs : List Int} {s : List Nat}, (∀ x ∈ fs, 0 ≤ x) → Lead fs (s.map Int.ofNat) → Lw.lexLt (fs.map Int.toNat) s
  | [], _, _, h => h.elim
  | _ :: _, [], _, h => h.elim
  | x :: r, y :: s, hp, h => by
    have hx := hp x (by simp)
    rcases h with h | ⟨h1, h2⟩
    · exact .inl (by show x.toNat < y; have : x < (y : Int) := h; omega)
    · exact .inr ⟨by show x.toNat = y; have : x = (y : Int) := h1; omega, lead_lex (fun z hz => hp z (by simp [hz])) h2⟩
theorem way_right {n : Int} {ks : List Bk} {gs : List Int} (hn : 0 ≤ n) (ht : ∀ k ∈ ks, told k = true) (hl : gs.length = ks.length) (hp : ∀ x ∈ gs, 0 ≤ x) : Way n ks gs ↔ Ks437.right n.toNat (ks.map toB) (gs.map Int.toNat) = true :=
  ⟨fun h => (right_iff hn hl.symm ht hp).mpr h.2.2, fun h => ⟨hl, hp, (right_iff hn hl.symm ht hp).mp h⟩⟩
theorem right_len {n : Nat} : ∀ {l : List Ks437.Booking} {r : List Nat}, Ks437.right n l r = true → r.length = l.length
  | [], [], _ => rfl
  | [], _ :: _, h => by simp [Ks437.right] at h
  | _ :: _, [], h => by simp [Ks437.right] at h
  | _ :: l, _ :: r, h => by
    unfold Ks437.right at h
    rw [Bool.and_eq_true] at h
    rw [List.length_cons, List.length_cons, right_len h.2]
theorem way_of {n : Int} {ks : List Bk} {s : List Nat} (hn : 0 ≤ n) (ht : ∀ k ∈ ks, told k = true) (h : Ks437.right n.toNat (ks.map toB) s = true) : Way n ks (s.map Int.ofNat) := by
  have hl := right_len h
  rw [List.length_map] at hl
  refine (way_right hn ht (by rw [List.length_map]; exact hl) fun x hx => ?_).mpr (by rw [toNat_ofNat]; exact h)
  obtain ⟨y, _, rfl⟩ := List.mem_map.mp hx
  exact Int.natCast_nonneg y
theorem put_found {n : Int} {ks : List Bk} {fs : List Int} (hn : 0 ≤ n) (ht : ∀ k ∈ ks, told k = true) (h : Way n ks fs ∧ ∀ s, Way n ks s → s = fs ∨ Lead fs s) : Ks437.put n.toNat [] (ks.map toB) = some (fs.map Int.toNat) := by
  obtain ⟨h1, h2⟩ := h
  refine Lw.put_eq (Lw.okExt_right.mpr ((way_right hn ht h1.1 h1.2.1).mp h1)) fun s hs => ?_
  have hs' := way_of hn ht (Lw.okExt_right.mp hs)
  rcases h2 _ hs' with e | e
  · exact .inl (by rw [← e, toNat_ofNat])
  · exact .inr (lead_lex h1.2.1 e)
theorem put_lost {n : Int} {ks : List Bk} (hn : 0 ≤ n) (ht : ∀ k ∈ ks, told k = true) (h : ∀ s, ¬ Way n ks s) : Ks437.put n.toNat [] (ks.map toB) = none :=
  Lw.put_none_iff.mpr fun r hr => h _ (way_of hn ht (Lw.okExt_right.mp hr))
theorem goes_ways {n : Int} {ks : List Bk} (hn : 0 ≤ n) (ht : ∀ k ∈ ks, told k = true) : Goes n ks [] ↔ (Ks437.ways n.toNat (ks.map toB)).isSome = true := by
  rw [Lw.ways_isSome]
  constructor
  · rintro ⟨gs, h⟩
    rw [List.nil_append] at h
    exact ⟨_, (way_right hn ht h.1 h.2.1).mp h⟩
  · rintro ⟨r, h⟩
    exact ⟨_, by rw [List.nil_append]; exact way_of hn ht h⟩
/-- from the peak up, the first number at which a way goes -/
theorem fewest_found {ks : List Bk} {p m : Int} (ht : ∀ k ∈ ks, told k = true) (hp : p = (Ks437.peak (ks.map toB) : Int)) (hm : p ≤ m) (hg : Goes m ks []) (hno : ∀ j, p ≤ j → j < m → ¬ Goes j ks []) : (Ks437.fewest (ks.map toB) : Int) = m := by
  have h0 : 0 ≤ m := by omega
  have e : Ks437.fewest (ks.map toB) = m.toNat := Lw.fewest_is ((goes_ways h0 ht).mp hg) fun j hj => by
    cases c : (Ks437.ways j (ks.map toB)).isSome with
    | false => rfl
    | true =>
      have h1 := Lw.ways_peak c
      have h2 : Goes (j : Int) ks [] := (goes_ways (Int.natCast_nonneg j) ht).mpr c
      exact absurd h2 (hno j (by omega) (by omega))
  omega
/-- so many lanes are enough -/
theorem goes_top {n : Int} {ks : List Bk} (ht : ∀ k ∈ ks, told k = true) (h : (Lw.wides (ks.map toB) : Int) ≤ n) : Goes n ks [] :=
  (goes_ways (by omega) ht).mpr (Lw.ways_mono (n := Lw.wides (ks.map toB)) (by omega) (Lw.ways_side _))
end Lb
/-! # All orders: a new one at every place of each order so far -/
namespace Lb
def insAt {α : Type} (v : α) (o : List α) : List (List α) := (List.range (o.length + 1)).map fun i => o.take i ++ [v] ++ o.drop i
theorem mem_insAt {α : Type} {v : α} {o r : List α} : r ∈ insAt v o ↔ ∃ s t, o = s ++ t ∧ r = s ++ v :: t := by
  unfold insAt
  constructor
  · intro h
    obtain ⟨i, _, rfl⟩ := List.mem_map.mp h
    exact ⟨o.take i, o.drop i, (List.take_append_drop i o).symm, by simp⟩
  · rintro ⟨s, t, rfl, rfl⟩
    refine List.mem_map.mpr ⟨s.length, List.mem_range.mpr (by rw [List.length_append]; omega), ?_⟩
    rw [List.take_left, List.drop_left]
    simp
/-- os holds just the orders of pre -/
def AllOf {α : Type} (pre : List α) (os : List (List α)) : Prop := ∀ o, o ∈ os ↔ o.Perm pre
theorem allOf_nil {α : Type} : AllOf ([] : List α) [[]] := fun o => by
  rw [List.mem_singleton]
  exact ⟨fun e => by rw [e], fun h => List.perm_nil.mp h⟩
theorem AllOf.next {α : Type} {pre : List α} {os : List (List α)} {v : α} (h : AllOf pre os) : AllOf (pre ++ [v]) (os.flatMap (insAt v)) := fun r => by
  rw [List.mem_flatMap]
  constructor
  · rintro ⟨o, ho, hr⟩
    obtain ⟨s, t, rfl, rfl⟩ := mem_insAt.mp hr
    have h1 := (h _).mp ho
    exact (List.perm_middle.trans (h1.cons v)).trans (List.perm_append_singleton v pre).symm
  · intro hr
    have hv : v ∈ r := hr.mem_iff.mpr (by simp)
    obtain ⟨s, t, rfl⟩ := List.append_of_mem hv
    have h1 : (v :: (s ++ t)).Perm (v :: pre) := (List.perm_middle.symm.trans hr).trans (List.perm_append_singleton v pre)
    exact ⟨s ++ t, (h _).mpr ((List.perm_cons v).mp h1), mem_insAt.mpr ⟨s, t, rfl, rfl⟩⟩
def fac : Nat → Nat
  | 0 => 1
  | n + 1 => fac n * (n + 1)
theorem fac_le {n : Nat} (h : n ≤ 6) : fac n ≤ 720 := by
  have : ∀ n : Fin 7, fac n.val ≤ 720 := by decide
  exact this ⟨n, by omega⟩
theorem flat_len {α : Type} {v : α} {n : Nat} : ∀ {os : List (List α)}, (∀ o ∈ os, o.length = n) → (os.flatMap (insAt v)).length = os.length * (n + 1)
  | [], _ => by simp
  | o :: os, h => by
    rw [List.flatMap_cons, List.length_append, flat_len (os := os) fun x hx => h x (by simp [hx]), List.length_cons, Nat.succ_mul]
    unfold insAt
    rw [List.length_map, List.length_range, h o (by simp)]
    omega
theorem perm_map {α β : Type} {f : β → α} : ∀ {l m : List α}, l.Perm m → ∀ {qs : List β}, qs.map f = l → ∃ ps : List β, ps.map f = m ∧ ps.Perm qs := by
  intro l m h
  induction h with
  | nil => exact fun {qs} e => ⟨qs, e, .refl _⟩
  | cons x _ ih =>
    intro qs e
    cases qs with
    | nil => cases e
    | cons q qs =>
      obtain ⟨e1, e2⟩ := List.cons.inj e
      obtain ⟨ps, f1, f2⟩ := ih e2
      exact ⟨q :: ps, by rw [List.map_cons, e1, f1], f2.cons q⟩
  | swap x y l =>
    intro qs e
    match qs, e with
    | a :: b :: qs, e =>
      obtain ⟨e1, e2⟩ := List.cons.inj e
      obtain ⟨e3, e4⟩ := List.cons.inj e2
      exact ⟨b :: a :: qs, by rw [List.map_cons, List.map_cons, e1, e3, e4], .swap _ _ _⟩
  | trans _ _ ih1 ih2 =>
    intro qs e
    obtain ⟨ps, f1, f2⟩ := ih1 e
    obtain ⟨rs, g1, g2⟩ := ih2 f1
    exact ⟨rs, g1, g2.trans f2⟩
end Lb
set_option Elab.async false
set_option maxRecDepth 100000
set_option maxHeartbeats 2000000
/-! # sorted(xs, key=lambda pair: pair[1]) over the layer: a lambda of one parameter that reads the second item of a tuple, made anew at each call, its code object in the maker's table -/
namespace Lb
open PySem PySem.Spec PyProof.Rows L2

/-- the lambda's body reads item 1 of its one parameter -/
structure Snd (ar : Arguments) (body : Expr) (sc : Scope) (x : Str) : Prop where
  bind : ∀ (q : Str) (cl : List (Str × Addr)) (pm cdv ct v : Value), bindArgs (PySem.W.kla_fn "<lambda>" q ar body sc cl pm cdv ct) ⟨[v], []⟩ = pure [(x, v)]
  body : ∃ (p1 p2 p3 : Pos) (j : Nat), body = .Subscript (.Name x p1) (.Constant (.int 1) j p2) p3
  nocell : ∀ y ∈ sc.names, y.2 ≠ .cell
  loc : sc.names.lookup x = some .local
  kind : sc.kind = .function
  co : sc.isCoroutine = false
  gen : sc.isGenerator = false
  nd : (x == ("__debug__" : Str)) = false

section
variable {prog : Program} {w : World} {A : Around} {E : Value → Shared → Prop} {s : Shared}
/-- the lambda called with a tuple: its second item; all that stood stands -/
theorem snd_called {ar : Arguments} {body : Expr} {sc : Scope} {x : Str} {clos : List (Str × Addr)} {pm ctv : Value} {q : Str} {f c' t : Addr} {a b : Value} {Q : Value → Shared → Prop} (S : Snd ar body sc x) (room : A.depth < recursionLimit)
    (hf : s.heap.get? f = some (PySem.W.kla_obj "<lambda>" q ar body sc clos pm c' ctv)) (hc : s.heap.CodeRec (.ref c') q) (lim : s.heap.NoLimit) (ht : IsTup s.heap t #[a, b])
    (hQ : ∀ (h' : Heap) (tk : Nat), (∀ d o, s.heap.get? d = some o → h'.get? d = some o) → Q b { s with heap := h', toks := tk }) : wpAny (model prog w) A (call (.ref f) [.ref t]) Q E s := by
  obtain ⟨p1, p2, p3, j, rfl⟩ := S.body
  refine wpAny_call (codeAny_mono (R := fun r s' => r = .ok (.ret b) ∧ Q b s') (PySem.W.kla_callFunE room hf rfl S.co S.gen rfl hc ?_) fun r s' hr => ?_)
  · rw [S.bind]
    refine wpAny_pure (wpAny_newFunctionEnv S.nocell (fun y hy => ?_) (fun h1 hn hs => ⟨lim.fresh _ hs, ?_⟩) S.kind)
    · rw [List.mem_singleton.mp hy]
      exact S.loc
    have kp : ∀ d o, s.heap.get? d = some o → h1.get? d = some o := fun d o e => hs.extBut d o (Nat.ne_of_lt (Heap.lt_size e)) (Heap.get?_push_of_some _ e)
    refine PySem.W.kla_codeExpr ?_
    have hk : Env.kindOf (newEnv sc s.heap.objs.size mainGlobals clos (q ++ ".<locals>.") (some f) (.ref c') none builtinsNs) x = some .local := S.loc
    have hv : ([(x, Value.ref t)].reverse.lookup x) = some (.ref t) := by simp
    refine Subscript_ (wpAny_Name (wpAny_loadName_local S.kind hk hn hv ?_) S.nd)
    refine wpAny_Constant_int ?_
    have ht1 : IsTup h1 t #[a, b] := by
      obtain ⟨o, e, r⟩ := ht
      exact ⟨o, kp _ _ e, r⟩
    refine subscriptTail_builtinR (x := b) (ht1.typeIs) slot_tuple_getitem.lookup (getItem_tuple (j := 1) ht1 (by decide) (by decide) (by rfl) (by rfl) ⟨rfl, ?_⟩)
    exact ⟨rfl, hQ h1 _ kp⟩
  · obtain ⟨e, hq⟩ := hr
    subst e
    exact hq
end
theorem refs_eq (ps : List (Addr × Int)) : ∀ {us : List Value}, Vals (ps.map fun p => V.ref p.1) us → us = ps.map fun p => Value.ref p.1 := by
  induction ps with
  | nil =>
    intro us h
    cases h
    rfl
  | cons p ps ih =>
    intro us h
    cases h with
    | cons h t =>
      rw [ih t, show _ = Value.ref p.1 from h]
      rfl
theorem obj_there {P : Program} {w : World} {H : Hp} {h : Heap} {a : Addr} : ∀ {o : HO}, ObjOk P w H h a o → ∃ u, h.get? a = some u
  | .lst _, x => let ⟨_, _, _, _, g⟩ := x
    ⟨_, g⟩
  | .tup _, x => let ⟨_, _, _, _, g, _⟩ := x
    ⟨_, g⟩
  | .dK _, x => let ⟨_, _, _, _, _, _, _, g, _⟩ := x
    ⟨_, g⟩
  | .dT _, x => let ⟨_, _, _, _, _, _, _, g, _⟩ := x
    ⟨_, g⟩
  | .set _ _, x => let ⟨_, _, _, _, g, _⟩ := x
    ⟨_, g⟩
  | .ins _ _ _, x => let ⟨_, _, _, g, _⟩ := x
    ⟨_, g⟩
  | .own _, x => x
  | .xd _, x => let ⟨_, ⟨_, _, _, g, _⟩, _⟩ := x
    ⟨_, g⟩
  | .rng _ _, x => let ⟨_, _, _, g⟩ := x
    ⟨_, g⟩
  | .frz _ _, x => ⟨_, x.1⟩
  | .tbl _, x => ⟨_, x⟩
  | .met _ _, x => ⟨_, x⟩
  | .ext _, x => x.2.1
def unRef : Int × Value → Addr × Int
  | (k, .ref a) => (a, k)
  | (k, _) => (0, k)
theorem vals_of_pairs : ∀ qs : List (Addr × Int), Vals (qs.map fun p => V.ref p.1) (qs.map fun p => Value.ref p.1)
  | [] => .nil
  | _ :: qs => .cons rfl (vals_of_pairs qs)
section
variable {X : Cx} {pins : List (Addr × Obj)} {σ : L2.St} {H : Hp} {s : Shared}
/-- sorted(.., key=f), f the lambda: the tuples in the order of their second items -/
theorem sorted_snd {ar : Arguments} {body : Expr} {sc : Scope} {x : Str} {clos : List (Str × Addr)} {pm ctv : Value} {qn : Str} {f c' a : Addr} {ps : List (Addr × Int)} {Q : VK} (I : Inv X pins σ H s) (S : Snd ar body sc x) (room : X.A.depth < recursionLimit)
    (hf : s.heap.get? f = some (PySem.W.kla_obj "<lambda>" qn ar body sc clos pm c' ctv)) (hc : H c' = some (LamX.CodeO c' qn)) (ha : SqL X.K H a (ps.map fun p => V.ref p.1)) (hp : ∀ p ∈ ps, ∃ v, H p.1 = some (.tup [v, .int p.2])) (h64 : ps.length < 64)
    (q : ∀ (qs : List (Addr × Int)) (p : Addr), qs.Perm ps → qs.Pairwise (fun y z => y.2 ≤ z.2) → H p = none → Q (.ref p) (upd H p (.lst (qs.map fun p => V.ref p.1)))) :
    wpAny (model X.prog X.w) X.A (call (.builtin "sorted") [.ref a] [(Str.ofString "key", .ref f)]) (EP X pins σ Q) X.xe s := by
  obtain ⟨its, rv, hl, hz⟩ := I.list ha
  obtain rfl := refs_eq ps rv
  obtain ⟨m, F⟩ := I.fr
  have kp : ∀ {h : Heap} {own : List (Addr × Obj)}, Fr X.base X.env.locals h m → News X.base X.env.locals h (allNews X.base s.heap X.env.locals ++ own) → ∀ b o, b ≠ X.env.locals → s.heap.get? b = some o → h.get? b = some o := fun {h own} F' N' b o hb e => by
    cases g : X.base.get? b with
    | some u =>
      have e2 := I.bk b u g
      rw [e] at e2
      cases e2
      exact F'.keep b _ g
    | none => exact (N' (b, o) (List.mem_append_left _ (mem_allNews hb g e))).1
  have neL : ∀ {b : Addr} {u : HO}, H b = some u → b ≠ X.env.locals := fun {b u} e z => by
    rw [z, I.free] at e
    cases e
  have fL : f ≠ X.env.locals := fun z => by
    obtain ⟨o, es, ep, e, hd, _⟩ := F.ns
    rw [← z, hf] at e
    cases e
    cases hd
  refine ksk_sorted (b := false) (kz := ps.map (·.2)) F news_all hl.isList (by rw [List.length_map, List.length_map]) (by rw [List.length_map]; exact h64) (ksk_s1 _ _) (fun _ => ksk_l1 _ _) (fun y => ksk_t1 f y) (fun i v k hv hk h tk own F' N' => ?_) fun D h' tk out c F' N' l1 ko => ?_
  · rw [List.getElem?_map] at hv hk
    cases g : ps[i]? with
    | none =>
      rw [g] at hv
      cases hv
    | some pr =>
      rw [g] at hv hk
      cases hv
      cases hk
      obtain ⟨u, hu⟩ := hp pr (List.mem_of_getElem? g)
      obtain ⟨_, js, rj, ht⟩ := I.hok _ _ hu
      obtain ⟨u1, u2, rfl, _, t2, rfl⟩ := vals2 rj
      obtain ⟨⟨oc, vs, tq, e1, e2, e3⟩, _, _⟩ := I.hok _ _ hc
      have kp' := kp F' N'
      refine snd_called (s := { s with heap := h, toks := tk }) S room (kp' _ _ fL hf) ⟨c', oc, vs, tq, rfl, kp' _ _ (neL hc) e1, e2, e3⟩ ((I.mod.nolimit).keeps F'.keep) ?_ (a := u1) (b := .int pr.2 t2) fun h2 tk2 k2 => ?_
      · obtain ⟨o, e, r⟩ := ht
        exact ⟨o, kp' _ _ (neL hu) e, r⟩
      · exact ⟨h2, tk2, t2, rfl, rfl, F'.kept k2, N'.grown k2⟩
  · obtain ⟨zs, z1, z2, z3⟩ := ko
    have hDL : D ≠ X.env.locals := (N' (D, seqObj "list" out c) (.head _)).2.1
    have hDn : s.heap.get? D = none := by
      cases g : s.heap.get? D with
      | none => rfl
      | some o => exact absurd (l1 (D, o) (mem_allNews hDL (N' (D, seqObj "list" out c) (.head _)).2.2 g)) (Nat.lt_irrefl _)
    have hHD : H D = none := by
      cases g : H D with
      | none => rfl
      | some u =>
        obtain ⟨o, e⟩ := obj_there (I.hok D u g)
        rw [hDn] at e
        cases e
    have N2 : News X.base X.env.locals h' (allNews X.base s.heap X.env.locals ++ []) := fun p hp => by
      rw [List.append_nil] at hp
      exact N' p (.tail _ hp)
    have kp' := kp F' N2
    have mem : ∀ y ∈ zs, ∃ pr ∈ ps, y = (pr.2, Value.ref pr.1) := fun y hy => by
      have h1 := z1.mem_iff.mp hy
      rw [List.zip_map'] at h1
      obtain ⟨pr, hpr, e⟩ := List.mem_map.mp h1
      exact ⟨pr, hpr, e.symm⟩
    have e1 : zs.map Prod.snd = (zs.map unRef).map fun p => Value.ref p.1 := by
      rw [List.map_map]
      refine List.map_congr_left fun y hy => ?_
      obtain ⟨pr, _, rfl⟩ := mem y hy
      rfl
    have e2 : (zs.map unRef).Perm ps := by
      have h1 := z1.map unRef
      rw [List.zip_map', List.map_map] at h1
      have h2 : ps.map (unRef ∘ fun x => (x.2, Value.ref x.1)) = ps := Eq.trans (List.map_congr_left fun y _ => rfl) (List.map_id ps)
      rw [h2] at h1
      exact h1
    have e3 : (zs.map unRef).Pairwise (fun y z => y.2 ≤ z.2) := by
      rw [List.pairwise_map]
      refine z3.imp_of_mem fun {y z} hy hz h => ?_
      obtain ⟨p1, _, rfl⟩ := mem y hy
      obtain ⟨p2, _, rfl⟩ := mem z hz
      exact h
    have hlen : ((zs.map unRef).map fun p => V.ref p.1).length ≤ sizeLine := by
      rw [List.length_map, e2.length_eq]
      exact Nat.le_trans (Nat.le_of_lt h64) (by decide)
    have hob : h'.get? D = some (seqObj "list" out c) := (N' (D, seqObj "list" out c) (.head _)).1
    refine ⟨.ref D, upd H D (.lst ((zs.map unRef).map fun p => V.ref p.1)), ?_, rfl, q _ D e2 e3 hHD⟩
    have nD : ∀ {b : Addr} {u : HO}, H b = some u → b ≠ D := fun {b u} e => ne_of_none e hHD
    have lD : ∀ {b : Addr} {o : Obj}, s.heap.get? b = some o → b ≠ D := fun {b o} e z => by
      rw [z, hDn] at e
      cases e
    refine I.step (g' := s.gens) (d' := s.drawn) (ch := []) (fun b hb => absurd hb (by simp)) (fun b o h1 _ _ e _ => kp' b o h1 e) (fun b o h1 _ _ e _ => ⟨o.slots, kp' b o h1 e⟩) (fun b o _ e n => by rw [upd_ne (lD e)]; exact n) (fun b o _ e => ?_)
      (fun b xs e => by rw [upd_ne (nD e)]; exact e) (fun b o u e => by rw [upd_ne (nD e)]; exact e) (fun b qs e => ⟨#[], by rw [upd_ne (nD e), e]; simp⟩) (fun m' hm => ?_) (fun b u e => ?_) I.bare
    · by_cases hb : b = X.env.locals
      · obtain ⟨o', _, _, e', _⟩ := F'.ns
        exact ⟨o', by rw [hb]; exact e'⟩
      · exact ⟨o, kp' b o hb e⟩
    · have e' : m' = m := hm.eq_nsMap.trans F.ns.eq_nsMap.symm
      rw [e']
      exact F'.ns
    · by_cases hb : b = D
      · rw [hb, upd_same] at e
        cases e
        rw [hb]
        refine ⟨hlen, out.toList, c, ?_, by rw [Array.toArray_toList]; exact hob⟩
        rw [z2, e1]
        exact vals_of_pairs _
      · rw [upd_ne hb] at e
        refine (I.hok b u e).stay (fun d v hd g => kp' d v ?_ g) (fun d g => by rw [upd_ne (nD g)]; exact g) fun d xs g => by rw [upd_ne (nD g)]; exact g
        rcases hd with z | z
        · rw [z]
          exact neL e
        · exact neL z
/-- a list of tuples is told by ps: each tuple's address and its second item -/
def tSortL (T : List (Addr × Str)) (K : PySem.W.Frag) (te : TE) : TE := fun σ H Q => te σ H fun x H1 => LamX.Tabs T H1 ∧ ∃ (a : Addr) (ps : List (Addr × Int)), x = .ref a ∧ SqL K H1 a (ps.map fun p => V.ref p.1) ∧ (∀ p ∈ ps, ∃ v, H1 p.1 = some (.tup [v, .int p.2])) ∧ ps.length < 64 ∧
  ∀ H2, LamX.ExtN H1 H2 → LamX.Tabs T H2 → ∀ (qs : List (Addr × Int)) (p : Addr), qs.Perm ps → qs.Pairwise (fun y z => y.2 ≤ z.2) → H2 p = none → Q (.ref p) (upd H2 p (.lst (qs.map fun p => V.ref p.1)))
theorem sqL_ext {K : PySem.W.Frag} {H H' : Hp} {a : Addr} {xs : List V} (e : LamX.ExtN H H') (h : SqL K H a xs) : SqL K H' a xs := by
  rcases h with (h | ⟨o, h⟩) | h
  · exact .inl (.inl (e _ _ h fun ps z => by cases z))
  · exact .inl (.inr ⟨o, e _ _ h fun ps z => by cases z⟩)
  · exact .inr h
/-- sorted(e, key=lambda x: x[1]) -/
theorem pe_sortL {T : List (Addr × Str)} {c P : Addr} {e : Expr} {te : TE} {ar : Arguments} {body : Expr} {sc : Scope} {x : Str} {p lp kp pos : Pos} (S : Snd ar body sc x) (TB : LamX.TabB X.base X.mg c P) (hcode : X.env.code = .ref c) (hT : (P, X.env.qual ++ "<lambda>") ∈ T)
    (hu : ∀ p ∈ T, p.1 = P → p.2 = X.env.qual ++ "<lambda>") (hdef : defaultsOf ar X.env = ([], [])) (nofree : ∀ y ∈ sc.names, y.2 ≠ .free) (room : X.A.depth < recursionLimit) (hg : Gl X "sorted") (hm : X.mg "sorted" = none) (he : PE X e te) (hs0 : starEach [e] X.env = (false, eval e X.env) :: starEach [] X.env := by rfl)
    (hs : backTo pos (starEach [e] X.env) = (false, eval e X.env) :: backTo pos (starEach [] X.env) := by rfl) (hpl : (backTo pos (starEach [e] X.env)).any (·.1) = false := by rfl) :
    PE X (.Call (.Name "sorted" p) [e] [⟨some "key", .Lambda ar body sc lp, kp⟩] pos) (tSortL T X.K te) := by
  refine ⟨fun pins s σ H Q I h => ?_⟩
  refine wpAny_Call_Name_kw (ld_blt I hg hm (show bootBuiltins "sorted" = some (.builtin "sorted") by decide +kernel) ?_)
  refine callWith_kw (thn ((pa_cons he pa_nil (hs := hs0)).run pos pins s σ H (fun vs H1 => match vs with
    | [x] => LamX.Tabs T H1 ∧ ∃ (a : Addr) (ps : List (Addr × Int)), x = .ref a ∧ SqL X.K H1 a (ps.map fun p => V.ref p.1) ∧ (∀ p ∈ ps, ∃ v, H1 p.1 = some (.tup [v, .int p.2])) ∧ ps.length < 64 ∧
      ∀ H2, LamX.ExtN H1 H2 → LamX.Tabs T H2 → ∀ (qs : List (Addr × Int)) (p : Addr), qs.Perm ps → qs.Pairwise (fun y z => y.2 ≤ z.2) → H2 p = none → Q (.ref p) (upd H2 p (.lst (qs.map fun p => V.ref p.1)))
    | _ => False) I h) fun us s1 ⟨vs, H1, I1, r1, q1⟩ => ?_) hs hpl rfl rfl
  rcases vs with _ | ⟨v, _ | ⟨v2, vs⟩⟩
  · exact q1.elim
  · obtain ⟨hTb, a, ps, rfl, ha, hp, h64, q⟩ := q1
    obtain ⟨u, rfl, ru⟩ := r1.one
    obtain rfl : u = Value.ref a := ru
    show wpAny _ _ (evalAll ((do let v ← eval (.Lambda ar body sc lp) X.env; standAt pos; pure v) :: [])) _ _ s1
    refine wpAny_evalAll_cons (wpAny_bind (LamX.lam_make2 I1 TB hcode hT hu hTb hdef (fun y hy z => absurd z (nofree y hy)) fun f c' pm ctv H2 s2 I2 eN hT2 hf _ _ hco => wpAny_bind (wpAny_standAt (wpAny_pure (wpAny_evalAll_nil ?_)))))
    exact sorted_snd I2 S room hf hco (sqL_ext eN ha) (fun p hp' => by
      obtain ⟨v, hv⟩ := hp p hp'
      exact ⟨v, eN _ _ hv fun ps z => by cases z⟩) h64 fun qs p h1 h2 h3 => q H2 eN hT2 qs p h1 h2 h3
  · exact q1.elim
end
end Lb
set_option Elab.async false
set_option maxRecDepth 100000
set_option maxHeartbeats 2000000
/-! # list(zip(xs, ys)) over the layer: the tuples are kept, so each turn makes one anew -/
namespace Lb
open PySem PySem.Spec PyProof.Rows L2

/-- a zip object whatever its last tuple is -/
abbrev ZipO (h : Heap) (z TI TO : Addr) (f0 : Value) (f1 : Bool) : Prop :=
  h.get? z = some { cls := .type "zip", dict := none, data := .fields #[f0, .bool f1, .bool false, .ref TI, .ref TO], slots := #[] }
section
variable {prog : Program} {w : World} {A : Around} {E : Value → Shared → Prop} {s : Shared}
theorem own_busy {z TI TO T : Addr} {f1 : Bool} {oT : Obj} {Q : Bool → Shared → Prop} (hz : ZipO s.heap z TI TO (rawInt T) f1) (hT : s.heap.get? T = some oT)
    (hQ : ∀ h0, ZipO h0 z TI TO (rawInt T) true → Heap.SameBut z s.heap h0 → Q false { s with heap := h0 }) : wpAny (model prog w) A (Builtin.SmallTypes.ownedTupleIsFree (.ref z)) Q E s := by
  have n0 : ((T : Int).toNat) = T := Int.toNat_natCast T
  unfold Builtin.SmallTypes.ownedTupleIsFree; refine wpAny_bind (wpAny_field hz rfl (x := rawInt T) rfl (wpAny_bind (m := loadIfAlive ((T : Int).toNat)) ?_))
  rw [n0]; refine PySem.W.kdx_alive hT (wpAny_ite_split (fun z => absurd z (by simp)) fun _ => wpAny_bind (wpAny_field hz rfl (x := .bool f1) rfl ?_))
  cases f1 with
  | true => exact wpAny_ite_split (fun z => absurd (show false = true from z) Bool.false_ne_true) fun _ => wpAny_pure (hQ _ hz (Heap.SameBut.refl _ _))
  | false => exact wpAny_ite_split (fun _ => wpAny_bind (wpAny_setField_rec hz (by simp) fun h3 hz3 hs3 => wpAny_pure (hQ h3 hz3 hs3))) fun z => absurd rfl z
/-- one turn while the tuple of the turn before is still held -/
theorem zip_turn {z TI TO i1 i2 l1 l2 T : Addr} {f1 : Bool} {oT : Obj} {k : Nat} {xs ys : Array Value} {x y : Value} {Q : Option Value → Shared → Prop} (D : ZipApart z TI TO i1 i2 l1 l2)
    (hz : ZipO s.heap z TI TO (rawInt T) f1) (hT : s.heap.get? T = some oT) (hTI : IsPair s.heap TI (.ref i1) (.ref i2)) (h1 : s.heap.IsListIter i1 l1 k) (h2 : s.heap.IsListIter i2 l2 k) (hl1 : s.heap.IsList l1 xs) (hl2 : s.heap.IsList l2 ys) (hx : xs[k]? = some x) (hy : ys[k]? = some y)
    (hQ : ∀ h', ZipO h' z TI TO (rawInt T) true → h'.IsListIter i1 l1 (k + 1) → h'.IsListIter i2 l2 (k + 1) → IsPair h' s.heap.objs.size x y → h'.objs.size = s.heap.objs.size + 1 →
      (∀ c o, c ≠ z → c ≠ i1 → c ≠ i2 → s.heap.get? c = some o → h'.get? c = some o) → Q (some (.ref s.heap.objs.size)) { s with heap := h' }) :
    wpAny (model prog w) A (pyNext (.ref z)) Q E s := by
  have hty : s.TypeIs (.ref z) "zip" := ⟨_, hz, rfl⟩
  unfold pyNext; refine wpAny_bind (wpAny_attempt (wpAny_callSpecial?_slot (name := Str.ofString "__next__") hty F.slot_zip_next (wpAny_call_entry F.slot_zip_next hty F.entry_zip_next ?_ (F.args_zip_next_1 _))))
  refine wpAny_bind (m := field (.ref z) 2) (wpAny_field hz rfl (x := .bool false) rfl (wpAny_bind (m := field (.ref z) 3) (wpAny_field hz rfl (x := .ref TI) rfl (wpAny_bind (wpAny_seqItems hTI rfl (wpAny_bind (m := Builtin.SmallTypes.ownedTupleIsFree (.ref z)) (own_busy hz hT fun h0 hz0 hs0 => ?_)))))))
  rw [if_neg Bool.false_ne_true]; dsimp only
  first | rw [List.forIn_toArray, List.forIn_cons, List.forIn_cons, List.forIn_nil] | (rw [← Array.forIn_toList]; simp only [List.forIn_cons, List.forIn_nil])
  refine wpAny_bind (wpAny_bind (wpAny_bind (wpAny_holding (wpAny_bind (m := Builtin.SmallTypes.nextOf (.ref i1)) ?_))))
  refine (wpAny_nextOf_list_item (h1.extBut hs0.extBut D.i1z) (hl1.extBut hs0.extBut D.l1z) hx fun h3 a3 hs3 => wpAny_pure (wpAny_pure (wpAny_bind (wpAny_bind (wpAny_holding (wpAny_bind (m := Builtin.SmallTypes.nextOf (.ref i2)) ?_))))))
  refine (wpAny_nextOf_list_item ((h2.extBut hs0.extBut D.i2z).extBut hs3.extBut D.i12.symm) ((hl2.extBut hs0.extBut D.l2z).extBut hs3.extBut D.l2i1) hy fun h4 a4 hs4 => wpAny_pure (wpAny_pure (wpAny_pure (wpAny_bind (m := newTuple [x, y]) (wpAny_newTuple ?_ (by show 2 ≤ sizeLine; decide))))))
  have sz : h4.objs.size = s.heap.objs.size := by rw [hs4.1, hs3.1, hs0.1]
  have kp : ∀ c o, c ≠ z → c ≠ i1 → c ≠ i2 → s.heap.get? c = some o → h4.get? c = some o := fun c o c1 c2 c3 e => hs4.extBut _ _ c3 (hs3.extBut _ _ c2 (hs0.extBut _ _ c1 e))
  have hz4 : ZipO h4 z TI TO (rawInt T) true := hs4.extBut _ _ D.i2z.symm (hs3.extBut _ _ D.i1z.symm hz0)
  have a34 : h4.IsListIter i1 l1 (k + 1) := a3.extBut hs4.extBut D.i12
  refine wpAny_pure ⟨_, rfl, wpAny_pure ?_⟩
  show Q (some (.ref h4.objs.size)) _
  rw [sz]
  exact hQ _ (Heap.get?_push_of_some _ hz4) (a34.at fun o e => Heap.get?_push_of_some _ e) (a4.at fun o e => Heap.get?_push_of_some _ e) (by rw [← sz]; exact Heap.get?_push_size _ rfl) (by rw [Heap.size_push, sz]) fun c o c1 c2 c3 e => Heap.get?_push_of_some _ (kp c o c1 c2 c3 e)
theorem zip_over {z TI TO i1 i2 l1 l2 T : Addr} {f1 : Bool} {oT : Obj} {k : Nat} {xs : Array Value} {Q : Option Value → Shared → Prop} (hh : A.handled = none) (D : ZipApart z TI TO i1 i2 l1 l2)
    (hz : ZipO s.heap z TI TO (rawInt T) f1) (hT : s.heap.get? T = some oT) (hTI : IsPair s.heap TI (.ref i1) (.ref i2)) (h1 : s.heap.IsListIter i1 l1 k) (hl1 : s.heap.IsList l1 xs) (hx : xs[k]? = none)
    (hQ : ∀ h', (∀ c o, c ≠ z → c ≠ i1 → s.heap.get? c = some o → h'.get? c = some o) → Q none { s with heap := h' }) :
    wpAny (model prog w) A (pyNext (.ref z)) Q E s := by
  have hty : s.TypeIs (.ref z) "zip" := ⟨_, hz, rfl⟩
  unfold pyNext; refine wpAny_bind (wpAny_attempt (wpAny_callSpecial?_slot (name := Str.ofString "__next__") hty F.slot_zip_next (wpAny_call_entry F.slot_zip_next hty F.entry_zip_next ?_ (F.args_zip_next_1 _))))
  refine wpAny_bind (m := field (.ref z) 2) (wpAny_field hz rfl (x := .bool false) rfl (wpAny_bind (m := field (.ref z) 3) (wpAny_field hz rfl (x := .ref TI) rfl (wpAny_bind (wpAny_seqItems hTI rfl (wpAny_bind (m := Builtin.SmallTypes.ownedTupleIsFree (.ref z)) (own_busy hz hT fun h0 hz0 hs0 => ?_)))))))
  rw [if_neg Bool.false_ne_true]; dsimp only
  first | rw [List.forIn_toArray, List.forIn_cons, List.forIn_cons, List.forIn_nil] | (rw [← Array.forIn_toList]; simp only [List.forIn_cons, List.forIn_nil])
  refine wpAny_bind (wpAny_bind (wpAny_bind (wpAny_holding (wpAny_bind (m := Builtin.SmallTypes.nextOf (.ref i1)) ?_))))
  refine (wpAny_nextOf_list_end hh (h1.extBut hs0.extBut D.i1z) (hl1.extBut hs0.extBut D.l1z) hx fun h3 e hs3 he => ?_)
  obtain ⟨o, ho, hc⟩ := he
  refine wpAny_bind (wpAny_isInstance (T := "StopIteration") (b := true) ⟨o, ho, hc⟩ isSubtype_stop ?_)
  exact wpAny_pure (hQ _ fun c o c1 c2 e => hs3 _ _ c2 (hs0.extBut _ _ c1 e))
/-- the zip object behind i turns, its tuples given out and held; S, the list that is filled, stands apart -/
def ZSt (h : Heap) (z TI TO i1 i2 l1 l2 S : Addr) (xs ys : Array Value) (i : Nat) : Prop :=
  (∃ f0 f1, ZipO h z TI TO f0 f1 ∧ ((f0 = .none ∧ f1 = false) ∨ ∃ (T : Addr) (oT : Obj), f0 = rawInt T ∧ h.get? T = some oT ∧ T ≠ z ∧ T ≠ i1 ∧ T ≠ i2 ∧ T ≠ S)) ∧ IsPair h TI (.ref i1) (.ref i2) ∧ (∃ a b, IsPair h TO a b) ∧ h.IsListIter i1 l1 i ∧ h.IsListIter i2 l2 i ∧ h.IsList l1 xs ∧ h.IsList l2 ys
theorem ZSt.keep {h h' : Heap} {z TI TO i1 i2 l1 l2 S : Addr} {xs ys : Array Value} {i : Nat} (x : ZSt h z TI TO i1 i2 l1 l2 S xs ys i) (hS : ∀ c ∈ [z, TI, TO, i1, i2, l1, l2], c ≠ S) (k : ∀ c o, c ≠ S → h.get? c = some o → h'.get? c = some o) : ZSt h' z TI TO i1 i2 l1 l2 S xs ys i := by
  simp only [List.mem_cons, List.not_mem_nil, or_false, forall_eq_or_imp, forall_eq] at hS
  obtain ⟨s1, s2, s3, s4, s5, s6, s7⟩ := hS
  obtain ⟨⟨f0, f1, hz, hf⟩, hTI, ⟨a, b, hTO⟩, h1, h2, hl1, hl2⟩ := x
  refine ⟨⟨f0, f1, k _ _ s1 hz, ?_⟩, k _ _ s2 hTI, ⟨a, b, k _ _ s3 hTO⟩, h1.at fun o e => k _ o s4 e, h2.at fun o e => k _ o s5 e, hl1.at fun o e => k _ o s6 e, hl2.at fun o e => k _ o s7 e⟩
  rcases hf with hf | ⟨T, oT, e, hT, n1, n2, n3, n4⟩
  · exact .inl hf
  · exact .inr ⟨T, oT, e, k _ _ n4 hT, n1, n2, n3, n4⟩
theorem zst_turn {z TI TO i1 i2 l1 l2 S : Addr} {k : Nat} {xs ys : Array Value} {x y : Value} {Q : Option Value → Shared → Prop} (D : ZipApart z TI TO i1 i2 l1 l2) (st : ZSt s.heap z TI TO i1 i2 l1 l2 S xs ys k) (hS : S < s.heap.objs.size) (hx : xs[k]? = some x) (hy : ys[k]? = some y)
    (hQ : ∀ h', ZSt h' z TI TO i1 i2 l1 l2 S xs ys (k + 1) → IsPair h' s.heap.objs.size x y → h'.objs.size = s.heap.objs.size + 1 →
      (∀ c o, c ≠ z → c ≠ TO → c ≠ i1 → c ≠ i2 → s.heap.get? c = some o → h'.get? c = some o) → Q (some (.ref s.heap.objs.size)) { s with heap := h' }) :
    wpAny (model prog w) A (pyNext (.ref z)) Q E s := by
  obtain ⟨⟨f0, f1, hz, hf⟩, hTI, ⟨a, b, hTO⟩, h1, h2, hl1, hl2⟩ := st
  have new : ∀ {c o}, s.heap.get? c = some o → s.heap.objs.size ≠ c := fun e => Nat.ne_of_gt (Heap.lt_size e)
  have n1 : s.heap.objs.size ≠ i1 := by
    obtain ⟨_, e, _⟩ := h1
    exact new e
  have n2 : s.heap.objs.size ≠ i2 := by
    obtain ⟨_, e, _⟩ := h2
    exact new e
  rcases hf with ⟨rfl, rfl⟩ | ⟨T, oT, rfl, hT, t1, t2, t3, t4⟩
  · refine wpAny_pyNext_zip_item D hz hTI hTO h1 h2 hl1 hl2 hx hy fun h' b1 b2 b3 b4 b5 b6 b7 => hQ h' ⟨⟨_, _, b1, .inr ⟨_, _, rfl, b5, new hz, n1, n2, Nat.ne_of_gt hS⟩⟩, b7 _ _ D.TIz D.TITO D.TIi1 D.TIi2 hTI, ⟨_, _, b2⟩, b3, b4, hl1.at fun o e => b7 _ o D.l1z D.l1TO D.l1i1 D.l1i2 e, hl2.at fun o e => b7 _ o D.l2z D.l2TO D.l2i1 D.l2i2 e⟩ b5 b6 b7
  · refine zip_turn D hz hT hTI h1 h2 hl1 hl2 hx hy fun h' b1 b3 b4 b5 b6 b7 => hQ h' ⟨⟨_, _, b1, .inr ⟨T, oT, rfl, b7 _ _ t1 t2 t3 hT, t1, t2, t3, t4⟩⟩, b7 _ _ D.TIz D.TIi1 D.TIi2 hTI, ⟨a, b, b7 _ _ D.TOz D.TOi1 D.TOi2 hTO⟩, b3, b4, hl1.at fun o e => b7 _ o D.l1z D.l1i1 D.l1i2 e, hl2.at fun o e => b7 _ o D.l2z D.l2i1 D.l2i2 e⟩ b5 b6 fun c o c1 _ c3 c4 e => b7 c o c1 c3 c4 e
theorem zst_over {z TI TO i1 i2 l1 l2 S : Addr} {k : Nat} {xs ys : Array Value} {Q : Option Value → Shared → Prop} (hh : A.handled = none) (D : ZipApart z TI TO i1 i2 l1 l2) (st : ZSt s.heap z TI TO i1 i2 l1 l2 S xs ys k) (hx : xs[k]? = none)
    (hQ : ∀ h', (∀ c o, c ≠ z → c ≠ TO → c ≠ i1 → c ≠ i2 → s.heap.get? c = some o → h'.get? c = some o) → Q none { s with heap := h' }) : wpAny (model prog w) A (pyNext (.ref z)) Q E s := by
  obtain ⟨⟨f0, f1, hz, hf⟩, hTI, ⟨a, b, hTO⟩, h1, h2, hl1, hl2⟩ := st
  rcases hf with ⟨rfl, rfl⟩ | ⟨T, oT, rfl, hT, _⟩
  · exact wpAny_pyNext_zip_end hh D hz hTI hTO h1 h2 hl1 hl2 (.inl hx) fun h' k => hQ h' k
  · exact zip_over hh D hz hT hTI h1 hl1 hx fun h' k => hQ h' fun c o c1 _ c3 _ e => k c o c1 c3 e
/-- the tuples made so far -/
structure ZGot (xs ys : Array Value) (lo : Addr) (h : Heap) (as : List Addr) : Prop where
  rise : as.Pairwise (· < ·)
  above : ∀ a ∈ as, lo ≤ a
  pair : ∀ (j : Nat) (a : Addr), as[j]? = some a → ∃ x y, xs[j]? = some x ∧ ys[j]? = some y ∧ IsPair h a x y
theorem ZGot.there {xs ys : Array Value} {lo : Addr} {h : Heap} {as : List Addr} (g : ZGot xs ys lo h as) {a : Addr} (ha : a ∈ as) : a < h.objs.size := by
  obtain ⟨j, hj⟩ := List.mem_iff_getElem?.mp ha
  obtain ⟨_, _, _, _, e⟩ := g.pair j a hj
  exact Heap.lt_size e
/-- a turn of what fills a list from an iterator -/
theorem fill_turn {z S : Addr} {res : Value} {R : Result → Shared → Prop} (h : wpAny (model prog w) A.in1 (pyNext (.ref z)) (fun a s' => wpAny (model prog w) A.in1 (match a with
      | none => ret res
      | some x => do
        Builtin.List.listUpdate (.ref S) fun xs => xs.push x
        again (.builtin "list.extend.loop" ⟨[.ref S, .ref z, res], []⟩)) (fun fin s' => match fin with
      | .done f => R (.ok f) s'
      | .again c' => c'.quiet = true ∧ codeAny (model prog w) A c' R s') (fun e s' => R (.error e) s') s') (fun e s' => R (.error e) s') s) :
    codeAny (model prog w) A (.builtin "list.extend.loop" ⟨[.ref S, .ref z, res], []⟩) R s :=
  codeAny_builtin F.entry_extend_loop (by rw [Around.under_plainId F.plain_extend_loop _]; exact wpAny_bind h)
theorem zip_fill {z TI TO i1 i2 l1 l2 S lo : Addr} {xs ys : Array Value} {R : Result → Shared → Prop} (hh : A.handled = none) (D : ZipApart z TI TO i1 i2 l1 l2) (hS : ∀ c ∈ [z, TI, TO, i1, i2, l1, l2], c ≠ S) (hlo : ∀ c ∈ [z, TI, TO, i1, i2, S], c < lo) (hxy : xs.size = ys.size) (hn : xs.size ≤ sizeLine) (res : Value) (h1 : Heap)
    (hR : ∀ h' acc c as, (∀ b o, h1.get? b = some o → h'.get? b = some o) → h'.get? S = some { cls := .type "list", dict := none, data := .seq acc c, slots := #[] } → as.length = xs.size → ZGot xs ys lo h' as → acc.toList = as.map Value.ref → R (.ok (.ret res)) { s with heap := h' }) :
    ∀ (k i : Nat) (h : Heap) (c : Nat) (acc : Array Value) (as : List Addr), xs.size - i = k → i ≤ xs.size → ZSt h z TI TO i1 i2 l1 l2 S xs ys i → (∀ b o, h1.get? b = some o → h.get? b = some o ∧ b ≠ S ∧ b ≠ z ∧ b ≠ TO ∧ b ≠ i1 ∧ b ≠ i2) →
      h.get? S = some { cls := .type "list", dict := none, data := .seq acc c, slots := #[] } → acc.toList = as.map Value.ref → as.length = i → ZGot xs ys lo h as → lo ≤ h.objs.size →
      codeAny (model prog w) A (.builtin "list.extend.loop" ⟨[.ref S, .ref z, res], []⟩) R { s with heap := h } := by
  have hSz : S ≠ z := fun e => hS z (by simp) e.symm
  have hSTO : S ≠ TO := fun e => hS TO (by simp) e.symm
  have hSi1 : S ≠ i1 := fun e => hS i1 (by simp) e.symm
  have hSi2 : S ≠ i2 := fun e => hS i2 (by simp) e.symm
  have off : ∀ {a c : Addr}, lo ≤ a → c ∈ [z, TI, TO, i1, i2, S] → a ≠ c := fun {a c} h1 h2 => Nat.ne_of_gt (Nat.lt_of_lt_of_le (hlo c h2) h1)
  intro k
  induction k with
  | zero =>
    intro i h c acc as hk hi st hk1 hSo hacc hal G hl
    refine fill_turn (zst_over (s := { s with heap := h }) (A := A.in1) hh D st (Array.getElem?_eq_none (by omega)) fun h' kp => ?_)
    refine wpAny_pure (hR h' acc c as (fun b o e => ?_) (kp _ _ hSz hSTO hSi1 hSi2 hSo) (by omega) ⟨G.rise, G.above, fun j a hj => ?_⟩ hacc)
    · obtain ⟨e1, _, n2, n3, n4, n5⟩ := hk1 b o e
      exact kp b o n2 n3 n4 n5 e1
    · obtain ⟨x, y, e1, e2, e3⟩ := G.pair j a hj
      have hb := G.above a (List.mem_of_getElem? hj)
      exact ⟨x, y, e1, e2, kp a _ (off hb (by simp)) (off hb (by simp)) (off hb (by simp)) (off hb (by simp)) e3⟩
  | succ k ih =>
    intro i h c acc as hk hi st hk1 hSo hacc hal G hl
    have hlt : i < xs.size := by omega
    have hsz : acc.size = i := by rw [← Array.length_toList, hacc, List.length_map, hal]
    refine fill_turn (zst_turn (s := { s with heap := h }) (S := S) D st (Heap.lt_size hSo) (Array.getElem?_eq_getElem hlt) (Array.getElem?_eq_getElem (by omega)) fun h' st' ht hz' kp => ?_)
    dsimp only at ht hz' kp ⊢
    have hS' := kp S _ hSz hSTO hSi1 hSi2 hSo
    have up : ∀ b o, b ≠ S → h'.get? b = some o → (h'.update S (Obj.mapSeq (·.push (Value.ref h.objs.size)))).get? b = some o := fun b o hb e => (Heap.get?_update_other _ _ (Ne.symm hb)).trans e
    show wpAny _ A.in1 (updateSeq S (·.push (Value.ref h.objs.size)) >>= _) _ _ _
    refine wpAny_bind (wpAny_updateSeq hS' rfl (wpAny_pure ⟨plainId_quiet F.plain_extend_loop _, ih (i + 1) _ _ (acc.push (Value.ref h.objs.size)) (as ++ [h.objs.size]) (by omega) hlt (st'.keep hS fun b o hb e => up b o hb e) (fun b o e => ?_) (Heap.get?_update_self _ hS' rfl)
      (by rw [Array.toList_push, hacc, List.map_append]; rfl) (by rw [List.length_append, hal]; rfl) ⟨?_, ?_, ?_⟩ ?_⟩) (by rw [hsz]; omega) (by show (acc.push (Value.ref h.objs.size)).size ≤ sizeLine + 1; rw [Array.size_push, hsz]; omega))
    · obtain ⟨e1, n1, n2, n3, n4, n5⟩ := hk1 b o e
      exact ⟨up b o n1 (kp b o n2 n3 n4 n5 e1), n1, n2, n3, n4, n5⟩
    · refine List.pairwise_append.mpr ⟨G.rise, List.pairwise_singleton _ _, fun a ha b hb => ?_⟩
      rw [List.mem_singleton.mp hb]
      exact G.there ha
    · intro a ha
      rcases List.mem_append.mp ha with ha | ha
      · exact G.above a ha
      · rw [List.mem_singleton.mp ha]
        exact hl
    · intro j b hj
      have hnew : h.objs.size ≠ S := Nat.ne_of_gt (Heap.lt_size hSo)
      by_cases c1 : j < as.length
      · rw [List.getElem?_append_left c1] at hj
        obtain ⟨x, y, e1, e2, e3⟩ := G.pair j b hj
        have hb := G.above b (List.mem_of_getElem? hj)
        exact ⟨x, y, e1, e2, up b _ (off hb (by simp)) (kp b _ (off hb (by simp)) (off hb (by simp)) (off hb (by simp)) (off hb (by simp)) e3)⟩
      · have c2 : j = i := by
          obtain ⟨h5, _⟩ := List.getElem?_eq_some_iff.mp hj
          rw [List.length_append, List.length_singleton] at h5
          omega
        subst c2
        rw [List.getElem?_append_right (by omega), hal, Nat.sub_self] at hj
        cases hj
        exact ⟨_, _, Array.getElem?_eq_getElem hlt, Array.getElem?_eq_getElem (by omega), up _ _ hnew ht⟩
    · rw [Heap.size_update, hz']
      exact Nat.le_succ_of_le hl
theorem zip_nolen : typeLookup (.type "zip") "__len__" = pure none := by rw [typeLookup_type, builtinLookup_eq_fast]; kernel_rfl
theorem zip_nohint : typeLookup (.type "zip") "__length_hint__" = pure none := by rw [typeLookup_type, builtinLookup_eq_fast]; kernel_rfl
/-- the zip object made and listed -/
theorem zip_listed {l1 l2 : Addr} {xs ys : Array Value} {Q : Value → Shared → Prop} (hh : A.handled = none) (hl1 : s.heap.IsList l1 xs) (hl2 : s.heap.IsList l2 ys) (hxy : xs.size = ys.size) (hn : xs.size ≤ sizeLine)
    (hQ : ∀ h' acc c as S lo, (∀ b o, s.heap.get? b = some o → h'.get? b = some o) → h'.get? S = some { cls := .type "list", dict := none, data := .seq acc c, slots := #[] } → s.heap.objs.size ≤ S → S < lo → as.length = xs.size → ZGot xs ys lo h' as → acc.toList = as.map Value.ref → Q (.ref S) { s with heap := h' }) :
    wpAny (model prog w) A (call (.type "zip") [.ref l1, .ref l2]) (fun v s' => wpAny (model prog w) A (call (.type "list") [v]) Q E s') E s := by
  have g1 : l1 < s.heap.objs.size := by
    obtain ⟨_, e, _⟩ := hl1
    exact Heap.lt_size e
  have g2 : l2 < s.heap.objs.size := by
    obtain ⟨_, e, _⟩ := hl2
    exact Heap.lt_size e
  refine call_zip_2 hl1 hl2 fun h1 hz hTI hTO hi1 hi2 hsz hk => ?_
  have D := PySem.W.ktu_apart s.heap.objs.size l1 l2 g1 g2
  generalize hN : s.heap.objs.size = N at *
  refine callType_codes (Q₁ := fun obj s₁ => obj = .ref h1.objs.size ∧ s₁ = { s with heap := h1.push { cls := .type "list", data := .seq #[] } }) F.called_list (F.typeCall_list_1 _) F.entry_list_init (code_list_new _ ⟨rfl, rfl⟩) fun obj s₁ h₁ => ?_
  obtain ⟨rfl, rfl⟩ := h₁
  have hS : (h1.push { cls := .type "list", data := .seq #[] }).get? h1.objs.size = some { cls := .type "list", data := .seq #[] } := Heap.get?_push_size _ rfl
  refine ⟨⟨_, hS, rfl⟩, F.args_list_init_2 _ _, ?_⟩
  rw [hsz] at hS ⊢
  refine wpAny_bind (m := Builtin.List.listItems (.ref (N + 5))) (listItems_at hS rfl (wpAny_bind (m := updateSeq (N + 5) fun _ => #[]) (wpAny_updateSeq hS rfl (wpAny_bind (m := letGo (#[] : Array Value).toList.reverse) (wpAny_letGo ?_)))))
  have hS2 := Heap.get?_update_self (Obj.mapSeq (fun _ => (#[] : Array Value))) hS rfl
  have nS : ∀ {b : Addr} {o : Obj}, h1.get? b = some o → N + 5 ≠ b := fun {b o} e => Nat.ne_of_gt (by rw [← hsz]; exact Heap.lt_size e)
  have k2 : ∀ b o, h1.get? b = some o → ((h1.push { cls := .type "list", data := .seq #[] }).update (N + 5) (Obj.mapSeq (fun _ => (#[] : Array Value)))).get? b = some o := fun b o e => (Heap.get?_update_other _ _ (nS e)).trans (Heap.get?_push_of_some _ e)
  have sz2 : ((h1.push { cls := .type "list", data := .seq #[] }).update (N + 5) (Obj.mapSeq (fun _ => (#[] : Array Value)))).objs.size = N + 6 := by rw [Heap.size_update, Heap.size_push, hsz]
  generalize (h1.push { cls := .type "list", data := .seq #[] }).update (N + 5) (Obj.mapSeq (fun _ => (#[] : Array Value))) = h2 at hS2 k2 sz2 ⊢
  have hz2 := k2 _ _ hz
  have hty : Shared.TypeIs { s with heap := h2 } (.ref (N + 4)) "zip" := ⟨_, hz2, rfl⟩
  have e1 : Builtin.List.listSameRef (.ref (N + 5)) (.ref (N + 4)) = false := by simp [Builtin.List.listSameRef]
  have e2 : (Value.type "zip" == Value.type "list") = false := by decide
  have e3 : (Value.type "zip" == Value.type "tuple") = false := by decide
  have hS3 := Heap.get?_update_self (Obj.mapSeq fun a => a.push Value.none) hS2 rfl
  unfold Builtin.List.listExtendWith Builtin.List.listLengthHint; refine wpAny_bind (wpAny_typeOf hty ?_); simp only [e1, e2, e3, Bool.or_false, Bool.false_eq_true, if_false]
  refine wpAny_bind (wpAny_pyIter_zip (s := { s with heap := h2 }) hz2 (wpAny_bind (wpAny_holding (wpAny_bind (wpAny_specialOf hty zip_nolen (wpAny_bind (m := specialOf (Value.ref (N + 4)) (Str.ofString "__length_hint__")) (wpAny_specialOf hty zip_nohint (wpAny_pure
    (wpAny_bind (m := rule "list.extend.makes-room") (wpAny_rule (wpAny_bind (m := Builtin.List.listTouch (.ref (N + 5))) (wpAny_bind (m := updateSeq (N + 5) fun a => a.push .none) (wpAny_updateSeq hS2 rfl (wpAny_updateSeq (hz := by seq_fits) hS3 rfl ?_))))))))))))))
  have hS4 := Heap.get?_update_self (Obj.mapSeq (·.pop)) hS3 rfl
  have k4 : ∀ b o, h1.get? b = some o → ((h2.update (N + 5) (Obj.mapSeq (·.push Value.none))).update (N + 5) (Obj.mapSeq (·.pop))).get? b = some o := fun b o e => (Heap.get?_update_other _ _ (nS e)).trans ((Heap.get?_update_other _ _ (nS e)).trans (k2 b o e))
  have sz4 : ((h2.update (N + 5) (Obj.mapSeq (·.push Value.none))).update (N + 5) (Obj.mapSeq (·.pop))).objs.size = N + 6 := by rw [Heap.size_update, Heap.size_update, sz2]
  generalize (h2.update (N + 5) (Obj.mapSeq (·.push Value.none))).update (N + 5) (Obj.mapSeq (·.pop)) = h4 at hS4 k4 sz4 ⊢
  have st : ZSt h4 (N + 4) (N + 2) (N + 3) N (N + 1) l1 l2 (N + 5) xs ys 0 := ⟨⟨_, _, k4 _ _ hz, .inl ⟨rfl, rfl⟩⟩, k4 _ _ hTI, ⟨_, _, k4 _ _ hTO⟩, hi1.at fun o e => k4 _ o e, hi2.at fun o e => k4 _ o e, (hl1.at fun o e => k4 _ o (hk _ o e)), (hl2.at fun o e => k4 _ o (hk _ o e))⟩
  refine wpAny_pure ⟨plainId_quiet F.plain_extend_loop _, zip_fill (prog := prog) (w := w) (A := A.in1) (s := s) (R := wants (fun r s₂ => r = Value.none ∧ Q (Value.ref (N + 5)) s₂) E) (lo := N + 6) hh D ?_ ?_ hxy hn .none s.heap (fun h' acc c as h5 h6 h7 h8 h9 => ⟨rfl, hQ h' acc c as (N + 5) (N + 6) h5 h6 (Nat.le_add_right _ _) (Nat.lt_succ_self _) h7 h8 h9⟩) xs.size 0 h4 _ _ [] rfl (Nat.zero_le _) st (fun b o e => ?_) hS4 rfl rfl ⟨List.Pairwise.nil, (fun _ ha => nomatch ha), (fun j a hj => by simp at hj)⟩ (by rw [sz4] <;> exact Nat.le_refl _)⟩
  · intro c hc
    simp only [List.mem_cons, List.not_mem_nil, or_false] at hc
    rcases hc with rfl | rfl | rfl | rfl | rfl | rfl | rfl <;> first | exact Nat.ne_of_lt (Nat.add_lt_add_left (by decide) N) | exact Nat.ne_of_lt (Nat.lt_add_of_pos_right (by decide)) | exact Nat.ne_of_lt (Nat.lt_of_lt_of_le g1 (Nat.le_add_right _ _)) | exact Nat.ne_of_lt (Nat.lt_of_lt_of_le g2 (Nat.le_add_right _ _))
  · intro c hc
    simp only [List.mem_cons, List.not_mem_nil, or_false] at hc
    rcases hc with rfl | rfl | rfl | rfl | rfl | rfl <;> first | exact Nat.add_lt_add_left (by decide) N | exact Nat.lt_add_of_pos_right (by decide)
  · have hb : b < N := by
      rw [← hN]
      exact Heap.lt_size e
    have far : ∀ k, b ≠ N + k := fun k => Nat.ne_of_lt (Nat.lt_of_lt_of_le hb (Nat.le_add_right _ _))
    exact ⟨k4 b o (hk b o e), far 5, far 4, far 3, far 0, far 1⟩
end
/-- pairs tracked at their addresses -/
def putP : Hp → List Addr → List V → List V → Hp
  | H, a :: as, x :: xs, y :: ys => putP (upd H a (.tup [x, y])) as xs ys
  | H, _, _, _ => H
theorem putP_off {b : Addr} : ∀ (as : List Addr) (xs ys : List V) (H : Hp), b ∉ as → putP H as xs ys b = H b
  | [], _, _, _, _ => rfl
  | _ :: _, [], _, _, _ => rfl
  | _ :: _, _ :: _, [], _, _ => rfl
  | a :: as, x :: xs, y :: ys, H, h => by
    show putP (upd H a (.tup [x, y])) as xs ys b = H b
    rw [putP_off as xs ys _ fun z => h (List.mem_cons_of_mem _ z), upd_ne fun z => h (by rw [z]; exact List.mem_cons_self)]
theorem putP_at : ∀ (as : List Addr) (xs ys : List V) (H : Hp), as.length = xs.length → as.length = ys.length → as.Nodup → ∀ (j : Nat) (a : Addr), as[j]? = some a → ∃ x y, xs[j]? = some x ∧ ys[j]? = some y ∧ putP H as xs ys a = some (.tup [x, y])
  | [], _, _, _, _, _, _, _, _, h => by simp at h
  | _ :: _, [], _, _, h, _, _, _, _, _ => by cases h
  | _ :: _, _ :: _, [], _, _, h, _, _, _, _ => by cases h
  | a :: as, x :: xs, y :: ys, H, h1, h2, hn, j, b, hj => by
    have hn' := List.nodup_cons.mp hn
    cases j with
    | zero =>
      cases hj
      refine ⟨x, y, rfl, rfl, ?_⟩
      show putP (upd H a (.tup [x, y])) as xs ys a = _
      rw [putP_off as xs ys _ hn'.1, upd_same]
    | succ j => exact putP_at as xs ys (upd H a (.tup [x, y])) (Nat.succ.inj h1) (Nat.succ.inj h2) hn'.2 j b hj
theorem vals_refs : ∀ as : List Addr, Vals (as.map V.ref) (as.map Value.ref)
  | [] => .nil
  | _ :: as => .cons rfl (vals_refs as)
/-- two lists of one length; the answer: a new list of new pairs -/
def tListZip (K : PySem.W.Frag) (ta : TA) : TE := fun σ H Q => ta σ H fun vs H1 => ∃ (a b : Addr) (xs ys : List V), vs = [.ref a, .ref b] ∧ SqL K H1 a xs ∧ SqL K H1 b ys ∧ xs.length = ys.length ∧
  ∀ (H2 : Hp) (p : Addr) (ts : List Addr), Evl.Ex H1 H2 → H1 p = none → H2 p = some (.lst (ts.map V.ref)) → ts.length = xs.length → (∀ (j : Nat) (t : Addr), ts[j]? = some t → ∃ x y, xs[j]? = some x ∧ ys[j]? = some y ∧ H2 t = some (.tup [x, y])) → Q (.ref p) H2
section
variable {X : Cx} {e e2 : Expr} {ta : TA} {p p2 pz pos : Pos}
theorem zip_laid {pins : List (Addr × Obj)} {σ : L2.St} {H : Hp} {s : Shared} {h' : Heap} {xs ys : List V} {us ws : List Value} {acc : Array Value} {c : Nat} {as : List Addr} {S lo : Addr} (I : Inv X pins σ H s) (rx : Vals xs us) (ry : Vals ys ws) (hxy : xs.length = ys.length) (hz : xs.length ≤ sizeLine)
    (hk : ∀ b o, s.heap.get? b = some o → h'.get? b = some o) (hS : h'.get? S = some { cls := .type "list", dict := none, data := .seq acc c, slots := #[] }) (hSn : s.heap.objs.size ≤ S) (hSl : S < lo) (hl : as.length = us.toArray.size) (G : ZGot us.toArray ws.toArray lo h' as) (hacc : acc.toList = as.map Value.ref) :
    ∃ H' : Hp, Evl.Ex H H' ∧ H S = none ∧ H' S = some (.lst (as.map V.ref)) ∧ as.length = xs.length ∧ (∀ (j : Nat) (t : Addr), as[j]? = some t → ∃ x y, xs[j]? = some x ∧ ys[j]? = some y ∧ H' t = some (.tup [x, y])) ∧ Inv X pins σ H' { s with heap := h' } := by
  have lx : as.length = xs.length := by rw [hl, List.size_toArray, rx.length]
  have nd : as.Nodup := G.rise.imp fun {a b} h => Nat.ne_of_lt h
  have Sn : S ∉ as := fun z => absurd (G.above _ z) (Nat.not_le.mpr hSl)
  have new : ∀ t ∈ as, H t = none := fun t ht => I.hok.fresh (Nat.le_trans hSn (Nat.le_trans (Nat.le_of_lt hSl) (G.above t ht)))
  have newS : H S = none := I.hok.fresh hSn
  have at_ := putP_at as xs ys (upd H S (.lst (as.map V.ref))) lx (lx.trans hxy) nd
  have off : ∀ b, b ∉ as → b ≠ S → putP (upd H S (.lst (as.map V.ref))) as xs ys b = H b := fun b h1 h2 => by rw [putP_off as xs ys _ h1, upd_ne h2]
  have atS : putP (upd H S (.lst (as.map V.ref))) as xs ys S = some (.lst (as.map V.ref)) := by rw [putP_off as xs ys _ Sn, upd_same]
  have ex : Evl.Ex H (putP (upd H S (.lst (as.map V.ref))) as xs ys) := fun b u e => by
    rw [off b (fun z => by rw [new b z] at e; cases e) (fun z => by rw [z, newS] at e; cases e)]
    exact e
  have low : ∀ b o, s.heap.get? b = some o → b ∉ as ∧ b ≠ S := fun b o e => ⟨fun z => absurd (Heap.lt_size e) (Nat.not_lt.mpr (Nat.le_trans hSn (Nat.le_trans (Nat.le_of_lt hSl) (G.above b z)))), Nat.ne_of_lt (Nat.lt_of_lt_of_le (Heap.lt_size e) hSn)⟩
  refine ⟨_, ex, newS, atS, lx, at_, ?_⟩
  refine I.un (t' := s.toks) ⟨fun b o q _ _ _ => hk b o q, fun b o q _ _ _ => ⟨o.slots, hk b o q⟩, fun b o q n _ => ?_, fun b o q _ => ⟨o, hk b o q⟩, fun b xs q => ex b _ q, fun b o u q => ex b _ q, fun b ps q => ⟨#[], by rw [ex b _ q]; simp⟩⟩ fun b u q => ?_
  · obtain ⟨z1, z2⟩ := low b o q
    rw [off b z1 z2]
    exact n
  · by_cases hb : b ∈ as
    · obtain ⟨j, hj⟩ := List.mem_iff_getElem?.mp hb
      obtain ⟨x, y, e1, e2, e3⟩ := at_ j b hj
      rw [e3] at q
      cases q
      obtain ⟨x', y', f1, f2, f3⟩ := G.pair j b hj
      obtain ⟨u, g1, g2⟩ := rx.get e1
      obtain ⟨w, g3, g4⟩ := ry.get e2
      have k1 : us[j]? = some x' := by simpa using f1
      have k2 : ws[j]? = some y' := by simpa using f2
      rw [g1] at k1
      rw [g3] at k2
      cases k1
      cases k2
      exact ⟨by show 2 ≤ sizeLine; decide, _, .cons g2 (.cons g4 .nil), ⟨_, f3, rfl, _, rfl⟩⟩
    · by_cases hb2 : b = S
      · rw [hb2] at q ⊢
        rw [atS] at q
        cases q
        refine ⟨by rw [List.length_map, lx]; exact hz, acc.toList, c, by rw [hacc]; exact vals_refs as, ?_⟩
        rw [Array.toArray_toList]
        exact hS
      · rw [off b hb hb2] at q
        exact (I.hok b u q).stay (fun d v _ y => hk d v y) (fun d y => ex d _ y) fun d xs y => ex d _ y
/-- list(zip(e, e2)) -/
theorem pe_listZip (hc : X.calm = true) (hg : Gl X "list") (hm : X.mg "list" = none) (hgz : Gl X "zip") (hmz : X.mg "zip" = none) (ha : PA X [e, e2] ta) (hs : starEach [e, e2] X.env = (false, eval e X.env) :: starEach [e2] X.env := by rfl) (hpl : (backTo pz (starEach [e2] X.env)).any (·.1) = false := by rfl)
    (hs2 : starEach [.Call (.Name "zip" p2) [e, e2] [] pz] X.env = (false, eval (.Call (.Name "zip" p2) [e, e2] [] pz) X.env) :: starEach [] X.env := by rfl) :
    PE X (.Call (.Name "list" p) [.Call (.Name "zip" p2) [e, e2] [] pz] [] pos) (tListZip X.K ta) := by
  refine ⟨fun pins s σ H Q I hq => ?_⟩
  refine wpAny_Call_Name_kw (ld_blt I hg hm (show bootBuiltins "list" = some (.type "list") by decide +kernel) ?_)
  refine PyProof.Rows.callWith_type1 ?_ hs2 rfl
  rw [hs2]
  show wpAny _ _ (spliced ((false, eval (.Call (.Name "zip" p2) [e, e2] [] pz) X.env) :: backTo pos (starEach [] X.env))) _ _ s
  refine Calls.spliced_cons ?_
  refine Call_ (ld_blt I hgz hmz PyProof.Rows.boot_zip (PyProof.Rows.callWith_type1 (thn (ha.run pz pins s σ H _ I hq) fun us s1 ⟨vs, H1, I1, r1, q1⟩ => ?_) hs hpl))
  obtain ⟨a, b, xs, ys, rfl, hx, hy, hxy, q⟩ := q1
  obtain ⟨u1, u2, rfl, r, r'⟩ := vals2 r1
  cases r
  cases r'
  obtain ⟨its, rv, l1, z1⟩ := I1.list hx
  obtain ⟨its2, rv2, l2, z2⟩ := I1.list hy
  refine wpAny_mono (zip_listed (I1.ok.hd hc) l1.isList l2.isList (by rw [List.size_toArray, List.size_toArray, ← rv.length, ← rv2.length, hxy]) (by rw [List.size_toArray, ← rv.length]; exact z1) (Q := EP X pins σ Q) (E := X.xe) fun h' acc c as S lo k1 k2 k3 k4 k5 k6 k7 => ?_) (fun v s2 h => Calls.spliced_nil h) fun _ _ x => x
  obtain ⟨H', f1, f2, f3, f4, f5, J⟩ := zip_laid I1 rv rv2 hxy z1 k1 k2 k3 k4 k5 k6 k7
  exact ⟨.ref S, H', J, rfl, q H' S as f1 f2 f3 f4 f5⟩
end
end Lb
set_option Elab.async false
set_option maxRecDepth 100000
set_option maxHeartbeats 2000000
/-! # The end of a row of a specification whose program holds a lambda: the table of the maker's code object is tracked from the start -/
namespace Lb
open PySem PySem.Spec PyProof.Rows L2
open PySem.W (WData Codec OpenSpec Well WellAll ReadsW ReadsAllW)
mutual
theorem dw_mono {K : PySem.W.Frag} {H H' : Hp} (e : Evl.Ex H H') : ∀ {v : V} {d : WData}, Dw K H v d → Dw K H' v d
  | _, _, .non => .non
  | _, _, .bl b => .bl b
  | _, _, .int i => .int i
  | _, _, .str x => .str x
  | _, _, .byt b => .byt b
  | _, _, .lst hs ha => .lst (Evl.ex_l e hs) (dwAll_mono e ha)
  | _, _, .tup hs ha => .tup (Evl.ex_t e hs) (dwAll_mono e ha)
theorem dwAll_mono {K : PySem.W.Frag} {H H' : Hp} (e : Evl.Ex H H') : ∀ {vs : List V} {ds : List WData}, DwAll K H vs ds → DwAll K H' vs ds
  | _, _, .nil => .nil
  | _, _, .cons h t => .cons (dw_mono e h) (dwAll_mono e t)
end
/-- a call whose program makes a lambda: P, the table of the code object c -/
theorem spec_callT {P : Program} {w : World} {K : PySem.W.Frag} {mg mb : Str → Option Value} {CX : CXT} {k : Nat} {fa c Tb : Addr} {fd : FuncData} {ps : List Str} {sp : Sp} {s1 : Shared} {vals : List Value} {ds : List WData} {R : PySem.W.WRecords} {cl : Str → Option Addr} {d0 : WData}
    (KX : K.In s1.heap) (hns : s1.heap.Ns mainGlobals mg) (hb : s1.heap.Ns builtinsNs mb) (hbb : ∀ x : Str, x ≠ "__name__" → mb x = bootBuiltins x) (hlim : s1.heap.NoLimit) (hg : s1.gens = #[])
    (hT : s1.heap.get? Tb = some { cls := .none, data := .fields #[] }) (nT : K.lookup Tb = none) (C : PySem.W.CodeHd s1.heap c Tb)
    (hbm : ∃ (bm : Addr) (ob : Obj), mg "__builtins__" = some (.ref bm) ∧ bm ≠ builtinsNs ∧ s1.heap.get? bm = some ob ∧ ob.cls = .type "module" ∧ ob.dict = some builtinsNs ∧ ob.data = .plain)
    (hwl : WellAll w.params s1.heap vals ds) (hpl : plWs ds = true) (hwt : ∀ d ∈ ds, d.weight ≤ 1048576) (hr : Room k callerA)
    (F : ∀ base : Heap, K.In base → base.Ns mainGlobals mg → LamX.TabB base mg c Tb → FnOk P w K mg base CX k fa fd ps sp) (hbind : ∀ (s : Shared) (us : List Value), us.length = ps.length → BindsTo s fd ⟨us, []⟩ (ps.zip us)) (hlen : ds.length = ps.length)
    (hsp : ∀ (H : Hp) (xs : List V), H Tb = some (.tbl #[]) → DwAll K H xs ds → sp xs H (fun v H' => Dw K H' v d0) fun _ _ _ => False)
    (hCX : ∀ H e s', CX [] H s1 (fun _ _ _ => False) e s' → False) :
    codeAny (model P w) callerA (.call (.ref fa) ⟨vals, []⟩) (fun r s' => ∃ u as, r = .ok (.ret u) ∧ ReadsW R cl s'.heap u d0 as ∧ OldK s1.heap s'.heap ∧ s'.os = s1.os ∧ AllBare s'.gens) s1 := by
  obtain ⟨A, ho, ar⟩ := area_all ds vals hwl hpl hwt
  have TA : Tb ∉ A := fun z => by
    obtain ⟨vs, _, _, e | e⟩ := ar Tb z
    · rw [hT] at e
      cases e
    · rw [hT] at e
      cases e
  have g0 : argH K s1.heap A Tb = none := by
    unfold argH
    rw [if_neg TA]
  have hold : ∀ b u, argH K s1.heap A b = some u → K.lookup b = none ∧ ∃ ob v, u = .frz ob v ∧ s1.heap.get? b = some ob ∧ ∃ vs n, ob.data = .seq vs n := fun b u e => by
    obtain ⟨h1, vs, _, _, ⟨h2, h3⟩ | ⟨h2, h3⟩⟩ := argH_is ar e
    · exact ⟨h1, _, _, h3, h2, _, _, rfl⟩
    · exact ⟨h1, _, _, h3, h2, _, _, rfl⟩
  have hok0 : HOk P w (argH K s1.heap A) s1.heap := argH_ok ar
  have hS := dw_all KX ar ds vals hwl hpl ho
  generalize argH K s1.heap A = H0 at g0 hold hok0 hS
  have ex0 : Evl.Ex H0 (upd H0 Tb (.tbl #[])) := Evl.Ex.new g0
  have hok : HOk P w (upd H0 Tb (.tbl #[])) s1.heap := fun b u e => by
    by_cases hbT : b = Tb
    · rw [hbT, upd_same] at e
      cases e
      rw [hbT]
      exact hT
    · rw [upd_ne hbT] at e
      exact (hok0 b u e).stay (fun _ _ _ y => y) (fun d y => ex0 d _ y) fun d xs y => ex0 d _ y
  have inH : ∀ b u, upd H0 Tb (.tbl #[]) b = some u → (b = Tb ∧ u = .tbl #[]) ∨ (b ≠ Tb ∧ H0 b = some u) := fun b u e => by
    by_cases hbT : b = Tb
    · rw [hbT, upd_same] at e
      cases e
      exact .inl ⟨hbT, rfl⟩
    · rw [upd_ne hbT] at e
      exact .inr ⟨hbT, e⟩
  have atT : upd H0 Tb (.tbl #[]) Tb = some (.tbl #[]) := upd_same
  have hS1 := dwAll_mono ex0 hS
  generalize upd H0 Tb (.tbl #[]) = H at ex0 hok inH atT hS1
  -- what is no sequence and no empty record is not tracked
  have out : ∀ {b : Addr} {o : Obj}, s1.heap.get? b = some o → (∀ vs n, o.data ≠ .seq vs n) → o.data ≠ .fields #[] → H b = none := fun {b o} e n1 n2 => by
    cases q : H b with
    | none => rfl
    | some u =>
      rcases inH b u q with ⟨rfl, _⟩ | ⟨_, q0⟩
      · rw [hT] at e
        cases e
        exact absurd rfl n2
      · obtain ⟨_, ob, v, _, e2, vs, n, e3⟩ := hold b u q0
        rw [e] at e2
        cases e2
        exact absurd e3 (n1 _ _)
  have base_of : ∀ {b : Addr} {o : Obj}, s1.heap.get? b = some o → H b = none → (hidT s1.heap H).get? b = some o := fun e n => hidT_get e n
  have nsK : ∀ {b : Addr} {m : Str → Option Value}, s1.heap.Ns b m → (hidT s1.heap H).Ns b m := fun {b m} ⟨o, es, ep, e, d, r⟩ => ⟨o, es, ep, base_of e (out e (fun vs n z => by rw [d] at z; cases z) fun z => by rw [d] at z; cases z), d, r⟩
  have hKb : K.In (hidT s1.heap H) := fun b o e => base_of (KX b o e) (by
    cases q : H b with
    | none => rfl
    | some u =>
      rcases inH b u q with ⟨rfl, _⟩ | ⟨_, q0⟩
      · rw [nT] at e
        cases e
      · rw [(hold b u q0).1] at e
        cases e)
  have hM : L2.Mod K mg (hidT s1.heap H) := ⟨hKb, nsK hns, ⟨mb, nsK hb, hbb⟩, let ⟨mc, h1, h2⟩ := hlim; ⟨mc, nsK h1, h2⟩⟩
  have gT : mainGlobals ≠ Tb := fun z => by
    obtain ⟨o, es, ep, e, hd, _⟩ := hns
    rw [z, hT] at e
    cases e
    cases hd
  have TB : LamX.TabB (hidT s1.heap H) mg c Tb := by
    refine ⟨?_, ?_, gT⟩
    · obtain ⟨o, us, file, tf, flags, tg, inF, text, tt, e1, r1, r2, r3, r4⟩ := C
      refine ⟨o, us, file, tf, flags, tg, inF, text, tt, base_of e1 (out e1 (fun vs n z => ?_) fun z => ?_), r1, r2, r3, r4⟩
      · rw [r2] at z
        cases z
      · rw [r2] at z
        cases z
        simp at r3
    · obtain ⟨bm, ob, b1, b2, b3, b4, b5, b6⟩ := hbm
      refine ⟨bm, ob, b1, b2, fun q => ?_, fun q => ?_, base_of b3 (out b3 (fun vs n z => by rw [b6] at z; cases z) fun z => by rw [b6] at z; cases z), b4, b5, b6⟩
      · obtain ⟨o, es, ep, e, hd, _⟩ := hns
        rw [q, e] at b3
        cases b3
        rw [hd] at b6
        cases b6
      · rw [q, hT] at b3
        cases b3
        cases b6
  have e0 : Env0 P w K mg (hidT s1.heap H) callerA [] s1 H := ⟨rfl, hM, fun b o e => of_hidT e, Nat.le_of_eq (hidT_size _ _), trivial, fun b hb => absurd (show b ∈ ([] : List Addr) from hb) (by simp), hok, .of_eq hg⟩
  have hl : vals.length = ps.length := by rw [wellAll_len hwl]; exact hlen
  refine codeAny_mono ((F _ hKb (nsK hns) TB).run callerA [] s1 H ⟨vals, []⟩ vals (vals.map toV) _ _ hr e0 (hbind s1 vals hl) (vals_toV ho) (hsp H _ atT hS1)) fun r s' x => ?_
  cases r with
  | error e => exact (hCX H e s' x).elim
  | ok fl =>
    cases fl with
    | next => exact False.elim x
    | brk => exact False.elim x
    | cont => exact False.elim x
    | ret u =>
      obtain ⟨v, H', os, bare, un, hok', r', q⟩ := x
      have kept : ∀ b o, b ≠ Tb → s1.heap.get? b = some o → s'.heap.get? b = some o := fun b o nb e => by
        cases q2 : H b with
        | none => exact un.keep b o e q2 (by intro z; exact absurd (show b ∈ ([] : List Addr) from z) (by simp)) (by simp)
        | some u2 =>
          rcases inH b u2 q2 with ⟨z, _⟩ | ⟨_, q0⟩
          · exact absurd z nb
          · obtain ⟨_, ob, v2, rfl, e2, _⟩ := hold b u2 q0
            rw [e] at e2
            cases e2
            exact (hok' b _ (un.frzs b _ _ q2)).1
      obtain ⟨more, hm⟩ := un.tbls Tb #[] atT
      have grown : s'.heap.get? Tb = some { cls := .none, data := .fields (#[] ++ more) } := hok' Tb _ hm
      have KX' : K.In s'.heap := fun b o e => kept b o (fun z => by rw [z, nT] at e; cases e) (KX b o e)
      obtain ⟨as, hrd⟩ := Dw.reads (R := R) (cl := cl) hok' KX' d0 v u q r'
      refine ⟨u, as, rfl, hrd, ⟨fun b o e => ?_, fun b o e => ?_⟩, os, bare⟩
      · by_cases hbT : b = Tb
        · rw [hbT] at e ⊢
          rw [hT] at e
          cases e
          exact .inr (.inl ⟨(C.tab hT).isCodeTable, rfl, #[], more, rfl, grown⟩)
        · exact .inl (kept b o hbT e)
      · by_cases hbT : b = Tb
        · rw [hbT]
          exact ⟨_, grown⟩
        · exact ⟨o, kept b o hbT e⟩
/-- the goal that the head leaves (case hc): x, the def that makes the lambda; its code object and table are read off the written part -/
theorem walk_specT {r : OpenSpec} {k : Nat} {q : Program} {loose : List Str} {XP : (Str → Option Value) → Heap → Prop} {YP : World → Heap → Prop} {d : DefRec} {K : Params → PySem.W.Frag} {CX : CXT} {ps : List Str} {x : Str} {sp : PySem.W.Frag → Addr → Sp}
    (hwell : r.wellSaid = true) (hlen : r.args.length = ps.length) (hr : Room k callerA) (hx : ((recsOf q).find? fun e => e.name == x).isSome = true) (hY : ∀ (w : World) (h : Heap), YP w h → (K w.params).In h)
    (F : ∀ (w : World) (mg : Str → Option Value) (fa : Addr) (h : Heap), YP w h → (K w.params).In h → h.Ns mainGlobals mg → mg d.name = some (.ref fa) →
      ∃ (fd : FuncData) (c Tb : Addr), PySem.W.tabIn (K w.params) x = some (c, Tb) ∧ (K w.params).lookup Tb = none ∧ (∀ (s : Shared) (us : List Value), us.length = ps.length → BindsTo s fd ⟨us, []⟩ (ps.zip us)) ∧
        ∀ base : Heap, (K w.params).In base → base.Ns mainGlobals mg → LamX.TabB base mg c Tb → FnOk r.prog w (K w.params) mg base CX k fa fd ps (sp (K w.params) Tb))
    (hsp : ∀ (K : PySem.W.Frag) (Tb : Addr) (H : Hp) (xs : List V) (a : Codec.denoteAll r.args), H Tb = some (.tbl #[]) → Codec.withinAll r.args a = true → Codec.app r.args r.asked a = true → DwAll K H xs (Codec.encAll r.args a) →
      sp K Tb xs H (fun v H' => Dw K H' v (r.ret.enc (Codec.app r.args r.f a))) fun _ _ _ => False)
    (hCX : ∀ (H : Hp) (s : Shared) (e : Value) (s' : Shared), CX [] H s (fun _ _ _ => False) e s' → False) : PySem.W.WalkOS q loose XP YP r d [] (fun f vs => PySem.call f vs) := by
  intro w s0 s1 mg mb G Y fa o pm cd doc dV kV ho hd hcd hD hmg hg args vals as hpre hlay hrd hwl hlo
  obtain ⟨a, e1, e2⟩ := PySem.W.os_pre_some hpre
  obtain ⟨e3, hwi⟩ := Codec.encAll_of_decAll r.args args a e1
  subst e3
  have KX := hY w _ Y
  obtain ⟨fd, c, Tb, ht, nT, hb, hF⟩ := F w mg fa _ Y KX G.T.g hmg
  obtain ⟨d', hd'⟩ := Option.isSome_iff_exists.mp hx
  obtain ⟨C, hT⟩ := PySem.W.tab_of G.T KX hd' ht
  refine PySem.W.enter_call (codeAny_mono (spec_callT (R := []) (cl := classAt s0.heap) (d0 := r.ret.enc (Codec.app r.args r.f a)) KX G.T.g G.T.b G.T.builtins G.T.nolimit hg hT nT C G.T.bmain hwl (pl_encAll _ _) (layable_weight hlay) hr hF hb (by rw [encAll_len]; exact hlen)
    (fun H xs hO hS => hsp (K w.params) Tb H xs a hO hwi e2 hS) fun H e s' => hCX H s1 e s') fun r' s' hq => ?_)
  obtain ⟨u, as', rfl, h1, h2, h3, h4⟩ := hq
  exact ⟨.inl ⟨u, _, as', rfl, fun _ => rfl, h1, (OpenSpec.post_iff hwell hwi _ _).mpr rfl, fun z => Bool.noConfusion (show false = true from z)⟩, h2, h3, h4⟩
end Lb
set_option Elab.async false
set_option maxRecDepth 100000
set_option maxHeartbeats 2000000
/-! # right: its helpers' promises and readings -/
namespace Lb
open PySem PySem.Spec PyProof.Rows L2 Evl

def spIsR (K : PySem.W.Frag) (C : Addr) : Sp := fun vs H Q _ => ∃ (n : Int) (p q : Addr) (ks : List Bk) (fs : List Int), vs = [.int n, .ref p, .ref q] ∧ LstAt C H p ks ∧ SqL K H q (fs.map V.int) ∧ fs.length = ks.length ∧ ks.length ≤ 8 ∧
  ∃ yes : Bool, (yes = true ↔ rightP n ks fs) ∧ RetV (.bl yes) H Q
def spFirsts (K : PySem.W.Frag) : Sp := fun vs H Q _ => ∃ (q : Addr) (m : Int) (fs : List Int), vs = [.ref q, .int m] ∧ SqL K H q (fs.map V.int) ∧ fs.length ≤ 24 ∧
  RetV (.bl (decide ((fs.length : Int) = m) && fs.all fun x => decide (0 ≤ x) && decide (x ≤ 100))) H Q
/-- a number, two lists of numbers are handed in; the specification's list comes out -/
def spRight (K : PySem.W.Frag) : Sp := fun vs H Q _ => ∃ (n : Int) (a q : Addr) (ns fs : List Int), vs = [.int n, .ref a, .ref q] ∧ SqL K H a (ns.map V.int) ∧ SqL K H q (fs.map V.int) ∧ ns.length ≤ 24 ∧ fs.length ≤ 24 ∧ 0 ≤ n ∧ (∀ x ∈ ns, 0 ≤ x) ∧ (∀ x ∈ fs, 0 ≤ x) ∧
  ∀ (H' : Hp) (p : Addr), H' p = some (.lst ((PyKs437.right n ns fs).map V.int)) → Q (.ref p) H'
def spColl (C : Addr) : Sp := fun vs H Q _ => ∃ (p q : Addr) (k m : Bk) (f g : Int), vs = [.ref p, .int f, .ref q, .int g] ∧ BkAt C H p k ∧ BkAt C H q m ∧ RetV (.bl (hits k f (m, g))) H Q
def spLanes : Sp := fun vs H Q _ => ∃ n m : Int, vs = [.int n, .int m] ∧ RetV (.bl (decide (0 ≤ n) && decide (n ≤ m))) H Q
/-- slots: booking, first, other, other_first -/
def t_coll (C : Addr) : TS := tRet (tAndV (tMeth C "shares_hour_with" (spShares C) [] E0 (tVar 0) (tCons (tVar 2) tNil)) (tCall (spShare C) [] E0 (tCons (tVar 0) (tCons (tVar 1) (tCons (tVar 2) (tCons (tVar 3) tNil))))))
def t_lanes : TS := tRet (tChain rLe rLe (tC (.int 0)) (tVar 0) (tVar 1))
/-- slots: lanes, bookings, firsts, number, booking, first, earlier -/
def t_isr (K : PySem.W.Frag) (C : Addr) : TS :=
  tSeq (tFor (iEnum K (tCons (tVar 1) tNil)) (gTup K 2 (gCons (gName 3) (gCons (gName 4) gNil)))
    (tSeq (tAsg (tOp (rIxL K) (tVar 2) (tVar 3)) (gName 5))
    (tSeq (tIfS (tTest (tOp rGt (tOp rAdd (tVar 5) (tFld K (tVar 4) "wide")) (tVar 0))) (tRet (tC (.bl false))) tNext)
    (tFor (iRng1 (tCons (tVar 3) tNil)) (gName 6)
      (tIfS (tB (tCall (spColl C) [] E0 (tCons (tVar 4) (tCons (tVar 5) (tCons (tOp (rIxL K) (tVar 1) (tVar 6)) (tCons (tOp (rIxL K) (tVar 2) (tVar 6)) tNil))))))
        (tRet (tC (.bl false))) tNext)))))
  (tRet (tC (.bl true)))
/-- slots: firsts, how_many, first -/
def t_firsts (K : PySem.W.Frag) : TS :=
  tSeq (tIfS (tTest (tOp rNe (tCB (rLenS K) (tCons (tVar 0) tNil)) (tVar 1))) (tRet (tC (.bl false))) tNext)
  (tRet (tCB (rAll K) (tCons (tLc (iList K (tVar 0)) (gName 2) tYes (tChain rLe rLe (tC (.int 0)) (tVar 2) (tC (.int 100))) [2]) tNil)))
/-- slots: lanes, bookings, firsts, told -/
def t_right (K : PySem.W.Frag) (C : Addr) : TS :=
  tSeq (tIfS (tOr (tNot (tB (tCall (spAre K) [] E0 (tCons (tVar 1) tNil)))) (tNot (tB (tCall spLanes [] E0 (tCons (tVar 0) (tCons (tC (.int 24)) tNil)))))) (tRet (tLst (tCons (tUn (rU fun i => .int (-i)) (tC (.int 22))) tNil))) tNext)
  (tSeq (tAsg (tCall (spRead K C) [] E0 (tCons (tVar 1) tNil)) (gName 3))
  (tSeq (tIfS (tNot (tB (tCall (spFirsts K) [] E0 (tCons (tVar 2) (tCons (tCB (rLenS K) (tCons (tVar 3) tNil)) tNil))))) (tRet (tLst (tCons (tUn (rU fun i => .int (-i)) (tC (.int 22))) tNil))) tNext)
  (tSeq (tIfS (tB (tCall (spIsR K C) [] E0 (tCons (tVar 0) (tCons (tVar 3) (tCons (tVar 2) tNil))))) (tRet (tLst (tCons (tC (.int 1)) tNil))) tNext)
  (tRet (tLst (tCons (tC (.int 0)) tNil))))))
section
variable {K : PySem.W.Frag} {mg : Str → Option Value} {C : Addr}
theorem fget {fs : List Int} {i : Nat} (h : i < fs.length) : atI (fs.map V.int) (i : Int) = some (.int (fAt fs i)) := at_get rfl h
theorem pure_coll (vs : List V) (H : Hp) (Q : VK) (E : XK) (h : spColl C vs H Q E) : t_coll C { nx := fun _ H' => Q .non H', rt := Q } (start ["booking", "first", "other", "other_first"] vs) H := by
  obtain ⟨p, q, k, m, f, g, rfl, ⟨dx, hp⟩, hq, r⟩ := h
  exact s_ret (ev_andV (ev_meth (vs := [.ref q]) (ev_var rfl) hp (bF_shares _) (ea_cons (ev_var rfl) ea_nil) fun H1 e1 Q' q' E' => ⟨p, q, k, m, rfl, ⟨dx, e1 _ _ hp⟩, hq.mono e1, fun H2 e2 => q' H2 e2⟩)
    (fun _ => ev_call (vs := [.ref p, .int f, .ref q, .int g]) (ea_cons (ev_var rfl) (ea_cons (ev_var rfl) (ea_cons (ev_var rfl) (ea_cons (ev_var rfl) ea_nil)))) fun H1 e1 Q' q' E' => ⟨p, q, k, m, f, g, rfl, ⟨dx, e1 _ _ hp⟩, hq.mono e1, fun H2 e2 => q' H2 e2⟩)) fun H1 e => r H1 e
theorem pure_lanes (vs : List V) (H : Hp) (Q : VK) (E : XK) (h : spLanes vs H Q E) : t_lanes { nx := fun _ H' => Q .non H', rt := Q } (start ["lanes", "most"] vs) H := by
  obtain ⟨n, m, rfl, r⟩ := h
  exact s_ret (ev_chain ev_c (ev_var (v := .int n) rfl) rv_I0 (fun _ => ev_var (v := .int m) rfl) (fun _ => rv_I0)) fun H1 e => r H1 e
theorem pure_isr (T : Txt K mg C) (vs : List V) (H : Hp) (Q : VK) (E : XK) (h : spIsR K C vs H Q E) :
    t_isr K C { nx := fun _ H' => Q .non H', rt := Q } (start ["lanes", "bookings", "firsts", "number", "booking", "first", "earlier"] vs) H := by
  obtain ⟨n, p, q, ks, fs, rfl, ⟨as, hp, hB⟩, hq, hlen, h8, yes, hyes, k⟩ := h
  have no : ∀ {H1 : Hp}, Ex H H1 → ¬ rightP n ks fs → Q (.bl false) H1 := fun {H1} e hn => by
    have z := k H1 e
    cases yes with
    | false => exact z
    | true => exact absurd (hyes.mp rfl) hn
  refine q_forE (xs := as.map V.ref) (ea_cons (ev_var rfl) ea_nil) (sq_of hp)
    (fun i σ H' => Ex H H' ∧ (∃ v3 v4 v5 v6, σ = [some (.int n), some (.ref p), some (.ref q), v3, v4, v5, v6]) ∧ ∀ m, m < i → good n ks fs m)
    (fun H1 e => ⟨e, ⟨_, _, _, _, rfl⟩, fun m hm => absurd hm (Nat.not_lt_zero _)⟩) (fun i σ H' _ P => sq_of (P.1 _ _ hp)) ?_ ?_
  · rintro i x σ H' hi ⟨e0, ⟨v3, v4, v5, v6, rfl⟩, hg⟩ H2 e2
    have e := e0.trans e2
    obtain ⟨b, hb, rfl⟩ : ∃ b, as[i]? = some b ∧ x = V.ref b := by
      rw [List.getElem?_map] at hi
      cases z : as[i]? with
      | none =>
        rw [z] at hi
        cases hi
      | some b =>
        rw [z] at hi
        exact ⟨b, rfl, (Option.some.inj hi).symm⟩
    have hil : i < as.length := (List.getElem?_eq_some_iff.mp hb).1
    have hik : i < ks.length := by rw [← hB.1]; exact hil
    have hif : i < fs.length := by omega
    obtain ⟨dx, hbo⟩ := (hB.2 i b hb).mono e
    refine q_asg (v := .int (fAt fs i)) (ev_op (ev_var (v := .ref q) rfl) (ev_var (v := .int (i : Int)) rfl) (rv_ixL (ex_l e hq) (fget hif))) fun H3 e3 => ?_
    have hb3 := e3 _ _ hbo
    have e03 := e.trans e3
    refine q_when (et_test (ev_op (ev_op (ev_var (v := .int (fAt fs i)) rfl) (ev_fld (ev_var (v := .ref b) rfl) hb3 T.cl T.nW (bF_w _)) rv_I0) (ev_var (v := .int n) rfl) rv_I0)) (fun hc H4 e4 => s_ret ev_c fun H5 e5 => ?_) (fun hc H4 e4 => ?_)
    · refine no ((e03.trans e4).trans e5) fun z => ?_
      have := of_decide_eq_true hc
      have := (z i hik).1
      omega
    have e04 := e03.trans e4
    have hfirst : fAt fs i + (bAt ks i).w ≤ n := by
      have := of_decide_eq_false hc
      omega
    refine s_forR1 (n := (i : Int)) (ea_cons (ev_var rfl) ea_nil) ⟨by omega, by omega⟩
      (fun j σ H' => Ex H H' ∧ (∃ v6, σ = [some (.int n), some (.ref p), some (.ref q), some (.int (i : Int)), some (.ref b), some (.int (fAt fs i)), v6]) ∧ ∀ m, m < j → clash ks fs i m = false)
      (fun H5 e5 => ⟨e04.trans e5, ⟨_, rfl⟩, fun m hm => absurd hm (Nat.not_lt_zero _)⟩) ?_ ?_
    · rintro j σ H5 hj ⟨e5, ⟨w6, rfl⟩, hcl⟩
      have hji : j < i := by omega
      obtain ⟨c, hc'⟩ : ∃ c, as[j]? = some c := ⟨_, List.getElem?_eq_getElem (by omega)⟩
      have hcx : atI (as.map V.ref) (j : Int) = some (.ref c) := at_of rfl (by rw [List.getElem?_map, hc'] <;> rfl)
      have hbi := (hB.2 i b hb).mono e5
      have hcj := (hB.2 j c hc').mono e5
      refine s_when (b := clash ks fs i j) (et_B (ev_call (vs := [.ref b, .int (fAt fs i), .ref c, .int (fAt fs j)]) (ea_cons (ev_var rfl) (ea_cons (ev_var rfl) (ea_cons (ev_op (ev_var (v := .ref p) rfl) (ev_var (v := .int (j : Int)) rfl) (rv_ixL (sq_of (e5 _ _ hp)) hcx)) (ea_cons (ev_op (ev_var (v := .ref q) rfl) (ev_var (v := .int (j : Int)) rfl) (rv_ixL (ex_l e5 hq) (fget (by omega)))) ea_nil))))
        fun H7 e7 Q' q' E' => ⟨b, c, _, _, _, _, rfl, hbi.mono e7, hcj.mono e7, fun H8 e8 => q' H8 e8⟩)) (fun hb' H7 e7 => s_ret ev_c fun H8 e8 => ?_) (fun hb' H7 e7 => ?_)
      · refine no ((e5.trans e7).trans e8) fun z => ?_
        have := (z i hik).2 j hji
        rw [hb'] at this
        cases this
      · refine ⟨e5.trans e7, ⟨_, rfl⟩, fun m hm => ?_⟩
        by_cases z : m < j
        · exact hcl m z
        · have : m = j := by omega
          subst this
          exact hb'
    · rintro σ H5 ⟨e5, ⟨w6, rfl⟩, hcl⟩
      refine ⟨e5, ⟨_, _, _, _, rfl⟩, fun m hm => ?_⟩
      by_cases z : m < i
      · exact hg m z
      · have : m = i := by omega
        subst this
        exact ⟨hfirst, fun j hj => hcl j (by omega)⟩
  · rintro σ H1 ⟨e, ⟨v3, v4, v5, v6, rfl⟩, hg⟩
    refine s_ret ev_c fun H2 e2 => ?_
    have y : yes = true := hyes.mpr fun m hm => hg m (by rw [List.length_map, hB.1]; exact hm)
    have z := k H2 (e.trans e2)
    rw [y] at z
    exact z
theorem pure_firsts (vs : List V) (H : Hp) (Q : VK) (E : XK) (h : spFirsts K vs H Q E) : t_firsts K { nx := fun _ H' => Q .non H', rt := Q } (start ["firsts", "how_many", "first"] vs) H := by
  obtain ⟨q, m, fs, rfl, hq, h24, k⟩ := h
  have hl : ((fs.map V.int).length : Int) = (fs.length : Int) := by rw [List.length_map]
  have hlen : Ev (tCB (rLenS K) (tCons (tVar 0) tNil)) (start ["firsts", "how_many", "first"] [V.ref q, V.int m]) H (.int (fs.length : Int)) := ev_is (ev_len (ev_var rfl) hq) (by rw [hl])
  refine q_when (et_test (ev_op hlen (ev_var (v := .int m) rfl) (rv_ne rfl))) (fun hb H1 e1 => s_ret ev_c fun H2 e2 => ?_) (fun hb H1 e1 => ?_)
  · have hne : ¬ (fs.length : Int) = m := by
      intro z
      rw [z] at hb
      simp at hb
    have z := k H2 (e1.trans e2)
    rw [decide_eq_false hne] at z
    exact z
  have he : (fs.length : Int) = m := by
    simp at hb
    exact hb
  have hx : given (fs.map V.int).length (fun _ => true) (fun i => V.bl (decide (0 ≤ fAt fs i) && decide (fAt fs i ≤ 100))) = (fs.map fun x => decide (0 ≤ x) && decide (x ≤ 100)).map V.bl := by
    refine given_all (by simp) fun i x hi => ?_
    rw [List.getElem?_map, List.getElem?_map] at hi
    cases z : fs[i]? with
    | none =>
      rw [z] at hi
      cases hi
    | some y =>
      rw [z] at hi
      have ey : fAt fs i = y := by
        unfold fAt
        rw [List.getD_eq_getElem?_getD, z]
        rfl
      show V.bl (decide (0 ≤ fAt fs i) && decide (fAt fs i ≤ 100)) = x
      rw [ey]
      exact Option.some.inj hi
  have z := el_lcL (K := K) (te := tChain rLe rLe (tC (.int 0)) (tVar 2) (tC (.int 100))) (t := tYes) (vs := [2]) (j := 2) (σ := start ["firsts", "how_many", "first"] [V.ref q, V.int m]) (H := H1) (tl := tVar 0) (fun _ => true) (fun i => V.bl (decide (0 ≤ fAt fs i) && decide (fAt fs i ≤ 100))) (ev_var rfl) (ex_l e1 hq)
    (by rw [List.length_map]; omega) (fun _ => rfl) (fun i x H4 e4 hi H5 e5 Q' q => q H5 (Ex.refl H5)) (fun i x H4 e4 hi _ => by
      rw [List.getElem?_map] at hi
      cases z : fs[i]? with
      | none =>
        rw [z] at hi
        cases hi
      | some y =>
        rw [z] at hi
        obtain rfl := Option.some.inj hi
        have ey : fAt fs i = y := by
          unfold fAt
          rw [List.getD_eq_getElem?_getD, z]
          rfl
        rw [ey]
        exact ev_chain ev_c (ev_var (v := .int y) rfl) rv_I0 (fun _ => ev_c) (fun _ => rv_I0))
  rw [hx] at z
  refine s_ret (ev_allN z) fun H4 e4 => ?_
  have y := k H4 (e1.trans e4)
  rw [decide_eq_true he, Bool.true_and] at y
  rw [List.all_map]
  exact y
theorem pure_right (vs : List V) (H : Hp) (Q : VK) (E : XK) (h : spRight K vs H Q E) : t_right K C { nx := fun _ H' => Q .non H', rt := Q } (start ["lanes", "bookings", "firsts", "told"] vs) H := by
  obtain ⟨n, a, q, ns, fs, rfl, ha, hq, h24, hf24, hn, hns, hfs, k⟩ := h
  obtain ⟨yes, hyes⟩ : ∃ yes : Bool, (yes = true ↔ rightP n (chunk ns) fs) := by
    rcases Classical.em (rightP n (chunk ns) fs) with h | h
    · exact ⟨true, fun _ => h, fun _ => rfl⟩
    · exact ⟨false, fun z => Bool.noConfusion z, fun z => absurd z h⟩
  have neg : ∀ {σ : L2.St} {H : Hp}, EvL (tLst (tCons (tUn (rU fun i => .int (-i)) (tC (.int 22))) tNil)) σ H [.int (-22)] := fun {σ H} => el_lst (ea_cons (ev_un ev_c ru_neg) ea_nil) (by decide)
  refine q_when (b := !okNs ns || !(decide (0 ≤ n) && decide (n ≤ 24))) (et_or (et_not (et_B (ev_call (vs := [.ref a]) (ea_cons (ev_var rfl) ea_nil) fun H1 e1 Q' q' E' => ⟨a, ns, rfl, ex_l e1 ha, h24, fun H2 e2 => q' H2 e2⟩)))
    (fun _ => et_not (et_B (ev_call (vs := [.int n, .int 24]) (ea_cons (ev_var rfl) (ea_cons ev_c ea_nil)) fun H1 e1 Q' q' E' => ⟨n, 24, rfl, fun H2 e2 => q' H2 e2⟩)))) (fun hb H1 e1 => s_retL neg fun p H2 hp e2 h2 => ?_) (fun hb H1 e1 => ?_)
  · have r := right_is hn hns hfs (yes := yes) (fun _ _ => hyes)
    refine k H2 p ?_
    rw [h2, r]
    have c : ¬ (okNs ns && decide (0 ≤ n ∧ n ≤ 24)) = true := by
      intro z
      obtain ⟨z1, z2⟩ := Bool.and_eq_true_iff.mp z
      have z3 := of_decide_eq_true z2
      rw [z1, decide_eq_true z3.1, decide_eq_true z3.2] at hb
      cases hb
    unfold rightA
    rw [if_neg c]
    rfl
  have hb' := Bool.or_eq_false_iff.mp hb
  have hok : okNs ns = true := by simpa using hb'.1
  have hn24 : 0 ≤ n ∧ n ≤ 24 := by simpa using hb'.2
  have hk := okNs_iff.mp hok
  have c1 : (okNs ns && decide (0 ≤ n ∧ n ≤ 24)) = true := by rw [hok, decide_eq_true hn24]; rfl
  refine ⟨_, rfl, a, ns, rfl, ex_l e1 ha, hk.1, h24, fun p H2 hp e2 hL => ?_⟩
  have e02 := e1.trans e2
  obtain ⟨as, hpl, hB⟩ := hL
  have hcl : ((as.map V.ref).length : Int) = ((chunk ns).length : Int) := by rw [List.length_map, hB.1]
  have hlen : Ev (tCB (rLenS K) (tCons (tVar 3) tNil)) [some (.int n), some (.ref a), some (.ref q), some (.ref p)] H2 (.int ((chunk ns).length : Int)) := ev_is (ev_len (ev_var rfl) (sq_of hpl)) (by rw [hcl])
  have c8 : (chunk ns).length ≤ 8 := by rw [chunk_len]; omega
  refine q_when (et_not (et_B (ev_call (vs := [.ref q, .int ((chunk ns).length : Int)]) (ea_cons (ev_var rfl) (ea_cons hlen ea_nil)) fun H3 e3 Q' q' E' => ⟨q, _, fs, rfl, ex_l (e02.trans e3) hq, hf24, fun H4 e4 => q' H4 e4⟩)))
    (fun hb H3 e3 => s_retL neg fun p' H4 hp' e4 h4 => ?_) (fun hb H3 e3 => ?_)
  · have r := right_is hn hns hfs (yes := yes) (fun _ _ => hyes)
    refine k H4 p' ?_
    rw [h4, r]
    have c2 : ¬ (decide (fs.length = (chunk ns).length) && fs.all fun x => decide (0 ≤ x) && decide (x ≤ 100)) = true := by
      intro z
      have d : decide ((fs.length : Int) = ((chunk ns).length : Int)) = decide (fs.length = (chunk ns).length) := decide_eq_decide.mpr (by omega)
      rw [d, z] at hb
      cases hb
    unfold rightA
    rw [if_pos c1, if_neg c2]
    rfl
  have d : decide ((fs.length : Int) = ((chunk ns).length : Int)) = decide (fs.length = (chunk ns).length) := decide_eq_decide.mpr (by omega)
  have c2 : (decide (fs.length = (chunk ns).length) && fs.all fun x => decide (0 ≤ x) && decide (x ≤ 100)) = true := by
    rw [d] at hb
    simpa using hb
  have hfl : fs.length = (chunk ns).length := of_decide_eq_true (Bool.and_eq_true_iff.mp c2).1
  have e03 := e02.trans e3
  refine q_when (b := yes) (et_B (ev_call (vs := [.int n, .ref p, .ref q]) (ea_cons (ev_var rfl) (ea_cons (ev_var rfl) (ea_cons (ev_var rfl) ea_nil))) fun H4 e4 Q' q' E' =>
    ⟨n, p, q, chunk ns, fs, rfl, ⟨as, e4 _ _ (e3 _ _ hpl), hB.mono (e3.trans e4)⟩, ex_l (e03.trans e4) hq, hfl, c8, yes, hyes, fun H5 e5 => q' H5 e5⟩)) (fun hb' H4 e4 => s_retL (el_lst (ea_cons ev_c ea_nil) (by decide)) fun p' H5 hp' e5 h5 => ?_)
    (fun hb' H4 e4 => s_retL (el_lst (ea_cons ev_c ea_nil) (by decide)) fun p' H5 hp' e5 h5 => ?_)
  · have r := right_is hn hns hfs (yes := yes) (fun _ _ => hyes)
    refine k H5 p' ?_
    rw [h5, r, hb']
    unfold rightA
    rw [if_pos c1, if_pos c2]
    rfl
  · have r := right_is hn hns hfs (yes := yes) (fun _ _ => hyes)
    refine k H5 p' ?_
    rw [h5, r, hb']
    unfold rightA
    rw [if_pos c1, if_pos c2]
    rfl
end
end Lb
set_option Elab.async false
set_option maxRecDepth 100000
set_option maxHeartbeats 2000000
/-! # The ways: promises and readings of what puts bookings, the table of the lambda among what may grow -/
namespace Lb
open PySem PySem.Spec PyProof.Rows L2 Evl
abbrev TT1 := List (Addr × Str)
/-! ### what grows: all stands but tables -/
abbrev Nx (H H' : Hp) : Prop := LamX.ExtN H H'
theorem nx_of {H H' : Hp} (e : Ex H H') : Nx H H' := fun a o h _ => e a o h
theorem Nx.at {H H' : Hp} (e : Nx H H') {a : Addr} {o : HO} (h : H a = some o) (n : ∀ ps, o ≠ .tbl ps := by intro ps z; cases z) : H' a = some o := e a o h n
theorem Nx.mut {H H' : Hp} {p : Addr} {o : HO} (e : Nx H H') (h : H p = none) : Nx H (upd H' p o) := fun a u ha n => by
  rw [upd_ne (ne_of_none ha h)]
  exact e a u ha n
theorem tb_ex {T : TT1} {H H' : Hp} (t : LamX.Tabs T H) (e : Ex H H') : LamX.Tabs T H' := t.ext fun b o h => e b o h
theorem tb_mut {T : TT1} {H : Hp} {p : Addr} {xs : List V} {o : HO} (t : LamX.Tabs T H) (h : H p = some (.lst xs)) : LamX.Tabs T (upd H p o) := fun pr hp => by
  obtain ⟨ps, h1, h2, h3⟩ := t pr hp
  refine ⟨ps, by rw [upd_ne (ne_of h1 h (by intro z; cases z))]; exact h1, h2, fun pos cv hc => ?_⟩
  obtain ⟨c, e1, e2⟩ := h3 pos cv hc
  exact ⟨c, e1, by rw [upd_ne (ne_of e2 h (by intro z; cases z))]; exact e2⟩
theorem nx_sq {K : PySem.W.Frag} {H H' : Hp} {a : Addr} {xs : List V} (e : Nx H H') (h : SqL K H a xs) : SqL K H' a xs := sqL_ext e h
theorem BkAt.nx {C a : Addr} {H H' : Hp} {k : Bk} (e : Nx H H') (h : BkAt C H a k) : BkAt C H' a k := by
  obtain ⟨dx, h⟩ := h
  exact ⟨dx, e.at h⟩
theorem BksAt.nx {C : Addr} {H H' : Hp} {as : List Addr} {ks : List Bk} (e : Nx H H') (h : BksAt C H as ks) : BksAt C H' as ks := ⟨h.1, fun i a hi => (h.2 i a hi).nx e⟩
theorem LstAt.nx {C p : Addr} {H H' : Hp} {ks : List Bk} (e : Nx H H') (h : LstAt C H p ks) : LstAt C H' p ks := by
  obtain ⟨as, h1, h2⟩ := h
  exact ⟨as, e.at h1, h2.nx e⟩
theorem BkAt.mut {C a p : Addr} {H : Hp} {k : Bk} {xs : List V} {o : HO} (h : BkAt C H a k) (hp : H p = some (.lst xs)) : BkAt C (upd H p o) a k := by
  obtain ⟨dx, h⟩ := h
  exact ⟨dx, by rw [upd_ne (ne_of h hp (by intro z; cases z))]; exact h⟩
/-! ### lists of placed bookings, lists of bookings -/
structure Pz where
  t : Addr
  a : Addr
  k : Bk
  g : Int
def Pz.kg (z : Pz) : Bk × Int := (z.k, z.g)
def PzAt (C : Addr) (H : Hp) (z : Pz) : Prop := H z.t = some (.tup [.ref z.a, .int z.g]) ∧ BkAt C H z.a z.k
/-- at p a list of pairs: a booking and its first lane -/
def Pl (C : Addr) (H : Hp) (p : Addr) (zs : List Pz) : Prop := H p = some (.lst (zs.map fun z => V.ref z.t)) ∧ ∀ z ∈ zs, PzAt C H z
theorem PzAt.nx {C : Addr} {H H' : Hp} {z : Pz} (e : Nx H H') (h : PzAt C H z) : PzAt C H' z := ⟨e.at h.1, h.2.nx e⟩
theorem PzAt.mut {C p : Addr} {H : Hp} {z : Pz} {xs : List V} {o : HO} (h : PzAt C H z) (hp : H p = some (.lst xs)) : PzAt C (upd H p o) z := ⟨by rw [upd_ne (ne_of h.1 hp (by intro z; cases z))]; exact h.1, h.2.mut hp⟩
theorem Pl.nx {C p : Addr} {H H' : Hp} {zs : List Pz} (e : Nx H H') (h : Pl C H p zs) : Pl C H' p zs := ⟨e.at h.1, fun z hz => (h.2 z hz).nx e⟩
/-- at o a list of bookings, in an order -/
def Od (C : Addr) (H : Hp) (o : Addr) (bs : List (Addr × Bk)) : Prop := H o = some (.lst (bs.map fun b => V.ref b.1)) ∧ ∀ b ∈ bs, BkAt C H b.1 b.2
theorem Od.nx {C p : Addr} {H H' : Hp} {bs : List (Addr × Bk)} (e : Nx H H') (h : Od C H p bs) : Od C H' p bs := ⟨e.at h.1, fun z hz => (h.2 z hz).nx e⟩
/-! ### promises -/
def spLeast (C : Addr) (T : TT1) : Sp := fun vs H Q _ => ∃ (b p : Addr) (k : Bk) (zs : List Pz), vs = [.ref b, .ref p] ∧ BkAt C H b k ∧ Pl C H p zs ∧ zs.length ≤ 30 ∧ LamX.Tabs T H ∧
  ∀ (r : Int) (H' : Hp), Least k (zs.map Pz.kg) r → Nx H H' → LamX.Tabs T H' → Q (.int r) H'
def spFits (C : Addr) (T : TT1) : Sp := fun vs H Q _ => ∃ (n : Int) (p o : Addr) (zs : List Pz) (bs : List (Addr × Bk)), vs = [.int n, .ref p, .ref o] ∧ Pl C H p zs ∧ Od C H o bs ∧ zs.length ≤ 8 ∧ bs.length ≤ 8 ∧ LamX.Tabs T H ∧
  ∀ (y : Bool) (H' : Hp), (y = true ↔ Fits n (zs.map Pz.kg) (bs.map Prod.snd)) → Nx H H' → LamX.Tabs T H' → Q (.bl y) H'
def spOrders (K : PySem.W.Frag) : Sp := fun vs H Q _ => ∃ (p : Addr) (xs : List V), vs = [.ref p] ∧ SqL K H p xs ∧ xs.length ≤ 6 ∧
  ∀ (H' : Hp) (q : Addr) (ps : List (Addr × List V)), Ex H H' → H q = none → H' q = some (.lst (ps.map fun l => V.ref l.1)) → (∀ l ∈ ps, H' l.1 = some (.lst l.2)) → AllOf xs (ps.map Prod.snd) → ps.length ≤ 720 → Q (.ref q) H'
def spHas (C : Addr) (T : TT1) : Sp := fun vs H Q _ => ∃ (n : Int) (p q : Addr) (ks : List Bk) (fs : List Int), vs = [.int n, .ref p, .ref q] ∧ LstAt C H p ks ∧ H q = some (.lst (fs.map V.int)) ∧ fs.length ≤ ks.length ∧ ks.length ≤ 6 ∧ (∀ b ∈ ks, 1 ≤ b.w) ∧ (∀ x ∈ fs, 0 ≤ x) ∧ LamX.Tabs T H ∧
  ∀ (y : Bool) (H' : Hp), (y = true ↔ Goes n ks fs) → Nx H H' → LamX.Tabs T H' → Q (.bl y) H'
/-! ### readings -/
def rIsN0 : R2 := fun x y H Q => y = .non ∧ Q (.bl (decide (x = .non))) H
/-- slots: booking, placed, first, other, other_first -/
def t_least (K : PySem.W.Frag) (C : Addr) (T : TT1) : TS :=
  tSeq (tAsg (tC (.int 0)) (gName 2))
  (tSeq (tFor (iList K (tSortL T K (tVar 1))) (gTup K 2 (gCons (gName 3) (gCons (gName 4) gNil)))
    (tIfS (tB (tCall (spColl C) [] E0 (tCons (tVar 0) (tCons (tVar 2) (tCons (tVar 3) (tCons (tVar 4) tNil)))))) (tAsg (tOp rAdd (tVar 4) (tFld K (tVar 3) "wide")) (gName 2)) tNext))
  (tRet (tVar 2)))
/-- slots: lanes, placed, order, standing, booking, first -/
def t_fits (K : PySem.W.Frag) (C : Addr) (T : TT1) : TS :=
  tSeq (tAsg (tCB (rListS K) (tCons (tVar 1) tNil)) (gName 3))
  (tSeq (tFor (iList K (tVar 2)) (gName 4)
    (tSeq (tAsg (tCall (spLeast C T) [] E0 (tCons (tVar 4) (tCons (tVar 3) tNil))) (gName 5))
    (tSeq (tIfS (tTest (tOp rGt (tOp rAdd (tVar 5) (tFld K (tVar 4) "wide")) (tVar 0))) (tRet (tC (.bl false))) tNext)
    (tDrop (tBM K "list" rAppend (tVar 3) (tCons (tTup (tCons (tVar 4) (tCons (tVar 5) tNil))) tNil))))))
  (tRet (tC (.bl true))))
/-- slots: bookings, orders, booking, longer, order, at -/
def t_orders (K : PySem.W.Frag) : TS :=
  tSeq (tAsg (tLst (tCons (tLst tNil) tNil)) (gName 1))
  (tSeq (tFor (iList K (tVar 0)) (gName 2)
    (tSeq (tAsg (tLst tNil) (gName 3))
    (tSeq (tFor (iList K (tVar 1)) (gName 4)
      (tFor (iRng1 (tCons (tOp rAdd (tCB (rLenS K) (tCons (tVar 4) tNil)) (tC (.int 1))) tNil)) (gName 5)
        (tDrop (tBM K "list" rAppend (tVar 3) (tCons (tOp rCat (tOp rCat (tSl (rSlL K) (tVar 4) tNoPart (tPart (tVar 5))) (tLst (tCons (tVar 2) tNil))) (tSl (rSlL K) (tVar 4) (tPart (tVar 5)) tNoPart)) tNil)))))
    (tAsg (tVar 3) (gName 1)))))
  (tRet (tVar 1)))
/-- slots: lanes, bookings, firsts, begun, placed, order -/
def t_has (K : PySem.W.Frag) (C : Addr) (T : TT1) : TS :=
  tSeq (tAsg (tSl (rSlL K) (tVar 1) tNoPart (tPart (tCB (rLenS K) (tCons (tVar 2) tNil)))) (gName 3))
  (tSeq (tIfS (tNot (tB (tCall (spIsR K C) [] E0 (tCons (tVar 0) (tCons (tVar 3) (tCons (tVar 2) tNil)))))) (tRet (tC (.bl false))) tNext)
  (tSeq (tAsg (tListZip K (tCons (tVar 3) (tCons (tVar 2) tNil))) (gName 4))
  (tSeq (tFor (iList K (tCall (spOrders K) [] E0 (tCons (tSl (rSlL K) (tVar 1) (tPart (tCB (rLenS K) (tCons (tVar 2) tNil))) tNoPart) tNil))) (gName 5)
    (tIfS (tB (tCall (spFits C T) [] E0 (tCons (tVar 0) (tCons (tVar 4) (tCons (tVar 5) tNil))))) (tRet (tC (.bl true))) tNext))
  (tRet (tC (.bl false))))))
section
variable {K : PySem.W.Frag} {mg : Str → Option Value} {C : Addr} {T : TT1}
theorem rv_isN {x : V} {H : Hp} : RV rIsN0 x .non H (.bl (decide (x = .non))) := fun H1 _ _ q => ⟨rfl, q H1 (Ex.refl H1)⟩
theorem cut_take {xs : List V} {i : Nat} (h : i ≤ xs.length) : cutV xs none (some (i : Int)) = xs.take i := by
  unfold cutV
  rw [HT.sIx_nat, HT.sIx_none, Nat.min_eq_left h, List.drop_zero, Nat.sub_zero]
theorem cut_drop {xs : List V} {i : Nat} (h : i ≤ xs.length) : cutV xs (some (i : Int)) none = xs.drop i := by
  unfold cutV
  rw [HT.sIx_nat, HT.sIx_none, Nat.min_eq_left h]
  exact List.take_of_length_le (by rw [List.length_drop]; exact Nat.le_refl _)
theorem el_cat {σ : L2.St} {H : Hp} {ta tb : TE} {xs ys : List V} (ha : EvL ta σ H xs) (hb : EvL tb σ H ys) (hz : xs.length + ys.length ≤ 100000) : EvL (tOp rCat ta tb) σ H (xs ++ ys) := fun H1 e _ q =>
  ha H1 e _ fun a H2 _ e2 h2 => hb H2 (e.trans e2) _ fun b _ _ e3 h3 => ⟨a, b, xs, ys, rfl, rfl, e3 _ _ h2, h3, sz_of hz, fun p hp => q p _ (fresh_back (e2.trans e3) hp) ((e2.trans e3).trans (Ex.new hp)) upd_same⟩
/-- the first list stands -/
theorem el_catV {σ : L2.St} {H : Hp} {ta tb : TE} {a : Addr} {xs ys : List V} (ha : Ev ta σ H (.ref a)) (h : H a = some (.lst xs)) (hb : EvL tb σ H ys) (hz : xs.length + ys.length ≤ 100000) : EvL (tOp rCat ta tb) σ H (xs ++ ys) := fun H1 e _ q =>
  ha H1 e _ fun H2 e2 => hb H2 (e.trans e2) _ fun b _ _ e3 h3 => ⟨a, b, xs, ys, rfl, rfl, ((e.trans e2).trans e3) _ _ h, h3, sz_of hz, fun p hp => q p _ (fresh_back (e2.trans e3) hp) ((e2.trans e3).trans (Ex.new hp)) upd_same⟩
/-- the second list stands -/
theorem el_catW {σ : L2.St} {H : Hp} {ta tb : TE} {b : Addr} {xs ys : List V} (ha : EvL ta σ H xs) (hb : Ev tb σ H (.ref b)) (h : H b = some (.lst ys)) (hz : xs.length + ys.length ≤ 100000) : EvL (tOp rCat ta tb) σ H (xs ++ ys) := fun H1 e _ q =>
  ha H1 e _ fun a H2 _ e2 h2 => hb H2 (e.trans e2) _ fun _ e3 => ⟨a, b, xs, ys, rfl, rfl, e3 _ _ h2, ((e.trans e2).trans e3) _ _ h, sz_of hz, fun p hp => q p _ (fresh_back (e2.trans e3) hp) ((e2.trans e3).trans (Ex.new hp)) upd_same⟩
theorem pure_least (TX : Txt K mg C) (vs : List V) (H : Hp) (Q : VK) (E : XK) (h : spLeast C T vs H Q E) : t_least K C T { nx := fun _ H' => Q .non H', rt := Q } (start ["booking", "placed", "first", "other", "other_first"] vs) H := by
  obtain ⟨b, p, k, zs, rfl, hb, hp, hz, hT, q⟩ := h
  refine q_asg (v := .int 0) ev_c fun H1 e1 => ?_
  have hp1 := hp.nx (nx_of e1)
  have hb1 := hb.nx (nx_of e1)
  refine ⟨.ref p, rfl, tb_ex hT e1, p, zs.map fun z => (z.t, z.g), rfl, sq_of (by rw [List.map_map]; exact hp1.1), ?_, by rw [List.length_map]; omega, fun H2 e2 hT2 qs r hperm hsort hr => ⟨r, rfl, ⟨_, sq_of upd_same⟩, ?_⟩⟩
  · intro pr hpr
    obtain ⟨z, hz', rfl⟩ := List.mem_map.mp hpr
    exact ⟨_, (hp1.2 z hz').1⟩
  obtain ⟨ws, hws, hpw⟩ := perm_map (f := fun z : Pz => (z.t, z.g)) hperm.symm rfl
  subst hws
  have hkg : (ws.map Pz.kg).Perm (zs.map Pz.kg) := hpw.map _
  have hs : (ws.map Pz.kg).Pairwise (fun x y => x.2 ≤ y.2) := by
    rw [List.pairwise_map] at hsort ⊢
    exact hsort
  have hL := least_scan (b := k) hkg hs
  have e12 : Nx H H2 := (nx_of e1).trans e2
  have e3 : Nx H2 (upd H2 r (.lst ((ws.map fun z => (z.t, z.g)).map fun p => V.ref p.1))) := nx_of (Ex.new hr)
  have hr3 : upd H2 r (.lst ((ws.map fun z => (z.t, z.g)).map fun p => V.ref p.1)) r = some (.lst ((ws.map fun z => (z.t, z.g)).map fun p => V.ref p.1)) := upd_same
  have hT3 := tb_ex hT2 (Ex.new hr (o := .lst ((ws.map fun z => (z.t, z.g)).map fun p => V.ref p.1)))
  generalize upd H2 r (.lst ((ws.map fun z => (z.t, z.g)).map fun p => V.ref p.1)) = H3 at e3 hr3 hT3 ⊢
  have e13 : Nx H H3 := e12.trans e3
  have hb3 := hb.nx e13
  have hz3 : ∀ z ∈ ws, PzAt C H3 z := fun z hz => (hp.2 z (hpw.mem_iff.mp hz)).nx e13
  refine for_list (xs := (ws.map fun z => (z.t, z.g)).map fun p => V.ref p.1) (fun i σ H' => Ex H3 H' ∧ ∃ f v3 v4, σ = [some (.ref b), some (.ref p), some (.int f), v3, v4] ∧ scan k f ((ws.map Pz.kg).drop i) = scan k 0 (ws.map Pz.kg)) ⟨Ex.refl _, 0, _, _, rfl, rfl⟩
    (fun i σ H' _ P => sq_of (P.1 _ _ hr3)) ?_ ?_
  · rintro i x σ H' hi ⟨e, f, v3, v4, rfl, hsc⟩
    rw [List.map_map, List.getElem?_map] at hi
    cases hw : ws[i]? with
    | none =>
      rw [hw] at hi
      cases hi
    | some z =>
      rw [hw] at hi
      obtain rfl := Option.some.inj hi
      have hzm := hz3 z (List.mem_of_getElem? hw)
      have ed : (ws.map Pz.kg).drop i = z.kg :: (ws.map Pz.kg).drop (i + 1) := by
        obtain ⟨hlt, hge⟩ := List.getElem?_eq_some_iff.mp hw
        rw [List.drop_eq_getElem_cons (by rw [List.length_map]; exact hlt), List.getElem_map, hge]
      rw [ed] at hsc
      have hsc' : scan k (if hits k f z.kg = true then z.g + z.k.w else f) ((ws.map Pz.kg).drop (i + 1)) = scan k 0 (ws.map Pz.kg) := hsc
      refine ⟨z.t, [.ref z.a, .int z.g], rfl, st_of (e _ _ hzm.1), rfl, _, _, rfl, _, _, rfl, rfl, ?_⟩
      refine s_when (b := hits k f (z.k, z.g)) (et_B (ev_call (vs := [.ref b, .int f, .ref z.a, .int z.g]) (ea_cons (ev_var rfl) (ea_cons (ev_var rfl) (ea_cons (ev_var rfl) (ea_cons (ev_var rfl) ea_nil))))
        fun H7 e7 Q' q' E' => ⟨b, z.a, k, z.k, f, z.g, rfl, (hb3.mono e).mono e7, (hzm.2.mono e).mono e7, fun H8 e8 => q' H8 e8⟩)) (fun hb' H7 e7 => ?_) (fun hb' H7 e7 => ?_)
      · obtain ⟨dz, hz7⟩ := (hzm.2.mono e).mono e7
        refine s_asg (v := .int (z.g + z.k.w)) (ev_op (ev_var (v := .int z.g) rfl) (ev_fld (ev_var (v := .ref z.a) rfl) hz7 TX.cl TX.nW (bF_w _)) rv_I0) fun H8 e8 => ⟨(e.trans e7).trans e8, _, _, _, rfl, ?_⟩
        rw [if_pos (show hits k f z.kg = true from hb')] at hsc'
        exact hsc'
      · refine ⟨e.trans e7, f, _, _, rfl, ?_⟩
        rw [if_neg (by rw [show hits k f z.kg = false from hb']; exact Bool.false_ne_true)] at hsc'
        exact hsc'
  · rintro σ H' ⟨e, f, v3, v4, rfl, hsc⟩
    rw [List.length_map, List.length_map, List.drop_of_length_le (by rw [List.length_map]; exact Nat.le_refl _)] at hsc
    have hf : f = scan k 0 (ws.map Pz.kg) := hsc
    refine s_ret (ev_var (v := .int f) rfl) fun H4 e4 => ?_
    rw [hf]
    exact q _ H4 hL (e13.trans (nx_of (e.trans e4))) (tb_ex hT3 (e.trans e4))
theorem pure_fits (TX : Txt K mg C) (vs : List V) (H : Hp) (Q : VK) (E : XK) (h : spFits C T vs H Q E) : t_fits K C T { nx := fun _ H' => Q .non H', rt := Q } (start ["lanes", "placed", "order", "standing", "booking", "first"] vs) H := by
  obtain ⟨n, p, o, zs, bs, rfl, hp, ho, hz, hbz, hT, q⟩ := h
  refine q_asgL (el_list (ev_var (v := .ref p) rfl) (sq_of hp.1)) fun st H1 hst e1 h1 => ?_
  refine q_forLn (a := o) (xs := bs.map fun b => V.ref b.1) (ev_var (v := .ref o) rfl) (sq_of (e1 _ _ ho.1)) (fun i σ H' => Nx H H' ∧ LamX.Tabs T H' ∧ ∃ v4 v5 ws, σ = [some (.int n), some (.ref p), some (.ref o), some (.ref st), v4, v5] ∧ Pl C H' st ws ∧ ws.length ≤ zs.length + i ∧
    (Fits n (zs.map Pz.kg) (bs.map Prod.snd) ↔ Fits n (ws.map Pz.kg) ((bs.map Prod.snd).drop i)))
    (fun H2 e2 => ⟨nx_of (e1.trans e2), tb_ex hT (e1.trans e2), _, _, zs, rfl, ⟨e2 _ _ h1, fun z hz => (hp.2 z hz).nx (nx_of (e1.trans e2))⟩, Nat.le_refl _, Iff.rfl⟩) (fun i σ H' _ P => sq_of (P.1.at ho.1)) ?_ ?_
  · rintro i x σ H' hi ⟨e, hT', v4, v5, ws, rfl, hws, hl, hf⟩
    rw [List.getElem?_map] at hi
    cases hw : bs[i]? with
    | none =>
      rw [hw] at hi
      cases hi
    | some b =>
      rw [hw] at hi
      obtain rfl := Option.some.inj hi
      have hib := (List.getElem?_eq_some_iff.mp hw).1
      have hbk := (ho.2 b (List.mem_of_getElem? hw)).nx e
      have ed : (bs.map Prod.snd).drop i = b.2 :: (bs.map Prod.snd).drop (i + 1) := by
        obtain ⟨hlt, hge⟩ := List.getElem?_eq_some_iff.mp hw
        rw [List.drop_eq_getElem_cons (by rw [List.length_map]; exact hlt), List.getElem_map, hge]
      rw [ed] at hf
      refine ⟨_, rfl, _, rfl, b.1, st, b.2, ws, rfl, hbk, hws, by omega, hT', fun r H2 hL e2 hT2 => ?_⟩
      obtain ⟨db, hb2⟩ := hbk.nx e2
      have eN : Nx H H2 := e.trans e2
      refine q_when (et_test (ev_op (ev_op (ev_var (v := .int r) rfl) (ev_fld (ev_var (v := .ref b.1) rfl) hb2 TX.cl TX.nW (bF_w _)) rv_I0) (ev_var (v := .int n) rfl) rv_I0)) (fun hc H3 e3 => s_ret ev_c fun H4 e4 => ?_) (fun hc H3 e3 => ?_)
      · refine q false H4 ⟨fun z => Bool.noConfusion z, fun z => ?_⟩ (eN.trans (nx_of (e3.trans e4))) (tb_ex hT2 (e3.trans e4))
        obtain ⟨r', hL', hn, _⟩ := hf.mp z
        have := hL.eq hL'
        have := of_decide_eq_true hc
        omega
      · have hn : r + b.2.w ≤ n := by
          have := of_decide_eq_false hc
          omega
        have hws3 : Pl C H3 st ws := hws.nx (e2.trans (nx_of e3))
        refine s_appU (l := st) hws3.1 (ev_var (v := .ref st) rfl) (eu_tup (vs := [.ref b.1, .int r]) (ea_cons (ev_var rfl) (ea_cons (ev_var rfl) ea_nil)) (by show 2 ≤ 100000; decide)) (by rw [List.length_map]; omega) fun t H4 ht e4 h4 => ?_
        have hws4 : Pl C H4 st ws := hws3.nx (nx_of e4)
        have hb4 : BkAt C H4 b.1 b.2 := ((hbk.nx e2).mono e3).mono e4
        refine ⟨Nx.mut (eN.trans (nx_of (e3.trans e4))) hst, tb_mut (tb_ex hT2 (e3.trans e4)) hws4.1, _, _, ws ++ [⟨t, b.1, b.2, r⟩], rfl, ⟨?_, fun z hz' => ?_⟩, ?_, ?_⟩
        · rw [upd_same, List.map_append]
          rfl
        · rcases List.mem_append.mp hz' with hz' | hz'
          · exact (hws4.2 z hz').mut hws4.1
          · rw [List.mem_singleton.mp hz']
            exact PzAt.mut ⟨h4, hb4⟩ hws4.1
        · rw [List.length_append, List.length_singleton]
          omega
        · rw [hf, List.map_append]
          constructor
          · rintro ⟨r', hL', _, hF⟩
            rw [← hL.eq hL'] at hF
            exact hF
          · intro hF
            exact ⟨r, hL, hn, hF⟩
  · rintro σ H' ⟨e, hT', v4, v5, ws, rfl, hws, hl, hf⟩
    refine s_ret ev_c fun H2 e2 => q true H2 ⟨fun _ => hf.mpr ?_, fun _ => rfl⟩ (e.trans (nx_of e2)) (tb_ex hT' e2)
    rw [List.length_map, List.drop_of_length_le (by rw [List.length_map]; exact Nat.le_refl _)]
    trivial
/-- a list of lists: each with its address -/
def Ll (H : Hp) (q : Addr) (ps : List (Addr × List V)) : Prop := H q = some (.lst (ps.map fun l => V.ref l.1)) ∧ ∀ l ∈ ps, H l.1 = some (.lst l.2)
theorem Ll.ex {H H' : Hp} {q : Addr} {ps : List (Addr × List V)} (e : Ex H H') (h : Ll H q ps) : Ll H' q ps := ⟨e _ _ h.1, fun l hl => e _ _ (h.2 l hl)⟩
theorem pure_orders (vs : List V) (H : Hp) (Q : VK) (E : XK) (h : spOrders K vs H Q E) : t_orders K { nx := fun _ H' => Q .non H', rt := Q } (start ["bookings", "orders", "booking", "longer", "order", "at"] vs) H := by
  obtain ⟨p, xs, rfl, hp, h6, q⟩ := h
  refine ⟨by decide, fun l hl => ?_⟩
  have e1 : Ex H (upd H l (.lst [])) := Ex.new hl
  have h1 : upd H l (.lst []) l = some (.lst []) := upd_same
  generalize upd H l (.lst []) = H1 at e1 h1 ⊢
  refine ⟨by show 1 ≤ sizeLine; decide, fun q0 hq0 => ?_⟩
  have e2 : Ex H1 (upd H1 q0 (.lst [.ref l])) := Ex.new hq0
  have h2 : upd H1 q0 (.lst [.ref l]) q0 = some (.lst [.ref l]) := upd_same
  show (tSeq _ _) _ _ (upd H1 q0 (.lst [.ref l]))
  generalize upd H1 q0 (.lst [.ref l]) = H2 at e2 h2 ⊢
  have hq0H : H q0 = none := fresh_back e1 hq0
  refine q_forLn (a := p) (xs := xs) (ev_var (v := .ref p) rfl) (ex_l (e1.trans e2) hp) (fun i σ H' => Ex H H' ∧ ∃ (q1 : Addr) (ps : List (Addr × List V)) (v2 v3 v4 v5 : Option V), σ = [some (.ref p), some (.ref q1), v2, v3, v4, v5] ∧ H q1 = none ∧ Ll H' q1 ps ∧ AllOf (xs.take i) (ps.map Prod.snd) ∧ ps.length = fac i)
    (fun H3 e3 => ⟨(e1.trans e2).trans e3, q0, [(l, [])], _, _, _, _, rfl, hq0H, ⟨e3 _ _ h2, fun z hz => by
      rw [List.mem_singleton.mp hz]
      exact e3 _ _ (e2 _ _ h1)⟩, allOf_nil, rfl⟩) (fun i σ H' _ P => ex_l P.1 hp) ?_ ?_
  · rintro i x σ H3 hi ⟨e3, q1, ps, v2, v3, v4, v5, rfl, hq1, hL, hA, hF⟩
    have hix := (List.getElem?_eq_some_iff.mp hi).1
    have hfac : fac (i + 1) ≤ 720 := fac_le (by omega)
    have len_o : ∀ o ∈ ps, o.2.length = i := fun o ho => by
      have := ((hA o.2).mp (List.mem_map.mpr ⟨o, ho, rfl⟩)).length_eq
      rw [List.length_take] at this
      omega
    have tot : ((ps.map Prod.snd).flatMap (insAt x)).length = fac (i + 1) := by
      rw [flat_len (n := i) (fun o ho => by
        obtain ⟨z, hz, rfl⟩ := List.mem_map.mp ho
        exact len_o z hz), List.length_map, hF]
      rfl
    refine q_asgL (el_lst ea_nil (by decide)) fun g H4 hg e4 h4 => ?_
    have hgH : H g = none := fresh_back e3 hg
    -- what is in the longer list so far
    refine q_forLn (a := q1) (xs := ps.map fun l => V.ref l.1) (ev_var (v := .ref q1) rfl) (sq_of (e4 _ _ hL.1)) (fun j σ H' => Ex H3 H' ∧ ∃ (rs : List (Addr × List V)) (v4 v5 : Option V), σ = [some (.ref p), some (.ref q1), some x, some (.ref g), v4, v5] ∧ (Ll H' g rs ∧ ∀ z ∈ rs, z.1 ≠ g) ∧ rs.map Prod.snd = ((ps.take j).map Prod.snd).flatMap (insAt x))
      (fun H5 e5 => ⟨e4.trans e5, [], _, _, rfl, ⟨⟨e5 _ _ h4, fun z hz => absurd hz (by simp)⟩, fun z hz => absurd hz (by simp)⟩, rfl⟩) (fun j σ H' _ P => sq_of (P.1 _ _ hL.1)) ?_ ?_
    · rintro j y σ H5 hj ⟨e5, rs, w4, w5, rfl, hR, hM⟩
      rw [List.getElem?_map] at hj
      cases hw : ps[j]? with
      | none =>
        rw [hw] at hj
        cases hj
      | some o =>
        rw [hw] at hj
        obtain rfl := Option.some.inj hj
        have hom := List.mem_of_getElem? hw
        have hol := len_o o hom
        have etk : (ps.take (j + 1)).map Prod.snd = (ps.take j).map Prod.snd ++ [o.2] := by
          rw [List.take_add_one, hw, List.map_append]
          rfl
        have hjl : rs.length + (i + 1) ≤ 720 := by
          have c1 : (ps.take (j + 1) ++ ps.drop (j + 1)) = ps := List.take_append_drop _ _
          have c2 : ((ps.map Prod.snd).flatMap (insAt x)).length = (((ps.take (j + 1)).map Prod.snd).flatMap (insAt x)).length + (((ps.drop (j + 1)).map Prod.snd).flatMap (insAt x)).length := by
            rw [← List.length_append, ← List.flatMap_append, ← List.map_append, c1]
          rw [tot, etk, List.flatMap_append, List.length_append, ← hM, List.length_map] at c2
          have c3 : ([o.2].flatMap (insAt x)).length = i + 1 := by
            rw [flat_len (n := i) (fun z hz => by rw [List.mem_singleton.mp hz]; exact hol)]
            simp
          rw [c3] at c2
          omega
        have hl5 : H5 o.1 = some (.lst o.2) := e5 _ _ (hL.2 o hom)
        refine s_forR1 (n := ((o.2.length : Int) + 1)) (ea_cons (ev_op (ev_len (ev_var (v := .ref o.1) rfl) (sq_of hl5)) ev_c rv_I0) ea_nil) ⟨by omega, by omega⟩
          (fun k σ H' => Ex H3 H' ∧ ∃ (us : List (Addr × List V)) (v5 : Option V), σ = [some (.ref p), some (.ref q1), some x, some (.ref g), some (.ref o.1), v5] ∧ (Ll H' g us ∧ ∀ z ∈ us, z.1 ≠ g) ∧ us.map Prod.snd = rs.map Prod.snd ++ (List.range k).map fun a => o.2.take a ++ [x] ++ o.2.drop a)
          (fun H6 e6 => ⟨e5.trans e6, rs, _, rfl, ⟨hR.1.ex e6, hR.2⟩, by simp⟩) ?_ ?_
        · rintro k σ H6 hk ⟨e6, us, w5, rfl, ⟨hU, hUg⟩, hN⟩
          have hkl : k ≤ o.2.length := by omega
          have hl6 : H6 o.1 = some (.lst o.2) := e6 _ _ (hL.2 o hom)
          have hul : us.length < 100000 := by
            have := congrArg List.length hN
            rw [List.length_map, List.length_append, List.length_map, List.length_map, List.length_range] at this
            omega
          have t1 : EvL (tSl (rSlL K) (tVar 4) tNoPart (tPart (tVar 5))) [some (.ref p), some (.ref q1), some x, some (.ref g), some (.ref o.1), some (.int (k : Int))] H6 (o.2.take k) := by
            have := el_sl (K := K) (σ := [some (.ref p), some (.ref q1), some x, some (.ref g), some (.ref o.1), some (.int (k : Int))]) (H := H6) (te := tVar 4) (a := o.1) (xs := o.2) (ev_var rfl) eo_none (eo_some (i := (k : Int)) (ev_var (i := 5) rfl)) (sq_of hl6)
            rw [cut_take hkl] at this
            exact this
          have t2 : EvL (tSl (rSlL K) (tVar 4) (tPart (tVar 5)) tNoPart) [some (.ref p), some (.ref q1), some x, some (.ref g), some (.ref o.1), some (.int (k : Int))] H6 (o.2.drop k) := by
            have := el_sl (K := K) (σ := [some (.ref p), some (.ref q1), some x, some (.ref g), some (.ref o.1), some (.int (k : Int))]) (H := H6) (te := tVar 4) (a := o.1) (xs := o.2) (ev_var rfl) (eo_some (i := (k : Int)) (ev_var (i := 5) rfl)) eo_none (sq_of hl6)
            rw [cut_drop hkl] at this
            exact this
          refine s_appL (l := g) hU.1 (ev_var (v := .ref g) rfl) (el_cat (el_cat t1 (el_lst (vs := [x]) (ea_cons (ev_var rfl) ea_nil) (by show 1 ≤ 100000; decide)) (by rw [List.length_take, List.length_singleton]; omega)) t2 (by rw [List.length_append, List.length_take, List.length_drop, List.length_singleton]; omega)) (by rw [List.length_map]; exact hul) fun r H7 hr e7 h7 => ?_
          have hU7 := hU.ex e7
          have ng : ∀ z ∈ us ++ [(r, o.2.take k ++ [x] ++ o.2.drop k)], z.1 ≠ g := fun z hz => by
            rcases List.mem_append.mp hz with hz | hz
            · exact hUg z hz
            · rw [List.mem_singleton.mp hz]
              exact (ne_of_none hU.1 hr).symm
          refine ⟨Ex.mut (e6.trans e7) hg, us ++ [(r, o.2.take k ++ [x] ++ o.2.drop k)], _, rfl, ⟨⟨?_, fun z hz => ?_⟩, ng⟩, ?_⟩
          · rw [upd_same, List.map_append]
            rfl
          · rw [upd_ne (ng z hz)]
            rcases List.mem_append.mp hz with hz | hz
            · exact hU7.2 z hz
            · rw [List.mem_singleton.mp hz]
              exact h7
          · rw [List.map_append, hN, List.range_succ, List.map_append, List.append_assoc]
            rfl
        · rintro σ H6 ⟨e6, us, w5, rfl, hU, hN⟩
          refine ⟨e6, us, _, _, rfl, hU, ?_⟩
          rw [hN, hM, etk, List.flatMap_append]
          congr 1
          have : ((o.2.length : Int) + 1).toNat = o.2.length + 1 := by omega
          rw [this]
          simp [insAt]
    · rintro σ H5 ⟨e5, rs, w4, w5, rfl, hR, hM⟩
      refine s_asg (v := .ref g) (ev_var rfl) fun H6 e6 => ⟨(e3.trans e5).trans e6, g, rs, _, _, _, _, rfl, hgH, hR.1.ex e6, ?_, ?_⟩
      · rw [hM, List.length_map, List.take_of_length_le (Nat.le_refl _), List.take_add_one, hi]
        exact hA.next
      · have c := congrArg List.length hM
        rw [List.length_map, List.length_map, List.take_of_length_le (Nat.le_refl _), tot] at c
        exact c
  · rintro σ H3 ⟨e3, q1, ps, v2, v3, v4, v5, rfl, hq1, hL, hA, hF⟩
    refine s_ret (ev_var (v := .ref q1) rfl) fun H4 e4 => ?_
    rw [List.take_of_length_le (Nat.le_refl _)] at hA
    exact q H4 q1 ps (e3.trans e4) hq1 (e4 _ _ hL.1) (fun l hl => e4 _ _ (hL.2 l hl)) hA (by rw [hF]; exact fac_le h6)
theorem bks_take {H : Hp} {as : List Addr} {ks : List Bk} (m : Nat) (h : BksAt C H as ks) : BksAt C H (as.take m) (ks.take m) := by
  refine ⟨by rw [List.length_take, List.length_take, h.1], fun i a hi => ?_⟩
  rw [List.getElem?_take] at hi
  by_cases c : i < m
  · rw [if_pos c] at hi
    have e : bAt (ks.take m) i = bAt ks i := by
      unfold bAt
      rw [List.getD_eq_getElem?_getD, List.getD_eq_getElem?_getD, List.getElem?_take, if_pos c]
    rw [e]
    exact h.2 i a hi
  · rw [if_neg c] at hi
    cases hi
theorem bks_zip {H : Hp} {as : List Addr} {ks : List Bk} (h : BksAt C H as ks) : ∀ b ∈ as.zip ks, BkAt C H b.1 b.2 := fun b hb => by
  obtain ⟨j, hj⟩ := List.mem_iff_getElem?.mp hb
  obtain ⟨e1, e2⟩ := List.getElem?_zip_eq_some.mp hj
  have := h.2 j _ e1
  rw [bAt_of e2] at this
  exact this
theorem map_fst_zip' {α β : Type} : ∀ {l : List α} {m : List β}, l.length = m.length → (l.zip m).map Prod.fst = l
  | [], [], _ => rfl
  | [], _ :: _, h => by cases h
  | _ :: _, [], h => by cases h
  | a :: l, b :: m, h => by rw [List.zip_cons_cons, List.map_cons, map_fst_zip' (Nat.succ.inj h)]
theorem map_snd_zip' {α β : Type} : ∀ {l : List α} {m : List β}, l.length = m.length → (l.zip m).map Prod.snd = m
  | [], [], _ => rfl
  | [], _ :: _, h => by cases h
  | _ :: _, [], h => by cases h
  | a :: l, b :: m, h => by rw [List.zip_cons_cons, List.map_cons, map_snd_zip' (Nat.succ.inj h)]
theorem bk_inj {H : Hp} {a : Addr} {k m : Bk} (h1 : BkAt C H a k) (h2 : BkAt C H a m) : k = m := by
  obtain ⟨d1, h1⟩ := h1
  obtain ⟨d2, h2⟩ := h2
  rw [h1] at h2
  have e : bF k = bF m := by
    injection h2 with h3
    injection h3
  have eb := bF_b k
  have ee := bF_e k
  have ew := bF_w k
  rw [e] at eb ee ew
  rw [bF_b] at eb
  rw [bF_e] at ee
  rw [bF_w] at ew
  cases k
  cases m
  cases eb
  cases ee
  cases ew
  rfl
theorem bs_inj {H : Hp} : ∀ {bs cs : List (Addr × Bk)}, (∀ b ∈ bs, BkAt C H b.1 b.2) → (∀ b ∈ cs, BkAt C H b.1 b.2) → bs.map (fun b => V.ref b.1) = cs.map (fun b => V.ref b.1) → bs = cs
  | [], [], _, _, _ => rfl
  | [], _ :: _, _, _, h => by cases h
  | _ :: _, [], _, _, h => by cases h
  | (a, k) :: bs, (c, m) :: cs, h1, h2, h => by
    obtain ⟨e1, e2⟩ := List.cons.inj h
    have e3 : a = c := V.ref.inj e1
    subst e3
    have e4 := bk_inj (h1 (a, k) (by simp)) (h2 (a, m) (by simp))
    dsimp only at e4
    rw [e4, bs_inj (fun b hb => h1 b (by simp [hb])) (fun b hb => h2 b (by simp [hb])) e2]
/-- the pairs that zip has made, as placed bookings -/
theorem mk_zs {H : Hp} {ts as : List Addr} {ks : List Bk} {fs : List Int} (hB : BksAt C H as ks) (hf : fs.length = ks.length) (ht : ts.length = ks.length)
    (h : ∀ (j : Nat) (t : Addr), ts[j]? = some t → ∃ x y, (as.map V.ref)[j]? = some x ∧ (fs.map V.int)[j]? = some y ∧ H t = some (.tup [x, y])) : ∃ zs : List Pz, zs.map Pz.t = ts ∧ zs.map Pz.kg = ks.zip fs ∧ ∀ z ∈ zs, PzAt C H z := by
  refine ⟨(List.range ks.length).map fun i => ⟨ts.getD i 0, as.getD i 0, bAt ks i, fAt fs i⟩, ?_, ?_, fun z hz => ?_⟩
  · rw [List.map_map]
    refine List.ext_getElem (by simp [ht]) fun i h1 h2 => ?_
    rw [List.getElem_map, List.getElem_range]
    show ts.getD i 0 = _
    rw [List.getD_eq_getElem?_getD, List.getElem?_eq_getElem h2]
    rfl
  · rw [List.map_map]
    refine List.ext_getElem (by simp [hf]) fun i h1 h2 => ?_
    rw [List.length_map, List.length_range] at h1
    rw [List.getElem_map, List.getElem_range, List.getElem_zip]
    show (bAt ks i, fAt fs i) = _
    unfold bAt fAt
    rw [List.getD_eq_getElem?_getD, List.getD_eq_getElem?_getD, List.getElem?_eq_getElem h1, List.getElem?_eq_getElem (by omega)]
    rfl
  · obtain ⟨i, hi, rfl⟩ := List.mem_map.mp hz
    have hi' := List.mem_range.mp hi
    obtain ⟨t, et⟩ : ∃ t, ts[i]? = some t := ⟨_, List.getElem?_eq_getElem (by omega)⟩
    obtain ⟨a, ea⟩ : ∃ a, as[i]? = some a := ⟨_, List.getElem?_eq_getElem (by rw [hB.1]; exact hi')⟩
    obtain ⟨g, eg⟩ : ∃ g, fs[i]? = some g := ⟨_, List.getElem?_eq_getElem (by omega)⟩
    obtain ⟨x, y, e1, e2, e3⟩ := h i t et
    rw [List.getElem?_map, ea] at e1
    rw [List.getElem?_map, eg] at e2
    cases e1
    cases e2
    have e4 : ts.getD i 0 = t := by rw [List.getD_eq_getElem?_getD, et] <;> rfl
    have e5 : as.getD i 0 = a := by rw [List.getD_eq_getElem?_getD, ea] <;> rfl
    have e6 : fAt fs i = g := by
      unfold fAt
      rw [List.getD_eq_getElem?_getD, eg] <;> rfl
    exact ⟨by dsimp only; rw [e4, e5, e6]; exact e3, by dsimp only; rw [e5]; exact hB.2 i a ea⟩
theorem pure_has (vs : List V) (H : Hp) (Q : VK) (E : XK) (h : spHas C T vs H Q E) : t_has K C T { nx := fun _ H' => Q .non H', rt := Q } (start ["lanes", "bookings", "firsts", "begun", "placed", "order"] vs) H := by
  obtain ⟨n, p, q, ks, fs, rfl, ⟨as, hp, hB⟩, hq, hlen, h6, hw, hpos, hT, k⟩ := h
  have giff := goes_iff (n := n) hlen hpos hw
  have hal : as.length = ks.length := hB.1
  have hml : fs.length ≤ (as.map V.ref).length := by rw [List.length_map]; omega
  have lenE : Ev (tCB (rLenS K) (tCons (tVar 2) tNil)) (start ["lanes", "bookings", "firsts", "begun", "placed", "order"] [V.int n, V.ref p, V.ref q]) H (.int (fs.length : Int)) := ev_is (ev_len (ev_var rfl) (sq_of hq)) (by rw [List.length_map])
  have sl1 : EvL (tSl (rSlL K) (tVar 1) tNoPart (tPart (tCB (rLenS K) (tCons (tVar 2) tNil)))) (start ["lanes", "bookings", "firsts", "begun", "placed", "order"] [V.int n, V.ref p, V.ref q]) H ((as.take fs.length).map V.ref) := by
    have := el_sl (K := K) (te := tVar 1) (a := p) (ev_var rfl) eo_none (eo_some lenE) (sq_of hp)
    rw [cut_take hml, ← List.map_take] at this
    exact this
  refine q_asgL sl1 fun bg H1 hbg e1 h1 => ?_
  have hB1 := bks_take fs.length (hB.mono e1)
  have hlt : fs.length = (ks.take fs.length).length := by rw [List.length_take]; omega
  obtain ⟨yes, hyes⟩ : ∃ yes : Bool, (yes = true ↔ rightP n (ks.take fs.length) fs) := by
    rcases Classical.em (rightP n (ks.take fs.length) fs) with h | h
    · exact ⟨true, fun _ => h, fun _ => rfl⟩
    · exact ⟨false, fun z => Bool.noConfusion z, fun z => absurd z h⟩
  refine q_when (b := !yes) (et_not (et_B (ev_call (vs := [.int n, .ref bg, .ref q]) (ea_cons (ev_var rfl) (ea_cons (ev_var rfl) (ea_cons (ev_var rfl) ea_nil))) fun H2 e2 Q' q' E' =>
    ⟨n, bg, q, ks.take fs.length, fs, rfl, ⟨as.take fs.length, e2 _ _ h1, hB1.mono e2⟩, sq_of (e2 _ _ (e1 _ _ hq)), hlt, by rw [← hlt]; omega, yes, hyes, fun H3 e3 => q' H3 e3⟩))) (fun hb H2 e2 => s_ret ev_c fun H3 e3 => ?_) (fun hb H2 e2 => ?_)
  · refine k false H3 ⟨fun z => Bool.noConfusion z, fun z => ?_⟩ (nx_of ((e1.trans e2).trans e3)) (tb_ex hT ((e1.trans e2).trans e3))
    have := hyes.mpr (giff.mp z).1
    rw [this] at hb
    cases hb
  have hR : rightP n (ks.take fs.length) fs := hyes.mp (by simpa using hb)
  have e02 := e1.trans e2
  refine ⟨.ref bg, rfl, .ref q, rfl, bg, q, (as.take fs.length).map V.ref, fs.map V.int, rfl, sq_of (e2 _ _ h1), sq_of (e02 _ _ hq), by rw [List.length_map, List.length_map, List.length_take]; omega, fun H4 pl ts e4 hpl h4 htl hts => ?_⟩
  have e04 := e02.trans e4
  obtain ⟨zs, hz1, hz2, hz3⟩ := mk_zs (H := H4) ((hB1.mono e2).mono e4) hlt (by rw [htl, List.length_map, List.length_take, List.length_take]; omega) hts
  have hPl : Pl C H4 pl zs := ⟨by rw [h4, ← hz1, List.map_map]; rfl, hz3⟩
  have hzl : zs.length ≤ 8 := by
    have := congrArg List.length hz1
    rw [List.length_map, htl, List.length_map, List.length_take] at this
    omega
  -- the rest, in all orders
  have lenE4 : Ev (tCB (rLenS K) (tCons (tVar 2) tNil)) [some (.int n), some (.ref p), some (.ref q), some (.ref bg), some (.ref pl), none] H4 (.int (fs.length : Int)) := ev_is (ev_len (ev_var rfl) (sq_of (e04 _ _ hq))) (by rw [List.length_map])
  have sl2 : EvL (tSl (rSlL K) (tVar 1) (tPart (tCB (rLenS K) (tCons (tVar 2) tNil))) tNoPart) [some (.int n), some (.ref p), some (.ref q), some (.ref bg), some (.ref pl), none] H4 ((as.drop fs.length).map V.ref) := by
    have := el_sl (K := K) (te := tVar 1) (a := p) (ev_var rfl) (eo_some lenE4) eo_none (sq_of (e04 _ _ hp))
    rw [cut_drop hml, ← List.map_drop] at this
    exact this
  refine sl2 H4 (Ex.refl H4) _ fun r H5 hr e5 h5 => ⟨r, (as.drop fs.length).map V.ref, rfl, sq_of h5, by rw [List.length_map, List.length_drop]; omega, fun H6 qo ps e6 hqo h6' hps hA h720 => ⟨qo, rfl, ⟨_, sq_of h6'⟩, ?_⟩⟩
  have e46 := e5.trans e6
  have e06 := e04.trans e46
  have hdl : (as.drop fs.length).length = (ks.drop fs.length).length := by rw [List.length_drop, List.length_drop, hal]
  have hbs0 : ∀ b ∈ (as.drop fs.length).zip (ks.drop fs.length), BkAt C H b.1 b.2 := fun b hb => by
    obtain ⟨j, hj⟩ := List.mem_iff_getElem?.mp hb
    obtain ⟨f1, f2⟩ := List.getElem?_zip_eq_some.mp hj
    rw [List.getElem?_drop] at f1 f2
    have := hB.2 _ _ f1
    rw [bAt_of f2] at this
    exact this
  have hm1 : ((as.drop fs.length).zip (ks.drop fs.length)).map (fun b => V.ref b.1) = (as.drop fs.length).map V.ref := by
    have : (fun b : Addr × Bk => V.ref b.1) = V.ref ∘ Prod.fst := rfl
    rw [this, ← List.map_map, map_fst_zip' hdl]
  have hm2 : ((as.drop fs.length).zip (ks.drop fs.length)).map Prod.snd = ks.drop fs.length := map_snd_zip' hdl
  have hbl : ((as.drop fs.length).zip (ks.drop fs.length)).length ≤ 8 := by
    have := congrArg List.length hm2
    rw [List.length_map, List.length_drop] at this
    omega
  generalize (as.drop fs.length).zip (ks.drop fs.length) = bs0 at hbs0 hm1 hm2 hbl
  have fitsE : (∃ m : List Bk, m.Perm (ks.drop fs.length) ∧ Fits n ((ks.take fs.length).zip fs) m) ↔ Goes n ks fs := ⟨fun h => giff.mpr ⟨hR, h⟩, fun h => (giff.mp h).2⟩
  refine for_list (xs := ps.map fun l => V.ref l.1) (fun i σ H' => Nx H6 H' ∧ LamX.Tabs T H' ∧ (∃ v5, σ = [some (.int n), some (.ref p), some (.ref q), some (.ref bg), some (.ref pl), v5]) ∧
    ∀ j, j < i → ∀ l, ps[j]? = some l → ∀ bs : List (Addr × Bk), bs.map (fun b => V.ref b.1) = l.2 → bs.Perm bs0 → ¬ Fits n ((ks.take fs.length).zip fs) (bs.map Prod.snd))
    ⟨nx_of (Ex.refl _), tb_ex hT e06, ⟨_, rfl⟩, fun j hj => absurd hj (Nat.not_lt_zero _)⟩ (fun i σ H' _ P => sq_of (P.1.at h6')) ?_ ?_
  · rintro i x σ H7 hi ⟨e7, hT7, ⟨v5, rfl⟩, hno⟩
    rw [List.getElem?_map] at hi
    cases hw' : ps[i]? with
    | none =>
      rw [hw'] at hi
      cases hi
    | some l =>
      rw [hw'] at hi
      obtain rfl := Option.some.inj hi
      have hlm := List.mem_of_getElem? hw'
      have hperm := (hA l.2).mp (List.mem_map.mpr ⟨l, hlm, rfl⟩)
      rw [← hm1] at hperm
      obtain ⟨bs, hbs, hbp⟩ := perm_map (f := fun b : Addr × Bk => V.ref b.1) hperm.symm rfl
      have e67 : Nx H H7 := (nx_of e06).trans e7
      have hOd : Od C H7 l.1 bs := ⟨by rw [hbs]; exact e7.at (hps l hlm), fun b hb => (hbs0 b (hbp.mem_iff.mp hb)).nx e67⟩
      refine ⟨.int n, rfl, .ref pl, rfl, .ref l.1, rfl, n, pl, l.1, zs, bs, rfl, hPl.nx ((nx_of e46).trans e7), hOd, hzl, by rw [hbp.length_eq]; exact hbl, hT7, fun y H8 hy e8 hT8 => ⟨y, rfl, ?_⟩⟩
      rw [hz2] at hy
      cases y with
      | true =>
        refine s_ret ev_c fun H9 e9 => k true H9 ⟨fun _ => fitsE.mp ⟨_, ?_, hy.mp rfl⟩, fun _ => rfl⟩ ((e67.trans e8).trans (nx_of e9)) (tb_ex hT8 e9)
        rw [← hm2]
        exact hbp.map _
      | false =>
        refine ⟨e7.trans e8, hT8, ⟨_, rfl⟩, fun j hj l' hl' bs' hb1 hb2 hF => ?_⟩
        by_cases c : j < i
        · exact hno j c l' hl' bs' hb1 hb2 hF
        · have : j = i := by omega
          subst this
          rw [hw'] at hl'
          cases hl'
          have ebs : bs' = bs := bs_inj (fun b hb => hbs0 b (hb2.mem_iff.mp hb)) (fun b hb => hbs0 b (hbp.mem_iff.mp hb)) (hb1.trans hbs.symm)
          rw [ebs] at hF
          exact Bool.noConfusion (hy.mpr hF)
  · rintro σ H7 ⟨e7, hT7, ⟨v5, rfl⟩, hno⟩
    show tRet (tC (.bl false)) { nx := fun _ H' => Q .non H', rt := Q } [some (.int n), some (.ref p), some (.ref q), some (.ref bg), some (.ref pl), v5] H7
    refine s_ret ev_c fun H8 e8 => k false H8 ⟨fun z => Bool.noConfusion z, fun z => ?_⟩ (((nx_of e06).trans e7).trans (nx_of e8)) (tb_ex hT7 e8)
    obtain ⟨m, hm, hF⟩ := fitsE.mpr z
    rw [← hm2] at hm
    obtain ⟨bs, hb1, hb2⟩ := perm_map (f := Prod.snd) hm.symm rfl
    have hin : bs.map (fun b => V.ref b.1) ∈ ps.map Prod.snd := (hA _).mpr (by
      rw [← hm1]
      exact hb2.map _)
    obtain ⟨l, hl, hle⟩ := List.mem_map.mp hin
    obtain ⟨j, hj⟩ := List.mem_iff_getElem?.mp hl
    have hjl := (List.getElem?_eq_some_iff.mp hj).1
    exact absurd (by rw [hb1]; exact hF) (hno j (by rw [List.length_map]; exact hjl) l hj bs hle.symm hb2)
end
end Lb
set_option Elab.async false
set_option maxRecDepth 100000
set_option maxHeartbeats 2000000
/-! # The search for the first way, the fewest lanes: promises and readings -/
namespace Lb
open PySem PySem.Spec PyProof.Rows L2 Evl
def spNext (C : Addr) (T : TT1) : Sp := fun vs H Q _ => ∃ (n : Int) (p q : Addr) (ks : List Bk) (fs : List Int), vs = [.int n, .ref p, .ref q] ∧ LstAt C H p ks ∧ H q = some (.lst (fs.map V.int)) ∧ fs.length < ks.length ∧ ks.length ≤ 6 ∧ (∀ b ∈ ks, 1 ≤ b.w) ∧ (∀ x ∈ fs, 0 ≤ x) ∧ 0 ≤ n ∧ n ≤ 1000 ∧ LamX.Tabs T H ∧
  (∀ (x : Int) (H' : Hp), 0 ≤ x → Goes n ks (fs ++ [x]) → (∀ y, 0 ≤ y → y < x → ¬ Goes n ks (fs ++ [y])) → Nx H H' → LamX.Tabs T H' → Q (.int x) H') ∧
  (∀ H' : Hp, (∀ y, 0 ≤ y → y < n → ¬ Goes n ks (fs ++ [y])) → Nx H H' → LamX.Tabs T H' → Q .non H')
def spFind (C : Addr) (T : TT1) : Sp := fun vs H Q _ => ∃ (n : Int) (p : Addr) (ks : List Bk), vs = [.int n, .ref p] ∧ LstAt C H p ks ∧ ks.length ≤ 6 ∧ (∀ b ∈ ks, 1 ≤ b.w) ∧ 0 ≤ n ∧ n ≤ 1000 ∧ LamX.Tabs T H ∧
  (∀ (f : Addr) (fs : List Int) (H' : Hp), Way n ks fs → (∀ s, Way n ks s → s = fs ∨ Lead fs s) → H f = none → H' f = some (.lst (fs.map V.int)) → Nx H H' → LamX.Tabs T H' → Q (.ref f) H') ∧
  (∀ H' : Hp, (∀ s, ¬ Way n ks s) → Nx H H' → LamX.Tabs T H' → Q .non H')
def spPut (K : PySem.W.Frag) (T : TT1) : Sp := fun vs H Q _ => ∃ (n : Int) (a : Addr) (ns : List Int), vs = [.int n, .ref a] ∧ SqL K H a (ns.map V.int) ∧ ns.length ≤ 24 ∧ 0 ≤ n ∧ (∀ x ∈ ns, 0 ≤ x) ∧ LamX.Tabs T H ∧
  ∀ (H' : Hp) (p : Addr), H' p = some (.lst ((PyKs437.put n ns).map V.int)) → Q (.ref p) H'
def spHour (C : Addr) : Sp := fun vs H Q _ => ∃ (p : Addr) (k : Bk) (h : Int), vs = [.ref p, .int h] ∧ BkAt C H p k ∧ RetV (.bl (hasI h k)) H Q
def spAsked (C : Addr) : Sp := fun vs H Q _ => ∃ (h : Int) (p : Addr) (ks : List Bk), vs = [.int h, .ref p] ∧ LstAt C H p ks ∧ ks.length ≤ 8 ∧ RetV (.int (askedI ks h)) H Q
def spMost (C : Addr) : Sp := fun vs H Q _ => ∃ (p : Addr) (ks : List Bk), vs = [.ref p] ∧ LstAt C H p ks ∧ ks.length ≤ 8 ∧ (∀ b ∈ ks, told b = true) ∧ RetV (.int (Ks437.peak (ks.map toB) : Int)) H Q
def spFew (C : Addr) (T : TT1) : Sp := fun vs H Q _ => ∃ (p : Addr) (ks : List Bk), vs = [.ref p] ∧ LstAt C H p ks ∧ ks.length ≤ 6 ∧ (∀ b ∈ ks, told b = true) ∧ LamX.Tabs T H ∧
  ∀ H' : Hp, Nx H H' → LamX.Tabs T H' → Q (.int (Ks437.fewest (ks.map toB) : Int)) H'
def spFewest (K : PySem.W.Frag) (T : TT1) : Sp := fun vs H Q _ => ∃ (a : Addr) (ns : List Int), vs = [.ref a] ∧ SqL K H a (ns.map V.int) ∧ ns.length ≤ 24 ∧ (∀ x ∈ ns, 0 ≤ x) ∧ LamX.Tabs T H ∧
  ∀ (H' : Hp) (p : Addr), H' p = some (.lst ((PyKs437.fewest ns).map V.int)) → Q (.ref p) H'
/-- slots: lanes, bookings, firsts, first -/
def t_next (C : Addr) (T : TT1) : TS :=
  tSeq (tFor (iRng1 (tCons (tVar 0) tNil)) (gName 3)
    (tIfS (tB (tCall (spHas C T) [] E0 (tCons (tVar 0) (tCons (tVar 1) (tCons (tOp rCat (tVar 2) (tLst (tCons (tVar 3) tNil))) tNil))))) (tRet (tVar 3)) tNext))
  (tRet (tC .non))
def t_find (K : PySem.W.Frag) (C : Addr) (T : TT1) : TS :=
  tSeq (tAsg (tLst tNil) (gName 2))
  (tSeq (tWhile (tTest (tOp rLt (tCB (rLenS K) (tCons (tVar 2) tNil)) (tCB (rLenS K) (tCons (tVar 1) tNil))))
    (tSeq (tAsg (tCall (spNext C T) [] E0 (tCons (tVar 0) (tCons (tVar 1) (tCons (tVar 2) tNil)))) (gName 3))
    (tSeq (tIfS (tTest (tOp rIsN0 (tVar 3) (tC .non))) (tRet (tC .non)) tNext)
    (tDrop (tBM K "list" rAppend (tVar 2) (tCons (tVar 3) tNil))))))
  (tRet (tVar 2)))
def t_neg (i : Int) : TE := tLst (tCons (tUn (rU fun j => .int (-j)) (tC (.int i))) tNil)
/-- slots: lanes, bookings, firsts -/
def t_put (K : PySem.W.Frag) (C : Addr) (T : TT1) : TS :=
  tSeq (tIfS (tOr (tNot (tB (tCall (spAre K) [] E0 (tCons (tVar 1) tNil)))) (tNot (tB (tCall spLanes [] E0 (tCons (tVar 0) (tCons (tC (.int 24)) tNil)))))) (tRet (t_neg 22)) tNext)
  (tSeq (tAsg (tCall (spFind C T) [] E0 (tCons (tVar 0) (tCons (tCall (spRead K C) [] E0 (tCons (tVar 1) tNil)) tNil))) (gName 2))
  (tSeq (tIfS (tTest (tOp rIsN0 (tVar 2) (tC .non))) (tRet (t_neg 33)) tNext)
  (tRet (tOp rCat (tLst (tCons (tCB (rLenS K) (tCons (tVar 2) tNil)) tNil)) (tVar 2)))))
def t_hour (K : PySem.W.Frag) : TS := tRet (tChain rLe rLt (tFld K (tVar 0) "begin") (tVar 1) (tFld K (tVar 0) "end"))
/-- slots: hour, bookings, booking -/
def t_asked (K : PySem.W.Frag) (C : Addr) : TS := tRet (tCB (rSum K) (tCons (tLc (iList K (tVar 1)) (gName 2) (tB (tMeth C "has_hour" (spHour C) [] E0 (tVar 2) (tCons (tVar 0) tNil))) (tFld K (tVar 2) "wide") [2]) tNil))
/-- slots: bookings, hour -/
def t_most (K : PySem.W.Frag) (C : Addr) : TS := tRet (tCB (rMax K) (tCons (tLc (iRng1 (tCons (tC (.int 12)) tNil)) (gName 1) tYes (tCall (spAsked C) [] E0 (tCons (tVar 1) (tCons (tVar 0) tNil))) [1]) tNil))
/-- slots: bookings, lanes -/
def t_few (C : Addr) (T : TT1) : TS :=
  tSeq (tAsg (tCall (spMost C) [] E0 (tCons (tVar 0) tNil)) (gName 1))
  (tSeq (tWhile (tNot (tB (tCall (spHas C T) [] E0 (tCons (tVar 1) (tCons (tVar 0) (tCons (tLst tNil) tNil)))))) (tAug 1 (tC (.int 1)) (ipI (· + ·))))
  (tRet (tVar 1)))
/-- slots: bookings -/
def t_fewest (K : PySem.W.Frag) (C : Addr) (T : TT1) : TS :=
  tSeq (tIfS (tNot (tB (tCall (spAre K) [] E0 (tCons (tVar 0) tNil)))) (tRet (t_neg 22)) tNext)
  (tRet (tLst (tCons (tCall (spFew C T) [] E0 (tCons (tCall (spRead K C) [] E0 (tCons (tVar 0) tNil)) tNil)) tNil)))
section
variable {K : PySem.W.Frag} {mg : Str → Option Value} {C : Addr} {T : TT1}
theorem pure_next (vs : List V) (H : Hp) (Q : VK) (E : XK) (h : spNext C T vs H Q E) : t_next C T { nx := fun _ H' => Q .non H', rt := Q } (start ["lanes", "bookings", "firsts", "first"] vs) H := by
  obtain ⟨n, p, q, ks, fs, rfl, hp, hq, hl, h6, hw, hpos, hn, hn2, hT, k1, k2⟩ := h
  refine q_forR1 (n := n) (ea_cons (ev_var rfl) ea_nil) ⟨hn, by omega⟩ (fun i σ H' => Nx H H' ∧ LamX.Tabs T H' ∧ (∃ v3, σ = [some (.int n), some (.ref p), some (.ref q), v3]) ∧ ∀ y, 0 ≤ y → y < (i : Int) → ¬ Goes n ks (fs ++ [y]))
    (fun H1 e1 => ⟨nx_of e1, tb_ex hT e1, ⟨_, rfl⟩, fun y h1 h2 => absurd h2 (by omega)⟩) ?_ ?_
  · rintro i σ H1 hi ⟨e1, hT1, ⟨v3, rfl⟩, hno⟩
    have cat : EvL (tOp rCat (tVar 2) (tLst (tCons (tVar 3) tNil))) [some (.int n), some (.ref p), some (.ref q), some (.int (i : Int))] H1 (fs.map V.int ++ [.int (i : Int)]) :=
      el_catV (ev_var (v := .ref q) rfl) (e1.at hq) (el_lst (vs := [.int (i : Int)]) (ea_cons (ev_var rfl) ea_nil) (by show 1 ≤ 100000; decide)) (by rw [List.length_map, List.length_singleton]; omega)
    refine ⟨.int n, rfl, .ref p, rfl, cat H1 (Ex.refl H1) _ fun l H2 _ e2 h2 => ?_⟩
    have e02 := e1.trans (nx_of e2)
    refine ⟨n, p, l, ks, fs ++ [(i : Int)], rfl, hp.nx e02, by rw [h2, List.map_append]; rfl, by rw [List.length_append, List.length_singleton]; omega, h6, hw, fun x hx => ?_, tb_ex hT1 e2, fun y H3 hy e3 hT3 => ⟨y, rfl, ?_⟩⟩
    · rcases List.mem_append.mp hx with hx | hx
      · exact hpos x hx
      · rw [List.mem_singleton.mp hx]
        exact Int.natCast_nonneg i
    · cases y with
      | true => exact s_ret (ev_var (v := .int (i : Int)) rfl) fun H4 e4 => k1 _ H4 (Int.natCast_nonneg i) (hy.mp rfl) hno ((e02.trans e3).trans (nx_of e4)) (tb_ex hT3 e4)
      | false =>
        refine ⟨e02.trans e3, hT3, ⟨_, rfl⟩, fun y h1 h2 g => ?_⟩
        by_cases c : y < (i : Int)
        · exact hno y h1 c g
        · have : y = (i : Int) := by omega
          rw [this] at g
          exact Bool.noConfusion (hy.mpr g)
  · rintro σ H1 ⟨e1, hT1, ⟨v3, rfl⟩, hno⟩
    refine s_ret ev_c fun H2 e2 => k2 H2 (fun y h1 h2 => hno y h1 (by omega)) (e1.trans (nx_of e2)) (tb_ex hT1 e2)
theorem pure_find (vs : List V) (H : Hp) (Q : VK) (E : XK) (h : spFind C T vs H Q E) : t_find K C T { nx := fun _ H' => Q .non H', rt := Q } (start ["lanes", "bookings", "firsts", "first"] vs) H := by
  obtain ⟨n, p, ks, rfl, hp, h6, hw, hn, hn2, hT, k1, k2⟩ := h
  refine q_asgL (el_lst ea_nil (by decide)) fun f H1 hf e1 h1 => ?_
  refine q_while (fun m σ H' => ∃ (fs : List Int) (v3 : Option V), m = ks.length - fs.length ∧ Nx H H' ∧ LamX.Tabs T H' ∧ σ = [some (.int n), some (.ref p), some (.ref f), v3] ∧ H' f = some (.lst (fs.map V.int)) ∧ Sofar n ks fs) _ ⟨[], none, rfl, nx_of e1, tb_ex hT e1, rfl, h1, sofar_nil⟩ ?_
  rintro m σ H2 ⟨fs, v3, rfl, e2, hT2, rfl, h2, S⟩
  obtain ⟨as, hpl, hB⟩ := hp.nx e2
  refine ⟨decide ((fs.length : Int) < (ks.length : Int)), et_test (ev_op (ev_is (ev_len (ev_var (v := .ref f) rfl) (sq_of h2)) (by rw [List.length_map])) (ev_is (ev_len (ev_var (v := .ref p) rfl) (sq_of hpl)) (by rw [List.length_map, hB.1])) rv_I0), fun hb H3 e3 => ?_, fun hb H3 e3 => ?_⟩
  · have hlt : fs.length < ks.length := by
      have := of_decide_eq_true hb
      omega
    have e03 := e2.trans (nx_of e3)
    refine ⟨fun σ2 H2 => ∃ m', m' < ks.length - fs.length ∧ ∃ (fs : List Int) (v3 : Option V), m' = ks.length - fs.length ∧ Nx H H2 ∧ LamX.Tabs T H2 ∧ σ2 = [some (.int n), some (.ref p), some (.ref f), v3] ∧ H2 f = some (.lst (fs.map V.int)) ∧ Sofar n ks fs, fun σ2 H2 z => z, ?_⟩
    refine ⟨.int n, rfl, .ref p, rfl, .ref f, rfl, n, p, f, ks, fs, rfl, hp.nx e03, e3 _ _ h2, hlt, h6, hw, S.pos, hn, hn2, tb_ex hT2 e3, fun x H4 hx hg hmin e4 hT4 => ?_, fun H4 hno e4 hT4 => ?_⟩
    · refine q_when (b := false) (et_is (et_test (ev_op (ev_var (v := .int x) rfl) ev_c rv_isN)) (by simp)) (fun z => Bool.noConfusion z) fun _ H5 e5 => ?_
      have e45 : Nx H3 H5 := e4.trans (nx_of e5)
      have h5 : H5 f = some (.lst (fs.map V.int)) := e45.at (e3 _ _ h2)
      refine s_app (v := .int x) h5 (ev_var (v := .ref f) rfl) (ev_var (v := .int x) rfl) (by rw [List.length_map]; omega) fun H6 e6 => ⟨ks.length - (fs ++ [x]).length, by rw [List.length_append, List.length_singleton]; omega, fs ++ [x], _, rfl, Nx.mut ((e03.trans e45).trans (nx_of e6)) hf, tb_mut (tb_ex (tb_ex hT4 e5) e6) (e6 _ _ h5), rfl, ?_, S.step hlt hx hg hmin⟩
      rw [upd_same, List.map_append]
      rfl
    · refine q_when (b := true) (et_is (et_test (ev_op (ev_var (v := .non) rfl) ev_c rv_isN)) (by simp)) (fun _ H5 e5 => s_ret ev_c fun H6 e6 => ?_) fun z => Bool.noConfusion z
      exact k2 H6 (S.stuck hlt hw hno) ((e03.trans e4).trans (nx_of (e5.trans e6))) (tb_ex hT4 (e5.trans e6))
  · have hl : fs.length = ks.length := by
      have := of_decide_eq_false hb
      have := S.len
      omega
    obtain ⟨d1, d2⟩ := S.done hl
    exact s_ret (ev_var (v := .ref f) rfl) fun H4 e4 => k1 f fs H4 d1 d2 hf (e4 _ _ (e3 _ _ h2)) (e2.trans (nx_of (e3.trans e4))) (tb_ex hT2 (e3.trans e4))
theorem el_neg {σ : L2.St} {H : Hp} {i : Int} : EvL (t_neg i) σ H [.int (-i)] := el_lst (ea_cons (ev_un ev_c ru_neg) ea_nil) (by show 1 ≤ 100000; decide)
theorem intsOf_nat : ∀ {fs : List Int}, (∀ x ∈ fs, 0 ≤ x) → intsOf (fs.map Int.toNat) = fs
  | [], _ => rfl
  | x :: fs, h => by
    have ih := intsOf_nat (fs := fs) fun y hy => h y (by simp [hy])
    have hx := h x (by simp)
    unfold intsOf at ih ⊢
    rw [List.map_cons, List.map_cons, ih]
    congr 1
    show (x.toNat : Int) = x
    omega
theorem told_w {ns : List Int} (hok : okNs ns = true) : (∀ b ∈ chunk ns, told b = true) ∧ (∀ b ∈ chunk ns, 1 ≤ b.w) ∧ (chunk ns).length ≤ 6 := by
  have hk := okNs_iff.mp hok
  exact ⟨hk.2.2, fun b hb => (told_iff.mp (hk.2.2 b hb)).2.2.2.1, by rw [chunk_len]; omega⟩
theorem pure_put (vs : List V) (H : Hp) (Q : VK) (E : XK) (h : spPut K T vs H Q E) : t_put K C T { nx := fun _ H' => Q .non H', rt := Q } (start ["lanes", "bookings", "firsts"] vs) H := by
  obtain ⟨n, a, ns, rfl, ha, h24, hn, hns, hT, k⟩ := h
  have pis := put_is hn hns
  refine q_when (b := !okNs ns || !(decide (0 ≤ n) && decide (n ≤ 24))) (et_or (et_not (et_B (ev_call (vs := [.ref a]) (ea_cons (ev_var rfl) ea_nil) fun H1 e1 Q' q' E' => ⟨a, ns, rfl, ex_l e1 ha, h24, fun H2 e2 => q' H2 e2⟩)))
    (fun _ => et_not (et_B (ev_call (vs := [.int n, .int 24]) (ea_cons (ev_var rfl) (ea_cons ev_c ea_nil)) fun H1 e1 Q' q' E' => ⟨n, 24, rfl, fun H2 e2 => q' H2 e2⟩)))) (fun hb H1 e1 => s_retL el_neg fun p H2 hp e2 h2 => ?_) (fun hb H1 e1 => ?_)
  · refine k H2 p ?_
    have c : ¬ (okNs ns && decide (n ≤ 24)) = true := fun z => by
      obtain ⟨z1, z2⟩ := Bool.and_eq_true_iff.mp z
      rw [z1, z2, decide_eq_true hn] at hb
      cases hb
    rw [h2, pis, if_neg c]
    rfl
  have hb' := Bool.or_eq_false_iff.mp hb
  have hok : okNs ns = true := by simpa using hb'.1
  have hn24 : 0 ≤ n ∧ n ≤ 24 := by simpa using hb'.2
  have c : (okNs ns && decide (n ≤ 24)) = true := by rw [hok, decide_eq_true hn24.2] <;> rfl
  rw [if_pos c] at pis
  obtain ⟨htold, hw, h6⟩ := told_w hok
  refine ⟨.int n, rfl, .ref a, rfl, a, ns, rfl, ex_l e1 ha, (okNs_iff.mp hok).1, h24, fun p H2 hp e2 hL => ?_⟩
  have e02 := e1.trans e2
  refine ⟨n, p, chunk ns, rfl, hL, h6, hw, hn, by omega, tb_ex hT e02, fun f fs H3 hway hfirst hf h3 e3 hT3 => ?_, fun H3 hno e3 hT3 => ?_⟩
  · refine q_when (b := false) (et_is (et_test (ev_op (ev_var (v := .ref f) rfl) ev_c rv_isN)) (by simp)) (fun z => Bool.noConfusion z) fun _ H4 e4 => ?_
    have h4 := e4 _ _ h3
    have hl6 : fs.length ≤ 6 := by rw [hway.1]; exact h6
    refine s_retL (el_catW (el_lst (vs := [.int (fs.length : Int)]) (ea_cons (ev_is (ev_len (ev_var (v := .ref f) rfl) (sq_of h4)) (by rw [List.length_map])) ea_nil) (by show 1 ≤ 100000; decide)) (ev_var (v := .ref f) rfl) h4 (by rw [List.length_map, List.length_singleton]; omega)) fun r H5 hr e5 h5 => k H5 r ?_
    rw [h5, pis, put_found hn htold ⟨hway, hfirst⟩]
    show some (HO.lst ([V.int (fs.length : Int)] ++ fs.map V.int)) = some (HO.lst (((chunk ns).length : Int) :: intsOf (fs.map Int.toNat) |>.map V.int))
    rw [intsOf_nat hway.2.1, hway.1]
    rfl
  · refine q_when (b := true) (et_is (et_test (ev_op (ev_var (v := .non) rfl) ev_c rv_isN)) (by simp)) (fun _ H4 e4 => s_retL el_neg fun r H5 hr e5 h5 => k H5 r ?_) fun z => Bool.noConfusion z
    rw [h5, pis, put_lost hn htold hno]
    rfl
theorem bF_hour (k : Bk) : (bF k).lookup ("has_hour" : Str) = none := (lk_past (by decide +kernel)).trans ((lk_past (by decide +kernel)).trans ((lk_past (by decide +kernel)).trans rfl))
theorem pure_hour (TX : Txt K mg C) (vs : List V) (H : Hp) (Q : VK) (E : XK) (h : spHour C vs H Q E) : t_hour K { nx := fun _ H' => Q .non H', rt := Q } (start ["self", "hour"] vs) H := by
  obtain ⟨p, k, i, rfl, ⟨dx, hp⟩, q⟩ := h
  exact s_ret (ev_chain (ev_fld (ev_var rfl) hp TX.cl TX.nB (bF_b k)) (ev_var (v := .int i) rfl) rv_I0 (fun _ => ev_fld (ev_var rfl) hp TX.cl TX.nE (bF_e k)) (fun _ => rv_I0)) fun H1 e => q H1 e
theorem ev_sumN {σ : L2.St} {H : Hp} {ta : TE} {ns : List Int} (ha : EvL ta σ H (ns.map V.int)) : Ev (tCB (rSum K) (tCons ta tNil)) σ H (.int ns.sum) := fun H1 e _ q =>
  ha H1 e _ fun p H2 _ e2 h2 => ⟨p, ns, rfl, sq_of h2, q H2 e2⟩
theorem ev_maxN {σ : L2.St} {H : Hp} {ta : TE} {ns : List Int} {m : Int} (ha : EvL ta σ H (ns.map V.int)) (h0 : 0 < ns.length) (hm : ∀ x, x ∈ ns → (∀ y, y ∈ ns → y ≤ x) → x = m) : Ev (tCB (rMax K) (tCons ta tNil)) σ H (.int m) := fun H1 e _ q =>
  ha H1 e _ fun p H2 _ e2 h2 => ⟨p, ns, rfl, sq_of h2, h0, fun x hx hy => by
    rw [hm x hx hy]
    exact q H2 e2⟩
theorem range_bAt (ks : List Bk) : (List.range ks.length).map (bAt ks) = ks := by
  refine List.ext_getElem (by simp) fun i h1 h2 => ?_
  rw [List.getElem_map, List.getElem_range]
  exact bAt_of (List.getElem?_eq_getElem h2)
theorem given_asked (ks : List Bk) (h : Int) : given ks.length (fun i => hasI h (bAt ks i)) (fun i => V.int (bAt ks i).w) = ((ks.filter (hasI h)).map fun k => k.w).map V.int := by
  unfold given
  have e : ks.filter (hasI h) = ((List.range ks.length).filter fun i => hasI h (bAt ks i)).map (bAt ks) := by
    have := List.filter_map (f := bAt ks) (p := hasI h) (l := List.range ks.length)
    rw [range_bAt] at this
    exact this
  rw [e, List.map_map, List.map_map]
  rfl
theorem pure_asked (TX : Txt K mg C) (vs : List V) (H : Hp) (Q : VK) (E : XK) (h : spAsked C vs H Q E) : t_asked K C { nx := fun _ H' => Q .non H', rt := Q } (start ["hour", "bookings", "booking"] vs) H := by
  obtain ⟨i, p, ks, rfl, ⟨as, hp, hB⟩, h8, q⟩ := h
  have z := el_lcL (K := K) (te := tFld K (tVar 2) "wide") (t := tB (tMeth C "has_hour" (spHour C) [] E0 (tVar 2) (tCons (tVar 0) tNil))) (vs := [2]) (j := 2) (σ := start ["hour", "bookings", "booking"] [V.int i, V.ref p]) (H := H) (tl := tVar 1) (fun j => hasI i (bAt ks j)) (fun j => V.int (bAt ks j).w) (ev_var rfl) (sq_of hp)
    (by rw [List.length_map, hB.1]; omega) (fun _ => rfl) (fun j x H1 e1 hj => by
      rw [List.getElem?_map] at hj
      cases g : as[j]? with
      | none =>
        rw [g] at hj
        cases hj
      | some b =>
        rw [g] at hj
        obtain rfl := Option.some.inj hj
        obtain ⟨dx, hb⟩ := (hB.2 j b g).mono e1
        exact et_B (ev_meth (vs := [.int i]) (ev_var rfl) hb (bF_hour _) (ea_cons (ev_var rfl) ea_nil) fun H2 e2 Q' q' E' => ⟨b, _, i, rfl, ⟨dx, e2 _ _ hb⟩, fun H3 e3 => q' H3 e3⟩)) (fun j x H1 e1 hj _ => by
      rw [List.getElem?_map] at hj
      cases g : as[j]? with
      | none =>
        rw [g] at hj
        cases hj
      | some b =>
        rw [g] at hj
        obtain rfl := Option.some.inj hj
        obtain ⟨dx, hb⟩ := (hB.2 j b g).mono e1
        exact ev_fld (ev_var rfl) hb TX.cl TX.nW (bF_w _))
  rw [List.length_map, hB.1, given_asked] at z
  exact s_ret (ev_sumN z) fun H1 e => q H1 e
theorem peak_max {ks : List Bk} (ht : ∀ b ∈ ks, told b = true) {x : Int} (hx : x ∈ (List.range 12).map fun h : Nat => askedI ks (h : Int)) (hm : ∀ y, y ∈ ((List.range 12).map fun h : Nat => askedI ks (h : Int)) → y ≤ x) : x = (Ks437.peak (ks.map toB) : Int) := by
  have hpk : ∀ m : Nat, Ks437.peak (ks.map toB) ≤ m ↔ ∀ h, h < 12 → Ks437.asked (ks.map toB) h ≤ m := fun m => by
    unfold Ks437.peak
    rw [Lw.foldl_max_le]
    constructor
    · intro ⟨_, h⟩ i hi
      exact h _ (List.mem_map.mpr ⟨i, List.mem_range.mpr hi, rfl⟩)
    · intro h
      refine ⟨Nat.zero_le _, fun y hy => ?_⟩
      obtain ⟨i, hi, rfl⟩ := List.mem_map.mp hy
      exact h i (List.mem_range.mp hi)
  obtain ⟨i, hi, rfl⟩ := List.mem_map.mp hx
  have hi' := List.mem_range.mp hi
  rw [askedI_is ht]
  have h1 : Ks437.peak (ks.map toB) ≤ Ks437.asked (ks.map toB) i := (hpk _).mpr fun j hj => by
    have := hm _ (List.mem_map.mpr ⟨j, List.mem_range.mpr hj, rfl⟩)
    rw [askedI_is ht, askedI_is ht] at this
    omega
  have h2 := (hpk _).mp (Nat.le_refl _) i hi'
  omega
theorem pure_most (vs : List V) (H : Hp) (Q : VK) (E : XK) (h : spMost C vs H Q E) : t_most K C { nx := fun _ H' => Q .non H', rt := Q } (start ["bookings", "hour"] vs) H := by
  obtain ⟨p, ks, rfl, hp, h8, ht, q⟩ := h
  have z := el_lcR1 (te := tCall (spAsked C) [] E0 (tCons (tVar 1) (tCons (tVar 0) tNil))) (t := tYes) (vs := [1]) (j := 1) (σ := start ["bookings", "hour"] [V.ref p]) (H := H) (n := 12) (fun _ => true) (fun i => V.int (askedI ks (i : Int))) (ea_cons ev_c ea_nil) ⟨by decide, by decide⟩ (fun _ => rfl)
    (fun i H1 e1 hi H2 e2 Q' q => q H2 (Ex.refl H2)) (fun i H1 e1 hi _ => ev_call (vs := [.int (i : Int), .ref p]) (ea_cons (ev_var rfl) (ea_cons (ev_var rfl) ea_nil)) fun H2 e2 Q' q' E' => ⟨(i : Int), p, ks, rfl, hp.mono (e1.trans e2), h8, fun H3 e3 => q' H3 e3⟩)
  have e : given (12 : Int).toNat (fun _ => true) (fun i => V.int (askedI ks (i : Int))) = ((List.range 12).map fun h : Nat => askedI ks (h : Int)).map V.int := by
    unfold given
    rw [List.filter_eq_self.mpr (fun _ _ => rfl), List.map_map]
    rfl
  rw [e] at z
  exact s_ret (ev_maxN z (by rw [List.length_map, List.length_range]; decide) fun x hx hy => peak_max ht hx hy) fun H1 e => q H1 e
theorem pure_few (vs : List V) (H : Hp) (Q : VK) (E : XK) (h : spFew C T vs H Q E) : t_few C T { nx := fun _ H' => Q .non H', rt := Q } (start ["bookings", "lanes"] vs) H := by
  obtain ⟨p, ks, rfl, hp, h6, ht, hT, k⟩ := h
  have hw : ∀ b ∈ ks, 1 ≤ b.w := fun b hb => (told_iff.mp (ht b hb)).2.2.2.1
  refine q_asg (v := .int (Ks437.peak (ks.map toB) : Int)) (ev_call (vs := [.ref p]) (ea_cons (ev_var rfl) ea_nil) fun H1 e1 Q' q' E' => ⟨p, ks, rfl, hp.mono e1, by omega, ht, fun H2 e2 => q' H2 e2⟩) fun H1 e1 => ?_
  refine ⟨fun m σ H' => ∃ l : Int, m = ((Lw.wides (ks.map toB) : Int) + 1 - l).toNat ∧ Nx H H' ∧ LamX.Tabs T H' ∧ σ = [some (.ref p), some (.int l)] ∧ (Ks437.peak (ks.map toB) : Int) ≤ l ∧ (∀ j, (Ks437.peak (ks.map toB) : Int) ≤ j → j < l → ¬ Goes j ks []), ⟨_, _, rfl, nx_of e1, tb_ex hT e1, rfl, Int.le_refl _, fun j h1 h2 => absurd h2 (by omega)⟩, ?_⟩
  rintro m σ H2 ⟨l, rfl, e2, hT2, rfl, hle, hno⟩
  refine ⟨.int l, rfl, .ref p, rfl, by show 0 ≤ sizeLine; exact Nat.zero_le _, fun em hem => ?_⟩
  have e3 : Ex H2 (upd H2 em (.lst [])) := Ex.new hem
  have h3 : upd H2 em (.lst []) em = some (.lst []) := upd_same
  have hT3 := tb_ex hT2 e3
  generalize upd H2 em (.lst []) = H3 at e3 h3 hT3 ⊢
  have e03 := e2.trans (nx_of e3)
  refine ⟨l, p, em, ks, [], rfl, hp.nx e03, h3, Nat.zero_le _, h6, hw, (fun x hx => absurd hx (by simp)), hT3, fun y H4 hy e4 hT4 => ⟨y, rfl, ?_⟩⟩
  have e04 := e03.trans e4
  cases y with
  | true =>
    show tRet (tVar 1) { nx := fun _ H' => Q .non H', rt := Q } [some (.ref p), some (.int l)] H4
    refine s_ret (ev_var (v := .int l) rfl) fun H5 e5 => ?_
    have := fewest_found ht rfl hle (hy.mp rfl) hno
    rw [← this]
    exact k H5 (e04.trans (nx_of e5)) (tb_ex hT4 e5)
  | false =>
    have nog : ¬ Goes l ks [] := fun g => Bool.noConfusion (hy.mpr g)
    have hlt : l < (Lw.wides (ks.map toB) : Int) := by
      refine Int.not_le.mp fun c => nog (goes_top ht c)
    refine ⟨fun σ2 H2 => σ2 = [some (.ref p), some (.int (l + 1))] ∧ Nx H H2 ∧ LamX.Tabs T H2, fun σ2 H2 ⟨z1, z2, z3⟩ => ⟨((Lw.wides (ks.map toB) : Int) + 1 - (l + 1)).toNat, by omega, l + 1, rfl, z2, z3, z1, by omega, fun j h1 h2 => ?_⟩, ?_⟩
    · by_cases c : j < l
      · exact hno j h1 c
      · have : j = l := by omega
        rw [this]
        exact nog
    · exact ⟨.int l, rfl, l, 1, rfl, rfl, rfl, e04, hT4⟩
theorem pure_fewest (vs : List V) (H : Hp) (Q : VK) (E : XK) (h : spFewest K T vs H Q E) : t_fewest K C T { nx := fun _ H' => Q .non H', rt := Q } (start ["bookings"] vs) H := by
  obtain ⟨a, ns, rfl, ha, h24, hns, hT, k⟩ := h
  have fis := fewest_is hns
  refine q_when (b := !okNs ns) (et_not (et_B (ev_call (vs := [.ref a]) (ea_cons (ev_var rfl) ea_nil) fun H1 e1 Q' q' E' => ⟨a, ns, rfl, ex_l e1 ha, h24, fun H2 e2 => q' H2 e2⟩))) (fun hb H1 e1 => s_retL el_neg fun p H2 hp e2 h2 => ?_) (fun hb H1 e1 => ?_)
  · refine k H2 p ?_
    have c : ¬ okNs ns = true := fun z => by
      rw [z] at hb
      cases hb
    rw [h2, fis, if_neg c]
    rfl
  have hok : okNs ns = true := by simpa using hb
  rw [if_pos hok] at fis
  obtain ⟨htold, hw, h6⟩ := told_w hok
  refine ⟨.ref a, rfl, a, ns, rfl, ex_l e1 ha, (okNs_iff.mp hok).1, h24, fun p H2 hp e2 hL => ?_⟩
  refine ⟨p, chunk ns, rfl, hL, h6, htold, tb_ex hT (e1.trans e2), fun H3 e3 hT3 => ⟨by show 1 ≤ sizeLine; decide, fun r hr => k _ r ?_⟩⟩
  rw [upd_same, fis]
  rfl
end
end Lb
set_option Elab.async false
set_option maxRecDepth 100000
set_option maxHeartbeats 2000000
/-! # The peak's hours, the hours for one more: promises and readings -/
namespace Lb
open PySem PySem.Spec PyProof.Rows L2 Evl
def spPeakH (C : Addr) : Sp := fun vs H Q _ => ∃ (p : Addr) (ks : List Bk), vs = [.ref p] ∧ LstAt C H p ks ∧ ks.length ≤ 8 ∧ (∀ b ∈ ks, told b = true) ∧ RetL ((intsOf (Ks437.tight (ks.map toB))).map V.int) H Q
def spPeak (K : PySem.W.Frag) : Sp := fun vs H Q _ => ∃ (a : Addr) (ns : List Int), vs = [.ref a] ∧ SqL K H a (ns.map V.int) ∧ ns.length ≤ 24 ∧ (∀ x ∈ ns, 0 ≤ x) ∧
  ∀ (H' : Hp) (p : Addr), H' p = some (.lst ((PyKs437.peak ns).map V.int)) → Q (.ref p) H'
def spMoreH (C : Addr) (T : TT1) : Sp := fun vs H Q _ => ∃ (n w : Int) (p : Addr) (ks : List Bk), vs = [.int n, .int w, .ref p] ∧ LstAt C H p ks ∧ ks.length ≤ 5 ∧ (∀ b ∈ ks, told b = true) ∧ 0 ≤ n ∧ 1 ≤ w ∧ w ≤ 8 ∧ LamX.Tabs T H ∧
  ∀ (q : Addr) (H' : Hp), Nx H H' → LamX.Tabs T H' → H' q = some (.lst ((intsOf (Ks437.more n.toNat w.toNat (ks.map toB))).map V.int)) → Q (.ref q) H'
def spMore (K : PySem.W.Frag) (T : TT1) : Sp := fun vs H Q _ => ∃ (n w : Int) (a : Addr) (ns : List Int), vs = [.int n, .int w, .ref a] ∧ SqL K H a (ns.map V.int) ∧ ns.length ≤ 24 ∧ 0 ≤ n ∧ 0 ≤ w ∧ (∀ x ∈ ns, 0 ≤ x) ∧ LamX.Tabs T H ∧
  ∀ (H' : Hp) (p : Addr), H' p = some (.lst ((PyKs437.more n w ns).map V.int)) → Q (.ref p) H'
/-- slots: bookings, most, hour -/
def t_peakH (C : Addr) : TS :=
  tSeq (tAsg (tCall (spMost C) [] E0 (tCons (tVar 0) tNil)) (gName 1))
  (tSeq (tIfS (tTest (tOp rEq (tVar 1) (tC (.int 0)))) (tRet (tLst tNil)) tNext)
  (tRet (tLc (iRng1 (tCons (tC (.int 12)) tNil)) (gName 2) (tTest (tOp rEq (tCall (spAsked C) [] E0 (tCons (tVar 2) (tCons (tVar 0) tNil))) (tVar 1))) (tVar 2) [2])))
/-- slots: bookings, told, hours -/
def t_peak (K : PySem.W.Frag) (C : Addr) : TS :=
  tSeq (tIfS (tNot (tB (tCall (spAre K) [] E0 (tCons (tVar 0) tNil)))) (tRet (t_neg 22)) tNext)
  (tSeq (tAsg (tCall (spRead K C) [] E0 (tCons (tVar 0) tNil)) (gName 1))
  (tSeq (tAsg (tCall (spPeakH C) [] E0 (tCons (tVar 1) tNil)) (gName 2))
  (tRet (tOp rCat (tLst (tCons (tCall (spMost C) [] E0 (tCons (tVar 1) tNil)) (tCons (tCB (rLenS K) (tCons (tVar 2) tNil)) tNil))) (tVar 2)))))
/-- slots: lanes, wide, bookings, hour -/
def t_moreH (C : Addr) (T : TT1) : TS :=
  tRet (tLc (iRng1 (tCons (tC (.int 12)) tNil)) (gName 3)
    (tB (tCall (spHas C T) [] E0 (tCons (tVar 0) (tCons (tOp rCat (tVar 2) (tLst (tCons (tMake C (spInit C) [] E0 (tCons (tVar 3) (tCons (tOp rAdd (tVar 3) (tC (.int 1))) (tCons (tVar 1) tNil)))) tNil))) (tCons (tLst tNil) tNil)))))
    (tVar 3) [3])
/-- slots: lanes, wide, bookings, told, hours -/
def t_more (K : PySem.W.Frag) (C : Addr) (T : TT1) : TS :=
  tSeq (tIfS (tOr (tNot (tB (tCall (spAre K) [] E0 (tCons (tVar 2) tNil)))) (tOr (tNot (tB (tCall spLanes [] E0 (tCons (tVar 0) (tCons (tC (.int 12)) tNil))))) (tNot (tB (tCall spWidth [] E0 (tCons (tVar 1) tNil)))))) (tRet (t_neg 22)) tNext)
  (tSeq (tAsg (tCall (spRead K C) [] E0 (tCons (tVar 2) tNil)) (gName 3))
  (tSeq (tIfS (tTest (tOp rEq (tCB (rLenS K) (tCons (tVar 3) tNil)) (tC (.int 6)))) (tRet (t_neg 28)) tNext)
  (tSeq (tIfS (tNot (tB (tCall (spHas C T) [] E0 (tCons (tVar 0) (tCons (tVar 3) (tCons (tLst tNil) tNil)))))) (tRet (t_neg 33)) tNext)
  (tSeq (tAsg (tCall (spMoreH C T) [] E0 (tCons (tVar 0) (tCons (tVar 1) (tCons (tVar 3) tNil)))) (gName 4))
  (tRet (tOp rCat (tLst (tCons (tCB (rLenS K) (tCons (tVar 4) tNil)) tNil)) (tVar 4)))))))
section
variable {K : PySem.W.Frag} {mg : Str → Option Value} {C : Addr} {T : TT1}
theorem v_int {x y : Int} (h : V.int x = V.int y) : x = y := by injection h
theorem tight_given {ks : List Bk} (ht : ∀ b ∈ ks, told b = true) (h0 : Ks437.peak (ks.map toB) ≠ 0) :
    given (12 : Int).toNat (fun i => decide (V.int (askedI ks (i : Int)) = V.int (Ks437.peak (ks.map toB) : Int))) (fun i => V.int (i : Int)) = (intsOf (Ks437.tight (ks.map toB))).map V.int := by
  have e : (List.range 12).filter (fun i : Nat => decide (V.int (askedI ks (i : Int)) = V.int (Ks437.peak (ks.map toB) : Int))) = Ks437.tight (ks.map toB) := by
    unfold Ks437.tight
    refine List.filter_congr fun i _ => ?_
    rw [askedI_is ht]
    generalize Ks437.peak (ks.map toB) = m at h0 ⊢
    generalize Ks437.asked (ks.map toB) i = x
    have h1 : (m != 0) = true := by simpa using h0
    rw [h1, Bool.and_true]
    by_cases c : x = m
    · rw [c, decide_eq_true rfl]
      simp
    · rw [decide_eq_false (fun z => c (by injection z with z; omega))]
      simpa using c
  unfold given intsOf
  rw [List.map_map]
  show ((List.range 12).filter _).map _ = _
  rw [e]
  rfl
theorem tight_nil {l : List Ks437.Booking} (h0 : Ks437.peak l = 0) : Ks437.tight l = [] := by
  unfold Ks437.tight
  rw [h0]
  refine List.filter_eq_nil_iff.mpr fun x _ => ?_
  simp
theorem pure_peakH (vs : List V) (H : Hp) (Q : VK) (E : XK) (h : spPeakH C vs H Q E) : t_peakH C { nx := fun _ H' => Q .non H', rt := Q } (start ["bookings", "most", "hour"] vs) H := by
  obtain ⟨p, ks, rfl, hp, h8, ht, k⟩ := h
  refine q_asg (v := .int (Ks437.peak (ks.map toB) : Int)) (ev_call (vs := [.ref p]) (ea_cons (ev_var rfl) ea_nil) fun H1 e1 Q' q' E' => ⟨p, ks, rfl, hp.mono e1, h8, ht, fun H2 e2 => q' H2 e2⟩) fun H1 e1 => ?_
  refine q_when (b := decide (V.int (Ks437.peak (ks.map toB) : Int) = V.int 0)) (et_test (ev_op (ev_var (v := .int (Ks437.peak (ks.map toB) : Int)) rfl) ev_c (rv_eq rfl))) (fun hb H2 e2 => s_retL (el_lst ea_nil (by decide)) fun q H3 hq e3 h3 => ?_) (fun hb H2 e2 => ?_)
  · have h0 : Ks437.peak (ks.map toB) = 0 := by
      have z := v_int (of_decide_eq_true hb)
      omega
    refine k.go (e1.trans e2) hq e3 ?_
    rw [h3, tight_nil h0]
    rfl
  · have h0 : Ks437.peak (ks.map toB) ≠ 0 := fun z => of_decide_eq_false hb (congrArg (fun m : Nat => V.int (m : Int)) z)
    have z := el_lcR1 (te := tVar 2) (t := tTest (tOp rEq (tCall (spAsked C) [] E0 (tCons (tVar 2) (tCons (tVar 0) tNil))) (tVar 1))) (vs := [2]) (j := 2) (σ := [some (.ref p), some (.int (Ks437.peak (ks.map toB) : Int)), none]) (H := H2) (n := 12)
      (fun i => decide (V.int (askedI ks (i : Int)) = V.int (Ks437.peak (ks.map toB) : Int))) (fun i => V.int (i : Int)) (ea_cons ev_c ea_nil) ⟨by decide, by decide⟩ (fun _ => rfl)
      (fun i H3 e3 hi => et_test (ev_op (ev_call (vs := [.int (i : Int), .ref p]) (ea_cons (ev_var rfl) (ea_cons (ev_var rfl) ea_nil)) fun H4 e4 Q' q' E' => ⟨(i : Int), p, ks, rfl, hp.mono (((e1.trans e2).trans e3).trans e4), h8, fun H5 e5 => q' H5 e5⟩) (ev_var (v := .int (Ks437.peak (ks.map toB) : Int)) rfl) (rv_eq rfl)))
      (fun i H3 e3 hi _ => ev_var (v := .int (i : Int)) rfl)
    rw [tight_given ht h0] at z
    exact s_retL z fun q H3 hq e3 h3 => k.go (e1.trans e2) hq e3 h3
theorem pure_peak (vs : List V) (H : Hp) (Q : VK) (E : XK) (h : spPeak K vs H Q E) : t_peak K C { nx := fun _ H' => Q .non H', rt := Q } (start ["bookings", "told", "hours"] vs) H := by
  obtain ⟨a, ns, rfl, ha, h24, hns, k⟩ := h
  have pis := peak_is hns
  refine q_when (b := !okNs ns) (et_not (et_B (ev_call (vs := [.ref a]) (ea_cons (ev_var rfl) ea_nil) fun H1 e1 Q' q' E' => ⟨a, ns, rfl, ex_l e1 ha, h24, fun H2 e2 => q' H2 e2⟩))) (fun hb H1 e1 => s_retL el_neg fun p H2 hp e2 h2 => ?_) (fun hb H1 e1 => ?_)
  · refine k H2 p ?_
    have c : ¬ okNs ns = true := fun z => by
      rw [z] at hb
      cases hb
    rw [h2, pis, if_neg c]
    rfl
  have hok : okNs ns = true := by simpa using hb
  rw [if_pos hok] at pis
  obtain ⟨htold, hw, h6⟩ := told_w hok
  refine ⟨.ref a, rfl, a, ns, rfl, ex_l e1 ha, (okNs_iff.mp hok).1, h24, fun p H2 hp e2 hL => ?_⟩
  refine ⟨.ref p, rfl, p, chunk ns, rfl, hL, by omega, htold, fun q H3 hq e3 h3 => ?_⟩
  have hlen : (intsOf (Ks437.tight (bs ns))).length = (Ks437.tight (bs ns)).length := List.length_map _
  have hle : (Ks437.tight (bs ns)).length ≤ 12 := by
    unfold Ks437.tight
    have h := List.length_filter_le (fun h => Ks437.asked (bs ns) h == Ks437.peak (bs ns) && Ks437.peak (bs ns) != 0) (List.range Ks437.HOURS)
    rw [List.length_range] at h
    exact h
  refine s_retL (el_catW (el_lst (vs := [.int (Ks437.peak (bs ns) : Int), .int ((Ks437.tight (bs ns)).length : Int)]) (ea_cons (ev_call (vs := [.ref p]) (ea_cons (ev_var (v := .ref p) rfl) ea_nil) fun H4 e4 Q' q' E' => ⟨p, chunk ns, rfl, (hL.mono e3).mono e4, by omega, htold, fun H5 e5 => q' H5 e5⟩)
      (ea_cons (ev_is (ev_len (ev_var (v := .ref q) rfl) (sq_of h3)) (by rw [List.length_map, hlen])) ea_nil)) (by show 2 ≤ 100000; decide)) (ev_var (v := .ref q) rfl) h3 (by rw [List.length_map, hlen]; show 2 + _ ≤ _; omega)) fun r H5 hr e5 h5 => k H5 r ?_
  rw [h5, pis]
  rfl
/-- what a comprehension over range(12) has kept behind i turns, tables among what grows -/
def Ch (H : Hp) (T : TT1) (f : Nat → Bool) (D : Addr) (i : Nat) (H' : Hp) : Prop := H D = none ∧ Nx H H' ∧ LamX.Tabs T H' ∧ H' D = some (.lst (given i f fun i => V.int (i : Int)))
theorem told_one {i : Nat} {w : Int} (hi : i < 12) (h1 : 1 ≤ w) (h8 : w ≤ 8) : told ⟨(i : Int), (i : Int) + 1, w⟩ = true := told_iff.mpr ⟨by show (0 : Int) ≤ i; omega, by show (i : Int) < i + 1; omega, by show (i : Int) + 1 ≤ 12; omega, h1, h8⟩
/-- one more for the hour i -/
abbrev oneF (n w : Int) (ks : List Bk) (i : Nat) : Bool := (Ks437.ways n.toNat (ks.map toB ++ [{ from_ := i, to_ := i + 1, wide := w.toNat }])).isSome
theorem one_goes {n w : Int} {ks : List Bk} {i : Nat} (hn : 0 ≤ n) (ht : ∀ b ∈ ks, told b = true) (hi : i < 12) (h1 : 1 ≤ w) (h8 : w ≤ 8) : Goes n (ks ++ [⟨(i : Int), (i : Int) + 1, w⟩]) [] ↔ oneF n w ks i = true := by
  have g := goes_ways (n := n) (ks := ks ++ [(⟨(i : Int), (i : Int) + 1, w⟩ : Bk)]) hn fun b hb => by
    rcases List.mem_append.mp hb with hb | hb
    · exact ht b hb
    · rw [List.mem_singleton.mp hb]
      exact told_one hi h1 h8
  rw [g, List.map_append]
  have e : [(⟨(i : Int), (i : Int) + 1, w⟩ : Bk)].map toB = [{ from_ := i, to_ := i + 1, wide := w.toNat }] := by
    show [toB _] = _
    unfold toB
    have e1 : ((i : Int) + 1).toNat = i + 1 := by omega
    have e2 : (i : Int).toNat = i := by omega
    rw [e1, e2]
  rw [e]
theorem lst_one {H : Hp} {l a : Addr} {as : List Addr} {ks : List Bk} {b : Bk} (hB : BksAt C H as ks) (ha : BkAt C H a b) (hl : H l = some (.lst (as.map V.ref ++ [.ref a]))) : LstAt C H l (ks ++ [b]) := by
  refine ⟨as ++ [a], by rw [hl, List.map_append]; rfl, by rw [List.length_append, List.length_append, hB.1]; rfl, fun j c hj => ?_⟩
  by_cases z : j < as.length
  · rw [List.getElem?_append_left z] at hj
    have e : bAt (ks ++ [b]) j = bAt ks j := by
      unfold bAt
      rw [List.getD_eq_getElem?_getD, List.getD_eq_getElem?_getD, List.getElem?_append_left (by rw [← hB.1]; exact z)]
    rw [e]
    exact hB.2 j c hj
  · have hj2 : j = as.length := by
      obtain ⟨hl, _⟩ := List.getElem?_eq_some_iff.mp hj
      rw [List.length_append, List.length_singleton] at hl
      omega
    subst hj2
    rw [List.getElem?_append_right (Nat.le_refl _), Nat.sub_self] at hj
    cases hj
    have e : bAt (ks ++ [b]) as.length = b := bAt_of (by rw [hB.1, List.getElem?_append_right (Nat.le_refl _), Nat.sub_self]; rfl)
    rw [e]
    exact ha
/-- a new list of one new booking -/
theorem make_lst {σ : L2.St} {H : Hp} {t : TA} {b e w : Int} (h : EvA t σ H [.int b, .int e, .int w]) : ∀ H1, Ex H H1 → ∀ Q : VK, (∀ a l H2, Ex H1 H2 → BkAt C H2 a ⟨b, e, w⟩ → H2 l = some (.lst [.ref a]) → Q (.ref l) H2) →
    tLst (tCons (tMake C (spInit C) [] E0 t) tNil) σ H1 Q := fun H1 e1 Q q => by
  have := make_bk (C := C) h H1 e1 (fun x H2 => [x].length ≤ sizeLine ∧ ∀ p, H2 p = none → Q (.ref p) (upd H2 p (.lst [x]))) fun a H2 e2 hb => ⟨by show 1 ≤ sizeLine; decide, fun l hl => q a l _ (e2.trans (Ex.new hl)) (hb.mono (Ex.new hl)) upd_same⟩
  exact this
theorem pure_moreH (vs : List V) (H : Hp) (Q : VK) (E : XK) (h : spMoreH C T vs H Q E) : t_moreH C T { nx := fun _ H' => Q .non H', rt := Q } (start ["lanes", "wide", "bookings", "hour"] vs) H := by
  obtain ⟨n, w, p, ks, rfl, hp, h5, ht, hn, hw1, hw8, hT, k⟩ := h
  have hkw : ∀ b ∈ ks, 1 ≤ b.w := fun b hb => (told_iff.mp (ht b hb)).2.2.2.1
  show tLc _ _ _ _ _ _ _ _
  refine ⟨12, rfl, by decide, by decide, fun D hD => lc_it (walk_range (lo := 0) (n := 12)) (Ch H T (oneF n w ks) D) ⟨hD, nx_of (Ex.new hD), tb_ex hT (Ex.new hD), upd_same⟩ (fun _ _ _ _ => trivial) (fun i x H3 H4 hi P y => ?_) (fun H3 P => ?_)⟩
  · obtain ⟨rfl, hx⟩ := y
    have hx' : x = .int (i : Int) := hx.trans (congrArg V.int (Int.zero_add _))
    subst hx'
    obtain ⟨p1, p2, p3, p4⟩ := P
    refine ⟨rfl, ?_⟩
    obtain ⟨as, hp3, hB3⟩ := hp.nx p2
    have hal : as.length = ks.length := hB3.1
    refine ⟨.int n, rfl, .ref p, rfl, ?_⟩
    refine make_lst (C := C) (b := (i : Int)) (e := (i : Int) + 1) (w := w) (ea_cons (ev_var rfl) (ea_cons (ev_op (ev_var (v := .int (i : Int)) rfl) ev_c rv_I0) (ea_cons (ev_var rfl) ea_nil))) H4 (Ex.refl H4) _ fun a l H6 e46 hb h6 => ?_
    refine ⟨p, l, as.map V.ref, [.ref a], rfl, rfl, e46 _ _ hp3, h6, sz_of (by rw [List.length_map, hal, List.length_singleton]; omega), fun c hc => ?_⟩
    have e7 : Ex H6 (upd H6 c (.lst (as.map V.ref ++ [.ref a]))) := Ex.new hc
    have h7 : upd H6 c (.lst (as.map V.ref ++ [.ref a])) c = some (.lst (as.map V.ref ++ [.ref a])) := upd_same
    generalize upd H6 c (.lst (as.map V.ref ++ [.ref a])) = H7 at e7 h7 ⊢
    refine ⟨by show 0 ≤ sizeLine; exact Nat.zero_le _, fun em hem => ?_⟩
    have e8 : Ex H7 (upd H7 em (.lst [])) := Ex.new hem
    have h8 : upd H7 em (.lst []) em = some (.lst []) := upd_same
    generalize upd H7 em (.lst []) = H8 at e8 h8 ⊢
    have e78 := e7.trans e8
    have e48 := e46.trans e78
    refine ⟨n, c, em, ks ++ [⟨(i : Int), (i : Int) + 1, w⟩], [], rfl, lst_one (hB3.mono e48) (hb.mono e78) (e8 _ _ h7), h8, Nat.zero_le _, by rw [List.length_append, List.length_singleton]; omega, fun b hb => ?_, (fun x hx => absurd hx (by simp)), tb_ex p3 e48, fun y H9 hy e9 hT9 => ⟨y, rfl, ?_⟩⟩
    · rcases List.mem_append.mp hb with hb | hb
      · exact hkw b hb
      · rw [List.mem_singleton.mp hb]
        exact hw1
    have hD9 : H9 D = some (.lst (given i (oneF n w ks) fun i => V.int (i : Int))) := e9.at (e48 _ _ p4)
    have e09 : Nx H H9 := (p2.trans (nx_of e48)).trans e9
    rw [one_goes hn ht hi hw1 hw8] at hy
    cases y with
    | true => exact ⟨.int (i : Int), rfl, _, hD9, sz_lt (by have := given_len i (oneF n w ks) (fun i => V.int (i : Int)); omega), p1, Nx.mut e09 p1, tb_mut hT9 hD9, by rw [given_yes (hy.mp rfl)]; exact upd_same⟩
    | false =>
      refine ⟨p1, e09, hT9, ?_⟩
      rw [given_no (Bool.eq_false_iff.mpr fun z => Bool.noConfusion (hy.mpr z))]
      exact hD9
  · obtain ⟨p1, p2, p3, p4⟩ := P
    refine k D H3 p2 p3 (p4.trans (congrArg (fun z => some (HO.lst z)) ?_))
    unfold given intsOf Ks437.more
    rw [List.map_map]
    rfl
theorem pure_more (vs : List V) (H : Hp) (Q : VK) (E : XK) (h : spMore K T vs H Q E) : t_more K C T { nx := fun _ H' => Q .non H', rt := Q } (start ["lanes", "wide", "bookings", "told", "hours"] vs) H := by
  obtain ⟨n, w, a, ns, rfl, ha, h24, hn, hw, hns, hT, k⟩ := h
  have mis := more_is hn hw hns
  refine q_when (b := !okNs ns || (!(decide (0 ≤ n) && decide (n ≤ 12)) || !(decide (1 ≤ w) && decide (w ≤ 8)))) (et_or (et_not (et_B (ev_call (vs := [.ref a]) (ea_cons (ev_var rfl) ea_nil) fun H1 e1 Q' q' E' => ⟨a, ns, rfl, ex_l e1 ha, h24, fun H2 e2 => q' H2 e2⟩)))
    (fun _ => et_or (et_not (et_B (ev_call (vs := [.int n, .int 12]) (ea_cons (ev_var rfl) (ea_cons ev_c ea_nil)) fun H1 e1 Q' q' E' => ⟨n, 12, rfl, fun H2 e2 => q' H2 e2⟩)))
      (fun _ => et_not (et_B (ev_call (vs := [.int w]) (ea_cons (ev_var rfl) ea_nil) fun H1 e1 Q' q' E' => ⟨w, rfl, fun H2 e2 => q' H2 e2⟩))))) (fun hb H1 e1 => s_retL el_neg fun p H2 hp e2 h2 => ?_) (fun hb H1 e1 => ?_)
  · refine k H2 p ?_
    have c : ¬ (okNs ns && (decide (n ≤ 12) && (decide (1 ≤ w) && decide (w ≤ 8)))) = true := fun z => by
      obtain ⟨z1, z2⟩ := Bool.and_eq_true_iff.mp z
      obtain ⟨z3, z4⟩ := Bool.and_eq_true_iff.mp z2
      rw [z1, z3, z4, decide_eq_true hn] at hb
      cases hb
    rw [h2, mis, if_neg c]
    rfl
  have hb' := Bool.or_eq_false_iff.mp hb
  have hb2 := Bool.or_eq_false_iff.mp hb'.2
  have hok : okNs ns = true := by simpa using hb'.1
  have hn12 : 0 ≤ n ∧ n ≤ 12 := by simpa using hb2.1
  have hw8 : 1 ≤ w ∧ w ≤ 8 := by simpa using hb2.2
  have c : (okNs ns && (decide (n ≤ 12) && (decide (1 ≤ w) && decide (w ≤ 8)))) = true := by rw [hok, decide_eq_true hn12.2, decide_eq_true hw8.1, decide_eq_true hw8.2] <;> rfl
  rw [if_pos c] at mis
  obtain ⟨htold, hkw, h6⟩ := told_w hok
  refine ⟨.ref a, rfl, a, ns, rfl, ex_l e1 ha, (okNs_iff.mp hok).1, h24, fun p H2 hp e2 hL => ?_⟩
  have e02 := e1.trans e2
  obtain ⟨as, hpl, hB⟩ := hL
  refine q_when (b := decide (V.int ((chunk ns).length : Int) = V.int 6)) (et_test (ev_op (ev_is (ev_len (ev_var (v := .ref p) rfl) (sq_of hpl)) (by rw [List.length_map, hB.1])) ev_c (rv_eq rfl))) (fun hb H3 e3 => s_retL el_neg fun r H4 hr e4 h4 => k H4 r ?_) (fun hb H3 e3 => ?_)
  · have hl : 6 ≤ (chunk ns).length := by
      have z := v_int (of_decide_eq_true hb)
      omega
    rw [h4, mis, if_pos hl]
    rfl
  have hl5 : (chunk ns).length ≤ 5 := by
    have z := of_decide_eq_false hb
    by_cases y : (chunk ns).length = 6
    · exact absurd (congrArg (fun m : Nat => V.int (m : Int)) y) z
    · omega
  rw [if_neg (by omega : ¬ 6 ≤ (chunk ns).length)] at mis
  have e03 := e02.trans e3
  refine ⟨.int n, rfl, .ref p, rfl, by show 0 ≤ sizeLine; exact Nat.zero_le _, fun em hem => ?_⟩
  have e4 : Ex H3 (upd H3 em (.lst [])) := Ex.new hem
  have h4 : upd H3 em (.lst []) em = some (.lst []) := upd_same
  generalize upd H3 em (.lst []) = H4 at e4 h4 ⊢
  have hL4 : LstAt C H4 p (chunk ns) := ⟨as, e4 _ _ (e3 _ _ hpl), hB.mono (e3.trans e4)⟩
  refine ⟨n, p, em, chunk ns, [], rfl, hL4, h4, Nat.zero_le _, h6, hkw, (fun x hx => absurd hx (by simp)), tb_ex hT (e03.trans e4), fun y H5 hy e5 hT5 => ⟨y, rfl, ?_⟩⟩
  have hy2 : y = (Ks437.put n.toNat [] (bs ns)).isSome := by
    rw [goes_ways hn htold, Lw.ways_eq] at hy
    cases y with
    | true => exact (hy.mp rfl).symm
    | false => exact (Bool.eq_false_iff.mpr fun z => Bool.noConfusion (hy.mpr z)).symm
  cases y with
  | false =>
    have hi : (Ks437.put n.toNat [] (bs ns)).isNone = true := by
      rw [← Option.not_isSome, ← hy2] <;> rfl
    show tRet (t_neg 33) _ _ _
    refine s_retL el_neg fun r H6 hr e6 h6 => k H6 r ?_
    rw [h6, mis, if_pos hi]
    rfl
  | true =>
    have hi : ¬ (Ks437.put n.toNat [] (bs ns)).isNone = true := by
      rw [← Option.not_isSome, ← hy2]
      exact Bool.false_ne_true
    rw [if_neg hi] at mis
    refine ⟨.int n, rfl, .int w, rfl, .ref p, rfl, n, w, p, chunk ns, rfl, hL4.nx e5, hl5, htold, hn, hw8.1, hw8.2, hT5, fun q H6 e6 hT6 h6 => ?_⟩
    have hlen : (intsOf (Ks437.more n.toNat w.toNat (bs ns))).length = (Ks437.more n.toNat w.toNat (bs ns)).length := List.length_map _
    have hle : (Ks437.more n.toNat w.toNat (bs ns)).length ≤ 12 := by
      have h := List.length_filter_le (oneF n w (chunk ns)) (List.range 12)
      rw [List.length_range] at h
      exact h
    refine s_retL (el_catW (el_lst (vs := [.int ((Ks437.more n.toNat w.toNat (bs ns)).length : Int)]) (ea_cons (ev_is (ev_len (ev_var (v := .ref q) rfl) (sq_of h6)) (by rw [List.length_map, hlen])) ea_nil) (by show 1 ≤ 100000; decide)) (ev_var (v := .ref q) rfl) h6 (by rw [List.length_map, hlen, List.length_singleton]; omega)) fun r H7 hr e7 h7 => k H7 r ?_
    rw [h7, mis]
    rfl
end
end Lb
set_option Elab.async false
set_option maxRecDepth 100000
set_option maxHeartbeats 2000000

/-! # The program's text: each def holds its promise -/
namespace Lb
open PySem PySem.Spec PyProof.Rows L2 Evl
open PySem.W (Codec)
def top (i : Nat) : Stmt := PySem.Challenge.pw_lanebookings_s05_more.main.body.getD i (.Pass ⟨0, 0, 0, 0⟩)
abbrev sInit : Stmt := inClass (top 7) 0
abbrev sWidth : Stmt := top 6
abbrev sTold : Stmt := inClass (top 7) 1
abbrev sShares : Stmt := inClass (top 7) 3
abbrev sRead : Stmt := top 8
abbrev sAre : Stmt := top 9
abbrev sShare : Stmt := top 11
abbrev sColl : Stmt := top 12
abbrev sIsR : Stmt := top 13
abbrev sLeast : Stmt := top 14
abbrev sFits : Stmt := top 15
abbrev sOrders : Stmt := top 16
abbrev sHas : Stmt := top 17
abbrev sMoreH : Stmt := top 18
abbrev sLanes : Stmt := top 21
abbrev sMore : Stmt := top 22
theorem scInit : FnScope ["self", "begin", "end", "wide"] ["self", "begin", "end", "wide"] (defScope sInit) := ⟨rfl, rfl, rfl, by decide +kernel, rfl, by decide +kernel, by decide +kernel⟩
theorem scWidth : FnScope ["wide"] ["wide"] (defScope sWidth) := ⟨rfl, rfl, rfl, by decide +kernel, rfl, by decide +kernel, by decide +kernel⟩
theorem scTold : FnScope ["self"] ["self"] (defScope sTold) := ⟨rfl, rfl, rfl, by decide +kernel, rfl, by decide +kernel, by decide +kernel⟩
theorem scShares : FnScope ["self", "other"] ["self", "other"] (defScope sShares) := ⟨rfl, rfl, rfl, by decide +kernel, rfl, by decide +kernel, by decide +kernel⟩
theorem scRead : FnScope ["numbers", "at"] ["numbers"] (defScope sRead) := ⟨rfl, rfl, rfl, by decide +kernel, rfl, by decide +kernel, by decide +kernel⟩
theorem scAre : FnScope ["numbers", "booking"] ["numbers"] (defScope sAre) := ⟨rfl, rfl, rfl, by decide +kernel, rfl, by decide +kernel, by decide +kernel⟩
theorem scShare : FnScope ["booking", "first", "other", "other_first"] ["booking", "first", "other", "other_first"] (defScope sShare) := ⟨rfl, rfl, rfl, by decide +kernel, rfl, by decide +kernel, by decide +kernel⟩
theorem scColl : FnScope ["booking", "first", "other", "other_first"] ["booking", "first", "other", "other_first"] (defScope sColl) := ⟨rfl, rfl, rfl, by decide +kernel, rfl, by decide +kernel, by decide +kernel⟩
theorem scIsR : FnScope ["lanes", "bookings", "firsts", "number", "booking", "first", "earlier"] ["lanes", "bookings", "firsts"] (defScope sIsR) := ⟨rfl, rfl, rfl, by decide +kernel, rfl, by decide +kernel, by decide +kernel⟩
theorem scLeast : FnScope ["booking", "placed", "first", "other", "other_first"] ["booking", "placed"] (defScope sLeast) := ⟨rfl, rfl, rfl, by decide +kernel, rfl, by decide +kernel, by decide +kernel⟩
theorem scFits : FnScope ["lanes", "placed", "order", "standing", "booking", "first"] ["lanes", "placed", "order"] (defScope sFits) := ⟨rfl, rfl, rfl, by decide +kernel, rfl, by decide +kernel, by decide +kernel⟩
theorem scOrders : FnScope ["bookings", "orders", "booking", "longer", "order", "at"] ["bookings"] (defScope sOrders) := ⟨rfl, rfl, rfl, by decide +kernel, rfl, by decide +kernel, by decide +kernel⟩
theorem scHas : FnScope ["lanes", "bookings", "firsts", "begun", "placed", "order"] ["lanes", "bookings", "firsts"] (defScope sHas) := ⟨rfl, rfl, rfl, by decide +kernel, rfl, by decide +kernel, by decide +kernel⟩
theorem scMoreH : FnScope ["lanes", "wide", "bookings", "hour"] ["lanes", "wide", "bookings"] (defScope sMoreH) := ⟨rfl, rfl, rfl, by decide +kernel, rfl, by decide +kernel, by decide +kernel⟩
theorem scLanes : FnScope ["lanes", "most"] ["lanes", "most"] (defScope sLanes) := ⟨rfl, rfl, rfl, by decide +kernel, rfl, by decide +kernel, by decide +kernel⟩
theorem scMore : FnScope ["lanes", "wide", "bookings", "told", "hours"] ["lanes", "wide", "bookings"] (defScope sMore) := ⟨rfl, rfl, rfl, by decide +kernel, rfl, by decide +kernel, by decide +kernel⟩
theorem boot_all : bootBuiltins "all" = some (.builtin "all") := by decide +kernel
theorem boot_list_ : bootBuiltins "list" = some (.type "list") := by decide +kernel
/-- the lambda's name -/
def lamQ : Str := (("least_free_first" : Str) ++ ".<locals>.") ++ "<lambda>"
abbrev spPutT (K : PySem.W.Frag) (Tb : Addr) : Sp := spPut K [(Tb, lamQ)]
abbrev spFewestT (K : PySem.W.Frag) (Tb : Addr) : Sp := spFewest K [(Tb, lamQ)]
abbrev spMoreT (K : PySem.W.Frag) (Tb : Addr) : Sp := spMore K [(Tb, lamQ)]
def sndB (sc : Scope) (x : Str) : Bool := sc.names.all (fun y => !decide (y.2 = .cell)) && decide (sc.names.lookup x = some .local) && decide (sc.kind = .function) && !sc.isCoroutine && !sc.isGenerator && !(x == ("__debug__" : Str))
theorem sndBy {ar : Arguments} {body : Expr} {sc : Scope} {x : Str} (hb : ∀ (q : Str) (cl : List (Str × Addr)) (pm cdv ct v : Value), bindArgs (PySem.W.kla_fn "<lambda>" q ar body sc cl pm cdv ct) ⟨[v], []⟩ = pure [(x, v)])
    (he : ∃ (p1 p2 p3 : Pos) (j : Nat), body = .Subscript (.Name x p1) (.Constant (.int 1) j p2) p3) (h : sndB sc x = true) : Snd ar body sc x := by
  unfold sndB at h
  simp only [Bool.and_eq_true, Bool.not_eq_true', decide_eq_true_eq, decide_eq_false_iff_not, List.all_eq_true] at h
  obtain ⟨⟨⟨⟨⟨h1, h2⟩, h3⟩, h4⟩, h5⟩, h6⟩ := h
  exact ⟨hb, he, h1, h2, h3, h4, h5, h6⟩
theorem room_depth {k : Nat} {A : Around} (hr : Room k A) : A.depth < recursionLimit := by
  have := hr.dp
  omega
section
variable {P : Program} {w : World} {K : PySem.W.Frag} {mg : Str → Option Value} {base : Heap} {C : Addr}
/-- as Fun.ok, the code object told -/
theorem fun_okC {x qual : Str} {st : Stmt} {f c : Addr} {fd : FuncData} {N ps : List Str} {k : Nat} {sp : Sp} (F : Fun K x qual st f fd) (hcode : fd.code = .ref c) (S : FnScope N ps (defScope st)) (len : ∀ vs H Q E, sp vs H Q E → vs.length = ps.length)
    (hbody : ∀ (A : Around) (outer : List Env) (s : Shared) (H : Hp) (vs : List V) (Q : VK) (E : XK), Room k (A.deeper (envOfC qual (defScope st) s.heap.objs.size f (.ref c))) → sp vs H Q E →
      ∃ t, PSs (cxOf CX0 P w K mg base N qual (defScope st) f (.ref c) A outer s H E).nox (defBody st) t ∧ t { nx := fun _ H' => Q .non H', rt := Q } (start N vs) H) : FnOk P w K mg base CX0 (k + 1) f fd ps sp := by
  obtain ⟨oc, od, kV, doc, pm, an, cdv, ct, osl, rfl, lk, hcd⟩ := F.ex
  have e : cdv = .ref c := hcode
  subst e
  refine fn_of lk hcd S len fun A outer s H vs Q E hr hsp => ?_
  obtain ⟨t, h, q⟩ := hbody A outer s H vs Q E hr hsp
  exact ⟨t, h.nox, q⟩
theorem ok_init {f : Addr} {fd : FuncData} (F : Fun K "__init__" "Booking.__init__" sInit f fd) (T : Txt K mg C) : FnOk P w K mg base CX0 1 f fd ["self", "begin", "end", "wide"] (spInit C) := by
  refine F.ok scInit (fun vs H Q E h => ?_) (fun cdv A outer s H vs Q E hr h => ⟨t_init K, ?_, pure_init T vs H Q E h⟩)
  · obtain ⟨p, dx, b, e, w, rfl, _⟩ := h
    rfl
  · exact pss_cons (ps_fld (pv 0) (pv 1) rfl) (pss_cons (ps_fld (pv 0) (pv 2) rfl) (pss_one (ps_fld (pv 0) (pv 3) rfl)))
theorem ok_width {f : Addr} {fd : FuncData} (F : Fun K "is_width_as_told" "is_width_as_told" sWidth f fd) (T : Txt K mg C) : FnOk P w K mg base CX0 1 f fd ["wide"] spWidth := by
  refine F.ok scWidth (fun vs H Q E h => ?_) (fun cdv A outer s H vs Q E hr h => ⟨t_width, ?_, pure_width vs H Q E h⟩)
  · obtain ⟨w, rfl, _⟩ := h
    rfl
  · exact pss_one (ps_ret (pe_chain op_le op_le pe_int (pv 0) (pe_num T.wid rfl)))
theorem ok_told {f fW : Addr} {fd fdW : FuncData} (F : Fun K "is_as_told" "Booking.is_as_told" sTold f fd) (T : Txt K mg C) (gW : mg "is_width_as_told" = some (.ref fW)) (kW : PySem.W.keepIn K (.ref fW) = true)
    (GW : FnOk P w K mg base CX0 1 fW fdW ["wide"] spWidth) (bW : Binds K fdW ["wide"] []) : FnOk P w K mg base CX0 2 f fd ["self"] (spTold C) := by
  refine F.ok scTold (fun vs H Q E h => ?_) (fun cdv A outer s H vs Q E hr h => ⟨t_told K, ?_, pure_told T vs H Q E h⟩)
  · obtain ⟨p, k, rfl, _⟩ := h
    rfl
  · exact pss_one (ps_ret (pe_and (pe_chain3 op_le op_lt op_le pe_int (pe_fld (pv 0) rfl) (pe_fld (pv 0) rfl) (pe_num T.lae rfl)) (pe_one (pe_call GW hr rfl gW kW bW .nil pass0 (pa_cons (pe_fld (pv 0) rfl) pa_nil)))))
theorem ok_shares {f : Addr} {fd : FuncData} (F : Fun K "shares_hour_with" "Booking.shares_hour_with" sShares f fd) (T : Txt K mg C) : FnOk P w K mg base CX0 1 f fd ["self", "other"] (spShares C) := by
  refine F.ok scShares (fun vs H Q E h => ?_) (fun cdv A outer s H vs Q E hr h => ⟨t_shares K, ?_, pure_shares T vs H Q E h⟩)
  · obtain ⟨p, q, k, m, rfl, _⟩ := h
    rfl
  · exact pss_one (ps_ret (pe_and (pe_cmpR op_lt (pe_fld (pv 0) rfl) (pe_fld (pv 1) rfl) (nomark _)) (pe_one (pe_cmpR op_lt (pe_fld (pv 1) rfl) (pe_fld (pv 0) rfl) (nomark _)))))
theorem ok_read {f fI : Addr} {fd fdI : FuncData} (F : Fun K "read_bookings" "read_bookings" sRead f fd) (T : Txt K mg C) (M : Mk K C fI) (bI : Binds K fdI ["self", "begin", "end", "wide"] [])
    (FI : Fun K "__init__" "Booking.__init__" sInit fI fdI) : FnOk P w K mg base CX0 3 f fd ["numbers"] (spRead K C) := by
  have GI : FnOk P w K mg base CX0 1 fI fdI ["self", "begin", "end", "wide"] (spInit C) := ok_init FI T
  refine F.ok scRead (fun vs H Q E h => ?_) (fun cdv A outer s H vs Q E hr h => ⟨t_read K C, ?_, pure_read vs H Q E h⟩)
  · obtain ⟨a, ns, rfl, _⟩ := h
    rfl
  · exact pss_one (ps_ret (pe_lc (own := [("at", 1)]) (g := gName 1) rfl scRead.nd
      (pi_range3 rfl T.rng (pa_cons pe_int (pa_cons (pe_callB call_len_seq (by rfl) T.len PySem.boot_len (pa_cons (pv 0) pa_nil)) (pa_cons (pe_num T.noe rfl) pa_nil))))
      (blkOk_by (own := [("at", 1)]) (N := ["numbers", "at"]) (sc := defScope sRead) (by decide +kernel))
      (fun _ _ _ _ _ => pg_name (i := 1) scRead.nd rfl (Or.inl rfl)) (fun _ _ _ _ _ => pts_nil)
      (fun _ _ _ _ _ => pe_make M GI hr rfl T.gC bI .nil pass0 (pa_cons (pe_ix ix_list (pv 0) (pv 1) (fun _ _ => rfl)) (pa_cons (pe_ix ix_list (pv 0) (pe_op op_add (pv 1) pe_int) (fun _ _ => rfl)) (pa_cons (pe_ix ix_list (pv 0) (pe_op op_add (pv 1) pe_int) (fun _ _ => rfl)) pa_nil))))))
theorem ok_are {f fR fT : Addr} {fd fdR fdT : FuncData} (F : Fun K "are_as_told" "are_as_told" sAre f fd) (T : Txt K mg C) (gR : mg "read_bookings" = some (.ref fR)) (kR : PySem.W.keepIn K (.ref fR) = true)
    (GR : FnOk P w K mg base CX0 3 fR fdR ["numbers"] (spRead K C)) (bR : Binds K fdR ["numbers"] []) (GT : FnOk P w K mg base CX0 2 fT fdT ["self"] (spTold C)) (bT : Binds K fdT ["self"] []) (mT : Meth K C "is_as_told" fT) :
    FnOk P w K mg base CX0 4 f fd ["numbers"] (spAre K) := by
  refine F.ok scAre (fun vs H Q E h => ?_) (fun cdv A outer s H vs Q E hr h => ⟨t_are K C, ?_, pure_are vs H Q E h⟩)
  · obtain ⟨a, ns, rfl, _⟩ := h
    rfl
  · have hr1 : Room 2 _ := hr.mono (by decide)
    exact pss_cons (ps_if (pt_cmpR op_ne (pe_op op_mod (pe_callB call_len_seq (by rfl) T.len PySem.boot_len (pa_cons (pv 0) pa_nil)) (pe_num T.noe rfl)) pe_int (nomark _)) (pss_one (ps_ret pe_bl)) pss_nil)
      (pss_cons (ps_if (pt_cmpR op_gt (pe_callB call_len_seq (by rfl) T.len PySem.boot_len (pa_cons (pv 0) pa_nil)) (pe_op op_mul (pe_num T.noe rfl) (pe_num T.mob rfl)) (nomark _)) (pss_one (ps_ret pe_bl)) pss_nil)
      (pss_one (ps_ret (pe_callB (cr_all rfl) (by rfl) T.all boot_all (pa_cons (pe_lc (own := [("booking", 1)]) (g := gName 1) rfl scAre.nd
        (pi_list (pe_call GR hr rfl gR kR bR .nil pass0 (pa_cons (pv 0) pa_nil)))
        (blkOk_by (own := [("booking", 1)]) (N := ["numbers", "booking"]) (sc := defScope sAre) (by decide +kernel))
        (fun _ _ _ _ _ => pg_name (i := 1) scAre.nd rfl (Or.inl rfl)) (fun _ _ _ _ _ => pts_nil)
        (fun _ _ _ _ _ => pe_meth0 (pv 1) T.cl mT GT hr1 bT .nil pass0)) pa_nil)))))
theorem ok_share {f : Addr} {fd : FuncData} (F : Fun K "share_lane" "share_lane" sShare f fd) (T : Txt K mg C) : FnOk P w K mg base CX0 1 f fd ["booking", "first", "other", "other_first"] (spShare C) := by
  refine F.ok scShare (fun vs H Q E h => ?_) (fun cdv A outer s H vs Q E hr h => ⟨t_share K, ?_, pure_share T vs H Q E h⟩)
  · obtain ⟨p, q, k, m, f, g, rfl, _⟩ := h
    rfl
  · exact pss_one (ps_ret (pe_and (pe_cmpR op_lt (pv 1) (pe_op op_add (pv 3) (pe_fld (pv 2) rfl)) (nomark _)) (pe_one (pe_cmpR op_lt (pv 3) (pe_op op_add (pv 1) (pe_fld (pv 0) rfl)) (nomark _)))))
theorem ok_coll {f fS fL : Addr} {fd fdS fdL : FuncData} (F : Fun K "collide" "collide" sColl f fd) (T : Txt K mg C) (gL : mg "share_lane" = some (.ref fL)) (kL : PySem.W.keepIn K (.ref fL) = true)
    (GL : FnOk P w K mg base CX0 1 fL fdL ["booking", "first", "other", "other_first"] (spShare C)) (bL : Binds K fdL ["booking", "first", "other", "other_first"] []) (GS : FnOk P w K mg base CX0 1 fS fdS ["self", "other"] (spShares C)) (bS : Binds K fdS ["self", "other"] []) (mS : Meth K C "shares_hour_with" fS) :
    FnOk P w K mg base CX0 2 f fd ["booking", "first", "other", "other_first"] (spColl C) := by
  refine F.ok scColl (fun vs H Q E h => ?_) (fun cdv A outer s H vs Q E hr h => ⟨t_coll C, ?_, pure_coll vs H Q E h⟩)
  · obtain ⟨p, q, k, m, f, g, rfl, _⟩ := h
    rfl
  · exact pss_one (ps_ret (pe_and (pe_meth (pv 0) T.cl mS GS hr bS .nil pass0 (pa_cons (pv 2) pa_nil)) (pe_one (pe_call GL hr rfl gL kL bL .nil pass0 (pa_cons (pv 0) (pa_cons (pv 1) (pa_cons (pv 2) (pa_cons (pv 3) pa_nil))))))))
theorem ok_isr {f fO : Addr} {fd fdO : FuncData} (F : Fun K "is_right" "is_right" sIsR f fd) (T : Txt K mg C) (nenu : mg "enumerate" = none) (gO : mg "collide" = some (.ref fO)) (kO : PySem.W.keepIn K (.ref fO) = true)
    (GO : FnOk P w K mg base CX0 2 fO fdO ["booking", "first", "other", "other_first"] (spColl C)) (bO : Binds K fdO ["booking", "first", "other", "other_first"] []) : FnOk P w K mg base CX0 3 f fd ["lanes", "bookings", "firsts"] (spIsR K C) := by
  refine F.ok scIsR (fun vs H Q E h => ?_) (fun cdv A outer s H vs Q E hr h => ⟨t_isr K C, ?_, pure_isr T vs H Q E h⟩)
  · obtain ⟨n, p, q, ks, fs, rfl, _⟩ := h
    rfl
  · exact pss_cons (ps_for PassesOwn.never rfl (pi_enum (by rfl) nenu (pa_cons (pv 1) pa_nil)) (pg_tup rfl (pgs_cons (pg_name (i := 3) scIsR.nd rfl (Or.inl rfl)) (pgs_cons (pg_name (i := 4) scIsR.nd rfl (Or.inl rfl)) pgs_nil)))
        (pss_cons (ps_set (i := 5) scIsR.nd rfl (Or.inl rfl) (pe_ix ix_list (pv 2) (pv 3) (fun _ _ => rfl)))
        (pss_cons (ps_if (pt_cmpR op_gt (pe_op op_add (pv 5) (pe_fld (pv 4) rfl)) (pv 0) (nomark _)) (pss_one (ps_ret pe_bl)) pss_nil)
        (pss_one (ps_for PassesOwn.never rfl (pi_range1 rfl T.rng (pa_cons (pv 3) pa_nil)) (pg_name (i := 6) scIsR.nd rfl (Or.inl rfl))
          (pss_one (ps_if (pt_val (pe_call GO hr rfl gO kO bO .nil pass0 (pa_cons (pv 4) (pa_cons (pv 5) (pa_cons (pe_ix ix_list (pv 1) (pv 6) (fun _ _ => rfl)) (pa_cons (pe_ix ix_list (pv 2) (pv 6) (fun _ _ => rfl)) pa_nil))))))
            (pss_one (ps_ret pe_bl)) pss_nil)))))))
      (pss_one (ps_ret pe_bl))
theorem ok_least {f fO c Tb : Addr} {fd fdO : FuncData} (F : Fun K "least_free_first" "least_free_first" sLeast f fd) (T : Txt K mg C) (hcode : fd.code = .ref c) (TB : LamX.TabB base mg c Tb) (nsrt : mg "sorted" = none) (gO : mg "collide" = some (.ref fO)) (kO : PySem.W.keepIn K (.ref fO) = true)
    (GO : FnOk P w K mg base CX0 2 fO fdO ["booking", "first", "other", "other_first"] (spColl C)) (bO : Binds K fdO ["booking", "first", "other", "other_first"] []) : FnOk P w K mg base CX0 3 f fd ["booking", "placed"] (spLeast C [(Tb, lamQ)]) := by
  refine fun_okC F hcode scLeast (fun vs H Q E h => ?_) (fun A outer s H vs Q E hr h => ⟨t_least K C [(Tb, lamQ)], ?_, pure_least T vs H Q E h⟩)
  · obtain ⟨b, p, k, zs, rfl, _⟩ := h
    rfl
  · exact pss_cons (ps_set (i := 2) scLeast.nd rfl (Or.inl rfl) pe_int)
      (pss_cons (ps_for PassesOwn.never rfl (pi_list (pe_sortL (c := c) (P := Tb) (x := "pair") (sndBy (fun _ _ _ _ _ _ => rfl) ⟨_, _, _, _, rfl⟩ (by decide +kernel)) TB rfl (List.mem_singleton.mpr rfl) (fun p hp _ => by rw [List.mem_singleton.mp hp]; rfl) rfl (by decide +kernel) (room_depth hr) rfl nsrt (pv 1)))
          (pg_tup rfl (pgs_cons (pg_name (i := 3) scLeast.nd rfl (Or.inl rfl)) (pgs_cons (pg_name (i := 4) scLeast.nd rfl (Or.inl rfl)) pgs_nil)))
        (pss_one (ps_if (pt_val (pe_call GO hr rfl gO kO bO .nil pass0 (pa_cons (pv 0) (pa_cons (pv 2) (pa_cons (pv 3) (pa_cons (pv 4) pa_nil)))))) (pss_one (ps_set (i := 2) scLeast.nd rfl (Or.inl rfl) (pe_op op_add (pv 4) (pe_fld (pv 3) rfl)))) pss_nil)))
      (pss_one (ps_ret (pv 2))))
theorem ok_fit {f fL Tb : Addr} {fd fdL : FuncData} (F : Fun K "fits_in_order" "fits_in_order" sFits f fd) (T : Txt K mg C) (nlst : mg "list" = none) (gL : mg "least_free_first" = some (.ref fL)) (kL : PySem.W.keepIn K (.ref fL) = true)
    (GL : FnOk P w K mg base CX0 3 fL fdL ["booking", "placed"] (spLeast C [(Tb, lamQ)])) (bL : Binds K fdL ["booking", "placed"] []) : FnOk P w K mg base CX0 4 f fd ["lanes", "placed", "order"] (spFits C [(Tb, lamQ)]) := by
  refine F.ok scFits (fun vs H Q E h => ?_) (fun cdv A outer s H vs Q E hr h => ⟨t_fits K C [(Tb, lamQ)], ?_, pure_fits T vs H Q E h⟩)
  · obtain ⟨n, p, o, zs, bs, rfl, _⟩ := h
    rfl
  · exact pss_cons (ps_set (i := 3) scFits.nd rfl (Or.inl rfl) (pe_callTy call_list_of (by rfl) nlst boot_list_ (pa_cons (pv 1) pa_nil)))
      (pss_cons (ps_for PassesOwn.never rfl (pi_list (pv 2)) (pg_name (i := 4) scFits.nd rfl (Or.inl rfl))
        (pss_cons (ps_set (i := 5) scFits.nd rfl (Or.inl rfl) (pe_call GL hr rfl gL kL bL .nil pass0 (pa_cons (pv 4) (pa_cons (pv 3) pa_nil))))
        (pss_cons (ps_if (pt_cmpR op_gt (pe_op op_add (pv 5) (pe_fld (pv 4) rfl)) (pv 0) (nomark _)) (pss_one (ps_ret pe_bl)) pss_nil)
        (pss_one (ps_expr (pe_bm PySem.F.plainAttrs_list PySem.F.slot_list_append PySem.F.type_list_append mt_append (pv 3) (pa_cons (pe_tup (pa_cons (pv 4) (pa_cons (pv 5) pa_nil))) pa_nil)))))))
      (pss_one (ps_ret pe_bl)))
theorem ok_orders {f : Addr} {fd : FuncData} (F : Fun K "all_orders" "all_orders" sOrders f fd) (T : Txt K mg C) : FnOk P w K mg base CX0 1 f fd ["bookings"] (spOrders K) := by
  refine F.ok scOrders (fun vs H Q E h => ?_) (fun cdv A outer s H vs Q E hr h => ⟨t_orders K, ?_, pure_orders vs H Q E h⟩)
  · obtain ⟨p, xs, rfl, _⟩ := h
    rfl
  · exact pss_cons (ps_set (i := 1) scOrders.nd rfl (Or.inl rfl) (pe_lst (pa_cons (pe_lst pa_nil) pa_nil)))
      (pss_cons (ps_for PassesOwn.never rfl (pi_list (pv 0)) (pg_name (i := 2) scOrders.nd rfl (Or.inl rfl))
        (pss_cons (ps_set (i := 3) scOrders.nd rfl (Or.inl rfl) (pe_lst pa_nil))
        (pss_cons (ps_for PassesOwn.never rfl (pi_list (pv 1)) (pg_name (i := 4) scOrders.nd rfl (Or.inl rfl))
          (pss_one (ps_for PassesOwn.never rfl (pi_range1 rfl T.rng (pa_cons (pe_op op_add (pe_callB call_len_seq (by rfl) T.len PySem.boot_len (pa_cons (pv 4) pa_nil)) pe_int) pa_nil)) (pg_name (i := 5) scOrders.nd rfl (Or.inl rfl))
            (pss_one (ps_expr (pe_bm PySem.F.plainAttrs_list PySem.F.slot_list_append PySem.F.type_list_append mt_append (pv 3) (pa_cons (pe_op op_cat (pe_op op_cat (pe_slice sl_list (pv 4) po_none (po_some (pv 5))) (pe_lst (pa_cons (pv 2) pa_nil))) (pe_slice sl_list (pv 4) (po_some (pv 5)) po_none)) pa_nil)))))))
        (pss_one (ps_set (i := 1) scOrders.nd rfl (Or.inl rfl) (pv 3))))))
      (pss_one (ps_ret (pv 1))))
theorem ok_has {f fI fO fF Tb : Addr} {fd fdI fdO fdF : FuncData} (F : Fun K "has_way" "has_way" sHas f fd) (T : Txt K mg C) (nlst : mg "list" = none) (nzip : mg "zip" = none)
    (gI : mg "is_right" = some (.ref fI)) (kI : PySem.W.keepIn K (.ref fI) = true) (GI : FnOk P w K mg base CX0 3 fI fdI ["lanes", "bookings", "firsts"] (spIsR K C)) (bI : Binds K fdI ["lanes", "bookings", "firsts"] [])
    (gO : mg "all_orders" = some (.ref fO)) (kO : PySem.W.keepIn K (.ref fO) = true) (GO : FnOk P w K mg base CX0 1 fO fdO ["bookings"] (spOrders K)) (bO : Binds K fdO ["bookings"] [])
    (gF : mg "fits_in_order" = some (.ref fF)) (kF : PySem.W.keepIn K (.ref fF) = true) (GF : FnOk P w K mg base CX0 4 fF fdF ["lanes", "placed", "order"] (spFits C [(Tb, lamQ)])) (bF : Binds K fdF ["lanes", "placed", "order"] []) :
    FnOk P w K mg base CX0 5 f fd ["lanes", "bookings", "firsts"] (spHas C [(Tb, lamQ)]) := by
  refine F.ok scHas (fun vs H Q E h => ?_) (fun cdv A outer s H vs Q E hr h => ⟨t_has K C [(Tb, lamQ)], ?_, pure_has vs H Q E h⟩)
  · obtain ⟨n, p, q, ks, fs, rfl, _⟩ := h
    rfl
  · have hr1 : Room 1 _ := hr.mono (by decide)
    have hr3 : Room 3 _ := hr.mono (by decide)
    exact pss_cons (ps_set (i := 3) scHas.nd rfl (Or.inl rfl) (pe_slice sl_list (pv 1) po_none (po_some (pe_callB call_len_seq (by rfl) T.len PySem.boot_len (pa_cons (pv 2) pa_nil)))))
      (pss_cons (ps_if (pt_not (pt_val (pe_call GI hr3 rfl gI kI bI .nil pass0 (pa_cons (pv 0) (pa_cons (pv 3) (pa_cons (pv 2) pa_nil)))))) (pss_one (ps_ret pe_bl)) pss_nil)
      (pss_cons (ps_set (i := 4) scHas.nd rfl (Or.inl rfl) (pe_listZip rfl rfl nlst rfl nzip (pa_cons (pv 3) (pa_cons (pv 2) pa_nil))))
      (pss_cons (ps_for PassesOwn.never rfl (pi_list (pe_call GO hr1 rfl gO kO bO .nil pass0 (pa_cons (pe_slice sl_list (pv 1) (po_some (pe_callB call_len_seq (by rfl) T.len PySem.boot_len (pa_cons (pv 2) pa_nil))) po_none) pa_nil))) (pg_name (i := 5) scHas.nd rfl (Or.inl rfl))
        (pss_one (ps_if (pt_val (pe_call GF hr rfl gF kF bF .nil pass0 (pa_cons (pv 0) (pa_cons (pv 4) (pa_cons (pv 5) pa_nil))))) (pss_one (ps_ret pe_bl)) pss_nil)))
      (pss_one (ps_ret pe_bl)))))
theorem ok_moreH {f fI fW Tb : Addr} {fd fdI fdW : FuncData} (F : Fun K "hours_for_one_more" "hours_for_one_more" sMoreH f fd) (T : Txt K mg C) (M : Mk K C fI) (bI : Binds K fdI ["self", "begin", "end", "wide"] [])
    (FI : Fun K "__init__" "Booking.__init__" sInit fI fdI) (gW : mg "has_way" = some (.ref fW)) (kW : PySem.W.keepIn K (.ref fW) = true)
    (GW : FnOk P w K mg base CX0 5 fW fdW ["lanes", "bookings", "firsts"] (spHas C [(Tb, lamQ)])) (bW : Binds K fdW ["lanes", "bookings", "firsts"] []) : FnOk P w K mg base CX0 6 f fd ["lanes", "wide", "bookings"] (spMoreH C [(Tb, lamQ)]) := by
  have GI : FnOk P w K mg base CX0 1 fI fdI ["self", "begin", "end", "wide"] (spInit C) := ok_init FI T
  refine F.ok scMoreH (fun vs H Q E h => ?_) (fun cdv A outer s H vs Q E hr h => ⟨t_moreH C [(Tb, lamQ)], ?_, pure_moreH vs H Q E h⟩)
  · obtain ⟨n, v, p, ks, rfl, _⟩ := h
    rfl
  · have hr2 : Room 2 _ := hr.mono (by decide)
    exact pss_one (ps_ret (pe_lc (own := [("hour", 3)]) (g := gName 3) rfl scMoreH.nd
        (pi_range1 rfl T.rng (pa_cons (pe_num T.lae rfl) pa_nil))
        (blkOk_by (own := [("hour", 3)]) (N := ["lanes", "wide", "bookings", "hour"]) (sc := defScope sMoreH) (by decide +kernel))
        (fun _ _ _ _ _ => pg_name (i := 3) scMoreH.nd rfl (Or.inl rfl))
        (fun _ _ _ _ _ => pts_one (pt_val (pe_call GW hr rfl gW kW bW .nil pass0 (pa_cons (pv 0) (pa_cons (pe_op op_cat (pv 2) (pe_lst (pa_cons
          (pe_make M GI hr2 rfl T.gC bI .nil pass0 (pa_cons (pv 3) (pa_cons (pe_op op_add (pv 3) pe_int) (pa_cons (pv 1) pa_nil)))) pa_nil))) (pa_cons (pe_lst pa_nil) pa_nil))))))
        (fun _ _ _ _ _ => pv 3)))
theorem ok_lanes {f : Addr} {fd : FuncData} (F : Fun K "are_lanes_as_told" "are_lanes_as_told" sLanes f fd) : FnOk P w K mg base CX0 1 f fd ["lanes", "most"] spLanes := by
  refine F.ok scLanes (fun vs H Q E h => ?_) (fun cdv A outer s H vs Q E hr h => ⟨t_lanes, ?_, pure_lanes vs H Q E h⟩)
  · obtain ⟨n, m, rfl, _⟩ := h
    rfl
  · exact pss_one (ps_ret (pe_chain op_le op_le pe_int (pv 0) (pv 1)))
theorem ok_more {f fA fN fX fW fM fR Tb : Addr} {fd fdA fdN fdX fdW fdM fdR : FuncData} (F : Fun K "more" "more" sMore f fd) (T : Txt K mg C)
    (gA : mg "are_as_told" = some (.ref fA)) (kA : PySem.W.keepIn K (.ref fA) = true) (GA : FnOk P w K mg base CX0 4 fA fdA ["numbers"] (spAre K)) (bA : Binds K fdA ["numbers"] [])
    (gN : mg "are_lanes_as_told" = some (.ref fN)) (kN : PySem.W.keepIn K (.ref fN) = true) (GN : FnOk P w K mg base CX0 1 fN fdN ["lanes", "most"] spLanes) (bN : Binds K fdN ["lanes", "most"] []) (mom : Num mg "MOST_LANES_OF_MORE" 12)
    (gX : mg "is_width_as_told" = some (.ref fX)) (kX : PySem.W.keepIn K (.ref fX) = true) (GX : FnOk P w K mg base CX0 1 fX fdX ["wide"] spWidth) (bX : Binds K fdX ["wide"] [])
    (gR : mg "read_bookings" = some (.ref fR)) (kR : PySem.W.keepIn K (.ref fR) = true) (GR : FnOk P w K mg base CX0 3 fR fdR ["numbers"] (spRead K C)) (bR : Binds K fdR ["numbers"] [])
    (gW : mg "has_way" = some (.ref fW)) (kW : PySem.W.keepIn K (.ref fW) = true) (GW : FnOk P w K mg base CX0 5 fW fdW ["lanes", "bookings", "firsts"] (spHas C [(Tb, lamQ)])) (bW : Binds K fdW ["lanes", "bookings", "firsts"] [])
    (gM : mg "hours_for_one_more" = some (.ref fM)) (kM : PySem.W.keepIn K (.ref fM) = true) (GM : FnOk P w K mg base CX0 6 fM fdM ["lanes", "wide", "bookings"] (spMoreH C [(Tb, lamQ)])) (bM : Binds K fdM ["lanes", "wide", "bookings"] []) :
    FnOk P w K mg base CX0 7 f fd ["lanes", "wide", "bookings"] (spMoreT K Tb) := by
  refine F.ok scMore (fun vs H Q E h => ?_) (fun cdv A outer s H vs Q E hr h => ⟨t_more K C [(Tb, lamQ)], ?_, pure_more vs H Q E h⟩)
  · obtain ⟨n, v, a, ns, rfl, _⟩ := h
    rfl
  · have hr1 : Room 1 _ := hr.mono (by decide)
    have hr3 : Room 3 _ := hr.mono (by decide)
    have hr4 : Room 4 _ := hr.mono (by decide)
    have hr5 : Room 5 _ := hr.mono (by decide)
    exact pss_cons (ps_if (PW.pt (pw_or (pt_not (pt_val (pe_call GA hr4 rfl gA kA bA .nil pass0 (pa_cons (pv 2) pa_nil)))) (pw_or (pt_not (pt_val (pe_call GN hr1 rfl gN kN bN .nil pass0 (pa_cons (pv 0) (pa_cons (pe_num mom rfl) pa_nil)))))
          (pw_or1 (pt_not (pt_val (pe_call GX hr1 rfl gX kX bX .nil pass0 (pa_cons (pv 1) pa_nil))))))))
        (pss_one (ps_ret (pe_lst (pa_cons (pe_un un_neg pe_int) pa_nil)))) pss_nil)
      (pss_cons (ps_set (i := 3) scMore.nd rfl (Or.inl rfl) (pe_call GR hr3 rfl gR kR bR .nil pass0 (pa_cons (pv 2) pa_nil)))
      (pss_cons (ps_if (pt_cmpR op_eq (pe_callB call_len_seq (by rfl) T.len PySem.boot_len (pa_cons (pv 3) pa_nil)) (pe_num T.mob rfl) (nomark _)) (pss_one (ps_ret (pe_lst (pa_cons (pe_un un_neg pe_int) pa_nil)))) pss_nil)
      (pss_cons (ps_if (pt_not (pt_val (pe_call GW hr5 rfl gW kW bW .nil pass0 (pa_cons (pv 0) (pa_cons (pv 3) (pa_cons (pe_lst pa_nil) pa_nil)))))) (pss_one (ps_ret (pe_lst (pa_cons (pe_un un_neg pe_int) pa_nil)))) pss_nil)
      (pss_cons (ps_set (i := 4) scMore.nd rfl (Or.inl rfl) (pe_call GM hr rfl gM kM bM .nil pass0 (pa_cons (pv 0) (pa_cons (pv 1) (pa_cons (pv 3) pa_nil)))))
      (pss_one (ps_ret (pe_op op_cat (pe_lst (pa_cons (pe_callB call_len_seq (by rfl) T.len PySem.boot_len (pa_cons (pv 4) pa_nil)) pa_nil)) (pv 4))))))))
end
end Lb
set_option Elab.async false
set_option maxRecDepth 100000
set_option maxHeartbeats 2000000

namespace Lb
open PySem PySem.Spec PyProof.Rows L2 Evl
open PySem.W (Codec)
theorem all_mk {P : Program} {w : World} {K : PySem.W.Frag} {h : Heap} {mg : Str → Option Value} {fa C c Tb f1 f2 f3 f4 f5 f6 f7 f8 f9 f10 f11 f12 f13 f14 f15 f16 : Addr} (X : K.In h) (G : h.Ns mainGlobals mg) (hfa : mg "more" = some (.ref fa))
    {occ : Value} {odc : Option Addr} {vsc : Array Value} {slc : Array (Option Value)}
    {od1 an1 od2 an2 od3 an3 od4 an4 od5 an5 od6 an6 od7 an7 od8 an8 od9 an9 od10 an10 od11 an11 od12 an12 od13 an13 od14 an14 od15 an15 od16 an16 : Option Addr} {sl1 sl2 sl3 sl4 sl5 sl6 sl7 sl8 sl9 sl10 sl11 sl12 sl13 sl14 sl15 sl16 : Array (Option Value)} {oc1 kV1 dc1 pm1 cd1 ct1 oc2 kV2 dc2 pm2 cd2 ct2 oc3 kV3 dc3 pm3 cd3 ct3 oc4 kV4 dc4 pm4 cd4 ct4 oc5 kV5 dc5 pm5 cd5 ct5 oc6 kV6 dc6 pm6 cd6 ct6 oc7 kV7 dc7 pm7 cd7 ct7 oc8 kV8 dc8 pm8 cd8 ct8 oc9 kV9 dc9 pm9 cd9 ct9 oc10 kV10 dc10 pm10 cd10 ct10 oc11 kV11 dc11 pm11 cd11 ct11 oc12 kV12 dc12 pm12 cd12 ct12 oc13 kV13 dc13 pm13 cd13 ct13 oc14 kV14 dc14 pm14 cd14 ct14 oc15 kV15 dc15 pm15 cd15 ct15 oc16 kV16 dc16 pm16 cd16 ct16 : Value} {tk0 tk1 tk2 tk3 tk4 : Tok}
    (aC : PySem.W.nsIn K mainGlobals "Booking" = some (some (.ref C)))
    (a1 : PySem.W.findIn K (.ref C) "__init__" = some (some (.ref f1)))
    (i1 : PySem.W.isFn K (.ref f1) = true)
    (l1 : K.lookup f1 = some ⟨oc1, od1, .func (PySem.W.fnOf "__init__" "Booking.__init__" (defArgs sInit) (defBody sInit) (defScope sInit) .none kV1 dc1 pm1 an1 cd1 ct1), sl1⟩)
    (c1 : PySem.W.codeIn K cd1 "Booking.__init__" = true)
    (k1 : PySem.W.keepIn K (.ref f1) = true)
    (a2 : PySem.W.nsIn K mainGlobals "is_width_as_told" = some (some (.ref f2)))
    (l2 : K.lookup f2 = some ⟨oc2, od2, .func (PySem.W.fnOf "is_width_as_told" "is_width_as_told" (defArgs sWidth) (defBody sWidth) (defScope sWidth) .none kV2 dc2 pm2 an2 cd2 ct2), sl2⟩)
    (c2 : PySem.W.codeIn K cd2 "is_width_as_told" = true)
    (k2 : PySem.W.keepIn K (.ref f2) = true)
    (a3 : PySem.W.findIn K (.ref C) "is_as_told" = some (some (.ref f3)))
    (i3 : PySem.W.isFn K (.ref f3) = true)
    (l3 : K.lookup f3 = some ⟨oc3, od3, .func (PySem.W.fnOf "is_as_told" "Booking.is_as_told" (defArgs sTold) (defBody sTold) (defScope sTold) .none kV3 dc3 pm3 an3 cd3 ct3), sl3⟩)
    (c3 : PySem.W.codeIn K cd3 "Booking.is_as_told" = true)
    (k3 : PySem.W.keepIn K (.ref f3) = true)
    (a4 : PySem.W.findIn K (.ref C) "shares_hour_with" = some (some (.ref f4)))
    (i4 : PySem.W.isFn K (.ref f4) = true)
    (l4 : K.lookup f4 = some ⟨oc4, od4, .func (PySem.W.fnOf "shares_hour_with" "Booking.shares_hour_with" (defArgs sShares) (defBody sShares) (defScope sShares) .none kV4 dc4 pm4 an4 cd4 ct4), sl4⟩)
    (c4 : PySem.W.codeIn K cd4 "Booking.shares_hour_with" = true)
    (k4 : PySem.W.keepIn K (.ref f4) = true)
    (a5 : PySem.W.nsIn K mainGlobals "read_bookings" = some (some (.ref f5)))
    (l5 : K.lookup f5 = some ⟨oc5, od5, .func (PySem.W.fnOf "read_bookings" "read_bookings" (defArgs sRead) (defBody sRead) (defScope sRead) .none kV5 dc5 pm5 an5 cd5 ct5), sl5⟩)
    (c5 : PySem.W.codeIn K cd5 "read_bookings" = true)
    (k5 : PySem.W.keepIn K (.ref f5) = true)
    (a6 : PySem.W.nsIn K mainGlobals "are_as_told" = some (some (.ref f6)))
    (l6 : K.lookup f6 = some ⟨oc6, od6, .func (PySem.W.fnOf "are_as_told" "are_as_told" (defArgs sAre) (defBody sAre) (defScope sAre) .none kV6 dc6 pm6 an6 cd6 ct6), sl6⟩)
    (c6 : PySem.W.codeIn K cd6 "are_as_told" = true)
    (k6 : PySem.W.keepIn K (.ref f6) = true)
    (a7 : PySem.W.nsIn K mainGlobals "share_lane" = some (some (.ref f7)))
    (l7 : K.lookup f7 = some ⟨oc7, od7, .func (PySem.W.fnOf "share_lane" "share_lane" (defArgs sShare) (defBody sShare) (defScope sShare) .none kV7 dc7 pm7 an7 cd7 ct7), sl7⟩)
    (c7 : PySem.W.codeIn K cd7 "share_lane" = true)
    (k7 : PySem.W.keepIn K (.ref f7) = true)
    (a8 : PySem.W.nsIn K mainGlobals "collide" = some (some (.ref f8)))
    (l8 : K.lookup f8 = some ⟨oc8, od8, .func (PySem.W.fnOf "collide" "collide" (defArgs sColl) (defBody sColl) (defScope sColl) .none kV8 dc8 pm8 an8 cd8 ct8), sl8⟩)
    (c8 : PySem.W.codeIn K cd8 "collide" = true)
    (k8 : PySem.W.keepIn K (.ref f8) = true)
    (a9 : PySem.W.nsIn K mainGlobals "is_right" = some (some (.ref f9)))
    (l9 : K.lookup f9 = some ⟨oc9, od9, .func (PySem.W.fnOf "is_right" "is_right" (defArgs sIsR) (defBody sIsR) (defScope sIsR) .none kV9 dc9 pm9 an9 cd9 ct9), sl9⟩)
    (c9 : PySem.W.codeIn K cd9 "is_right" = true)
    (k9 : PySem.W.keepIn K (.ref f9) = true)
    (a10 : PySem.W.nsIn K mainGlobals "least_free_first" = some (some (.ref f10)))
    (l10 : K.lookup f10 = some ⟨oc10, od10, .func (PySem.W.fnOf "least_free_first" "least_free_first" (defArgs sLeast) (defBody sLeast) (defScope sLeast) .none kV10 dc10 pm10 an10 cd10 ct10), sl10⟩)
    (c10 : PySem.W.codeIn K cd10 "least_free_first" = true)
    (k10 : PySem.W.keepIn K (.ref f10) = true)
    (a11 : PySem.W.nsIn K mainGlobals "fits_in_order" = some (some (.ref f11)))
    (l11 : K.lookup f11 = some ⟨oc11, od11, .func (PySem.W.fnOf "fits_in_order" "fits_in_order" (defArgs sFits) (defBody sFits) (defScope sFits) .none kV11 dc11 pm11 an11 cd11 ct11), sl11⟩)
    (c11 : PySem.W.codeIn K cd11 "fits_in_order" = true)
    (k11 : PySem.W.keepIn K (.ref f11) = true)
    (a12 : PySem.W.nsIn K mainGlobals "all_orders" = some (some (.ref f12)))
    (l12 : K.lookup f12 = some ⟨oc12, od12, .func (PySem.W.fnOf "all_orders" "all_orders" (defArgs sOrders) (defBody sOrders) (defScope sOrders) .none kV12 dc12 pm12 an12 cd12 ct12), sl12⟩)
    (c12 : PySem.W.codeIn K cd12 "all_orders" = true)
    (k12 : PySem.W.keepIn K (.ref f12) = true)
    (a13 : PySem.W.nsIn K mainGlobals "has_way" = some (some (.ref f13)))
    (l13 : K.lookup f13 = some ⟨oc13, od13, .func (PySem.W.fnOf "has_way" "has_way" (defArgs sHas) (defBody sHas) (defScope sHas) .none kV13 dc13 pm13 an13 cd13 ct13), sl13⟩)
    (c13 : PySem.W.codeIn K cd13 "has_way" = true)
    (k13 : PySem.W.keepIn K (.ref f13) = true)
    (a14 : PySem.W.nsIn K mainGlobals "hours_for_one_more" = some (some (.ref f14)))
    (l14 : K.lookup f14 = some ⟨oc14, od14, .func (PySem.W.fnOf "hours_for_one_more" "hours_for_one_more" (defArgs sMoreH) (defBody sMoreH) (defScope sMoreH) .none kV14 dc14 pm14 an14 cd14 ct14), sl14⟩)
    (c14 : PySem.W.codeIn K cd14 "hours_for_one_more" = true)
    (k14 : PySem.W.keepIn K (.ref f14) = true)
    (a15 : PySem.W.nsIn K mainGlobals "are_lanes_as_told" = some (some (.ref f15)))
    (l15 : K.lookup f15 = some ⟨oc15, od15, .func (PySem.W.fnOf "are_lanes_as_told" "are_lanes_as_told" (defArgs sLanes) (defBody sLanes) (defScope sLanes) .none kV15 dc15 pm15 an15 cd15 ct15), sl15⟩)
    (c15 : PySem.W.codeIn K cd15 "are_lanes_as_told" = true)
    (k15 : PySem.W.keepIn K (.ref f15) = true)
    (a16 : PySem.W.nsIn K mainGlobals "more" = some (some (.ref f16)))
    (l16 : K.lookup f16 = some ⟨oc16, od16, .func (PySem.W.fnOf "more" "more" (defArgs sMore) (defBody sMore) (defScope sMore) .none kV16 dc16 pm16 an16 cd16 ct16), sl16⟩)
    (c16 : PySem.W.codeIn K cd16 "more" = true)
    (k16 : PySem.W.keepIn K (.ref f16) = true)
    (pg : PySem.W.plainGet K C Str.empty = true)
    (hd : PySem.W.hasDictIn K C = true)
    (po : PySem.W.plainOver K C = true)
    (sa : PySem.W.findIn K (.ref C) "__setattr__" = some (some (.builtin "object.__setattr__")))
    (mk : PySem.W.makesIn K C = true)
    (kc : PySem.W.keepIn K (.ref C) = true)
    (n_begin : PySem.W.findIn K (.ref C) "begin" = some none)
    (n_end : PySem.W.findIn K (.ref C) "end" = some none)
    (n_wide : PySem.W.findIn K (.ref C) "wide" = some none)
    (u_NUMBERS_OF_EACH : PySem.W.nsIn K mainGlobals "NUMBERS_OF_EACH" = some (some (.int 3 tk0)))
    (u_MOST_BOOKINGS : PySem.W.nsIn K mainGlobals "MOST_BOOKINGS" = some (some (.int 6 tk1)))
    (u_LAST_END : PySem.W.nsIn K mainGlobals "LAST_END" = some (some (.int 12 tk2)))
    (u_WIDEST : PySem.W.nsIn K mainGlobals "WIDEST" = some (some (.int 8 tk3)))
    (u_MOST_LANES_OF_MORE : PySem.W.nsIn K mainGlobals "MOST_LANES_OF_MORE" = some (some (.int 12 tk4)))
    (b_len : PySem.W.nsIn K mainGlobals "len" = some none)
    (b_all : PySem.W.nsIn K mainGlobals "all" = some none)
    (b_range : PySem.W.nsIn K mainGlobals "range" = some none)
    (b_enumerate : PySem.W.nsIn K mainGlobals "enumerate" = some none)
    (b_sorted : PySem.W.nsIn K mainGlobals "sorted" = some none)
    (b_list : PySem.W.nsIn K mainGlobals "list" = some none)
    (b_zip : PySem.W.nsIn K mainGlobals "zip" = some none)
    (t_code : cd10 = .ref c)
    (t_look : K.lookup c = some ⟨occ, odc, .fields vsc, slc⟩)
    (t_fld : vsc[11]? = some (.ref Tb))
    (t_none : K.lookup Tb = none) :
    ∃ (fd : FuncData) (c Tb : Addr), PySem.W.tabIn K "least_free_first" = some (c, Tb) ∧ K.lookup Tb = none ∧ (∀ (s : Shared) (us : List Value), us.length = (["lanes", "wide", "bookings"] : List Str).length → BindsTo s fd ⟨us, []⟩ ((["lanes", "wide", "bookings"] : List Str).zip us)) ∧ ∀ base : Heap, K.In base → base.Ns mainGlobals mg → LamX.TabB base mg c Tb → FnOk P w K mg base CX0 7 fa fd ["lanes", "wide", "bookings"] (spMoreT K Tb) := by
  have e := hfa.symm.trans (PySem.W.mg_of X G a16)
  cases e
  subst t_code
  have tb : PySem.W.tabIn K "least_free_first" = some (c, Tb) := by
    unfold PySem.W.tabIn
    rw [a10]
    dsimp only
    rw [l10]
    dsimp only
    rw [t_look]
    dsimp only
    rw [t_fld]
  have F1 := fun_mk (st := sInit) l1 c1 k1
  have b1 := F1.binds (ps := ["self", "begin", "end", "wide"]) fun _ _ _ _ _ _ us hl => match us, hl with | [_, _, _, _], _ => rfl
  have F2 := fun_mk (st := sWidth) l2 c2 k2
  have b2 := F2.binds (ps := ["wide"]) fun _ _ _ _ _ _ us hl => match us, hl with | [_], _ => rfl
  have g2 := PySem.W.mg_of X G a2
  have F3 := fun_mk (st := sTold) l3 c3 k3
  have b3 := F3.binds (ps := ["self"]) fun _ _ _ _ _ _ us hl => match us, hl with | [_], _ => rfl
  have F4 := fun_mk (st := sShares) l4 c4 k4
  have b4 := F4.binds (ps := ["self", "other"]) fun _ _ _ _ _ _ us hl => match us, hl with | [_, _], _ => rfl
  have F5 := fun_mk (st := sRead) l5 c5 k5
  have b5 := F5.binds (ps := ["numbers"]) fun _ _ _ _ _ _ us hl => match us, hl with | [_], _ => rfl
  have g5 := PySem.W.mg_of X G a5
  have F6 := fun_mk (st := sAre) l6 c6 k6
  have b6 := F6.binds (ps := ["numbers"]) fun _ _ _ _ _ _ us hl => match us, hl with | [_], _ => rfl
  have g6 := PySem.W.mg_of X G a6
  have F7 := fun_mk (st := sShare) l7 c7 k7
  have b7 := F7.binds (ps := ["booking", "first", "other", "other_first"]) fun _ _ _ _ _ _ us hl => match us, hl with | [_, _, _, _], _ => rfl
  have g7 := PySem.W.mg_of X G a7
  have F8 := fun_mk (st := sColl) l8 c8 k8
  have b8 := F8.binds (ps := ["booking", "first", "other", "other_first"]) fun _ _ _ _ _ _ us hl => match us, hl with | [_, _, _, _], _ => rfl
  have g8 := PySem.W.mg_of X G a8
  have F9 := fun_mk (st := sIsR) l9 c9 k9
  have b9 := F9.binds (ps := ["lanes", "bookings", "firsts"]) fun _ _ _ _ _ _ us hl => match us, hl with | [_, _, _], _ => rfl
  have g9 := PySem.W.mg_of X G a9
  have F10 := fun_mk (st := sLeast) l10 c10 k10
  have b10 := F10.binds (ps := ["booking", "placed"]) fun _ _ _ _ _ _ us hl => match us, hl with | [_, _], _ => rfl
  have g10 := PySem.W.mg_of X G a10
  have F11 := fun_mk (st := sFits) l11 c11 k11
  have b11 := F11.binds (ps := ["lanes", "placed", "order"]) fun _ _ _ _ _ _ us hl => match us, hl with | [_, _, _], _ => rfl
  have g11 := PySem.W.mg_of X G a11
  have F12 := fun_mk (st := sOrders) l12 c12 k12
  have b12 := F12.binds (ps := ["bookings"]) fun _ _ _ _ _ _ us hl => match us, hl with | [_], _ => rfl
  have g12 := PySem.W.mg_of X G a12
  have F13 := fun_mk (st := sHas) l13 c13 k13
  have b13 := F13.binds (ps := ["lanes", "bookings", "firsts"]) fun _ _ _ _ _ _ us hl => match us, hl with | [_, _, _], _ => rfl
  have g13 := PySem.W.mg_of X G a13
  have F14 := fun_mk (st := sMoreH) l14 c14 k14
  have b14 := F14.binds (ps := ["lanes", "wide", "bookings"]) fun _ _ _ _ _ _ us hl => match us, hl with | [_, _, _], _ => rfl
  have g14 := PySem.W.mg_of X G a14
  have F15 := fun_mk (st := sLanes) l15 c15 k15
  have b15 := F15.binds (ps := ["lanes", "most"]) fun _ _ _ _ _ _ us hl => match us, hl with | [_, _], _ => rfl
  have g15 := PySem.W.mg_of X G a15
  have F16 := fun_mk (st := sMore) l16 c16 k16
  have b16 := F16.binds (ps := ["lanes", "wide", "bookings"]) fun _ _ _ _ _ _ us hl => match us, hl with | [_, _, _], _ => rfl
  have g16 := PySem.W.mg_of X G a16
  have T : Txt K mg C := ⟨⟨pg, hd, po, sa⟩, n_begin, n_end, n_wide, PySem.W.mg_of X G aC, ⟨_, PySem.W.mg_of X G u_NUMBERS_OF_EACH⟩, ⟨_, PySem.W.mg_of X G u_MOST_BOOKINGS⟩, ⟨_, PySem.W.mg_of X G u_LAST_END⟩, ⟨_, PySem.W.mg_of X G u_WIDEST⟩, PySem.W.mg_none_of X G b_len, PySem.W.mg_none_of X G b_all, PySem.W.mg_none_of X G b_range⟩
  have fin := fun (base : Heap) (TB : LamX.TabB base mg c Tb) => by
    have GR := ok_read (P := P) (w := w) (mg := mg) (base := base) F5 T ⟨mk, a1, i1, kc⟩ b1 F1
    have GWd := ok_width (P := P) (w := w) (mg := mg) (base := base) F2 T
    have GA := ok_are (P := P) (w := w) (base := base) F6 T g5 k5 GR b5 (ok_told F3 T g2 k2 GWd b2) b3 ⟨a3, i3, k3⟩
    have GO := ok_coll (P := P) (w := w) (base := base) F8 T g7 k7 (ok_share F7 T) b7 (ok_shares F4 T) b4 ⟨a4, i4, k4⟩
    have GI := ok_isr (P := P) (w := w) (base := base) F9 T (PySem.W.mg_none_of X G b_enumerate) g8 k8 GO b8
    have GL := ok_least (P := P) (w := w) (base := base) F10 T (PySem.W.law_code X G tb (PySem.W.mg_of X G a10) (X _ _ l10) rfl) TB (PySem.W.mg_none_of X G b_sorted) g8 k8 GO b8
    have GF := ok_fit (P := P) (w := w) (base := base) F11 T (PySem.W.mg_none_of X G b_list) g10 k10 GL b10
    have GW := ok_has (P := P) (w := w) (base := base) F13 T (PySem.W.mg_none_of X G b_list) (PySem.W.mg_none_of X G b_zip) g9 k9 GI b9 g12 k12 (ok_orders F12 T) b12 g11 k11 GF b11
    have GH := ok_moreH (P := P) (w := w) (base := base) F14 T ⟨mk, a1, i1, kc⟩ b1 F1 g13 k13 GW b13
    exact ok_more (P := P) (w := w) (base := base) F16 T g6 k6 GA b6 g15 k15 (ok_lanes F15) b15 ⟨_, PySem.W.mg_of X G u_MOST_LANES_OF_MORE⟩ g2 k2 GWd b2 g5 k5 GR b5 g13 k13 GW b13 g14 k14 GH b14
  exact ⟨PySem.W.fnOf "more" "more" (defArgs sMore) (defBody sMore) (defScope sMore) .none kV16 dc16 pm16 an16 cd16 ct16, c, Tb, tb, t_none, fun s us hu => match us, hu with | [_, _, _], _ => .of_eq rfl, fun base _ _ TB => fin base TB⟩
end Lb
open PySem PySem.W PyProof.Rows
set_option maxRecDepth 100000 in
set_option maxHeartbeats 0 in
theorem PySem.Challenge.cw_lanebookings_s05_more_holds : PySem.Challenge.rw_lanebookings_s05_more.Holds := by
  w_on; k_headS; (case hw => exact ⟨[.int 0, .int 0, .list []], by decide +kernel, by decide +kernel⟩)
  k_fillS
  refine Lb.walk_specT (r := PySem.Challenge.rw_lanebookings_s05_more) (k := 7) (CX := L2.CX0) (ps := ["lanes", "wide", "bookings"]) (x := "least_free_first") (sp := Lb.spMoreT) (by decide +kernel) rfl ⟨rfl, by decide, by decide⟩ (by decide +kernel) (fun w h Y => PySem.W.kIn_of Y) ?F ?S (fun _ _ _ _ z => z)
  case F =>
    intro w mg fa h Y KX G hmg
    refine' Lb.all_mk KX G hmg ?aC ?a1 ?i1 ?l1 ?c1 ?k1 ?a2 ?l2 ?c2 ?k2 ?a3 ?i3 ?l3 ?c3 ?k3 ?a4 ?i4 ?l4 ?c4 ?k4 ?a5 ?l5 ?c5 ?k5 ?a6 ?l6 ?c6 ?k6 ?a7 ?l7 ?c7 ?k7 ?a8 ?l8 ?c8 ?k8 ?a9 ?l9 ?c9 ?k9 ?a10 ?l10 ?c10 ?k10 ?a11 ?l11 ?c11 ?k11 ?a12 ?l12 ?c12 ?k12 ?a13 ?l13 ?c13 ?k13 ?a14 ?l14 ?c14 ?k14 ?a15 ?l15 ?c15 ?k15 ?a16 ?l16 ?c16 ?k16 ?pg ?hd ?po ?sa ?mk ?kc ?n_begin ?n_end ?n_wide ?u_NUMBERS_OF_EACH ?u_MOST_BOOKINGS ?u_LAST_END ?u_WIDEST ?u_MOST_LANES_OF_MORE ?b_len ?b_all ?b_range ?b_enumerate ?b_sorted ?b_list ?b_zip ?t_code ?t_look ?t_fld ?t_none
    (case aC => k_is)
    (case a1 => k_is)
    (case i1 => k_is)
    (case l1 => k_is)
    (case c1 => k_is)
    (case k1 => k_is)
    (case a2 => k_is)
    (case l2 => k_is)
    (case c2 => k_is)
    (case k2 => k_is)
    (case a3 => k_is)
    (case i3 => k_is)
    (case l3 => k_is)
    (case c3 => k_is)
    (case k3 => k_is)
    (case a4 => k_is)
    (case i4 => k_is)
    (case l4 => k_is)
    (case c4 => k_is)
    (case k4 => k_is)
    (case a5 => k_is)
    (case l5 => k_is)
    (case c5 => k_is)
    (case k5 => k_is)
    (case a6 => k_is)
    (case l6 => k_is)
    (case c6 => k_is)
    (case k6 => k_is)
    (case a7 => k_is)
    (case l7 => k_is)
    (case c7 => k_is)
    (case k7 => k_is)
    (case a8 => k_is)
    (case l8 => k_is)
    (case c8 => k_is)
    (case k8 => k_is)
    (case a9 => k_is)
    (case l9 => k_is)
    (case c9 => k_is)
    (case k9 => k_is)
    (case a10 => k_is)
    (case l10 => k_is)
    (case c10 => k_is)
    (case k10 => k_is)
    (case a11 => k_is)
    (case l11 => k_is)
    (case c11 => k_is)
    (case k11 => k_is)
    (case a12 => k_is)
    (case l12 => k_is)
    (case c12 => k_is)
    (case k12 => k_is)
    (case a13 => k_is)
    (case l13 => k_is)
    (case c13 => k_is)
    (case k13 => k_is)
    (case a14 => k_is)
    (case l14 => k_is)
    (case c14 => k_is)
    (case k14 => k_is)
    (case a15 => k_is)
    (case l15 => k_is)
    (case c15 => k_is)
    (case k15 => k_is)
    (case a16 => k_is)
    (case l16 => k_is)
    (case c16 => k_is)
    (case k16 => k_is)
    (case pg => k_is)
    (case hd => k_is)
    (case po => k_is)
    (case sa => k_is)
    (case mk => k_is)
    (case kc => k_is)
    (case n_begin => k_is)
    (case n_end => k_is)
    (case n_wide => k_is)
    (case u_NUMBERS_OF_EACH => k_is)
    (case u_MOST_BOOKINGS => k_is)
    (case u_LAST_END => k_is)
    (case u_WIDEST => k_is)
    (case u_MOST_LANES_OF_MORE => k_is)
    (case b_len => k_is)
    (case b_all => k_is)
    (case b_range => k_is)
    (case b_enumerate => k_is)
    (case b_sorted => k_is)
    (case b_list => k_is)
    (case b_zip => k_is)
    (case t_code => rfl)
    (case t_look => k_is)
    (case t_fld => rfl)
    (case t_none => kernel_rfl)
  case S =>
    intro K Tb H xs a hT hwi hask hx
    obtain ⟨n, v, ns, u⟩ := a
    have q : (Codec.inInt 0 4294967295 n && (Codec.inInt 0 4294967295 v && ((Codec.inLen 0 24 ns && ns.all (Codec.inInt 0 4294967295)) && true))) = true := hwi
    rw [Bool.and_eq_true, Bool.and_eq_true, Bool.and_eq_true, Bool.and_eq_true] at q
    obtain ⟨q1, q4, ⟨q2, q3⟩, _⟩ := q
    cases hx with
    | cons h1 h2 =>
      cases h2 with
      | cons h2 h3 =>
        cases h3 with
        | cons h3 h4 =>
          cases h4
          cases h1
          cases h2
          cases h3 with
          | lst hs2 ha2 =>
            have e2 := L2.ints_dw ns _ ha2
            subst e2
            exact ⟨n, v, _, ns, rfl, hs2, (Codec.inNat_iff.mp q2).2, (Codec.inInt_iff.mp q1).1, (Codec.inInt_iff.mp q4).1, fun x hx => (Codec.inInt_iff.mp (List.all_eq_true.mp q3 x hx)).1, (fun pr hp => by rw [List.mem_singleton.mp hp]; exact LamX.TabS.nil hT), fun H' p hp => .lst (L2.SqL.of hp) (L2.dw_ints _)⟩
#print axioms PySem.Challenge.cw_lanebookings_s05_more_holds
