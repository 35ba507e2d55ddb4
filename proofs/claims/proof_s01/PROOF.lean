import PyProof.Rows.All
import Wide.All
import OpenK.AllK
import Wide.FinOn
import Open.SpecLaws
import KE.OsGo
import HandS.ForSpec
import HandS.TupSets
import HandS.SortRule
import HandS.ForMost
import HandS.ListItems
import HandS.Zip
import HandS.Rev
import KE.KDictZip
import KE.KDictList
import KE.KRevIter
import HandS.Style
import HandS.DictTup
import KE.KDictWalk
import KE.KDictDisplayH
import PySem.Challenge.RW_cornerfigures_s01_answers
set_option Elab.async false
set_option linter.all false
namespace Cf
open Rc60 (cross square)
abbrev Pt := Int × Int

/-! ## chains: what holds between neighbours -/
def Ch {α : Type} (R : α → α → Prop) : List α → Prop
  | a :: b :: r => R a b ∧ Ch R (b :: r)
  | _ => True
theorem Ch.tl {α : Type} {R : α → α → Prop} {a : α} {l : List α} (h : Ch R (a :: l)) : Ch R l := by
  cases l with
  | nil => trivial
  | cons b r => exact h.2
theorem Ch.snoc {α : Type} {R : α → α → Prop} {a b : α} : ∀ {l : List α}, Ch R (l ++ [a]) → R a b → Ch R (l ++ [a, b])
  | [], _, h => ⟨h, trivial⟩
  | [c], h1, h => ⟨h1.1, h, trivial⟩
  | c :: d :: l, h1, h => ⟨h1.1, Ch.snoc (l := d :: l) h1.2 h⟩
theorem Ch.rev {α : Type} {R : α → α → Prop} : ∀ {l : List α}, Ch R l → Ch (fun a b => R b a) l.reverse
  | [], _ => trivial
  | [_], _ => trivial
  | a :: b :: r, h => by
    have ih := Ch.rev (l := b :: r) h.2
    rw [List.reverse_cons] at ih
    rw [List.reverse_cons, List.reverse_cons, List.append_assoc]
    exact Ch.snoc ih h.1
theorem Ch.imp {α : Type} {R S : α → α → Prop} (k : ∀ a b, R a b → S a b) : ∀ {l : List α}, Ch R l → Ch S l
  | [], _ => trivial
  | [_], _ => trivial
  | _ :: _ :: _, h => ⟨k _ _ h.1, Ch.imp k h.2⟩
theorem Ch.imp_mem {α : Type} {R S : α → α → Prop} : ∀ {l : List α}, (∀ a b, a ∈ l → b ∈ l → R a b → S a b) → Ch R l → Ch S l
  | [], _, _ => trivial
  | [_], _, _ => trivial
  | a :: b :: r, k, h => ⟨k _ _ (by simp) (by simp) h.1, Ch.imp_mem (l := b :: r) (fun x y hx hy => k x y (List.mem_cons_of_mem _ hx) (List.mem_cons_of_mem _ hy)) h.2⟩
theorem Ch.map {α β : Type} {R : α → α → Prop} {S : β → β → Prop} {f : α → β} (k : ∀ a b, R a b → S (f a) (f b)) : ∀ {l : List α}, Ch R l → Ch S (l.map f)
  | [], _ => trivial
  | [_], _ => trivial
  | _ :: _ :: _, h => ⟨k _ _ h.1, Ch.map (l := _ :: _) k h.2⟩
/-- two chains that meet -/
theorem Ch.meet {α : Type} {R : α → α → Prop} : ∀ {l m : List α}, Ch R l → Ch R m → (∀ h : l ≠ [], m.head? = some (l.getLast h)) → Ch R (l ++ m.tail)
  | [], m, _, h, _ => by
    rw [List.nil_append]
    cases m with
    | nil => trivial
    | cons b r => exact h.tl
  | [a], m, _, h, e => by
    cases m with
    | nil => trivial
    | cons b r =>
      have : b = a := Option.some.inj (e (by simp))
      subst this
      exact h
  | a :: b :: r, m, h1, h, e => ⟨h1.1, Ch.meet (l := b :: r) h1.2 h fun q => by
      have := e (by simp)
      rw [List.getLast_cons (by simp)] at this
      exact this⟩

/-! ## the order of points -/
def Lt (a b : Pt) : Prop := a.1 < b.1 ∨ (a.1 = b.1 ∧ a.2 < b.2)
theorem Lt.trans {a b c : Pt} (h : Lt a b) (k : Lt b c) : Lt a c := by unfold Lt at *; omega
theorem Lt.irr {a : Pt} (h : Lt a a) : False := by unfold Lt at h; omega
theorem Lt.ne {a b : Pt} (h : Lt a b) : a ≠ b := fun e => by subst e; exact h.irr
theorem lt_tri (a b : Pt) : Lt a b ∨ a = b ∨ Lt b a := by
  obtain ⟨a1, a2⟩ := a
  obtain ⟨b1, b2⟩ := b
  unfold Lt
  simp only [Prod.mk.injEq]
  omega

/-! ## vectors to the right -/
theorem wt {u1 u2 v1 v2 w1 w2 : Int} (hu : 0 < u1 ∨ (u1 = 0 ∧ 0 ≤ u2)) (hv : 0 < v1 ∨ (v1 = 0 ∧ 0 < v2)) (hw : 0 < w1 ∨ (w1 = 0 ∧ 0 ≤ w2))
    (h1 : 0 ≤ u1 * v2 - u2 * v1) (h2 : 0 ≤ v1 * w2 - v2 * w1) : 0 ≤ u1 * w2 - u2 * w1 := by
  have id1 : (u1 * w2 - u2 * w1) * v1 = (v1 * w2 - v2 * w1) * u1 + (u1 * v2 - u2 * v1) * w1 := by grind
  rcases hv with hv | ⟨e, hv⟩
  · have a1 : 0 ≤ (v1 * w2 - v2 * w1) * u1 := Int.mul_nonneg h2 (by omega)
    have a2 : 0 ≤ (u1 * v2 - u2 * v1) * w1 := Int.mul_nonneg h1 (by omega)
    rw [← Int.add_zero 0] at *
    have a3 : 0 ≤ (u1 * w2 - u2 * w1) * v1 := by omega
    exact Int.nonneg_of_mul_nonneg_left a3 hv
  · subst e
    have b1 : w1 = 0 := by
      rcases hw with hw | hw
      · have : 0 < v2 * w1 := Int.mul_pos hv hw
        omega
      · exact hw.1
    subst b1
    have b2 : 0 ≤ w2 := by omega
    have b3 : 0 ≤ u1 * w2 := Int.mul_nonneg (by omega) b2
    omega
theorem st_aux {P Q u1 u2 w1 w2 : Int} (hu : 0 < u1 ∨ (u1 = 0 ∧ 0 < u2)) (hw : 0 < w1 ∨ (w1 = 0 ∧ 0 < w2)) (hP : 0 ≤ P) (hQ : 0 ≤ Q)
    (e1 : Q * u1 + P * w1 = 0) (e2 : Q * u2 + P * w2 = 0) (h : 0 < P) : False := by
  have a1 : 0 ≤ Q * u1 := Int.mul_nonneg hQ (by omega)
  rcases hw with hw | ⟨w0, hw⟩
  · have := Int.mul_pos h hw
    omega
  · have a2 := Int.mul_pos h hw
    subst w0
    have a3 : Q * u2 < 0 := by omega
    have hQ' : 0 < Q := by
      rcases Int.lt_or_eq_of_le hQ with c | c
      · exact c
      · subst c
        omega
    have u2n : u2 < 0 := by
      rcases Int.lt_or_le u2 0 with c | c
      · exact c
      · have := Int.mul_nonneg hQ c
        omega
    have := Int.mul_pos hQ' (show 0 < u1 by omega)
    omega
theorem st {u1 u2 v1 v2 w1 w2 : Int} (hu : 0 < u1 ∨ (u1 = 0 ∧ 0 < u2)) (hv : 0 < v1 ∨ (v1 = 0 ∧ 0 < v2)) (hw : 0 < w1 ∨ (w1 = 0 ∧ 0 < w2))
    (h1 : 0 ≤ u1 * v2 - u2 * v1) (h2 : 0 ≤ v1 * w2 - v2 * w1) (h3 : 0 < u1 * v2 - u2 * v1 ∨ 0 < v1 * w2 - v2 * w1) : 0 < u1 * w2 - u2 * w1 := by
  have w := wt (by omega) hv (by omega) h1 h2
  rcases Int.lt_or_eq_of_le w with c | c
  · exact c
  exfalso
  have id1 : (u1 * w2 - u2 * w1) * v1 = (v1 * w2 - v2 * w1) * u1 + (u1 * v2 - u2 * v1) * w1 := by grind
  have id2 : (u1 * w2 - u2 * w1) * v2 = (v1 * w2 - v2 * w1) * u2 + (u1 * v2 - u2 * v1) * w2 := by grind
  rw [← c, Int.zero_mul] at id1 id2
  rcases h3 with h3 | h3
  · exact st_aux hu hw h1 h2 id1.symm id2.symm h3
  · exact st_aux hw hu h2 h1 (by omega) (by omega) h3

/-! ## half of the way round: a stack, its top first -/
def popR : List Pt → Pt → List Pt
  | b :: a :: r, z => if cross a b z ≤ 0 then popR (a :: r) z else b :: a :: r
  | s, _ => s
def pushR (s : List Pt) (z : Pt) : List Pt := z :: popR s z
def halfR (ps : List Pt) : List Pt := ps.foldl pushR []
def half (ps : List Pt) : List Pt := (halfR ps).reverse

def Turns : List Pt → Prop
  | c :: b :: a :: r => 0 < cross a b c ∧ Turns (b :: a :: r)
  | _ => True
/-- all that is done lies to the left of each edge (the stack's lower one first) -/
abbrev Left (done : List Pt) : List Pt → Prop := Ch fun b a => ∀ c ∈ done, 0 ≤ cross a b c
abbrev Desc : List Pt → Prop := List.Pairwise fun a b => Lt b a
theorem Turns.tl {a : Pt} : ∀ {l : List Pt}, Turns (a :: l) → Turns l
  | [], _ => trivial
  | [_], _ => trivial
  | _ :: _ :: _, h => h.2
theorem pos_of {a b : Pt} (h : Lt a b) : 0 < b.1 - a.1 ∨ (b.1 - a.1 = 0 ∧ 0 < b.2 - a.2) := by unfold Lt at h; omega
theorem posz_of {a b : Pt} (h : a = b ∨ Lt a b) : 0 < b.1 - a.1 ∨ (b.1 - a.1 = 0 ∧ 0 ≤ b.2 - a.2) := by
  rcases h with h | h
  · subst h; omega
  · unfold Lt at h; omega
/-- a point that is to the left of the last two turns is so of all edges -/
theorem left_all : ∀ (r : List Pt) (b a z : Pt), Desc (b :: a :: r) → Turns (b :: a :: r) → Lt b z → 0 < cross a b z → Ch (fun y x => 0 ≤ cross x y z) (b :: a :: r)
  | [], b, a, z, _, _, _, h => ⟨Int.le_of_lt h, trivial⟩
  | p :: r, b, a, z, hd, ht, hz, h => by
    have hd2 := (List.pairwise_cons.mp hd).2
    have hab : Lt a b := (List.pairwise_cons.mp hd).1 a (by simp)
    have hpa : Lt p a := (List.pairwise_cons.mp hd2).1 p (by simp)
    have t1 : 0 < cross p a b := ht.1
    have k : 0 < cross p a z := by
      have q := st (pos_of hpa) (pos_of hab) (pos_of hz) (by unfold cross at t1; grind) (by unfold cross at h; grind) (.inl (by unfold cross at t1; grind))
      unfold cross at t1 ⊢
      grind
    exact ⟨Int.le_of_lt h, left_all r a p z hd2 ht.2 (hab.trans hz) k⟩
structure Popped (done st' : List Pt) (z : Pt) : Prop where
  ne : st' ≠ []
  turns : Turns (z :: st')
  left : Left (z :: done) (z :: st')
theorem left_z {done : List Pt} {z : Pt} {l : List Pt} (h : Left done l) (k : Ch (fun y x => 0 ≤ cross x y z) l) : Left (z :: done) l := by
  induction l with
  | nil => trivial
  | cons b r ih =>
    cases r with
    | nil => trivial
    | cons a r =>
      refine ⟨fun c hc => ?_, ih h.2 k.2⟩
      rcases List.mem_cons.mp hc with e | hc
      · rw [e]; exact k.1
      · exact h.1 c hc
theorem cross_end (t z : Pt) : cross t z z = 0 := by unfold cross; grind
theorem cross_start (t z : Pt) : cross t z t = 0 := by unfold cross; grind
theorem pop_ok {done : List Pt} {z : Pt} (hz : ∀ c ∈ done, Lt c z) : ∀ (r : List Pt) (t : Pt), Desc (t :: r) → Turns (t :: r) → Left done (t :: r) → (∀ c ∈ t :: r, c ∈ done) →
    (∀ c ∈ done, ∀ x ∈ (t :: r).getLast?, x = c ∨ Lt x c) → (∀ c ∈ done, (t = c ∨ Lt t c) → 0 ≤ cross t z c) → Popped done (popR (t :: r) z) z
  | [], t, _, _, _, _, hl, ht => by
    refine ⟨by simp [popR], trivial, ⟨fun c hc => ?_, trivial⟩⟩
    rcases List.mem_cons.mp hc with e | hc
    · rw [e, cross_end]; exact Int.le_refl _
    · exact ht c hc (hl c hc t (by simp))
  | a :: r, b, hd, htu, hle, hm, hl, ht => by
    have hab : Lt a b := (List.pairwise_cons.mp hd).1 a (by simp)
    have hd2 := (List.pairwise_cons.mp hd).2
    have hbz : Lt b z := hz b (hm b (by simp))
    have haz : Lt a z := hab.trans hbz
    by_cases c0 : cross a b z ≤ 0
    · have e : popR (b :: a :: r) z = popR (a :: r) z := if_pos c0
      rw [e]
      refine pop_ok hz r a hd2 htu.tl hle.tl (fun c hc => hm c (List.mem_cons_of_mem _ hc)) (fun c hc x hx => hl c hc x (by rw [List.getLast?_cons_cons]; exact hx)) fun c hc hac => ?_
      have q := wt (u1 := z.1 - a.1) (u2 := z.2 - a.2) (by have := pos_of haz; omega) (pos_of hab) (posz_of hac) (by unfold cross at c0; grind) (by have := hle.1 c hc; unfold cross at this; grind)
      unfold cross
      grind
    · have e : popR (b :: a :: r) z = b :: a :: r := if_neg c0
      have c1 : 0 < cross a b z := by omega
      rw [e]
      refine ⟨by simp, ⟨c1, htu⟩, ⟨fun c hc => ?_, left_z hle (left_all r b a z hd htu hbz c1)⟩⟩
      rcases List.mem_cons.mp hc with e | hc
      · rw [e, cross_end]; exact Int.le_refl _
      · rcases lt_tri b c with h | h | h
        · exact ht c hc (.inr h)
        · exact ht c hc (.inl h)
        · have q := wt (u1 := b.1 - c.1) (u2 := b.2 - c.2) (w1 := z.1 - b.1) (w2 := z.2 - b.2) (by have := pos_of h; omega) (pos_of hab) (by have := pos_of hbz; omega) (by have := hle.1 c hc; unfold cross at this; grind) (by unfold cross at c1; grind)
          unfold cross
          grind
theorem popR_sub (z : Pt) : ∀ (r : List Pt) (t : Pt), ∃ u, t :: r = u ++ popR (t :: r) z ∧ popR (t :: r) z ≠ []
  | [], t => ⟨[], rfl, by simp [popR]⟩
  | a :: r, b => by
    by_cases c0 : cross a b z ≤ 0
    · have e : popR (b :: a :: r) z = popR (a :: r) z := if_pos c0
      obtain ⟨u, hu, hn⟩ := popR_sub z r a
      rw [e]
      exact ⟨b :: u, by rw [List.cons_append, ← hu], hn⟩
    · have e : popR (b :: a :: r) z = b :: a :: r := if_neg c0
      rw [e]
      exact ⟨[], rfl, by simp⟩
/-- what the stack is behind some points, x0 the first of them -/
structure Half (done st : List Pt) (x0 : Pt) : Prop where
  desc : Desc st
  turns : Turns st
  left : Left done st
  sub : ∀ c ∈ st, c ∈ done
  low : st.getLast? = some x0
  high : ∃ t, st.head? = some t ∧ ∀ c ∈ done, c = t ∨ Lt c t
theorem half_step {done st : List Pt} {x0 z : Pt} (h : Half done st x0) (h0 : ∀ c ∈ done, x0 = c ∨ Lt x0 c) (hz : ∀ c ∈ done, Lt c z) : Half (z :: done) (pushR st z) x0 := by
  obtain ⟨t, e, hi⟩ := h.high
  cases st with
  | nil => cases e
  | cons t' r =>
    have : t' = t := Option.some.inj e
    subst this
    have p := pop_ok hz r t' h.desc h.turns h.left h.sub (fun c hc x hx => by
      have hx' := Option.mem_def.mp hx
      rw [h.low] at hx'
      rw [← Option.some.inj hx']
      exact h0 c hc) (fun c hc q => by
        have : t' = c := by
          rcases hi c hc with a | a
          · exact a.symm
          · rcases q with q | q
            · exact q
            · exact ((q.trans a).irr).elim
        rw [← this, cross_start]
        exact Int.le_refl _)
    obtain ⟨u, hu, hn⟩ := popR_sub z r t'
    have sub2 : ∀ c ∈ popR (t' :: r) z, c ∈ t' :: r := fun c hc => by rw [hu]; exact List.mem_append_right _ hc
    refine ⟨?_, p.turns, p.left, fun c hc => ?_, ?_, ⟨z, rfl, fun c hc => ?_⟩⟩
    · show Desc (z :: popR (t' :: r) z)
      refine List.pairwise_cons.mpr ⟨fun c hc => hz c (h.sub c (sub2 c hc)), ?_⟩
      have := h.desc
      rw [hu] at this
      exact (List.pairwise_append.mp this).2.1
    · rcases List.mem_cons.mp hc with q | q
      · rw [q]; exact List.mem_cons_self
      · exact List.mem_cons_of_mem _ (h.sub c (sub2 c q))
    · have l := h.low
      rw [hu, List.getLast?_append] at l
      show (z :: popR (t' :: r) z).getLast? = some x0
      cases q : popR (t' :: r) z with
      | nil => exact absurd q hn
      | cons y ys =>
        rw [q] at l
        rw [List.getLast?_cons_cons]
        rw [List.getLast?_cons] at l ⊢
        exact l
    · rcases List.mem_cons.mp hc with q | q
      · exact .inl q
      · exact .inr (hz c q)
abbrev Asc : List Pt → Prop := List.Pairwise Lt
theorem half_fold {x0 : Pt} : ∀ (rest done st : List Pt), Half done st x0 → (∀ c ∈ done, x0 = c ∨ Lt x0 c) → (∀ c ∈ done, ∀ z ∈ rest, Lt c z) → x0 ∈ done → Asc rest →
    ∃ d, Half d (rest.foldl pushR st) x0 ∧ ∀ c, c ∈ d ↔ c ∈ done ∨ c ∈ rest
  | [], done, st, h, _, _, _, _ => ⟨done, h, fun c => by simp⟩
  | z :: rest, done, st, h, h0, hz, hx, ha => by
    have h1 := half_step h h0 fun c hc => hz c hc z (by simp)
    obtain ⟨d, hd, hm⟩ := half_fold rest (z :: done) (pushR st z) h1 (fun c hc => by
        rcases List.mem_cons.mp hc with e | hc
        · rw [e]; exact .inr (hz x0 hx z (by simp))
        · exact h0 c hc) (fun c hc y hy => by
        rcases List.mem_cons.mp hc with e | hc
        · rw [e]; exact (List.pairwise_cons.mp ha).1 y hy
        · exact hz c hc y (List.mem_cons_of_mem _ hy)) (List.mem_cons_of_mem _ hx) (List.pairwise_cons.mp ha).2
    refine ⟨d, hd, fun c => ?_⟩
    rw [hm, List.mem_cons, List.mem_cons]
    constructor
    · rintro ((a | a) | a)
      · exact .inr (.inl a)
      · exact .inl a
      · exact .inr (.inr a)
    · rintro (a | a | a)
      · exact .inl (.inr a)
      · exact .inl (.inl a)
      · exact .inr a
theorem half_mono {d e st : List Pt} {x0 : Pt} (h : Half d st x0) (k : ∀ c, c ∈ d ↔ c ∈ e) : Half e st x0 := by
  refine ⟨h.desc, h.turns, h.left.imp fun a b q c hc => q c ((k c).mpr hc), fun c hc => (k c).mp (h.sub c hc), h.low, ?_⟩
  obtain ⟨t, e1, e2⟩ := h.high
  exact ⟨t, e1, fun c hc => e2 c ((k c).mpr hc)⟩
theorem halfR_ok {x0 : Pt} {r : List Pt} (ha : Asc (x0 :: r)) : Half (x0 :: r) (halfR (x0 :: r)) x0 := by
  have h0 : Half [x0] [x0] x0 := ⟨List.pairwise_singleton _ _, trivial, trivial, fun _ h => h, rfl, ⟨x0, rfl, fun c hc => .inl (List.mem_singleton.mp hc)⟩⟩
  obtain ⟨d, hd, hm⟩ := half_fold r [x0] [x0] h0 (fun c hc => .inl (List.mem_singleton.mp hc).symm) (fun c hc z hz => by
    rw [List.mem_singleton.mp hc]
    exact (List.pairwise_cons.mp ha).1 z hz) (by simp) (List.pairwise_cons.mp ha).2
  refine half_mono hd fun c => ?_
  rw [hm, List.mem_singleton, List.mem_cons]
end Cf

namespace Cf
open Rc60 (cross square wrap hullOf flat edges)

/-! ## the corner behind a corner -/
structure Nxt (ps : List Pt) (p q : Pt) : Prop where
  mem : q ∈ ps
  ne : q ≠ p
  all : ∀ c ∈ ps, c = p ∨ 0 < cross p q c ∨ (cross p q c = 0 ∧ square p c ≤ square p q ∧ 0 < (q.1 - p.1) * (c.1 - p.1) + (q.2 - p.2) * (c.2 - p.2))
theorem Nxt.left {ps : List Pt} {p q c : Pt} (h : Nxt ps p q) (hc : c ∈ ps) : 0 ≤ cross p q c := by
  rcases h.all c hc with e | e | e
  · subst e
    rw [cross_start]
    exact Int.le_refl _
  · omega
  · omega
theorem sq_zero {x : Int} (h : x * x ≤ 0) : x = 0 := by
  rcases Int.lt_trichotomy x 0 with c | c | c
  · have := Int.mul_pos_of_neg_of_neg c c
    omega
  · exact c
  · have := Int.mul_pos c c
    omega
theorem sq_nn (x : Int) : 0 ≤ x * x := by
  rcases Int.le_total 0 x with c | c
  · exact Int.mul_nonneg c c
  · exact Int.mul_nonneg_of_nonpos_of_nonpos c c
theorem sq_pos {x : Int} (h : x ≠ 0) : 0 < x * x := by
  have := sq_nn x
  rcases Int.lt_or_eq_of_le this with c | c
  · exact c
  · exact absurd (sq_zero (by omega)) h
theorem sq_le {a b : Int} (ha : 0 ≤ a) (h : a * a ≤ b * b) (hb : 0 ≤ b) : a ≤ b := by
  rcases Int.lt_or_le b a with c | c
  · have h2 : b * b < a * a := by
      have h1 : b * b ≤ b * a := Int.mul_le_mul_of_nonneg_left (Int.le_of_lt c) hb
      have h2 : b * a < a * a := Int.mul_lt_mul_of_pos_right c (by omega)
      omega
    omega
  · exact c
/-- of one direction and one length -/
theorem same_vec {v1 v2 w1 w2 : Int} (hx : v1 * w2 - v2 * w1 = 0) (hs : v1 * v1 + v2 * v2 = w1 * w1 + w2 * w2) (hd : 0 < v1 * w1 + v2 * w2) : v1 = w1 ∧ v2 = w2 := by
  have e : (v1 * w1 + v2 * w2) * (v1 * w1 + v2 * w2) = (w1 * w1 + w2 * w2) * (w1 * w1 + w2 * w2) := by
    have e1 : (v1 * w1 + v2 * w2) * (v1 * w1 + v2 * w2) = (v1 * v1 + v2 * v2) * (w1 * w1 + w2 * w2) - (v1 * w2 - v2 * w1) * (v1 * w2 - v2 * w1) := by grind
    rw [e1, hx, hs]
    omega
  have n1 := sq_nn w1
  have n2 := sq_nn w2
  have a1 := sq_le (by omega) (Int.le_of_eq e) (by omega)
  have a2 := sq_le (by omega) (Int.le_of_eq e.symm) (by omega)
  have d : v1 * w1 + v2 * w2 = w1 * w1 + w2 * w2 := Int.le_antisymm a1 a2
  have z : (v1 - w1) * (v1 - w1) + (v2 - w2) * (v2 - w2) = 0 := by
    have : (v1 - w1) * (v1 - w1) + (v2 - w2) * (v2 - w2) = (v1 * v1 + v2 * v2) + (w1 * w1 + w2 * w2) - 2 * (v1 * w1 + v2 * w2) := by grind
    rw [this, hs, d]
    omega
  have m1 := sq_nn (v1 - w1)
  have m2 := sq_nn (v2 - w2)
  have z1 := sq_zero (x := v1 - w1) (by omega)
  have z2 := sq_zero (x := v2 - w2) (by omega)
  omega
theorem Nxt.uniq {ps : List Pt} {p q q' : Pt} (h : Nxt ps p q) (h' : Nxt ps p q') : q = q' := by
  have a := h.left h'.mem
  have b := h'.left h.mem
  have e : cross p q q' = - cross p q' q := by unfold cross; grind
  have z : cross p q q' = 0 := by omega
  have z' : cross p q' q = 0 := by omega
  rcases h.all q' h'.mem with c | c | c
  · exact absurd c h'.ne
  · omega
  rcases h'.all q h.mem with d | d | d
  · exact absurd d h.ne
  · omega
  have hs := Int.le_antisymm c.2.1 d.2.1
  unfold square at hs
  unfold cross at z
  have k := same_vec (v1 := q.1 - p.1) (v2 := q.2 - p.2) (w1 := q'.1 - p.1) (w2 := q'.2 - p.2) z (by grind) c.2.2
  exact Prod.ext (by omega) (by omega)
/-- the specification's test -/
abbrev tst (ps : List Pt) (p q : Pt) : Bool := q != p && ps.all fun (c : Pt) => c == p || decide (0 < cross p q c) || (cross p q c == 0 && decide (square p c ≤ square p q) && decide (0 < (q.1 - p.1) * (c.1 - p.1) + (q.2 - p.2) * (c.2 - p.2)))
theorem tst_iff {ps : List Pt} {p q : Pt} : tst ps p q = true ↔ q ≠ p ∧ ∀ c ∈ ps, c = p ∨ 0 < cross p q c ∨ (cross p q c = 0 ∧ square p c ≤ square p q ∧ 0 < (q.1 - p.1) * (c.1 - p.1) + (q.2 - p.2) * (c.2 - p.2)) := by
  simp [tst, or_assoc, and_assoc]
theorem wrap_step {ps : List Pt} {s p q : Pt} {n : Nat} (h : Nxt ps p q) : wrap ps s (n + 1) p = if q == s then [p] else p :: wrap ps s n q := by
  have e : ps.find? (tst ps p) = some q := by
    cases f : ps.find? (tst ps p) with
    | none =>
      have := List.find?_eq_none.mp f q h.mem
      exact absurd (tst_iff.mpr ⟨h.ne, h.all⟩) this
    | some q' =>
      have t := tst_iff.mp (List.find?_some f)
      have h' : Nxt ps p q' := ⟨List.mem_of_find?_eq_some f, t.1, t.2⟩
      rw [h.uniq h']
  show (match ps.find? (tst ps p) with
    | none => []
    | some q => if q == s then [p] else p :: wrap ps s n q) = _
  rw [e]
theorem wrap_run {ps : List Pt} {s : Pt} : ∀ (l : List Pt) (p : Pt) (n : Nat), l.length < n → Ch (Nxt ps) (p :: l ++ [s]) → (∀ c ∈ l, c ≠ s) → wrap ps s n p = p :: l
  | [], p, 0, hn, _, _ => absurd hn (Nat.not_lt_zero _)
  | [], p, n + 1, _, h, _ => by
    rw [wrap_step h.1, if_pos (beq_self_eq_true s)]
  | q :: l, p, 0, hn, _, _ => absurd hn (Nat.not_lt_zero _)
  | q :: l, p, n + 1, hn, h, hs => by
    rw [wrap_step (q := q) h.1, if_neg (by simpa using hs q (by simp)), wrap_run l q n (by simpa using hn) h.2 fun c hc => hs c (List.mem_cons_of_mem _ hc)]

/-! ## the chain's edges are such -/
theorem collin_le {v1 v2 w1 w2 : Int} (hv : 0 < v1 ∨ (v1 = 0 ∧ 0 < v2)) (hw : 0 < w1 ∨ (w1 = 0 ∧ 0 < w2)) (hx : v1 * w2 - v2 * w1 = 0) (hl : w1 < v1 ∨ (w1 = v1 ∧ w2 ≤ v2)) :
    w1 * w1 + w2 * w2 ≤ v1 * v1 + v2 * v2 ∧ 0 < v1 * w1 + v2 * w2 := by
  rcases hv with hv | ⟨hv, hv2⟩
  · have hw1 : 0 < w1 := by
      rcases hw with hw | ⟨hw, hw2⟩
      · exact hw
      · subst hw
        have := Int.mul_pos hv hw2
        omega
    have hle : w1 ≤ v1 := by omega
    have e1 : v1 * w2 = v2 * w1 := by omega
    have sq1 : w1 * w1 ≤ v1 * v1 := Int.mul_le_mul hle hle (by omega) (by omega)
    have e2 : (w2 * w2) * (v1 * v1) = (v2 * v2) * (w1 * w1) := by grind
    have sq2 : w2 * w2 ≤ v2 * v2 := by
      have a : (v2 * v2) * (w1 * w1) ≤ (v2 * v2) * (v1 * v1) := Int.mul_le_mul_of_nonneg_left sq1 (sq_nn v2)
      rw [← e2] at a
      exact Int.le_of_mul_le_mul_right a (Int.mul_pos hv hv)
    refine ⟨by omega, ?_⟩
    have e3 : (v1 * w1 + v2 * w2) * v1 = w1 * (v1 * v1 + v2 * v2) := by grind
    have p1 : 0 < w1 * (v1 * v1 + v2 * v2) := Int.mul_pos hw1 (by have := Int.mul_pos hv hv; have := sq_nn v2; omega)
    rw [← e3] at p1
    exact Int.pos_of_mul_pos_left p1 hv
  · subst hv
    have hw1 : w1 = 0 := by
      rcases hw with hw | hw
      · have := Int.mul_pos hv2 hw
        omega
      · exact hw.1
    subst hw1
    have h2 : 0 < w2 := by omega
    have h3 : w2 ≤ v2 := by omega
    have := Int.mul_le_mul h3 h3 (by omega) (by omega)
    have := Int.mul_pos hv2 h2
    omega
theorem nxt_of {ps : List Pt} {a b : Pt} (hab : Lt a b) (hm : b ∈ ps) (hl : ∀ c ∈ ps, 0 ≤ cross a b c) (lo : ∀ c ∈ ps, Lt c a → 0 < cross a b c) (hi : ∀ c ∈ ps, Lt b c → 0 < cross a b c) : Nxt ps a b := by
  refine ⟨hm, fun e => by subst e; exact hab.irr, fun c hc => ?_⟩
  rcases lt_tri c a with h | h | h
  · exact .inr (.inl (lo c hc h))
  · exact .inl h
  rcases lt_tri b c with k | k | k
  · exact .inr (.inl (hi c hc k))
  · subst k
    have z : cross a b b = 0 := cross_end a b
    right; right
    have q := collin_le (pos_of hab) (pos_of hab) (by grind) (.inr ⟨rfl, Int.le_refl _⟩)
    exact ⟨z, Int.le_refl _, q.2⟩
  · rcases Int.lt_or_eq_of_le (hl c hc) with z | z
    · exact .inr (.inl z)
    · right; right
      refine ⟨z.symm, ?_⟩
      have q := collin_le (v1 := b.1 - a.1) (v2 := b.2 - a.2) (w1 := c.1 - a.1) (w2 := c.2 - a.2) (pos_of hab) (pos_of h) (by unfold cross at z; omega) (by unfold Lt at k; omega)
      refine ⟨?_, q.2⟩
      unfold square
      have := q.1
      grind
/-- above a left turn -/
theorem above {a b d c : Pt} (hab : Lt a b) (hbd : Lt b d) (hbc : Lt b c) (t : 0 < cross a b d) (l : 0 ≤ cross b d c) : 0 < cross a b c := by
  have q := st (pos_of hab) (pos_of hbd) (pos_of hbc) (by unfold cross at t; grind) (by unfold cross at l; grind) (.inl (by unfold cross at t; grind))
  unfold cross
  grind
theorem below {p a b c : Pt} (hpa : Lt p a) (hab : Lt a b) (hca : Lt c a) (t : 0 < cross p a b) (l : 0 ≤ cross p a c) : 0 < cross a b c := by
  have q := st (u1 := a.1 - c.1) (u2 := a.2 - c.2) (pos_of hca) (pos_of hpa) (pos_of hab) (by unfold cross at l; grind) (by unfold cross at t; grind) (.inr (by unfold cross at t; grind))
  unfold cross
  grind
theorem nxt_all {ps : List Pt} : ∀ (st : List Pt) (d : Option Pt), Desc (d.toList ++ st) → Turns (d.toList ++ st) → Left ps (d.toList ++ st) → (∀ c ∈ st, c ∈ ps) →
    (d = none → ∀ t, st.head? = some t → ∀ c ∈ ps, c = t ∨ Lt c t) → (∀ x, st.getLast? = some x → ∀ c ∈ ps, x = c ∨ Lt x c) → Ch (fun b a => Nxt ps a b) st
  | [], _, _, _, _, _, _, _ => trivial
  | [_], _, _, _, _, _, _, _ => trivial
  | b :: a :: r, d, hd, ht, hl, hm, hhi, hlo => by
    have hd1 : Desc (b :: a :: r) := (List.pairwise_append.mp hd).2.1
    have ht1 : Turns (b :: a :: r) := by
      cases d with
      | none => exact ht
      | some d => exact ht.tl
    have hl1 : Left ps (b :: a :: r) := by
      cases d with
      | none => exact hl
      | some d => exact hl.tl
    have hab : Lt a b := (List.pairwise_cons.mp hd1).1 a (by simp)
    refine ⟨nxt_of hab (hm b (by simp)) hl1.1 (fun c hc hca => ?_) (fun c hc hbc => ?_), nxt_all (a :: r) (some b) hd1 ht1 hl1 (fun c hc => hm c (List.mem_cons_of_mem _ hc)) (fun q => nomatch q) fun x hx => hlo x (by rw [List.getLast?_cons_cons]; exact hx)⟩
    · cases r with
      | nil =>
        rcases hlo a rfl c hc with e | e
        · rw [e] at hca; exact hca.irr.elim
        · exact (e.trans hca).irr.elim
      | cons p r =>
        have hpa : Lt p a := (List.pairwise_cons.mp (List.pairwise_cons.mp hd1).2).1 p (by simp)
        exact below hpa hab hca ht1.1 (hl1.2.1 c hc)
    · cases d with
      | none =>
        rcases hhi rfl b rfl c hc with e | e
        · rw [e] at hbc; exact hbc.irr.elim
        · exact (e.trans hbc).irr.elim
      | some d =>
        have hbd : Lt b d := (List.pairwise_cons.mp hd).1 b (by simp)
        exact above hab hbd hbc ht.1 (hl.1 c hc)
theorem half_nxt {x0 : Pt} {r : List Pt} (ha : Asc (x0 :: r)) : Ch (Nxt (x0 :: r)) (half (x0 :: r)) := by
  have h := halfR_ok ha
  have q := nxt_all (ps := x0 :: r) (halfR (x0 :: r)) none h.desc h.turns h.left h.sub (fun _ t ht c hc => by
    obtain ⟨t', e1, e2⟩ := h.high
    rw [ht] at e1
    rw [Option.some.inj e1]
    exact e2 c hc) fun x hx c hc => by
      rw [h.low] at hx
      rw [← Option.some.inj hx]
      rcases List.mem_cons.mp hc with e | e
      · exact .inl e.symm
      · exact .inr ((List.pairwise_cons.mp ha).1 c e)
  exact q.rev
end Cf

namespace Cf
open Rc60 (cross square wrap hullOf flat edges)

/-! ## the other half: all turned round -/
def ng (p : Pt) : Pt := (-p.1, -p.2)
theorem ng_ng (p : Pt) : ng (ng p) = p := by simp [ng]
theorem cross_ng (a b c : Pt) : cross (ng a) (ng b) (ng c) = cross a b c := by unfold cross ng; grind
theorem square_ng (a b : Pt) : square (ng a) (ng b) = square a b := by unfold square ng; grind
theorem lt_ng {a b : Pt} : Lt (ng a) (ng b) ↔ Lt b a := by unfold Lt ng; simp only []; omega
theorem popR_ng (z : Pt) : ∀ (r : List Pt) (t : Pt), popR ((t :: r).map ng) (ng z) = (popR (t :: r) z).map ng
  | [], _ => rfl
  | a :: r, b => by
    have e1 : popR ((b :: a :: r).map ng) (ng z) = if cross (ng a) (ng b) (ng z) ≤ 0 then popR ((a :: r).map ng) (ng z) else (b :: a :: r).map ng := rfl
    have e2 : popR (b :: a :: r) z = if cross a b z ≤ 0 then popR (a :: r) z else b :: a :: r := rfl
    rw [e1, e2, cross_ng, popR_ng z r a]
    split <;> rfl
theorem pushR_ng (st : List Pt) (z : Pt) : pushR (st.map ng) (ng z) = (pushR st z).map ng := by
  cases st with
  | nil => rfl
  | cons t r =>
    show ng z :: popR ((t :: r).map ng) (ng z) = _
    rw [popR_ng]
    rfl
theorem fold_ng : ∀ (l st : List Pt), (l.map ng).foldl pushR (st.map ng) = (l.foldl pushR st).map ng
  | [], _ => rfl
  | z :: l, st => by
    show (l.map ng).foldl pushR (pushR (st.map ng) (ng z)) = _
    rw [pushR_ng]
    exact fold_ng l (pushR st z)
theorem half_ng (l : List Pt) : half (l.map ng) = (half l).map ng := by
  show ((l.map ng).foldl pushR ([].map ng)).reverse = _
  rw [fold_ng l [], ← List.map_reverse]
  rfl
theorem nxt_ng {ps : List Pt} {p q : Pt} (h : Nxt (ps.map ng) (ng p) (ng q)) : Nxt ps p q := by
  have inj : ∀ {a b : Pt}, ng a = ng b → a = b := fun {a b} e => by rw [← ng_ng a, e, ng_ng]
  refine ⟨?_, fun e => h.ne (by rw [e]), fun c hc => ?_⟩
  · obtain ⟨a, ha, e⟩ := List.mem_map.mp h.mem
    rw [← inj e]
    exact ha
  · rcases h.all (ng c) (List.mem_map.mpr ⟨c, hc, rfl⟩) with e | e | e
    · exact .inl (inj e)
    · rw [cross_ng] at e
      exact .inr (.inl e)
    · rw [cross_ng, square_ng, square_ng] at e
      refine .inr (.inr ⟨e.1, e.2.1, ?_⟩)
      have := e.2.2
      unfold ng at this
      simp only [] at this
      grind
theorem Nxt.mono {ps qs : List Pt} {p q : Pt} (h : Nxt ps p q) (k : ∀ c, c ∈ ps ↔ c ∈ qs) : Nxt qs p q := ⟨(k q).mp h.mem, h.ne, fun c hc => h.all c ((k c).mpr hc)⟩

theorem Ch.unmap {α β : Type} {R : α → α → Prop} {S : β → β → Prop} {f : α → β} (k : ∀ a b, S (f a) (f b) → R a b) : ∀ {l : List α}, Ch S (l.map f) → Ch R l
  | [], _ => trivial
  | [_], _ => trivial
  | _ :: _ :: _, h => ⟨k _ _ h.1, Ch.unmap (l := _ :: _) k h.2⟩

/-! ## a half's ends -/
structure Up (ps lo : List Pt) (x0 xl : Pt) : Prop where
  asc : Asc lo
  head : lo.head? = some x0
  last : lo.getLast? = some xl
  sub : ∀ c ∈ lo, c ∈ ps
  ch : Ch (Nxt ps) lo
theorem up_ok {x0 : Pt} {r : List Pt} (ha : Asc (x0 :: r)) : ∃ xl, Up (x0 :: r) (half (x0 :: r)) x0 xl ∧ xl ∈ x0 :: r ∧ ∀ c ∈ x0 :: r, c = xl ∨ Lt c xl := by
  have h := halfR_ok ha
  obtain ⟨t, e1, e2⟩ := h.high
  refine ⟨t, ⟨?_, ?_, ?_, fun c hc => h.sub c (List.mem_reverse.mp hc), half_nxt ha⟩, h.sub t (List.mem_of_mem_head? (by rw [e1]; rfl)), e2⟩
  · exact List.pairwise_reverse.mpr h.desc
  · show (halfR (x0 :: r)).reverse.head? = _
    rw [List.head?_reverse]
    exact h.low
  · show (halfR (x0 :: r)).reverse.getLast? = _
    rw [List.getLast?_reverse]
    exact e1
structure Round (ps lo hi : List Pt) (x0 xl : Pt) : Prop where
  up : Asc lo
  dn : Desc hi
  lo0 : lo.head? = some x0
  lo1 : lo.getLast? = some xl
  hi0 : hi.head? = some xl
  hi1 : hi.getLast? = some x0
  cl : Ch (Nxt ps) lo
  ch : Ch (Nxt ps) hi
  sl : ∀ c ∈ lo, c ∈ ps
  sh : ∀ c ∈ hi, c ∈ ps
  min : ∀ c ∈ ps, x0 = c ∨ Lt x0 c
  max : ∀ c ∈ ps, c = xl ∨ Lt c xl
  lt : Lt x0 xl
theorem round_ok {x0 x1 : Pt} {r : List Pt} (ha : Asc (x0 :: x1 :: r)) : ∃ xl, Round (x0 :: x1 :: r) (half (x0 :: x1 :: r)) (half (x0 :: x1 :: r).reverse) x0 xl := by
  obtain ⟨xl, U, mxl, hmax⟩ := up_ok ha
  have hmin : ∀ c ∈ x0 :: x1 :: r, x0 = c ∨ Lt x0 c := fun c hc => by
    rcases List.mem_cons.mp hc with e | e
    · exact .inl e.symm
    · exact .inr ((List.pairwise_cons.mp ha).1 c e)
  have hlt : Lt x0 xl := by
    have h01 : Lt x0 x1 := (List.pairwise_cons.mp ha).1 x1 (by simp)
    rcases hmax x1 (by simp) with e | e
    · rw [← e]; exact h01
    · exact h01.trans e
  have hrev : Asc ((x0 :: x1 :: r).reverse.map ng) := by
    refine List.pairwise_map.mpr (List.pairwise_reverse.mpr (ha.imp fun h => ?_))
    exact lt_ng.mpr h
  obtain ⟨y0, yr, ey⟩ : ∃ y0 yr, (x0 :: x1 :: r).reverse.map ng = y0 :: yr := by
    cases q : (x0 :: x1 :: r).reverse.map ng with
    | nil => simp at q
    | cons a b => exact ⟨a, b, rfl⟩
  have mem : ∀ c, c ∈ (x0 :: x1 :: r).reverse.map ng ↔ ng c ∈ x0 :: x1 :: r := fun c => by
    rw [List.mem_map]
    constructor
    · rintro ⟨a, h, e⟩
      rw [← e, ng_ng]
      exact List.mem_reverse.mp h
    · intro h
      exact ⟨ng c, List.mem_reverse.mpr h, ng_ng c⟩
  rw [ey] at hrev
  obtain ⟨yl, V, myl, vmax⟩ := up_ok hrev
  rw [← ey] at V myl vmax
  rw [half_ng] at V
  have hy0 : y0 = ng xl := by
    have m0 : y0 ∈ (x0 :: x1 :: r).reverse.map ng := by rw [ey]; exact List.mem_cons_self
    rcases hmax (ng y0) ((mem y0).mp m0) with e | e
    · rw [← e, ng_ng]
    · exfalso
      have m1 : ng xl ∈ y0 :: yr := by rw [← ey]; exact (mem _).mpr (by rw [ng_ng]; exact mxl)
      have e' : Lt (ng xl) y0 := by
        have := lt_ng.mpr e
        rw [ng_ng] at this
        exact this
      rcases List.mem_cons.mp m1 with q | q
      · rw [q] at e'; exact e'.irr
      · exact (e'.trans ((List.pairwise_cons.mp hrev).1 _ q)).irr
  have hyl : yl = ng x0 := by
    rcases hmin (ng yl) ((mem yl).mp myl) with e | e
    · rw [e, ng_ng]
    · exfalso
      have e' : Lt yl (ng x0) := by
        have := lt_ng.mpr e
        rw [ng_ng] at this
        exact this
      rcases vmax (ng x0) ((mem _).mpr (by rw [ng_ng]; exact List.mem_cons_self)) with q | q
      · rw [q] at e'; exact e'.irr
      · exact (e'.trans q).irr
  have hinj : ∀ {l : List Pt} {o : Option Pt} {p : Pt}, o.map ng = some (ng p) → o = some p := fun {l o p} e => by
    cases o with
    | none => cases e
    | some a =>
      have := Option.some.inj e
      rw [← ng_ng a, this, ng_ng]
  refine ⟨xl, U.asc, ?_, U.head, U.last, ?_, ?_, U.ch, ?_, U.sub, ?_, hmin, hmax, hlt⟩
  · exact (List.pairwise_map.mp V.asc).imp fun h => lt_ng.mp h
  · have := V.head
    rw [List.head?_map, hy0] at this
    exact hinj (l := []) this
  · have := V.last
    rw [List.getLast?_map, hyl] at this
    exact hinj (l := []) this
  · have h1 : Ch (Nxt (x0 :: x1 :: r).reverse) (half (x0 :: x1 :: r).reverse) := Ch.unmap (R := Nxt (x0 :: x1 :: r).reverse) (f := ng) (fun a b h => nxt_ng h) V.ch
    exact h1.imp fun a b h => h.mono fun c => List.mem_reverse
  · intro c hc
    have := V.sub (ng c) (List.mem_map.mpr ⟨c, hc, rfl⟩)
    have := (mem _).mp this
    rw [ng_ng] at this
    exact this

/-! ## the whole way round -/
abbrev ring (lo hi : List Pt) : List Pt := lo.dropLast ++ hi.dropLast
def prs : List Pt → List (Pt × Pt)
  | a :: b :: r => (a, b) :: prs (b :: r)
  | _ => []
theorem ch_prs {R : Pt → Pt → Prop} : ∀ {l : List Pt}, Ch R l ↔ ∀ e ∈ prs l, R e.1 e.2
  | [] => ⟨fun _ e he => (by cases he), fun _ => trivial⟩
  | [_] => ⟨fun _ e he => (by cases he), fun _ => trivial⟩
  | a :: b :: r => by
    have ih := ch_prs (R := R) (l := b :: r)
    show R a b ∧ Ch R (b :: r) ↔ ∀ e ∈ (a, b) :: prs (b :: r), R e.1 e.2
    rw [ih]
    simp only [List.mem_cons, forall_eq_or_imp]
theorem prs_zip (s : Pt) : ∀ (l : List Pt) (p : Pt), (p :: l).zip (l ++ [s]) = prs (p :: l ++ [s])
  | [], p => rfl
  | q :: l, p => by
    show (p, q) :: (q :: l).zip (l ++ [s]) = (p, q) :: prs (q :: l ++ [s])
    rw [prs_zip s l q]
theorem prs_meet : ∀ {l m : List Pt}, (∀ h : l ≠ [], m.head? = some (l.getLast h)) → l ≠ [] → prs (l ++ m.tail) = prs l ++ prs m
  | [], m, _, h => absurd rfl h
  | [a], m, e, _ => by
    cases m with
    | nil => rfl
    | cons b r =>
      have : b = a := Option.some.inj (e (by simp))
      subst this
      rfl
  | a :: b :: r, m, e, _ => by
    have ih := prs_meet (l := b :: r) (m := m) (fun q => by
      have := e (by simp)
      rw [List.getLast_cons (by simp)] at this
      exact this) (by simp)
    show (a, b) :: prs (b :: r ++ m.tail) = (a, b) :: (prs (b :: r) ++ prs m)
    rw [ih]
theorem drop_last {l : List Pt} {x : Pt} (h : l.getLast? = some x) : l.dropLast ++ [x] = l := by
  have hn : l ≠ [] := fun e => by subst e; cases h
  have := List.dropLast_concat_getLast hn
  rw [List.getLast?_eq_getLast hn] at h
  rw [Option.some.inj h] at this
  exact this
theorem head_tail {l : List Pt} {x : Pt} (h : l.head? = some x) : x :: l.tail = l := by
  cases l with
  | nil => cases h
  | cons a r => rw [Option.some.inj h]; rfl
theorem Ch.succ {α : Type} {R : α → α → Prop} : ∀ {l : List α} {s c : α}, Ch R (l ++ [s]) → c ∈ l → ∃ d ∈ l ++ [s], R c d
  | [], _, _, _, h => by cases h
  | [a], s, c, h, hc => by
    rw [List.mem_singleton.mp hc]
    exact ⟨s, by simp, h.1⟩
  | a :: b :: r, s, c, h, hc => by
    rcases List.mem_cons.mp hc with e | e
    · rw [e]
      exact ⟨b, by simp, h.1⟩
    · obtain ⟨d, hd, k⟩ := Ch.succ (l := b :: r) h.2 e
      exact ⟨d, List.mem_cons_of_mem _ hd, k⟩
theorem Ch.and {α : Type} {R S : α → α → Prop} : ∀ {l : List α}, Ch R l → Ch S l → Ch (fun a b => R a b ∧ S a b) l
  | [], _, _ => trivial
  | [_], _, _ => trivial
  | _ :: _ :: _, h, k => ⟨⟨h.1, k.1⟩, Ch.and h.2 k.2⟩
theorem ch_of_pw {α : Type} {R : α → α → Prop} : ∀ {l : List α}, l.Pairwise R → Ch R l
  | [], _ => trivial
  | [_], _ => trivial
  | a :: b :: r, h => ⟨(List.pairwise_cons.mp h).1 b (by simp), ch_of_pw (List.pairwise_cons.mp h).2⟩
section
variable {ps lo hi : List Pt} {x0 xl : Pt}
theorem Round.lo_eq (h : Round ps lo hi x0 xl) : lo.dropLast ++ [xl] = lo := drop_last h.lo1
theorem Round.hi_eq (h : Round ps lo hi x0 xl) : hi.dropLast ++ [x0] = hi := drop_last h.hi1
theorem Round.lone (h : Round ps lo hi x0 xl) : lo ≠ [] := fun e => by have := h.lo0; rw [e] at this; cases this
theorem Round.meet (h : Round ps lo hi x0 xl) : ∀ q : lo ≠ [], hi.head? = some (lo.getLast q) := fun q => by
  have := h.lo1
  rw [List.getLast?_eq_getLast q] at this
  rw [h.hi0, Option.some.inj this]
theorem Round.whole (h : Round ps lo hi x0 xl) : ring lo hi ++ [x0] = lo ++ hi.tail := by
  show lo.dropLast ++ hi.dropLast ++ [x0] = _
  rw [List.append_assoc, h.hi_eq]
  conv => rhs; rw [← h.lo_eq]
  rw [List.append_assoc]
  congr 1
  exact (head_tail h.hi0).symm
theorem Round.cyc (h : Round ps lo hi x0 xl) : Ch (Nxt ps) (ring lo hi ++ [x0]) := by
  rw [h.whole]
  exact Ch.meet h.cl h.ch h.meet
/-- the ring begins with the first point -/
theorem Round.first (h : Round ps lo hi x0 xl) : ∃ r, ring lo hi = x0 :: r ∧ (∀ c ∈ r, Lt x0 c) ∧ hi.dropLast ≠ [] := by
  have hh : hi.dropLast ≠ [] := fun e => by
    have := h.hi_eq
    rw [e] at this
    have q := h.hi0
    rw [← this] at q
    have e2 : x0 = xl := Option.some.inj q
    have := h.lt
    rw [e2] at this
    exact this.irr
  have hl : ∃ r, lo.dropLast = x0 :: r := by
    cases e : lo.dropLast with
    | nil =>
      have := h.lo_eq
      rw [e] at this
      have q := h.lo0
      rw [← this] at q
      have e2 : xl = x0 := Option.some.inj q
      have := h.lt
      rw [e2] at this
      exact this.irr.elim
    | cons a r =>
      have := h.lo_eq
      rw [e] at this
      have q := h.lo0
      rw [← this] at q
      rw [Option.some.inj q]
      exact ⟨r, rfl⟩
  obtain ⟨r, e⟩ := hl
  refine ⟨r ++ hi.dropLast, by show lo.dropLast ++ _ = _; rw [e]; rfl, fun c hc => ?_, hh⟩
  rcases List.mem_append.mp hc with q | q
  · have u := h.up
    rw [← h.lo_eq, e] at u
    exact (List.pairwise_cons.mp u).1 c (List.mem_append_left _ q)
  · have u := h.dn
    rw [← h.hi_eq] at u
    exact (List.pairwise_append.mp u).2.2 c q x0 (by simp)
theorem Round.sub (h : Round ps lo hi x0 xl) : ∀ c ∈ ring lo hi, c ∈ ps := fun c hc => by
  rcases List.mem_append.mp hc with q | q
  · exact h.sl c (List.dropLast_subset _ q)
  · exact h.sh c (List.dropLast_subset _ q)
theorem Round.nodup (h : Round ps lo hi x0 xl) : (ring lo hi).Nodup := by
  refine List.nodup_append.mpr ⟨?_, ?_, fun a ha b hb e => ?_⟩
  · have u := h.up
    rw [← h.lo_eq] at u
    exact (List.pairwise_append.mp u).1.imp fun k => k.ne
  · have u := h.dn
    rw [← h.hi_eq] at u
    exact (List.pairwise_append.mp u).1.imp fun k => k.ne.symm
  · subst e
    have c1 := h.cl.and (ch_of_pw h.up)
    have c2 := h.ch.and (ch_of_pw h.dn)
    rw [← h.lo_eq] at c1
    rw [← h.hi_eq] at c2
    obtain ⟨d1, _, k1, l1⟩ := c1.succ ha
    obtain ⟨d2, _, k2, l2⟩ := c2.succ hb
    rw [k1.uniq k2] at l1
    exact (l1.trans l2).irr
/-- no corner on an edge -/
theorem strict {a b c d : Pt} (h : Nxt ps a b) (k : Nxt ps c d) (ha : a ∈ ps) (hc : c ∈ ps) (na : c ≠ a) (nb : c ≠ b) : 0 < cross a b c := by
  rcases h.all c hc with e | e | ⟨z, hs, hd⟩
  · exact absurd e na
  · exact e
  exfalso
  have qa := k.all a ha
  have qb := k.all b h.mem
  unfold cross at z qa qb
  unfold square at hs
  -- v = b - a, w = c - a, u = d - c
  obtain ⟨v1, ev1⟩ : ∃ v1, v1 = b.1 - a.1 := ⟨_, rfl⟩
  obtain ⟨v2, ev2⟩ : ∃ v2, v2 = b.2 - a.2 := ⟨_, rfl⟩
  obtain ⟨w1, ew1⟩ : ∃ w1, w1 = c.1 - a.1 := ⟨_, rfl⟩
  obtain ⟨w2, ew2⟩ : ∃ w2, w2 = c.2 - a.2 := ⟨_, rfl⟩
  obtain ⟨u1, eu1⟩ : ∃ u1, u1 = d.1 - c.1 := ⟨_, rfl⟩
  obtain ⟨u2, eu2⟩ : ∃ u2, u2 = d.2 - c.2 := ⟨_, rfl⟩
  rw [← ev1, ← ev2, ← ew1, ← ew2] at z hd
  rw [show a.1 - c.1 = - w1 by omega, show a.2 - c.2 = - w2 by omega, ← eu1, ← eu2] at qa
  rw [show b.1 - c.1 = v1 - w1 by omega, show b.2 - c.2 = v2 - w2 by omega, ← eu1, ← eu2] at qb
  have hs' : w1 * w1 + w2 * w2 ≤ v1 * v1 + v2 * v2 := by
    have e1 : (a.1 - c.1) * (a.1 - c.1) = w1 * w1 := by rw [show a.1 - c.1 = - w1 by omega]; grind
    have e2 : (a.2 - c.2) * (a.2 - c.2) = w2 * w2 := by rw [show a.2 - c.2 = - w2 by omega]; grind
    have e3 : (a.1 - b.1) * (a.1 - b.1) = v1 * v1 := by rw [show a.1 - b.1 = - v1 by omega]; grind
    have e4 : (a.2 - b.2) * (a.2 - b.2) = v2 * v2 := by rw [show a.2 - b.2 = - v2 by omega]; grind
    rw [e1, e2, e3, e4] at hs
    exact hs
  obtain ⟨m, em⟩ : ∃ m, m = w1 * w1 + w2 * w2 := ⟨_, rfl⟩
  obtain ⟨K, eK⟩ : ∃ K, K = v1 * w1 + v2 * w2 := ⟨_, rfl⟩
  have hm : 0 < m := by
    have n1 := sq_nn w1
    have n2 := sq_nn w2
    rcases Int.lt_or_eq_of_le (show 0 ≤ m by omega) with q | q
    · exact q
    · have z1 := sq_zero (x := w1) (by omega)
      have z2 := sq_zero (x := w2) (by omega)
      exact absurd (Prod.ext (by omega) (by omega)) na
  have hKm : m < K := by
    have e : K * K = (v1 * v1 + v2 * v2) * m := by
      have : K * K = (v1 * v1 + v2 * v2) * m - (v1 * w2 - v2 * w1) * (v1 * w2 - v2 * w1) := by rw [eK, em]; grind
      rw [this, z]
      omega
    have l1 : m * m ≤ K * K := by
      rw [e]
      exact Int.mul_le_mul_of_nonneg_right (by omega) (by omega)
    have l2 := sq_le (by omega) l1 (by omega)
    rcases Int.lt_or_eq_of_le l2 with q | q
    · exact q
    · exfalso
      have e2 : (v1 * v1 + v2 * v2) * m = m * m := by rw [← e, ← q]
      have e3 := Int.eq_of_mul_eq_mul_right (by omega) e2
      have := same_vec (v1 := v1) (v2 := v2) (w1 := w1) (w2 := w2) z (by omega) hd
      exact nb (Prod.ext (by omega) (by omega))
  have id1 : (u1 * (v2 - w2) - u2 * (v1 - w1)) * m = (K - m) * (u1 * w2 - u2 * w1) := by
    have : (u1 * (v2 - w2) - u2 * (v1 - w1)) * m - (K - m) * (u1 * w2 - u2 * w1) = - (v1 * w2 - v2 * w1) * (u1 * w1 + u2 * w2) := by rw [eK, em]; grind
    rw [z] at this
    omega
  have id2 : (u1 * (v1 - w1) + u2 * (v2 - w2)) * m = (K - m) * (u1 * w1 + u2 * w2) := by
    have : (u1 * (v1 - w1) + u2 * (v2 - w2)) * m - (K - m) * (u1 * w1 + u2 * w2) = (v1 * w2 - v2 * w1) * (u1 * w2 - u2 * w1) := by rw [eK, em]; grind
    rw [z] at this
    omega
  have ea1 : u1 * -w2 - u2 * -w1 = -(u1 * w2 - u2 * w1) := by grind
  have ea2 : u1 * -w1 + u2 * -w2 = -(u1 * w1 + u2 * w2) := by grind
  rw [ea1, ea2] at qa
  have hX : u1 * w2 - u2 * w1 = 0 ∧ u1 * w1 + u2 * w2 < 0 := by
    have nx : u1 * w2 - u2 * w1 ≤ 0 := by
      rcases qa with q | q | q
      · exact absurd q.symm na
      · omega
      · omega
    have nn : 0 ≤ u1 * (v2 - w2) - u2 * (v1 - w1) := by
      rcases qb with q | q | q
      · exact absurd q.symm nb
      · omega
      · omega
    have z0 : u1 * w2 - u2 * w1 = 0 := by
      rcases Int.lt_or_eq_of_le nx with q | q
      · have a1 : 0 ≤ (u1 * (v2 - w2) - u2 * (v1 - w1)) * m := Int.mul_nonneg nn (by omega)
        have a2 : (K - m) * (u1 * w2 - u2 * w1) < 0 := Int.mul_neg_of_pos_of_neg (by omega) q
        omega
      · exact q
    refine ⟨z0, ?_⟩
    rcases qa with q | q | q
    · exact absurd q.symm na
    · omega
    · omega
  have nn : 0 < u1 * (v1 - w1) + u2 * (v2 - w2) := by
    have z1 : (u1 * (v2 - w2) - u2 * (v1 - w1)) * m = 0 := by rw [id1, hX.1, Int.mul_zero]
    have z2 : u1 * (v2 - w2) - u2 * (v1 - w1) = 0 := by
      rcases Int.mul_eq_zero.mp z1 with q | q
      · exact q
      · omega
    rcases qb with q | q | q
    · exact absurd q.symm nb
    · omega
    · omega
  have a1 := Int.mul_pos nn hm
  have a2 : (K - m) * (u1 * w1 + u2 * w2) < 0 := Int.mul_neg_of_pos_of_neg (by omega) hX.2
  omega
theorem nxt_of_edges (h : Round ps lo hi x0 xl) : ∀ e ∈ edges (ring lo hi), Nxt ps e.1 e.2 := by
  obtain ⟨r, e, _, _⟩ := h.first
  have c := h.cyc
  intro x hx
  have q : edges (ring lo hi) = prs (ring lo hi ++ [x0]) := by
    rw [e]
    exact prs_zip x0 r x0
  rw [q] at hx
  exact ch_prs.mp c x hx
theorem edges_prs (h : Round ps lo hi x0 xl) : edges (ring lo hi) = prs lo ++ prs hi := by
  obtain ⟨r, e, _, _⟩ := h.first
  have q : edges (ring lo hi) = prs (ring lo hi ++ [x0]) := by
    rw [e]
    exact prs_zip x0 r x0
  rw [q, h.whole, prs_meet h.meet h.lone]
theorem mem_prs {a b : Pt} : ∀ {l : List Pt}, (a, b) ∈ prs l → a ∈ l ∧ b ∈ l
  | [], h => by cases h
  | [_], h => by cases h
  | c :: d :: r, h => by
    rcases List.mem_cons.mp h with e | e
    · cases e
      simp
    · have := mem_prs (l := d :: r) e
      exact ⟨List.mem_cons_of_mem _ this.1, List.mem_cons_of_mem _ this.2⟩
/-- what a figure is -/
structure Fig (l : List Pt) : Prop where
  len : 3 ≤ l.length
  nodup : l.Nodup
  conv : ∀ e ∈ edges l, e.1 ∈ l ∧ e.2 ∈ l ∧ e.1 ≠ e.2 ∧ ∀ c ∈ l, c = e.1 ∨ c = e.2 ∨ 0 < cross e.1 e.2 c
  shape : ∃ lo hi x0 xl, l = ring lo hi ∧ Asc lo ∧ Desc hi ∧ lo.head? = some x0 ∧ lo.getLast? = some xl ∧ hi.head? = some xl ∧ hi.getLast? = some x0 ∧ edges l = prs lo ++ prs hi
theorem Round.fig (h : Round ps lo hi x0 xl) (hn : 3 ≤ (ring lo hi).length) : Fig (ring lo hi) := by
  refine ⟨hn, h.nodup, fun e he => ?_, lo, hi, x0, xl, rfl, h.up, h.dn, h.lo0, h.lo1, h.hi0, h.hi1, edges_prs h⟩
  have k := nxt_of_edges h e he
  obtain ⟨r, er, hr, _⟩ := h.first
  have hm : e.1 ∈ ring lo hi ∧ e.2 ∈ ring lo hi := by
    have he' := he
    rw [show edges (ring lo hi) = prs (ring lo hi ++ [x0]) by rw [er]; exact prs_zip x0 r x0] at he'
    have m := mem_prs (a := e.1) (b := e.2) he'
    have f : ∀ c, c ∈ ring lo hi ++ [x0] → c ∈ ring lo hi := fun c hc => by
      rcases List.mem_append.mp hc with q | q
      · exact q
      · rw [List.mem_singleton.mp q, er]
        exact List.mem_cons_self
    exact ⟨f _ m.1, f _ m.2⟩
  refine ⟨hm.1, hm.2, k.ne.symm, fun c hc => ?_⟩
  by_cases c1 : c = e.1
  · exact .inl c1
  by_cases c2 : c = e.2
  · exact .inr (.inl c2)
  obtain ⟨d, _, kd⟩ := h.cyc.succ hc
  exact .inr (.inr (strict k kd (h.sub _ hm.1) (h.sub c hc) c1 c2))
theorem collin3 {p q a b c : Pt} (hpq : p ≠ q) (ha : cross p q a = 0) (hb : cross p q b = 0) (hc : cross p q c = 0) : cross a b c = 0 := by
  unfold cross at *
  have i1 : ((b.1 - a.1) * (c.2 - a.2) - (b.2 - a.2) * (c.1 - a.1)) * (q.1 - p.1) = 0 := by grind
  have i2 : ((b.1 - a.1) * (c.2 - a.2) - (b.2 - a.2) * (c.1 - a.1)) * (q.2 - p.2) = 0 := by grind
  rcases Int.mul_eq_zero.mp i1 with z | z
  · exact z
  rcases Int.mul_eq_zero.mp i2 with y | y
  · exact y
  exact absurd (Prod.ext (by omega) (by omega)) hpq
theorem flat_iff {qs : List Pt} : flat qs = true ↔ ∀ a ∈ qs, ∀ b ∈ qs, ∀ c ∈ qs, cross a b c = 0 := by
  simp [flat]
theorem Round.big (h : Round ps lo hi x0 xl) {qs : List Pt} (hm : ∀ c, c ∈ ps ↔ c ∈ qs) : flat qs = false ↔ 3 ≤ (ring lo hi).length := by
  obtain ⟨r, er, hr, hne⟩ := h.first
  have hx0 : x0 ∈ ps := h.sub x0 (by rw [er]; exact List.mem_cons_self)
  have hxl : xl ∈ ps := h.sl xl (by rw [← h.lo_eq]; simp)
  constructor
  · intro hf
    rcases Nat.lt_or_ge (ring lo hi).length 3 with c | c
    · exfalso
      have l1 : lo.dropLast.length + hi.dropLast.length < 3 := by rw [← List.length_append]; exact c
      have l2 : 0 < hi.dropLast.length := List.length_pos_iff.mpr hne
      have l3 : 0 < lo.dropLast.length := by
        refine List.length_pos_iff.mpr fun e => ?_
        have q := h.lo_eq
        rw [e] at q
        have q2 := h.lo0
        rw [← q] at q2
        have e3 : xl = x0 := Option.some.inj q2
        have := h.lt
        rw [e3] at this
        exact this.irr
      obtain ⟨a, ea⟩ := List.length_eq_one_iff.mp (show lo.dropLast.length = 1 by omega)
      obtain ⟨b, eb⟩ := List.length_eq_one_iff.mp (show hi.dropLast.length = 1 by omega)
      have q1 := h.lo_eq
      have q2 := h.hi_eq
      rw [ea] at q1
      rw [eb] at q2
      have q3 := h.lo0
      rw [← q1] at q3
      have q4 := h.hi0
      rw [← q2] at q4
      have ea' : a = x0 := Option.some.inj q3
      have eb' : b = xl := Option.some.inj q4
      rw [ea'] at q1
      rw [eb'] at q2
      have c1 := h.cl
      have c2 := h.ch
      rw [← q1] at c1
      rw [← q2] at c2
      have z : ∀ c ∈ ps, cross x0 xl c = 0 := fun c hc => by
        have k1 := c1.1.left hc
        have k2 := c2.1.left hc
        have : cross xl x0 c = - cross x0 xl c := by unfold cross; grind
        omega
      have : flat qs = true := flat_iff.mpr fun a ha b hb c hc => collin3 h.lt.ne (z a ((hm a).mpr ha)) (z b ((hm b).mpr hb)) (z c ((hm c).mpr hc))
      rw [this] at hf
      cases hf
    · exact c
  · intro hn
    have F := h.fig hn
    cases hf : flat qs with
    | false => rfl
    | true =>
      exfalso
      rw [er] at hn
      match r, er, hn with
      | c1 :: c2 :: r', er, _ =>
        have he : (x0, c1) ∈ edges (ring lo hi) := by
          rw [er]
          show (x0, c1) ∈ (x0, c1) :: _
          exact List.mem_cons_self
        have k := F.conv _ he
        have hc2 : c2 ∈ ring lo hi := by rw [er]; simp
        have nd := F.nodup
        rw [er] at nd
        have := k.2.2.2 c2 hc2
        have z := flat_iff.mp hf x0 ((hm _).mp hx0) c1 ((hm _).mp (h.sub c1 (by rw [er]; simp))) c2 ((hm _).mp (h.sub c2 hc2))
        rcases this with q | q | q
        · simp only [] at q
          subst q
          simp at nd
        · simp only [] at q
          subst q
          simp at nd
        · simp only [] at q
          omega
theorem nodup_len {α : Type} [DecidableEq α] : ∀ {l m : List α}, l.Nodup → (∀ x ∈ l, x ∈ m) → l.length ≤ m.length
  | [], m, _, _ => Nat.zero_le _
  | a :: l, m, h, k => by
    have ha : a ∈ m := k a (by simp)
    have ih := nodup_len (l := l) (m := m.erase a) (List.nodup_cons.mp h).2 fun x hx => by
      have : x ≠ a := fun e => (List.nodup_cons.mp h).1 (by rw [← e]; exact hx)
      exact (List.mem_erase_of_ne this).mpr (k x (List.mem_cons_of_mem _ hx))
    rw [List.length_erase_of_mem ha] at ih
    have := List.length_pos_of_mem ha
    simp only [List.length_cons]
    omega
theorem lessF_iff {a b : Pt} : Rc60.less a b = true ↔ Lt a b := by
  simp [Rc60.less, Lt]
theorem fold_least : ∀ (l : List Pt) (a : Pt), (l.foldl (fun (a b : Pt) => if Rc60.less b a = true then b else a) a ∈ a :: l) ∧ ∀ c ∈ a :: l, c = l.foldl (fun (a b : Pt) => if Rc60.less b a = true then b else a) a ∨ Lt (l.foldl (fun (a b : Pt) => if Rc60.less b a = true then b else a) a) c
  | [], a => ⟨by simp, fun c hc => .inl (by simpa using hc)⟩
  | b :: l, a => by
    show (l.foldl _ (if Rc60.less b a = true then b else a) ∈ a :: b :: l) ∧ ∀ c ∈ a :: b :: l, c = l.foldl _ (if Rc60.less b a = true then b else a) ∨ Lt (l.foldl _ (if Rc60.less b a = true then b else a)) c
    by_cases h : Rc60.less b a = true
    · rw [if_pos h]
      have ih := fold_least l b
      refine ⟨List.mem_cons_of_mem _ ih.1, fun c hc => ?_⟩
      rcases List.mem_cons.mp hc with e | e
      · subst e
        have hb := ih.2 b (by simp)
        have hl := lessF_iff.mp h
        rcases hb with q | q
        · rw [← q]; exact .inr hl
        · exact .inr (q.trans hl)
      · exact ih.2 c e
    · rw [if_neg h]
      have ih := fold_least l a
      refine ⟨?_, fun c hc => ?_⟩
      · rcases List.mem_cons.mp ih.1 with q | q
        · exact List.mem_cons.mpr (.inl q)
        · exact List.mem_cons_of_mem _ (List.mem_cons_of_mem _ q)
      · rcases List.mem_cons.mp hc with e | e
        · exact ih.2 c (by rw [e]; simp)
        · rcases List.mem_cons.mp e with e | e
          · subst e
            have ha := ih.2 a (by simp)
            have nl : ¬ Lt c a := fun q => h (lessF_iff.mpr q)
            rcases lt_tri a c with t | t | t
            · rcases ha with q | q
              · rw [← q]; exact .inr t
              · exact .inr (q.trans t)
            · subst t; exact ha
            · exact absurd t nl
          · exact ih.2 c (List.mem_cons_of_mem _ e)
theorem Round.hull (h : Round ps lo hi x0 xl) {qs : List Pt} (hm : ∀ c, c ∈ ps ↔ c ∈ qs) (hn : qs.length ≤ 4200) : hullOf qs = ring lo hi := by
  obtain ⟨r, er, hr, _⟩ := h.first
  have hx0 : x0 ∈ ps := h.sub x0 (by rw [er]; exact List.mem_cons_self)
  have hs : qs.foldl (fun (a b : Pt) => if Rc60.less b a = true then b else a) (qs.headD (0, 0)) = x0 := by
    cases qs with
    | nil => exact absurd ((hm x0).mp hx0) (by simp)
    | cons a l =>
      have f := fold_least (a :: l) a
      show (a :: l).foldl _ a = x0
      have m1 : (a :: l).foldl (fun (a b : Pt) => if Rc60.less b a = true then b else a) a ∈ ps := (hm _).mpr (by
        rcases List.mem_cons.mp f.1 with q | q
        · rw [q]; simp
        · exact q)
      rcases h.min _ m1 with q | q
      · exact q.symm
      · rcases f.2 x0 (List.mem_cons_of_mem _ ((hm x0).mp hx0)) with t | t
        · exact t.symm
        · exact (t.trans q).irr.elim
  have hme : ∀ c, c ∈ ps ↔ c ∈ qs.eraseDups := fun c => (hm c).trans List.mem_eraseDups.symm
  show wrap qs.eraseDups (qs.foldl _ (qs.headD (0, 0))) 4200 (qs.foldl _ (qs.headD (0, 0))) = _
  rw [hs, er]
  refine wrap_run r x0 4200 ?_ ?_ fun c hc => (hr c hc).ne.symm
  · have := nodup_len h.nodup fun c hc => (hm c).mp (h.sub c hc)
    rw [er] at this
    simp only [List.length_cons] at this
    omega
  · have := h.cyc
    rw [er] at this
    exact this.imp fun a b k => k.mono hme
end
end Cf

namespace Cf
open Rc60 (cross hullOf flat edges)
/-- the program's hull, of points in order -/
def hullC (os : List Pt) : List Pt := (half os).dropLast ++ (half os.reverse).dropLast
theorem hull_main {os qs : List Pt} (ha : Asc os) (hm : ∀ c, c ∈ os ↔ c ∈ qs) (hn : qs.length ≤ 4200) (hne : qs ≠ []) :
    (flat qs = true → (hullC os).length < 3) ∧ (flat qs = false → hullC os = hullOf qs ∧ 3 ≤ (hullC os).length ∧ Fig (hullOf qs) ∧ (hullOf qs).length ≤ qs.length ∧ (∀ c ∈ hullOf qs, c ∈ qs) ∧ ∀ e ∈ edges (hullOf qs), Nxt qs e.1 e.2) := by
  match os, ha, hm with
  | [], _, hm =>
    cases qs with
    | nil => exact absurd rfl hne
    | cons a l => exact absurd ((hm a).mpr (by simp)) (by simp)
  | [x0], _, hm =>
    refine ⟨fun _ => ?_, fun hf => ?_⟩
    · exact (by decide : 0 < 3)
    · have : flat qs = true := flat_iff.mpr fun a ha b hb c hc => by
        have e1 := List.mem_singleton.mp ((hm a).mpr ha)
        have e2 := List.mem_singleton.mp ((hm b).mpr hb)
        have e3 := List.mem_singleton.mp ((hm c).mpr hc)
        rw [e1, e2, e3]
        exact cross_start x0 x0
      rw [this] at hf
      cases hf
  | x0 :: x1 :: r, ha, hm =>
    obtain ⟨xl, h⟩ := round_ok ha
    have b := h.big hm
    refine ⟨fun hf => ?_, fun hf => ?_⟩
    · rcases Nat.lt_or_ge (hullC (x0 :: x1 :: r)).length 3 with c | c
      · exact c
      · have := b.mpr c
        rw [hf] at this
        cases this
    · have e : hullOf qs = hullC (x0 :: x1 :: r) := h.hull hm hn
      have h3 := b.mp hf
      refine ⟨e.symm, h3, ?_, ?_, fun c hc => ?_, fun x hx => ?_⟩
      · rw [e]; exact h.fig h3
      · rw [e]; exact nodup_len h.nodup fun c hc => (hm c).mp (h.sub c hc)
      · rw [e] at hc; exact (hm c).mp (h.sub c hc)
      · rw [e] at hx; exact (nxt_of_edges h x hx).mono hm
end Cf

namespace Cf
/-! ## sums over a + 1 .. a + n -/
def S (f : Int → Int) (a : Int) : Nat → Int
  | 0 => 0
  | n + 1 => S f a n + f (a + ((n : Int) + 1))
theorem S_add (f : Int → Int) (a : Int) (n : Nat) : ∀ m : Nat, S f a (n + m) = S f a n + S f (a + n) m
  | 0 => by simp [S]
  | m + 1 => by
    show S f a (n + m) + f (a + (((n + m : Nat) : Int) + 1)) = S f a n + (S f (a + n) m + f (a + n + ((m : Int) + 1)))
    rw [S_add f a n m, show a + (((n + m : Nat) : Int) + 1) = a + n + ((m : Int) + 1) by omega]
    omega
theorem S_congr {f g : Int → Int} {a : Int} : ∀ {n : Nat}, (∀ x, a < x → x ≤ a + n → f x = g x) → S f a n = S g a n
  | 0, _ => rfl
  | n + 1, h => by
    show S f a n + _ = S g a n + _
    rw [S_congr (n := n) fun x h1 h2 => h x h1 (by omega), h _ (by omega) (by omega)]
theorem S_plus (f g : Int → Int) (a : Int) : ∀ n, S (fun x => f x + g x) a n = S f a n + S g a n
  | 0 => rfl
  | n + 1 => by
    show S (fun x => f x + g x) a n + (f _ + g _) = S f a n + f _ + (S g a n + g _)
    rw [S_plus f g a n]
    omega
theorem S_const (c : Int) (a : Int) : ∀ n : Nat, S (fun _ => c) a n = n * c
  | 0 => by simp [S]
  | n + 1 => by
    show S (fun _ => c) a n + c = ((n + 1 : Nat) : Int) * c
    rw [S_const c a n]
    grind
theorem S_shift (f : Int → Int) (a b : Int) : ∀ n, S (fun x => f (x + b)) a n = S f (a + b) n
  | 0 => rfl
  | n + 1 => by
    show S (fun x => f (x + b)) a n + f (a + ((n : Int) + 1) + b) = S f (a + b) n + f (a + b + ((n : Int) + 1))
    rw [S_shift f a b n, show a + ((n : Int) + 1) + b = a + b + ((n : Int) + 1) by omega]
theorem S_first (f : Int → Int) (a : Int) (n : Nat) : S f a (n + 1) = f (a + 1) + S f (a + 1) n := by
  have := S_add f a 1 n
  rw [Nat.add_comm 1 n] at this
  rw [this]
  show (0 + f (a + (0 + 1))) + S f (a + 1) n = _
  rw [show a + (0 + 1) = a + 1 by omega]
  omega
/-- the other way round -/
theorem S_flip (f : Int → Int) (a : Int) : ∀ n : Nat, S f a n = S (fun x => f (-x)) (-(a + n) - 1) n
  | 0 => rfl
  | n + 1 => by
    rw [S_first (fun x => f (-x)) (-(a + ((n + 1 : Nat) : Int)) - 1) n]
    show S f a n + f (a + ((n : Int) + 1)) = f (-(-(a + ((n + 1 : Nat) : Int)) - 1 + 1)) + S (fun x => f (-x)) (-(a + ((n + 1 : Nat) : Int)) - 1 + 1) n
    rw [S_flip f a n, show -(-(a + ((n + 1 : Nat) : Int)) - 1 + 1) = a + ((n : Int) + 1) by omega, show -(a + ((n + 1 : Nat) : Int)) - 1 + 1 = -(a + n) - 1 by omega]
    omega

/-! ## how many multiples -/
abbrev ind (p : Prop) [Decidable p] : Int := if p then 1 else 0
theorem S_mult (d : Nat) (hd : 0 < d) : ∀ g : Nat, S (fun k => ind ((d : Int) ∣ k)) 0 (g * d) = g
  | 0 => by simp [S]
  | g + 1 => by
    rw [Nat.succ_mul, S_add, S_mult d hd g]
    obtain ⟨e, rfl⟩ : ∃ e, d = e + 1 := ⟨d - 1, by omega⟩
    have z : S (fun k => ind (((e + 1 : Nat) : Int) ∣ k)) (0 + ((g * (e + 1) : Nat) : Int)) e = S (fun _ => 0) (0 + ((g * (e + 1) : Nat) : Int)) e := S_congr fun x h1 h2 => by
      refine if_neg fun ⟨t, ht⟩ => ?_
      have h3 : ((g * (e + 1) : Nat) : Int) = ((e + 1 : Nat) : Int) * g := by rw [Nat.mul_comm]; exact Int.natCast_mul _ _
      have a1 : ((e + 1 : Nat) : Int) * g < ((e + 1 : Nat) : Int) * t := by omega
      have a2 : ((e + 1 : Nat) : Int) * t < ((e + 1 : Nat) : Int) * (g + 1) := by
        have : ((e + 1 : Nat) : Int) * (g + 1) = ((e + 1 : Nat) : Int) * g + ((e + 1 : Nat) : Int) := by grind
        omega
      have b1 := Int.lt_of_mul_lt_mul_left a1 (by omega)
      have b2 := Int.lt_of_mul_lt_mul_left a2 (by omega)
      omega
    show (g : Int) + (S _ _ e + ind (((e + 1 : Nat) : Int) ∣ 0 + ((g * (e + 1) : Nat) : Int) + ((e : Int) + 1))) = ((g + 1 : Nat) : Int)
    rw [z, S_const, show ind (((e + 1 : Nat) : Int) ∣ 0 + ((g * (e + 1) : Nat) : Int) + ((e : Int) + 1)) = 1 from if_pos ⟨(g : Int) + 1, by
      rw [show ((g * (e + 1) : Nat) : Int) = (g : Int) * ((e : Int) + 1) by rw [Int.natCast_mul]; rfl, show ((e + 1 : Nat) : Int) = (e : Int) + 1 from rfl]
      grind⟩]
    omega
theorem dvd_red (n : Nat) (hn : 0 < n) (m k : Int) : ((n : Int) ∣ k * m) ↔ (((n / Int.gcd n m : Nat) : Int) ∣ k) := by
  obtain ⟨g, eg⟩ : ∃ g, g = Int.gcd n m := ⟨_, rfl⟩
  have hg : 0 < g := by
    rw [eg]
    exact Nat.gcd_pos_of_pos_left _ hn
  have g1 : g ∣ n := by rw [eg]; exact Nat.gcd_dvd_left _ _
  have g2 : g ∣ m.natAbs := by rw [eg]; exact Nat.gcd_dvd_right _ _
  rw [← eg]
  obtain ⟨a, ea⟩ := g1
  obtain ⟨b, eb⟩ := g2
  have ha : n / g = a := by rw [ea]; exact Nat.mul_div_cancel_left a hg
  rw [ha]
  have cop : Nat.Coprime a b := by
    have : g * Nat.gcd a b = g * 1 := by
      rw [← Nat.gcd_mul_left, ← ea, ← eb, Nat.mul_one, eg]
      rfl
    exact Nat.eq_of_mul_eq_mul_left hg this
  rw [← Int.natAbs_dvd_natAbs, ← Int.natAbs_dvd_natAbs, Int.natAbs_mul, eb]
  show n ∣ _ ↔ a ∣ _
  rw [ea]
  constructor
  · rintro ⟨t, ht⟩
    have : k.natAbs * b = a * t := by
      refine Nat.eq_of_mul_eq_mul_left hg ?_
      rw [← Nat.mul_assoc g a t, ← ht]
      exact Nat.mul_left_comm _ _ _
    exact cop.dvd_of_dvd_mul_right ⟨t, this⟩
  · rintro ⟨t, ht⟩
    exact ⟨t * b, by rw [ht]; ac_rfl⟩
theorem S_dvd (n : Nat) (hn : 0 < n) (m : Int) : S (fun k => ind ((n : Int) ∣ k * m)) 0 n = Int.gcd n m := by
  have g1 : Int.gcd n m ∣ n := Nat.gcd_dvd_left _ _
  have hg : 0 < Int.gcd n m := Nat.gcd_pos_of_pos_left _ hn
  have e : S (fun k => ind ((n : Int) ∣ k * m)) 0 n = S (fun k => ind (((n / Int.gcd n m : Nat) : Int) ∣ k)) 0 n := S_congr fun x _ _ => by
    unfold ind
    simp only [dvd_red n hn m x]
  rw [e]
  have e2 : n = Int.gcd n m * (n / Int.gcd n m) := (Nat.mul_div_cancel' g1).symm
  have q := S_mult (n / Int.gcd n m) (Nat.div_pos (Nat.le_of_dvd hn g1) hg) (Int.gcd n m)
  rw [← e2] at q
  exact q
theorem pair_floor (n : Nat) (hn : 0 < n) (a : Int) : a / n + (-a) / n = -1 + ind ((n : Int) ∣ a) := by
  have hn' : (0 : Int) < n := by omega
  unfold ind
  by_cases h : (n : Int) ∣ a
  · rw [if_pos h]
    obtain ⟨t, rfl⟩ := h
    rw [Int.mul_ediv_cancel_left _ (by omega), ← Int.mul_neg, Int.mul_ediv_cancel_left _ (by omega)]
    omega
  · rw [if_neg h]
    have h1 := Int.emod_add_mul_ediv a n
    have h2 := Int.emod_nonneg a (show (n : Int) ≠ 0 by omega)
    have h3 := Int.emod_lt_of_pos a hn'
    have h4 : a % n ≠ 0 := fun e => h (Int.dvd_of_emod_eq_zero e)
    have : (-a) / n = -(a / n) - 1 := by
      have := (Int.ediv_emod_unique (a := -a) (b := n) (r := n - a % n) (q := -(a / n) - 1) hn').mpr ⟨by grind, by omega, by omega⟩
      exact this.1
    omega
/-- the sum of floors -/
theorem floor_sum (n : Nat) (hn : 0 < n) (m : Int) : 2 * S (fun k => k * m / n) 0 n = m * n + m - n + Int.gcd n m := by
  obtain ⟨e, rfl⟩ : ∃ e, n = e + 1 := ⟨n - 1, by omega⟩
  have h0 : ((e + 1 : Nat) : Int) ≠ 0 := by omega
  have hd := S_dvd (e + 1) hn m
  have lastd : ind (((e + 1 : Nat) : Int) ∣ (0 + ((e : Int) + 1)) * m) = 1 := if_pos ⟨m, by rw [show ((e + 1 : Nat) : Int) = (e : Int) + 1 from rfl]; grind⟩
  have hd' : S (fun k => ind (((e + 1 : Nat) : Int) ∣ k * m)) 0 e + ind (((e + 1 : Nat) : Int) ∣ (0 + ((e : Int) + 1)) * m) = Int.gcd ((e + 1 : Nat) : Int) m := hd
  rw [lastd] at hd'
  have lastf : (0 + ((e : Int) + 1)) * m / ((e + 1 : Nat) : Int) = m := by
    rw [show (0 + ((e : Int) + 1)) = ((e + 1 : Nat) : Int) by omega]
    exact Int.mul_ediv_cancel_left m h0
  have top : S (fun k => k * m / ((e + 1 : Nat) : Int)) 0 (e + 1) = S (fun k => k * m / ((e + 1 : Nat) : Int)) 0 e + m := by
    show S _ 0 e + (0 + ((e : Int) + 1)) * m / ((e + 1 : Nat) : Int) = _
    rw [lastf]
  -- turned round
  have f1 := S_flip (fun k => k * m / ((e + 1 : Nat) : Int)) 0 e
  have f2 : S (fun x => (-x) * m / ((e + 1 : Nat) : Int)) (-(0 + (e : Int)) - 1) e = S (fun k => m + (-(k * m)) / ((e + 1 : Nat) : Int)) 0 e := by
    have q := S_shift (fun x => (-x) * m / ((e + 1 : Nat) : Int)) 0 (-((e : Int) + 1)) e
    rw [show (0 : Int) + -((e : Int) + 1) = -(0 + (e : Int)) - 1 by omega] at q
    rw [← q]
    refine S_congr fun x _ _ => ?_
    show -(x + -((e : Int) + 1)) * m / _ = _
    rw [show -(x + -((e : Int) + 1)) * m = m * ((e + 1 : Nat) : Int) + -(x * m) by rw [show ((e + 1 : Nat) : Int) = (e : Int) + 1 from rfl]; grind]
    rw [Int.add_comm, Int.add_mul_ediv_right _ _ h0, Int.add_comm]
  have f3 : S (fun k => k * m / ((e + 1 : Nat) : Int)) 0 e + S (fun k => m + (-(k * m)) / ((e + 1 : Nat) : Int)) 0 e = S (fun k => (m - 1) + ind (((e + 1 : Nat) : Int) ∣ k * m)) 0 e := by
    rw [← S_plus]
    refine S_congr fun x _ _ => ?_
    have := pair_floor (e + 1) hn (x * m)
    omega
  rw [S_plus (fun _ => m - 1) (fun k => ind (((e + 1 : Nat) : Int) ∣ k * m)) 0 e, S_const] at f3
  rw [top]
  have e3 : m * ((e + 1 : Nat) : Int) = e * (m - 1) + m + e := by rw [show ((e + 1 : Nat) : Int) = (e : Int) + 1 from rfl]; grind
  rw [e3]
  have e4 : ((e + 1 : Nat) : Int) = (e : Int) + 1 := rfl
  rw [f2] at f1
  generalize S (fun k => k * m / ((e + 1 : Nat) : Int)) 0 e = A at *
  generalize S (fun k => m + (-(k * m)) / ((e + 1 : Nat) : Int)) 0 e = B at *
  generalize S (fun k => ind (((e + 1 : Nat) : Int) ∣ k * m)) 0 e = C at *
  generalize (e : Int) * (m - 1) = G at *
  omega
end Cf

namespace Cf
open Rc60 (cross edges inside holds span area rim points countInside)

theorem one_last {p t : Pt} (h : [p].getLast? = some t) : t = p := (Option.some.inj h).symm
/-! ## the floor below a chain -/
def at1 (p q : Pt) (x : Int) : Int := (p.2 * (q.1 - p.1) + (x - p.1) * (q.2 - p.2)) / (q.1 - p.1)
def fl : List Pt → Int → Int
  | p :: q :: r, x => if x ≤ q.1 then at1 p q x else fl (q :: r) x
  | _, _ => 0
theorem at1_sum (p q : Pt) (h : p.1 < q.1) : 2 * S (at1 p q) p.1 (q.1 - p.1).toNat = (q.1 - p.1) * (p.2 + q.2) + (q.2 - p.2) - (q.1 - p.1) + Int.gcd (q.1 - p.1) (q.2 - p.2) := by
  obtain ⟨n, hn⟩ : ∃ n : Nat, q.1 - p.1 = n := ⟨(q.1 - p.1).toNat, by omega⟩
  have hn0 : 0 < n := by omega
  rw [hn]
  have e : S (at1 p q) p.1 ((n : Int).toNat) = S (fun k => p.2 + k * (q.2 - p.2) / n) 0 n := by
    have s := S_shift (fun x => at1 p q x) 0 p.1 n
    rw [Int.zero_add] at s
    show S (fun x => at1 p q x) p.1 n = _
    rw [← s]
    refine S_congr fun x _ _ => ?_
    unfold at1
    rw [hn, Int.add_sub_cancel, Int.add_comm, Int.add_mul_ediv_right _ _ (by omega)]
    exact Int.add_comm _ _
  rw [e, S_plus (fun _ => p.2) (fun k => k * (q.2 - p.2) / (n : Int)) 0 n, S_const, Int.mul_add, floor_sum n hn0]
  grind
def su (f : Pt × Pt → Int) (c : List Pt) : Int := ((prs c).map f).sum
theorem su_cons (f : Pt × Pt → Int) (p q : Pt) (r : List Pt) : su f (p :: q :: r) = f (p, q) + su f (q :: r) := by
  show (f (p, q) :: (prs (q :: r)).map f).sum = _
  rw [List.sum_cons]
  rfl
def fD (e : Pt × Pt) : Int := if e.2.1 = e.1.1 then 0 else (e.2.1 - e.1.1) * (e.1.2 + e.2.2) + (e.2.2 - e.1.2) - (e.2.1 - e.1.1) + Int.gcd (e.2.1 - e.1.1) (e.2.2 - e.1.2)
def fV (e : Pt × Pt) : Int := if e.2.1 = e.1.1 then e.2.2 - e.1.2 else 0
def fA (e : Pt × Pt) : Int := (e.2.1 - e.1.1) * (e.1.2 + e.2.2)
def fG (e : Pt × Pt) : Int := Int.gcd (e.2.1 - e.1.1) (e.2.2 - e.1.2)
theorem asc_le : ∀ {r : List Pt} {p t : Pt}, Asc (p :: r) → (p :: r).getLast? = some t → p.1 ≤ t.1
  | [], p, t, _, h => by rw [one_last h]; exact Int.le_refl _
  | q :: r, p, t, ha, h => by
    rw [List.getLast?_cons_cons] at h
    have h1 := asc_le (List.pairwise_cons.mp ha).2 h
    have h2 := (List.pairwise_cons.mp ha).1 q (by simp)
    unfold Lt at h2
    omega
theorem chain_sum : ∀ (r : List Pt) (p t : Pt), Asc (p :: r) → (p :: r).getLast? = some t → 2 * S (fl (p :: r)) p.1 (t.1 - p.1).toNat = su fD (p :: r)
  | [], p, t, _, h => by
    rw [one_last h, Int.sub_self]
    rfl
  | q :: r, p, t, ha, h => by
    rw [List.getLast?_cons_cons] at h
    have ha2 := (List.pairwise_cons.mp ha).2
    have ih := chain_sum r q t ha2 h
    have hpq := (List.pairwise_cons.mp ha).1 q (by simp)
    have hqt := asc_le ha2 h
    have hle : p.1 ≤ q.1 := by unfold Lt at hpq; omega
    rw [su_cons, ← ih, show (t.1 - p.1).toNat = (q.1 - p.1).toNat + (t.1 - q.1).toNat by omega, S_add]
    have e1 : S (fl (p :: q :: r)) p.1 (q.1 - p.1).toNat = S (at1 p q) p.1 (q.1 - p.1).toNat := S_congr fun x h1 h2 => if_pos (by omega)
    have e2 : S (fl (p :: q :: r)) (p.1 + ((q.1 - p.1).toNat : Nat)) (t.1 - q.1).toNat = S (fl (q :: r)) q.1 (t.1 - q.1).toNat := by
      rw [show p.1 + (((q.1 - p.1).toNat : Nat) : Int) = q.1 by omega]
      exact S_congr fun x h1 h2 => if_neg (by omega)
    rw [e1, e2, Int.mul_add]
    congr 1
    unfold fD
    by_cases c : q.1 = p.1
    · rw [if_pos c, c, Int.sub_self]
      rfl
    · rw [if_neg c]
      exact at1_sum p q (by omega)
theorem su_congr {f g : Pt × Pt → Int} : ∀ {c : List Pt}, (∀ e ∈ prs c, f e = g e) → su f c = su g c := fun {c} h => by
  unfold su
  rw [List.map_congr_left h]
theorem su_add (f g : Pt × Pt → Int) : ∀ c : List Pt, su (fun e => f e + g e) c = su f c + su g c
  | [] => rfl
  | [_] => rfl
  | p :: q :: r => by
    rw [su_cons, su_cons, su_cons, su_add f g (q :: r)]
    omega
theorem su_tele (f : Pt → Int) : ∀ (r : List Pt) (p t : Pt), (p :: r).getLast? = some t → su (fun e => f e.2 - f e.1) (p :: r) = f t - f p
  | [], p, t, h => by
    rw [one_last h, Int.sub_self]
    rfl
  | q :: r, p, t, h => by
    rw [List.getLast?_cons_cons] at h
    rw [su_cons, su_tele f r q t h]
    show f q - f p + (f t - f q) = f t - f p
    omega
theorem asc_prs : ∀ {c : List Pt}, Asc c → ∀ e ∈ prs c, Lt e.1 e.2 := fun {c} h => ch_prs.mp (ch_of_pw h)
theorem su_D {r : List Pt} {p t : Pt} (ha : Asc (p :: r)) (h : (p :: r).getLast? = some t) : su fD (p :: r) = su fA (p :: r) + (t.2 - p.2) - (t.1 - p.1) + su fG (p :: r) - 2 * su fV (p :: r) := by
  have e1 := su_tele (fun p => p.2) r p t h
  have e2 := su_tele (fun p => p.1) r p t h
  have key : su fD (p :: r) + (su fV (p :: r) + su fV (p :: r)) + su (fun e => e.2.1 - e.1.1) (p :: r) = su fA (p :: r) + su (fun e => e.2.2 - e.1.2) (p :: r) + su fG (p :: r) := by
    rw [← su_add, ← su_add, ← su_add, ← su_add, ← su_add]
    refine su_congr fun e he => ?_
    have hl := asc_prs ha e he
    unfold fD fV fA fG
    by_cases c : e.2.1 = e.1.1
    · rw [if_pos c, if_pos c, c, Int.sub_self, Int.zero_mul]
      unfold Lt at hl
      have : ((Int.gcd 0 (e.2.2 - e.1.2) : Nat) : Int) = e.2.2 - e.1.2 := by
        rw [Int.gcd_zero_left]
        omega
      omega
    · rw [if_neg c, if_neg c]
      omega
  have e1' : su (fun e => e.2.2 - e.1.2) (p :: r) = t.2 - p.2 := e1
  have e2' : su (fun e => e.2.1 - e.1.1) (p :: r) = t.1 - p.1 := e2
  omega
/-- upright ones at the chain's end alone -/
theorem vert_all : ∀ (r : List Pt) (p t : Pt), Asc (p :: r) → (p :: r).getLast? = some t → p.1 = t.1 → su fV (p :: r) = t.2 - p.2
  | [], p, t, _, h, _ => by
    rw [one_last h, Int.sub_self]
    rfl
  | q :: r, p, t, ha, h, e => by
    rw [List.getLast?_cons_cons] at h
    have ha2 := (List.pairwise_cons.mp ha).2
    have hpq := (List.pairwise_cons.mp ha).1 q (by simp)
    have hqt := asc_le ha2 h
    unfold Lt at hpq
    rw [su_cons, vert_all r q t ha2 h (by omega)]
    unfold fV
    rw [if_pos (by show q.1 = p.1; omega)]
    show q.2 - p.2 + _ = _
    omega
theorem vert_end : ∀ (r : List Pt) (p t : Pt), Asc (p :: r) → (p :: r).getLast? = some t → p.1 < t.1 → (∀ e ∈ prs (p :: r), e.2.1 = e.1.1 → e.1.1 = t.1) → su fV (p :: r) + fl (p :: r) t.1 = t.2
  | [], p, t, _, h, hl, _ => by
    rw [one_last h] at hl
    omega
  | q :: r, p, t, ha, h, hl, hv => by
    rw [List.getLast?_cons_cons] at h
    have ha2 := (List.pairwise_cons.mp ha).2
    have hpq := (List.pairwise_cons.mp ha).1 q (by simp)
    have hqt := asc_le ha2 h
    have hne : q.1 ≠ p.1 := fun e => by
      have := hv (p, q) List.mem_cons_self e
      simp only [] at this
      omega
    have hV : fV (p, q) = 0 := if_neg hne
    rw [su_cons, hV]
    unfold Lt at hpq
    by_cases c : q.1 = t.1
    · rw [vert_all r q t ha2 h c]
      have : fl (p :: q :: r) t.1 = at1 p q t.1 := if_pos (by omega)
      rw [this]
      have : at1 p q t.1 = q.2 := by
        unfold at1
        rw [← c, show p.2 * (q.1 - p.1) + (q.1 - p.1) * (q.2 - p.2) = q.2 * (q.1 - p.1) by grind]
        exact Int.mul_ediv_cancel _ (by omega)
      omega
    · have : fl (p :: q :: r) t.1 = fl (q :: r) t.1 := if_neg (by omega)
      rw [this]
      have := vert_end r q t ha2 h (by omega) fun e he => hv e (List.mem_cons_of_mem _ he)
      omega
/-- the chain's inner columns -/
theorem chain_in {r : List Pt} {p t : Pt} (ha : Asc (p :: r)) (h : (p :: r).getLast? = some t) (hl : p.1 < t.1) (hv : ∀ e ∈ prs (p :: r), e.2.1 = e.1.1 → e.1.1 = t.1) :
    2 * S (fl (p :: r)) p.1 (t.1 - p.1 - 1).toNat = su fA (p :: r) + su fG (p :: r) - (t.1 - p.1) - t.2 - p.2 := by
  have a := chain_sum r p t ha h
  have b := su_D ha h
  have c := vert_end r p t ha h hl hv
  have d : S (fl (p :: r)) p.1 (t.1 - p.1).toNat = S (fl (p :: r)) p.1 (t.1 - p.1 - 1).toNat + fl (p :: r) t.1 := by
    obtain ⟨n, hn⟩ : ∃ n, (t.1 - p.1).toNat = n + 1 := ⟨(t.1 - p.1).toNat - 1, by omega⟩
    rw [hn, show (t.1 - p.1 - 1).toNat = n by omega]
    show S _ _ n + fl (p :: r) (p.1 + ((n : Int) + 1)) = _
    rw [show p.1 + ((n : Int) + 1) = t.1 by omega]
  omega
/-- the edge that covers a column -/
theorem cover : ∀ (r : List Pt) (p t : Pt) (x : Int), Asc (p :: r) → (p :: r).getLast? = some t → p.1 < x → x ≤ t.1 → ∃ e ∈ prs (p :: r), e.1.1 < x ∧ x ≤ e.2.1 ∧ fl (p :: r) x = at1 e.1 e.2 x
  | [], p, t, x, _, h, h1, h2 => by
    rw [one_last h] at h2
    omega
  | q :: r, p, t, x, ha, h, h1, h2 => by
    rw [List.getLast?_cons_cons] at h
    by_cases c : x ≤ q.1
    · exact ⟨(p, q), List.mem_cons_self, h1, c, if_pos c⟩
    · obtain ⟨e, he, k1, k2, k3⟩ := cover r q t x (List.pairwise_cons.mp ha).2 h (by omega) h2
      exact ⟨e, List.mem_cons_of_mem _ he, k1, k2, (if_neg c).trans k3⟩
theorem at1_lt {p q : Pt} {x y : Int} (h : p.1 < q.1) : at1 p q x < y ↔ 0 < cross p q (x, y) := by
  unfold at1
  rw [Int.ediv_lt_iff_lt_mul (by omega)]
  unfold cross
  simp only []
  constructor <;> intro k <;> grind
theorem prs_map (f : Pt → Pt) : ∀ c : List Pt, prs (c.map f) = (prs c).map fun e => (f e.1, f e.2)
  | [] => rfl
  | [_] => rfl
  | p :: q :: r => by
    show (f p, f q) :: prs ((q :: r).map f) = _
    rw [prs_map f (q :: r)]
    rfl
end Cf

namespace Cf
open Rc60 (cross edges inside holds span area rim points countInside)

/-! ## a figure's two chains -/
structure Sh (l lo hi : List Pt) (x0 xl : Pt) : Prop where
  fig : Fig l
  eq : l = ring lo hi
  up : Asc lo
  dn : Desc hi
  lo0 : lo.head? = some x0
  lo1 : lo.getLast? = some xl
  hi0 : hi.head? = some xl
  hi1 : hi.getLast? = some x0
  ed : edges l = prs lo ++ prs hi
theorem Fig.sh {l : List Pt} (F : Fig l) : ∃ lo hi x0 xl, Sh l lo hi x0 xl := by
  obtain ⟨lo, hi, x0, xl, a, b, c, d, e, f, g, h⟩ := F.shape
  exact ⟨lo, hi, x0, xl, F, a, b, c, d, e, f, g, h⟩
theorem Fig.weak {l : List Pt} (F : Fig l) {e : Pt × Pt} (he : e ∈ edges l) {c : Pt} (hc : c ∈ l) : 0 ≤ cross e.1 e.2 c := by
  rcases (F.conv e he).2.2.2 c hc with q | q | q
  · rw [q, cross_start]; exact Int.le_refl _
  · rw [q, cross_end]; exact Int.le_refl _
  · omega
section
variable {l lo hi : List Pt} {x0 xl : Pt}
theorem Sh.loe (h : Sh l lo hi x0 xl) : x0 :: lo.tail = lo := head_tail h.lo0
theorem Sh.hie (h : Sh l lo hi x0 xl) : xl :: hi.tail = hi := head_tail h.hi0
theorem Sh.lod (h : Sh l lo hi x0 xl) : lo.dropLast ++ [xl] = lo := drop_last h.lo1
theorem Sh.hid (h : Sh l lo hi x0 xl) : hi.dropLast ++ [x0] = hi := drop_last h.hi1
theorem Sh.memE (h : Sh l lo hi x0 xl) {e : Pt × Pt} : e ∈ edges l ↔ e ∈ prs lo ∨ e ∈ prs hi := by rw [h.ed, List.mem_append]
theorem Sh.x0_ne (h : Sh l lo hi x0 xl) : x0 ≠ xl := fun e => by
  -- else both chains are one point
  have hlen := h.fig.len
  rw [h.eq, List.length_append] at hlen
  have f : ∀ {r : List Pt} {a : Pt}, (a :: r).Pairwise Lt → (a :: r).getLast? = some a → r = [] := fun {r a} hp hl => by
    cases r with
    | nil => rfl
    | cons b s =>
      have hm := List.mem_of_getLast? (by rw [List.getLast?_cons_cons] at hl; exact hl)
      exact ((List.pairwise_cons.mp hp).1 a hm).irr.elim
  have g : ∀ {r : List Pt} {a : Pt}, (a :: r).Pairwise (fun a b => Lt b a) → (a :: r).getLast? = some a → r = [] := fun {r a} hp hl => by
    cases r with
    | nil => rfl
    | cons b s =>
      have hm := List.mem_of_getLast? (by rw [List.getLast?_cons_cons] at hl; exact hl)
      exact ((List.pairwise_cons.mp hp).1 a hm).irr.elim
  have a1 : lo.tail = [] := f (by rw [h.loe]; exact h.up) (by rw [h.loe, h.lo1, e])
  have a2 : hi.tail = [] := g (by rw [h.hie]; exact h.dn) (by rw [h.hie, h.hi1, e])
  rw [← h.loe, ← h.hie, a1, a2] at hlen
  simp at hlen
theorem Sh.lo_mem (h : Sh l lo hi x0 xl) {c : Pt} (hc : c ∈ lo) : c ∈ lo.dropLast ∨ c = xl := by
  rw [← h.lod] at hc
  rcases List.mem_append.mp hc with q | q
  · exact .inl q
  · exact .inr (List.mem_singleton.mp q)
theorem Sh.hi_mem (h : Sh l lo hi x0 xl) {c : Pt} (hc : c ∈ hi) : c ∈ hi.dropLast ∨ c = x0 := by
  rw [← h.hid] at hc
  rcases List.mem_append.mp hc with q | q
  · exact .inl q
  · exact .inr (List.mem_singleton.mp q)
theorem Sh.x0_lo (h : Sh l lo hi x0 xl) : x0 ∈ lo.dropLast := by
  rcases h.lo_mem (by rw [← h.loe]; exact List.mem_cons_self) with q | q
  · exact q
  · exact absurd q h.x0_ne
theorem Sh.xl_hi (h : Sh l lo hi x0 xl) : xl ∈ hi.dropLast := by
  rcases h.hi_mem (by rw [← h.hie]; exact List.mem_cons_self) with q | q
  · exact q
  · exact absurd q.symm h.x0_ne
theorem Sh.lo_in (h : Sh l lo hi x0 xl) {c : Pt} (hc : c ∈ lo) : c ∈ l := by
  rw [h.eq]
  rcases h.lo_mem hc with q | q
  · exact List.mem_append_left _ q
  · rw [q]; exact List.mem_append_right _ h.xl_hi
theorem Sh.hi_in (h : Sh l lo hi x0 xl) {c : Pt} (hc : c ∈ hi) : c ∈ l := by
  rw [h.eq]
  rcases h.hi_mem hc with q | q
  · exact List.mem_append_right _ q
  · rw [q]; exact List.mem_append_left _ h.x0_lo
theorem Sh.x0_in (h : Sh l lo hi x0 xl) : x0 ∈ l := h.lo_in (List.dropLast_subset _ h.x0_lo)
theorem Sh.xl_in (h : Sh l lo hi x0 xl) : xl ∈ l := h.hi_in (List.dropLast_subset _ h.xl_hi)
theorem Sh.between (h : Sh l lo hi x0 xl) {c : Pt} (hc : c ∈ l) : (x0 = c ∨ Lt x0 c) ∧ (c = xl ∨ Lt c xl) := by
  rw [h.eq] at hc
  have u := h.up
  have d := h.dn
  have u2 := h.up
  have d2 := h.dn
  rw [← h.loe] at u
  rw [← h.hie] at d
  rw [← h.lod] at u2
  rw [← h.hid] at d2
  rcases List.mem_append.mp hc with q | q
  · have m : c ∈ x0 :: lo.tail := by rw [h.loe]; exact List.dropLast_subset _ q
    refine ⟨?_, .inr ((List.pairwise_append.mp u2).2.2 c q xl (by simp))⟩
    rcases List.mem_cons.mp m with e | e
    · exact .inl e.symm
    · exact .inr ((List.pairwise_cons.mp u).1 c e)
  · have m : c ∈ xl :: hi.tail := by rw [h.hie]; exact List.dropLast_subset _ q
    refine ⟨.inr ((List.pairwise_append.mp d2).2.2 c q x0 (by simp)), ?_⟩
    rcases List.mem_cons.mp m with e | e
    · exact .inl e
    · exact .inr ((List.pairwise_cons.mp d).1 c e)
theorem Sh.xr (h : Sh l lo hi x0 xl) {c : Pt} (hc : c ∈ l) : x0.1 ≤ c.1 ∧ c.1 ≤ xl.1 := by
  have b := h.between hc
  unfold Lt at b
  rcases b with ⟨q | q, r | r⟩
  · subst q; subst r; omega
  · subst q; omega
  · subst r; omega
  · omega
theorem Fig.corners {l : List Pt} (F : Fig l) : ∃ p q r s, l = p :: q :: r :: s ∧ 0 < cross p q r ∧ (p, q) ∈ edges l := by
  have hl := F.len
  match l, F, hl with
  | p :: q :: r :: s, F, _ =>
    refine ⟨p, q, r, s, rfl, ?_, ?_⟩
    · have he : (p, q) ∈ edges (p :: q :: r :: s) := by
        show (p, q) ∈ (p, q) :: _
        exact List.mem_cons_self
      have nd := F.nodup
      rcases (F.conv _ he).2.2.2 r (by simp) with e | e | e
      · simp only [] at e; subst e; simp at nd
      · simp only [] at e; subst e; simp at nd
      · exact e
    · show (p, q) ∈ (p, q) :: _
      exact List.mem_cons_self
theorem Sh.wide (h : Sh l lo hi x0 xl) : x0.1 < xl.1 := by
  have a := h.xr h.xl_in
  rcases Int.lt_or_eq_of_le a.1 with q | q
  · exact q
  exfalso
  obtain ⟨p, q', r, s, e, hc, _⟩ := h.fig.corners
  have e1 := h.xr (c := p) (by rw [e]; simp)
  have e2 := h.xr (c := q') (by rw [e]; simp)
  have e3 := h.xr (c := r) (by rw [e]; simp)
  unfold cross at hc
  rw [show q'.1 - p.1 = 0 by omega, show r.1 - p.1 = 0 by omega] at hc
  omega
theorem Sh.lo_vert (h : Sh l lo hi x0 xl) : ∀ e ∈ prs (x0 :: lo.tail), e.2.1 = e.1.1 → e.1.1 = xl.1 := fun e he q => by
  rw [h.loe] at he
  have hl := asc_prs h.up e he
  have w := h.fig.weak (h.memE.mpr (.inl he)) h.xl_in
  have r := h.xr (h.lo_in (mem_prs (a := e.1) (b := e.2) he).1)
  unfold Lt at hl
  unfold cross at w
  rw [q, Int.sub_self, Int.zero_mul] at w
  rcases Int.lt_or_le e.1.1 xl.1 with c | c
  · have := Int.mul_pos (show 0 < e.2.2 - e.1.2 by omega) (show 0 < xl.1 - e.1.1 by omega)
    omega
  · omega
/-- the upper chain, turned round -/
abbrev hn (hi : List Pt) : List Pt := hi.map ng
theorem Sh.hn_asc (h : Sh l lo hi x0 xl) : Asc (hn hi) := List.pairwise_map.mpr (h.dn.imp fun k => lt_ng.mpr k)
theorem Sh.hne (h : Sh l lo hi x0 xl) : ng xl :: (hn hi).tail = hn hi := by
  conv => rhs; rw [← h.hie]
  show _ = ng xl :: hi.tail.map ng
  rw [List.map_tail]
theorem Sh.hn1 (h : Sh l lo hi x0 xl) : (hn hi).getLast? = some (ng x0) := by
  rw [List.getLast?_map, h.hi1]
  rfl
theorem Sh.hn_prs (h : Sh l lo hi x0 xl) {e : Pt × Pt} (he : e ∈ prs (hn hi)) : (ng e.1, ng e.2) ∈ prs hi := by
  rw [prs_map] at he
  obtain ⟨a, ha, e1⟩ := List.mem_map.mp he
  rw [← e1, ng_ng, ng_ng]
  exact ha
theorem Sh.hn_vert (h : Sh l lo hi x0 xl) : ∀ e ∈ prs (ng xl :: (hn hi).tail), e.2.1 = e.1.1 → e.1.1 = (ng x0).1 := fun e he q => by
  rw [h.hne] at he
  have hl := asc_prs h.hn_asc e he
  have hp := h.hn_prs he
  have w := h.fig.weak (h.memE.mpr (.inr hp)) h.x0_in
  rw [← ng_ng x0, cross_ng] at w
  have r := h.xr (h.hi_in (mem_prs hp).1)
  have r2 : e.1.1 ≤ (ng x0).1 := by
    have := r.1
    unfold ng at this ⊢
    simp only [] at this ⊢
    omega
  unfold Lt at hl
  unfold cross at w
  rw [q, Int.sub_self, Int.zero_mul] at w
  rcases Int.lt_or_le e.1.1 (ng x0).1 with c | c
  · have := Int.mul_pos (show 0 < e.2.2 - e.1.2 by omega) (show 0 < (ng x0).1 - e.1.1 by omega)
    omega
  · omega

/-! ## a column -/
theorem id_up (a b p q : Pt) (x y : Int) : (q.1 - p.1) * cross a b (x, y) = (q.1 - x) * cross a b p + (x - p.1) * cross a b q + (b.1 - a.1) * cross p q (x, y) := by
  unfold cross
  simp only []
  grind
theorem mul_pos_inv {a b : Int} (ha : 0 < a) (h : 0 < a * b) : 0 < b := Int.pos_of_mul_pos_left (by rw [Int.mul_comm]; exact h) ha
/-- between the chains it's inside -/
theorem Sh.in_of (h : Sh l lo hi x0 xl) {p q a' b' : Pt} {x y : Int} (h1 : x0.1 < x) (h2 : x < xl.1) (he : (p, q) ∈ edges l) (he' : (a', b') ∈ edges l) (c1 : p.1 < x) (c2 : x ≤ q.1) (d1 : b'.1 ≤ x) (d2 : x < a'.1)
    (k : 0 < cross p q (x, y)) (k' : 0 < cross a' b' (x, y)) : ∀ e ∈ edges l, 0 < cross e.1 e.2 (x, y) := by
  rintro ⟨a, b⟩ hab
  have F := h.fig
  have mp := F.conv _ he
  have ma := F.conv _ he'
  have w := fun c hc => F.weak hab (c := c) hc
  simp only [] at mp ma w ⊢
  rcases Int.lt_trichotomy (b.1 - a.1) 0 with c | c | c
  · have i := id_up a b a' b' x y
    have t1 : 0 ≤ (a'.1 - x) * cross a b b' := Int.mul_nonneg (by omega) (w b' ma.2.1)
    have t2 : 0 ≤ (x - b'.1) * cross a b a' := Int.mul_nonneg (by omega) (w a' ma.1)
    have t3 : (b.1 - a.1) * cross a' b' (x, y) < 0 := Int.mul_neg_of_neg_of_pos c k'
    refine mul_pos_inv (a := a'.1 - b'.1) (by omega) ?_
    have : (a'.1 - b'.1) * cross a b (x, y) = (a'.1 - x) * cross a b b' + (x - b'.1) * cross a b a' - (b.1 - a.1) * cross a' b' (x, y) := by grind
    omega
  · have w1 := w x0 h.x0_in
    have w2 := w xl h.xl_in
    have ne : a ≠ b := (F.conv _ hab).2.2.1
    unfold cross at w1 w2 ⊢
    rw [c, Int.zero_mul] at w1 w2 ⊢
    simp only []
    have dy : b.2 - a.2 ≠ 0 := fun z => ne (Prod.ext (by omega) (by omega))
    rcases Int.lt_or_lt_of_ne dy with z | z
    · have : 0 ≤ x0.1 - a.1 := by
        rcases Int.lt_or_le (x0.1 - a.1) 0 with y1 | y1
        · have := Int.mul_pos_of_neg_of_neg z y1
          omega
        · exact y1
      have := Int.mul_neg_of_neg_of_pos z (show 0 < x - a.1 by omega)
      omega
    · have : xl.1 - a.1 ≤ 0 := by
        rcases Int.lt_or_le 0 (xl.1 - a.1) with y1 | y1
        · have := Int.mul_pos z y1
          omega
        · exact y1
      have := Int.mul_neg_of_pos_of_neg z (show x - a.1 < 0 by omega)
      omega
  · have i := id_up a b p q x y
    have t1 : 0 ≤ (q.1 - x) * cross a b p := Int.mul_nonneg (by omega) (w p mp.1)
    have t2 : 0 ≤ (x - p.1) * cross a b q := Int.mul_nonneg (by omega) (w q mp.2.1)
    have t3 := Int.mul_pos c k
    refine mul_pos_inv (a := q.1 - p.1) (by omega) ?_
    omega
/-- the lower chain is below the upper one -/
theorem Sh.apart (h : Sh l lo hi x0 xl) {p q a' b' : Pt} {x y : Int} (h1 : x0.1 < x) (h2 : x < xl.1) (hp : (p, q) ∈ prs lo) (ha : (a', b') ∈ prs hi) (c1 : p.1 < x) (c2 : x ≤ q.1) (d1 : b'.1 ≤ x) (d2 : x < a'.1) :
    ¬ (cross p q (x, y) ≤ 0 ∧ cross a' b' (x, y) ≤ 0) := by
  rintro ⟨k, k'⟩
  have F := h.fig
  have he := h.memE.mpr (.inl hp)
  have he' := h.memE.mpr (.inr ha)
  have mp := F.conv _ he
  have ma := F.conv _ he'
  simp only [] at mp ma
  have w1 := fun c hc => F.weak he (c := c) hc
  have w2 := fun c hc => F.weak he' (c := c) hc
  simp only [] at w1 w2
  have i1 := id_up p q a' b' x y
  have i2 := id_up a' b' p q x y
  have s1 : 0 ≤ (a'.1 - x) * cross p q b' := Int.mul_nonneg (by omega) (w1 b' ma.2.1)
  have s2 : 0 ≤ (x - b'.1) * cross p q a' := Int.mul_nonneg (by omega) (w1 a' ma.1)
  have s3 : (a'.1 - b'.1) * cross p q (x, y) ≤ 0 := Int.mul_nonpos_of_nonneg_of_nonpos (by omega) k
  have s4 : (q.1 - p.1) * cross a' b' (x, y) ≤ 0 := Int.mul_nonpos_of_nonneg_of_nonpos (by omega) k'
  have s5 : (a'.1 - b'.1) * cross p q (x, y) = (a'.1 - x) * cross p q b' + (x - b'.1) * cross p q a' - (q.1 - p.1) * cross a' b' (x, y) := by grind
  have z1 : (a'.1 - x) * cross p q b' = 0 := by omega
  have t1 : 0 ≤ (q.1 - x) * cross a' b' p := Int.mul_nonneg (by omega) (w2 p mp.1)
  have t2 : 0 ≤ (x - p.1) * cross a' b' q := Int.mul_nonneg (by omega) (w2 q mp.2.1)
  have t5 : (q.1 - p.1) * cross a' b' (x, y) = (q.1 - x) * cross a' b' p + (x - p.1) * cross a' b' q - (a'.1 - b'.1) * cross p q (x, y) := by grind
  have z2 : (x - p.1) * cross a' b' q = 0 := by omega
  have zb : cross p q b' = 0 := by
    rcases Int.mul_eq_zero.mp z1 with e | e
    · omega
    · exact e
  have zq : cross a' b' q = 0 := by
    rcases Int.mul_eq_zero.mp z2 with e | e
    · omega
    · exact e
  have hb : b' = p ∨ b' = q := by
    rcases mp.2.2.2 b' ma.2.1 with e | e | e
    · exact .inl e
    · exact .inr e
    · omega
  have hq : q = a' ∨ q = b' := by
    rcases ma.2.2.2 q mp.2.1 with e | e | e
    · exact .inl e
    · exact .inr e
    · omega
  by_cases e : q = b'
  · have ex : x = q.1 := by rw [← e] at d1; omega
    have m1 := h.lo_mem (mem_prs hp).2
    have m2 := h.hi_mem (mem_prs ha).2
    have nd := F.nodup
    rw [h.eq] at nd
    rcases m1 with m1 | m1
    · rcases m2 with m2 | m2
      · exact (List.nodup_append.mp nd).2.2 q m1 b' m2 e
      · rw [← m2, ← e] at h1; omega
    · rw [← m1] at h2; omega
  · have e1 : q = a' := by
      rcases hq with q1 | q1
      · exact q1
      · exact absurd q1 e
    have e2 : b' = p := by
      rcases hb with q1 | q1
      · exact q1
      · exact absurd q1.symm e
    subst e1
    subst e2
    -- a third corner
    have : ∃ c ∈ l, c ≠ b' ∧ c ≠ q := by
      have hlen := F.len
      apply Classical.byContradiction
      intro no
      have sub : ∀ c ∈ l, c ∈ [b', q] := fun c hc => by
        by_cases y1 : c = b'
        · rw [y1]; simp
        · by_cases y2 : c = q
          · rw [y2]; simp
          · exact absurd ⟨c, hc, y1, y2⟩ no
      have := nodup_len F.nodup sub
      simp at this
      omega
    obtain ⟨c, hc, n1, n2⟩ := this
    have v1 := mp.2.2.2 c hc
    have v2 := ma.2.2.2 c hc
    have sw : cross q b' c = - cross b' q c := by unfold cross; grind
    rcases v1 with v1 | v1 | v1
    · exact n1 v1
    · exact n2 v1
    · rcases v2 with v2 | v2 | v2
      · exact n2 v2
      · exact n1 v2
      · omega
theorem Sh.col (h : Sh l lo hi x0 xl) {x : Int} (h1 : x0.1 < x) (h2 : x < xl.1) : (∀ y, inside l (x, y) = true ↔ fl lo x < y ∧ y < - fl (hn hi) (-x)) ∧ fl lo x < - fl (hn hi) (-x) := by
  obtain ⟨⟨p, q⟩, hp, c1, c2, e1⟩ := cover lo.tail x0 xl x (by rw [h.loe]; exact h.up) (by rw [h.loe]; exact h.lo1) h1 (by omega)
  obtain ⟨⟨a, b⟩, ha, d1, d2, e2⟩ := cover (hn hi).tail (ng xl) (ng x0) (-x) (by rw [h.hne]; exact h.hn_asc) (by rw [h.hne]; exact h.hn1) (by unfold ng; simp only []; omega) (by unfold ng; simp only []; omega)
  rw [h.loe] at hp e1
  rw [h.hne] at ha e2
  simp only [] at c1 c2 d1 d2 e1 e2
  have ha' := h.hn_prs ha
  simp only [] at ha'
  have he := h.memE.mpr (.inl hp)
  have he' := h.memE.mpr (.inr ha')
  have d1' : x < (ng a).1 := by unfold ng; simp only []; omega
  have d2' : (ng b).1 ≤ x := by unfold ng; simp only []; omega
  have low : ∀ y, fl lo x < y ↔ 0 < cross p q (x, y) := fun y => by rw [e1]; exact at1_lt (by omega)
  have upp : ∀ y, y < - fl (hn hi) (-x) ↔ 0 < cross (ng a) (ng b) (x, y) := fun y => by
    rw [e2]
    have t := at1_lt (p := a) (q := b) (x := -x) (y := -y) (by omega)
    have e3 : cross a b (-x, -y) = cross (ng a) (ng b) (x, y) := by
      rw [← cross_ng a b (-x, -y)]
      simp [ng]
    rw [e3] at t
    rw [← t]
    omega
  refine ⟨fun y => ⟨fun hy => ?_, fun ⟨k1, k2⟩ => ?_⟩, ?_⟩
  · have all := List.all_eq_true.mp hy
    exact ⟨(low y).mpr (of_decide_eq_true (all _ he)), (upp y).mpr (of_decide_eq_true (all _ he'))⟩
  · refine List.all_eq_true.mpr fun e hE => decide_eq_true ?_
    exact h.in_of h1 h2 he he' c1 c2 d2' d1' ((low y).mp k1) ((upp y).mp k2) e hE
  · rcases Int.lt_or_le (fl lo x) (- fl (hn hi) (-x)) with k | k
    · exact k
    · exfalso
      refine h.apart (y := fl lo x) h1 h2 hp ha' c1 c2 d2' d1' ⟨?_, ?_⟩
      · have := low (fl lo x)
        omega
      · have := upp (fl lo x)
        omega
end
end Cf

namespace Cf
open Rc60 (cross edges inside holds span area rim points countInside)

/-! ## least and greatest by folds -/
theorem fmin_spec : ∀ (l : List Int) (a : Int), (l.foldl min a ∈ a :: l) ∧ ∀ c ∈ a :: l, l.foldl min a ≤ c
  | [], a => ⟨by simp, fun c hc => by rw [List.mem_singleton.mp hc]; exact Int.le_refl _⟩
  | b :: l, a => by
    have ih := fmin_spec l (min a b)
    show l.foldl min (min a b) ∈ _ ∧ ∀ c ∈ a :: b :: l, l.foldl min (min a b) ≤ c
    refine ⟨?_, fun c hc => ?_⟩
    · rcases List.mem_cons.mp ih.1 with e | e
      · rw [e]
        rcases Int.le_total a b with q | q
        · rw [Int.min_eq_left q]; simp
        · rw [Int.min_eq_right q]; simp
      · exact List.mem_cons_of_mem _ (List.mem_cons_of_mem _ e)
    · have h0 := ih.2 (min a b) (by simp)
      rcases List.mem_cons.mp hc with e | e
      · rw [e]; have := Int.min_le_left a b; omega
      · rcases List.mem_cons.mp e with e | e
        · rw [e]; have := Int.min_le_right a b; omega
        · exact ih.2 c (List.mem_cons_of_mem _ e)
theorem fmax_spec : ∀ (l : List Int) (a : Int), (l.foldl max a ∈ a :: l) ∧ ∀ c ∈ a :: l, c ≤ l.foldl max a
  | [], a => ⟨by simp, fun c hc => by rw [List.mem_singleton.mp hc]; exact Int.le_refl _⟩
  | b :: l, a => by
    have ih := fmax_spec l (max a b)
    show l.foldl max (max a b) ∈ _ ∧ ∀ c ∈ a :: b :: l, c ≤ l.foldl max (max a b)
    refine ⟨?_, fun c hc => ?_⟩
    · rcases List.mem_cons.mp ih.1 with e | e
      · rw [e]
        rcases Int.le_total a b with q | q
        · rw [Int.max_eq_right q]; simp
        · rw [Int.max_eq_left q]; simp
      · exact List.mem_cons_of_mem _ (List.mem_cons_of_mem _ e)
    · have h0 := ih.2 (max a b) (by simp)
      rcases List.mem_cons.mp hc with e | e
      · rw [e]; have := Int.le_max_left a b; omega
      · rcases List.mem_cons.mp e with e | e
        · rw [e]; have := Int.le_max_right a b; omega
        · exact ih.2 c (List.mem_cons_of_mem _ e)
/-- the least of a list that isn't empty, as the specification says it -/
theorem least_is {v : List Int} {m : Int} (hm : m ∈ v) (hl : ∀ c ∈ v, m ≤ c) : v.foldl min (v.headD 0) = m := by
  cases v with
  | nil => cases hm
  | cons a r =>
    have f := fmin_spec (a :: r) a
    show (a :: r).foldl min a = m
    refine Int.le_antisymm (f.2 m (List.mem_cons_of_mem _ hm)) ?_
    rcases List.mem_cons.mp f.1 with e | e
    · rw [e]; exact hl a (by simp)
    · exact hl _ e
theorem most_is {v : List Int} {m : Int} (hm : m ∈ v) (hl : ∀ c ∈ v, c ≤ m) : v.foldl max (v.headD 0) = m := by
  cases v with
  | nil => cases hm
  | cons a r =>
    have f := fmax_spec (a :: r) a
    show (a :: r).foldl max a = m
    refine Int.le_antisymm ?_ (f.2 m (List.mem_cons_of_mem _ hm))
    rcases List.mem_cons.mp f.1 with e | e
    · rw [e]; exact hl a (by simp)
    · exact hl _ e
theorem least_mem {v : List Int} (h : v ≠ []) : v.foldl min (v.headD 0) ∈ v ∧ ∀ c ∈ v, v.foldl min (v.headD 0) ≤ c := by
  cases v with
  | nil => exact absurd rfl h
  | cons a r =>
    have f := fmin_spec (a :: r) a
    refine ⟨?_, fun c hc => f.2 c (List.mem_cons_of_mem _ hc)⟩
    rcases List.mem_cons.mp f.1 with e | e
    · show (a :: r).foldl min a ∈ _; rw [e]; simp
    · exact e
theorem most_mem {v : List Int} (h : v ≠ []) : v.foldl max (v.headD 0) ∈ v ∧ ∀ c ∈ v, c ≤ v.foldl max (v.headD 0) := by
  cases v with
  | nil => exact absurd rfl h
  | cons a r =>
    have f := fmax_spec (a :: r) a
    refine ⟨?_, fun c hc => f.2 c (List.mem_cons_of_mem _ hc)⟩
    rcases List.mem_cons.mp f.1 with e | e
    · show (a :: r).foldl max a ∈ _; rw [e]; simp
    · exact e

/-! ## counting -/
theorem count_range (Y A B : Int) (h0 : Y ≤ A + 1) : ∀ n : Nat, (((List.range n).filter fun (i : Nat) => decide (A < Y + (i : Int)) && decide (Y + (i : Int) < B)).length : Int) = max 0 (min (n : Int) (B - Y) - (A + 1 - Y))
  | 0 => by
    show (0 : Int) = _
    omega
  | n + 1 => by
    rw [List.range_succ, List.filter_append, List.length_append, Int.natCast_add, count_range Y A B h0 n]
    by_cases c : (decide (A < Y + (n : Int)) && decide (Y + (n : Int) < B)) = true
    · rw [List.filter_cons_of_pos (by simpa using c)]
      simp only [Bool.and_eq_true, decide_eq_true_eq] at c
      show max 0 _ + (1 : Int) = _
      omega
    · rw [List.filter_cons_of_neg (by simpa using c)]
      simp only [Bool.and_eq_true, decide_eq_true_eq] at c
      show max 0 _ + (0 : Int) = _
      omega
theorem sum_cast (f : Nat → Nat) : ∀ l : List Nat, (((l.map f).sum : Nat) : Int) = (l.map fun i => (f i : Int)).sum
  | [] => rfl
  | a :: l => by
    rw [List.map_cons, List.sum_cons, Int.natCast_add, sum_cast f l]
    rfl
theorem sum_S (g : Int → Int) (a : Int) : ∀ n : Nat, ((List.range n).map fun (i : Nat) => g (a + (i : Int))).sum = S g (a - 1) n
  | 0 => rfl
  | n + 1 => by
    rw [List.range_succ, List.map_append, List.sum_append, sum_S g a n]
    show _ + (g (a + n) + 0) = S g (a - 1) n + g (a - 1 + ((n : Int) + 1))
    rw [show a - 1 + ((n : Int) + 1) = a + n by omega]
    omega
/-- the specification's points, column by column -/
def colN (l : List Pt) (Y0 Y1 x : Int) : Nat := ((((span Y0 Y1).map fun y => ((x, y) : Pt)).filter (holds l)).filter (inside l)).length
theorem count_cols (l : List Pt) : (countInside l : Int) = ((span ((l.map fun p => p.1).foldl min ((l.map fun p => p.1).headD 0)) ((l.map fun p => p.1).foldl max ((l.map fun p => p.1).headD 0))).map fun x =>
    (colN l ((l.map fun p => p.2).foldl min ((l.map fun p => p.2).headD 0)) ((l.map fun p => p.2).foldl max ((l.map fun p => p.2).headD 0)) x : Int)).sum := by
  unfold countInside points
  simp only []
  generalize span ((l.map fun p => p.1).foldl min ((l.map fun p => p.1).headD 0)) ((l.map fun p => p.1).foldl max ((l.map fun p => p.1).headD 0)) = xs
  generalize (l.map fun p => p.2).foldl min ((l.map fun p => p.2).headD 0) = Y0
  generalize (l.map fun p => p.2).foldl max ((l.map fun p => p.2).headD 0) = Y1
  induction xs with
  | nil => rfl
  | cons x xs ih =>
    rw [List.flatMap_cons, List.filter_append, List.length_append, Int.natCast_add, ih, List.map_cons, List.sum_cons]
    rfl
theorem inside_holds {l : List Pt} {p : Pt} (h : inside l p = true) : holds l p = true := by
  refine List.all_eq_true.mpr fun e he => decide_eq_true ?_
  have := of_decide_eq_true (List.all_eq_true.mp h e he)
  exact Int.le_of_lt this
theorem colN_eq (l : List Pt) (Y0 Y1 x A B : Int) (hin : ∀ y, inside l (x, y) = true ↔ A < y ∧ y < B) : colN l Y0 Y1 x = ((List.range (Y1 + 1 - Y0).toNat).filter fun (i : Nat) => decide (A < Y0 + (i : Int)) && decide (Y0 + (i : Int) < B)).length := by
  unfold colN span
  rw [List.filter_filter, List.filter_map, List.length_map, List.filter_map, List.length_map]
  congr 1
  refine List.filter_congr fun i _ => ?_
  simp only [Function.comp]
  have := hin (Y0 + (i : Int))
  rw [Bool.eq_iff_iff, Bool.and_eq_true, Bool.and_eq_true, decide_eq_true_eq, decide_eq_true_eq]
  exact ⟨fun h => this.mp h.1, fun h => ⟨this.mpr h, inside_holds (this.mpr h)⟩⟩
section
variable {l lo hi : List Pt} {x0 xl : Pt}
theorem at1_ge {p q : Pt} {x Y : Int} (h1 : p.1 < x) (h2 : x ≤ q.1) (hp : Y ≤ p.2) (hq : Y ≤ q.2) : Y ≤ at1 p q x := by
  unfold at1
  rw [Int.le_ediv_iff_mul_le (by omega)]
  have e : p.2 * (q.1 - p.1) + (x - p.1) * (q.2 - p.2) - Y * (q.1 - p.1) = (p.2 - Y) * (q.1 - x) + (q.2 - Y) * (x - p.1) := by grind
  have := Int.mul_nonneg (show 0 ≤ p.2 - Y by omega) (show 0 ≤ q.1 - x by omega)
  have := Int.mul_nonneg (show 0 ≤ q.2 - Y by omega) (show 0 ≤ x - p.1 by omega)
  omega
/-- how many are inside in a column -/
theorem Sh.col_count (h : Sh l lo hi x0 xl) {x Y0 Y1 : Int} (h1 : x0.1 < x) (h2 : x < xl.1) (hY : ∀ c ∈ l, Y0 ≤ c.2 ∧ c.2 ≤ Y1) : (colN l Y0 Y1 x : Int) = - fl (hn hi) (-x) - fl lo x - 1 := by
  obtain ⟨hin, hlt⟩ := h.col h1 h2
  have g1 : Y0 ≤ fl lo x := by
    obtain ⟨⟨p, q⟩, hp, c1, c2, e1⟩ := cover lo.tail x0 xl x (by rw [h.loe]; exact h.up) (by rw [h.loe]; exact h.lo1) h1 (by omega)
    rw [h.loe] at hp e1
    rw [e1]
    have m := mem_prs hp
    exact at1_ge c1 c2 (hY p (h.lo_in m.1)).1 (hY q (h.lo_in m.2)).1
  have g2 : - Y1 ≤ fl (hn hi) (-x) := by
    obtain ⟨⟨a, b⟩, ha, d1, d2, e2⟩ := cover (hn hi).tail (ng xl) (ng x0) (-x) (by rw [h.hne]; exact h.hn_asc) (by rw [h.hne]; exact h.hn1) (by unfold ng; simp only []; omega) (by unfold ng; simp only []; omega)
    rw [h.hne] at ha e2
    rw [e2]
    have m := mem_prs (h.hn_prs ha)
    have m1 := (hY _ (h.hi_in m.1)).2
    have m2 := (hY _ (h.hi_in m.2)).2
    unfold ng at m1 m2
    simp only [] at m1 m2
    exact at1_ge (p := a) (q := b) d1 d2 (by omega) (by omega)
  rw [colN_eq l Y0 Y1 x _ _ hin, count_range Y0 _ _ (by omega)]
  have hy := hY x0 h.x0_in
  omega
/-- none in the first and the last column -/
theorem Sh.col_left (h : Sh l lo hi x0 xl) (y : Int) : ¬ inside l (x0.1, y) = true := fun k => by
  have all := fun e he => of_decide_eq_true (List.all_eq_true.mp k e he)
  -- the edge that leaves x0
  have hlo := h.up
  rw [← h.loe] at hlo
  have t1 : ∃ c, (x0, c) ∈ prs lo ∧ x0.1 ≤ c.1 := by
    have q := h.loe
    have ln := h.lo1
    cases e : lo.tail with
    | nil =>
      rw [e] at q
      rw [← q] at ln
      exact absurd (one_last ln).symm h.x0_ne
    | cons c r =>
      rw [e] at q
      rw [e] at hlo
      refine ⟨c, by rw [← q]; exact List.mem_cons_self, ?_⟩
      have := (List.pairwise_cons.mp hlo).1 c (by simp)
      unfold Lt at this
      omega
  have t2 : ∃ c, (c, x0) ∈ prs hi ∧ x0.1 ≤ c.1 := by
    have d := h.hid
    have dn := h.dn
    obtain ⟨c, s, es⟩ : ∃ c s, hi.dropLast = s ++ [c] := by
      cases e : hi.dropLast with
      | nil => have := h.xl_hi; rw [e] at this; cases this
      | cons a r => exact ⟨_, _, (List.dropLast_concat_getLast (List.cons_ne_nil a r)).symm⟩
    rw [es] at d
    refine ⟨c, ?_, ?_⟩
    · rw [← d]
      have g : ∀ s : List Pt, (c, x0) ∈ prs (s ++ [c] ++ [x0]) := fun s => by
        induction s with
        | nil => exact List.mem_cons_self
        | cons a s ih =>
          cases s with
          | nil => exact List.mem_cons_of_mem _ ih
          | cons b s => exact List.mem_cons_of_mem _ ih
      exact g s
    · rw [← d] at dn
      have := (List.pairwise_append.mp dn).2.2 c (by simp) x0 (by simp)
      unfold Lt at this
      omega
  obtain ⟨c, hc, k1⟩ := t1
  obtain ⟨d, hd, k2⟩ := t2
  have a1 := all _ (h.memE.mpr (.inl hc))
  have a2 := all _ (h.memE.mpr (.inr hd))
  unfold cross at a1 a2
  simp only [] at a1 a2
  rw [Int.sub_self, Int.mul_zero] at a1
  have p1 : 0 < (c.1 - x0.1) * (y - x0.2) := by omega
  have p2 : 0 < (x0.1 - d.1) * (y - x0.2) := by grind
  have q1 : 0 < y - x0.2 := by
    rcases Int.lt_or_le 0 (y - x0.2) with z | z
    · exact z
    · have := Int.mul_nonpos_of_nonneg_of_nonpos (show 0 ≤ c.1 - x0.1 by omega) z
      omega
  have := Int.mul_nonpos_of_nonpos_of_nonneg (show x0.1 - d.1 ≤ 0 by omega) (Int.le_of_lt q1)
  omega
theorem Sh.col_right (h : Sh l lo hi x0 xl) (y : Int) : ¬ inside l (xl.1, y) = true := fun k => by
  have all := fun e he => of_decide_eq_true (List.all_eq_true.mp k e he)
  have hdn := h.dn
  rw [← h.hie] at hdn
  have t1 : ∃ c, (xl, c) ∈ prs hi ∧ c.1 ≤ xl.1 := by
    have q := h.hie
    have ln := h.hi1
    cases e : hi.tail with
    | nil =>
      rw [e] at q
      rw [← q] at ln
      exact absurd (one_last ln) h.x0_ne
    | cons c r =>
      rw [e] at q
      rw [e] at hdn
      refine ⟨c, by rw [← q]; exact List.mem_cons_self, ?_⟩
      have := (List.pairwise_cons.mp hdn).1 c (by simp)
      unfold Lt at this
      omega
  have t2 : ∃ c, (c, xl) ∈ prs lo ∧ c.1 ≤ xl.1 := by
    have d := h.lod
    have up := h.up
    obtain ⟨c, s, es⟩ : ∃ c s, lo.dropLast = s ++ [c] := by
      cases e : lo.dropLast with
      | nil => have := h.x0_lo; rw [e] at this; cases this
      | cons a r => exact ⟨_, _, (List.dropLast_concat_getLast (List.cons_ne_nil a r)).symm⟩
    rw [es] at d
    refine ⟨c, ?_, ?_⟩
    · rw [← d]
      have g : ∀ s : List Pt, (c, xl) ∈ prs (s ++ [c] ++ [xl]) := fun s => by
        induction s with
        | nil => exact List.mem_cons_self
        | cons a s ih =>
          cases s with
          | nil => exact List.mem_cons_of_mem _ ih
          | cons b s => exact List.mem_cons_of_mem _ ih
      exact g s
    · rw [← d] at up
      have := (List.pairwise_append.mp up).2.2 c (by simp) xl (by simp)
      unfold Lt at this
      omega
  obtain ⟨c, hc, k1⟩ := t1
  obtain ⟨d, hd, k2⟩ := t2
  have a1 := all _ (h.memE.mpr (.inr hc))
  have a2 := all _ (h.memE.mpr (.inl hd))
  unfold cross at a1 a2
  simp only [] at a1 a2
  rw [Int.sub_self, Int.mul_zero] at a1
  have p1 : 0 < (c.1 - xl.1) * (y - xl.2) := by omega
  have p2 : 0 < (xl.1 - d.1) * (y - xl.2) := by grind
  have q1 : y - xl.2 < 0 := by
    rcases Int.lt_or_le (y - xl.2) 0 with z | z
    · exact z
    · have := Int.mul_nonpos_of_nonpos_of_nonneg (show c.1 - xl.1 ≤ 0 by omega) z
      omega
  have := Int.mul_nonpos_of_nonneg_of_nonpos (show 0 ≤ xl.1 - d.1 by omega) (Int.le_of_lt q1)
  omega
theorem colN_zero {Y0 Y1 x : Int} (h : ∀ y, ¬ inside l (x, y) = true) : colN l Y0 Y1 x = 0 := by
  unfold colN
  rw [List.length_eq_zero_iff, List.filter_eq_nil_iff]
  intro p hp
  have := (List.mem_filter.mp hp).1
  obtain ⟨y, _, e⟩ := List.mem_map.mp this
  rw [← e]
  exact h y
theorem area_su (h : Sh l lo hi x0 xl) : area l = - (su fA lo + su fA hi) := by
  unfold area
  rw [h.ed, List.map_append, List.sum_append]
  have key : ∀ c : List Pt, ((prs c).map fun e => e.1.1 * e.2.2 - e.1.2 * e.2.1).sum = su (fun e => e.2.1 * e.2.2 - e.1.1 * e.1.2) c + - su fA c := fun c => by
    have e1 : su fA c + su (fun e => e.1.1 * e.2.2 - e.1.2 * e.2.1) c = su (fun e => e.2.1 * e.2.2 - e.1.1 * e.1.2) c := by
      rw [← su_add]
      refine su_congr fun e _ => ?_
      unfold fA
      grind
    have e2 : ((prs c).map fun e => e.1.1 * e.2.2 - e.1.2 * e.2.1).sum = su (fun e => e.1.1 * e.2.2 - e.1.2 * e.2.1) c := rfl
    omega
  rw [key lo, key hi]
  have t1 := su_tele (fun p => p.1 * p.2) lo.tail x0 xl (by rw [h.loe]; exact h.lo1)
  have t2 := su_tele (fun p => p.1 * p.2) hi.tail xl x0 (by rw [h.hie]; exact h.hi1)
  rw [h.loe] at t1
  rw [h.hie] at t2
  omega
theorem rim_su (h : Sh l lo hi x0 xl) : (rim l : Int) = su fG lo + su fG hi := by
  unfold rim
  rw [h.ed, List.map_append, List.sum_append, Int.natCast_add]
  have key : ∀ L : List (Pt × Pt), (((L.map fun e => Int.gcd (e.2.1 - e.1.1) (e.2.2 - e.1.2)).sum : Nat) : Int) = (L.map fG).sum := fun L => by
    induction L with
    | nil => rfl
    | cons a L ih =>
      rw [List.map_cons, List.sum_cons, Int.natCast_add, ih]
      rfl
  rw [key, key]
  rfl
theorem su_map (f : Pt × Pt → Int) (g : Pt → Pt) (c : List Pt) : su f (c.map g) = su (fun e => f (g e.1, g e.2)) c := by
  unfold su
  rw [prs_map, List.map_map]
  rfl
/-- PICK -/
theorem pick {l : List Pt} (F : Fig l) : 2 * (countInside l : Int) = area l - rim l + 2 := by
  obtain ⟨lo, hi, x0, xl, h⟩ := F.sh
  have w := h.wide
  have hX0 : (l.map fun p => p.1).foldl min ((l.map fun p => p.1).headD 0) = x0.1 := least_is (List.mem_map.mpr ⟨x0, h.x0_in, rfl⟩) fun c hc => by
    obtain ⟨p, hp, e⟩ := List.mem_map.mp hc
    rw [← e]
    exact (h.xr hp).1
  have hX1 : (l.map fun p => p.1).foldl max ((l.map fun p => p.1).headD 0) = xl.1 := most_is (List.mem_map.mpr ⟨xl, h.xl_in, rfl⟩) fun c hc => by
    obtain ⟨p, hp, e⟩ := List.mem_map.mp hc
    rw [← e]
    exact (h.xr hp).2
  have hne : (l.map fun p => p.2) ≠ [] := fun e => by
    have hm : x0.2 ∈ l.map fun p => p.2 := List.mem_map.mpr ⟨x0, h.x0_in, rfl⟩
    rw [e] at hm
    cases hm
  have hY : ∀ c ∈ l, (l.map fun p => p.2).foldl min ((l.map fun p => p.2).headD 0) ≤ c.2 ∧ c.2 ≤ (l.map fun p => p.2).foldl max ((l.map fun p => p.2).headD 0) := fun c hc =>
    ⟨(least_mem hne).2 _ (List.mem_map.mpr ⟨c, hc, rfl⟩), (most_mem hne).2 _ (List.mem_map.mpr ⟨c, hc, rfl⟩)⟩
  have cc := count_cols l
  rw [hX0, hX1] at cc
  generalize (l.map fun p => p.2).foldl min ((l.map fun p => p.2).headD 0) = Y0 at hY cc
  generalize (l.map fun p => p.2).foldl max ((l.map fun p => p.2).headD 0) = Y1 at hY cc
  unfold span at cc
  rw [List.map_map] at cc
  have cs := sum_S (fun x => (colN l Y0 Y1 x : Int)) x0.1 (xl.1 + 1 - x0.1).toNat
  have cc' : (countInside l : Int) = S (fun x => (colN l Y0 Y1 x : Int)) (x0.1 - 1) (xl.1 + 1 - x0.1).toNat := by
    rw [← cs, cc]
    rfl
  obtain ⟨n, hn1⟩ : ∃ n : Nat, (xl.1 + 1 - x0.1).toNat = n + 1 + 1 := ⟨(xl.1 + 1 - x0.1).toNat - 2, by omega⟩
  have hnI : (n : Int) = xl.1 - x0.1 - 1 := by omega
  rw [hn1] at cc'
  have e1 : S (fun x => (colN l Y0 Y1 x : Int)) (x0.1 - 1) (n + 1 + 1) = S (fun x => (colN l Y0 Y1 x : Int)) x0.1 n := by
    show S _ (x0.1 - 1) (n + 1) + (colN l Y0 Y1 (x0.1 - 1 + (((n + 1 : Nat) : Int) + 1)) : Int) = _
    rw [S_first, show x0.1 - 1 + 1 = x0.1 by omega, show x0.1 - 1 + (((n + 1 : Nat) : Int) + 1) = xl.1 by omega]
    rw [colN_zero h.col_left, colN_zero h.col_right]
    show (0 : Int) + _ + 0 = _
    omega
  have e2 : S (fun x => (colN l Y0 Y1 x : Int)) x0.1 n + (S (fun x => fl (hn hi) (-x)) x0.1 n + S (fl lo) x0.1 n + S (fun _ => 1) x0.1 n) = S (fun _ => 0) x0.1 n := by
    rw [← S_plus, ← S_plus, ← S_plus]
    refine S_congr fun x q1 q2 => ?_
    have := h.col_count (x := x) q1 (by omega) hY
    omega
  rw [S_const, S_const] at e2
  have e3 : S (fun x => fl (hn hi) (-x)) x0.1 n = S (fl (hn hi)) (ng xl).1 n := by
    rw [S_flip]
    rw [show -(x0.1 + (n : Int)) - 1 = (ng xl).1 by unfold ng; simp only []; omega]
    refine S_congr fun x _ _ => ?_
    rw [Int.neg_neg]
  have t1 := chain_in (p := x0) (t := xl) (r := lo.tail) (by rw [h.loe]; exact h.up) (by rw [h.loe]; exact h.lo1) w h.lo_vert
  have t2 := chain_in (p := ng xl) (t := ng x0) (r := (hn hi).tail) (by rw [h.hne]; exact h.hn_asc) (by rw [h.hne]; exact h.hn1) (by unfold ng; simp only []; omega) h.hn_vert
  rw [h.loe] at t1
  rw [h.hne] at t2
  rw [show (xl.1 - x0.1 - 1).toNat = n by omega] at t1
  rw [show ((ng x0).1 - (ng xl).1 - 1).toNat = n by unfold ng; simp only []; omega] at t2
  have m1 : su fA (hn hi) = su fA hi := by
    rw [su_map]
    refine su_congr fun e _ => ?_
    unfold fA ng
    simp only []
    grind
  have m2 : su fG (hn hi) = su fG hi := by
    rw [su_map]
    refine su_congr fun e _ => ?_
    unfold fG ng
    simp only []
    rw [show -e.2.1 - -e.1.1 = -(e.2.1 - e.1.1) by omega, show -e.2.2 - -e.1.2 = -(e.2.2 - e.1.2) by omega, Int.gcd_neg, Int.neg_gcd]
  rw [m1, m2] at t2
  have n1 : (ng x0).1 = - x0.1 := rfl
  have n2 : (ng x0).2 = - x0.2 := rfl
  have n3 : (ng xl).1 = - xl.1 := rfl
  have n4 : (ng xl).2 = - xl.2 := rfl
  rw [n1, n2, n3, n4] at t2
  rw [n3] at e3
  have a := area_su h
  have b := rim_su h
  rw [cc', e1]
  rw [e3] at e2
  omega
end
end Cf

namespace Cf
open Rc60 (cross edges along widthOf)

/-! ## how far a figure goes: a norm -/
theorem along_spec {l : List Pt} (h : l ≠ []) (d : Pt) : (∃ p ∈ l, ∃ q ∈ l, along d l = (d.1 * p.1 + d.2 * p.2) - (d.1 * q.1 + d.2 * q.2)) ∧
    ∀ p ∈ l, ∀ q ∈ l, (d.1 * p.1 + d.2 * p.2) - (d.1 * q.1 + d.2 * q.2) ≤ along d l := by
  have hn : (l.map fun p => d.1 * p.1 + d.2 * p.2) ≠ [] := fun e => h (List.map_eq_nil_iff.mp e)
  have a := most_mem hn
  have b := least_mem hn
  obtain ⟨p, hp, ep⟩ := List.mem_map.mp a.1
  obtain ⟨q, hq, eq⟩ := List.mem_map.mp b.1
  refine ⟨⟨p, hp, q, hq, ?_⟩, fun p' hp' q' hq' => ?_⟩
  · show _ - _ = _
    rw [ep, eq]
  · have a2 := a.2 _ (List.mem_map.mpr ⟨p', hp', rfl⟩)
    have b2 := b.2 _ (List.mem_map.mpr ⟨q', hq', rfl⟩)
    exact Int.sub_le_sub a2 b2
/-- a norm over pairs of whole numbers -/
structure Norm (N : Pt → Int) : Prop where
  tri : ∀ a b c d : Int, N (a + c, b + d) ≤ N (a, b) + N (c, d)
  hom : ∀ k a b : Int, 0 ≤ k → N (k * a, k * b) = k * N (a, b)
  neg : ∀ a b : Int, N (-a, -b) = N (a, b)
  pos : ∀ a b : Int, (a ≠ 0 ∨ b ≠ 0) → 0 < N (a, b)
theorem along_norm {l : List Pt} (F : Fig l) : Norm fun d => along d l := by
  have hne : l ≠ [] := fun e => by have := F.len; rw [e] at this; simp at this
  have nn : ∀ d : Pt, 0 ≤ along d l := fun d => by
    obtain ⟨p, hp, _⟩ := (along_spec hne d).1
    have := (along_spec hne d).2 p hp p hp
    omega
  refine ⟨fun a b c d => ?_, fun k a b hk => ?_, fun a b => ?_, fun a b hab => ?_⟩
  · obtain ⟨p, hp, q, hq, e⟩ := (along_spec hne (a + c, b + d)).1
    have h1 := (along_spec hne (a, b)).2 p hp q hq
    have h2 := (along_spec hne (c, d)).2 p hp q hq
    simp only [] at e h1 h2 ⊢
    rw [e]
    grind
  · refine Int.le_antisymm ?_ ?_
    · obtain ⟨p, hp, q, hq, e⟩ := (along_spec hne (k * a, k * b)).1
      have h1 := (along_spec hne (a, b)).2 p hp q hq
      simp only [] at e h1
      rw [e]
      have := Int.mul_le_mul_of_nonneg_left h1 hk
      grind
    · obtain ⟨p, hp, q, hq, e⟩ := (along_spec hne (a, b)).1
      have h1 := (along_spec hne (k * a, k * b)).2 p hp q hq
      simp only [] at e h1
      rw [e]
      grind
  · refine Int.le_antisymm ?_ ?_
    · obtain ⟨p, hp, q, hq, e⟩ := (along_spec hne (-a, -b)).1
      have h1 := (along_spec hne (a, b)).2 q hq p hp
      simp only [] at e h1
      rw [e]
      grind
    · obtain ⟨p, hp, q, hq, e⟩ := (along_spec hne (a, b)).1
      have h1 := (along_spec hne (-a, -b)).2 q hq p hp
      simp only [] at e h1
      rw [e]
      grind
  · rcases Int.lt_or_eq_of_le (nn (a, b)) with c | c
    · exact c
    exfalso
    obtain ⟨p, q, r, s, e, hc, _⟩ := F.corners
    have hp : p ∈ l := by rw [e]; simp
    have hq : q ∈ l := by rw [e]; simp
    have hr : r ∈ l := by rw [e]; simp
    have z : ∀ u ∈ l, ∀ v ∈ l, a * u.1 + b * u.2 - (a * v.1 + b * v.2) = 0 := fun u hu v hv => by
      have h1 := (along_spec hne (a, b)).2 u hu v hv
      have h2 := (along_spec hne (a, b)).2 v hv u hu
      simp only [] at h1 h2
      omega
    have z1 := z q hq p hp
    have z2 := z r hr p hp
    unfold cross at hc
    have i1 : ((q.1 - p.1) * (r.2 - p.2) - (q.2 - p.2) * (r.1 - p.1)) * a = 0 := by
      have : ((q.1 - p.1) * (r.2 - p.2) - (q.2 - p.2) * (r.1 - p.1)) * a = (a * q.1 + b * q.2 - (a * p.1 + b * p.2)) * (r.2 - p.2) - (a * r.1 + b * r.2 - (a * p.1 + b * p.2)) * (q.2 - p.2) := by grind
      rw [this, z1, z2]
      omega
    have i2 : ((q.1 - p.1) * (r.2 - p.2) - (q.2 - p.2) * (r.1 - p.1)) * b = 0 := by
      have : ((q.1 - p.1) * (r.2 - p.2) - (q.2 - p.2) * (r.1 - p.1)) * b = (a * r.1 + b * r.2 - (a * p.1 + b * p.2)) * (q.1 - p.1) - (a * q.1 + b * q.2 - (a * p.1 + b * p.2)) * (r.1 - p.1) := by grind
      rw [this, z1, z2]
      omega
    rcases hab with k | k
    · rcases Int.mul_eq_zero.mp i1 with y | y
      · omega
      · exact k y
    · rcases Int.mul_eq_zero.mp i2 with y | y
      · omega
      · exact k y
section
variable {N : Pt → Int} (H : Norm N)
include H
theorem Norm.abs (k a b : Int) : N (k * a, k * b) = k.natAbs * N (a, b) := by
  rcases Int.le_total 0 k with c | c
  · rw [H.hom k a b c]
    congr 1
    omega
  · have e := H.hom (-k) a b (by omega)
    rw [show -k * a = -(k * a) by grind, show -k * b = -(k * b) by grind, H.neg] at e
    rw [e]
    congr 1
    omega
theorem Norm.zero : N (0, 0) = 0 := by
  have := H.hom 0 0 0 (Int.le_refl _)
  rw [Int.zero_mul, Int.zero_mul] at this
  exact this
theorem Norm.nn (a b : Int) : 0 ≤ N (a, b) := by
  by_cases c : a ≠ 0 ∨ b ≠ 0
  · exact Int.le_of_lt (H.pos a b c)
  · have : a = 0 ∧ b = 0 := by
      constructor
      · exact Classical.byContradiction fun h => c (.inl h)
      · exact Classical.byContradiction fun h => c (.inr h)
    rw [this.1, this.2, H.zero]
    exact Int.le_refl _
/-- long + t * short -/
abbrev mv (a b : Pt) (t : Int) : Pt := (a.1 + t * b.1, a.2 + t * b.2)
theorem Norm.low (a b : Pt) (t : Int) : t.natAbs * N b - N a ≤ N (mv a b t) := by
  have h := H.tri (a.1 + t * b.1) (a.2 + t * b.2) (-a.1) (-a.2)
  rw [H.neg, show a.1 + t * b.1 + -a.1 = t * b.1 by omega, show a.2 + t * b.2 + -a.2 = t * b.2 by omega, H.abs] at h
  have e1 : N (a.1, a.2) = N a := rfl
  have e2 : N (b.1, b.2) = N b := rfl
  rw [e1, e2] at h
  have : N (mv a b t) = N (a.1 + t * b.1, a.2 + t * b.2) := rfl
  omega
/-- convex -/
theorem Norm.convex (a b : Pt) (t : Int) : 2 * N (mv a b t) ≤ N (mv a b (t - 1)) + N (mv a b (t + 1)) := by
  have h := H.tri (a.1 + (t - 1) * b.1) (a.2 + (t - 1) * b.2) (a.1 + (t + 1) * b.1) (a.2 + (t + 1) * b.2)
  rw [show a.1 + (t - 1) * b.1 + (a.1 + (t + 1) * b.1) = 2 * (a.1 + t * b.1) by grind, show a.2 + (t - 1) * b.2 + (a.2 + (t + 1) * b.2) = 2 * (a.2 + t * b.2) by grind, H.hom 2 _ _ (by omega)] at h
  exact h
theorem Norm.rise (a b : Pt) (t : Int) (h : N (mv a b t) ≤ N (mv a b (t + 1))) : ∀ n : Nat, N (mv a b (t + n)) ≤ N (mv a b (t + n + 1)) ∧ N (mv a b t) ≤ N (mv a b (t + n))
  | 0 => by
    rw [show t + ((0 : Nat) : Int) = t by omega]
    exact ⟨h, Int.le_refl _⟩
  | n + 1 => by
    have ih := Norm.rise a b t h n
    have c := H.convex a b (t + n + 1)
    rw [show t + (n : Int) + 1 - 1 = t + n by omega] at c
    rw [show t + ((n + 1 : Nat) : Int) = t + n + 1 by omega]
    exact ⟨by omega, by omega⟩
theorem Norm.fall (a b : Pt) (t : Int) (h : N (mv a b (t + 1)) ≤ N (mv a b t)) : ∀ n : Nat, N (mv a b (t + 1 - n)) ≤ N (mv a b (t - n)) ∧ N (mv a b (t + 1)) ≤ N (mv a b (t - n))
  | 0 => by
    rw [show t - ((0 : Nat) : Int) = t by omega, show t + 1 - ((0 : Nat) : Int) = t + 1 by omega]
    exact ⟨h, h⟩
  | n + 1 => by
    have ih := Norm.fall a b t h n
    have c := H.convex a b (t - n)
    rw [show t - (n : Int) + 1 = t + 1 - n by omega] at c
    rw [show t - ((n + 1 : Nat) : Int) = t - n - 1 by omega, show t + 1 - ((n + 1 : Nat) : Int) = t - n by omega]
    exact ⟨by omega, by omega⟩
/-- what the halving keeps -/
structure Hv (a b : Pt) (lo hi : Int) : Prop where
  le : lo ≤ hi
  dn : ∀ t, t < lo → ∃ u, lo ≤ u ∧ u ≤ hi ∧ N (mv a b u) ≤ N (mv a b t)
  up : ∀ t, hi < t → ∃ u, lo ≤ u ∧ u ≤ hi ∧ N (mv a b u) ≤ N (mv a b t)
omit H in
theorem Hv.best {a b : Pt} {lo hi : Int} (h : Hv (N := N) a b lo hi) (e : lo = hi) (t : Int) : N (mv a b lo) ≤ N (mv a b t) := by
  subst e
  rcases Int.lt_trichotomy t lo with c | c | c
  · obtain ⟨u, h1, h2, h3⟩ := h.dn t c
    rw [show u = lo by omega] at h3
    exact h3
  · rw [c]; exact Int.le_refl _
  · obtain ⟨u, h1, h2, h3⟩ := h.up t c
    rw [show u = lo by omega] at h3
    exact h3
theorem Hv.start (a b : Pt) (hb : 0 < N b) {m : Int} (hm : m = 2 * N a / N b) : Hv (N := N) a b (0 - m) m := by
  have hN : 0 ≤ N a := H.nn a.1 a.2
  have m0 : 0 ≤ m := by rw [hm]; exact Int.ediv_nonneg (by omega) (by omega)
  have big : ∀ t : Int, m < t.natAbs → N (mv a b 0) ≤ N (mv a b t) := fun t ht => by
    have e : N (mv a b 0) = N a := by
      show N (a.1 + 0 * b.1, a.2 + 0 * b.2) = N a
      rw [Int.zero_mul, Int.zero_mul, Int.add_zero, Int.add_zero]
    have h1 := H.low a b t
    have h2 : 2 * N a < (m + 1) * N b := by
      have := Int.lt_ediv_add_one_mul_self (2 * N a) hb
      rw [← hm] at this
      exact this
    have h3 : (m + 1) * N b ≤ (t.natAbs : Int) * N b := Int.mul_le_mul_of_nonneg_right (by omega) (by omega)
    omega
  refine ⟨by omega, fun t ht => ⟨0, by omega, by omega, big t (by omega)⟩, fun t ht => ⟨0, by omega, by omega, big t (by omega)⟩⟩
theorem Hv.step {a b : Pt} {lo hi md : Int} (h : Hv (N := N) a b lo hi) (hl : lo ≤ md) (hm : md < hi) :
    (N (mv a b (md + 1)) < N (mv a b md) → Hv (N := N) a b (md + 1) hi) ∧ (¬ N (mv a b (md + 1)) < N (mv a b md) → Hv (N := N) a b lo md) := by
  refine ⟨fun c => ?_, fun c => ?_⟩
  · have f := H.fall a b md (by omega)
    have f' : ∀ t, t ≤ md → N (mv a b (md + 1)) ≤ N (mv a b t) := fun t ht => by
      have := (f (md - t).toNat).2
      rw [show md - ((md - t).toNat : Int) = t by omega] at this
      exact this
    have g : ∀ u, lo ≤ u → u ≤ hi → ∃ u', md + 1 ≤ u' ∧ u' ≤ hi ∧ N (mv a b u') ≤ N (mv a b u) := fun u h1 h2 => by
      rcases Int.lt_or_le md u with q | q
      · exact ⟨u, by omega, h2, Int.le_refl _⟩
      · exact ⟨md + 1, Int.le_refl _, by omega, f' u q⟩
    refine ⟨by omega, fun t ht => ⟨md + 1, Int.le_refl _, by omega, f' t (by omega)⟩, fun t ht => ?_⟩
    obtain ⟨u, h1, h2, h3⟩ := h.up t ht
    obtain ⟨u', k1, k2, k3⟩ := g u h1 h2
    exact ⟨u', k1, k2, by omega⟩
  · have f := H.rise a b md (by omega)
    have f' : ∀ t, md ≤ t → N (mv a b md) ≤ N (mv a b t) := fun t ht => by
      have := (f (t - md).toNat).2
      rw [show md + ((t - md).toNat : Int) = t by omega] at this
      exact this
    refine ⟨hl, fun t ht => ?_, fun t ht => ⟨md, hl, Int.le_refl _, f' t (by omega)⟩⟩
    obtain ⟨u, h1, h2, h3⟩ := h.dn t ht
    rcases Int.lt_or_le md u with q | q
    · exact ⟨md, hl, Int.le_refl _, by have := f' u (by omega); omega⟩
    · exact ⟨u, h1, q, h3⟩
/-- two directions that make all others -/
def Base (s g : Pt) : Prop := s.1 * g.2 - s.2 * g.1 = 1 ∨ s.1 * g.2 - s.2 * g.1 = -1
omit H in
theorem near_int (m n : Int) (hn : 0 < n) : ∃ q r, m = q * n + r ∧ 2 * r ≤ n ∧ -n ≤ 2 * r := by
  refine ⟨(2 * m + n) / (2 * n), m - (2 * m + n) / (2 * n) * n, by omega, ?_, ?_⟩
  · have h1 := Int.lt_ediv_add_one_mul_self (2 * m + n) (show 0 < 2 * n by omega)
    generalize (2 * m + n) / (2 * n) = q at h1 ⊢
    have : (q + 1) * (2 * n) = 2 * (q * n) + 2 * n := by grind
    omega
  · have h1 := Int.ediv_mul_le (2 * m + n) (show 2 * n ≠ 0 by omega)
    generalize (2 * m + n) / (2 * n) = q at h1 ⊢
    have : q * (2 * n) = 2 * (q * n) := by grind
    omega
/-- THE END OF THE LOWERING -/
theorem Norm.least {s g : Pt} (hb : Base s g) (hsg : N s ≤ N g) (hg : ∀ t, N g ≤ N (mv g s t)) (d : Pt) (hd : d.1 ≠ 0 ∨ d.2 ≠ 0) : N s ≤ N d := by
  -- d = m s + n g
  obtain ⟨m, n, e1, e2⟩ : ∃ m n : Int, d.1 = m * s.1 + n * g.1 ∧ d.2 = m * s.2 + n * g.2 := by
    rcases hb with c | c
    · refine ⟨d.1 * g.2 - d.2 * g.1, s.1 * d.2 - s.2 * d.1, ?_, ?_⟩
      · have : (d.1 * g.2 - d.2 * g.1) * s.1 + (s.1 * d.2 - s.2 * d.1) * g.1 = d.1 * (s.1 * g.2 - s.2 * g.1) := by grind
        rw [this, c, Int.mul_one]
      · have : (d.1 * g.2 - d.2 * g.1) * s.2 + (s.1 * d.2 - s.2 * d.1) * g.2 = d.2 * (s.1 * g.2 - s.2 * g.1) := by grind
        rw [this, c, Int.mul_one]
    · refine ⟨-(d.1 * g.2 - d.2 * g.1), -(s.1 * d.2 - s.2 * d.1), ?_, ?_⟩
      · have : -(d.1 * g.2 - d.2 * g.1) * s.1 + -(s.1 * d.2 - s.2 * d.1) * g.1 = -(d.1 * (s.1 * g.2 - s.2 * g.1)) := by grind
        rw [this, c]
        omega
      · have : -(d.1 * g.2 - d.2 * g.1) * s.2 + -(s.1 * d.2 - s.2 * d.1) * g.2 = -(d.2 * (s.1 * g.2 - s.2 * g.1)) := by grind
        rw [this, c]
        omega
  have hs0 : 0 ≤ N s := H.nn s.1 s.2
  -- it's enough for n not below 0
  have key : ∀ (m n : Int) (d : Pt), (d.1 ≠ 0 ∨ d.2 ≠ 0) → 0 ≤ n → d.1 = m * s.1 + n * g.1 → d.2 = m * s.2 + n * g.2 → N s ≤ N d := by
    intro m n d hd hn e1 e2
    rcases Int.lt_or_eq_of_le hn with c | c
    · obtain ⟨q, r, e, r1, r2⟩ := near_int m n c
      have t := H.tri d.1 d.2 (-r * s.1) (-r * s.2)
      rw [show d.1 + -r * s.1 = n * (g.1 + q * s.1) by rw [e1, e]; grind, show d.2 + -r * s.2 = n * (g.2 + q * s.2) by rw [e2, e]; grind, H.hom n _ _ (by omega), H.abs] at t
      have e3 : N (d.1, d.2) = N d := rfl
      have e4 : N (s.1, s.2) = N s := rfl
      have e5 : N (g.1 + q * s.1, g.2 + q * s.2) = N (mv g s q) := rfl
      rw [e3, e4, e5] at t
      have h1 : n * N g ≤ n * N (mv g s q) := Int.mul_le_mul_of_nonneg_left (hg q) (by omega)
      have h2 : n * N s ≤ n * N g := Int.mul_le_mul_of_nonneg_left hsg (by omega)
      rcases Int.lt_or_le n 2 with k | k
      · -- n is 1: r is 0
        have hn1 : n = 1 := by omega
        have hr : r = 0 := by omega
        subst hr
        subst hn1
        simp at t h1 h2
        omega
      · have h3 : 2 * (((-r).natAbs : Int) * N s) ≤ n * N s := by
          have : 2 * (((-r).natAbs : Int) * N s) = (2 * ((-r).natAbs : Int)) * N s := by grind
          rw [this]
          exact Int.mul_le_mul_of_nonneg_right (by omega) hs0
        have h4 : 2 * N s ≤ n * N s := Int.mul_le_mul_of_nonneg_right k hs0
        omega
    · subst c
      rw [Int.zero_mul, Int.add_zero] at e1 e2
      have hm : m ≠ 0 := fun z => by
        subst z
        rw [Int.zero_mul] at e1 e2
        rcases hd with k | k
        · exact k e1
        · exact k e2
      have e3 : N d = N (m * s.1, m * s.2) := by rw [← e1, ← e2]
      rw [e3, H.abs]
      have : (1 : Int) * N s ≤ (m.natAbs : Int) * N s := Int.mul_le_mul_of_nonneg_right (by omega) hs0
      have e4 : N (s.1, s.2) = N s := rfl
      rw [e4]
      omega
  rcases Int.le_total 0 n with c | c
  · exact key m n d hd c e1 e2
  · have := key (-m) (-n) (-d.1, -d.2) (by simp only []; omega) (by omega) (by simp only []; rw [e1]; grind) (by simp only []; rw [e2]; grind)
    rw [H.neg] at this
    exact this
end
end Cf

namespace Cf
open Rc60 (cross edges along widthOf)
theorem fold_low {α : Type} {g : Int → α → Int} {Good : Int → Prop} (h1 : ∀ m x, g m x ≤ m) (h2 : ∀ m x, g m x = m ∨ Good (g m x)) : ∀ (L : List α) (m : Int), L.foldl g m ≤ m ∧ (L.foldl g m = m ∨ Good (L.foldl g m)) ∧ ∀ x ∈ L, ∃ m', L.foldl g m ≤ g m' x
  | [], m => ⟨Int.le_refl _, .inl rfl, fun x hx => by cases hx⟩
  | a :: L, m => by
    have ih := fold_low h1 h2 L (g m a)
    show L.foldl g (g m a) ≤ m ∧ (L.foldl g (g m a) = m ∨ Good (L.foldl g (g m a))) ∧ ∀ x ∈ a :: L, ∃ m', L.foldl g (g m a) ≤ g m' x
    refine ⟨Int.le_trans ih.1 (h1 m a), ?_, fun x hx => ?_⟩
    · rcases ih.2.1 with e | e
      · rcases h2 m a with k | k
        · exact .inl (e.trans k)
        · rw [e]; exact .inr k
      · exact .inr e
    · rcases List.mem_cons.mp hx with e | e
      · rw [e]; exact ⟨m, ih.1⟩
      · exact ih.2.2 x e
/-- the width is the least in any direction -/
theorem width_is {l : List Pt} (F : Fig l) {m : Int} (h1 : ∃ d : Pt, (d.1 ≠ 0 ∨ d.2 ≠ 0) ∧ along d l = m) (h2 : ∀ d : Pt, (d.1 ≠ 0 ∨ d.2 ≠ 0) → m ≤ along d l) : widthOf l = m := by
  obtain ⟨p, q, r, s, e, hc, _⟩ := F.corners
  have hp : p ∈ l := by rw [e]; simp
  have hq : q ∈ l := by rw [e]; simp
  have hr : r ∈ l := by rw [e]; simp
  have hne : l ≠ [] := fun z => by rw [z] at hp; cases hp
  have e0 : l.getD 0 (0, 0) = p := by rw [e]; rfl
  have e1 : l.getD 1 (0, 0) = q := by rw [e]; rfl
  have e2 : l.getD 2 (0, 0) = r := by rw [e]; rfl
  unfold widthOf
  simp only [e0, e1, e2]
  obtain ⟨a, ea⟩ : ∃ a, a = q.1 - p.1 := ⟨_, rfl⟩
  obtain ⟨b, eb⟩ : ∃ b, b = q.2 - p.2 := ⟨_, rfl⟩
  obtain ⟨c, ec⟩ : ∃ c, c = r.1 - p.1 := ⟨_, rfl⟩
  obtain ⟨f, ef⟩ : ∃ f, f = r.2 - p.2 := ⟨_, rfl⟩
  rw [← ea, ← eb, ← ec, ← ef]
  have hdet : 0 < a * f - b * c := by
    unfold cross at hc
    rw [← ea, ← eb, ← ec, ← ef] at hc
    exact hc
  obtain ⟨w, ew⟩ : ∃ w, w = along (1, 0) l := ⟨_, rfl⟩
  rw [← ew]
  have hw : m ≤ w := by rw [ew]; exact h2 (1, 0) (.inl (by decide))
  -- the inner fold's step
  have hdir : ∀ {x y : Int}, ¬ ((x, y) : Pt) = (0, 0) → x ≠ 0 ∨ y ≠ 0 := fun {x y} h => by
    by_cases z : x = 0
    · right
      intro z2
      exact h (by rw [z, z2])
    · exact .inl z
  have inner := fun (s : Int) => fold_low (g := fun (m : Int) (t : Int) => if (s * f - t * b) % (a * f - b * c) = 0 ∧ (a * t - c * s) % (a * f - b * c) = 0 then
      if (((s * f - t * b) / (a * f - b * c), (a * t - c * s) / (a * f - b * c)) : Pt) = (0, 0) then m else min m (along ((s * f - t * b) / (a * f - b * c), (a * t - c * s) / (a * f - b * c)) l) else m)
    (Good := fun z => ∃ d : Pt, (d.1 ≠ 0 ∨ d.2 ≠ 0) ∧ z = along d l)
    (fun m t => by
      split
      · split
        · exact Int.le_refl _
        · exact Int.min_le_left _ _
      · exact Int.le_refl _)
    (fun m t => by
      split
      · split
        · exact .inl rfl
        · rename_i h
          rcases Int.le_total m (along ((s * f - t * b) / (a * f - b * c), (a * t - c * s) / (a * f - b * c)) l) with k | k
          · rw [Int.min_eq_left k]; exact .inl rfl
          · rw [Int.min_eq_right k]; exact .inr ⟨_, hdir h, rfl⟩
      · exact .inl rfl)
  obtain ⟨R, eR⟩ : ∃ R, R = (List.range (2 * w.toNat + 1)).map fun (i : Nat) => (i : Int) - w := ⟨_, rfl⟩
  rw [← eR]
  have outer := fold_low (g := fun (m : Int) (s : Int) => R.foldl (fun (m : Int) (t : Int) => if (s * f - t * b) % (a * f - b * c) = 0 ∧ (a * t - c * s) % (a * f - b * c) = 0 then
      if (((s * f - t * b) / (a * f - b * c), (a * t - c * s) / (a * f - b * c)) : Pt) = (0, 0) then m else min m (along ((s * f - t * b) / (a * f - b * c), (a * t - c * s) / (a * f - b * c)) l) else m) m)
    (Good := fun z => ∃ d : Pt, (d.1 ≠ 0 ∨ d.2 ≠ 0) ∧ z = along d l) (fun m s => (inner s R m).1) (fun m s => (inner s R m).2.1) R w
  refine Int.le_antisymm ?_ ?_
  · obtain ⟨d, hd, hdm⟩ := h1
    have sp := (along_spec hne d).2
    have s1 := sp q hq p hp
    have s2 := sp p hp q hq
    have t1 := sp r hr p hp
    have t2 := sp p hp r hr
    rw [hdm] at s1 s2 t1 t2
    have es : ∃ s0, s0 = a * d.1 + b * d.2 := ⟨_, rfl⟩
    have et : ∃ t0, t0 = c * d.1 + f * d.2 := ⟨_, rfl⟩
    obtain ⟨s0, es⟩ := es
    obtain ⟨t0, et⟩ := et
    have es' : s0 = d.1 * q.1 + d.2 * q.2 - (d.1 * p.1 + d.2 * p.2) := by rw [es, ea, eb]; grind
    have et' : t0 = d.1 * r.1 + d.2 * r.2 - (d.1 * p.1 + d.2 * p.2) := by rw [et, ec, ef]; grind
    have mR : ∀ z : Int, -w ≤ z → z ≤ w → z ∈ R := fun z z1 z2 => by
      rw [eR]
      exact List.mem_map.mpr ⟨(z + w).toNat, List.mem_range.mpr (by omega), by omega⟩
    have m1 : s0 ∈ R := mR s0 (by omega) (by omega)
    have m2 : t0 ∈ R := mR t0 (by omega) (by omega)
    obtain ⟨k1, hk1⟩ := outer.2.2 s0 m1
    obtain ⟨k2, hk2⟩ := (inner s0 R k1).2.2 t0 m2
    have x1 : s0 * f - t0 * b = d.1 * (a * f - b * c) := by rw [es, et]; grind
    have x2 : a * t0 - c * s0 = d.2 * (a * f - b * c) := by rw [es, et]; grind
    simp only [x1, x2, Int.mul_emod_left, and_self, if_true, Int.mul_ediv_cancel _ (show a * f - b * c ≠ 0 by omega)] at hk2
    have nd : ¬ ((d.1, d.2) : Pt) = (0, 0) := fun z => by
      have z1 := congrArg Prod.fst z
      have z2 := congrArg Prod.snd z
      simp only [] at z1 z2
      rcases hd with k | k
      · exact k z1
      · exact k z2
    rw [if_neg nd] at hk2
    have hl : along (d.1, d.2) l = m := hdm
    rw [hl] at hk2
    have := Int.min_le_right k2 m
    exact Int.le_trans hk1 (Int.le_trans hk2 this)
  · rcases outer.2.1 with k | ⟨d, hd, k⟩
    · rw [k]; exact hw
    · rw [k]; exact h2 d hd
end Cf

namespace Cf
open Rc60 (ways steps parts edges)

/-! ## counting by a dict of sums -/
abbrev Dic := List (Pt × Int)
/-- more[k] = more.get(k, 0) + n -/
def addK : Dic → Pt → Int → Dic
  | [], k, n => [(k, 0 + n)]
  | (a, v) :: r, k, n => if a = k then (a, v + n) :: r else (a, v) :: addK r k n
def look (d : Dic) (k : Pt) : Int := ((d.find? fun e => decide (e.1 = k)).map (·.2)).getD 0
def tot (d : Dic) (F : Pt → Int) : Int := (d.map fun e => e.2 * F e.1).sum
theorem tot_cons (e : Pt × Int) (d : Dic) (F : Pt → Int) : tot (e :: d) F = e.2 * F e.1 + tot d F := by
  unfold tot
  rw [List.map_cons, List.sum_cons]
theorem tot_add (F : Pt → Int) (k : Pt) (n : Int) : ∀ d : Dic, tot (addK d k n) F = tot d F + n * F k
  | [] => by
    show (0 + n) * F k + 0 = 0 + n * F k
    rw [Int.zero_add]
    omega
  | (a, v) :: r => by
    unfold addK
    by_cases c : a = k
    · rw [if_pos c, tot_cons, tot_cons]
      show (v + n) * F a + _ = v * F a + _ + n * F k
      rw [c]
      grind
    · rw [if_neg c, tot_cons, tot_cons, tot_add F k n r]
      omega
theorem add_keys (k : Pt) (n : Int) : ∀ d : Dic, ∀ x, x ∈ (addK d k n).map (·.1) ↔ x = k ∨ x ∈ d.map (·.1)
  | [], x => by simp [addK]
  | (a, v) :: r, x => by
    unfold addK
    by_cases c : a = k
    · rw [if_pos c]
      simp only [List.map_cons, List.mem_cons]
      rw [c]
      simp
    · rw [if_neg c]
      have ih := add_keys k n r x
      simp only [List.map_cons, List.mem_cons]
      rw [ih]
      constructor
      · rintro (h | h | h)
        · exact .inr (.inl h)
        · exact .inl h
        · exact .inr (.inr h)
      · rintro (h | h | h)
        · exact .inr (.inl h)
        · exact .inl h
        · exact .inr (.inr h)
theorem add_nodup (k : Pt) (n : Int) : ∀ d : Dic, (d.map (·.1)).Nodup → ((addK d k n).map (·.1)).Nodup
  | [], _ => by simp [addK]
  | (a, v) :: r, h => by
    have h1 := List.nodup_cons.mp h
    unfold addK
    by_cases c : a = k
    · rw [if_pos c]
      exact h
    · rw [if_neg c]
      refine List.nodup_cons.mpr ⟨fun q => ?_, add_nodup k n r h1.2⟩
      rcases (add_keys k n r a).mp q with e | e
      · exact c e
      · exact h1.1 e
theorem add_len (k : Pt) (n : Int) : ∀ d : Dic, (addK d k n).length ≤ d.length + 1
  | [] => by simp [addK]
  | (a, v) :: r => by
    unfold addK
    by_cases c : a = k
    · rw [if_pos c]
      exact Nat.le_succ _
    · rw [if_neg c]
      have := add_len k n r
      simp only [List.length_cons]
      omega
theorem tot_zero : ∀ (d : Dic) (k : Pt), k ∉ d.map (·.1) → tot d (fun p => if p = k then 1 else 0) = 0
  | [], _, _ => rfl
  | (a, v) :: r, k, h => by
    rw [tot_cons]
    have h1 : a ≠ k := fun e => h (by rw [← e]; simp)
    have h2 := tot_zero r k fun q => h (by rw [List.map_cons]; exact List.mem_cons_of_mem _ q)
    rw [h2]
    simp only []
    rw [if_neg h1]
    omega
theorem look_tot : ∀ (d : Dic) (k : Pt), (d.map (·.1)).Nodup → look d k = tot d fun p => if p = k then 1 else 0
  | [], _, _ => rfl
  | (a, v) :: r, k, h => by
    have h1 := List.nodup_cons.mp h
    rw [tot_cons]
    by_cases c : a = k
    · have e : look ((a, v) :: r) k = v := by
        unfold look
        rw [List.find?_cons_of_pos (by simpa using c)]
        rfl
      rw [e, tot_zero r k (by rw [← c]; exact h1.1)]
      simp only []
      rw [if_pos c]
      omega
    · have e : look ((a, v) :: r) k = look r k := by
        unfold look
        rw [List.find?_cons_of_neg (by simpa using c)]
      rw [e, look_tot r k h1.2]
      simp only []
      rw [if_neg c]
      omega
/-- one entry of the old dict: none to all steps of an edge -/
def turnD (p : Pt) (n : Int) (s : Pt) (m : Dic) (k : Nat) : Dic := addK m (p.1 + (k : Int) * s.1, p.2 + (k : Int) * s.2) n
def rowD (s : Pt) (g : Nat) (m : Dic) (e : Pt × Int) : Dic := (List.range (g + 1)).foldl (turnD e.1 e.2 s) m
def withE (d : Dic) (x : Pt × Nat) : Dic := d.foldl (rowD x.1 x.2) []
def allE (L : List (Pt × Nat)) : Dic := L.foldl withE [((0, 0), 1)]
theorem foldl_inv {α β : Type} {P : β → Prop} {f : β → α → β} (h : ∀ b a, P b → P (f b a)) : ∀ (l : List α) (b : β), P b → P (l.foldl f b)
  | [], _, hb => hb
  | a :: l, b, hb => foldl_inv h l (f b a) (h b a hb)
theorem row_nodup (s : Pt) (g : Nat) (m : Dic) (e : Pt × Int) (h : (m.map (·.1)).Nodup) : ((rowD s g m e).map (·.1)).Nodup :=
  foldl_inv (P := fun m : Dic => (m.map (·.1)).Nodup) (fun b a hb => add_nodup _ _ b hb) _ m h
theorem with_nodup (d : Dic) (x : Pt × Nat) : ((withE d x).map (·.1)).Nodup :=
  foldl_inv (P := fun m : Dic => (m.map (·.1)).Nodup) (fun b a hb => row_nodup _ _ b a hb) _ [] List.nodup_nil
theorem all_nodup (L : List (Pt × Nat)) : ((allE L).map (·.1)).Nodup :=
  foldl_inv (P := fun m : Dic => (m.map (·.1)).Nodup) (fun b a _ => with_nodup b a) L _ (by simp)
theorem turns_len (p : Pt) (n : Int) (s : Pt) : ∀ (L : List Nat) (m : Dic), (L.foldl (turnD p n s) m).length ≤ m.length + L.length
  | [], m => Nat.le_refl _
  | k :: L, m => by
    have ih := turns_len p n s L (turnD p n s m k)
    have := add_len (p.1 + (k : Int) * s.1, p.2 + (k : Int) * s.2) n m
    have e : (turnD p n s m k).length ≤ m.length + 1 := this
    simp only [List.foldl_cons, List.length_cons]
    omega
theorem rows_len (s : Pt) (g : Nat) : ∀ (d m : Dic), (d.foldl (rowD s g) m).length ≤ m.length + d.length * (g + 1)
  | [], m => by simp
  | e :: d, m => by
    have ih := rows_len s g d (rowD s g m e)
    have h := turns_len e.1 e.2 s (List.range (g + 1)) m
    rw [List.length_range] at h
    have e1 : (rowD s g m e).length ≤ m.length + (g + 1) := h
    simp only [List.foldl_cons, List.length_cons]
    have : (d.length + 1) * (g + 1) = d.length * (g + 1) + (g + 1) := by rw [Nat.succ_mul]
    omega
theorem with_len (d : Dic) (x : Pt × Nat) : (withE d x).length ≤ d.length * (x.2 + 1) := by
  have := rows_len x.1 x.2 d []
  simpa [withE] using this
theorem pow_succ_le (g : Nat) : g + 1 ≤ 2 ^ g := Nat.lt_two_pow_self
theorem folds_len : ∀ (L : List (Pt × Nat)) (d : Dic), (L.foldl withE d).length ≤ d.length * 2 ^ (L.map (·.2)).sum
  | [], d => by simp
  | x :: L, d => by
    have ih := folds_len L (withE d x)
    have h := with_len d x
    rw [List.foldl_cons, List.map_cons, List.sum_cons, Nat.pow_add]
    refine Nat.le_trans ih ?_
    rw [← Nat.mul_assoc]
    exact Nat.mul_le_mul_right _ (Nat.le_trans h (Nat.mul_le_mul_left _ (pow_succ_le x.2)))
theorem all_len (L : List (Pt × Nat)) : (allE L).length ≤ 2 ^ (L.map (·.2)).sum := by
  have := folds_len L [((0, 0), 1)]
  simpa [allE] using this

/-- the specification's recursion, over any end -/
def psi : List (Pt × Nat) → (Pt → Int) → Pt → Int
  | [], F, s => F s
  | x :: r, F, s => ((List.range (x.2 + 1)).map fun (k : Nat) => psi r F (s.1 + (k : Int) * x.1.1, s.2 + (k : Int) * x.1.2)).sum
theorem psi_app (F : Pt → Int) : ∀ (A B : List (Pt × Nat)) (s : Pt), psi (A ++ B) F s = psi A (psi B F) s
  | [], _, _ => rfl
  | x :: A, B, s => by
    show ((List.range (x.2 + 1)).map fun (k : Nat) => psi (A ++ B) F _).sum = ((List.range (x.2 + 1)).map fun (k : Nat) => psi A (psi B F) _).sum
    congr 1
    refine List.map_congr_left fun k _ => ?_
    exact psi_app F A B _
theorem psi_congr {F G : Pt → Int} (h : ∀ s, F s = G s) : ∀ (A : List (Pt × Nat)) (s : Pt), psi A F s = psi A G s := fun A s => by
  have : F = G := funext h
  rw [this]
theorem ways_psi : ∀ (L : List (Pt × Nat)) (s : Pt), (ways L s : Int) = psi L (fun p => if p = (0, 0) then 1 else 0) s
  | [], s => by
    show ((if s = (0, 0) then 1 else 0 : Nat) : Int) = if s = (0, 0) then 1 else 0
    split <;> rfl
  | x :: r, s => by
    show (((List.range (x.2 + 1)).map fun (k : Nat) => ways r (s.1 + (k : Int) * x.1.1, s.2 + (k : Int) * x.1.2)).sum : Int) = ((List.range (x.2 + 1)).map fun (k : Nat) => psi r _ _).sum
    rw [sum_cast]
    congr 1
    refine List.map_congr_left fun k _ => ?_
    exact ways_psi r _
/-- a goal moved -/
theorem psi_shift : ∀ (L : List (Pt × Nat)) (s q : Pt), psi L (fun p => if p = q then 1 else 0) s = psi L (fun p => if p = (0, 0) then 1 else 0) (s.1 - q.1, s.2 - q.2)
  | [], s, q => by
    show (if s = q then (1 : Int) else 0) = if ((s.1 - q.1, s.2 - q.2) : Pt) = (0, 0) then 1 else 0
    have : s = q ↔ ((s.1 - q.1, s.2 - q.2) : Pt) = (0, 0) := by
      rw [Prod.ext_iff, Prod.ext_iff]
      simp only []
      omega
    simp only [this]
  | x :: r, s, q => by
    show ((List.range (x.2 + 1)).map fun (k : Nat) => psi r _ _).sum = ((List.range (x.2 + 1)).map fun (k : Nat) => psi r _ _).sum
    congr 1
    refine List.map_congr_left fun k _ => ?_
    rw [psi_shift r _ q]
    congr 1
    exact Prod.ext (by simp only []; omega) (by simp only []; omega)
theorem turns_tot (p : Pt) (n : Int) (s : Pt) (F : Pt → Int) : ∀ (L : List Nat) (m : Dic), tot (L.foldl (turnD p n s) m) F = tot m F + n * (L.map fun (k : Nat) => F (p.1 + (k : Int) * s.1, p.2 + (k : Int) * s.2)).sum
  | [], m => by simp
  | k :: L, m => by
    rw [List.foldl_cons, turns_tot p n s F L, List.map_cons, List.sum_cons]
    have : tot (turnD p n s m k) F = tot m F + n * F (p.1 + (k : Int) * s.1, p.2 + (k : Int) * s.2) := tot_add F _ n m
    rw [this, Int.mul_add]
    omega
theorem rows_tot (x : Pt × Nat) (F : Pt → Int) : ∀ (d m : Dic), tot (d.foldl (rowD x.1 x.2) m) F = tot m F + tot d (fun p => ((List.range (x.2 + 1)).map fun (k : Nat) => F (p.1 + (k : Int) * x.1.1, p.2 + (k : Int) * x.1.2)).sum)
  | [], m => by
    show tot m F = tot m F + 0
    omega
  | e :: d, m => by
    rw [List.foldl_cons, rows_tot x F d, tot_cons]
    have : tot (rowD x.1 x.2 m e) F = _ := turns_tot e.1 e.2 x.1 F (List.range (x.2 + 1)) m
    rw [this]
    omega
theorem folds_tot (F : Pt → Int) : ∀ (L : List (Pt × Nat)) (d : Dic), tot (L.foldl withE d) F = tot d (psi L F)
  | [], d => rfl
  | x :: L, d => by
    rw [List.foldl_cons, folds_tot F L]
    have := rows_tot x (psi L F) d []
    have e : tot (withE d x) (psi L F) = tot (d.foldl (rowD x.1 x.2) []) (psi L F) := rfl
    rw [e, this]
    show 0 + _ = _
    rw [Int.zero_add]
    rfl
theorem all_tot (L : List (Pt × Nat)) (F : Pt → Int) : tot (allE L) F = psi L F (0, 0) := by
  unfold allE
  rw [folds_tot]
  show 1 * psi L F (0, 0) + 0 = _
  omega
/-- the program's sum over the one half's dict, looking up in the other's -/
theorem parts_is (A B : List (Pt × Nat)) : tot (allE A) (fun p => look (allE B) (-p.1, -p.2)) = ways (A ++ B) (0, 0) := by
  rw [ways_psi, psi_app, all_tot]
  refine psi_congr (fun s => ?_) A (0, 0)
  rw [look_tot _ _ (all_nodup B), all_tot, psi_shift]
  congr 1
  exact Prod.ext (by simp only []; omega) (by simp only []; omega)
end Cf

namespace Cf
open Rc60 (cross edges holds roomFor reachOf)

/-! ## room -/
/-- how far out a figure goes across an edge -/
def fo (l : List Pt) (e : Pt × Pt) : Int := let v := l.map fun p => p.1 * (e.2.2 - e.1.2) - p.2 * (e.2.1 - e.1.1); v.foldl max (v.headD 0)
theorem fo_spec {l : List Pt} (h : l ≠ []) (e : Pt × Pt) : (∃ p ∈ l, fo l e = p.1 * (e.2.2 - e.1.2) - p.2 * (e.2.1 - e.1.1)) ∧ ∀ p ∈ l, p.1 * (e.2.2 - e.1.2) - p.2 * (e.2.1 - e.1.1) ≤ fo l e := by
  have hn : (l.map fun p => p.1 * (e.2.2 - e.1.2) - p.2 * (e.2.1 - e.1.1)) ≠ [] := fun z => h (List.map_eq_nil_iff.mp z)
  have a := most_mem hn
  obtain ⟨p, hp, ep⟩ := List.mem_map.mp a.1
  exact ⟨⟨p, hp, ep.symm⟩, fun q hq => a.2 _ (List.mem_map.mpr ⟨q, hq, rfl⟩)⟩
theorem Fig.ne {l : List Pt} (F : Fig l) : l ≠ [] := fun e => by have := F.len; rw [e] at this; simp at this
/-- of the figure's own edge -/
theorem fo_own {l : List Pt} (F : Fig l) {e : Pt × Pt} (he : e ∈ edges l) : fo l e = e.1.1 * (e.2.2 - e.1.2) - e.1.2 * (e.2.1 - e.1.1) := by
  have s := fo_spec F.ne e
  refine Int.le_antisymm ?_ (s.2 _ (F.conv e he).1)
  obtain ⟨p, hp, ep⟩ := s.1
  have w := F.weak he hp
  rw [ep]
  unfold cross at w
  grind
abbrev spr (l m : List Pt) (e : Pt × Pt) : Int := fo l e - fo m e
/-- a shift keeps to an edge if all points do -/
theorem keeps {l m : List Pt} (F : Fig l) (hm : m ≠ []) {e : Pt × Pt} (he : e ∈ edges l) (a b : Int) : (∀ p ∈ m, 0 ≤ cross e.1 e.2 (p.1 + a, p.2 + b)) ↔ a * (e.2.2 - e.1.2) - b * (e.2.1 - e.1.1) ≤ spr l m e := by
  have o := fo_own F he
  have s := fo_spec hm e
  unfold spr
  rw [o]
  constructor
  · intro h
    obtain ⟨p, hp, ep⟩ := s.1
    have := h p hp
    rw [ep]
    unfold cross at this
    simp only [] at this
    grind
  · intro h p hp
    have := s.2 p hp
    unfold cross
    simp only []
    grind
theorem shift_iff {l m : List Pt} (F : Fig l) (hm : m ≠ []) (a b : Int) : (m.all fun p => holds l (p.1 + a, p.2 + b)) = true ↔ ∀ e ∈ edges l, a * (e.2.2 - e.1.2) - b * (e.2.1 - e.1.1) ≤ spr l m e := by
  rw [List.all_eq_true]
  constructor
  · intro h e he
    exact (keeps F hm he a b).mp fun p hp => of_decide_eq_true (List.all_eq_true.mp (h p hp) e he)
  · intro h p hp
    exact List.all_eq_true.mpr fun e he => decide_eq_true ((keeps F hm he a b).mpr (h e he) p hp)
/-- an upright edge keeps nothing more than the ends do -/
theorem upright {l m : List Pt} (F : Fig l) (hm : m ≠ []) {lo hi : List Pt} {x0 xl : Pt} (h : Sh l lo hi x0 xl) {e : Pt × Pt} (he : e ∈ edges l) (z : e.2.1 - e.1.1 = 0) {u0 u1 a : Int} (hu : ∀ p ∈ m, u0 ≤ p.1 ∧ p.1 ≤ u1) (a1 : x0.1 - u0 ≤ a) (a2 : a ≤ xl.1 - u1) (b : Int) :
    a * (e.2.2 - e.1.2) - b * (e.2.1 - e.1.1) ≤ spr l m e := by
  have s := fo_spec F.ne e
  have t := fo_spec hm e
  obtain ⟨p, hp, ep⟩ := t.1
  have k1 := s.2 x0 h.x0_in
  have k2 := s.2 xl h.xl_in
  unfold spr
  rw [z] at *
  rw [ep]
  simp only [Int.mul_zero, Int.sub_zero] at *
  have hp' := hu p hp
  rcases Int.le_total 0 (e.2.2 - e.1.2) with c | c
  · have : 0 ≤ (xl.1 - p.1 - a) * (e.2.2 - e.1.2) := Int.mul_nonneg (by omega) c
    have e3 : (xl.1 - p.1 - a) * (e.2.2 - e.1.2) = xl.1 * (e.2.2 - e.1.2) - p.1 * (e.2.2 - e.1.2) - a * (e.2.2 - e.1.2) := by grind
    omega
  · have : 0 ≤ (x0.1 - p.1 - a) * (e.2.2 - e.1.2) := Int.mul_nonneg_of_nonpos_of_nonpos (by omega) c
    have e3 : (x0.1 - p.1 - a) * (e.2.2 - e.1.2) = x0.1 * (e.2.2 - e.1.2) - p.1 * (e.2.2 - e.1.2) - a * (e.2.2 - e.1.2) := by grind
    omega
theorem fdiv_pos {A r b : Int} (hr : 0 < r) : -(A.fdiv r) ≤ b ↔ -A ≤ b * r := by
  rw [Int.fdiv_eq_ediv_of_nonneg _ (Int.le_of_lt hr)]
  have := Int.le_ediv_iff_mul_le (a := -b) (b := A) hr
  rw [Int.neg_mul] at this
  omega
theorem fdiv_neg' {A r b : Int} (hr : r < 0) : b ≤ A.fdiv r ↔ A ≤ b * r := by
  have e : A.fdiv r = (-A).fdiv (-r) := by rw [Int.neg_fdiv_neg]
  rw [e, Int.fdiv_eq_ediv_of_nonneg _ (by omega)]
  have := Int.le_ediv_iff_mul_le (a := b) (b := -A) (c := -r) (by omega)
  rw [Int.mul_neg] at this
  omega
section
variable {l lo hi : List Pt} {x0 xl : Pt}
theorem avg_ge {p q : Pt} {x y Y : Int} (h : p.1 < q.1) (h1 : p.1 ≤ x) (h2 : x ≤ q.1) (hp : Y ≤ p.2) (hq : Y ≤ q.2) (hc : 0 ≤ cross p q (x, y)) : Y ≤ y := by
  unfold cross at hc
  simp only [] at hc
  have := Int.mul_nonneg (show 0 ≤ p.2 - Y by omega) (show 0 ≤ q.1 - x by omega)
  have := Int.mul_nonneg (show 0 ≤ q.2 - Y by omega) (show 0 ≤ x - p.1 by omega)
  have e : 0 ≤ (q.1 - p.1) * (y - Y) := by grind
  have := Int.nonneg_of_mul_nonneg_right e (by omega)
  omega
/-- what keeps to all edges, from the first column to the last, is in the box -/
theorem Sh.box (h : Sh l lo hi x0 xl) {x y Y0 Y1 : Int} (hY : ∀ c ∈ l, Y0 ≤ c.2 ∧ c.2 ≤ Y1) (h1 : x0.1 ≤ x) (h2 : x ≤ xl.1) (hh : ∀ e ∈ edges l, 0 ≤ cross e.1 e.2 (x, y)) : Y0 ≤ y ∧ y ≤ Y1 := by
  have w := h.wide
  constructor
  · rcases Int.lt_or_eq_of_le h1 with c | c
    · obtain ⟨⟨p, q⟩, hp, c1, c2, _⟩ := cover lo.tail x0 xl x (by rw [h.loe]; exact h.up) (by rw [h.loe]; exact h.lo1) c h2
      rw [h.loe] at hp
      have m := mem_prs hp
      simp only [] at c1 c2
      exact avg_ge (p := p) (q := q) (by omega) (by omega) c2 (hY p (h.lo_in m.1)).1 (hY q (h.lo_in m.2)).1 (hh _ (h.memE.mpr (.inl hp)))
    · obtain ⟨⟨p, q⟩, hp, c1, c2, _⟩ := cover lo.tail x0 xl (x0.1 + 1) (by rw [h.loe]; exact h.up) (by rw [h.loe]; exact h.lo1) (by omega) (by omega)
      rw [h.loe] at hp
      have m := mem_prs hp
      have k := (h.xr (h.lo_in m.1)).1
      simp only [] at c1 c2
      exact avg_ge (p := p) (q := q) (by omega) (by omega) (by omega) (hY p (h.lo_in m.1)).1 (hY q (h.lo_in m.2)).1 (hh _ (h.memE.mpr (.inl hp)))
  · have up : ∀ x', ng xl = ng xl → (ng xl).1 < x' → x' ≤ (ng x0).1 → ∃ a b : Pt, (a, b) ∈ prs hi ∧ (ng a).1 < x' ∧ x' ≤ (ng b).1 := fun x' _ k1 k2 => by
      obtain ⟨⟨a, b⟩, ha, d1, d2, _⟩ := cover (hn hi).tail (ng xl) (ng x0) x' (by rw [h.hne]; exact h.hn_asc) (by rw [h.hne]; exact h.hn1) k1 k2
      rw [h.hne] at ha
      exact ⟨ng a, ng b, h.hn_prs ha, by rw [ng_ng]; exact d1, by rw [ng_ng]; exact d2⟩
    have fin : ∀ a b : Pt, (a, b) ∈ prs hi → (ng a).1 < (ng b).1 → (ng a).1 ≤ -x → -x ≤ (ng b).1 → y ≤ Y1 := fun a b hab k1 k2 k3 => by
      have m := mem_prs hab
      have e := hh _ (h.memE.mpr (.inr hab))
      rw [← cross_ng] at e
      have b1 := (hY a (h.hi_in m.1)).2
      have b2 := (hY b (h.hi_in m.2)).2
      have := avg_ge (p := ng a) (q := ng b) (x := -x) (y := -y) (Y := -Y1) k1 k2 k3 (by unfold ng; simp only []; omega) (by unfold ng; simp only []; omega) e
      omega
    have n1 : (ng xl).1 = -xl.1 := rfl
    have n2 : (ng x0).1 = -x0.1 := rfl
    rcases Int.lt_or_eq_of_le h2 with c | c
    · obtain ⟨a, b, hab, k1, k2⟩ := up (-x) rfl (by omega) (by omega)
      exact fin a b hab (by omega) (by omega) k2
    · obtain ⟨a, b, hab, k1, k2⟩ := up (-xl.1 + 1) rfl (by omega) (by omega)
      have k := (h.xr (h.hi_in (mem_prs hab).1)).2
      have n3 : (ng a).1 = -a.1 := rfl
      exact fin a b hab (by omega) (by omega) (by omega)
/-- the ends that the program reckons for a column -/
structure Ends (l m : List Pt) (a L G : Int) : Prop where
  l1 : ∃ e ∈ edges l, 0 < e.2.1 - e.1.1 ∧ L = -((spr l m e - a * (e.2.2 - e.1.2)).fdiv (e.2.1 - e.1.1))
  l2 : ∀ e ∈ edges l, 0 < e.2.1 - e.1.1 → -((spr l m e - a * (e.2.2 - e.1.2)).fdiv (e.2.1 - e.1.1)) ≤ L
  g1 : ∃ e ∈ edges l, e.2.1 - e.1.1 < 0 ∧ G = (a * (e.2.2 - e.1.2) - spr l m e).fdiv (e.2.1 - e.1.1)
  g2 : ∀ e ∈ edges l, e.2.1 - e.1.1 < 0 → G ≤ (a * (e.2.2 - e.1.2) - spr l m e).fdiv (e.2.1 - e.1.1)
theorem ends_iff {m : List Pt} (F : Fig l) (hm : m ≠ []) (h : Sh l lo hi x0 xl) {a L G u0 u1 : Int} (hu : ∀ p ∈ m, u0 ≤ p.1 ∧ p.1 ≤ u1) (a1 : x0.1 - u0 ≤ a) (a2 : a ≤ xl.1 - u1) (E : Ends l m a L G) (b : Int) :
    (m.all fun p => holds l (p.1 + a, p.2 + b)) = true ↔ L ≤ b ∧ b ≤ G := by
  rw [shift_iff F hm]
  constructor
  · intro k
    obtain ⟨e, he, c, eL⟩ := E.l1
    obtain ⟨e', he', c', eG⟩ := E.g1
    constructor
    · rw [eL, fdiv_pos c]
      have := k e he
      omega
    · rw [eG, fdiv_neg' c']
      have := k e' he'
      omega
  · rintro ⟨k1, k2⟩ e he
    rcases Int.lt_trichotomy (e.2.1 - e.1.1) 0 with c | c | c
    · have := (fdiv_neg' c).mp (Int.le_trans k2 (E.g2 e he c))
      omega
    · exact upright F hm h he c hu a1 a2 b
    · have := (fdiv_pos c).mp (Int.le_trans (E.l2 e he c) k1)
      omega
theorem reach_eq (v : List Int) : reachOf v = (v.foldl min (v.headD 0), v.foldl max (v.headD 0)) := rfl
/-- how many, column by column -/
theorem room_col {m : List Pt} (F : Fig l) (hm : m ≠ []) (h : Sh l lo hi x0 xl) {a L G u0 u1 : Int} (hu : ∀ p ∈ m, u0 ≤ p.1 ∧ p.1 ≤ u1) (a1 : x0.1 - u0 ≤ a) (a2 : a ≤ xl.1 - u1) (E : Ends l m a L G)
    {Y0 Y1 v0 v1 : Int} (hY : ∀ c ∈ l, Y0 ≤ c.2 ∧ c.2 ≤ Y1) (hv0 : ∃ p ∈ m, p.2 = v0) (hv1 : ∃ p ∈ m, p.2 = v1) :
    (((List.range (Y1 - v1 - (Y0 - v0) + 1).toNat).filter fun (j : Nat) => m.all fun (p : Pt) => holds l (p.1 + a, p.2 + (Y0 - v0) + (j : Int))).length : Int) = max 0 (G - L + 1) := by
  have e0 : ((List.range (Y1 - v1 - (Y0 - v0) + 1).toNat).filter fun (j : Nat) => m.all fun (p : Pt) => holds l (p.1 + a, p.2 + (Y0 - v0) + (j : Int))) =
      (List.range (Y1 - v1 - (Y0 - v0) + 1).toNat).filter fun (j : Nat) => decide (L - 1 < (Y0 - v0) + (j : Int)) && decide ((Y0 - v0) + (j : Int) < G + 1) := by
    refine List.filter_congr fun j _ => ?_
    have i := ends_iff F hm h hu a1 a2 E ((Y0 - v0) + (j : Int))
    rw [Bool.eq_iff_iff, Bool.and_eq_true, decide_eq_true_eq, decide_eq_true_eq]
    have e1 : (m.all fun (p : Pt) => holds l (p.1 + a, p.2 + (Y0 - v0) + (j : Int))) = m.all fun (p : Pt) => holds l (p.1 + a, p.2 + ((Y0 - v0) + (j : Int))) := by
      congr 1
      funext p
      rw [Int.add_assoc]
    rw [e1, i]
    omega
  have inb : ∀ b, L ≤ b → b ≤ G → Y0 - v0 ≤ b ∧ b ≤ Y1 - v1 := fun b b1 b2 => by
    have all := (ends_iff F hm h hu a1 a2 E b).mpr ⟨b1, b2⟩
    have q : ∀ p ∈ m, Y0 ≤ p.2 + b ∧ p.2 + b ≤ Y1 := fun p hp => by
      have hp2 := hu p hp
      refine h.box (x := p.1 + a) hY (by omega) (by omega) fun e he => ?_
      exact of_decide_eq_true (List.all_eq_true.mp (List.all_eq_true.mp all p hp) e he)
    obtain ⟨p, hp, ep⟩ := hv0
    obtain ⟨p', hp', ep'⟩ := hv1
    have q1 := q p hp
    have q2 := q p' hp'
    omega
  rw [e0]
  rcases Int.lt_or_le G L with c | c
  · have : ((List.range (Y1 - v1 - (Y0 - v0) + 1).toNat).filter fun (j : Nat) => decide (L - 1 < (Y0 - v0) + (j : Int)) && decide ((Y0 - v0) + (j : Int) < G + 1)) = [] := by
      rw [List.filter_eq_nil_iff]
      intro j _
      simp only [Bool.and_eq_true, decide_eq_true_eq]
      omega
    rw [this]
    show (0 : Int) = _
    omega
  · have b1 := inb L (Int.le_refl _) c
    have b2 := inb G c (Int.le_refl _)
    rw [count_range _ _ _ (by omega)]
    omega
end
/-- ROOM -/
theorem room_is {l m : List Pt} (F : Fig l) (hm : m ≠ []) {x u : Int × Int} (hx : x = reachOf (l.map fun p => p.1)) (hu : u = reachOf (m.map fun p => p.1)) (cnt : Int → Int)
    (hc : ∀ a, x.1 - u.1 ≤ a → a ≤ x.2 - u.2 → ∃ L G, Ends l m a L G ∧ cnt a = max 0 (G - L + 1)) :
    ((List.range (x.2 - u.2 - (x.1 - u.1) + 1).toNat).map fun (i : Nat) => cnt (x.1 - u.1 + (i : Int))).sum = roomFor l m := by
  obtain ⟨lo, hi, x0, xl, h⟩ := F.sh
  have hn : ∀ {w : List Pt} (f : Pt → Int), w ≠ [] → (w.map f) ≠ [] := fun {w} f hw z => hw (List.map_eq_nil_iff.mp z)
  have hX0 : x.1 = x0.1 := by
    rw [hx]
    exact least_is (List.mem_map.mpr ⟨x0, h.x0_in, rfl⟩) fun c hc => by
      obtain ⟨p, hp, e⟩ := List.mem_map.mp hc
      rw [← e]
      exact (h.xr hp).1
  have hX1 : x.2 = xl.1 := by
    rw [hx]
    exact most_is (List.mem_map.mpr ⟨xl, h.xl_in, rfl⟩) fun c hc => by
      obtain ⟨p, hp, e⟩ := List.mem_map.mp hc
      rw [← e]
      exact (h.xr hp).2
  have hU : ∀ p ∈ m, u.1 ≤ p.1 ∧ p.1 ≤ u.2 := fun p hp => by
    rw [hu]
    exact ⟨(least_mem (hn _ hm)).2 _ (List.mem_map.mpr ⟨p, hp, rfl⟩), (most_mem (hn _ hm)).2 _ (List.mem_map.mpr ⟨p, hp, rfl⟩)⟩
  show _ = ((((List.range ((reachOf (l.map fun p => p.1)).2 - (reachOf (m.map fun p => p.1)).2 - ((reachOf (l.map fun p => p.1)).1 - (reachOf (m.map fun p => p.1)).1) + 1).toNat).map fun (i : Nat) =>
    ((List.range ((reachOf (l.map fun p => p.2)).2 - (reachOf (m.map fun p => p.2)).2 - ((reachOf (l.map fun p => p.2)).1 - (reachOf (m.map fun p => p.2)).1) + 1).toNat).filter fun (j : Nat) =>
      m.all fun (p : Pt) => holds l (p.1 + ((reachOf (l.map fun p => p.1)).1 - (reachOf (m.map fun p => p.1)).1) + (i : Int), p.2 + ((reachOf (l.map fun p => p.2)).1 - (reachOf (m.map fun p => p.2)).1) + (j : Int))).length).sum : Nat) : Int)
  rw [← hx, ← hu]
  obtain ⟨y, hy⟩ : ∃ y, y = reachOf (l.map fun p => p.2) := ⟨_, rfl⟩
  obtain ⟨v, hv⟩ : ∃ v, v = reachOf (m.map fun p => p.2) := ⟨_, rfl⟩
  rw [← hy, ← hv]
  have hY : ∀ c ∈ l, y.1 ≤ c.2 ∧ c.2 ≤ y.2 := fun c hc => by
    rw [hy]
    exact ⟨(least_mem (hn _ F.ne)).2 _ (List.mem_map.mpr ⟨c, hc, rfl⟩), (most_mem (hn _ F.ne)).2 _ (List.mem_map.mpr ⟨c, hc, rfl⟩)⟩
  have hv0 : ∃ p ∈ m, p.2 = v.1 := by
    rw [hv]
    obtain ⟨p, hp, e⟩ := List.mem_map.mp (least_mem (hn (fun p => p.2) hm)).1
    exact ⟨p, hp, e⟩
  have hv1 : ∃ p ∈ m, p.2 = v.2 := by
    rw [hv]
    obtain ⟨p, hp, e⟩ := List.mem_map.mp (most_mem (hn (fun p => p.2) hm)).1
    exact ⟨p, hp, e⟩
  rw [sum_cast]
  congr 1
  refine List.map_congr_left fun i hi' => ?_
  have hi2 := List.mem_range.mp hi'
  obtain ⟨L, G, E, ec⟩ := hc (x.1 - u.1 + (i : Int)) (by omega) (by omega)
  rw [ec]
  have q := room_col F hm h hU (by omega) (by omega) E hY hv0 hv1
  rw [← q]
  congr 3
  funext j
  congr 1
  funext p
  rw [Int.add_assoc p.1]
end Cf

namespace Cf
open Rc60 (cross edges mixed area rim near duals far stepsOf flat hullOf countInside)

/-! ## sums round a figure -/
theorem sum_prs (f : Pt × Pt → Int) {l lo hi : List Pt} {x0 xl : Pt} (h : Sh l lo hi x0 xl) : ((edges l).map f).sum = su f lo + su f hi := by
  rw [h.ed, List.map_append, List.sum_append]
  rfl
theorem tele {l : List Pt} (F : Fig l) (f : Pt → Int) : ((edges l).map fun e => f e.2 - f e.1).sum = 0 := by
  obtain ⟨lo, hi, x0, xl, h⟩ := F.sh
  rw [sum_prs _ h]
  have t1 := su_tele f lo.tail x0 xl (by rw [h.loe]; exact h.lo1)
  have t2 := su_tele f hi.tail xl x0 (by rw [h.hie]; exact h.hi1)
  rw [h.loe] at t1
  rw [h.hie] at t2
  have t3 : su (fun e => f e.2 - f e.1) lo + su (fun e => f e.2 - f e.1) hi = (f xl - f x0) + (f x0 - f xl) := by rw [t1, t2]
  exact t3.trans (by omega)
theorem sum_le {α : Type} {f g : α → Int} : ∀ {L : List α}, (∀ x ∈ L, f x ≤ g x) → (L.map f).sum ≤ (L.map g).sum
  | [], _ => Int.le_refl _
  | a :: L, h => by
    have := sum_le (L := L) fun x hx => h x (List.mem_cons_of_mem _ hx)
    have := h a (by simp)
    simp only [List.map_cons, List.sum_cons]
    omega
theorem sum_const {α : Type} (c : Int) : ∀ L : List α, (L.map fun _ => c).sum = L.length * c
  | [] => by simp
  | a :: L => by
    rw [List.map_cons, List.sum_cons, sum_const c L, List.length_cons]
    grind
theorem mixed_fo (l m : List Pt) : mixed l m = ((edges m).map fun e => fo l e).sum := rfl
/-- what two have together isn't below 0 -/
theorem mixed_nn {l m : List Pt} (F : Fig l) (M : Fig m) : 0 ≤ mixed l m := by
  rw [mixed_fo]
  obtain ⟨p, hp⟩ : ∃ p, p ∈ l := by
    cases l with
    | nil => exact absurd rfl F.ne
    | cons a r => exact ⟨a, by simp⟩
  have h1 := sum_le (f := fun e : Pt × Pt => p.1 * (e.2.2 - e.1.2) - p.2 * (e.2.1 - e.1.1)) (g := fun e => fo l e) (L := edges m) fun e _ => (fo_spec F.ne e).2 p hp
  have h2 := tele M fun q => p.1 * q.2 - p.2 * q.1
  have h3 : ((edges m).map fun e => p.1 * (e.2.2 - e.1.2) - p.2 * (e.2.1 - e.1.1)).sum = ((edges m).map fun e => (p.1 * e.2.2 - p.2 * e.2.1) - (p.1 * e.1.2 - p.2 * e.1.1)).sum := by
    congr 1
    refine List.map_congr_left fun e _ => ?_
    grind
  rw [h3, h2] at h1
  exact h1
theorem edges_len (l : List Pt) (h : l ≠ []) : (edges l).length = l.length := by
  cases l with
  | nil => exact absurd rfl h
  | cons a r =>
    show ((a :: r).zip (r ++ [a])).length = _
    rw [List.length_zip, List.length_append]
    simp
/-- within a box -/
def Box (B : Int) (l : List Pt) : Prop := ∀ p ∈ l, -B ≤ p.1 ∧ p.1 ≤ B ∧ -B ≤ p.2 ∧ p.2 ≤ B
theorem mul_bd {a b A B : Int} (h1 : -A ≤ a) (h2 : a ≤ A) (h3 : -B ≤ b) (h4 : b ≤ B) : -(A * B) ≤ a * b ∧ a * b ≤ A * B := by
  have e1 := Int.mul_nonneg (show 0 ≤ A - a by omega) (show 0 ≤ B - b by omega)
  have e2 := Int.mul_nonneg (show 0 ≤ A + a by omega) (show 0 ≤ B + b by omega)
  have e3 := Int.mul_nonneg (show 0 ≤ A - a by omega) (show 0 ≤ B + b by omega)
  have e4 := Int.mul_nonneg (show 0 ≤ A + a by omega) (show 0 ≤ B - b by omega)
  constructor <;> grind
theorem edge_box {B : Int} {l : List Pt} (F : Fig l) (b : Box B l) {e : Pt × Pt} (he : e ∈ edges l) : -B ≤ e.1.1 ∧ e.1.1 ≤ B ∧ -B ≤ e.1.2 ∧ e.1.2 ≤ B ∧ -B ≤ e.2.1 ∧ e.2.1 ≤ B ∧ -B ≤ e.2.2 ∧ e.2.2 ≤ B := by
  have c := F.conv e he
  have b1 := b _ c.1
  have b2 := b _ c.2.1
  omega
theorem fo_box {B C : Int} {l m : List Pt} (hl : l ≠ []) (M : Fig m) (bl : Box B l) (bm : Box C m) {e : Pt × Pt} (he : e ∈ edges m) : -(4 * (B * C)) ≤ fo l e ∧ fo l e ≤ 4 * (B * C) := by
  obtain ⟨p, hp, ep⟩ := (fo_spec hl e).1
  have b1 := bl p hp
  have b2 := edge_box M bm he
  have m1 := mul_bd (a := p.1) (b := e.2.2 - e.1.2) (A := B) (B := 2 * C) b1.1 b1.2.1 (by omega) (by omega)
  have m2 := mul_bd (a := p.2) (b := e.2.1 - e.1.1) (A := B) (B := 2 * C) b1.2.2.1 b1.2.2.2 (by omega) (by omega)
  have e1 : B * (2 * C) = 2 * (B * C) := by grind
  omega
theorem mixed_le {B C : Int} {l m : List Pt} (F : Fig l) (M : Fig m) (bl : Box B l) (bm : Box C m) : mixed l m ≤ m.length * (4 * (B * C)) := by
  rw [mixed_fo, ← edges_len m M.ne, ← sum_const]
  exact sum_le fun e he => (fo_box F.ne M bl bm he).2
theorem area_le {B : Int} {l : List Pt} (F : Fig l) (b : Box B l) : area l ≤ l.length * (2 * (B * B)) := by
  unfold area
  rw [← edges_len l F.ne, ← sum_const]
  refine sum_le fun e he => ?_
  have b2 := edge_box F b he
  have m1 := mul_bd (a := e.1.1) (b := e.2.2) (A := B) (B := B) b2.1 b2.2.1 b2.2.2.2.2.2.2.1 b2.2.2.2.2.2.2.2
  have m2 := mul_bd (a := e.1.2) (b := e.2.1) (A := B) (B := B) b2.2.2.1 b2.2.2.2.1 b2.2.2.2.2.1 b2.2.2.2.2.2.1
  omega
theorem gcd_pos {l : List Pt} (F : Fig l) {e : Pt × Pt} (he : e ∈ edges l) : 0 < Int.gcd (e.2.1 - e.1.1) (e.2.2 - e.1.2) := by
  rcases Nat.eq_zero_or_pos (Int.gcd (e.2.1 - e.1.1) (e.2.2 - e.1.2)) with c | c
  · have := Int.gcd_eq_zero_iff.mp c
    exact absurd (Prod.ext (by omega) (by omega)) (F.conv e he).2.2.1
  · exact c
theorem rim_ge {l : List Pt} (F : Fig l) : l.length ≤ rim l := by
  have e := edges_len l F.ne
  unfold rim
  rw [← e]
  have key : ∀ L : List (Pt × Pt), (∀ e ∈ L, 0 < Int.gcd (e.2.1 - e.1.1) (e.2.2 - e.1.2)) → L.length ≤ (L.map fun e => Int.gcd (e.2.1 - e.1.1) (e.2.2 - e.1.2)).sum := fun L => by
    induction L with
    | nil => intro _; exact Nat.le_refl _
    | cons a L ih =>
      intro h
      have h1 := ih fun x hx => h x (List.mem_cons_of_mem _ hx)
      have h2 := h a (by simp)
      simp only [List.map_cons, List.sum_cons, List.length_cons]
      omega
  exact key _ fun e he => gcd_pos F he
theorem area_nn {l : List Pt} (F : Fig l) : 0 ≤ area l := by
  have p := pick F
  have r := rim_ge F
  have := F.len
  omega
/-- as the program reckons it -/
theorem inside_is {l : List Pt} (F : Fig l) : (area l - rim l + 2).fdiv 2 = countInside l := by
  have p := pick F
  rw [← p, Int.fdiv_eq_ediv_of_nonneg _ (by omega)]
  exact Int.mul_ediv_cancel_left _ (by omega)

/-! ## the dual -/
abbrev gI (e : Pt × Pt) : Int := (Int.gcd (e.2.1 - e.1.1) (e.2.2 - e.1.2) : Nat)
theorem gI_dvd (e : Pt × Pt) : gI e ∣ e.2.1 - e.1.1 ∧ gI e ∣ e.2.2 - e.1.2 := ⟨Int.gcd_dvd_left .., Int.gcd_dvd_right ..⟩
/-- an edge's step -/
abbrev sx (e : Pt × Pt) : Int := (e.2.1 - e.1.1) / gI e
abbrev sy (e : Pt × Pt) : Int := (e.2.2 - e.1.2) / gI e
theorem step_mul (e : Pt × Pt) : e.2.1 - e.1.1 = gI e * sx e ∧ e.2.2 - e.1.2 = gI e * sy e := ⟨(Int.mul_ediv_cancel' (gI_dvd e).1).symm, (Int.mul_ediv_cancel' (gI_dvd e).2).symm⟩
/-- twice the triangle over 0 -/
abbrev o2 (e : Pt × Pt) : Int := e.1.1 * e.2.2 - e.1.2 * e.2.1
theorem o2_step (e : Pt × Pt) : o2 e = gI e * (e.1.1 * sy e - e.1.2 * sx e) := by
  have s := step_mul e
  have : o2 e = e.1.1 * (e.2.2 - e.1.2) - e.1.2 * (e.2.1 - e.1.1) := by unfold o2; grind
  rw [this, s.1, s.2]
  grind
theorem gI_pos {l : List Pt} (F : Fig l) {e : Pt × Pt} (he : e ∈ edges l) : 0 < gI e := Int.natCast_pos.mpr (gcd_pos F he)
theorem far_iff {e : Pt × Pt} (hg : 0 < gI e) : (far e == 1) = true ↔ o2 e = gI e := by
  rw [beq_iff_eq]
  show (o2 e) / gI e = 1 ↔ _
  rw [o2_step, Int.mul_ediv_cancel_left _ (by omega)]
  constructor
  · intro h
    rw [h, Int.mul_one]
  · intro h
    have : gI e * (e.1.1 * sy e - e.1.2 * sx e) = gI e * 1 := by omega
    exact Int.eq_of_mul_eq_mul_left (by omega) this
theorem near_iff {l : List Pt} (F : Fig l) : near l = true ↔ ∀ e ∈ edges l, o2 e = gI e := by
  unfold near
  rw [List.all_eq_true]
  exact ⟨fun h e he => (far_iff (gI_pos F he)).mp (h e he), fun h e he => (far_iff (gI_pos F he)).mpr (h e he)⟩
theorem duals_eq (l : List Pt) : duals l = (edges l).map fun e => (-(sy e), sx e) := by
  unfold duals
  refine List.map_congr_left fun e _ => ?_
  show (-(e.2.2 - e.1.2) / gI e, (e.2.1 - e.1.1) / gI e) = _
  rw [Int.neg_ediv_of_dvd (gI_dvd e).2]
theorem near_at {e : Pt × Pt} (hg : 0 < gI e) (h : o2 e = gI e) : e.1.1 * sy e - e.1.2 * sx e = 1 ∧ e.2.1 * sy e - e.2.2 * sx e = 1 := by
  have a : e.1.1 * sy e - e.1.2 * sx e = 1 := by
    rw [o2_step] at h
    have : gI e * (e.1.1 * sy e - e.1.2 * sx e) = gI e * 1 := by omega
    exact Int.eq_of_mul_eq_mul_left (by omega) this
  refine ⟨a, ?_⟩
  have s := step_mul e
  have e1 : e.2.1 = e.1.1 + gI e * sx e := by omega
  have e2 : e.2.2 = e.1.2 + gI e * sy e := by omega
  rw [e1, e2]
  grind
end Cf

namespace Cf
open Rc60 (cross edges mixed area rim near duals far stepsOf flat hullOf countInside)
theorem edges_fst (l : List Pt) : (edges l).map (·.1) = l := by
  unfold edges
  rw [List.map_fst_zip]
  rw [List.length_append, List.length_drop, List.length_take]
  omega
theorem edges_snd (l : List Pt) : (edges l).map (·.2) = l.drop 1 ++ l.take 1 := by
  unfold edges
  rw [List.map_snd_zip]
  rw [List.length_append, List.length_drop, List.length_take]
  omega
theorem uniq_map {α β : Type} {f : α → β} : ∀ {L : List α}, (L.map f).Nodup → ∀ {a b : α}, a ∈ L → b ∈ L → f a = f b → a = b
  | [], _, _, _, h, _, _ => by cases h
  | c :: L, nd, a, b, ha, hb, e => by
    have n1 := List.nodup_cons.mp nd
    rcases List.mem_cons.mp ha with ha | ha
    · rcases List.mem_cons.mp hb with hb | hb
      · rw [ha, hb]
      · exact absurd (List.mem_map.mpr ⟨b, hb, by rw [← e, ha]⟩) n1.1
    · rcases List.mem_cons.mp hb with hb | hb
      · exact absurd (List.mem_map.mpr ⟨a, ha, by rw [e, hb]⟩) n1.1
      · exact uniq_map n1.2 ha hb e
theorem by_fst {l : List Pt} (F : Fig l) {e f : Pt × Pt} (he : e ∈ edges l) (hf : f ∈ edges l) (h : e.1 = f.1) : e = f :=
  uniq_map (f := fun e : Pt × Pt => e.1) (by rw [edges_fst]; exact F.nodup) he hf h
theorem by_snd {l : List Pt} (F : Fig l) {e f : Pt × Pt} (he : e ∈ edges l) (hf : f ∈ edges l) (h : e.2 = f.2) : e = f := by
  refine uniq_map (f := fun e : Pt × Pt => e.2) ?_ he hf h
  rw [edges_snd]
  have p : (l.drop 1 ++ l.take 1).Perm l := by
    have q : (l.drop 1 ++ l.take 1).Perm (l.take 1 ++ l.drop 1) := List.perm_append_comm
    rw [List.take_append_drop] at q
    exact q
  exact p.nodup_iff.mpr F.nodup
theorem nextE {l : List Pt} (F : Fig l) {e : Pt × Pt} (he : e ∈ edges l) : ∃ f ∈ edges l, f.1 = e.2 := by
  have h : e.2 ∈ (edges l).map (·.1) := by rw [edges_fst]; exact (F.conv e he).2.1
  obtain ⟨f, hf, e1⟩ := List.mem_map.mp h
  exact ⟨f, hf, e1⟩
/-- a dual's point -/
abbrev dq (e : Pt × Pt) : Pt := (-(sy e), sx e)
/-- the dual's point over a point -/
abbrev dt (x p : Pt) : Int := x.1 * p.1 + x.2 * p.2
theorem cross_dt {l : List Pt} (F : Fig l) {e : Pt × Pt} (he : e ∈ edges l) (hn : o2 e = gI e) (p : Pt) : cross e.1 e.2 p = gI e * (dt (dq e) p + 1) := by
  have s := step_mul e
  have a := (near_at (gI_pos F he) hn).1
  unfold cross
  rw [s.1, s.2]
  show gI e * sx e * (p.2 - e.1.2) - gI e * sy e * (p.1 - e.1.1) = gI e * (-(sy e) * p.1 + sx e * p.2 + 1)
  rw [← a]
  grind
theorem dt_eq {l : List Pt} (F : Fig l) {e : Pt × Pt} (he : e ∈ edges l) (hn : o2 e = gI e) {p : Pt} (hp : p ∈ l) : 0 ≤ dt (dq e) p + 1 ∧ (dt (dq e) p + 1 = 0 → p = e.1 ∨ p = e.2) := by
  have c := cross_dt F he hn p
  have g := gI_pos F he
  have w := F.weak he hp
  rw [c] at w
  refine ⟨Int.nonneg_of_mul_nonneg_right w g, fun z => ?_⟩
  rw [z, Int.mul_zero] at c
  rcases (F.conv e he).2.2.2 p hp with k | k | k
  · exact .inl k
  · exact .inr k
  · omega
/-- of two edges at a corner -/
structure Corner (l : List Pt) (e f : Pt × Pt) : Prop where
  he : e ∈ edges l
  hf : f ∈ edges l
  meet : f.1 = e.2
theorem Corner.turn {l : List Pt} (F : Fig l) {e f : Pt × Pt} (c : Corner l e f) : 0 < (dq e).1 * (dq f).2 - (dq e).2 * (dq f).1 := by
  have se := step_mul e
  have sf := step_mul f
  have ge := gI_pos F c.he
  have gf := gI_pos F c.hf
  have k : 0 < cross e.1 e.2 f.2 := by
    rcases (F.conv e c.he).2.2.2 f.2 (F.conv f c.hf).2.1 with q | q | q
    · -- both edges between two corners
      exfalso
      obtain ⟨x, hx, n1, n2⟩ : ∃ x ∈ l, x ≠ e.1 ∧ x ≠ e.2 := by
        apply Classical.byContradiction
        intro no
        have sub : ∀ x ∈ l, x ∈ [e.1, e.2] := fun x hx => by
          by_cases y1 : x = e.1
          · rw [y1]; simp
          · by_cases y2 : x = e.2
            · rw [y2]; simp
            · exact absurd ⟨x, hx, y1, y2⟩ no
        have := nodup_len F.nodup sub
        have := F.len
        simp at *
        omega
      have v1 := (F.conv e c.he).2.2.2 x hx
      have v2 := (F.conv f c.hf).2.2.2 x hx
      rw [c.meet, q] at v2
      have sw : cross e.2 e.1 x = - cross e.1 e.2 x := by unfold cross; grind
      rcases v1 with v1 | v1 | v1
      · exact n1 v1
      · exact n2 v1
      · rcases v2 with v2 | v2 | v2
        · exact n2 v2
        · exact n1 v2
        · omega
    · exact absurd (c.meet.trans q.symm) (F.conv f c.hf).2.2.1
    · exact q
  have e1 : cross e.1 e.2 f.2 = gI e * gI f * ((dq e).1 * (dq f).2 - (dq e).2 * (dq f).1) := by
    have : cross e.1 e.2 f.2 = (e.2.1 - e.1.1) * (f.2.2 - f.1.2) - (e.2.2 - e.1.2) * (f.2.1 - f.1.1) := by
      rw [c.meet]
      unfold cross
      grind
    rw [this, se.1, se.2, sf.1, sf.2]
    show _ = gI e * gI f * (-(sy e) * sx f - sx e * -(sy f))
    grind
  rw [e1] at k
  exact Int.pos_of_mul_pos_left (by rw [Int.mul_comm]; exact k) (Int.mul_pos ge gf)
theorem turn_d {p q A B C D : Int} (a : p * B - q * A = 1) (b : p * D - q * C = 1) : B - D = (A * D - B * C) * q ∧ C - A = -((A * D - B * C) * p) := by
  have h1 : B * (p * D - q * C) - D * (p * B - q * A) = (A * D - B * C) * q := by grind
  have h2 : A * (p * D - q * C) - C * (p * B - q * A) = (A * D - B * C) * p := by grind
  rw [a, b, Int.mul_one, Int.mul_one] at h1 h2
  omega
theorem turn_alg {p q A B C D x1 x2 : Int} (a : p * B - q * A = 1) (b : p * D - q * C = 1) : (-D - -B) * (x2 - A) - (C - A) * (x1 - -B) = (-B * C - A * -D) * (x1 * p + x2 * q + 1) := by
  have d := turn_d a b
  rw [show -D - -B = B - D by omega, d.1, d.2, ← a]
  grind
theorem Corner.cross {l : List Pt} (F : Fig l) {e f : Pt × Pt} (c : Corner l e f) (ne : o2 e = gI e) (nf : o2 f = gI f) (x : Pt) :
    Rc60.cross (dq e) (dq f) x = ((dq e).1 * (dq f).2 - (dq e).2 * (dq f).1) * (dt x e.2 + 1) := by
  have a := (near_at (gI_pos F c.he) ne).2
  have b := (near_at (gI_pos F c.hf) nf).1
  rw [c.meet] at b
  unfold Rc60.cross
  show (-(sy f) - -(sy e)) * (x.2 - sx e) - (sx f - sx e) * (x.1 - -(sy e)) = (-(sy e) * sx f - sx e * -(sy f)) * (x.1 * e.2.1 + x.2 * e.2.2 + 1)
  exact turn_alg a b
theorem mem_duals {l : List Pt} {x : Pt} : x ∈ duals l ↔ ∃ e ∈ edges l, x = dq e := by
  rw [duals_eq, List.mem_map]
  exact ⟨fun ⟨e, he, k⟩ => ⟨e, he, k.symm⟩, fun ⟨e, he, k⟩ => ⟨e, he, k.symm⟩⟩
theorem duals_flat {l : List Pt} (F : Fig l) (hn : near l = true) : flat (duals l) = false := by
  have N := (near_iff F).mp hn
  obtain ⟨p0, p1, p2, s, el, _, he⟩ := F.corners
  obtain ⟨f, hf, ef⟩ := nextE F he
  have hf2 : ∃ h ∈ edges l, h.1 = p2 := by
    have : p2 ∈ (edges l).map (·.1) := by rw [edges_fst, el]; simp
    obtain ⟨h, hh, e1⟩ := List.mem_map.mp this
    exact ⟨h, hh, e1⟩
  obtain ⟨h, hh, eh⟩ := hf2
  have c : Corner l (p0, p1) f := ⟨he, hf, ef⟩
  have nd := F.nodup
  rw [el] at nd
  have hp1 : p1 ∈ l := by rw [el]; simp
  cases hc : flat (duals l) with
  | false => rfl
  | true =>
    exfalso
    have z := flat_iff.mp hc _ (mem_duals.mpr ⟨_, he, rfl⟩) _ (mem_duals.mpr ⟨_, hf, rfl⟩) _ (mem_duals.mpr ⟨_, hh, rfl⟩)
    rw [c.cross F (N _ he) (N _ hf)] at z
    have t := c.turn F
    have d := dt_eq F hh (N _ hh) hp1
    rcases Int.mul_eq_zero.mp z with q | q
    · omega
    · rcases d.2 q with k | k
      · rw [eh] at k
        rw [k] at nd
        simp at nd
      · have := by_snd F hh he k.symm
        rw [this] at eh
        simp only [] at eh
        rw [eh] at nd
        simp at nd
theorem gcd_prim {p q a b : Int} (h : p * a - q * b = 1) : Int.gcd p q = 1 := by
  have h1 : (Int.gcd p q : Int) ∣ 1 := by
    rw [← h]
    exact Int.dvd_sub (Int.dvd_mul_of_dvd_left (Int.gcd_dvd_left ..)) (Int.dvd_mul_of_dvd_left (Int.gcd_dvd_right ..))
  have := Int.le_of_dvd (by decide) h1
  have h3 : Int.gcd p q ≠ 0 := fun z => by
    rw [z] at h1
    obtain ⟨t, ht⟩ := h1
    rw [show ((0 : Nat) : Int) = 0 from rfl, Int.zero_mul] at ht
    omega
  omega
/-- the dual's dual lies in the figure -/
theorem dual_dual {l : List Pt} (F : Fig l) (hn : near l = true) (D : Fig (hullOf (duals l))) (sub : ∀ c ∈ hullOf (duals l), c ∈ duals l) (nx : ∀ e ∈ edges (hullOf (duals l)), Nxt (duals l) e.1 e.2) : ∀ x ∈ duals (hullOf (duals l)), x ∈ l := by
  intro x hx
  obtain ⟨E, hE, rfl⟩ := mem_duals.mp hx
  have N := (near_iff F).mp hn
  have cv := D.conv E hE
  obtain ⟨e, he, ea⟩ := mem_duals.mp (sub _ cv.1)
  obtain ⟨f, hf, ef⟩ := nextE F he
  have c : Corner l e f := ⟨he, hf, ef⟩
  have k1 := (nx E hE).left (mem_duals.mpr ⟨f, hf, rfl⟩)
  obtain ⟨h, hh, eb⟩ := mem_duals.mp (sub _ cv.2.1)
  have hp : e.2 ∈ l := (F.conv e he).2.1
  have d := dt_eq F hh (N _ hh) hp
  have t := c.turn F
  have k2 := c.cross F (N _ he) (N _ hf) (dq h)
  have sw : Rc60.cross (dq e) (dq f) (dq h) = - Rc60.cross (dq e) (dq h) (dq f) := by unfold Rc60.cross; grind
  rw [ea, eb] at k1
  have k3 : 0 ≤ ((dq e).1 * (dq f).2 - (dq e).2 * (dq f).1) * (dt (dq h) e.2 + 1) := Int.mul_nonneg (by omega) d.1
  have k4 : ((dq e).1 * (dq f).2 - (dq e).2 * (dq f).1) * (dt (dq h) e.2 + 1) = 0 := by omega
  have k5 : dt (dq h) e.2 + 1 = 0 := by
    rcases Int.mul_eq_zero.mp k4 with q | q
    · omega
    · exact q
  have hB : E.2 = dq f := by
    rcases d.2 k5 with q | q
    · rw [eb, by_fst F hh hf (by rw [ef, q])]
    · exact absurd (by rw [ea, eb, by_snd F hh he q.symm]) cv.2.2.1
  -- the edge's direction
  have a := (near_at (gI_pos F he) (N _ he)).2
  have b := (near_at (gI_pos F hf) (N _ hf)).1
  rw [ef] at b
  obtain ⟨T, eT⟩ : ∃ T, T = (dq e).1 * (dq f).2 - (dq e).2 * (dq f).1 := ⟨_, rfl⟩
  rw [← eT] at t
  have d1 : E.2.1 - E.1.1 = T * e.2.2 := by
    rw [hB, ea, eT]
    show -(sy f) - -(sy e) = (-(sy e) * sx f - sx e * -(sy f)) * e.2.2
    have := (turn_d a b).1
    rw [show -(sy f) - -(sy e) = sy e - sy f by omega, this]
    grind
  have d2 : E.2.2 - E.1.2 = T * -e.2.1 := by
    rw [hB, ea, eT]
    show sx f - sx e = (-(sy e) * sx f - sx e * -(sy f)) * -e.2.1
    have := (turn_d a b).2
    rw [this]
    grind
  have g1 : Int.gcd e.2.2 (-e.2.1) = 1 := by
    rw [Int.gcd_neg, Int.gcd_comm]
    exact gcd_prim a
  have gE : gI E = T := by
    show ((Int.gcd (E.2.1 - E.1.1) (E.2.2 - E.1.2) : Nat) : Int) = T
    rw [d1, d2, Int.gcd_mul_left, g1]
    omega
  have r1 : sx E = e.2.2 := by
    show (E.2.1 - E.1.1) / gI E = _
    rw [d1, gE, Int.mul_ediv_cancel_left _ (by omega)]
  have r2 : sy E = -e.2.1 := by
    show (E.2.2 - E.1.2) / gI E = _
    rw [d2, gE, Int.mul_ediv_cancel_left _ (by omega)]
  have : dq E = e.2 := by
    show (-(sy E), sx E) = _
    rw [r1, r2, Int.neg_neg]
  rw [this]
  exact hp
theorem step_le {e : Pt × Pt} (hg : 0 < gI e) {B : Int} (hB : 0 ≤ B) (h1 : -B ≤ e.2.1 - e.1.1) (h2 : e.2.1 - e.1.1 ≤ B) (h3 : -B ≤ e.2.2 - e.1.2) (h4 : e.2.2 - e.1.2 ≤ B) : -B ≤ sx e ∧ sx e ≤ B ∧ -B ≤ sy e ∧ sy e ≤ B := by
  have s := step_mul e
  have key : ∀ z : Int, -B ≤ gI e * z → gI e * z ≤ B → -B ≤ z ∧ z ≤ B := fun z k1 k2 => by
    constructor
    · rcases Int.lt_or_le z (-B) with q | q
      · exfalso
        have : gI e * z ≤ 1 * z := Int.mul_le_mul_of_nonpos_right (by omega) (by omega)
        omega
      · exact q
    · rcases Int.lt_or_le B z with q | q
      · exfalso
        have : 1 * z ≤ gI e * z := Int.mul_le_mul_of_nonneg_right (by omega) (by omega)
        omega
      · exact q
  have a := key (sx e) (by omega) (by omega)
  have b := key (sy e) (by omega) (by omega)
  omega
theorem duals_box {B : Int} {l : List Pt} (F : Fig l) (hB : 0 ≤ B) (b : Box B l) : Box (2 * B) (duals l) := by
  intro x hx
  obtain ⟨e, he, rfl⟩ := mem_duals.mp hx
  have c := edge_box F b he
  have s := step_le (gI_pos F he) (B := 2 * B) (by omega) (by omega) (by omega) (by omega) (by omega)
  show -(2 * B) ≤ -(sy e) ∧ -(sy e) ≤ 2 * B ∧ -(2 * B) ≤ sx e ∧ sx e ≤ 2 * B
  omega
/-- what is kept of each figure that lies at a place -/
structure Good (l : List Pt) : Prop where
  fig : Fig l
  len : l.length ≤ 64
  box : Box 60000 l
  dbox : near l = true → Box 60000 (duals l)
theorem good_close {l : List Pt} (F : Fig l) (hl : l.length ≤ 64) (b : Box 30000 l) : Good l :=
  ⟨F, hl, fun p hp => by have := b p hp; omega, fun _ => duals_box F (by omega) b⟩
theorem good_dual {l : List Pt} (G : Good l) (hn : near l = true) (D : Fig (hullOf (duals l))) (hl : (hullOf (duals l)).length ≤ (duals l).length) (sub : ∀ c ∈ hullOf (duals l), c ∈ duals l) (nx : ∀ e ∈ edges (hullOf (duals l)), Nxt (duals l) e.1 e.2) : Good (hullOf (duals l)) := by
  refine ⟨D, ?_, fun p hp => G.dbox hn p (sub p hp), fun _ p hp => G.box p (dual_dual G.fig hn D sub nx p hp)⟩
  have e : (duals l).length = l.length := by rw [duals_eq, List.length_map, edges_len l G.fig.ne]
  rw [e] at hl
  exact Nat.le_trans hl G.len
end Cf

namespace Cs
open PySem PySem.Spec PyProof.Rows L2

/-! ## i -> 5 i + 1 goes through all of 0 .. 2^k - 1 -/
/-- a mask: a power of two less one -/
def Msk (m : Nat) : Prop := ∃ k, m + 1 = 2 ^ k ∧ k ≤ 13 ∧ 3 ≤ k
def five : Nat → Nat
  | 0 => 0
  | n + 1 => five n * 5 + 1
theorem five_mod (m : Nat) : ∀ n, lcgN m n = five n % (m + 1)
  | 0 => (Nat.zero_mod _).symm
  | n + 1 => by
    show (lcgN m n * 5 + 1) % (m + 1) = (five n * 5 + 1) % (m + 1)
    rw [five_mod m n, Nat.add_mod, Nat.mul_mod, Nat.mod_mod, ← Nat.mul_mod, ← Nat.add_mod]
theorem five_pow : ∀ n, 4 * five n + 1 = 5 ^ n
  | 0 => rfl
  | n + 1 => by
    have := five_pow n
    show 4 * (five n * 5 + 1) + 1 = 5 ^ n * 5
    omega
theorem five_add (a : Nat) : ∀ b, five (a + b) = five a * 5 ^ b + five b
  | 0 => by simp [five]
  | b + 1 => by
    show five (a + b) * 5 + 1 = five a * (5 ^ b * 5) + (five b * 5 + 1)
    rw [five_add a b]
    grind
theorem five_double (a : Nat) : five (2 * a) = 2 * (five a * (2 * five a + 1)) := by
  have := five_pow a
  rw [Nat.two_mul, five_add, ← this]
  grind
theorem five_odd : ∀ n, five n % 2 = n % 2
  | 0 => rfl
  | n + 1 => by
    have := five_odd n
    show (five n * 5 + 1) % 2 = (n + 1) % 2
    omega
theorem odd_cop (k a : Nat) (h : a % 2 = 1) : Nat.Coprime (2 ^ k) a := by
  refine Nat.Coprime.pow_left k ?_
  show Nat.gcd 2 a = 1
  rw [Nat.gcd_rec, h]
  decide
/-- what a power of two divides -/
theorem five_dvd : ∀ (k d : Nat), 2 ^ k ∣ five d → 2 ^ k ∣ d
  | 0, d, _ => ⟨d, by omega⟩
  | k + 1, d, h => by
    have h2 : five d % 2 = 0 := by
      obtain ⟨t, ht⟩ := h
      rw [ht, Nat.pow_succ, Nat.mul_comm (2 ^ k) 2, Nat.mul_assoc]
      omega
    rw [five_odd] at h2
    obtain ⟨e, rfl⟩ : ∃ e, d = 2 * e := ⟨d / 2, by omega⟩
    rw [five_double, Nat.pow_succ, Nat.mul_comm (2 ^ k) 2] at h
    have h3 : 2 ^ k ∣ five e * (2 * five e + 1) := Nat.dvd_of_mul_dvd_mul_left (by decide) h
    have h4 : 2 ^ k ∣ five e := (odd_cop k (2 * five e + 1) (by omega)).dvd_of_dvd_mul_right h3
    have h5 := five_dvd k e h4
    rw [Nat.pow_succ, Nat.mul_comm (2 ^ k) 2]
    exact Nat.mul_dvd_mul_left 2 h5
theorem five_round : ∀ k, 2 ^ k ∣ five (2 ^ k)
  | 0 => ⟨1, rfl⟩
  | k + 1 => by
    rw [Nat.pow_succ, Nat.mul_comm (2 ^ k) 2, five_double]
    exact Nat.mul_dvd_mul_left 2 (Nat.dvd_mul_right_of_dvd (five_round k) _)
theorem five_inj {k a b : Nat} (ha : a < 2 ^ k) (hb : b < 2 ^ k) (h : five a % 2 ^ k = five b % 2 ^ k) : a = b := by
  have key : ∀ a b : Nat, a ≤ b → b < 2 ^ k → five a % 2 ^ k = five b % 2 ^ k → a = b := fun a b hab hb h => by
    obtain ⟨d, rfl⟩ : ∃ d, b = d + a := ⟨b - a, by omega⟩
    rw [five_add] at h
    have h1 : (five d * 5 ^ a) % 2 ^ k = 0 := by
      have e := Nat.sub_mod_eq_zero_of_mod_eq h.symm
      rw [Nat.add_sub_cancel] at e
      exact e
    have h2 : 2 ^ k ∣ five d := (odd_cop k (5 ^ a) (by rw [Nat.pow_mod]; simp)).dvd_of_dvd_mul_right (Nat.dvd_of_mod_eq_zero h1)
    have h3 := five_dvd k d h2
    rcases Nat.eq_zero_or_pos d with z | z
    · omega
    · have := Nat.le_of_dvd z h3
      omega
  rcases Nat.le_total a b with c | c
  · exact key a b c hb h
  · exact (key b a c ha h.symm).symm
theorem lcg_onto {m : Nat} (hm : Msk m) {j : Nat} (hj : j ≤ m) : ∃ b, b ≤ m ∧ lcgN m b = j := by
  obtain ⟨k, hk, _⟩ := hm
  apply Classical.byContradiction
  intro no
  have nd : ((List.range (m + 1)).map (lcgN m)).Nodup := by
    refine List.pairwise_map.mpr (List.nodup_range.imp_of_mem fun {a b} ha hb ne e => ne ?_)
    rw [five_mod, five_mod, hk] at e
    refine five_inj ?_ ?_ e
    · rw [← hk]; exact List.mem_range.mp ha
    · rw [← hk]; exact List.mem_range.mp hb
  have nj : j ∉ (List.range (m + 1)).map (lcgN m) := fun h => by
    obtain ⟨b, hb, e⟩ := List.mem_map.mp h
    exact no ⟨b, Nat.le_of_lt_succ (List.mem_range.mp hb), e⟩
  have len := nat_nodup_len (j :: (List.range (m + 1)).map (lcgN m)) (List.range (m + 1)) (List.nodup_cons.mpr ⟨nj, nd⟩) fun x hx => by
    rw [List.mem_range]
    rcases List.mem_cons.mp hx with e | e
    · omega
    · obtain ⟨b, _, e⟩ := List.mem_map.mp e
      rw [← e, five_mod]
      exact Nat.mod_lt _ (Nat.succ_pos _)
  rw [List.length_cons, List.length_map, List.length_range] at len
  omega
theorem lcg_again {m : Nat} (hm : Msk m) (n : Nat) : lcgN m (m + 1 + n) = lcgN m n := by
  obtain ⟨k, hk, _⟩ := hm
  rw [five_mod, five_mod, five_add, hk]
  obtain ⟨t, ht⟩ := five_round k
  rw [ht, Nat.mul_assoc, Nat.mul_add_mod]
theorem lcg_from {m : Nat} (hm : Msk m) {i j : Nat} (hi : i ≤ m) (hj : j ≤ m) : ∃ k, k ≤ m ∧ lcgI m i k = j := by
  obtain ⟨a, a1, a2⟩ := lcg_onto hm hi
  obtain ⟨b, b1, b2⟩ := lcg_onto hm hj
  subst a2
  by_cases c : a ≤ b
  · exact ⟨b - a, by omega, by rw [lcgN_add, Nat.add_sub_cancel' c]; exact b2⟩
  · refine ⟨m + 1 + b - a, by omega, ?_⟩
    rw [lcgN_add, Nat.add_sub_cancel' (by omega), lcg_again hm]
    exact b2
/-- each slot begins a run of the search -/
theorem run_at {m : Nat} (hm : Msk m) (h : Int) {j : Nat} (hj : j ≤ m) : ∃ n, n ≤ m + 12 ∧ runI m (SetTable.bits h) n = j := by
  obtain ⟨k, k1, k2⟩ := lcg_from hm (runI_le m (SetTable.bits h) 12) hj
  refine ⟨12 + k, by omega, ?_⟩
  rw [runI_tail (bits_lt h), k2]
theorem way_top (m : Nat) (h : Int) (k : Nat) : way m h k ≤ m := by
  have a : SetTable.bits h % (m + 1) < m + 1 := Nat.mod_lt _ (Nat.succ_pos _)
  have b := runEnd_bd (Nat.le_of_lt_succ a)
  have c := nth_in (m := m) k (runAt m (SetTable.bits h % (m + 1)) (SetTable.bits h)) (by unfold runAt; simp only []; omega)
  unfold way
  omega
theorem way_all {m : Nat} (hm : Msk m) (h : Int) {j : Nat} (hj : j ≤ m) : ∃ k, k < 10 * SetTable.turns m ∧ way m h k = j := by
  obtain ⟨n, n1, n2⟩ := run_at hm h hj
  obtain ⟨k, k1, k2⟩ := run_nth m (SetTable.bits h) n
  refine ⟨k, by unfold SetTable.turns; omega, ?_⟩
  unfold way
  rw [k2, ← n2]
  rfl
theorem msk_odd {m : Nat} (h : Msk m) : m % 2 = 1 := by
  obtain ⟨k, e, _, k3⟩ := h
  obtain ⟨c, rfl⟩ : ∃ c, k = c + 1 := ⟨k - 1, by omega⟩
  rw [Nat.pow_succ] at e
  omega
theorem msk_le {m : Nat} (h : Msk m) : m ≤ 8191 := by
  obtain ⟨k, e, k1, _⟩ := h
  have : 2 ^ k ≤ 2 ^ 13 := Nat.pow_le_pow_right (by decide) k1
  have e13 : (2 : Nat) ^ 13 = 8192 := by decide
  omega
end Cs

namespace Cs
open PySem PySem.Spec PyProof.Rows L2

/-! ## a set's table, its mask any of 7 .. 8191 -/
structure Tb (t : SetTable) (hs : List Int) : Prop where
  rs : Ris t.place.toList
  nd : t.dummies = #[]
  ln : t.place.size = hs.length
  ms : Msk t.mask
  tp : ∀ j ∈ t.place.toList, j ≤ t.mask
  rd : ∀ (n : Nat) (x : Int) (j : Nat), hs[n]? = some x → t.place.toList[n]? = some j → ∃ c, way t.mask x c = j ∧ ∀ d, d < c → way t.mask x d ∈ t.place.toList
theorem Tb.lenL {t : SetTable} {hs : List Int} (T : Tb t hs) : t.place.toList.length = hs.length := Array.length_toList.trans T.ln
theorem Tb.gap {t : SetTable} {hs : List Int} (T : Tb t hs) (few : hs.length ≤ t.mask) (x : Int) :
    ∃ K, way t.mask x K ∉ t.place.toList ∧ (∀ c, c < K → way t.mask x c ∈ t.place.toList) ∧ K < 10 * SetTable.turns t.mask := by
  obtain ⟨j, j1, j2⟩ := st_missing t.place.toList (t.mask + 1) (by rw [T.lenL]; omega)
  obtain ⟨c, c1, c2⟩ := way_all T.ms x (j := j) (by omega)
  obtain ⟨K, k1, k2, k3⟩ := st_least (p := fun n => ¬ way t.mask x n ∈ t.place.toList) c (fun z => j2 (by rw [← c2]; exact z))
  exact ⟨K, k2, fun d hd => Classical.byContradiction (k3 d hd), by omega⟩
theorem Tb.ahead {t : SetTable} {hs : List Int} (T : Tb t hs) {x : Int} {K n j : Nat} (hK : way t.mask x K ∉ t.place.toList) (h1 : hs[n]? = some x) (h2 : t.place.toList[n]? = some j) : ∃ c, way t.mask x c = j ∧ c < K := by
  obtain ⟨c, c1, c2⟩ := T.rd n x j h1 h2
  have hj := List.mem_of_getElem? h2
  refine ⟨c, c1, Classical.byContradiction fun no => ?_⟩
  rcases Nat.lt_or_eq_of_le (Nat.le_of_not_lt no) with q | q
  · exact hK (c2 K q)
  · subst q
    exact hK (by rw [c1]; exact hj)
/-- what is in the table once more is put in -/
structure PutTo (t t' : SetTable) (hs hs' : List Int) : Prop where
  tb : Tb t' hs'
  mask : t'.mask = t.mask
  led : t'.led = t.led
  plain : t'.plain = t.plain
  fill : t'.fill = hs.length + 1
theorem Tb.puts {t : SetTable} {hs : List Int} (T : Tb t hs) {x : Int} {K : Nat} (hK : way t.mask x K ∉ t.place.toList) (hb : ∀ c, c < K → way t.mask x c ∈ t.place.toList) {p : Nat} (hp : p = SetTable.below t.place (way t.mask x K)) :
    p ≤ hs.length ∧ PutTo t (t.put (way t.mask x K)).1 hs (hs.take p ++ x :: hs.drop p) := by
  have top := way_top t.mask x K
  generalize hj : way t.mask x K = j at *
  have cut := (below_cut T.rs j).1
  rw [← hp] at cut
  have pl : (t.put j).1.place.toList = t.place.toList.take p ++ j :: t.place.toList.drop p := by rw [put_place, hp]
  have c1 : p ≤ t.place.toList.length := by rw [Array.length_toList]; exact cut
  have c2 : p ≤ hs.length := by rw [← T.lenL]; exact c1
  have ln : (t.put j).1.place.size = hs.length + 1 := by
    have := congrArg List.length pl
    rw [len_ins _ c1, Array.length_toList, T.lenL] at this
    exact this
  have gr : ∀ y, y ∈ t.place.toList → y ∈ (t.put j).1.place.toList := fun y hy => by
    rw [pl]
    exact mem_ins.mpr (Or.inr hy)
  refine ⟨c2, ⟨?_, ?_, ?_, T.ms, ?_, ?_⟩, rfl, rfl, rfl, ?_⟩
  rotate_right
  · unfold SetTable.fill
    rw [ln, put_dm T.nd]
    rfl
  · refine ris_insert T.rs fun e => hK ?_
    exact List.mem_of_getElem? (by rw [Array.getElem?_toList]; exact e)
  · exact put_dm T.nd j
  · rw [ln, len_ins _ c2]
  · intro y hy
    rw [pl, mem_ins] at hy
    rcases hy with e | e
    · subst e; exact top
    · exact T.tp y e
  · intro n y i h1 h2
    rw [tins_get _ c2] at h1
    rw [pl, tins_get _ c1] at h2
    show ∃ c, way t.mask y c = i ∧ _
    by_cases a : n = p
    · subst a
      simp only [Nat.lt_irrefl, if_false, if_true, Option.some.injEq] at h1 h2
      subst h1
      subst h2
      exact ⟨K, hj, fun d hd => gr _ (hb d hd)⟩
    · have go : ∀ n', hs[n']? = some y → t.place.toList[n']? = some i → ∃ c, way t.mask y c = i ∧ ∀ d, d < c → way t.mask y d ∈ (t.put j).1.place.toList := fun n' e1 e2 => by
        obtain ⟨c, q1, q2⟩ := T.rd n' y i e1 e2
        exact ⟨c, q1, fun d hd => gr _ (q2 d hd)⟩
      by_cases b : n < p
      · rw [if_pos b] at h1 h2
        exact go n h1 h2
      · rw [if_neg b, if_neg a] at h1 h2
        exact go (n - 1) h1 h2

/-! ## laid anew -/
theorem free_at {m : Nat} (hm : Msk m) (own : Array (Option Nat)) (x : Int) {j : Nat} (hj : j ≤ m) (e : oAt own j = none) :
    ∃ K, oAt own (way m x K) = none ∧ (∀ c, c < K → oAt own (way m x c) ≠ none) ∧ SetTable.layClean.free m own (SetTable.turns m) (SetTable.bits x % (m + 1)) (SetTable.bits x) = some (way m x K) := by
  obtain ⟨n, n1, n2⟩ := run_at hm x hj
  have at_n : way m x (off m (SetTable.bits x % (m + 1)) (SetTable.bits x) n) = j := by
    unfold way
    rw [nth_off, itL_run, ← n2]
    rfl
  obtain ⟨K, k1, k2, k3⟩ := st_least (p := fun c => oAt own (way m x c) = none) _ (by rw [at_n]; exact e)
  refine ⟨K, k2, k3, free_spec m own (SetTable.turns m) n _ _ K (by unfold SetTable.turns; omega) k1 (fun c hc => ?_) ?_⟩
  · have q := k3 c hc
    exact Option.isNone_eq_false_iff.mpr (Option.isSome_iff_ne_none.mpr q)
  · exact Option.isNone_iff_eq_none.mpr k2
theorem own_more {m : Nat} (hm : Msk m) {done : List Int} {own : Array (Option Nat)} (W : Own m done own) (room : done.length ≤ m) (x : Int) :
    ∃ j, SetTable.layClean.free m own (SetTable.turns m) (SetTable.bits x % (m + 1)) (SetTable.bits x) = some j ∧ Own m (done ++ [x]) (own.setIfInBounds j (some done.length)) := by
  obtain ⟨qs, q1, q2⟩ := W.ps
  obtain ⟨i, i1, i2⟩ := st_missing qs (m + 1) (by omega)
  have ei : oAt own i = none := Classical.byContradiction fun no => i2 (q2 i (by omega) no)
  obtain ⟨K, k1, k2, k3⟩ := free_at hm own x (j := i) (by omega) ei
  have top := way_top m x K
  refine ⟨way m x K, k3, ?_⟩
  obtain ⟨J, hJ⟩ : ∃ J, J = way m x K := ⟨_, rfl⟩
  rw [← hJ] at top k1 ⊢
  have sz : J < own.size := by rw [W.sz]; omega
  have here : oAt (own.setIfInBounds J (some done.length)) J = some done.length := oAt_set_self _ sz
  have else_ : ∀ i, i ≠ J → oAt (own.setIfInBounds J (some done.length)) i = oAt own i := fun i hi => oAt_set_ne _ hi
  have stays : ∀ i, oAt own i ≠ none → oAt (own.setIfInBounds J (some done.length)) i ≠ none := fun i hi => by
    by_cases c : i = J
    · rw [c, here]; simp
    · rw [else_ i c]; exact hi
  constructor
  · rw [Array.size_setIfInBounds]
    exact W.sz
  · intro i n hi e
    by_cases c : i = J
    · rw [c, here] at e
      have en : done.length = n := Option.some.inj e
      refine ⟨x, K, ?_, by rw [c, hJ], fun d hd => stays _ (k2 d hd)⟩
      rw [← en]
      simp
    · rw [else_ i c] at e
      obtain ⟨y, L, l1, l2, l3⟩ := W.at_ i n hi e
      refine ⟨y, L, ?_, l2, fun d hd => stays _ (l3 d hd)⟩
      have := (List.getElem?_eq_some_iff.mp l1).1
      rw [List.getElem?_append_left this]
      exact l1
  · intro n hn
    rw [List.length_append, List.length_cons, List.length_nil] at hn
    by_cases c : n = done.length
    · exact ⟨J, top, by rw [c]; exact here⟩
    · obtain ⟨i, i1, i2⟩ := W.all n (by omega)
      refine ⟨i, i1, ?_⟩
      rw [else_ i fun z => by rw [z, k1] at i2; cases i2]
      exact i2
  · refine ⟨J :: qs, by simp [q1], fun i hi e => ?_⟩
    by_cases c : i = J
    · rw [c]; exact List.mem_cons_self
    · rw [else_ i c] at e
      exact List.mem_cons_of_mem _ (q2 i hi e)
theorem own_all {m : Nat} (hm : Msk m) : ∀ (rest done : List Int) (own : Array (Option Nat)), done.length + rest.length ≤ m → Own m done own →
    ∃ own', Own m (done ++ rest) own' ∧ rest.foldl (stepF m) (some (own, done.length)) = some (own', (done ++ rest).length)
  | [], done, own, _, W => ⟨own, by rw [List.append_nil]; exact ⟨W, rfl⟩⟩
  | x :: rest, done, own, room, W => by
    simp only [List.length_cons] at room
    obtain ⟨j, e, W'⟩ := own_more hm W (by omega) x
    obtain ⟨own', W2, e2⟩ := own_all hm rest (done ++ [x]) _ (by simp only [List.length_append, List.length_cons, List.length_nil]; omega) W'
    refine ⟨own', ?_, ?_⟩
    · rw [List.append_assoc] at W2
      exact W2
    · rw [List.foldl_cons, stepF_some e]
      rw [List.append_assoc, List.length_append, List.length_cons, List.length_nil] at e2
      exact e2
theorem lay_ok {m : Nat} (hm : Msk m) (hs : Array Int) (room : hs.size ≤ m) : ∃ own, Own m hs.toList own ∧ SetTable.layClean m hs = some own := by
  obtain ⟨own, W, e⟩ := own_all hm hs.toList [] _ (by simpa using room) (Own.init m)
  rw [List.nil_append] at W e
  refine ⟨own, W, ?_⟩
  rw [layClean_eq]
  rw [List.length_nil] at e
  rw [e]
  rfl
/-- what a table laid anew is -/
structure Anew (t t' : SetTable) (hs : Array Int) (order : Array Nat) (M : Nat) : Prop where
  perm : order.toList.Perm (List.range hs.size)
  tb : Tb t' (order.toList.map fun n => hs.getD n 0)
  mask : t'.mask = M
  led : t'.led = t.led
  plain : t'.plain = t.plain
theorem anew (t : SetTable) (hs : Array Int) {wanted M : Nat} (eM : SetTable.sizeAbove wanted - 1 = M) (hM : Msk M) (room : hs.size ≤ M) : ∃ t' order, t.relaid hs wanted = some (t', order) ∧ Anew t t' hs order M := by
  obtain ⟨own, W, e⟩ := lay_ok hM hs room
  refine ⟨tabOf t M own, ((liveOf M own).map (·.2)).toArray, ?_, ?_⟩
  · rw [relaid_eq, eM, e]
    rfl
  have rl := ris_live (fun j => own.getD j none) (List.range (M + 1)) (by unfold Ris; exact List.pairwise_lt_range)
  have r1 : Ris ((liveOf M own).map (·.1)) := rl.1
  have r2 : ∀ j ∈ (liveOf M own).map (·.1), j ≤ M := fun j hj => by
    have := List.mem_range.mp (rl.2 j hj)
    omega
  have hl : ∀ {j n : Nat}, (j, n) ∈ liveOf M own ↔ j ≤ M ∧ oAt own j = some n := mem_live W.sz
  have hz : hs.toList.length = hs.size := Array.length_toList
  have num : ∀ n, n < hs.size → n ∈ (liveOf M own).map (·.2) := fun n hn => by
    obtain ⟨j, j1, j2⟩ := W.all n (by omega)
    exact List.mem_map.mpr ⟨(j, n), hl.mpr ⟨j1, j2⟩, rfl⟩
  have len : (liveOf M own).length = hs.size := by
    obtain ⟨qs, q1, q2⟩ := W.ps
    have up := nat_nodup_len ((liveOf M own).map (·.1)) qs (show ((liveOf M own).map (·.1)).Nodup from List.Pairwise.imp (fun h => Nat.ne_of_lt h) r1) fun j hj => by
      obtain ⟨⟨j', n⟩, h1, h2⟩ := List.mem_map.mp hj
      have h3 := hl.mp h1
      simp only [] at h2
      subst h2
      exact q2 _ h3.1 (by rw [h3.2]; simp)
    have dn := nat_nodup_len (List.range hs.size) ((liveOf M own).map (·.2)) List.nodup_range fun n hn => num n (List.mem_range.mp hn)
    rw [List.length_map] at up dn
    rw [List.length_range] at dn
    omega
  refine ⟨perm_range _ _ (by show ((liveOf M own).map (·.2)).length = _; rw [List.length_map, len]) num, ⟨r1, rfl, ?_, hM, r2, ?_⟩, rfl, rfl, rfl⟩
  · show ((liveOf M own).map (·.1)).length = _
    simp
  · intro n x j h1 h2
    have h1' : (((liveOf M own).map (·.2)).map fun n => hs.getD n 0)[n]? = some x := h1
    have h2' : ((liveOf M own).map (·.1))[n]? = some j := h2
    rw [List.map_map, List.getElem?_map] at h1'
    rw [List.getElem?_map] at h2'
    obtain ⟨⟨i, k⟩, g1, g2⟩ := Option.map_eq_some_iff.mp h2'
    rw [g1] at h1'
    have gx : hs.getD k 0 = x := Option.some.inj h1'
    simp only [] at g2
    subst g2
    have lv := hl.mp (List.mem_of_getElem? g1)
    obtain ⟨y, K, y1, y2, y3⟩ := W.at_ _ k lv.1 lv.2
    have yx : y = x := by
      rw [← gx, Array.getD_eq_getD_getElem?, ← Array.getElem?_toList, y1]
      rfl
    subst yx
    refine ⟨K, y2, fun d hd => ?_⟩
    show way M y d ∈ (liveOf M own).map (·.1)
    obtain ⟨v, hv⟩ := Option.ne_none_iff_exists'.mp (y3 d hd)
    exact List.mem_map.mpr ⟨(way M y d, v), hl.mpr ⟨way_top M y d, hv⟩, rfl⟩
/-- the masks as the set grows -/
theorem grow_to {n M : Nat} (hM : M = 7 ∨ M = 31 ∨ M = 127 ∨ M = 511 ∨ M = 2047 ∨ M = 8191) (a : (n + 1) * 5 ≥ M * 3) (b : n * 5 < M * 3) (few : n + 1 ≤ 4200) :
    ∃ M', (M' = 31 ∨ M' = 127 ∨ M' = 511 ∨ M' = 2047 ∨ M' = 8191) ∧ SetTable.sizeAbove (SetTable.grown (n + 1)) = M' + 1 ∧ (n + 1) * 5 < M' * 3 := by
  rcases hM with e | e | e | e | e | e
  · have : n = 4 := by omega
    subst this
    exact ⟨31, by simp, by decide +kernel, by omega⟩
  · have : n = 18 := by omega
    subst this
    exact ⟨127, by simp, by decide +kernel, by omega⟩
  · have : n = 76 := by omega
    subst this
    exact ⟨511, by simp, by decide +kernel, by omega⟩
  · have : n = 306 := by omega
    subst this
    exact ⟨2047, by simp, by decide +kernel, by omega⟩
  · have : n = 1228 := by omega
    subst this
    exact ⟨8191, by simp, by decide +kernel, by omega⟩
  · omega
theorem msk_of {M : Nat} (hM : M = 7 ∨ M = 31 ∨ M = 127 ∨ M = 511 ∨ M = 2047 ∨ M = 8191) : Msk M := by
  rcases hM with e | e | e | e | e | e
  · exact ⟨3, by omega, by omega, by omega⟩
  · exact ⟨5, by omega, by omega, by omega⟩
  · exact ⟨7, by omega, by omega, by omega⟩
  · exact ⟨9, by omega, by omega, by omega⟩
  · exact ⟨11, by omega, by omega, by omega⟩
  · exact ⟨13, by omega, by omega, by omega⟩
end Cs

set_option maxRecDepth 100000
set_option maxHeartbeats 4000000
namespace Cs
open PySem PySem.Spec PyProof.Rows L2

/-! ## a set of tuples of ints, at most 4,200 of them -/
def six (m : Nat) : Prop := m = 7 ∨ m = 31 ∨ m = 127 ∨ m = 511 ∨ m = 2047 ∨ m = 8191
structure Held (P : Program) (w : World) (h : Heap) (a : Addr) (L : List (Addr × List Int)) (es : Array (Int × Value)) (ep : Nat) (t : SetTable) : Prop where
  obj : ∃ o, h.get? a = some o ∧ o.ExactSet ∧ o.data = .set es ep t
  rows : es.toList = rowsOf P w L
  tb : Tb t (L.map fun q => thash P w q.2)
  nod : (L.map (·.2)).Nodup
  tups : ∀ q ∈ L, IsT P w h q.2 q.1
  pln : t.plain = true
  led : w.params.followText "set-order" = true ∨ t.led = true
  low : L.length * 5 < t.mask * 3
  m6 : six t.mask
section
variable {P : Program} {w : World} {A : Around} {E : Value → Shared → Prop} {s : Shared} {a : Addr} {L : List (Addr × List Int)} {es : Array (Int × Value)} {ep : Nat} {t : SetTable}
theorem rows_size (r : es.toList = rowsOf P w L) : es.size = L.length := by
  rw [← Array.length_toList, r]
  exact List.length_map ..
theorem fits_of {n : Nat} (T : Tb t (L.map fun q => thash P w q.2)) (e : n = L.length) (m : L.length ≤ t.mask) : t.fits n = true := by
  have l := T.ln
  rw [List.length_map] at l
  have f : t.fill = t.place.size := by
    unfold SetTable.fill
    rw [T.nd]
    rfl
  unfold SetTable.fits
  rw [f, l, e]
  simpa using m
theorem Held.fit (R : Held P w s.heap a L es ep t) : t.fits es.size = true := fits_of R.tb (rows_size R.rows) (by have := R.low; omega)
theorem Held.row (R : Held P w s.heap a L es ep t) {i : Nat} {q : Addr × List Int} (h : L[i]? = some q) : es[i]? = some (thash P w q.2, Value.ref q.1) := by
  have : es.toList[i]? = some (thash P w q.2, Value.ref q.1) := by
    rw [R.rows, rowsOf, List.getElem?_map, h]
    rfl
  rw [← Array.getElem?_toList]
  exact this
theorem Held.odd (R : Held P w s.heap a L es ep t) : ¬ t.gaveWay = true := fun h => by
  have := msk_odd R.tb.ms
  unfold SetTable.gaveWay at h
  rw [this] at h
  cases h
abbrev stp (m : Nat) (x : Int) (c : Nat) : SetTable.Probe := nth m (runAt m (SetTable.bits x % (m + 1)) (SetTable.bits x)) c
theorem stp_dummy (m : Nat) (x : Int) (c : Nat) : (stp m x c).dummy = none := by
  have g : ∀ n (p : SetTable.Probe), p.dummy = none → (nth m p n).dummy = none := fun n => by
    induction n with
    | zero => exact fun _ h => h
    | succ n ih => exact fun p h => ih _ (by unfold adv; split <;> exact h)
  exact g c _ rfl
theorem stp_on (m : Nat) (x : Int) (c d : Nat) : nth m (stp m x c) d = stp m x (c + d) := (nth_add m c _ d).symm
/-- the search for a tuple among those that are there, as adding asks for it; from the step c of the way on -/
theorem seek (R : Held P w s.heap a L es ep t) {x : Addr} {k : List Int} (hx : IsT P w s.heap k x) (hu : A.units < cLine) {K : Nat} (few : K < 10 * SetTable.turns t.mask)
    (free : way t.mask (thash P w k) K ∉ t.place.toList) (full : ∀ c, c < K → way t.mask (thash P w k) c ∈ t.place.toList) {Q : SetFound → Shared → Prop}
    (old : k ∈ L.map (·.2) → Q (.there none) s) (new : k ∉ L.map (·.2) → Q (.free (way t.mask (thash P w k) K) false) s) :
    ∀ (f c : Nat) (from_ : Option SetTable.Probe), c ≤ K → K < c + f → from_.getD (t.probeStart (thash P w k)) = stp t.mask (thash P w k) c →
      (∀ (i : Nat) (q : Addr × List Int), L[i]? = some q → q.2 = k → ∃ d, c ≤ d ∧ d < K ∧ t.place.toList[i]? = some (way t.mask (thash P w k) d)) →
      wpAny (model P w) A (setSearchFrom a (.ref x) (thash P w k) true f from_) Q E s := by
  intro f
  induction f with
  | zero => intro c _ h1 h2 _ _; omega
  | succ f ih =>
    intro c from_ h1 h2 hst hrest
    obtain ⟨o, ho, hex, hd⟩ := R.obj
    have hfit := R.fit
    generalize hX : thash P w k = X at *
    rw [setSearchFrom_succ]
    refine wpAny_bind (wpAny_setState_of ho hd hfit ?_)
    dsimp only
    refine wp_if_neg R.odd ?_
    try refine wpAny_bind (wpAny_pure ?_)
    have hash_at : ∀ {i : Nat} {q : Addr × List Int}, L[i]? = some q → (es[i]?.map (·.1)).getD 0 = thash P w q.2 := fun {i q} hq => by
      rw [R.row hq]
      rfl
    have spec := go_spec t R.tb.rs R.tb.nd (fun i => (es[i]?.map (·.1)).getD 0) X (10 * SetTable.turns t.mask) (K - c) (stp t.mask X c) (stp_dummy _ _ _) (by omega)
      (fun d hd' => by rw [stp_on]; exact full _ (by omega)) (by rw [stp_on, Nat.add_sub_cancel' h1]; exact free)
    have probe_eq : ∀ z, SetTable.probe.go t (fun i => (es[i]?.map (·.1)).getD 0) X (10 * SetTable.turns t.mask) (stp t.mask X c) = some z → t.probe (fun i => (es[i]?.map (·.1)).getD 0) X (from_.getD (t.probeStart X)) = some z := fun z hz => by
      rw [hst]
      exact hz
    rcases spec with ⟨d, i, d1, d2, d3, d4, d5⟩ | ⟨d4, d5⟩
    · -- one with this hash
      rw [probe_eq _ d5]
      rw [stp_on] at d2
      rw [stp_on, stp_on]
      dsimp only
      have li : i < L.length := by
        have l1 := (List.getElem?_eq_some_iff.mp d2).1
        have l2 := R.tb.lenL
        rw [List.length_map] at l2
        omega
      obtain ⟨q, hq⟩ : ∃ q, L[i]? = some q := ⟨_, List.getElem?_eq_getElem li⟩
      have hqm := List.mem_of_getElem? hq
      have slot_i : t.slot (stp t.mask X (c + d)).j = .live i := slot_live R.tb.rs d2
      have tail : wpAny (model P w) A (searchRest a (.ref x) X true f es t (stp t.mask X (c + d)).j i (stp t.mask X (c + (d + 1)))) Q E s := by
        unfold searchRest
        rw [R.row hq]
        dsimp only
        refine wpAny_bind (wpAny_holding (wpAny_eqBool_tuple hu (R.tups q hqm) hx ?_))
        refine wpAny_bind (wpAny_setState_of ho hd hfit ?_)
        dsimp only
        by_cases same : q.2 = k
        · refine wp_if_pos (by simp [same]) ?_
          exact wpAny_pure (old (List.mem_map.mpr ⟨q, hqm, same⟩))
        · refine wp_if_neg (by simp [same]) ?_
          try refine wpAny_bind (wpAny_pure ?_)
          rw [sameMem]
          dsimp only
          simp only [if_true, slot_i, R.row hq]
          refine wpAny_bind (wpAny_isSame_ref_self (wpAny_bind (wpAny_pure ?_)))
          simp only [if_true]
          refine wp_if_neg (by simp [same]) ?_
          refine ih (c + (d + 1)) _ (by omega) (by omega) rfl fun n r hr hk => ?_
          obtain ⟨g, g1, g2, g3⟩ := hrest n r hr hk
          refine ⟨g, ?_, g2, g3⟩
          apply Classical.byContradiction
          intro no
          by_cases e : g = c + d
          · -- it is the very slot
            rw [e] at g3
            have s2 := slot_live R.tb.rs g3
            have s3 : t.slot (stp t.mask X (c + d)).j = .live n := s2
            rw [slot_i] at s3
            injection s3 with s3
            rw [← s3, hq] at hr
            exact same (by rw [Option.some.inj hr]; exact hk)
          · refine d4 (g - c) n (by omega) ?_ ?_
            · rw [stp_on, Nat.add_sub_cancel' g1]
              exact g3
            · show (es[n]?.map (·.1)).getD 0 = X
              rw [hash_at hr, hk, hX]
      by_cases hl : t.led = true
      · refine wp_if_neg (by simp [hl]) ?_
        try refine wpAny_bind (wpAny_pure ?_)
        exact tail
      · refine wp_if_pos (by simp [hl]) ?_
        refine wpAny_bind (seen_tup hx (fun y hy => ?_) ?_)
        · obtain ⟨z, hz, rfl⟩ := List.mem_map.mp hy
          have zm : z ∈ es.toList := by
            rw [Array.mem_toList_iff] at hz ⊢
            exact (Array.mem_filter.mp hz).1
          rw [R.rows] at zm
          obtain ⟨r, hr, rfl⟩ := List.mem_map.mp zm
          exact ⟨r.2, r.1, rfl, R.tups r hr⟩
        · refine wp_if_neg (by decide) ?_
          try refine wpAny_bind (wpAny_pure ?_)
          exact tail
    · -- a free slot
      rw [probe_eq _ d5]
      rw [stp_on, Nat.add_sub_cancel' h1]
      dsimp only
      refine wpAny_pure (new fun hm => ?_)
      obtain ⟨r, hr, hk⟩ := List.mem_map.mp hm
      obtain ⟨n, hn, e⟩ := List.getElem_of_mem hr
      have hn' : L[n]? = some r := by rw [List.getElem?_eq_getElem hn, e]
      obtain ⟨g, g1, g2, g3⟩ := hrest n r hn' hk
      refine d4 (g - c) n (by omega) ?_ ?_
      · rw [stp_on, Nat.add_sub_cancel' g1]
        exact g3
      · show (es[n]?.map (·.1)).getD 0 = X
        rw [hash_at hn', hk, hX]
theorem six_le {m : Nat} (h : six m) : m ≤ 8191 := by unfold six at h; omega
theorem seek_all (R : Held P w s.heap a L es ep t) {x : Addr} {k : List Int} (hx : IsT P w s.heap k x) (hu : A.units < cLine) {Q : SetFound → Shared → Prop} (old : k ∈ L.map (·.2) → Q (.there none) s)
    (new : ∀ K, k ∉ L.map (·.2) → way t.mask (thash P w k) K ∉ t.place.toList → (∀ c, c < K → way t.mask (thash P w k) c ∈ t.place.toList) → Q (.free (way t.mask (thash P w k) K) false) s) :
    wpAny (model P w) A (setSearch a (.ref x) (thash P w k) true) Q E s := by
  have low := R.low
  obtain ⟨K, k1, k2, k3⟩ := R.tb.gap (by rw [List.length_map]; omega) (thash P w k)
  have big : K < 0 + 100000 := by
    have := six_le R.m6
    unfold SetTable.turns at k3
    omega
  refine seek R hx hu k3 k1 k2 old (fun no => new K no k1 k2) 100000 0 none (Nat.zero_le _) big rfl fun i q hq hk => ?_
  have hi : (L.map fun q => thash P w q.2)[i]? = some (thash P w k) := by
    rw [List.getElem?_map, hq, ← hk]
    rfl
  have li : i < t.place.toList.length := by
    have l1 := (List.getElem?_eq_some_iff.mp hq).1
    have l2 := R.tb.lenL
    rw [List.length_map] at l2
    omega
  obtain ⟨c, c1, c2⟩ := R.tb.ahead k1 hi (List.getElem?_eq_getElem li)
  exact ⟨c, Nat.zero_le _, c2, by rw [c1]; exact List.getElem?_eq_getElem li⟩
/-- the table laid anew -/
theorem relay (ho : ∃ o, s.heap.get? a = some o ∧ o.ExactSet ∧ o.data = .set es ep t) (rows : es.toList = rowsOf P w L) (T : Tb t (L.map fun q => thash P w q.2)) (fl : L.length ≤ t.mask)
    (nod : (L.map (·.2)).Nodup) (tups : ∀ q ∈ L, IsT P w s.heap q.2 q.1) (pln : t.plain = true) (led : w.params.followText "set-order" = true ∨ t.led = true)
    {wanted M : Nat} (eM : SetTable.sizeAbove wanted = M + 1) (hM : six M) (low : L.length * 5 < M * 3) {Q : Unit → Shared → Prop}
    (hQ : ∀ h' L' es' ep' t', Heap.SameBut a s.heap h' → Held P w h' a L' es' ep' t' → L'.Perm L → Q () { s with heap := h' }) : wpAny (model P w) A (setRelay a wanted) Q E s := by
  obtain ⟨o, ho, hex, hd⟩ := ho
  have sz := rows_size rows
  have hm := six_le hM
  obtain ⟨t', order, e, N⟩ := anew t (es.map (·.1)) (wanted := wanted) (M := M) (by omega) (msk_of hM) (by rw [Array.size_map, sz]; omega)
  have pm := N.perm
  rw [Array.size_map, sz] at pm
  obtain ⟨L', r1, r2, r3⟩ := order_rows L es order rows pm
  have sz' : (order.filterMap (es[·]?)).size = es.size := by rw [rows_size r1, r2.length_eq, sz]
  have tb' := N.tb
  rw [← r3] at tb'
  rw [setRelay_eq]
  refine wpAny_bind (wpAny_setState_of ho hd (fits_of T sz fl) ?_)
  dsimp only
  refine wp_if_neg (by rw [sizeLine_eq, eM]; omega) ?_
  try refine wpAny_bind (wpAny_pure ?_)
  rw [e]
  dsimp only
  refine wpAny_bind ?_
  refine wp_if_neg (by simp [sz']) ?_
  try refine wpAny_bind (wpAny_pure ?_)
  refine wpAny_pure ?_
  dsimp only
  have hLn : L'.length = L.length := r2.length_eq
  refine wpAny_storeSet_of ho hd ?_ (by rw [sz', sz, sizeLine_eq]; omega)
  refine (hQ _ L' (order.filterMap (es[·]?)) (ep + 1) t' (Heap.SameBut.update ..) ⟨⟨_, store_at ho hd, ⟨hex.1, hex.2.1, hex.2.2⟩, rfl⟩, r1, tb', ?_, fun q hq => ?_, ?_, ?_, ?_, ?_⟩ r2)
  · exact (r2.map (·.2)).nodup_iff.mpr nod
  · exact isT_same (tups q (r2.mem_iff.mp hq)) ho hd (Heap.SameBut.update ..)
  · rw [N.plain]; exact pln
  · rw [N.led]; exact led
  · rw [N.mask, hLn]; exact low
  · rw [N.mask]; exact hM
end
end Cs

set_option maxRecDepth 100000
set_option maxHeartbeats 4000000
namespace Cs
open PySem PySem.Spec PyProof.Rows L2
section
variable {P : Program} {w : World} {A : Around} {E : Value → Shared → Prop} {s : Shared} {a : Addr} {L : List (Addr × List Int)} {es : Array (Int × Value)} {ep : Nat} {t : SetTable}
/-- one more is added -/
theorem added (R : Held P w s.heap a L es ep t) {x : Addr} {k : List Int} (hx : IsT P w s.heap k x) (hu : A.units < cLine) (few : L.length + 1 ≤ 4200) {Q : Bool → Shared → Prop}
    (hQ : ∀ b h' L' es' ep' t', Heap.SameBut a s.heap h' → Held P w h' a L' es' ep' t' → (k ∈ L.map (·.2) → L' = L) → (k ∉ L.map (·.2) → L'.Perm ((x, k) :: L)) → Q b { s with heap := h' }) :
    wpAny (model P w) A (setAddHashed a (.ref x) (thash P w k)) Q E s := by
  obtain ⟨o, ho, hex, hd⟩ := R.obj
  have low := R.low
  unfold setAddHashed
  refine wpAny_holding ?_
  rw [show 100000 = 99999 + 1 from rfl, setAddHashedIn_succ]
  refine wpAny_bind (wpAny_setState_of ho hd R.fit ?_)
  dsimp only
  refine wp_if_neg (by simp [byScan, Value.scannable]) ?_
  try refine wpAny_bind (wpAny_pure ?_)
  refine wpAny_bind (seek_all R hx hu (fun hm => ?_) fun K hm free full => ?_)
  · -- it's there
    dsimp only
    exact wpAny_pure (hQ false s.heap L es ep t (Heap.SameBut.refl a s.heap) R (fun _ => rfl) fun no => absurd hm no)
  dsimp only
  refine wpAny_bind (wpAny_setState_of ho hd R.fit ?_)
  dsimp only
  obtain ⟨p, hp⟩ : ∃ p, p = SetTable.below t.place (way t.mask (thash P w k) K) := ⟨_, rfl⟩
  obtain ⟨p1, Z⟩ := R.tb.puts free full hp
  have snd : (t.put (way t.mask (thash P w k) K)).2 = p := hp.symm
  generalize t.put (way t.mask (thash P w k) K) = made at snd Z ⊢
  obtain ⟨T, p'⟩ := made
  dsimp only at snd Z ⊢
  subst snd
  have plT : T.plain = true := Z.plain.trans R.pln
  first
    | (refine wpAny_bind ?_; refine wp_if_pos plT ?_; refine hashBy_tup hx ?_)
    | refine wp_if_pos plT (wpAny_bind (hashBy_tup hx ?_))
  simp only [if_true]
  obtain ⟨N, hN⟩ : ∃ N, N = L.take p' ++ (x, k) :: L.drop p' := ⟨_, rfl⟩
  have pm : N.Perm ((x, k) :: L) := hN ▸ put_perm L p' (x, k)
  have lenN : N.length = L.length + 1 := pm.length_eq
  have rowN : (SetTable.insertAt es p' (thash P w k, Value.ref x)).toList = rowsOf P w N := by rw [SetTable.toList_insertAt, R.rows, hN, rows_put]
  have tbN : Tb T (N.map fun q => thash P w q.2) := by
    have := Z.tb
    rw [hN, List.map_append, List.map_cons, List.map_take, List.map_drop]
    exact this
  have nodN : (N.map (·.2)).Nodup := (pm.map (·.2)).nodup_iff.mpr (by rw [List.map_cons]; exact List.nodup_cons.mpr ⟨hm, R.nod⟩)
  have szN := rows_size rowN
  generalize SetTable.insertAt es p' (thash P w k, Value.ref x) = rowsN at rowN szN ⊢
  refine wpAny_bind (wpAny_storeSet_of ho hd ?_ (by rw [szN, lenN, sizeLine_eq]; omega))
  have sb : Heap.SameBut a s.heap (s.heap.update a (Obj.putSet rowsN T)) := Heap.SameBut.update ..
  have hoN := store_at (es' := rowsN) (t' := T) ho hd
  generalize s.heap.update a (Obj.putSet rowsN T) = hN' at sb hoN ⊢
  have tupN : ∀ q ∈ N, IsT P w hN' q.2 q.1 := fun q hq => by
    rcases List.mem_cons.mp (pm.mem_iff.mp hq) with e | e
    · subst e
      exact isT_same hx ho hd sb
    · exact isT_same (R.tups q e) ho hd sb
  have ledN : w.params.followText "set-order" = true ∨ T.led = true := by rw [Z.led]; exact R.led
  have fillN : T.fill = L.length + 1 := by rw [Z.fill, List.length_map]
  by_cases full' : T.tooFull = true
  · have hfull : (L.length + 1) * 5 ≥ t.mask * 3 := by
      unfold SetTable.tooFull at full'
      rw [decide_eq_true_eq, fillN, Z.mask] at full'
      exact full'
    obtain ⟨M, M1, M2, M3⟩ := grow_to R.m6 hfull low few
    first
      | (refine wpAny_bind ?_; refine wp_if_pos (by simp [full']) ?_)
      | (refine wp_if_pos (by simp [full']) ?_; refine wpAny_bind ?_)
    rw [rows_size R.rows]
    refine relay (s := { s with heap := hN' }) ⟨_, hoN, ⟨hex.1, hex.2.1, hex.2.2⟩, rfl⟩ rowN tbN (by rw [Z.mask]; omega) nodN tupN plT ledN M2 (Or.inr M1) (by rw [lenN]; exact M3) fun h2 L2 es2 ep2 t2 sb2 R2 pm2 => ?_
    exact wpAny_pure (hQ true h2 L2 es2 ep2 t2 (sb.trans sb2) R2 (fun y => absurd y hm) fun _ => pm2.trans pm)
  · first
      | refine wp_if_neg (by simp [full']) ?_
      | (refine wpAny_bind ?_; refine wp_if_neg (by simp [full']) ?_; refine wpAny_pure ?_)
    refine wpAny_pure (hQ true hN' N rowsN (ep + 1) T sb ⟨⟨_, hoN, ⟨hex.1, hex.2.1, hex.2.2⟩, rfl⟩, rowN, tbN, nodN, tupN, plT, ledN, ?_, ?_⟩ (fun y => absurd y hm) fun _ => pm)
    · unfold SetTable.tooFull at full'
      rw [decide_eq_true_eq, fillN] at full'
      rw [lenN]
      omega
    · rw [Z.mask]; exact R.m6
theorem Held.carry {h h' : Heap} {a : Addr} {L : List (Addr × List Int)} {es : Array (Int × Value)} {ep : Nat} {t : SetTable} (R : Held P w h a L es ep t) (ha : ∀ o, h.get? a = some o → h'.get? a = some o) (ht : ∀ q ∈ L, IsT P w h' q.2 q.1) : Held P w h' a L es ep t := by
  obtain ⟨o, ho, r⟩ := R.obj
  exact ⟨⟨o, ha o ho, r⟩, R.rows, R.tb, R.nod, ht, R.pln, R.led, R.low, R.m6⟩
/-- a set as it's made -/
abbrev blank (w : World) : Obj := { cls := .type "set", dict := none, data := .set #[] 0 (.fresh 0 0 (!w.params.followText "set-order")) }
theorem held_blank {h : Heap} {a : Addr} (ho : h.get? a = some (blank w)) : Held P w h a [] #[] 0 (.fresh 0 0 (!w.params.followText "set-order")) := by
  refine ⟨⟨_, ho, ⟨rfl, rfl, rfl⟩, rfl⟩, rfl, ⟨List.Pairwise.nil, rfl, rfl, msk_of (.inl rfl), fun _ y => (by cases y), fun n y j h1 => (by simp at h1)⟩, List.nodup_nil, fun _ y => (by cases y), rfl, ?_, (by decide : 0 * 5 < 7 * 3), .inl rfl⟩
  show _ ∨ (!w.params.followText "set-order") = true
  cases w.params.followText "set-order" <;> simp
/-- the loop that puts a list's items into the set -/
theorem pour {I : Addr} {fp wr : List Addr} {G : Array GenState → Array GenState → Prop} {n : Nat} {Pv : Nat → Value → Prop} {St : Nat → Shared → Prop} {R : Result → Shared → Prop} (W : WalksS P w A.in1 I fp wr G n Pv St) {S : Addr} (far : S ∉ fp)
    {ks : List (Addr × List Int)} (hn : n = ks.length) (few : ks.length ≤ 4200) (is : ∀ i v, Pv i v → ∃ q, ks[i]? = some q ∧ v = .ref q.1) {h0 : Heap} (hk : ∀ q ∈ ks, IsT P w h0 q.2 q.1) (S0 : h0.get? S = none) (w0 : ∀ b ∈ wr, h0.get? b = none) (hu : A.in1.units < cLine) :
    ∀ (k i : Nat) (s : Shared), i + k = n → St i s → (∀ b o, h0.get? b = some o → s.heap.get? b = some o) → (∃ L es ep t, Held P w s.heap S L es ep t ∧ Got ks i L) →
      (∀ s' L es ep t, Moved (S :: wr) G s s' → Held P w s'.heap S L es ep t → Got ks n L → (∀ b o, h0.get? b = some o → s'.heap.get? b = some o) → R (.ok (.ret .none)) s') →
      codeAny (model P w) A (.builtin "set.update.loop" ⟨[.ref S, .ref I], []⟩) R s := by
  have Sw : S ∉ wr := fun y => far (W.sub _ y)
  have carry0 : ∀ {u v : Shared}, Moved wr G u v → (∀ b o, h0.get? b = some o → u.heap.get? b = some o) → ∀ b o, h0.get? b = some o → v.heap.get? b = some o := fun {u v} mv k0 b o e => by
    refine mv.heap b o (fun y => ?_) (k0 b o e)
    rw [w0 b y] at e
    cases e
  intro k
  induction k with
  | zero =>
    intro i s hik hst k0 ⟨L, es, ep, t, H, g⟩ fin
    obtain rfl : i = n := by omega
    refine codeAny_builtin F.entry_set_update_loop ?_
    rw [Around.under_plainId F.plain_set_update_loop _]
    show wpAny _ A.in1 (pyNext (.ref I) >>= _) _ _ s
    refine wpAny_bind (W.done s _ _ hst fun s' mv => ?_)
    show wpAny _ A.in1 (ret Value.none) _ _ s'
    have k1 := carry0 mv k0
    refine wpAny_pure (fin s' L es ep t (mv.mono fun b hb => List.mem_cons_of_mem _ hb) (H.carry (fun o e => mv.heap S o Sw e) fun q hq => ?_) g k1)
    exact isT_keep (hk q (List.mem_of_mem_take (g.sub q hq))) k1
  | succ k ih =>
    intro i s hik hst k0 ⟨L, es, ep, t, H, g⟩ fin
    refine codeAny_builtin F.entry_set_update_loop ?_
    rw [Around.under_plainId F.plain_set_update_loop _]
    show wpAny _ A.in1 (pyNext (.ref I) >>= _) _ _ s
    refine wpAny_bind (W.item i s _ _ (by omega) hst fun v s' hv hst' mv => ?_)
    obtain ⟨q, hq, rfl⟩ := is i v hv
    have k1 := carry0 mv k0
    have H1 : Held P w s'.heap S L es ep t := H.carry (fun o e => mv.heap S o Sw e) fun r hr => isT_keep (hk r (List.mem_of_mem_take (g.sub r hr))) k1
    have hx : IsT P w s'.heap q.2 q.1 := isT_keep (hk q (List.mem_of_getElem? hq)) k1
    show wpAny _ A.in1 (holding [Value.ref q.1] (setAdd S (.ref q.1)) >>= _) _ _ s'
    refine wpAny_bind (wpAny_holding ?_)
    unfold setAdd
    refine wpAny_holding ?_
    refine wpAny_bind (wpAny_pyHash_tuple hu hx ?_)
    refine added (s := { s' with toks := s'.toks + (q.2.length + 1) }) H1 hx hu (by have := g.len; omega) fun b h' L' es' ep' t' sb H2 c1 c2 => ?_
    have g2 : Got ks (i + 1) L' := by
      by_cases c : q.2 ∈ L.map (·.2)
      · rw [c1 c]
        exact g.same hq c
      · exact g.more hq (c2 c)
    have k2 : ∀ b o, h0.get? b = some o → h'.get? b = some o := fun b o e => by
      have ne : b ≠ S := fun y => by
        rw [y, S0] at e
        cases e
      rw [sb.2 b ne]
      exact k1 b o e
    have st2 := fun (b : Addr) (hb : b ∈ fp) (o : Obj) (e : s'.heap.get? b = some o) => (sb.2 b (fun y => far (y ▸ hb))).trans e
    refine wpAny_pure ⟨plainId_quiet F.plain_set_update_loop _, ih (i + 1) _ (by omega) (W.frame _ s' _ _ hst' (Nat.le_add_right _ _) st2) k2 ⟨L', es', ep', t', H2, g2⟩ fun s'' L2 es2 ep2 t2 mv2 H3 g3 k3 => ?_⟩
    refine fin s'' L2 es2 ep2 t2 (Moved.trans W.gtrans ((mv.mono fun b hb => List.mem_cons_of_mem _ hb).then_heap (Nat.le_add_right _ _) fun b o hb e => ?_) mv2) H3 g3 k3
    rw [sb.2 b fun y => hb (y ▸ List.mem_cons_self)]
    exact e
set_option maxHeartbeats 8000000 in
/-- set(l), l a list of tuples of ints -/
theorem set_of {l : Addr} {its : Array Value} (ks : List (Addr × List Int)) {Q : Value → Shared → Prop} (hh : A.handled = none) (hl : s.heap.IsList l its) (hit : its.toList = ks.map fun q => Value.ref q.1) (hk : ∀ q ∈ ks, IsT P w s.heap q.2 q.1)
    (few : ks.length ≤ 4200) (hu : A.units + 3 < cLine)
    (hQ : ∀ (h' : Heap) (tk : Nat) L es ep t, Held P w h' s.heap.objs.size L es ep t → Got ks ks.length L → (∀ b o, s.heap.get? b = some o → h'.get? b = some o) → Q (.ref s.heap.objs.size) { s with heap := h', toks := tk }) :
    wpAny (model P w) A (call (.type "set") [.ref l]) Q E s := by
  have sz : its.size = ks.length := by
    rw [← Array.length_toList, hit]
    exact List.length_map ..
  obtain ⟨_, _, mro⟩ := F.called_set.mro
  have f1 := F.called_set.made
  have f2 := F.called_set.sub
  refine wpAny_call (codeAny_of_tree ?_)
  show wpAny _ _ (callAny (.type "set") _) _ _ _
  refine wpAny_pure ⟨Code.quiet_builtin _ (by decide +kernel), codeAny_builtin F.entry_type_call ?_⟩
  rw [Around.under_plain (weight_type_call_type "set" [.ref l] []) rfl]
  have f3 := F.called_set.notType
  have f4 := F.called_set.canCreate
  have f5 := F.typeCall_set_1 (.ref l)
  repeat (any_goals (first | assumption | wp_step))
  refine codeAny_mono (code_set_led1 (.ref l) (E := E) (Q₁ := fun v u => v = .ref s.heap.objs.size ∧ u = { s with heap := s.heap.push (blank w) }) ⟨rfl, rfl⟩) fun r u hr => ?_
  cases r with
  | error e => exact hr
  | ok g =>
    cases g with
    | ret v =>
      obtain ⟨rfl, rfl⟩ := hr
      have new : (s.heap.push (blank w)).get? s.heap.objs.size = some (blank w) := Heap.get?_push_size _ rfl
      have ty : Shared.TypeIs { s with heap := s.heap.push (blank w) } (.ref s.heap.objs.size) "set" := ⟨_, new, rfl⟩
      have f6 := F.called_set.init.lookup
      have f7 := F.called_set.init.bind (.ref s.heap.objs.size)
      repeat (any_goals (first | assumption | wp_step))
      refine codeAny_mono (codeAny_call_builtin (R := wants (fun z u => z = .none ∧ ∃ h' tk L es ep t, u = { s with heap := h', toks := tk } ∧ Held P w h' s.heap.objs.size L es ep t ∧ Got ks ks.length L ∧
          (∀ b o, s.heap.get? b = some o → h'.get? b = some o)) E) F.called_set.init.plain F.entry_set_init (check_set_init_1 ty ?_)) fun z u hz => ?_
      · obtain ⟨⟨oc, od, odt, osl⟩, hol, hcl, nl, hdl⟩ := hl
        simp only at hcl hdl
        subst hcl
        subst hdl
        have here : (s.heap.push (blank w)).get? l = some { cls := .type "list", dict := od, data := .seq its nl, slots := osl } := Heap.get?_push_of_some _ hol
        have f8 := F.sub_list_set
        have f9 := F.sub_list_frozenset
        have f10 : (Value.type "list" == Value.type "dict") = false := by decide
        have isl : (s.heap.push (blank w)).IsList l its := ⟨_, here, rfl, nl, rfl⟩
        unfold Builtin.«set.__init__» noKeywords Builtin.Frozenset.updateFrom
        generalize pi : pyIter = PI
        wp_walk
        subst pi
        refine wpAny_pyIter_list isl ?_
        refine wpAny_bind (wpAny_runValue ?_)
        have lS : l < s.heap.objs.size := Heap.lt_size hol
        have h3 : A.in1.in1.in1.handled = none := by simp [hh]
        have above : ∀ b, s.heap.objs.size ≤ b → s.heap.get? b = none := fun b hb => by
          cases y : s.heap.get? b with
          | none => rfl
          | some o => exact absurd (Heap.lt_size y) (Nat.not_lt.mpr hb)
        have psz : (s.heap.push (blank w)).objs.size = s.heap.objs.size + 1 := Heap.size_push ..
        have lI : l ≠ (s.heap.push (blank w)).objs.size := by rw [psz]; exact Nat.ne_of_lt (Nat.lt_succ_of_lt lS)
        refine pour ((Walks.list h3 _ l lI its).toS) (S := s.heap.objs.size) (by rw [psz]; simp only [List.mem_cons, List.not_mem_nil, or_false, not_or]; exact ⟨Nat.ne_of_lt (Nat.lt_succ_self _), Nat.ne_of_gt lS⟩) sz few (fun i v hv => ?_) (h0 := s.heap) hk (above _ (Nat.le_refl _))
          (fun b hb => above b (by rw [List.mem_singleton.mp hb, psz]; exact Nat.le_succ _)) hu (its.size - 0) 0 _ (by omega) ⟨⟨_, Heap.get?_push_size _ rfl, rfl, rfl⟩, isl.push _⟩ (fun b o e => Heap.get?_push_of_some _ (Heap.get?_push_of_some _ e)) ?first ?last
        · have q : its.toList[i]? = some v := by rw [Array.getElem?_toList]; exact hv
          rw [hit, List.getElem?_map] at q
          obtain ⟨r, r1, r2⟩ := Option.map_eq_some_iff.mp q
          exact ⟨r, r1, r2.symm⟩
        case first => exact ⟨[], #[], 0, _, held_blank (Heap.get?_push_of_some _ new), Got.zero ks⟩
        case last =>
          intro u L es ep t mv H g k0
          obtain ⟨uh, ug, ud, ut, uo⟩ := u
          obtain rfl : ug = s.gens := mv.gens
          obtain rfl : ud = s.drawn := mv.drawn
          obtain rfl : uo = s.os := mv.os
          show wpAny _ _ _ _ _ _
          refine wpAny_pure ?_
          show wpAny _ _ (ret Value.none) _ _ _
          rw [sz] at g
          exact wpAny_pure ⟨rfl, uh, ut, L, es, ep, t, rfl, H, g, k0⟩
      · cases z with
        | error e => exact hz
        | ok g2 =>
          cases g2 with
          | ret v2 =>
            obtain ⟨rfl, h', tk, L, es, ep, t, rfl, H, g, k0⟩ := hz
            repeat (any_goals (first | assumption | wp_step))
            exact hQ _ _ _ _ _ _ H g k0
          | _ => exact hz.elim
    | _ => exact hr.elim
end
end Cs

set_option maxRecDepth 100000
set_option maxHeartbeats 4000000
namespace Cs
open PySem PySem.Spec PyProof.Rows L2
section
variable {P : Program} {w : World} {A : Around} {E : Value → Shared → Prop} {s : Shared} {a : Addr} {L : List (Addr × List Int)} {es : Array (Int × Value)} {ep : Nat} {t : SetTable}
/-- iter of a set whose members are all plain -/
theorem iter_plain {Q : Value → Shared → Prop} (ha : SetAt s.heap a es ep t) (hf : t.fits es.size = true) (pln : t.plain = true) (r : Ris t.place.toList) (hl : w.params.followText "set-order" = true ∨ t.led = true)
    (hQ : ∀ u I, SetIt P w s a es u I → Q (.ref I) u) : wpAny (model P w) A (pyIter (.ref a)) Q E s := by
  obtain ⟨o, ho, hc, hd⟩ := id ha
  have ty : s.TypeIs (.ref a) "set" := ⟨o, ho, hc⟩
  have far : a ≠ s.heap.objs.size := Nat.ne_of_lt (Heap.lt_size ho)
  refine wpAny_pyIter_slot ty F.slot_set_iter (wpAny_call_entry F.slot_set_iter ty entry_s_iter ?_ (F.args_set_iter_1 _))
  unfold Builtin.«frozenset.__iter__»
  refine wpAny_bind (m := Builtin.Frozenset.slot0 "__iter__" _) (wpAny_of_eq (a := a) (by rfl) ?_)
  refine wpAny_bind (m := Builtin.Frozenset.sizeOf a) ?_
  unfold Builtin.Frozenset.sizeOf
  refine wpAny_bind (wpAny_setEntries_of ho hd hf (wpAny_pure ?_))
  first | refine wpAny_bind (setDrawn_at ha hf ?_) | refine wpAny_bind (wpAny_bind (setDrawn_at ha hf ?_))
  have nodraw : (!t.plain && decide (es.size > 1)) = false := by rw [pln]; rfl
  have two : ∀ b : Addr, b ∈ [s.heap.objs.size, a] → b = a ∨ s.heap.objs.size ≤ b := fun b hb => by
    rcases List.mem_cons.mp hb with y | y
    · exact .inr (Nat.le_of_eq y.symm)
    · exact .inl (List.mem_singleton.mp y)
  cases hb : w.params.followText "set-order" with
  | true =>
    refine wp_if_neg (by simp) ?_
    first | refine wpAny_bind (wpAny_pure ?_) | refine wpAny_pure ?_
    refine wpAny_bind (wpAny_setEpoch_of ho hd hf ?_)
    refine wpAny_bind (wpAny_newObj_type (wpAny_pure ⟨_, rfl, "set_iterator", _, ⟨_, Heap.get?_push_size _ rfl, rfl⟩, slot_si_next.lookup, ?_⟩))
    refine hQ _ _ (SetIt.of (fun A' hA' => walks_text (P := P) (ep := ep) hA' far hf hb) ?_ (fun b u e => Heap.get?_push_of_some _ e) rfl rfl rfl (Nat.le_refl _) two ((pick_perm (w.params.setOrder a ep) es).map _) (fun j v q => ?_)
      ⟨⟨_, Heap.get?_push_size _ rfl, rfl, rfl⟩, ha.at fun u e => Heap.get?_push_of_some _ e⟩)
    · rw [List.length_map, Array.length_toList]
    · rw [List.getElem?_map, Array.getElem?_toList]
      exact q
  | false =>
    have led : t.led = true := hl.resolve_left (by rw [hb]; simp)
    rw [nodraw]
    refine wp_if_neg (by simp) ?_
    first | refine wpAny_bind (wpAny_pure ?_) | refine wpAny_pure ?_
    refine wpAny_bind (wpAny_setEpoch_of ho hd hf ?_)
    refine wpAny_bind (wpAny_newObj_type (wpAny_pure ⟨_, rfl, "set_iterator", _, ⟨_, Heap.get?_push_size _ rfl, rfl⟩, slot_si_next.lookup, ?_⟩))
    refine hQ _ _ (SetIt.of (fun A' hA' => walks_led (P := P) (ep := ep) hA' far hf r hb nodraw led) ?_ (fun b u e => Heap.get?_push_of_some _ e) rfl rfl rfl (Nat.le_refl _) two (List.Perm.refl _) (fun j v q => ?_)
      ⟨⟨_, Heap.get?_push_size _ rfl, rfl, rfl⟩, ha.at fun u e => Heap.get?_push_of_some _ e⟩)
    · rw [List.length_map, Array.length_toList]
    · rw [List.getElem?_map, Array.getElem?_toList]
      exact q
/-- its members, gathered into a list -/
theorem gather {Q : List Value → Shared → Prop} (hh : A.handled = none) (ha : SetAt s.heap a es ep t) (hf : t.fits es.size = true) (pln : t.plain = true) (few : es.size ≤ sizeLine) (r : Ris t.place.toList) (hl : w.params.followText "set-order" = true ∨ t.led = true)
    (hQ : ∀ u out, (∀ b o, s.heap.get? b = some o → u.heap.get? b = some o) → s.heap.objs.size ≤ u.heap.objs.size → u.gens = s.gens → u.os = s.os → out.Perm (es.toList.map (·.2)) → Q out u) :
    wpAny (model P w) A (collect (.ref a)) Q E s := by
  obtain ⟨o, ho, hc, hd⟩ := id ha
  obtain ⟨N, hN⟩ : ∃ N, N = s.heap.objs.size := ⟨_, rfl⟩
  have aN : a < N := by rw [hN]; exact Heap.lt_size ho
  unfold collect
  refine wpAny_bind (wpAny_runValue (codeAny_builtin F.entry_proto_collect ?_))
  rw [Around.under_plainId F.plain_proto_collect _]
  show wpAny _ A.in1 (newList [] >>= fun l => again (.builtin "list.__iadd__" ⟨[l, .ref a], []⟩)) _ _ s
  refine wpAny_bind (wpAny_newObj_type ?_)
  refine wpAny_pure ⟨plainId_quiet F.plain_list_iadd _, codeAny_builtin F.entry_list_iadd ?_⟩
  rw [Around.under_plainId F.plain_list_iadd _]
  have new : (s.heap.push { cls := .type "list", data := .seq ([] : List Value).toArray }).get? s.heap.objs.size = some { cls := .type "list", data := .seq ([] : List Value).toArray } := Heap.get?_push_size _ rfl
  have psz : (s.heap.push { cls := .type "list", data := .seq ([] : List Value).toArray }).objs.size = s.heap.objs.size + 1 := size_push' _ _
  have ha1 : SetAt (s.heap.push { cls := .type "list", data := .seq ([] : List Value).toArray }) a es ep t := ha.at fun u e => Heap.get?_push_of_some _ e
  rw [← hN] at new psz ⊢
  show wpAny _ A.in1 (Builtin.List.listExtendWith (.ref N) (.ref a) (.ref N)) _ _ _
  unfold Builtin.List.listExtendWith
  refine wpAny_bind (wpAny_typeOf (T := "set") ⟨o, Heap.get?_push_of_some _ ho, hc⟩ ?_)
  have c1 : Builtin.List.listSameRef (.ref N) (.ref a) = false := by simp [Builtin.List.listSameRef, Nat.ne_of_gt aN]
  have c2 : (Value.type "set" == Value.type "list") = false := by decide
  have c3 : (Value.type "set" == Value.type "tuple") = false := by decide
  simp only [c1, c2, c3, Bool.or_false, Bool.false_eq_true, if_false]
  refine wpAny_bind (iter_plain (s := { s with heap := s.heap.push { cls := .type "list", data := .seq ([] : List Value).toArray } }) ha1 hf pln r hl fun u I hit => ?_)
  obtain ⟨fp, St, out, Pv, i1, i2, i3, i4, i5, i6, i7, i8, i9, i10⟩ := hit
  have NI : N + 1 ≤ I := by
    have : N + 1 ≤ I := by rw [← psz]; exact i5
    exact this
  have Nfp : N ∉ fp := fun y => by
    rcases i6 N y with z | z
    · exact absurd z (Nat.ne_of_gt aN)
    · have : N + 1 ≤ N := by rw [← psz]; exact z
      omega
  have hou := i1 a o (Heap.get?_push_of_some _ ho)
  have tyu : u.TypeIs (.ref a) "set" := ⟨o, hou, hc⟩
  refine wpAny_bind (wpAny_holding ?_)
  unfold Builtin.List.listLengthHint
  refine wpAny_bind (wpAny_specialOf tyu F.slot_set_len.lookup ?_)
  (generalize name : ("set.__len__" : String) = id0; (fail_if_success (clear name id0)); wp_delta; rw [show splitId id0 = some ("set", "__len__") from by subst name; decide +kernel]; subst name)
  refine wpAny_bind (wpAny_isInstance (b := true) tyu sub_set_self ?_)
  show wpAny _ A.in1 (typeOf (.ref a) >>= _) _ _ _
  refine wpAny_bind (wpAny_typeOf tyu ?_)
  refine wpAny_pure ?_
  show wpAny _ A.in1 (rule "list.extend.makes-room" >>= fun _ => Builtin.List.listTouch (.ref N) >>= fun _ =>
    again (.builtin "list.extend.loop" ⟨[.ref N, .ref I, .ref N], []⟩)) _ _ _
  refine wpAny_bind (wpAny_rule ?_)
  have g1 := i1 _ _ new
  refine wpAny_bind ?_
  show wpAny _ A.in1 (updateSeq N (·.push .none) >>= fun _ => updateSeq N (·.pop)) _ _ _
  refine wpAny_bind (wpAny_updateSeq g1 rfl ?_)
  have g2 := Heap.get?_update_self (Obj.mapSeq (·.push Value.none)) g1 rfl
  refine wpAny_updateSeq g2 rfl ?_
  have g3 := Heap.get?_update_self (Obj.mapSeq (·.pop)) g2 rfl
  have rest : ∀ b v, b ≠ N → u.heap.get? b = some v → ((u.heap.update N (Obj.mapSeq (·.push Value.none))).update N (Obj.mapSeq (·.pop))).get? b = some v := fun b v y e => by
    rw [Heap.get?_update_other _ _ (Ne.symm y), Heap.get?_update_other _ _ (Ne.symm y)]
    exact e
  have W := i8 A.in1 hh
  have st0 := W.frame 0 _ _ i10 fun b hb v e => rest b v (fun y => Nfp (y ▸ hb)) e
  have len : out.length ≤ sizeLine := by rw [i7.length_eq, List.length_map, Array.length_toList]; exact few
  refine wpAny_pure ⟨plainId_quiet F.plain_extend_loop _, codeAny_extend_loopS W.toS len _ Nfp _ out.length 0 _ _ _ rfl (Nat.zero_le _) st0 g3 (ItemsOf.nil Pv) fun v acc c mv hv hacc => ?_⟩
  show wpAny _ A (load N >>= _) _ _ v
  refine wpAny_bind (wpAny_load hv ?_)
  refine wpAny_pure ?_
  show Q acc.toList v
  rw [items_out hacc i9]
  refine hQ v out (fun b z e => ?_) (by rw [← hN]; exact Nat.le_of_lt (Heap.lt_size hv)) (Eq.trans mv.gens i2) (Eq.trans mv.os i3) i7
  have bN : b < N := by rw [hN]; exact Heap.lt_size e
  refine mv.heap b z (fun y => ?_) (rest b z (Nat.ne_of_lt bN) (i1 b z (Heap.get?_push_of_some _ e)))
  rcases List.mem_cons.mp y with y | y
  · exact absurd y (Nat.ne_of_lt bN)
  · exact absurd (List.mem_singleton.mp y) (Nat.ne_of_lt (Nat.lt_of_lt_of_le bN (Nat.le_of_succ_le NI)))
end
end Cs

set_option maxRecDepth 100000
set_option maxHeartbeats 4000000
namespace Cs
open PySem PySem.Spec PyProof.Rows L2
/-- a point with where it lies -/
abbrev Zs := List (Addr × Cf.Pt)
abbrev zref (zs : Zs) : List V := zs.map fun z => V.ref z.1
abbrev TupP (H : Hp) (b : Addr) (p : Cf.Pt) : Prop := H b = some (.tup [.int p.1, .int p.2])
abbrev zkey (z : Addr × Cf.Pt) : Addr × List Int := (z.1, [z.2.1, z.2.2])
theorem key_inj {p q : Cf.Pt} (h : ([p.1, p.2] : List Int) = [q.1, q.2]) : p = q := by
  simp only [List.cons.injEq, and_true] at h
  exact Prod.ext h.1 h.2
structure HeldO (P : Program) (w : World) (h : Heap) (a : Addr) (L : List (Addr × List Int)) : Prop where
  ex : ∃ (es : Array (Int × Value)) (ep : Nat) (t : SetTable), (∃ o, h.get? a = some o ∧ o.ExactSet ∧ o.data = .set es ep t) ∧ es.toList = rowsOf P w L ∧ Tb t (L.map fun q => thash P w q.2) ∧ (L.map (·.2)).Nodup ∧ t.plain = true ∧
    (w.params.followText "set-order" = true ∨ t.led = true) ∧ L.length * 5 < t.mask * 3 ∧ six t.mask
/-- the set at a, of these -/
def SetP (P : Program) (w : World) (a : Addr) (Z : Zs) : HO := .ext fun h => HeldO P w h a (Z.map zkey)
theorem Held.out {P : Program} {w : World} {h : Heap} {a : Addr} {L : List (Addr × List Int)} {es : Array (Int × Value)} {ep : Nat} {t : SetTable} (R : Held P w h a L es ep t) : HeldO P w h a L :=
  ⟨es, ep, t, R.obj, R.rows, R.tb, R.nod, R.pln, R.led, R.low, R.m6⟩
theorem setP_new {P : Program} {w : World} {H : Hp} {h : Heap} {a : Addr} {Z : Zs} (R : HeldO P w h a (Z.map zkey)) : ObjOk P w H h a (SetP P w a Z) := by
  obtain ⟨es, ep, t, ⟨o, ho, r⟩, q⟩ := id R.ex
  refine ⟨R, ⟨o, ho⟩, fun h1 h2 y k => ?_⟩
  obtain ⟨es', ep', t', ⟨o', ho', r'⟩, q'⟩ := HeldO.ex y
  exact ⟨es', ep', t', ⟨o', k o' ho', r'⟩, q'⟩
section
variable {X : Cx}
def rSetP (P : Program) (w : World) : List V → Hp → VK → Prop := fun xs H Q => ∃ (l : Addr) (zs : Zs), xs = [V.ref l] ∧ H l = some (.lst (zref zs)) ∧ (∀ z ∈ zs, TupP H z.1 z.2) ∧ zs.length ≤ 4200 ∧
  ∀ a Z, H a = none → (∀ z ∈ Z, z ∈ zs) → (∀ z ∈ zs, z.2 ∈ Z.map (·.2)) → (Z.map (·.2)).Nodup → Q (.ref a) (upd H a (SetP P w a Z))
theorem back_keys {zs : Zs} : ∀ {L : List (Addr × List Int)}, (∀ q ∈ L, q ∈ zs.map zkey) → ∃ Z : Zs, L = Z.map zkey ∧ ∀ z ∈ Z, z ∈ zs
  | [], _ => ⟨[], rfl, fun _ h => (by cases h)⟩
  | q :: L, h => by
    obtain ⟨Z, e, k⟩ := back_keys (L := L) fun r hr => h r (List.mem_cons_of_mem _ hr)
    obtain ⟨z, hz, ez⟩ := List.mem_map.mp (h q List.mem_cons_self)
    exact ⟨z :: Z, by rw [e, ← ez]; rfl, fun y hy => by
      rcases List.mem_cons.mp hy with c | c
      · rw [c]; exact hz
      · exact k y c⟩
theorem map_key (Z : Zs) : (Z.map zkey).map (·.2) = (Z.map (·.2)).map fun p => [p.1, p.2] := by
  rw [List.map_map, List.map_map]
  rfl
theorem Inv.tupP {pins : List (Addr × Obj)} {σ : L2.St} {H : Hp} {s : Shared} (I : Inv X pins σ H s) {b : Addr} {p : Cf.Pt} (h : TupP H b p) : IsT X.prog X.w s.heap [p.1, p.2] b :=
  Inv.isT I (k := [p.1, p.2]) (.inl (.inl h))
theorem cr_setP (hc : X.calm = true) (hu : X.A.units + 64 < cLine) : CallR X (.type "set") (rSetP X.prog X.w) := by
  intro pins s σ H xs us Q I r h
  obtain ⟨l, zs, rfl, hl, ht, few, q⟩ := h
  rw [Vals.ref1 r]
  obtain ⟨its, rv, pl, hz⟩ := I.list (.inl (.inl hl))
  have new : H s.heap.objs.size = none := I.hok.fresh (Nat.le_refl _)
  have e0 : zref zs = (zs.map zkey).map fun q => V.ref q.1 := by rw [List.map_map]; rfl
  rw [e0] at rv
  refine set_of (P := X.prog) (w := X.w) (zs.map zkey) (I.ok.hd hc) pl.isList (by simpa using refs_of_vals rv) (fun p hp => ?_) (by rw [List.length_map]; exact few) (by omega) fun h' tk L es ep t R g k => ?_
  · obtain ⟨z, hz', rfl⟩ := List.mem_map.mp hp
    exact Inv.tupP I (ht z hz')
  · obtain ⟨Z, rfl, hZ⟩ := back_keys (zs := zs) (L := L) fun p hp => List.mem_of_mem_take (g.sub p hp)
    refine ⟨.ref s.heap.objs.size, upd H s.heap.objs.size (SetP X.prog X.w s.heap.objs.size Z), I.laid (t' := tk) k (Nat.le_refl _) (setP_new R.out), rfl, q _ Z new hZ (fun z hz' => ?_) ?_⟩
    · have m := g.all (zkey z) (by rw [List.take_length]; exact List.mem_map.mpr ⟨z, hz', rfl⟩)
      rw [map_key] at m
      obtain ⟨p, hp, e⟩ := List.mem_map.mp m
      rw [← key_inj e]
      exact hp
    · have nd := R.nod
      rw [map_key] at nd
      exact nodup_of_map nd
/-- sorted(set) -/
def rSortP (P : Program) (w : World) : List V → Hp → VK → Prop := fun xs H Q => ∃ (a : Addr) (Z : Zs), xs = [V.ref a] ∧ H a = some (SetP P w a Z) ∧ (∀ z ∈ Z, TupP H z.1 z.2) ∧ Z.length ≤ 4200 ∧
  ∀ (Y : Zs) p, Y.Perm Z → Cf.Asc (Y.map (·.2)) → H p = none → Q (.ref p) (upd H p (.lst (zref Y)))
/-- the point at an address -/
def ptAt (Z : Zs) (v : Value) : Int × Int := match v with
  | .ref b => ((Z.find? fun z => decide (z.1 = b)).map (·.2)).getD (0, 0)
  | _ => (0, 0)
theorem ptAt_ref (Z : Zs) (b : Addr) : ptAt Z (.ref b) = ((Z.find? fun z => decide (z.1 = b)).map (·.2)).getD (0, 0) := rfl
theorem ptAt_eq {H : Hp} {Z : Zs} (ht : ∀ z ∈ Z, TupP H z.1 z.2) {z : Addr × Cf.Pt} (hz : z ∈ Z) : ptAt Z (.ref z.1) = z.2 := by
  rw [ptAt_ref]
  cases e : Z.find? fun y => decide (y.1 = z.1) with
  | none =>
    have := List.find?_eq_none.mp e z hz
    simp at this
  | some y =>
    have e1 : y.1 = z.1 := by simpa using List.find?_some e
    have t1 := ht y (List.mem_of_find?_eq_some e)
    have t2 := ht z hz
    rw [TupP, e1, t2] at t1
    simp only [Option.some.injEq, HO.tup.injEq, List.cons.injEq, V.int.injEq, and_true] at t1
    show y.2 = z.2
    exact Prod.ext t1.1.symm t1.2.symm
theorem refs_perm {H : Hp} {Z : Zs} (ht : ∀ z ∈ Z, TupP H z.1 z.2) : ∀ {vs : List Value}, (∀ v ∈ vs, ∃ z ∈ Z, v = Value.ref z.1) → ∃ Y : Zs, vs = Y.map (fun z => Value.ref z.1) ∧ (∀ z ∈ Y, z ∈ Z) ∧ Y.map (·.2) = vs.map (ptAt Z)
  | [], _ => ⟨[], rfl, fun _ h => (by cases h), rfl⟩
  | v :: vs, h => by
    obtain ⟨z, hz, e⟩ := h v List.mem_cons_self
    obtain ⟨Y, e1, e2, e3⟩ := refs_perm ht (vs := vs) fun u hu => h u (List.mem_cons_of_mem _ hu)
    refine ⟨z :: Y, by rw [List.map_cons, e, e1], fun y hy => ?_, ?_⟩
    · rcases List.mem_cons.mp hy with c | c
      · rw [c]; exact hz
      · exact e2 y c
    · rw [List.map_cons, List.map_cons, e3, e, ptAt_eq ht hz]
theorem tup_of_ho {P : Program} {w : World} {H : Hp} {h : Heap} (ok : HOk P w H h) {b : Addr} {p : Cf.Pt} (hb : TupP H b p) : Srt.IsPair h (.ref b) p.1 p.2 := by
  obtain ⟨_, its, r, o, ho, hc, n, hd⟩ := ok _ _ hb
  obtain ⟨u1, u2, rfl, ri, rj⟩ := vals2 r
  obtain ⟨t1, rfl⟩ := ri
  obtain ⟨t2, rfl⟩ := rj
  exact ⟨b, o, t1, t2, n, rfl, ho, hc, hd⟩
theorem asc_of {ps : List Cf.Pt} (h : ps.Pairwise fun x y => SrtO.lexB y x = false) (nd : ps.Nodup) : Cf.Asc ps := by
  refine (h.and nd).imp fun {x y} k => ?_
  have n := SrtO.lexB_no.mp k.1
  rcases Cf.lt_tri x y with c | c | c
  · exact c
  · exact absurd c k.2
  · exact absurd c n
theorem cr_sortP (hc : X.calm = true) : CallR X (.builtin "sorted") (rSortP X.prog X.w) := by
  intro pins s σ H xs us Q I r h
  obtain ⟨a, Z, rfl, ha, ht, few, q⟩ := h
  rw [Vals.ref1 r]
  have R0 : HeldO X.prog X.w s.heap a (Z.map zkey) := (I.hok a _ ha).1
  obtain ⟨es, ep, t, ⟨o, ho, hex, hd⟩, rows, tb, nod, pln, led, low, m6⟩ := R0.ex
  have sz := rows_size rows
  rw [List.length_map] at sz
  have fit : t.fits es.size = true := fits_of tb (by rw [sz, List.length_map]) (by omega)
  refine Calls.call_function_entry kind_sorted plain_sorted entry_sorted (args_sorted1 _) ?_
  unfold Builtin.«sorted»
  refine wpAny_bind (m := checkCount "sorted" 1 1 _) (wpAny_pure ?_)
  refine wpAny_bind (gather (P := X.prog) (w := X.w) (A := X.A.in1) (I.ok.hd hc) ⟨o, ho, hex.1, hd⟩ fit pln (by rw [sz, sizeLine_eq]; omega) tb.rs led fun s1 vs k1 z1 g1 o1 pm => ?_)
  have rowv : es.toList.map (·.2) = Z.map fun z => Value.ref z.1 := by
    rw [rows]
    unfold rowsOf
    rw [List.map_map, List.map_map]
    rfl
  rw [rowv] at pm
  have vlen : vs.length = Z.length := by rw [pm.length_eq, List.length_map]
  have vz : vs.length ≤ sizeLine := by rw [vlen, sizeLine_eq]; omega
  have inZ : ∀ v ∈ vs, ∃ z ∈ Z, v = Value.ref z.1 := fun v hv => by
    obtain ⟨z, hz, e⟩ := List.mem_map.mp (pm.mem_iff.mp hv)
    exact ⟨z, hz, e.symm⟩
  refine wpAny_bind (wpAny_newList ?_ vz)
  obtain ⟨N, hN⟩ : ∃ N, N = s1.heap.objs.size := ⟨_, rfl⟩
  have new : (s1.heap.push (seqObj "list" vs.toArray 0)).get? N = some (seqObj "list" vs.toArray 0) := by rw [hN]; exact Heap.get?_push_size _ rfl
  rw [← hN]
  have pairs : ∀ v ∈ vs, Srt.IsPair (s1.heap.push (seqObj "list" vs.toArray 0)) v (ptAt Z v).1 (ptAt Z v).2 := fun v hv => by
    obtain ⟨z, hz, rfl⟩ := inZ v hv
    rw [ptAt_eq ht hz]
    exact (tup_of_ho I.hok (ht z hz)).keeps fun b u e _ => Heap.get?_push_of_some _ (k1 b u e)
  refine wpAny_bind (wpAny_holding (wpAny_call_entry slot_list_sort ⟨_, new, rfl⟩ entry_list_sort (SrtO.list_sort_ord (s := { s1 with heap := s1.heap.push (seqObj "list" vs.toArray 0) }) (SrtO.swo_lex (ptAt Z)) new vz
    (fun h2 => SrtO.pairs_sortableO (by omega) pairs fun o e => ?_) fun out hs hb => ⟨_, rfl, ?_⟩) (args_list_sort _)))
  · have e' : some o = some (seqObj "list" vs.toArray 0) := e.symm.trans new
    cases e'
    intro c
    exact absurd (Value.type.inj c) (by decide)
  obtain ⟨Y, y1, y2, y3⟩ := refs_perm ht (vs := out) fun v hv => inZ v (hb.perm.mem_iff.mp hv)
  have pmY : (Y.map (fun z => Value.ref z.1)).Perm (Z.map fun z => Value.ref z.1) := by
    rw [← y1]
    exact hb.perm.trans pm
  have ndZ : (Z.map (·.2)).Nodup := by
    rw [map_key] at nod
    exact nodup_of_map nod
  have refnd : (Z.map fun z => Value.ref z.1).Nodup := by
    refine List.pairwise_map.mpr ((nodup_of_map ndZ).imp_of_mem fun {x y} hx hy ne e => ne ?_)
    injection e with e
    have e2 : x.2 = y.2 := by rw [← ptAt_eq ht hx, ← ptAt_eq ht hy, e]
    exact Prod.ext e e2
  have pmZ : Y.Perm Z := by
    refine (List.perm_ext_iff_of_nodup (nodup_of_map (pmY.nodup_iff.mpr refnd)) (nodup_of_map ndZ)).mpr fun z => ⟨y2 z, fun hz => ?_⟩
    have m : Value.ref z.1 ∈ Y.map fun z => Value.ref z.1 := pmY.mem_iff.mpr (List.mem_map.mpr ⟨z, hz, rfl⟩)
    obtain ⟨y, hy, e⟩ := List.mem_map.mp m
    injection e with e
    have e2 : y.2 = z.2 := by rw [← ptAt_eq ht (y2 y hy), ← ptAt_eq ht hz, e]
    have e3 : y = z := Prod.ext e e2
    rw [← e3]
    exact hy
  have asc : Cf.Asc (Y.map (·.2)) := by
    refine asc_of ?_ ((pmZ.map (·.2)).nodup_iff.mpr ndZ)
    rw [y3]
    exact List.pairwise_map.mpr hs
  obtain ⟨c, hcN⟩ := sortedHeap_at (vs := vs) (out := out.toArray) new
  have kept : ∀ b u, s.heap.get? b = some u → (sortedHeap (s1.heap.push (seqObj "list" vs.toArray 0)) N vs out.toArray).get? b = some u := fun b u e => by
    have e1 := k1 b u e
    have lt : b < N := by rw [hN]; exact Heap.lt_size e1
    rw [sortedHeap_old (Nat.ne_of_lt lt) (by rw [size_push', ← hN]; exact Nat.lt_succ_of_lt lt)]
    exact Heap.get?_push_of_some _ e1
  have hp : s.heap.objs.size ≤ N := by rw [hN]; exact z1
  have nN : H N = none := I.hok.fresh hp
  have hv : Vals (zref Y) out := by
    rw [y1]
    clear y1 y2 y3 pmY pmZ asc hs hb
    induction Y with
    | nil => exact .nil
    | cons z Y ih => exact .cons rfl ih
  have hlen : (zref Y).length ≤ sizeLine := by rw [List.length_map, pmZ.length_eq, sizeLine_eq]; omega
  refine wpAny_pure ⟨_, rfl, ?_⟩
  have J : Inv X pins σ (upd H N (.lst (zref Y))) { s with heap := sortedHeap (s1.heap.push (seqObj "list" vs.toArray 0)) N vs out.toArray, gens := s1.gens, drawn := s1.drawn, toks := s1.toks } :=
    I.call (ch := []) (Un.laid kept hp nN) (I.hok.laid kept hp ⟨hlen, out, c, hv, hcN⟩) (by rw [g1]; exact I.bare) (fun _ y => nomatch y)
  have e : ({ s1 with heap := sortedHeap (s1.heap.push (seqObj "list" vs.toArray 0)) N vs out.toArray } : Shared) = { s with heap := sortedHeap (s1.heap.push (seqObj "list" vs.toArray 0)) N vs out.toArray, gens := s1.gens, drawn := s1.drawn, toks := s1.toks } := by
    cases s1
    cases s
    cases o1
    rfl
  rw [e]
  exact ⟨.ref N, _, J, rfl, q Y N pmZ asc nN⟩
end
end Cs

set_option maxRecDepth 100000
set_option maxHeartbeats 4000000
namespace Cs
open PySem PySem.Spec PyProof.Rows L2
section
variable {P : Program} {w : World} {A : Around} {E : Value → Shared → Prop} {s : Shared}

/-! ## list(zip(a, b)) -/
theorem zip_len0 : typeLookup (.type "zip") "__len__" = pure none := am_miss_of_fast (by decide +kernel)
theorem zip_hint0 : typeLookup (.type "zip") "__length_hint__" = pure none := am_miss_of_fast (by decide +kernel)
theorem zip_room {z : Addr} {Q : Bool → Shared → Prop} (ty : s.TypeIs (.ref z) "zip") (h : Q true s) : wpAny (model P w) A (Builtin.List.listLengthHint (.ref z)) Q E s := by
  unfold Builtin.List.listLengthHint
  refine wpAny_bind (wpAny_specialOf ty zip_len0 ?_)
  simp only
  refine wpAny_ite_split (fun hab => absurd hab (by decide)) (fun _ => ?_)
  refine wpAny_ite_split (fun hab => absurd hab (by decide)) (fun _ => ?_)
  refine wpAny_bind (wpAny_specialOf ty zip_hint0 ?_)
  exact wpAny_pure h
/-- a zip of two lists behind k draws; S: where its tuples go to -/
structure Zt (S z TI TO i1 i2 l1 l2 : Addr) (xs ys : Array Value) (k : Nat) (h : Heap) : Prop where
  ins : IsPair h TI (.ref i1) (.ref i2)
  it1 : h.IsListIter i1 l1 k
  it2 : h.IsListIter i2 l2 k
  ls1 : h.IsList l1 xs
  ls2 : h.IsList l2 ys
  own : (IsZip h z TI TO .none ∧ ∃ a b, IsPair h TO a b) ∨ ∃ T f oT, IsZipHeld h z TI TO T f ∧ h.get? T = some oT ∧ T ≠ z ∧ T ≠ i1 ∧ T ≠ i2 ∧ T ≠ S
section
variable {S z TI TO i1 i2 l1 l2 : Addr} {xs ys : Array Value} {k : Nat}
theorem Zt.keep {h h' : Heap} (t : Zt S z TI TO i1 i2 l1 l2 xs ys k h) (far : z ≠ S ∧ TI ≠ S ∧ TO ≠ S ∧ i1 ≠ S ∧ i2 ≠ S ∧ l1 ≠ S ∧ l2 ≠ S) (up : ∀ b o, b ≠ S → h.get? b = some o → h'.get? b = some o) : Zt S z TI TO i1 i2 l1 l2 xs ys k h' := by
  obtain ⟨f1, f2, f3, f4, f5, f6, f7⟩ := far
  refine ⟨up _ _ f2 t.ins, t.it1.at fun o e => up _ o f4 e, t.it2.at fun o e => up _ o f5 e, t.ls1.at fun o e => up _ o f6 e, t.ls2.at fun o e => up _ o f7 e, ?_⟩
  rcases t.own with ⟨a, b, c, d⟩ | ⟨T, f, oT, a, b, c1, c2, c3, c4⟩
  · exact .inl ⟨up _ _ f1 a, b, c, up _ _ f3 d⟩
  · exact .inr ⟨T, f, oT, up _ _ f1 a, up _ _ c4 b, c1, c2, c3, c4⟩
theorem Zt.draw (t : Zt S z TI TO i1 i2 l1 l2 xs ys k s.heap) (D : ZipApart z TI TO i1 i2 l1 l2) (hS : S < s.heap.objs.size) {x y : Value} (hx : xs[k]? = some x) (hy : ys[k]? = some y) {Q : Option Value → Shared → Prop}
    (hQ : ∀ h', Zt S z TI TO i1 i2 l1 l2 xs ys (k + 1) h' → IsPair h' s.heap.objs.size x y → h'.objs.size = s.heap.objs.size + 1 → (∀ c o, c ≠ z → c ≠ TO → c ≠ i1 → c ≠ i2 → s.heap.get? c = some o → h'.get? c = some o) → Q (some (.ref s.heap.objs.size)) { s with heap := h' }) :
    wpAny (model P w) A (pyNext (.ref z)) Q E s := by
  have old : ∀ {c : Addr} {o : Obj}, s.heap.get? c = some o → s.heap.objs.size ≠ c := fun e => Nat.ne_of_gt (Heap.lt_size e)
  have o1 : s.heap.objs.size ≠ i1 := by obtain ⟨_, e, _⟩ := t.it1; exact old e
  have o2 : s.heap.objs.size ≠ i2 := by obtain ⟨_, e, _⟩ := t.it2; exact old e
  have oS : s.heap.objs.size ≠ S := Nat.ne_of_gt hS
  rcases t.own with ⟨hz, a, b, hTO⟩ | ⟨T, f, oT, hz, hT, c1, c2, c3, c4⟩
  · refine wpAny_pyNext_zip_item D hz t.ins hTO t.it1 t.it2 t.ls1 t.ls2 hx hy fun h' a1 _ a3 a4 a5 a6 up => hQ h' ?_ a5 a6 up
    exact ⟨up _ _ D.TIz D.TITO D.TIi1 D.TIi2 t.ins, a3, a4, t.ls1.at fun o e => up _ o D.l1z D.l1TO D.l1i1 D.l1i2 e, t.ls2.at fun o e => up _ o D.l2z D.l2TO D.l2i1 D.l2i2 e, .inr ⟨_, false, _, a1, a5, old hz, o1, o2, oS⟩⟩
  · refine wpAny_pyNext_zip_item_held D hz hT t.ins t.it1 t.it2 t.ls1 t.ls2 hx hy fun h' a1 a3 a4 a5 a6 up => hQ h' ?_ a5 a6 fun c o e1 _ e3 e4 e => up c o e1 e3 e4 e
    exact ⟨up _ _ D.TIz D.TIi1 D.TIi2 t.ins, a3, a4, t.ls1.at fun o e => up _ o D.l1z D.l1i1 D.l1i2 e, t.ls2.at fun o e => up _ o D.l2z D.l2i1 D.l2i2 e, .inr ⟨T, true, oT, a1, up _ _ c1 c2 c3 hT, c1, c2, c3, c4⟩⟩
theorem Zt.stop (hh : A.handled = none) (t : Zt S z TI TO i1 i2 l1 l2 xs ys k s.heap) (D : ZipApart z TI TO i1 i2 l1 l2) (hend : xs[k]? = none ∨ ys[k]? = none) {Q : Option Value → Shared → Prop}
    (hQ : ∀ h', (∀ c o, c ≠ z → c ≠ TO → c ≠ i1 → c ≠ i2 → s.heap.get? c = some o → h'.get? c = some o) → Q none { s with heap := h' }) : wpAny (model P w) A (pyNext (.ref z)) Q E s := by
  rcases t.own with ⟨hz, a, b, hTO⟩ | ⟨T, f, oT, hz, hT, c1, c2, c3, c4⟩
  · exact wpAny_pyNext_zip_end hh D hz t.ins hTO t.it1 t.it2 t.ls1 t.ls2 hend hQ
  · exact wpAny_pyNext_zip_end_held hh D hz hT t.ins t.it1 t.it2 t.ls1 t.ls2 hend fun h' up => hQ h' fun c o e1 _ e3 e4 e => up c o e1 e3 e4 e
/-- the tuples made so far -/
structure Zg (S : Addr) (xs ys : Array Value) (h : Heap) (as : List Addr) : Prop where
  up : as.Pairwise (· < ·)
  top : ∀ a ∈ as, S < a
  prs : ∀ (j : Nat) (a : Addr), as[j]? = some a → ∃ x y, xs[j]? = some x ∧ ys[j]? = some y ∧ IsPair h a x y
theorem Zg.lt {h : Heap} {as : List Addr} (g : Zg S xs ys h as) {a : Addr} (ha : a ∈ as) : a < h.objs.size := by
  obtain ⟨j, hj⟩ := List.mem_iff_getElem?.mp ha
  obtain ⟨_, _, _, _, e⟩ := g.prs j a hj
  exact Heap.lt_size e
theorem zip_loop (hh : A.handled = none) (D : ZipApart z TI TO i1 i2 l1 l2) (lo : z < S ∧ TI < S ∧ TO < S ∧ i1 < S ∧ i2 < S ∧ l1 < S ∧ l2 < S) {n : Nat} (n1 : xs.size = n) (n2 : ys.size = n) (hn : n ≤ sizeLine) (res : Value) {h0 : Heap} {R : Result → Shared → Prop}
    (fin : ∀ h' tk acc c as, (∀ b o, b ≠ S → b ≠ z → b ≠ TO → b ≠ i1 → b ≠ i2 → h0.get? b = some o → h'.get? b = some o) → h'.get? S = some { cls := .type "list", dict := none, data := .seq acc c, slots := #[] } → as.length = n → Zg S xs ys h' as →
      acc.toList = as.map Value.ref → R (.ok (.ret res)) { s with heap := h', toks := tk }) :
    ∀ (m k : Nat) (h : Heap) (tk c : Nat) (acc : Array Value) (as : List Addr), k + m = n → Zt S z TI TO i1 i2 l1 l2 xs ys k h → (∀ b o, b ≠ S → b ≠ z → b ≠ TO → b ≠ i1 → b ≠ i2 → h0.get? b = some o → h.get? b = some o) →
      h.get? S = some { cls := .type "list", dict := none, data := .seq acc c, slots := #[] } → acc.toList = as.map Value.ref → as.length = k → Zg S xs ys h as →
      codeAny (model P w) A (.builtin "list.extend.loop" ⟨[.ref S, .ref z, res], []⟩) R { s with heap := h, toks := tk } := by
  obtain ⟨g1, g2, g3, g4, g5, g6, g7⟩ := lo
  have far : z ≠ S ∧ TI ≠ S ∧ TO ≠ S ∧ i1 ≠ S ∧ i2 ≠ S ∧ l1 ≠ S ∧ l2 ≠ S := ⟨Nat.ne_of_lt g1, Nat.ne_of_lt g2, Nat.ne_of_lt g3, Nat.ne_of_lt g4, Nat.ne_of_lt g5, Nat.ne_of_lt g6, Nat.ne_of_lt g7⟩
  have high : ∀ {a : Addr}, S < a → a ≠ z ∧ a ≠ TO ∧ a ≠ i1 ∧ a ≠ i2 := fun {a} h => ⟨Nat.ne_of_gt (Nat.lt_trans g1 h), Nat.ne_of_gt (Nat.lt_trans g3 h), Nat.ne_of_gt (Nat.lt_trans g4 h), Nat.ne_of_gt (Nat.lt_trans g5 h)⟩
  intro m
  induction m with
  | zero =>
    intro k h tk c acc as hk t k0 hS hacc hl g
    refine codeAny_builtin F.entry_extend_loop ?_
    rw [Around.under_plainId F.plain_extend_loop _]
    show wpAny _ A.in1 (pyNext (.ref z) >>= _) _ _ _
    refine wpAny_bind (Zt.stop (s := { s with heap := h, toks := tk }) (A := A.in1) hh t D (.inl (Array.getElem?_eq_none (by omega))) fun h' up => ?_)
    refine wpAny_pure (fin h' tk acc c as (fun b o e1 e2 e3 e4 e5 e => up b o e2 e3 e4 e5 (k0 b o e1 e2 e3 e4 e5 e)) (up S _ (Ne.symm far.1) (Ne.symm far.2.2.1) (Ne.symm far.2.2.2.1) (Ne.symm far.2.2.2.2.1) hS) (by omega) ⟨g.up, g.top, fun j a hj => ?_⟩ hacc)
    obtain ⟨x, y, e1, e2, e3⟩ := g.prs j a hj
    have hi := high (g.top a (List.mem_of_getElem? hj))
    exact ⟨x, y, e1, e2, up a _ hi.1 hi.2.1 hi.2.2.1 hi.2.2.2 e3⟩
  | succ m ih =>
    intro k h tk c acc as hk t k0 hS hacc hl g
    have sz : acc.size = k := by rw [← Array.length_toList, hacc, List.length_map, hl]
    have hx : xs[k]? = some (xs[k]'(by omega)) := Array.getElem?_eq_getElem (by omega)
    have hy : ys[k]? = some (ys[k]'(by omega)) := Array.getElem?_eq_getElem (by omega)
    have Slt : S < h.objs.size := Heap.lt_size hS
    refine codeAny_builtin F.entry_extend_loop ?_
    rw [Around.under_plainId F.plain_extend_loop _]
    show wpAny _ A.in1 (pyNext (.ref z) >>= _) _ _ _
    refine wpAny_bind (Zt.draw (s := { s with heap := h, toks := tk }) t D Slt hx hy fun h' t' hp hz up => ?_)
    dsimp only at hp hz up ⊢
    have hS' := up S _ (Ne.symm far.1) (Ne.symm far.2.2.1) (Ne.symm far.2.2.2.1) (Ne.symm far.2.2.2.2.1) hS
    have put : ∀ b o, b ≠ S → h'.get? b = some o → (h'.update S (Obj.mapSeq (·.push (Value.ref h.objs.size)))).get? b = some o := fun b o hb e => (Heap.get?_update_other _ _ (Ne.symm hb)).trans e
    have p0 := put _ _ (Nat.ne_of_gt Slt) hp
    show wpAny _ A.in1 (updateSeq S (·.push (Value.ref h.objs.size)) >>= _) _ _ _
    refine wpAny_bind ?_
    refine wpAny_updateSeq hS' rfl (wpAny_pure ⟨plainId_quiet F.plain_extend_loop _, ih (k + 1) _ tk _ (acc.push (Value.ref h.objs.size)) (as ++ [h.objs.size]) (by omega) (t'.keep far put)
      (fun b o e1 e2 e3 e4 e5 e => put b o e1 (up b o e2 e3 e4 e5 (k0 b o e1 e2 e3 e4 e5 e))) (Heap.get?_update_self _ hS' rfl) (by rw [Array.toList_push, hacc, List.map_append]; rfl) (by rw [List.length_append, hl]; rfl) ⟨?_, ?_, ?_⟩⟩)
      (by rw [sz]; omega) (by show (acc.push _).size ≤ sizeLine + 1; rw [Array.size_push, sz]; omega)
    · refine List.pairwise_append.mpr ⟨g.up, List.pairwise_singleton _ _, fun a ha b hb => ?_⟩
      rw [List.mem_singleton.mp hb]
      exact g.lt ha
    · intro a ha
      rcases List.mem_append.mp ha with ha | ha
      · exact g.top a ha
      · rw [List.mem_singleton.mp ha]
        exact Slt
    · intro j b hj
      by_cases c1 : j < as.length
      · rw [List.getElem?_append_left c1] at hj
        obtain ⟨x, y, e1, e2, e3⟩ := g.prs j b hj
        have hb := g.top b (List.mem_of_getElem? hj)
        have hi := high hb
        exact ⟨x, y, e1, e2, put b _ (Nat.ne_of_gt hb) (up b _ hi.1 hi.2.1 hi.2.2.1 hi.2.2.2 e3)⟩
      · have ej : j = as.length := by
          have := (List.getElem?_eq_some_iff.mp hj).1
          rw [List.length_append, List.length_singleton] at this
          omega
        subst ej
        have : h.objs.size = b := by simpa using hj
        subst this
        exact ⟨_, _, by rw [hl]; exact hx, by rw [hl]; exact hy, p0⟩
/-- list of such a zip -/
theorem zip_list (hh : A.handled = none) (D : ZipApart z TI TO i1 i2 l1 l2) (t : Zt s.heap.objs.size z TI TO i1 i2 l1 l2 xs ys 0 s.heap) (lo : z < s.heap.objs.size ∧ TI < s.heap.objs.size ∧ TO < s.heap.objs.size ∧ i1 < s.heap.objs.size ∧ i2 < s.heap.objs.size ∧ l1 < s.heap.objs.size ∧ l2 < s.heap.objs.size)
    (hz : IsZip s.heap z TI TO .none) {n : Nat} (n1 : xs.size = n) (n2 : ys.size = n) (hn : n ≤ sizeLine) {Q : Value → Shared → Prop}
    (hQ : ∀ h' tk acc c as, (∀ b o, b ≠ z → b ≠ TO → b ≠ i1 → b ≠ i2 → s.heap.get? b = some o → h'.get? b = some o) → h'.get? s.heap.objs.size = some { cls := .type "list", dict := none, data := .seq acc c, slots := #[] } → as.length = n → Zg s.heap.objs.size xs ys h' as →
      acc.toList = as.map Value.ref → Q (.ref s.heap.objs.size) { s with heap := h', toks := tk }) :
    wpAny (model P w) A (call (.type "list") [.ref z]) Q E s := by
  refine callType_codes (Q₁ := fun obj u => obj = .ref s.heap.objs.size ∧ u = { s with heap := s.heap.push { cls := .type "list", data := .seq #[] } }) F.called_list (F.typeCall_list_1 _) F.entry_list_init
    (code_list_new _ ⟨rfl, rfl⟩) fun obj u hu => ?_
  obtain ⟨rfl, rfl⟩ := hu
  have hS : (s.heap.push { cls := .type "list", data := .seq #[] }).get? s.heap.objs.size = some { cls := .type "list", data := .seq #[] } := Heap.get?_push_size _ rfl
  refine ⟨⟨_, hS, rfl⟩, F.args_list_init_2 _ _, ?_⟩
  obtain ⟨N, hN⟩ : ∃ N, N = s.heap.objs.size := ⟨_, rfl⟩
  rw [← hN] at hS t lo hQ ⊢
  have far : z ≠ N ∧ TI ≠ N ∧ TO ≠ N ∧ i1 ≠ N ∧ i2 ≠ N ∧ l1 ≠ N ∧ l2 ≠ N := ⟨Nat.ne_of_lt lo.1, Nat.ne_of_lt lo.2.1, Nat.ne_of_lt lo.2.2.1, Nat.ne_of_lt lo.2.2.2.1, Nat.ne_of_lt lo.2.2.2.2.1, Nat.ne_of_lt lo.2.2.2.2.2.1, Nat.ne_of_lt lo.2.2.2.2.2.2⟩
  have t1 : Zt N z TI TO i1 i2 l1 l2 xs ys 0 (s.heap.push { cls := .type "list", data := .seq #[] }) := t.keep far fun b o _ e => Heap.get?_push_of_some _ e
  show wpAny _ _ (do let old ← Builtin.List.listItems (.ref N); Builtin.List.listUpdate (.ref N) (fun _ => #[]); letGo old.toList.reverse; Builtin.List.listExtendWith (.ref N) (.ref z) .none) _ _ _
  refine wpAny_bind ?_
  unfold Builtin.List.listItems
  refine wpAny_bind (wpAny_seqItems hS rfl (wpAny_pure ?_))
  show wpAny _ _ (updateSeq N (fun _ => #[]) >>= fun _ => letGo (#[] : Array Value).toList.reverse >>= fun _ => Builtin.List.listExtendWith (.ref N) (.ref z) .none) _ _ _
  refine wpAny_bind (wpAny_updateSeq hS rfl ?_)
  have q2 := Heap.get?_update_self (Obj.mapSeq (fun _ => (#[] : Array Value))) hS rfl
  have oth : ∀ (h : Heap) (f : Array Value → Array Value) b o, b ≠ N → h.get? b = some o → (h.update N (Obj.mapSeq f)).get? b = some o := fun h f b o hb e => (Heap.get?_update_other _ _ (Ne.symm hb)).trans e
  refine wpAny_bind (wpAny_letGo ?_)
  have t2 := t1.keep far (oth _ fun _ => (#[] : Array Value))
  have z2 : IsZip ((s.heap.push { cls := .type "list", data := .seq #[] }).update N (Obj.mapSeq fun _ => (#[] : Array Value))) z TI TO .none := oth _ _ _ _ far.1 (Heap.get?_push_of_some _ hz)
  unfold Builtin.List.listExtendWith
  refine wpAny_bind (wpAny_typeOf (T := "zip") ⟨_, z2, rfl⟩ ?_)
  have c1 : Builtin.List.listSameRef (.ref N) (.ref z) = false := by simp [Builtin.List.listSameRef, Ne.symm far.1]
  have c2 : (Value.type "zip" == Value.type "list") = false := by decide
  have c3 : (Value.type "zip" == Value.type "tuple") = false := by decide
  simp only [c1, c2, c3, Bool.or_false, Bool.false_eq_true, if_false]
  refine wpAny_bind (wpAny_pyIter_zip z2 ?_)
  refine wpAny_bind (wpAny_holding (zip_room ⟨_, z2, rfl⟩ ?_))
  refine wpAny_ite_split (fun _ => ?_) (fun hab => absurd (Bool.true_or _) hab)
  refine wpAny_bind (wpAny_rule ?_)
  refine wpAny_bind ?_
  show wpAny _ _ (updateSeq N (·.push .none) >>= fun _ => updateSeq N (·.pop)) _ _ _
  refine wpAny_bind (wpAny_updateSeq q2 rfl ?_)
  have q3 := Heap.get?_update_self (Obj.mapSeq (·.push Value.none)) q2 rfl
  refine wpAny_updateSeq (hz := by seq_fits) q3 rfl ?_
  have q4 := Heap.get?_update_self (Obj.mapSeq (·.pop)) q3 rfl
  refine wpAny_pure ⟨plainId_quiet F.plain_extend_loop _, ?_⟩
  refine zip_loop (P := P) (w := w) (A := A.in1) (s := s) (h0 := s.heap) hh D lo n1 n2 hn .none (fun h' tk acc c as k0 hS' hl g hacc => ?_) n 0 _ _ _ #[] [] (by omega) ((t2.keep far (oth _ (·.push Value.none))).keep far (oth _ (·.pop))) (fun b o e1 _ _ _ _ e => ?_) q4 rfl rfl
    ⟨List.Pairwise.nil, (fun _ ha => nomatch ha), (fun j a hj => by simp at hj)⟩
  · refine ⟨rfl, hQ h' tk acc c as (fun b o e2 e3 e4 e5 e => k0 b o (by rw [hN]; exact Nat.ne_of_lt (Heap.lt_size e)) e2 e3 e4 e5 e) hS' hl g hacc⟩
  · exact oth _ _ _ _ e1 (oth _ _ _ _ e1 (oth _ _ _ _ e1 (Heap.get?_push_of_some _ e)))
end
end
/-! ### as a rule of the layer -/
/-- tuples of two, tracked at their addresses -/
def putP : Hp → List Addr → List (V × V) → Hp
  | H, a :: as, p :: ps => putP (upd H a (.tup [p.1, p.2])) as ps
  | H, _, _ => H
theorem putP_off {b : Addr} : ∀ (as : List Addr) (ps : List (V × V)) (H : Hp), b ∉ as → putP H as ps b = H b
  | [], _, _, _ => rfl
  | _ :: _, [], _, _ => rfl
  | a :: as, p :: ps, H, h => by
    show putP (upd H a _) as ps b = H b
    rw [putP_off as ps _ fun z => h (List.mem_cons_of_mem _ z), upd_ne (fun z => h (by rw [z]; exact List.mem_cons_self))]
theorem putP_at : ∀ (as : List Addr) (ps : List (V × V)) (H : Hp), as.Nodup → as.length = ps.length → ∀ (j : Nat) (a : Addr) (p : V × V), as[j]? = some a → ps[j]? = some p → putP H as ps a = some (.tup [p.1, p.2])
  | [], _, _, _, _, j, a, p, h, _ => by simp at h
  | b :: as, [], _, _, hl, _, _, _, _, _ => by simp at hl
  | b :: as, q :: ps, H, nd, hl, 0, a, p, h1, h2 => by
    obtain rfl : b = a := Option.some.inj h1
    obtain rfl : q = p := Option.some.inj h2
    show putP (upd H b _) as ps b = _
    rw [putP_off as ps _ (List.nodup_cons.mp nd).1, upd_same]
  | b :: as, q :: ps, H, nd, hl, j + 1, a, p, h1, h2 => putP_at as ps _ (List.nodup_cons.mp nd).2 (Nat.succ.inj hl) j a p h1 h2
/-- list(zip(a, b)), two lists of one length: a new list of new tuples -/
def tZipL (K : PySem.W.Frag) (ta : TA) : TE := fun σ H Q => ta σ H fun vs H1 => ∃ a b xs ys, vs = [.ref a, .ref b] ∧ SqL K H1 a xs ∧ SqL K H1 b ys ∧ xs.length = ys.length ∧
  ∀ (H' : Hp) (p : Addr) (ts : List Addr), (∀ c o, H1 c = some o → H' c = some o) → H1 p = none → (∀ t ∈ ts, H1 t = none) → ts.length = xs.length → H' p = some (.lst (ts.map V.ref)) → (∀ (j : Nat) (t : Addr) (x y : V), ts[j]? = some t → xs[j]? = some x → ys[j]? = some y → H' t = some (.tup [x, y])) → Q (.ref p) H'
section
variable {X : Cx}
theorem pe_zipL {e e2 : Expr} {ta : TA} {p p2 pos pos2 : Pos} (hc : X.calm = true) (hg : Gl X "list") (hm : X.mg "list" = none) (hg2 : Gl X "zip") (hm2 : X.mg "zip" = none) (ha : PA X [e, e2] ta)
    (hs : starEach [e, e2] X.env = (false, eval e X.env) :: starEach [e2] X.env := by rfl) (hpl : (backTo pos2 (starEach [e2] X.env)).any (·.1) = false := by rfl)
    (hs2 : starEach [.Call (.Name "zip" p2) [e, e2] [] pos2] X.env = (false, eval (.Call (.Name "zip" p2) [e, e2] [] pos2) X.env) :: starEach [] X.env := by rfl) :
    PE X (.Call (.Name "list" p) [.Call (.Name "zip" p2) [e, e2] [] pos2] [] pos) (tZipL X.K ta) := by
  refine ⟨fun pins s σ H Q I h => ?_⟩
  refine Call_ (ld_blt I hg hm boot_list (PyProof.Rows.callWith_type1 (args_cons (Call_ (ld_blt I hg2 hm2 PyProof.Rows.boot_zip (PyProof.Rows.callWith_type1 (thn (ha.run pos2 pins s σ H _ I h) fun us s1 ⟨vs, H1, I1, r1, q1⟩ => ?_) hs hpl))) hs2) hs2 rfl))
  obtain ⟨a, b, xs, ys, rfl, hqx, hqy, hlen, q⟩ := q1
  obtain ⟨u1, u2, rfl, ra, rb⟩ := vals2 r1
  obtain rfl : u1 = Value.ref a := ra
  obtain rfl : u2 = Value.ref b := rb
  obtain ⟨its, rv, p1, z1⟩ := I1.list hqx
  obtain ⟨its2, rv2, p2', z2⟩ := I1.list hqy
  refine call_zip_2 p1.isList p2'.isList fun h' hz hTI hTO h1 h2 hsz hk => args_nil ?_
  have I2 : Inv X pins σ H1 { s1 with heap := h' } := I1.kept (t' := s1.toks) hk
  obtain ⟨n, hn⟩ : ∃ n, n = s1.heap.objs.size := ⟨_, rfl⟩
  have la : a < n := by rw [hn]; exact p1.lt
  have lb : b < n := by rw [hn]; exact p2'.lt
  have D := PySem.W.ktu_apart n a b la lb
  rw [← hn] at hz hTI hTO h1 h2 hsz ⊢
  have ls1 : h'.IsList a its.toArray := p1.isList.at fun o e => hk _ o e
  have ls2 : h'.IsList b its2.toArray := p2'.isList.at fun o e => hk _ o e
  have n1 : its.toArray.size = xs.length := by rw [List.size_toArray, rv.length]
  have n2 : its2.toArray.size = xs.length := by rw [List.size_toArray, ← rv2.length, hlen]
  have lo : n + 4 < h'.objs.size ∧ n + 2 < h'.objs.size ∧ n + 3 < h'.objs.size ∧ n < h'.objs.size ∧ n + 1 < h'.objs.size ∧ a < h'.objs.size ∧ b < h'.objs.size := by
    rw [hsz]
    exact ⟨by omega, by omega, by omega, by omega, by omega, Nat.lt_of_lt_of_le la (Nat.le_add_right _ _), Nat.lt_of_lt_of_le lb (Nat.le_add_right _ _)⟩
  refine zip_list (s := { s1 with heap := h' }) (I1.ok.hd hc) D ⟨hTI, h1, h2, ls1, ls2, .inl ⟨hz, _, _, hTO⟩⟩ lo hz n1 n2 z1 fun h'' tk acc cc as kp hS hl g hacc => ?_
  -- the new heap
  obtain ⟨S, hSn⟩ : ∃ S, S = h'.objs.size := ⟨_, rfl⟩
  have hS0 : Shared.heap { s1 with heap := h' } = h' := rfl
  rw [hS0, ← hSn] at g hS
  rw [hS0] at kp
  show EP X pins σ Q (.ref h'.objs.size) _
  rw [← hSn]
  have low : ∀ c o, s1.heap.get? c = some o → h''.get? c = some o := fun c o e => by
    have lt : c < n := by rw [hn]; exact Heap.lt_size e
    exact kp c o (Nat.ne_of_lt (Nat.lt_add_right 4 lt)) (Nat.ne_of_lt (Nat.lt_add_right 3 lt)) (Nat.ne_of_lt lt) (Nat.ne_of_lt (Nat.lt_add_right 1 lt)) (hk c o e)
  have nS : n ≤ S := by rw [hSn, hsz]; omega
  have newS : H1 S = none := I1.hok.fresh (by rw [← hn]; exact nS)
  have new : ∀ t ∈ as, H1 t = none := fun t ht => I1.hok.fresh (by rw [← hn]; exact Nat.le_trans nS (Nat.le_of_lt (g.top t ht)))
  have Sas : S ∉ as := fun y => Nat.lt_irrefl _ (g.top _ y)
  have nd : as.Nodup := g.up.imp fun h => Nat.ne_of_lt h
  obtain ⟨ps, hps⟩ : ∃ ps, ps = xs.zip ys := ⟨_, rfl⟩
  have lps : as.length = ps.length := by rw [hps, List.length_zip, ← hlen, Nat.min_self, hl]
  obtain ⟨H', hH'⟩ : ∃ H', H' = putP (upd H1 S (.lst (as.map V.ref))) as ps := ⟨_, rfl⟩
  have off : ∀ c, c ∉ as → c ≠ S → H' c = H1 c := fun c y1 y2 => by rw [hH', putP_off _ _ _ y1, upd_ne y2]
  have up : ∀ c o, H1 c = some o → H' c = some o := fun c o e => by
    rw [off c (fun y => by rw [new c y] at e; cases e) (fun y => by rw [y, newS] at e; cases e)]
    exact e
  have eS : H' S = some (.lst (as.map V.ref)) := by rw [hH', putP_off _ _ _ Sas, upd_same]
  have lowH : ∀ c o, s1.heap.get? c = some o → c ∉ as ∧ c ≠ S := fun c o e => by
    have lt : c < S := Nat.lt_of_lt_of_le (by rw [hn]; exact Heap.lt_size e) nS
    exact ⟨fun y => absurd lt (Nat.not_lt.mpr (Nat.le_of_lt (g.top c y))), Nat.ne_of_lt lt⟩
  have J : Inv X pins σ H' { s1 with heap := h'', toks := tk } := by
    refine I1.call' (ch := []) rfl ⟨fun c o e _ _ _ => low c o e, fun c o e _ _ _ => ⟨o.slots, low c o e⟩, fun c o e y _ => ?_, fun c o e _ => ⟨o, low c o e⟩, fun c _ e => up c _ e, fun c _ _ e => up c _ e, fun c _ e => ⟨#[], by rw [up c _ e]; simp⟩⟩ (fun c o e => ?_) I1.bare fun _ y => by simp at y
    · obtain ⟨y1, y2⟩ := lowH c o e
      rw [off c y1 y2]
      exact y
    · by_cases hc1 : c ∈ as
      · obtain ⟨j, hj⟩ := List.mem_iff_getElem?.mp hc1
        obtain ⟨x, y, x1, y1, ip⟩ := g.prs j c hj
        have jl : j < as.length := (List.getElem?_eq_some_iff.mp hj).1
        have xg : xs[j]? = some (xs[j]'(by omega)) := List.getElem?_eq_getElem (by omega)
        have yg : ys[j]? = some (ys[j]'(by omega)) := List.getElem?_eq_getElem (by omega)
        obtain ⟨x', x2, x3⟩ := rv.get xg
        obtain ⟨y', y2, y3⟩ := rv2.get yg
        have ex : x' = x := by rw [List.getElem?_toArray] at x1; exact Option.some.inj (x2.symm.trans x1)
        have ey : y' = y := by rw [List.getElem?_toArray] at y1; exact Option.some.inj (y2.symm.trans y1)
        subst ex
        subst ey
        have pg : (xs.zip ys)[j]? = some (xs[j]'(by omega), ys[j]'(by omega)) := List.getElem?_zip_eq_some.mpr ⟨xg, yg⟩
        rw [← hps] at pg
        have := putP_at as ps (upd H1 S (.lst (as.map V.ref))) nd lps j c _ hj pg
        rw [← hH', e] at this
        cases this
        exact ⟨by show 2 ≤ sizeLine; decide, [x', y'], .cons x3 (.cons y3 .nil), ⟨_, ip, rfl, _, rfl⟩⟩
      · by_cases hc2 : c = S
        · subst hc2
          rw [eS] at e
          cases e
          refine ⟨by rw [List.length_map, hl]; exact z1, acc.toList, cc, ?_, ?_⟩
          · rw [hacc]; exact LiI.vals_refs as
          · rw [Array.toArray_toList]; exact hS
        · rw [off c hc1 hc2] at e
          exact (I1.hok c o e).stay (fun d v _ y => low d v y) (fun d y => up d _ y) fun d zs y => up d _ y
  refine ⟨.ref S, H', J, rfl, q H' S as up newS new hl eS fun j t x y e1 e2 e3 => ?_⟩
  have pg : (xs.zip ys)[j]? = some (x, y) := List.getElem?_zip_eq_some.mpr ⟨e2, e3⟩
  rw [← hps] at pg
  rw [hH']
  exact putP_at as ps _ nd lps j t (x, y) e1 pg
/-! ## list(reversed(xs)) -/
def tRevLst (K : PySem.W.Frag) (te : TE) : TE := fun σ H Q => te σ H fun v H1 => ∃ (a : Addr) (xs : List V), v = .ref a ∧ SqL K H1 a xs ∧ ∀ q, H1 q = none → Q (.ref q) (upd H1 q (.lst xs.reverse))
end
end Cs

set_option maxRecDepth 100000
set_option maxHeartbeats 4000000
namespace Cs
open PySem PySem.Spec PyProof.Rows L2
section
variable {P : Program} {w : World} {A : Around} {E : Value → Shared → Prop} {s : Shared}
theorem rev_room {it : Addr} {Q : Bool → Shared → Prop} (ty : s.TypeIs (.ref it) "list_reverseiterator") (h : Q false s) : wpAny (model P w) A (Builtin.List.listLengthHint (.ref it)) Q E s := by
  unfold Builtin.List.listLengthHint
  refine wpAny_bind (wpAny_specialOf ty RT.nolen_lri ?_)
  show wpAny _ A (specialOf (Value.ref it) (Str.ofString "__length_hint__") >>= _) _ _ _
  refine wpAny_bind (wpAny_specialOf ty RT.hint_lri ?_)
  generalize name : ("list_reverseiterator.__length_hint__" : String) = id0
  wp_delta
  rw [show splitId id0 = some ("list_reverseiterator", "__length_hint__") from by subst name; decide +kernel]
  subst name
  refine wpAny_bind (wpAny_isInstance (b := true) ty (by rw [isSubtype_type]; kernel_rfl) ?_)
  exact wpAny_pure h
/-- list of a list's reversed iterator -/
theorem rev_list {it l : Addr} {xs : Array Value} (hh : A.handled = none) (hit : s.heap.IsRevIter it l ((xs.size : Int) - 1)) (hl : s.heap.IsList l xs) (ne : l ≠ it) (hn : xs.size ≤ sizeLine) {Q : Value → Shared → Prop}
    (hQ : ∀ h' tk acc c, (∀ b o, b ≠ it → s.heap.get? b = some o → h'.get? b = some o) → h'.get? s.heap.objs.size = some { cls := .type "list", dict := none, data := .seq acc c, slots := #[] } → ItemsOf (fun i v => xs[xs.size - 1 - i]? = some v) acc xs.size →
      Q (.ref s.heap.objs.size) { s with heap := h', toks := tk }) : wpAny (model P w) A (call (.type "list") [.ref it]) Q E s := by
  refine callType_codes (Q₁ := fun obj u => obj = .ref s.heap.objs.size ∧ u = { s with heap := s.heap.push { cls := .type "list", data := .seq #[] } }) F.called_list (F.typeCall_list_1 _) F.entry_list_init
    (code_list_new _ ⟨rfl, rfl⟩) fun obj u hu => ?_
  obtain ⟨rfl, rfl⟩ := hu
  have hS : (s.heap.push { cls := .type "list", data := .seq #[] }).get? s.heap.objs.size = some { cls := .type "list", data := .seq #[] } := Heap.get?_push_size _ rfl
  refine ⟨⟨_, hS, rfl⟩, F.args_list_init_2 _ _, ?_⟩
  have n1 : it ≠ s.heap.objs.size := by obtain ⟨_, e, _⟩ := id hit; exact Nat.ne_of_lt (Heap.lt_size e)
  have n2 : l ≠ s.heap.objs.size := by obtain ⟨_, e, _⟩ := id hl; exact Nat.ne_of_lt (Heap.lt_size e)
  obtain ⟨N, hN⟩ : ∃ N, N = s.heap.objs.size := ⟨_, rfl⟩
  rw [← hN] at hS n1 n2 hQ ⊢
  have far : N ∉ [it, l] := by simp only [List.mem_cons, List.not_mem_nil, or_false, not_or]; exact ⟨Ne.symm n1, Ne.symm n2⟩
  have it1 : (s.heap.push { cls := .type "list", data := .seq #[] }).IsRevIter it l ((xs.size : Int) - 1) := hit.at fun o e => Heap.get?_push_of_some _ e
  show wpAny _ _ (do let old ← Builtin.List.listItems (.ref N); Builtin.List.listUpdate (.ref N) (fun _ => #[]); letGo old.toList.reverse; Builtin.List.listExtendWith (.ref N) (.ref it) .none) _ _ _
  refine wpAny_bind ?_
  unfold Builtin.List.listItems
  refine wpAny_bind (wpAny_seqItems hS rfl (wpAny_pure ?_))
  show wpAny _ _ (updateSeq N (fun _ => #[]) >>= fun _ => letGo (#[] : Array Value).toList.reverse >>= fun _ => Builtin.List.listExtendWith (.ref N) (.ref it) .none) _ _ _
  refine wpAny_bind (wpAny_updateSeq hS rfl ?_)
  have q2 := Heap.get?_update_self (Obj.mapSeq (fun _ => (#[] : Array Value))) hS rfl
  have oth : ∀ b o, b ≠ N → (s.heap.push { cls := .type "list", data := .seq #[] }).get? b = some o → ((s.heap.push { cls := .type "list", data := .seq #[] }).update N (Obj.mapSeq fun _ => (#[] : Array Value))).get? b = some o :=
    fun b o hb e => (Heap.get?_update_other _ _ (Ne.symm hb)).trans e
  refine wpAny_bind (wpAny_letGo ?_)
  have it2 := it1.at fun o e => oth it o n1 e
  have ls2 : ((s.heap.push { cls := .type "list", data := .seq #[] }).update N (Obj.mapSeq fun _ => (#[] : Array Value))).IsList l xs := (hl.push _).at fun o e => oth l o n2 e
  have ty : ∀ u : Shared, u.heap.IsRevIter it l ((xs.size : Int) - 1) → u.TypeIs (.ref it) "list_reverseiterator" := fun u x => Heap.IsRevIter.typeIs (s := u) x
  unfold Builtin.List.listExtendWith
  refine wpAny_bind (wpAny_typeOf (ty _ it2) ?_)
  have c1 : Builtin.List.listSameRef (.ref N) (.ref it) = false := by simp [Builtin.List.listSameRef, Ne.symm n1]
  have c2 : (Value.type "list_reverseiterator" == Value.type "list") = false := by decide
  have c3 : (Value.type "list_reverseiterator" == Value.type "tuple") = false := by decide
  simp only [c1, c2, c3, Bool.or_false, Bool.false_eq_true, if_false]
  refine wpAny_bind (wpAny_pyIter_revIter it2 ?_)
  refine wpAny_bind (wpAny_holding (rev_room (ty _ it2) ?_))
  have W := (Walks.listRev (prog := P) (w := w) (A := A.in1.in1) hh it l ne xs).toS
  have e0 : ((xs.size : Nat) : Int) - 1 - ((0 : Nat) : Int) = (xs.size : Int) - 1 := by omega
  have fin : ∀ (h : Heap) (c : Nat) (tk : Nat), h.IsRevIter it l ((xs.size : Int) - 1) → h.IsList l xs → (∀ b o, b ≠ N → s.heap.get? b = some o → h.get? b = some o) → h.get? N = some { cls := .type "list", dict := none, data := .seq #[] c, slots := #[] } →
      codeAny (model P w) A.in1 (.builtin "list.extend.loop" ⟨[.ref N, .ref it, .none], []⟩) (wants (fun r u => r = Value.none ∧ Q (.ref N) u) E) { s with heap := h, toks := tk } := fun h c tk a1 a2 a3 a4 => by
    refine codeAny_extend_loopS W hn N far .none xs.size 0 _ _ _ rfl (Nat.zero_le _) ⟨Nat.zero_le _, by rw [e0]; exact a1, a2⟩ a4 (ItemsOf.nil _) fun u acc c' mv hu hacc => ?_
    rw [Moved.eq_with mv]
    refine ⟨rfl, hQ u.heap u.toks acc c' (fun b o hb e => mv.heap b o (fun y => ?_) (a3 b o (by rw [hN]; exact Nat.ne_of_lt (Heap.lt_size e)) e)) hu hacc⟩
    rcases List.mem_cons.mp y with y | y
    · exact absurd (Heap.lt_size e) (by rw [y, hN]; exact Nat.lt_irrefl _)
    · exact hb (List.mem_singleton.mp y)
  refine wpAny_ite_split (fun _ => ?_) (fun _ => wpAny_pure ⟨plainId_quiet F.plain_extend_loop _, fin _ _ _ it2 ls2 (fun b o hb e => oth b o hb (Heap.get?_push_of_some _ e)) q2⟩)
  refine wpAny_bind (wpAny_rule ?_)
  refine wpAny_bind ?_
  show wpAny _ _ (updateSeq N (·.push .none) >>= fun _ => updateSeq N (·.pop)) _ _ _
  refine wpAny_bind (wpAny_updateSeq q2 rfl ?_)
  have q3 := Heap.get?_update_self (Obj.mapSeq (·.push Value.none)) q2 rfl
  refine wpAny_updateSeq (hz := by seq_fits) q3 rfl ?_
  have q4 := Heap.get?_update_self (Obj.mapSeq (·.pop)) q3 rfl
  refine wpAny_pure ⟨plainId_quiet F.plain_extend_loop _, ?_⟩
  have oth2 : ∀ (h : Heap) (f : Array Value → Array Value) b o, b ≠ N → h.get? b = some o → (h.update N (Obj.mapSeq f)).get? b = some o := fun h f b o hb e => (Heap.get?_update_other _ _ (Ne.symm hb)).trans e
  exact fin _ _ _ (it2.at fun o e => oth2 _ _ _ _ n1 (oth2 _ _ _ _ n1 e)) (ls2.at fun o e => oth2 _ _ _ _ n2 (oth2 _ _ _ _ n2 e)) (fun b o hb e => oth2 _ _ _ _ hb (oth2 _ _ _ _ hb (oth b o hb (Heap.get?_push_of_some _ e)))) q4
end
section
variable {X : Cx}
theorem pe_revLst {e : Expr} {te : TE} {p p2 pos pos2 : Pos} (hc : X.calm = true) (hg : Gl X "list") (hm : X.mg "list" = none) (hg2 : Gl X "reversed") (hm2 : X.mg "reversed" = none) (he : PE X e te)
    (hs : starEach [e] X.env = (false, eval e X.env) :: starEach [] X.env := by rfl)
    (hs2 : starEach [.Call (.Name "reversed" p2) [e] [] pos2] X.env = (false, eval (.Call (.Name "reversed" p2) [e] [] pos2) X.env) :: starEach [] X.env := by rfl) :
    PE X (.Call (.Name "list" p) [.Call (.Name "reversed" p2) [e] [] pos2] [] pos) (tRevLst X.K te) := by
  refine ⟨fun pins s σ H Q I h => ?_⟩
  refine Call_ (ld_blt I hg hm boot_list (PyProof.Rows.callWith_type1 (args_cons (Call_ (ld_blt I hg2 hm2 PyProof.Rows.boot_reversed (PyProof.Rows.callWith_type1 (args_cons (thn (he.run pins s σ H _ I h) fun u s1 ⟨v, H1, I1, r1, q1⟩ => args_nil ?_) hs) hs rfl))) hs2) hs2 rfl))
  obtain ⟨a, xs, rfl, hq, q⟩ := q1
  obtain rfl : u = Value.ref a := r1
  obtain ⟨its, rv, pl, z1⟩ := I1.list hq
  refine call_reversed_list pl.isList (args_nil ?_)
  have k0 : ∀ b o, s1.heap.get? b = some o → (s1.heap.push (revObj a ((its.toArray.size : Int) - 1))).get? b = some o := fun b o e => Heap.get?_push_of_some _ e
  obtain ⟨ol, hol, _⟩ := id pl.isList
  have ne : a ≠ s1.heap.objs.size := Nat.ne_of_lt (Heap.lt_size hol)
  have hn : its.toArray.size ≤ sizeLine := by rw [List.size_toArray, ← rv.length]; exact z1
  refine rev_list (s := { s1 with heap := s1.heap.push (revObj a ((its.toArray.size : Int) - 1)) }) (I1.ok.hd hc) ⟨_, Heap.get?_push_size _ rfl, rfl, rfl⟩ (pl.isList.push _) ne hn fun h' tk acc c hk hS hi => ?_
  have hk' : ∀ b o, s1.heap.get? b = some o → h'.get? b = some o := fun b o e => hk b o (Nat.ne_of_lt (Heap.lt_size e)) (k0 b o e)
  have sz : s1.heap.objs.size ≤ (s1.heap.push (revObj a ((its.toArray.size : Int) - 1))).objs.size := by rw [Heap.size_push]; exact Nat.le_succ _
  have J := I1.laid (t' := tk) (o := .lst xs.reverse) hk' sz ⟨by rw [List.length_reverse]; exact z1, acc.toList, c, RT.vals_rev rv hi, by rw [Array.toArray_toList]; exact hS⟩
  exact ⟨.ref _, _, J, rfl, q _ (I1.hok.fresh sz)⟩
end
end Cs

set_option maxRecDepth 100000
set_option maxHeartbeats 4000000
namespace Cs
open PySem PySem.Spec PyProof.Rows L2
/-- every other one -/
def ev2 {α : Type} : List α → List α
  | [] => []
  | [x] => [x]
  | x :: _ :: r => x :: ev2 r
theorem ev2_pick {α : Type} : ∀ l : List α, (List.range ((l.length + 1) / 2)).filterMap (fun k => l[2 * k]?) = ev2 l
  | [] => by simp [ev2]
  | [x] => by
    have e : ([x].length + 1) / 2 = 1 := by simp
    rw [e]
    rfl
  | x :: y :: r => by
    have e : ((x :: y :: r).length + 1) / 2 = (r.length + 1) / 2 + 1 := by simp only [List.length_cons]; omega
    rw [e, List.range_succ_eq_map, List.filterMap_cons_some (f := fun k => (x :: y :: r)[2 * k]?) (a := 0) (b := x) rfl, List.filterMap_map]
    show x :: _ = x :: ev2 r
    rw [← ev2_pick r]
    congr 1
theorem ev2_vals {xs : List V} {us : List Value} (r : Vals xs us) : Vals (ev2 xs) (ev2 us) := by
  have key : ∀ (n : Nat) (xs : List V) (us : List Value), xs.length ≤ n → Vals xs us → Vals (ev2 xs) (ev2 us) := by
    intro n
    induction n with
    | zero =>
      intro xs us hl r
      cases r with
      | nil => exact .nil
      | cons a b => simp at hl
    | succ n ih =>
      intro xs us hl r
      cases r with
      | nil => exact .nil
      | cons a b =>
        cases b with
        | nil => exact .cons a .nil
        | cons c d => exact .cons a (ih _ _ (by simp only [List.length_cons] at hl; omega) d)
  exact key xs.length xs us (Nat.le_refl _) r
theorem ev2_len {α : Type} : ∀ l : List α, (ev2 l).length = (l.length + 1) / 2
  | [] => by simp [ev2]
  | [x] => by simp [ev2]
  | x :: y :: r => by
    show (ev2 r).length + 1 = _
    rw [ev2_len r]
    simp only [List.length_cons]
    omega
theorem vals_drop : ∀ {xs : List V} {us : List Value} (n : Nat), Vals xs us → Vals (xs.drop n) (us.drop n)
  | _, _, 0, r => r
  | _, _, _ + 1, .nil => .nil
  | _, _, n + 1, .cons _ r => vals_drop n r
theorem pick2 (its : Array Value) (i : Nat) (hi : i ≤ 1) (h2 : 2 ≤ its.size) : slicePick its (some (i : Int)) none (some 2) = (ev2 (its.toList.drop i)).toArray := by
  unfold slicePick
  have b : sliceBounds (some (i : Int)) none (some 2) its.size = ((i : Int), (its.size : Int), 2) := by
    unfold sliceBounds
    simp
    omega
  rw [b]
  congr 1
  have r : sliceRange (i : Int) (its.size : Int) 2 = (List.range (((its.toList.drop i).length + 1) / 2)).map fun k => i + 2 * k := by
    unfold sliceRange
    rw [if_pos (by decide), if_pos (by omega), List.length_drop, Array.length_toList]
    have e : (((its.size : Int) - (i : Int) + 2 - 1) / 2).toNat = (its.size - i + 1) / 2 := by omega
    show List.map _ (List.range (((its.size : Int) - (i : Int) + 2 - 1) / 2).toNat) = _
    rw [e]
    refine List.map_congr_left fun k _ => ?_
    omega
  rw [r, List.filterMap_map, ← ev2_pick (its.toList.drop i)]
  congr 1
  funext k
  rw [List.getElem?_drop]
  simp
/-- xs[i::2], i 0 or 1 -/
def tEv2 (K : PySem.W.Frag) (i : Nat) (te : TE) : TE := fun σ H Q => te σ H fun x H1 => ∃ a xs, x = .ref a ∧ SqL K H1 a xs ∧ 2 ≤ xs.length ∧ ∀ p, H1 p = none → Q (.ref p) (upd H1 p (.lst (ev2 (xs.drop i))))
section
variable {X : Cx}
theorem pe_ev2 {e : Expr} {te : TE} {k1 k2 : Nat} {p1 p2 p3 pos : Pos} {i : Nat} (hi : i ≤ 1) (he : PE X e te) : PE X (.Subscript e (.Slice (some (.Constant (.int (i : Int)) k1 p1)) none (some (.Constant (.int 2) k2 p2)) p3) pos) (tEv2 X.K i te) := by
  refine ⟨fun pins s σ H Q I h => ?_⟩
  refine Subscript_ (thn (he.run pins s σ H _ I h) fun v s1 ⟨x, H1, I1, r1, q1⟩ => ?_)
  obtain ⟨a, xs, rfl, hx, h2, q⟩ := q1
  cases r1
  have hlo : PO X (some (.Constant (.int (i : Int)) k1 p1)) (tPart (tC (.int (i : Int)))) := po_some pe_int
  have hst : PO X (some (.Constant (.int 2) k2 p2)) (tPart (tC (.int 2))) := po_some pe_int
  refine wpAny_Slice (thn (hlo.run pins s1 σ H1 (fun o H2 => o = some (i : Int) ∧ H2 = H1) I1 ⟨(i : Int), rfl, rfl, rfl⟩) fun vl s2 ⟨l, H2, I2, pl, el, e2⟩ => ?_)
  subst el e2
  refine thn (po_none.run pins s2 σ H2 (fun o H3 => o = none ∧ H3 = H2) I2 ⟨rfl, rfl⟩) fun vu s3 ⟨u, H3, I3, pu, eu, e3⟩ => ?_
  subst eu e3
  refine thn (hst.run pins s3 σ H3 (fun o H4 => o = some 2 ∧ H4 = H3) I3 ⟨2, rfl, rfl, rfl⟩) fun vs s4 ⟨o, H4, I4, ps, eo, e4⟩ => ?_
  subst eo e4
  have I5 : Inv X pins σ H4 { s4 with heap := s4.heap.push { cls := .type "slice", data := .fields #[vl, vu, vs] } } := I4.kept (t' := s4.toks) fun b ob q => Heap.get?_push_of_some _ q
  obtain ⟨its, r, ht, hz⟩ := I5.list hx
  have hlen := r.length
  show wpAny (model X.prog X.w) X.A (subscriptTail e (.Slice (some (.Constant (.int (i : Int)) k1 p1)) none (some (.Constant (.int 2) k2 p2)) p3) (.ref a) (.ref s4.heap.objs.size)) (EP X pins σ Q) X.xe { s4 with heap := s4.heap.push { cls := .type "slice", data := .fields #[vl, vu, vs] } }
  refine tail_any (ops := [.ref a, .ref s4.heap.objs.size]) ht.isList.typeIs (PySem.slot_list_getitem.lookup) ?_ (by with_unfolding_all rfl)
  refine wpAny_getItem_list_slice ht.isList (Heap.IsSliceOf.new _ vl vu vs) pl pu ps (by decide) ?_ (by rw [List.size_toArray]; omega)
  rw [pick2 _ i hi (by rw [List.size_toArray]; omega)]
  refine ⟨.ref _, _, I5.laid (t' := s4.toks) (o := .lst (ev2 (xs.drop i))) (fun b ob q => Heap.get?_push_of_some _ q) (Nat.le_refl _) ?_, rfl, q _ (I5.hok.fresh (Nat.le_refl _))⟩
  refine ⟨by rw [ev2_len, List.length_drop]; omega, _, 0, ev2_vals (vals_drop i r), Heap.get?_push_size _ rfl⟩
end
end Cs

set_option maxRecDepth 100000
set_option maxHeartbeats 4000000
namespace Cs
open PySem PySem.Spec PyProof.Rows L2
/-! ## for k, v in d.items(), d's keys tuples -/
def ItiT (d : Addr) (o : Obj) (kvs : List (List Key × V)) : It :=
  ⟨fun i H => H d = some (.frz o (.dT kvs)) ∧ i < kvs.length, fun i H x H' => ∃ T q k v, kvs[i]? = some (k, v) ∧ x = .ref T ∧ H q = some (.tup (k.map kV)) ∧ H T = none ∧ H' = upd H T (.tup [.ref q, v]), fun i H => H d = some (.frz o (.dT kvs)) ∧ kvs.length ≤ i⟩
section
variable {X : Cx} {pins : List (Addr × Obj)} {σ : L2.St} {H : Hp} {s : Shared} {d : Addr} {o : Obj}
theorem Inv.frzTv {kvs : List (List Key × V)} (I : Inv X pins σ H s) (h : H d = some (.frz o (.dT kvs))) :
    (d == sysModules) = false ∧ s.heap.get? d = some o ∧ o.ExactDict ∧ ∃ (es : Array DictEntry) (ep : Nat), o.data = .dict es ep ∧ es.size = kvs.length ∧
      ∀ (i : Nat) (k : List Key) (v : V), kvs[i]? = some (k, v) → ∃ (en : DictEntry) (q : Addr), es[i]? = some en ∧ en.key = .ref q ∧ RelV v en.val ∧ H q = some (.tup (k.map kV)) := by
  obtain ⟨hd, z, hs, xs, pr, o', es, ep, ho, hx, hdt, he, _⟩ := I.hok d _ h
  rw [hd] at ho
  cases ho
  refine ⟨hs, hd, hx, es, ep, hdt, ?_, fun i k v e => ?_⟩
  · have l1 : es.size = xs.length := size_of_entries he
    have l2 : kvs.length = xs.length := Paired.length pr
    omega
  · obtain ⟨b, hb, e1, e2, e3⟩ := paired_get pr e
    have q := entry_at he i
    rw [hb] at q
    exact ⟨_, b.2.1, q, rfl, e3, e2⟩
end
section
variable {P : Program} {w : World} {K : PySem.W.Frag} {d : Addr} {o : Obj} {es : Array DictEntry} {ep : Nat}
theorem turn_itemsT {kvs : List (List Key × V)} {elts : List Expr} {kk : Nat} {tpos : Pos} (it : Addr) (hod : o.data = .dict es ep) :
    Turn P w K (.Tuple elts kk tpos) (ItiT d o kvs) [it] it (fun i h => ∃ ok ov, IsItemIter h it d i kvs.length ep ok ov) where
  mem := by simp
  obj := fun i h st b hb => by
    have e : b = it := by simpa using hb
    subst e
    obtain ⟨ok, ov, e⟩ := st
    exact ⟨_, e, fun v y => nomatch y⟩
  keep := fun i h h' st k => let ⟨ok, ov, e⟩ := st; ⟨ok, ov, k it (by simp) _ e⟩
  item := by
    intro X hP hw hK hc i pins s σ H E I hf st hg
    subst hP hw hK
    obtain ⟨hd, hi⟩ := hg
    obtain ⟨hs, hgd, hx, es', ep', hdt, hsz, ent⟩ := Inv.frzTv I hd
    obtain ⟨rfl, rfl⟩ := dict_ep hod hdt
    obtain ⟨⟨k, v⟩, hkv⟩ : ∃ p, kvs[i]? = some p := ⟨kvs[i], List.getElem?_eq_getElem hi⟩
    obtain ⟨en, q, hen, hkey, hval, hq⟩ := ent i k v hkv
    obtain ⟨ok, ov, he⟩ := st
    rw [← hsz] at he
    have hi' : i < es'.size := by omega
    have een : es'[i] = en := by
      rw [Array.getElem?_eq_getElem hi'] at hen
      exact Option.some.inj hen
    have hlt : it < s.heap.objs.size := Heap.lt_size he
    refine DT.nextI he (es := es') ⟨o, hgd, hx, hdt⟩ hi' fun h' ho hT hz hk => ?_
    rw [een] at ho hT
    refine ⟨_, rfl, wpAny_letOwnedTupleGo_items (s := { s with heap := h' }) ho fun h'' he' sb => ?_⟩
    have hT2 : h''.get? s.heap.objs.size = some { cls := .type "tuple", data := .seq #[en.key, en.val] } := (sb.2 _ (Nat.ne_of_gt hlt)).trans hT
    have rk : RelV (.ref q) en.key := hkey
    have new : ObjOk X.prog X.w (upd H s.heap.objs.size (.tup [.ref q, v])) h'' s.heap.objs.size (.tup [.ref q, v]) :=
      ⟨by show 2 ≤ sizeLine; decide, [en.key, en.val], .cons rk (.cons hval .nil), ⟨_, hT2, rfl, _, rfl⟩⟩
    have I1 : Inv X pins σ (upd H s.heap.objs.size (.tup [.ref q, v])) { s with heap := h'' } :=
      I.turnedNew (t' := s.toks) (ch := [it]) (fun b ob hb e => (sb.2 b (by simpa using hb)).trans (hk b ob (by simpa using hb) e)) hf (Nat.le_refl _) new
    refine ⟨.ref s.heap.objs.size, _, I1, rfl, ⟨_, q, k, v, hkv, rfl, hq, I.hok.fresh (Nat.le_refl _), rfl⟩, ⟨en.key, en.val, ?_⟩, fun b hb => ?_⟩
    · rw [← hsz]; exact he'
    · have e : b = it := by simpa using hb
      rw [e, upd_ne (Nat.ne_of_lt hlt)]
      exact (hf it (by simp)).1
  done := by
    intro X hP hw hK hc i pins s σ H E I hf st hg
    subst hP hw hK
    obtain ⟨hd, hi⟩ := hg
    obtain ⟨f0, f1, f2, f3, f4, f5⟩ := hf it (by simp)
    obtain ⟨hs, hgd, hx, es', ep', hdt, hsz, ent⟩ := Inv.frzTv I hd
    obtain ⟨rfl, rfl⟩ := dict_ep hod hdt
    obtain ⟨ok, ov, he⟩ := st
    rw [← hsz] at he
    exact wpAny_pyNext_items_end_raw (es := es') (I.ok.hd hc) he ⟨o, hgd, hx, hdt⟩ (by omega) fun h' eb => ⟨rfl, I.turned (t' := s.toks) (fun b ob hb e => eb b ob hb e) f0 f1 f3 f4 f5⟩
  self := fun A i s Q E st h => let ⟨_, _, e⟩ := st; PySem.W.kcp_self e h
end
def iItemsT (td : TE) : TI := fun σ H R => td σ H fun x H1 => ∃ d o kvs, x = .ref d ∧ H1 d = some (.frz o (.dT kvs)) ∧ R (ItiT d o kvs) H1
section
variable {X : Cx} {e : Expr} {td : TE} {apos cpos : Pos}
theorem pi_itemsT {elts : List Expr} {kk : Nat} {tpos : Pos} (he : PE X e td) (hbase : attributeBase e "items" X.env (eval e X.env) = eval e X.env := by rfl) (hline : (apos.endLine == cpos.line) = true := by rfl) :
    PI X (.Tuple elts kk tpos) (.Call (.Attribute e "items" apos) [] [] cpos) (iItemsT td) := by
  refine ⟨fun pins s σ H R I h => ?_⟩
  refine wpAny_Call_method (T := "dict") (id := "dict.items") hbase rfl hline F.plainAttrs_dict F.slot_dict_items F.type_dict_items (thn (he.run pins s σ H _ I h) fun u s1 ⟨x, H1, I1, rx, d, o, kvs, ex, hd, q⟩ => ?_)
  subst ex
  obtain rfl : u = Value.ref d := rx
  obtain ⟨hs, hgd, hx, es, ep, hdt, hsz, ent⟩ := Inv.frzTv I1 hd
  have raw : DT.Raw s1.heap d es ep := ⟨o, hgd, hx, hdt⟩
  refine ⟨raw.typeIs, ?_, ?_⟩
  · intro b e
    cases e
    exact ⟨o, hgd, hx.2.1⟩
  have I2 : Inv X pins σ H1 { s1 with heap := s1.heap.push { cls := .type "dict_items", data := .fields #[.ref d] } } := I1.kept (t' := s1.toks) fun b ob q => Heap.get?_push_of_some _ q
  have fin : wpAny (model X.prog X.w) X.A (pyIter (.ref s1.heap.objs.size)) (PIE X pins σ (.Tuple elts kk tpos) R) X.xe { s1 with heap := s1.heap.push { cls := .type "dict_items", data := .fields #[.ref d] } } := by
    refine DT.iterI (d := d) (es := es) (ep := ep) ⟨_, Heap.get?_push_size _ rfl, rfl, rfl⟩ (raw.push _) (pi_one (tk := s1.toks) I2 _ (turn_itemsT _ hdt) ⟨.none, .none, ?_⟩ q)
    rw [← hsz]
    exact Heap.get?_push_size _ rfl
  show wpAny _ _ (callWith cpos (.builtin "dict.items") [.ref d] [] []) _ X.xe s1
  exact method_meetsIn F.slot_dict_items F.entry_dict_items rfl (PySem.evalArgs_none ⟨rfl, raw.typeIs, F.args_dict_items_1 _, _, DT.meetsItems (es := es) (ep := ep) hs, ⟨raw, fin⟩⟩)
end
end Cs

set_option maxRecDepth 100000
set_option maxHeartbeats 4000000
namespace Cs
open PySem PySem.Spec PyProof.Rows L2
/-! ## {k: v}, k a tuple -/
def tDispT (tk tv : TE) : TE := fun σ H Q => ∀ p, H p = none → tk σ (upd H p (.dT [])) fun x H1 => tv σ H1 fun y H2 => H2 p = some (.dT []) ∧ ∃ (b : Addr) (kk : List Key), x = .ref b ∧ H2 b = some (.tup (kk.map kV)) ∧ Q (.ref p) (upd H2 p (.dT [(kk, y)]))
section
variable {X : Cx} {k v : Expr} {tk tv : TE} {pos : Pos}
theorem pe_dispT (hu : X.A.units < cLine) (hk : PE X k tk) (hv : PE X v tv) : PE X (.Dict [some k] [v] pos) (tDispT tk tv) := by
  refine ⟨fun pins s σ H Q I q => ?_⟩
  have hn := I.hok.fresh (Nat.le_refl s.heap.objs.size)
  have I1 := I.laid (a := s.heap.objs.size) (o := .dT []) (h' := s.heap.push { cls := .type "dict", data := .dict #[] }) (t' := s.toks) (fun _ _ q => Heap.get?_push_of_some _ q) (Nat.le_refl _) (dt_empty s.heap I.big)
  rw [arm_eval_Dict, zip_pairTrees [some k] [v] X.env pos rfl rfl, dictDisplay_pairs (pairTrees [some k] [v] X.env pos) (fun e => by cases e) (show 1 < 17 by decide)]
  refine wpAny_bind (wpAny_standAt (wpAny_bind (wpAny_subDictH (knd := tupleKind (mixKind X.prog X.w)) (Q := fun d s' => wpAny (model X.prog X.w) X.A (pure (Value.ref d)) _ _ s') hu (show 1 ≤ 15 by decide) ?_)))
  refine pairTrees_cons_walk (thn (hk.run pins _ σ _ _ I1 (q _ hn)) fun u s1 ⟨x, H1, I2, rx, q1⟩ => thn (hv.run pins s1 σ H1 _ I2 q1) fun u2 s2 ⟨y, H2, I3, ry, q2⟩ => pairTrees_nil_walk ?_)
  obtain ⟨e, b, kk, rfl, eb, q3⟩ := q2
  obtain rfl : u = Value.ref b := rx
  obtain ⟨z, hd, xs, rel, dd⟩ := dt_of I3.hok e
  have : xs = [] := by
    cases rel
    rfl
  subst this
  refine ⟨[(kk, b, u2)], ⟨rfl, rfl, key_of I3.hok eb, trivial⟩, dd, fun h' tk' dd' hs => wpAny_pure ⟨.ref s.heap.objs.size, _, ?_, rfl, q3⟩⟩
  obtain ⟨o, es, ep, hq, h2, h3, h4, _, h5⟩ := dd'
  refine d_write I3 (by rw [e]; exact True.intro) hs ⟨o, hq⟩ ⟨(by show 1 ≤ sizeLine; decide), hd, _, ?_, o, es, ep, hq, h2, h3, h4, h5⟩
  have kt : KT H2 [(kk, y)] [(kk, b, u2)] := .cons ⟨rfl, eb, ry⟩ .nil
  refine kt.keeps fun c ys ec => ?_
  rw [upd_ne (ne_of ec e (fun z => nomatch z))]
  exact ec
end
end Cs

set_option maxRecDepth 100000
set_option maxHeartbeats 4000000
namespace Cs
open PySem PySem.Spec PyProof.Rows L2
/-! ## the text, the defs as they stand -/
def top (i : Nat) : Stmt := PySem.Challenge.pw_cornerfigures_s01_answers.main.body.getD i (.Pass ⟨0, 0, 0, 0⟩)
/-- the def st under the name nm -/
structure Df (K : PySem.W.Frag) (mg : Str → Option Value) (nm : Str) (st : Stmt) (ps : List Str) : Prop where
  ex : ∃ f fd, mg nm = some (.ref f) ∧ Fun K nm nm st f fd ∧ Binds K fd ps []
structure Okd (P : Program) (w : World) (K : PySem.W.Frag) (mg : Str → Option Value) (base : Heap) (nm : Str) (k : Nat) (ps : List Str) (sp : Sp) : Prop where
  ex : ∃ f fd, mg nm = some (.ref f) ∧ PySem.W.keepIn K (.ref f) = true ∧ Binds K fd ps [] ∧ FnOk P w K mg base CX0 k f fd ps sp
section
variable {P : Program} {w : World} {K : PySem.W.Frag} {mg : Str → Option Value} {base : Heap}
theorem Df.ok {nm : Str} {st : Stmt} {ps : List Str} {k : Nat} {sp : Sp} (D : Df K mg nm st ps) (h : ∀ f fd, Fun K nm nm st f fd → FnOk P w K mg base CX0 k f fd ps sp) : Okd P w K mg base nm k ps sp := by
  obtain ⟨f, fd, m, F, b⟩ := D.ex
  exact ⟨f, fd, m, F.kp, b, h f fd F⟩
end
section
variable {X : Cx}
theorem pe_cal {nm : Str} {k : Nat} {ps : List Str} {sp : Sp} {e : Expr} {es : List Expr} {t : TA} {p pos : Pos} (O : Okd X.prog X.w X.K X.mg X.base nm k ps sp) (hr : Room k X.A) (ha : PA X (e :: es) t) (hg : Gl X nm := by rfl)
    (hdb : (nm == ("__debug__" : Str)) = false := by decide) (he : starEach (e :: es) X.env = (false, eval e X.env) :: starEach es X.env := by rfl) (hpl : (backTo pos (starEach es X.env)).any (·.1) = false := by rfl) :
    PE X (.Call (.Name nm p) (e :: es) [] pos) (tCall sp [] E0 t) := by
  refine ⟨fun pins s σ H Q I h => ?_⟩
  obtain ⟨f, fd, m, kp, b, F⟩ := O.ex
  exact (pe_call F hr hg m kp b .nil pass0 ha hdb he hpl).run pins s σ H Q I h
/-- e[k], e a tuple, k written -/
theorem ti {a : Expr} {ta : TE} {k : Int} {p pos : Pos} (h : PE X a ta) : PE X (.Subscript a (.Constant (.int k) 0 p) pos) (tOp (rIxT X.K) ta (tC (.int k))) := pe_ix ix_tup h pe_int (fun _ _ => rfl)
/-- the same in a comprehension -/
theorem tik (K : PySem.W.Frag) {a : Expr} {ta : TE} {k : Int} {p pos : Pos} (h : PE X a ta) (hK : X.K = K := by rfl) : PE X (.Subscript a (.Constant (.int k) 0 p) pos) (tOp (rIxT K) ta (tC (.int k))) := by
  subst hK
  exact ti h
end
/-! ## readings -/
section
variable {K : PySem.W.Frag} {σ : L2.St} {H : Hp} {a : Addr} {p : Cf.Pt} {Q : VK} {i : Nat}
theorem it0 (hs : σ[i]? = some (some (.ref a))) (h : TupP H a p) (q : Q (.int p.1) H) : tOp (rIxT K) (tVar i) (tC (.int 0)) σ H Q := ⟨_, hs, _, _, _, _, rfl, rfl, .inl (.inl h), atI_nat (j := 0) rfl, q⟩
theorem it1 (hs : σ[i]? = some (some (.ref a))) (h : TupP H a p) (q : Q (.int p.2) H) : tOp (rIxT K) (tVar i) (tC (.int 1)) σ H Q := ⟨_, hs, _, _, _, _, rfl, rfl, .inl (.inl h), atI_nat (j := 1) rfl, q⟩
/-- a, b = point -/
theorem un2 {j : Nat} {R : L2.St → Hp → Prop} (h : TupP H a p) (q : R ((σ.set i (some (.int p.1))).set j (some (.int p.2))) H) : gTup K 2 (gCons (gName i) (gCons (gName j) gNil)) (.ref a) σ H R :=
  ⟨a, _, rfl, .inl (.inl h), rfl, _, _, rfl, _, _, rfl, rfl, q⟩
end
/-! ## lists of objects -/
/-- the list at a: an object for each of xs, of which R holds -/
def Objs {α : Type} (R : Hp → Addr → α → Prop) (H : Hp) (a : Addr) (xs : List α) : Prop := ∃ ts : List Addr, H a = some (.lst (ts.map V.ref)) ∧ ts.length = xs.length ∧ ∀ (i : Nat) t x, ts[i]? = some t → xs[i]? = some x → R H t x
def Mono {α : Type} (R : Hp → Addr → α → Prop) : Prop := ∀ H H' t x, Same H H' → R H t x → R H' t x
theorem Objs.keep {α : Type} {R : Hp → Addr → α → Prop} {H H' : Hp} {a : Addr} {xs : List α} (h : Objs R H a xs) (m : Mono R) (s : Same H H') : Objs R H' a xs := by
  obtain ⟨ts, h1, h2, h3⟩ := h
  exact ⟨ts, s _ _ h1, h2, fun i t x a b => m _ _ _ _ s (h3 i t x a b)⟩
abbrev Pts := Objs TupP
theorem mono_tup : Mono TupP := fun _ _ _ _ s h => s _ _ h
/-- a pair of points -/
def EdgT (H : Hp) (t : Addr) (e : Cf.Pt × Cf.Pt) : Prop := ∃ p q, H t = some (.tup [.ref p, .ref q]) ∧ TupP H p e.1 ∧ TupP H q e.2
theorem mono_edg : Mono EdgT := fun _ _ _ _ s ⟨p, q, a, b, c⟩ => ⟨p, q, s _ _ a, s _ _ b, s _ _ c⟩
abbrev Edgs := Objs EdgT
theorem Pts.zs {H : Hp} {a : Addr} {ps : List Cf.Pt} (h : Pts H a ps) : ∃ zs : Zs, H a = some (.lst (zref zs)) ∧ (∀ z ∈ zs, TupP H z.1 z.2) ∧ zs.map (·.2) = ps := by
  obtain ⟨ts, h1, h2, h3⟩ := h
  have e1 : (ts.zip ps).map (·.1) = ts := by rw [List.map_fst_zip]; omega
  have e2 : (ts.zip ps).map (·.2) = ps := by rw [List.map_snd_zip]; omega
  refine ⟨ts.zip ps, ?_, fun z hz => ?_, e2⟩
  · rw [h1]
    show _ = some (HO.lst ((ts.zip ps).map fun z => V.ref z.1))
    rw [show ((ts.zip ps).map fun z => V.ref z.1) = ((ts.zip ps).map (·.1)).map V.ref by rw [List.map_map]; rfl, e1]
  · obtain ⟨i, hi⟩ := List.mem_iff_getElem?.mp hz
    rw [List.getElem?_zip_eq_some] at hi
    exact h3 i _ _ hi.1 hi.2
theorem pts_of {H : Hp} {a : Addr} {zs : Zs} (h : H a = some (.lst (zref zs))) (ht : ∀ z ∈ zs, TupP H z.1 z.2) : Pts H a (zs.map (·.2)) := by
  refine ⟨zs.map (·.1), ?_, by simp, fun i t x h1 h2 => ?_⟩
  · rw [h, List.map_map]; rfl
  · rw [List.getElem?_map] at h1 h2
    cases e : zs[i]? with
    | none => rw [e] at h1; cases h1
    | some z =>
      rw [e] at h1 h2
      cases h1; cases h2
      exact ht z (List.mem_of_getElem? e)
theorem new_same {H : Hp} {p : Addr} {o : HO} (h : H p = none) : Same H (upd H p o) := fun b x e => by
  rw [upd_ne (ne_of_none e h)]
  exact e
/-! ## a comprehension over such a list, its values numbers -/
theorem objs_at {α : Type} {ts : List Addr} {xs : List α} (hl : ts.length = xs.length) {i : Nat} {v : V} (h : (ts.map V.ref)[i]? = some v) : ∃ t x, ts[i]? = some t ∧ xs[i]? = some x ∧ v = .ref t := by
  rw [List.getElem?_map] at h
  cases e : ts[i]? with
  | none => rw [e] at h; cases h
  | some t =>
    rw [e] at h
    have hi := (List.getElem?_eq_some_iff.mp e).1
    exact ⟨t, xs[i]'(by omega), rfl, List.getElem?_eq_getElem (by omega), (Option.some.inj h).symm⟩
theorem lc_objs {α : Type} {R : Hp → Addr → α → Prop} {K : PySem.W.Frag} {a : Addr} {xs : List α} {ts : List Addr} {g : TG} {te : TE} {vs : List Nat} {σ : L2.St} {H1 : Hp} {D : Addr} {Qd : Hp → Prop} (m : Mono R) (nD : H1 D = none)
    (ha : H1 a = some (.lst (ts.map V.ref))) (hl : ts.length = xs.length) (hR : ∀ (i : Nat) t x, ts[i]? = some t → xs[i]? = some x → R H1 t x) (few : xs.length ≤ sizeLine) (Y : Hp → List V → List α → Prop) (y0 : ∀ H, Y H [] [])
    (hs : ∀ i t x H acc (Q : VK), xs[i]? = some x → Same H1 H → R H t x → Y H acc (xs.take i) → H D = some (.lst acc) → (∀ y H', (∀ b o, H b = some o → H' b = some o) → Y (upd H' D (.lst (acc ++ [y]))) (acc ++ [y]) (xs.take (i + 1)) → Q y H') → g (.ref t) (wipe σ vs) H fun σ2 H2 => wipe σ2 vs = wipe σ vs ∧ te σ2 H2 Q)
    (hY : ∀ H acc zs, Y H acc zs → acc.length = zs.length)
    (hd : ∀ H acc, Same H1 H → H D = some (.lst acc) → Y H acc xs → Qd H) :
    ∃ W : Nat → Nat → Hp → Prop, (∃ m, W 0 m (upd H1 D (.lst []))) ∧ ∀ i m H, W i m H →
      ((Itl K a).stop i H ∧ Qd H) ∨ ((Itl K a).go i H ∧ ∃ Nx : Hp → Prop, (∀ H', Nx H' → ∃ m', m' < m ∧ W (i + 1) m' H') ∧ ∀ x H', (Itl K a).yld i H x H' → g x (wipe σ vs) H' fun σ2 H2 => wipe σ2 vs = wipe σ vs ∧ tYes σ2 H2 fun b H3 =>
        if b = true then te σ2 H3 fun y H4 => ∃ acc, H4 D = some (.lst acc) ∧ acc.length < sizeLine ∧ Nx (upd H4 D (.lst (acc ++ [y]))) else Nx H3) := by
  have lx : (ts.map V.ref).length = xs.length := by rw [List.length_map, hl]
  refine lc_list (xs := ts.map V.ref) (fun i H => Same H1 H ∧ ∃ acc, H D = some (.lst acc) ∧ Y H acc (xs.take i)) ⟨new_same nD, [], upd_same, y0 _⟩ (fun i H _ ⟨s, _⟩ => .inl (.inl (s _ _ ha))) (fun i v H hv ⟨s, acc, hD, y⟩ => ?_) fun H ⟨s, acc, hD, y⟩ => ?_
  · obtain ⟨t, x, h1, h2, rfl⟩ := objs_at hl hv
    have hi := (List.getElem?_eq_some_iff.mp h2).1
    have la : acc.length = i := by rw [hY _ _ _ y, List.length_take]; omega
    refine hs i t x H acc (fun y H4 => ∃ acc, H4 D = some (.lst acc) ∧ acc.length < sizeLine ∧ (Same H1 (upd H4 D (.lst (acc ++ [y]))) ∧ ∃ acc', (upd H4 D (.lst (acc ++ [y]))) D = some (.lst acc') ∧ Y (upd H4 D (.lst (acc ++ [y]))) acc' (xs.take (i + 1)))) h2 s (m _ _ _ _ s (hR i t x h1 h2)) y hD fun y H' s' y' => ⟨acc, s' _ _ hD, by omega, fun b o e => ?_, _, upd_same, y'⟩
    rw [upd_ne (ne_of_none e nD)]
    exact s' _ _ (s _ _ e)
  · rw [lx, List.take_length] at y
    exact hd H acc s hD y
/-- its values numbers -/
theorem lc_ints {α : Type} {R : Hp → Addr → α → Prop} {K : PySem.W.Frag} {a : Addr} {xs : List α} {ts : List Addr} {g : TG} {te : TE} {vs : List Nat} {σ : L2.St} {H1 : Hp} {D : Addr} {Qd : Hp → Prop} (f : α → V) (m : Mono R) (nD : H1 D = none)
    (ha : H1 a = some (.lst (ts.map V.ref))) (hl : ts.length = xs.length) (hR : ∀ (i : Nat) t x, ts[i]? = some t → xs[i]? = some x → R H1 t x) (few : xs.length ≤ sizeLine)
    (hs : ∀ t x H (Q : VK), x ∈ xs → Same H1 H → R H t x → (∀ H', Same H H' → Q (f x) H') → g (.ref t) (wipe σ vs) H fun σ2 H2 => wipe σ2 vs = wipe σ vs ∧ te σ2 H2 Q)
    (hd : ∀ H, Same H1 H → H D = some (.lst (xs.map f)) → Qd H) :
    ∃ W : Nat → Nat → Hp → Prop, (∃ m, W 0 m (upd H1 D (.lst []))) ∧ ∀ i m H, W i m H →
      ((Itl K a).stop i H ∧ Qd H) ∨ ((Itl K a).go i H ∧ ∃ Nx : Hp → Prop, (∀ H', Nx H' → ∃ m', m' < m ∧ W (i + 1) m' H') ∧ ∀ x H', (Itl K a).yld i H x H' → g x (wipe σ vs) H' fun σ2 H2 => wipe σ2 vs = wipe σ vs ∧ tYes σ2 H2 fun b H3 =>
        if b = true then te σ2 H3 fun y H4 => ∃ acc, H4 D = some (.lst acc) ∧ acc.length < sizeLine ∧ Nx (upd H4 D (.lst (acc ++ [y]))) else Nx H3) := by
  refine lc_objs (Y := fun _ acc zs => acc = zs.map f) m nD ha hl hR few (fun _ => rfl) (fun i t x H acc Q hx s r e hD k => ?_) (fun _ _ _ e => by rw [e, List.length_map]) fun H acc s hD e => hd H s (by rw [hD, e])
  refine hs t x H Q (List.mem_of_getElem? hx) s r fun H' s' => k _ _ s' ?_
  rw [e, List.take_add_one, hx, List.map_append]
  rfl
/-- its values new points -/
theorem lc_pts {α : Type} {R : Hp → Addr → α → Prop} {K : PySem.W.Frag} {a : Addr} {xs : List α} {ts : List Addr} {g : TG} {te : TE} {vs : List Nat} {σ : L2.St} {H1 : Hp} {D : Addr} {Qd : Hp → Prop} (f : α → Cf.Pt) (m : Mono R) (nD : H1 D = none)
    (ha : H1 a = some (.lst (ts.map V.ref))) (hl : ts.length = xs.length) (hR : ∀ (i : Nat) t x, ts[i]? = some t → xs[i]? = some x → R H1 t x) (few : xs.length ≤ sizeLine)
    (hs : ∀ t x H (Q : VK), x ∈ xs → Same H1 H → R H t x → (∀ H' b, Same H H' → TupP H' b (f x) → Q (.ref b) H') → g (.ref t) (wipe σ vs) H fun σ2 H2 => wipe σ2 vs = wipe σ vs ∧ te σ2 H2 Q)
    (hd : ∀ H, Same H1 H → Pts H D (xs.map f) → Qd H) :
    ∃ W : Nat → Nat → Hp → Prop, (∃ m, W 0 m (upd H1 D (.lst []))) ∧ ∀ i m H, W i m H →
      ((Itl K a).stop i H ∧ Qd H) ∨ ((Itl K a).go i H ∧ ∃ Nx : Hp → Prop, (∀ H', Nx H' → ∃ m', m' < m ∧ W (i + 1) m' H') ∧ ∀ x H', (Itl K a).yld i H x H' → g x (wipe σ vs) H' fun σ2 H2 => wipe σ2 vs = wipe σ vs ∧ tYes σ2 H2 fun b H3 =>
        if b = true then te σ2 H3 fun y H4 => ∃ acc, H4 D = some (.lst acc) ∧ acc.length < sizeLine ∧ Nx (upd H4 D (.lst (acc ++ [y]))) else Nx H3) := by
  refine lc_objs (Y := fun H acc zs => ∃ us : Zs, acc = zref us ∧ us.map (·.2) = zs.map f ∧ ∀ z ∈ us, TupP H z.1 z.2) m nD ha hl hR few (fun _ => ⟨[], rfl, rfl, fun z h => (by cases h)⟩) (fun i t x H acc Q hx s r y hD k => ?_) (fun _ _ _ ⟨us, e, e2, _⟩ => ?_) fun H acc s hD ⟨us, e, e2, e3⟩ => ?_
  · obtain ⟨us, e, e2, e3⟩ := y
    refine hs t x H Q (List.mem_of_getElem? hx) s r fun H' b s' hb => k _ _ s' ⟨us ++ [(b, f x)], ?_, ?_, fun z hz => ?_⟩
    · rw [e]; show _ = List.map _ _; rw [List.map_append]; rfl
    · rw [List.map_append, e2, List.take_add_one, hx, List.map_append]; rfl
    · have hz' : TupP H' z.1 z.2 := by
        rcases List.mem_append.mp hz with c | c
        · exact s' _ _ (e3 z c)
        · rw [List.mem_singleton.mp c]; exact hb
      refine (upd_ne (fun c => ?_)).trans hz'
      rw [c] at hz'
      have := (s' _ _ hD).symm.trans hz'
      cases this
  · rw [e]
    show (us.map _).length = _
    rw [List.length_map, ← List.length_map (f := (·.2)) (as := us), e2, List.length_map]
  · refine hd H s ?_
    rw [← e2]
    exact pts_of (by rw [hD, e]) e3
end Cs

set_option maxRecDepth 100000
set_option maxHeartbeats 4000000
namespace Cs
open PySem PySem.Spec PyProof.Rows L2
section
variable {P : Program} {w : World} {K : PySem.W.Frag} {mg : Str → Option Value} {base : Heap}
def Bx (p : Cf.Pt) : Prop := -1048576 ≤ p.1 ∧ p.1 ≤ 1048576 ∧ -1048576 ≤ p.2 ∧ p.2 ≤ 1048576
/-! ## turn -/
theorem scTurn : FnScope ["first", "second", "third"] ["first", "second", "third"] (defScope (top 1)) := ⟨rfl, rfl, rfl, by decide +kernel, rfl, by decide +kernel, by decide +kernel⟩
def spTurn : Sp := fun vs H Q _ => ∃ (a b c : Addr) (p q r : Cf.Pt), vs = [.ref a, .ref b, .ref c] ∧ TupP H a p ∧ TupP H b q ∧ TupP H c r ∧ Bx p ∧ Bx q ∧ Bx r ∧ Q (.int (Rc60.cross p q r)) H
theorem ok_turn (D : Df K mg "turn" (top 1) ["first", "second", "third"]) : Okd P w K mg base "turn" 1 ["first", "second", "third"] spTurn := by
  refine D.ok fun f fd F => F.ok scTurn (fun vs H Q E h => ?_) (fun cdv A outer s H vs Q E hr h => ?_)
  · obtain ⟨a, b, c, p, q, r, rfl, _⟩ := h
    rfl
  · obtain ⟨a, b, c, p, q, r, rfl, ha, hb, hc, xp, xq, xr, k⟩ := h
    refine ⟨_, pss_one (ps_ret (pe_op op_sub (pe_op op_mul (pe_op op_sub (ti (pv 1)) (ti (pv 0))) (pe_op op_sub (ti (pv 2)) (ti (pv 0)))) (pe_op op_mul (pe_op op_sub (ti (pv 1)) (ti (pv 0))) (pe_op op_sub (ti (pv 2)) (ti (pv 0)))))), ?_⟩
    unfold Bx at xp xq xr
    exact it0 rfl hb (it0 rfl ha ⟨_, _, rfl, rfl, it1 rfl hc (it1 rfl ha ⟨_, _, rfl, rfl, _, _, rfl, rfl, .inl ⟨by omega, by omega⟩,
      it1 rfl hb (it1 rfl ha ⟨_, _, rfl, rfl, it0 rfl hc (it0 rfl ha ⟨_, _, rfl, rfl, _, _, rfl, rfl, .inl ⟨by omega, by omega⟩, _, _, rfl, rfl, k⟩)⟩)⟩)⟩)
/-! ## common_divisor -/
theorem scCd : FnScope ["a", "b", "rest"] ["a", "b"] (defScope (top 6)) := ⟨rfl, rfl, rfl, by decide +kernel, rfl, by decide +kernel, by decide +kernel⟩
def spCd : Sp := fun vs H Q _ => ∃ (a b : Int), vs = [.int a, .int b] ∧ 0 ≤ a ∧ 0 ≤ b ∧ Q (.int (Int.gcd a b : Nat)) H
theorem gcd_step {a b : Int} (ha : 0 ≤ a) (hb : 0 < b) : Int.gcd b (a.fmod b) = Int.gcd a b := by
  rw [Int.fmod_eq_emod_of_nonneg _ (by omega), Int.gcd_comm a b]
  have e : a = a % b + b * (a / b) := (Int.emod_add_mul_ediv a b).symm
  conv => rhs; rw [e]
  exact (Int.gcd_add_mul_left_right ..).symm
theorem ok_cd (D : Df K mg "common_divisor" (top 6) ["a", "b"]) : Okd P w K mg base "common_divisor" 1 ["a", "b"] spCd := by
  refine D.ok fun f fd F => F.ok scCd (fun vs H Q E h => ?_) (fun cdv A outer s H vs Q E hr h => ?_)
  · obtain ⟨a, b, rfl, _⟩ := h
    rfl
  · obtain ⟨a, b, rfl, ha, hb, k⟩ := h
    refine ⟨_, pss_cons (ps_while PassesOwn.never (pt_cmpR op_gt (pv 1) pe_int (nomark _)) (pss_cons (ps_set (i := 2) scCd.nd rfl (.inl rfl) (pe_op op_modN (pv 0) (pv 1)))
      (pss_cons (ps_set (i := 0) scCd.nd rfl (.inl rfl) (pv 1)) (pss_one (ps_set (i := 1) scCd.nd rfl (.inl rfl) (pv 2))))))
      (pss_one (ps_ret (pv 0))), ?_⟩
    refine ⟨fun m σ H' => H' = H ∧ ∃ (x y : Int) (z : Option V), σ = [some (.int x), some (.int y), z] ∧ 0 ≤ x ∧ 0 ≤ y ∧ Int.gcd x y = Int.gcd a b ∧ m = y.toNat, ⟨_, rfl, a, b, none, rfl, ha, hb, rfl, rfl⟩, ?_⟩
    rintro m σ H' ⟨rfl, x, y, z, rfl, hx, hy, hg, rfl⟩
    refine ⟨_, rfl, _, _, rfl, rfl, _, rfl, ite2 (fun c => ?_) (fun c => ?_)⟩
    · have c : 0 < y := of_decide_eq_true c
      refine ⟨fun σ' H2 => H2 = H' ∧ ∃ (x' y' : Int) (z' : Option V), σ' = [some (.int x'), some (.int y'), z'] ∧ 0 ≤ x' ∧ 0 ≤ y' ∧ Int.gcd x' y' = Int.gcd a b ∧ y' < y, ?_, ?_⟩
      · rintro σ' H2 ⟨rfl, x', y', z', rfl, h1, h2, h3, h4⟩
        exact ⟨y'.toNat, by omega, rfl, x', y', z', rfl, h1, h2, h3, rfl⟩
      · have e := Int.fmod_eq_emod_of_nonneg x (show 0 ≤ y by omega)
        have l1 := Int.emod_nonneg x (show y ≠ 0 by omega)
        have l2 := Int.emod_lt_of_pos x c
        refine ⟨_, rfl, _, rfl, _, _, rfl, rfl, by omega, ?_⟩
        exact ⟨_, rfl, _, rfl, rfl, y, x.fmod y, _, rfl, hy, by omega, by rw [gcd_step hx c, hg], by omega⟩
    · have c : ¬ 0 < y := fun q => c (decide_eq_true q)
      have : y = 0 := by omega
      subst this
      refine ⟨_, rfl, ?_⟩
      have e : x = (Int.gcd a b : Nat) := by rw [← hg, Int.gcd_zero_right]; omega
      show Q (.int x) H'
      rw [e]; exact k
/-! ## steps, one_step -/
theorem scSt : FnScope ["start", "end"] ["start", "end"] (defScope (top 7)) := ⟨rfl, rfl, rfl, by decide +kernel, rfl, by decide +kernel, by decide +kernel⟩
def spSt : Sp := fun vs H Q _ => ∃ (a b : Addr) (e : Cf.Pt × Cf.Pt), vs = [.ref a, .ref b] ∧ TupP H a e.1 ∧ TupP H b e.2 ∧ Q (.int (Cf.gI e)) H
theorem gcd_abs (a b : Int) : Int.gcd (if a < 0 then -a else a) (if b < 0 then -b else b) = Int.gcd a b := by
  split <;> split <;> simp [Int.gcd_neg, Int.neg_gcd]
theorem abs_nn (a : Int) : 0 ≤ (if a < 0 then -a else a) := by split <;> omega
theorem ok_st (D : Df K mg "steps" (top 7) ["start", "end"]) (C : Okd P w K mg base "common_divisor" 1 ["a", "b"] spCd) (mA : mg "abs" = none) : Okd P w K mg base "steps" 2 ["start", "end"] spSt := by
  refine D.ok fun f fd F => F.ok scSt (fun vs H Q E h => ?_) (fun cdv A outer s H vs Q E hr h => ?_)
  · obtain ⟨a, b, e, rfl, _⟩ := h
    rfl
  · obtain ⟨a, b, e, rfl, ha, hb, k⟩ := h
    refine ⟨_, pss_one (ps_ret (pe_cal C hr (pa_cons (pe_callB call_abs (by rfl) mA (by decide +kernel) (pa_cons (pe_op op_sub (ti (pv 1)) (ti (pv 0))) pa_nil))
      (pa_cons (pe_callB call_abs (by rfl) mA (by decide +kernel) (pa_cons (pe_op op_sub (ti (pv 1)) (ti (pv 0))) pa_nil)) pa_nil)))), ?_⟩
    refine it0 rfl hb (it0 rfl ha ⟨_, _, rfl, rfl, _, rfl, it1 rfl hb (it1 rfl ha ⟨_, _, rfl, rfl, _, rfl, _, _, rfl, abs_nn _, abs_nn _, ?_⟩)⟩)
    rw [gcd_abs]
    exact k
def Eb (e : Cf.Pt × Cf.Pt) : Prop := Bx e.1 ∧ Bx e.2
theorem gI_le {e : Cf.Pt × Cf.Pt} (h : Eb e) (g : 0 < Cf.gI e) : Cf.gI e ≤ 2097152 := by
  obtain ⟨⟨a1, a2, a3, a4⟩, b1, b2, b3, b4⟩ := h
  have d := Cf.gI_dvd e
  by_cases c : e.2.1 - e.1.1 = 0
  · have c2 : e.2.2 - e.1.2 ≠ 0 := fun c2 => by
      unfold Cf.gI at g
      rw [c, c2] at g
      exact absurd g (by decide)
    have := Nat.le_of_dvd (Int.natAbs_pos.mpr c2) (Int.natAbs_dvd_natAbs.mpr d.2)
    omega
  · have := Nat.le_of_dvd (Int.natAbs_pos.mpr c) (Int.natAbs_dvd_natAbs.mpr d.1)
    omega
theorem scOs : FnScope ["start", "end", "count"] ["start", "end"] (defScope (top 8)) := ⟨rfl, rfl, rfl, by decide +kernel, rfl, by decide +kernel, by decide +kernel⟩
def spOs : Sp := fun vs H Q _ => ∃ (a b : Addr) (e : Cf.Pt × Cf.Pt), vs = [.ref a, .ref b] ∧ TupP H a e.1 ∧ TupP H b e.2 ∧ Eb e ∧ 0 < Cf.gI e ∧ ∀ H' p, Same H H' → TupP H' p (Cf.sx e, Cf.sy e) → Q (.ref p) H'
theorem ok_os (D : Df K mg "one_step" (top 8) ["start", "end"]) (C : Okd P w K mg base "steps" 2 ["start", "end"] spSt) : Okd P w K mg base "one_step" 3 ["start", "end"] spOs := by
  refine D.ok fun f fd F => F.ok scOs (fun vs H Q E h => ?_) (fun cdv A outer s H vs Q E hr h => ?_)
  · obtain ⟨a, b, e, rfl, _⟩ := h
    rfl
  · obtain ⟨a, b, e, rfl, ha, hb, he, hg, k⟩ := h
    refine ⟨_, pss_cons (ps_set (i := 2) scOs.nd rfl (.inl rfl) (pe_cal C hr (pa_cons (pv 0) (pa_cons (pv 1) pa_nil))))
      (pss_one (ps_ret (pe_tup (pa_cons (pe_op op_fdivN (pe_op op_sub (ti (pv 1)) (ti (pv 0))) (pv 2)) (pa_cons (pe_op op_fdivN (pe_op op_sub (ti (pv 1)) (ti (pv 0))) (pv 2)) pa_nil))))), ?_⟩
    have hl := gI_le he hg
    have hd : Cf.gI e ≠ 0 ∧ (Cf.gI e).natAbs < 1073741824 := ⟨by omega, by omega⟩
    refine ⟨_, rfl, _, rfl, _, _, e, rfl, ha, hb, it0 rfl hb (it0 rfl ha ⟨_, _, rfl, rfl, _, rfl, _, _, rfl, rfl, hd, it1 rfl hb (it1 rfl ha ⟨_, _, rfl, rfl, _, rfl, _, _, rfl, rfl, hd, (by show 2 ≤ sizeLine; decide), fun p hp => k _ p (new_same hp) ?_⟩)⟩)⟩
    show upd H p _ p = _
    rw [upd_same]
    show some (HO.tup [V.int ((e.2.1 - e.1.1).fdiv (Cf.gI e)), V.int ((e.2.2 - e.1.2).fdiv (Cf.gI e))]) = _
    rw [Int.fdiv_eq_ediv_of_nonneg (e.2.1 - e.1.1) (show 0 ≤ Cf.gI e by omega), Int.fdiv_eq_ediv_of_nonneg (e.2.2 - e.1.2) (show 0 ≤ Cf.gI e by omega)]
/-! ## farthest_out -/
theorem scFo : FnScope ["figure", "start", "end", "right", "up", "p", "q"] ["figure", "start", "end"] (defScope (top 9)) := ⟨rfl, rfl, rfl, by decide +kernel, rfl, by decide +kernel, by decide +kernel⟩
def spFo : Sp := fun vs H Q _ => ∃ (a b c : Addr) (l : List Cf.Pt) (e : Cf.Pt × Cf.Pt), vs = [.ref a, .ref b, .ref c] ∧ Pts H a l ∧ TupP H b e.1 ∧ TupP H c e.2 ∧ (∀ p ∈ l, Bx p) ∧ l ≠ [] ∧ l.length ≤ 4200 ∧ ∀ H', Same H H' → Q (.int (Cf.fo l e)) H'
theorem ok_fo (D : Df K mg "farthest_out" (top 9) ["figure", "start", "end"]) (mM : mg "max" = none) : Okd P w K mg base "farthest_out" 1 ["figure", "start", "end"] spFo := by
  refine D.ok fun f fd F => F.ok scFo (fun vs H Q E h => ?_) (fun cdv A outer s H vs Q E hr h => ?_)
  · obtain ⟨a, b, c, l, e, rfl, _⟩ := h
    rfl
  · obtain ⟨a, b, c, l, e, rfl, hl, hb, hc, bl, ne, few, k⟩ := h
    refine ⟨_, pss_cons (ps_set (i := 3) scFo.nd rfl (.inr rfl) (pe_op op_sub (ti (pv 2)) (ti (pv 1))))
      (pss_cons (ps_set (i := 4) scFo.nd rfl (.inr rfl) (pe_op op_sub (ti (pv 2)) (ti (pv 1))))
      (pss_one (ps_ret (pe_callB (cr_max rfl) (by rfl) mM (by decide +kernel) (pa_cons
        (pe_lc (own := [("p", 5), ("q", 6)]) (g := gTup K 2 (gCons (gName 5) (gCons (gName 6) gNil))) (tt := tYes) rfl scFo.nd (pi_list (pv 0)) (blkOk_by (N := ["figure", "start", "end", "right", "up", "p", "q"]) (sc := defScope (top 9)) (by decide +kernel))
          (fun _ _ _ _ _ => pg_tup rfl (pgs_cons (pg_name (i := 5) scFo.nd rfl (Or.inl rfl)) (pgs_cons (pg_name (i := 6) scFo.nd rfl (Or.inl rfl)) pgs_nil))) (fun _ _ _ _ _ => pts_nil)
          (fun _ _ _ _ _ => pe_op op_sub (pe_op op_mul (pv 5) (pv 4)) (pe_op op_mul (pv 6) (pv 3)))) pa_nil))))), ?_⟩
    obtain ⟨ts, h1, h2, h3⟩ := hl
    refine it0 rfl hc (it0 rfl hb ⟨_, _, rfl, rfl, it1 rfl hc (it1 rfl hb ⟨_, _, rfl, rfl, _, rfl, a, rfl, ⟨_, .inl (.inl h1)⟩, fun Dd nD => ?_⟩)⟩)
    refine lc_ints (f := fun p => .int (p.1 * (e.2.2 - e.1.2) - p.2 * (e.2.1 - e.1.1))) mono_tup nD h1 h2 h3 (Nat.le_trans few (by decide)) (fun t x H' Q' hx s' ht k' => ?_) fun H' s' hD => ?_
    · have bx := bl x hx
      unfold Bx at bx
      exact un2 ht ⟨rfl, _, rfl, _, rfl, _, _, rfl, rfl, .inl ⟨by omega, by omega⟩, _, rfl, _, rfl, _, _, rfl, rfl, .inl ⟨by omega, by omega⟩, _, _, rfl, rfl, k' _ (Same.refl _)⟩
    · have nn : l.map (fun p => p.1 * (e.2.2 - e.1.2) - p.2 * (e.2.1 - e.1.1)) ≠ [] := by simpa using ne
      refine ⟨Dd, l.map fun p => p.1 * (e.2.2 - e.1.2) - p.2 * (e.2.1 - e.1.1), rfl, .inl (.inl (by rw [hD, List.map_map]; rfl)), List.length_pos_iff.mpr nn, fun m hm hle => ?_⟩
      have fs := Cf.fo_spec ne e
      obtain ⟨p, hp, ep⟩ := List.mem_map.mp hm
      obtain ⟨q, hq, eq⟩ := fs.1
      have i1 := fs.2 p hp
      have i2 := hle _ (List.mem_map.mpr ⟨q, hq, rfl⟩)
      have : m = Cf.fo l e := by
        rw [eq]
        rw [eq] at i1
        exact Int.le_antisymm (ep ▸ i1) i2
      subst this
      exact k _ s'
end
end Cs

set_option maxRecDepth 100000
set_option maxHeartbeats 4000000
namespace Cs
open PySem PySem.Spec PyProof.Rows L2
/-! ## slices -/
theorem cut_from (xs : List V) (k : Nat) : cutV xs (some (k : Int)) none = xs.drop k := by
  unfold cutV
  rw [HT.sIx_nat, HT.sIx_none, List.take_of_length_le (by rw [List.length_drop]; omega)]
  by_cases c : k ≤ xs.length
  · rw [Nat.min_eq_left c]
  · rw [Nat.min_eq_right (by omega), List.drop_length, List.drop_eq_nil_of_le (by omega)]
theorem cut_to (xs : List V) (k : Nat) : cutV xs none (some (k : Int)) = xs.take k := by
  unfold cutV
  rw [HT.sIx_nat, HT.sIx_none, List.drop_zero, Nat.sub_zero]
  by_cases c : k ≤ xs.length
  · rw [Nat.min_eq_left c]
  · rw [Nat.min_eq_right (by omega), List.take_of_length_le (by omega), List.take_of_length_le (by omega)]
theorem cut_mid (xs : List V) (k j : Nat) (h1 : k ≤ j) (h2 : j ≤ xs.length) : cutV xs (some (k : Int)) (some (j : Int)) = (xs.drop k).take (j - k) := by
  unfold cutV
  rw [HT.sIx_nat, HT.sIx_nat, Nat.min_eq_left (Nat.le_trans h1 h2), Nat.min_eq_left h2]
theorem cut_last (xs : List V) : cutV xs none (some (-1)) = xs.dropLast := by
  unfold cutV
  have e : HT.sIx xs.length xs.length (some (-1)) = xs.length - 1 := by
    show (if (-1 : Int) < 0 then ((-1 : Int) + (xs.length : Int)).toNat else min (-1 : Int).toNat xs.length) = _
    rw [if_pos (by omega)]; omega
  rw [HT.sIx_none, List.drop_zero, Nat.sub_zero, e, List.dropLast_eq_take]
theorem atI_m2 {α : Type} (xs : List α) (u v : α) : atI (xs ++ [u, v]) (-2) = some u := by
  have hl : (xs ++ [u, v]).length = xs.length + 2 := by simp
  have e : ixN (xs ++ [u, v]).length (-2) = some xs.length := by
    unfold ixN
    rw [hl, if_neg (by decide), if_pos (by omega)]
    congr 1
    omega
  unfold atI
  rw [e]
  simp
theorem atI_m1 {α : Type} (xs : List α) (u v : α) : atI (xs ++ [u, v]) (-1) = some v := by
  rw [show xs ++ [u, v] = (xs ++ [u]) ++ [v] by simp]
  exact atI_last _ _
section
variable {P : Program} {w : World} {K : PySem.W.Frag} {mg : Str → Option Value} {base : Heap}
theorem edge_in {l : List Cf.Pt} {e : Cf.Pt × Cf.Pt} (h : e ∈ Rc60.edges l) : e.1 ∈ l ∧ e.2 ∈ l := by
  have h := List.of_mem_zip h
  refine ⟨h.1, ?_⟩
  rcases List.mem_append.mp h.2 with c | c
  · exact List.mem_of_mem_drop c
  · exact List.mem_of_mem_take c
theorem edges_le (l : List Cf.Pt) : (Rc60.edges l).length ≤ l.length := by
  unfold Rc60.edges
  rw [List.length_zip]
  omega
/-! ## edges -/
theorem scEd : FnScope ["figure"] ["figure"] (defScope (top 5)) := ⟨rfl, rfl, rfl, by decide +kernel, rfl, by decide +kernel, by decide +kernel⟩
def spEd : Sp := fun vs H Q _ => ∃ (a : Addr) (l : List Cf.Pt), vs = [.ref a] ∧ Pts H a l ∧ l.length ≤ 4200 ∧ ∀ H' p, Same H H' → Edgs H' p (Rc60.edges l) → Q (.ref p) H'
theorem ok_ed (D : Df K mg "edges" (top 5) ["figure"]) (mL : mg "list" = none) (mZ : mg "zip" = none) : Okd P w K mg base "edges" 1 ["figure"] spEd := by
  refine D.ok fun f fd F => F.ok scEd (fun vs H Q E h => ?_) (fun cdv A outer s H vs Q E hr h => ?_)
  · obtain ⟨a, l, rfl, _⟩ := h
    rfl
  · obtain ⟨a, l, rfl, hl, few, k⟩ := h
    refine ⟨_, pss_one (ps_ret (pe_zipL rfl (by rfl) mL (by rfl) mZ (pa_cons (pv 0) (pa_cons (pe_op op_cat (pe_slice sl_list (pv 0) (po_some pe_int) po_none) (pe_slice sl_list (pv 0) po_none (po_some pe_int))) pa_nil)))), ?_⟩
    have hl0 := hl
    obtain ⟨ts, h1, h2, h3⟩ := hl
    refine ⟨_, rfl, _, rfl, 1, rfl, a, _, rfl, .inl (.inl h1), fun c nc => ?_⟩
    have s1 := new_same (o := .lst (cutV (ts.map V.ref) (some 1) none)) nc
    refine ⟨_, rfl, 1, rfl, a, _, rfl, .inl (.inl (s1 _ _ h1)), fun d nd => ?_⟩
    have s2 := new_same (o := .lst (cutV (ts.map V.ref) none (some 1))) nd
    refine ⟨c, d, _, _, rfl, rfl, s2 _ _ upd_same, upd_same, ?_, fun b nb => ?_⟩
    · have := cutV_length (ts.map V.ref) (some 1) none
      have := cutV_length (ts.map V.ref) none (some 1)
      rw [List.length_map] at *
      exact Nat.le_trans (show _ ≤ 8400 by omega) (by decide)
    have e1 : cutV (ts.map V.ref) (some 1) none = (ts.drop 1).map V.ref := by rw [show (1 : Int) = ((1 : Nat) : Int) from rfl, cut_from, List.map_drop]
    have e2 : cutV (ts.map V.ref) none (some 1) = (ts.take 1).map V.ref := by rw [show (1 : Int) = ((1 : Nat) : Int) from rfl, cut_to, List.map_take]
    rw [e1, e2] at nb ⊢
    rw [← List.map_append]
    have s3 := new_same (o := .lst ((ts.drop 1 ++ ts.take 1).map V.ref)) nb
    rw [e1] at s1 s2
    rw [e2] at s2
    have s4 := s1.trans (s2.trans s3)
    refine ⟨a, b, _, _, rfl, .inl (.inl (s4 _ _ h1)), .inl (.inl upd_same), ?_, fun H' p us s5 np nus lus hp hu => k H' p (s4.trans s5) ⟨us, hp, ?_, fun i t e g1 g2 => ?_⟩⟩
    · simp only [List.length_map, List.length_append, List.length_drop, List.length_take]
      omega
    · rw [lus, List.length_map]
      unfold Rc60.edges
      simp only [List.length_zip, List.length_append, List.length_drop, List.length_take]
      omega
    · unfold Rc60.edges at g2
      rw [List.getElem?_zip_eq_some] at g2
      obtain ⟨g2, g3⟩ := g2
      have hi := (List.getElem?_eq_some_iff.mp g2).1
      have hx : ts[i]? = some (ts[i]'(by omega)) := List.getElem?_eq_getElem _
      have lz : (ts.drop 1 ++ ts.take 1).length = (l.drop 1 ++ l.take 1).length := by
        simp only [List.length_append, List.length_drop, List.length_take]; omega
      have hi2 := (List.getElem?_eq_some_iff.mp g3).1
      have hy : (ts.drop 1 ++ ts.take 1)[i]? = some ((ts.drop 1 ++ ts.take 1)[i]'(by omega)) := List.getElem?_eq_getElem _
      refine ⟨_, _, hu i t _ _ g1 (by rw [List.getElem?_map, hx]; rfl) (by rw [List.getElem?_map, hy]; rfl), s5 _ _ (s4 _ _ (h3 i _ _ hx g2)), s5 _ _ (s4 _ _ ?_)⟩
      generalize (ts.drop 1 ++ ts.take 1)[i]'(by omega) = y at hy ⊢
      by_cases c : i < (ts.drop 1).length
      · rw [List.getElem?_append_left c, List.getElem?_drop] at hy
        rw [List.getElem?_append_left (by rw [List.length_drop] at *; omega), List.getElem?_drop] at g3
        exact h3 _ _ _ hy g3
      · rw [List.getElem?_append_right (by omega)] at hy
        rw [List.getElem?_append_right (by rw [List.length_drop] at *; omega)] at g3
        rw [List.length_drop] at hy g3
        rw [h2] at hy
        have c0 : i - (l.length - 1) = 0 := by
          rw [List.length_drop] at c
          omega
        rw [c0, List.getElem?_take_of_lt (by decide)] at hy g3
        exact h3 _ _ _ hy g3
/-- a, b = pair of points -/
theorem unE {H : Hp} {t : Addr} {p q : Addr} {σ : L2.St} {i j : Nat} {R : L2.St → Hp → Prop} (h : H t = some (.tup [.ref p, .ref q])) (k : R ((σ.set i (some (.ref p))).set j (some (.ref q))) H) : gTup K 2 (gCons (gName i) (gCons (gName j) gNil)) (.ref t) σ H R :=
  ⟨t, _, rfl, .inl (.inl h), rfl, _, _, rfl, _, _, rfl, rfl, k⟩
/-! ## double_area, rim_points, inside_points -/
theorem scDa : FnScope ["figure", "start", "end"] ["figure"] (defScope (top 10)) := ⟨rfl, rfl, rfl, by decide +kernel, rfl, by decide +kernel, by decide +kernel⟩
/-- of a figure a number -/
def spN (f : List Cf.Pt → Int) : Sp := fun vs H Q _ => ∃ (a : Addr) (l : List Cf.Pt), vs = [.ref a] ∧ Pts H a l ∧ l.length ≤ 4200 ∧ (∀ p ∈ l, Bx p) ∧ ∀ H', Same H H' → Q (.int (f l)) H'
theorem ok_da (D : Df K mg "double_area" (top 10) ["figure"]) (CE : Okd P w K mg base "edges" 1 ["figure"] spEd) (mS : mg "sum" = none) : Okd P w K mg base "double_area" 2 ["figure"] (spN Rc60.area) := by
  refine D.ok fun f fd F => F.ok scDa (fun vs H Q E h => ?_) (fun cdv A outer s H vs Q E hr h => ?_)
  · obtain ⟨a, l, rfl, _⟩ := h
    rfl
  · obtain ⟨a, l, rfl, hl, few, bx, k⟩ := h
    refine ⟨_, pss_one (ps_ret (pe_callB (cr_sum rfl) (by rfl) mS (by decide +kernel) (pa_cons
        (pe_lc (own := [("start", 1), ("end", 2)]) (g := gTup K 2 (gCons (gName 1) (gCons (gName 2) gNil))) (tt := tYes) rfl scDa.nd (pi_list (pe_cal CE hr (pa_cons (pv 0) pa_nil))) (blkOk_by (N := ["figure", "start", "end"]) (sc := defScope (top 10)) (by decide +kernel))
          (fun _ _ _ _ _ => pg_tup rfl (pgs_cons (pg_name (i := 1) scDa.nd rfl (Or.inl rfl)) (pgs_cons (pg_name (i := 2) scDa.nd rfl (Or.inl rfl)) pgs_nil))) (fun _ _ _ _ _ => pts_nil)
          (fun _ _ _ _ _ => pe_op op_sub (pe_op op_mul (tik K (pv 1)) (tik K (pv 2))) (pe_op op_mul (tik K (pv 1)) (tik K (pv 2))))) pa_nil))), ?_⟩
    refine ⟨_, rfl, a, l, rfl, hl, few, fun H1 p s1 ⟨ts, h1, h2, h3⟩ => ⟨p, rfl, ⟨_, .inl (.inl h1)⟩, fun Dd nD => ?_⟩⟩
    refine lc_ints (f := fun e => .int (e.1.1 * e.2.2 - e.1.2 * e.2.1)) mono_edg nD h1 h2 h3 (Nat.le_trans (Nat.le_trans (edges_le l) few) (by decide)) (fun t x H' Q' hx s' ht k' => ?_) fun H' s' hD => ?_
    · obtain ⟨m1, m2⟩ := edge_in hx
      have b1 := bx _ m1
      unfold Bx at b1
      obtain ⟨u, v, g1, g2, g3⟩ := ht
      exact unE g1 ⟨rfl, it0 rfl g2 (it1 rfl g3 ⟨_, _, rfl, rfl, .inl ⟨by omega, by omega⟩, it1 rfl g2 (it0 rfl g3 ⟨_, _, rfl, rfl, .inl ⟨by omega, by omega⟩, _, _, rfl, rfl, k' _ (Same.refl _)⟩)⟩)⟩
    · exact ⟨Dd, (Rc60.edges l).map (fun e : Cf.Pt × Cf.Pt => e.1.1 * e.2.2 - e.1.2 * e.2.1), rfl, .inl (.inl (by rw [hD, List.map_map]; rfl)), k _ (s1.trans s')⟩
theorem scRm : FnScope ["figure", "start", "end"] ["figure"] (defScope (top 11)) := ⟨rfl, rfl, rfl, by decide +kernel, rfl, by decide +kernel, by decide +kernel⟩
theorem rim_sum (l : List Cf.Pt) : ((Rc60.edges l).map Cf.gI).sum = (Rc60.rim l : Int) := by
  unfold Rc60.rim
  induction Rc60.edges l with
  | nil => rfl
  | cons e r ih => rw [List.map_cons, List.sum_cons, ih, List.map_cons, List.sum_cons]; rfl
theorem ok_rm (D : Df K mg "rim_points" (top 11) ["figure"]) (CE : Okd P w K mg base "edges" 1 ["figure"] spEd) (CS : Okd P w K mg base "steps" 2 ["start", "end"] spSt) (mS : mg "sum" = none) : Okd P w K mg base "rim_points" 3 ["figure"] (spN fun l => (Rc60.rim l : Int)) := by
  refine D.ok fun f fd F => F.ok scRm (fun vs H Q E h => ?_) (fun cdv A outer s H vs Q E hr h => ?_)
  · obtain ⟨a, l, rfl, _⟩ := h
    rfl
  · obtain ⟨a, l, rfl, hl, few, bx, k⟩ := h
    refine ⟨_, pss_one (ps_ret (pe_callB (cr_sum rfl) (by rfl) mS (by decide +kernel) (pa_cons
        (pe_lc (own := [("start", 1), ("end", 2)]) (g := gTup K 2 (gCons (gName 1) (gCons (gName 2) gNil))) (tt := tYes) rfl scRm.nd (pi_list (pe_cal CE (hr.mono (by decide)) (pa_cons (pv 0) pa_nil))) (blkOk_by (N := ["figure", "start", "end"]) (sc := defScope (top 11)) (by decide +kernel))
          (fun _ _ _ _ _ => pg_tup rfl (pgs_cons (pg_name (i := 1) scRm.nd rfl (Or.inl rfl)) (pgs_cons (pg_name (i := 2) scRm.nd rfl (Or.inl rfl)) pgs_nil))) (fun _ _ _ _ _ => pts_nil)
          (fun _ _ _ _ _ => pe_cal CS hr (pa_cons (pv 1) (pa_cons (pv 2) pa_nil)))) pa_nil))), ?_⟩
    refine ⟨_, rfl, a, l, rfl, hl, few, fun H1 p s1 ⟨ts, h1, h2, h3⟩ => ⟨p, rfl, ⟨_, .inl (.inl h1)⟩, fun Dd nD => ?_⟩⟩
    refine lc_ints (f := fun e => .int (Cf.gI e)) mono_edg nD h1 h2 h3 (Nat.le_trans (Nat.le_trans (edges_le l) few) (by decide)) (fun t x H' Q' hx s' ht k' => ?_) fun H' s' hD => ?_
    · obtain ⟨u, v, g1, g2, g3⟩ := ht
      exact unE g1 ⟨rfl, _, rfl, _, rfl, _, _, x, rfl, g2, g3, k' _ (Same.refl _)⟩
    · refine ⟨Dd, (Rc60.edges l).map Cf.gI, rfl, .inl (.inl (by rw [hD, List.map_map]; rfl)), ?_⟩
      rw [rim_sum]
      exact k _ (s1.trans s')
theorem scIn : FnScope ["figure"] ["figure"] (defScope (top 12)) := ⟨rfl, rfl, rfl, by decide +kernel, rfl, by decide +kernel, by decide +kernel⟩
theorem ok_in (D : Df K mg "inside_points" (top 12) ["figure"]) (CA : Okd P w K mg base "double_area" 2 ["figure"] (spN Rc60.area)) (CR : Okd P w K mg base "rim_points" 3 ["figure"] (spN fun l => (Rc60.rim l : Int))) :
    Okd P w K mg base "inside_points" 4 ["figure"] (spN fun l => (Rc60.area l - Rc60.rim l + 2).fdiv 2) := by
  refine D.ok fun f fd F => F.ok scIn (fun vs H Q E h => ?_) (fun cdv A outer s H vs Q E hr h => ?_)
  · obtain ⟨a, l, rfl, _⟩ := h
    rfl
  · obtain ⟨a, l, rfl, hl, few, bx, k⟩ := h
    refine ⟨_, pss_one (ps_ret (pe_op op_fdivN (pe_op op_add (pe_op op_sub (pe_cal CA (hr.mono (by decide)) (pa_cons (pv 0) pa_nil)) (pe_cal CR hr (pa_cons (pv 0) pa_nil))) pe_int) pe_int)), ?_⟩
    exact ⟨_, rfl, a, l, rfl, hl, few, bx, fun H1 s1 => ⟨_, rfl, a, l, rfl, hl.keep mono_tup s1, few, bx, fun H2 s2 => ⟨_, _, rfl, rfl, _, _, rfl, rfl, _, _, rfl, rfl, ⟨show (2 : Int) ≠ 0 by decide, show (2 : Int).natAbs < 1073741824 by decide⟩, k _ (s1.trans s2)⟩⟩⟩
/-! ## together -/
theorem scTg : FnScope ["first", "second", "start", "end"] ["first", "second"] (defScope (top 13)) := ⟨rfl, rfl, rfl, by decide +kernel, rfl, by decide +kernel, by decide +kernel⟩
def spTg : Sp := fun vs H Q _ => ∃ (a b : Addr) (l m : List Cf.Pt), vs = [.ref a, .ref b] ∧ Pts H a l ∧ Pts H b m ∧ l.length ≤ 4200 ∧ m.length ≤ 4200 ∧ (∀ p ∈ l, Bx p) ∧ l ≠ [] ∧ ∀ H', Same H H' → Q (.int (Rc60.mixed l m)) H'
theorem ok_tg (D : Df K mg "together" (top 13) ["first", "second"]) (CE : Okd P w K mg base "edges" 1 ["figure"] spEd) (CF : Okd P w K mg base "farthest_out" 1 ["figure", "start", "end"] spFo) (mS : mg "sum" = none) : Okd P w K mg base "together" 2 ["first", "second"] spTg := by
  refine D.ok fun f fd F => F.ok scTg (fun vs H Q E h => ?_) (fun cdv A outer s H vs Q E hr h => ?_)
  · obtain ⟨a, b, l, m, rfl, _⟩ := h
    rfl
  · obtain ⟨a, b, l, m, rfl, hl, hm, few, fewm, bx, ne, k⟩ := h
    refine ⟨_, pss_one (ps_ret (pe_callB (cr_sum rfl) (by rfl) mS (by decide +kernel) (pa_cons
        (pe_lc (own := [("start", 2), ("end", 3)]) (g := gTup K 2 (gCons (gName 2) (gCons (gName 3) gNil))) (tt := tYes) rfl scTg.nd (pi_list (pe_cal CE hr (pa_cons (pv 1) pa_nil))) (blkOk_by (N := ["first", "second", "start", "end"]) (sc := defScope (top 13)) (by decide +kernel))
          (fun _ _ _ _ _ => pg_tup rfl (pgs_cons (pg_name (i := 2) scTg.nd rfl (Or.inl rfl)) (pgs_cons (pg_name (i := 3) scTg.nd rfl (Or.inl rfl)) pgs_nil))) (fun _ _ _ _ _ => pts_nil)
          (fun _ _ _ _ _ => pe_cal CF hr (pa_cons (pv 0) (pa_cons (pv 2) (pa_cons (pv 3) pa_nil))))) pa_nil))), ?_⟩
    refine ⟨_, rfl, b, m, rfl, hm, fewm, fun H1 p s1 ⟨ts, h1, h2, h3⟩ => ⟨p, rfl, ⟨_, .inl (.inl h1)⟩, fun Dd nD => ?_⟩⟩
    refine lc_ints (f := fun e => .int (Cf.fo l e)) mono_edg nD h1 h2 h3 (Nat.le_trans (Nat.le_trans (edges_le m) fewm) (by decide)) (fun t x H' Q' hx s' ht k' => ?_) fun H' s' hD => ?_
    · obtain ⟨u, v, g1, g2, g3⟩ := ht
      exact unE g1 ⟨rfl, _, rfl, _, rfl, _, rfl, a, _, _, l, x, rfl, hl.keep mono_tup (s1.trans s'), g2, g3, bx, ne, few, k'⟩
    · exact ⟨Dd, (Rc60.edges m).map (Cf.fo l), rfl, .inl (.inl (by rw [hD, List.map_map]; rfl)), k _ (s1.trans s')⟩
/-! ## is_one_step_off, has_dual -/
theorem scIo : FnScope ["start", "end"] ["start", "end"] (defScope (top 14)) := ⟨rfl, rfl, rfl, by decide +kernel, rfl, by decide +kernel, by decide +kernel⟩
def spIo : Sp := fun vs H Q _ => ∃ (a b : Addr) (e : Cf.Pt × Cf.Pt), vs = [.ref a, .ref b] ∧ TupP H a e.1 ∧ TupP H b e.2 ∧ Eb e ∧ Q (.bl (decide (Cf.o2 e = Cf.gI e))) H
theorem ok_io (D : Df K mg "is_one_step_off" (top 14) ["start", "end"]) (CS : Okd P w K mg base "steps" 2 ["start", "end"] spSt) : Okd P w K mg base "is_one_step_off" 3 ["start", "end"] spIo := by
  refine D.ok fun f fd F => F.ok scIo (fun vs H Q E h => ?_) (fun cdv A outer s H vs Q E hr h => ?_)
  · obtain ⟨a, b, e, rfl, _⟩ := h
    rfl
  · obtain ⟨a, b, e, rfl, ha, hb, he, k⟩ := h
    refine ⟨_, pss_one (ps_ret (pe_cmpR op_eq (pe_op op_sub (pe_op op_mul (ti (pv 0)) (ti (pv 1))) (pe_op op_mul (ti (pv 0)) (ti (pv 1)))) (pe_cal CS hr (pa_cons (pv 0) (pa_cons (pv 1) pa_nil))) (nomark _))), ?_⟩
    obtain ⟨⟨a1, a2, a3, a4⟩, _⟩ := he
    refine it0 rfl ha (it1 rfl hb ⟨_, _, rfl, rfl, .inl ⟨by omega, by omega⟩, it1 rfl ha (it0 rfl hb ⟨_, _, rfl, rfl, .inl ⟨by omega, by omega⟩, _, _, rfl, rfl, _, rfl, _, rfl, _, _, e, rfl, ha, hb, rfl, ?_⟩)⟩)
    have : decide (V.int (Cf.o2 e) = V.int (Cf.gI e)) = decide (Cf.o2 e = Cf.gI e) := decide_eq_decide.mpr ⟨V.int.inj, fun h => by rw [h]⟩
    show Q (.bl (decide (V.int (Cf.o2 e) = V.int (Cf.gI e)))) H
    rw [this]
    exact k
theorem scHd : FnScope ["figure", "start", "end"] ["figure"] (defScope (top 15)) := ⟨rfl, rfl, rfl, by decide +kernel, rfl, by decide +kernel, by decide +kernel⟩
def spHd : Sp := fun vs H Q _ => ∃ (a : Addr) (l : List Cf.Pt), vs = [.ref a] ∧ Pts H a l ∧ l.length ≤ 4200 ∧ (∀ p ∈ l, Bx p) ∧ Cf.Fig l ∧ ∀ H', Same H H' → Q (.bl (Rc60.near l)) H'
theorem near_all {l : List Cf.Pt} (F : Cf.Fig l) : ((Rc60.edges l).map fun e => decide (Cf.o2 e = Cf.gI e)).all id = Rc60.near l := by
  rw [Bool.eq_iff_iff, Cf.near_iff F]
  simp
theorem ok_hd (D : Df K mg "has_dual" (top 15) ["figure"]) (CE : Okd P w K mg base "edges" 1 ["figure"] spEd) (CI : Okd P w K mg base "is_one_step_off" 3 ["start", "end"] spIo) (mA : mg "all" = none) : Okd P w K mg base "has_dual" 4 ["figure"] spHd := by
  refine D.ok fun f fd F => F.ok scHd (fun vs H Q E h => ?_) (fun cdv A outer s H vs Q E hr h => ?_)
  · obtain ⟨a, l, rfl, _⟩ := h
    rfl
  · obtain ⟨a, l, rfl, hl, few, bx, fg, k⟩ := h
    refine ⟨_, pss_one (ps_ret (pe_callB (cr_all rfl) (by rfl) mA (by decide +kernel) (pa_cons
        (pe_lc (own := [("start", 1), ("end", 2)]) (g := gTup K 2 (gCons (gName 1) (gCons (gName 2) gNil))) (tt := tYes) rfl scHd.nd (pi_list (pe_cal CE (hr.mono (by decide)) (pa_cons (pv 0) pa_nil))) (blkOk_by (N := ["figure", "start", "end"]) (sc := defScope (top 15)) (by decide +kernel))
          (fun _ _ _ _ _ => pg_tup rfl (pgs_cons (pg_name (i := 1) scHd.nd rfl (Or.inl rfl)) (pgs_cons (pg_name (i := 2) scHd.nd rfl (Or.inl rfl)) pgs_nil))) (fun _ _ _ _ _ => pts_nil)
          (fun _ _ _ _ _ => pe_cal CI hr (pa_cons (pv 1) (pa_cons (pv 2) pa_nil)))) pa_nil))), ?_⟩
    refine ⟨_, rfl, a, l, rfl, hl, few, fun H1 p s1 ⟨ts, h1, h2, h3⟩ => ⟨p, rfl, ⟨_, .inl (.inl h1)⟩, fun Dd nD => ?_⟩⟩
    refine lc_ints (f := fun e => .bl (decide (Cf.o2 e = Cf.gI e))) mono_edg nD h1 h2 h3 (Nat.le_trans (Nat.le_trans (edges_le l) few) (by decide)) (fun t x H' Q' hx s' ht k' => ?_) fun H' s' hD => ?_
    · obtain ⟨m1, m2⟩ := edge_in hx
      obtain ⟨u, v, g1, g2, g3⟩ := ht
      exact unE g1 ⟨rfl, _, rfl, _, rfl, _, _, x, rfl, g2, g3, ⟨bx _ m1, bx _ m2⟩, k' _ (Same.refl _)⟩
    · refine ⟨Dd, (Rc60.edges l).map fun e => decide (Cf.o2 e = Cf.gI e), rfl, .inl (.inl (by rw [hD, List.map_map]; rfl)), ?_⟩
      rw [near_all fg]
      exact k _ (s1.trans s')
end
end Cs

set_option maxRecDepth 100000
set_option maxHeartbeats 4000000
namespace Cs
open PySem PySem.Spec PyProof.Rows L2
section
variable {P : Program} {w : World} {K : PySem.W.Frag} {mg : Str → Option Value} {base : Heap}
/-! ## half_round -/
theorem two_last {α : Type} {l : List α} (h : 2 ≤ l.length) : ∃ r u v, l = r ++ [u, v] := by
  have n1 : l ≠ [] := fun e => by rw [e] at h; simp at h
  obtain ⟨m, v, rfl⟩ : ∃ m v, l = m ++ [v] := ⟨l.dropLast, l.getLast n1, (List.dropLast_concat_getLast n1).symm⟩
  have n2 : m ≠ [] := fun e => by rw [e] at h; simp at h
  obtain ⟨r, u, rfl⟩ : ∃ r u, m = r ++ [u] := ⟨m.dropLast, m.getLast n2, (List.dropLast_concat_getLast n2).symm⟩
  exact ⟨r, u, v, by simp⟩
theorem popR_sub (z : Cf.Pt) : ∀ (s : List Cf.Pt), ∀ c ∈ Cf.popR s z, c ∈ s
  | [], c, h => h
  | [b], c, h => h
  | b :: a :: r, c, h => by
    unfold Cf.popR at h
    split at h
    · exact List.mem_cons_of_mem _ (popR_sub z (a :: r) c h)
    · exact h
theorem popR_len (z : Cf.Pt) : ∀ (s : List Cf.Pt), (Cf.popR s z).length ≤ s.length
  | [] => Nat.le_refl _
  | [b] => Nat.le_refl _
  | b :: a :: r => by
    unfold Cf.popR
    split
    · exact Nat.le_trans (popR_len z (a :: r)) (by simp)
    · exact Nat.le_refl _
theorem halfR_len : ∀ (ps s : List Cf.Pt), (ps.foldl Cf.pushR s).length ≤ s.length + ps.length
  | [], s => by simp
  | p :: ps, s => by
    rw [List.foldl_cons]
    have h1 := halfR_len ps (Cf.pushR s p)
    have h2 := popR_len p s
    have h3 : (Cf.pushR s p).length = (Cf.popR s p).length + 1 := rfl
    rw [List.length_cons]
    omega
theorem halfR_sub : ∀ (ps s : List Cf.Pt), ∀ c ∈ ps.foldl Cf.pushR s, c ∈ s ∨ c ∈ ps
  | [], s, c, h => .inl h
  | p :: ps, s, c, h => by
    rw [List.foldl_cons] at h
    rcases halfR_sub ps _ c h with q | q
    · rcases List.mem_cons.mp q with q | q
      · exact .inr (by simp [q])
      · exact .inl (popR_sub p s c q)
    · exact .inr (List.mem_cons_of_mem _ q)
theorem halfR_take {ps : List Cf.Pt} {i : Nat} {z : Cf.Pt} (h : ps[i]? = some z) : Cf.halfR (ps.take (i + 1)) = z :: Cf.popR (Cf.halfR (ps.take i)) z := by
  unfold Cf.halfR
  rw [List.take_add_one, h, List.foldl_append]
  rfl
abbrev nHr : List Str := ["points", "corners", "point"]
theorem scHr : FnScope ["points", "corners", "point"] ["points"] (defScope (top 2)) := ⟨rfl, rfl, rfl, by decide +kernel, rfl, by decide +kernel, by decide +kernel⟩
def spHr : Sp := fun vs H Q _ => ∃ (a : Addr) (l : List Cf.Pt), vs = [.ref a] ∧ Pts H a l ∧ l.length ≤ 4200 ∧ (∀ p ∈ l, Bx p) ∧ ∀ H' p, Same H H' → Pts H' p (Cf.half l) → Q (.ref p) H'
theorem ok_hr (D : Df K mg "half_round" (top 2) ["points"]) (CT : Okd P w K mg base "turn" 1 ["first", "second", "third"] spTurn) (mL : mg "len" = none) : Okd P w K mg base "half_round" 2 ["points"] spHr := by
  refine D.ok fun f fd F => F.ok scHr (fun vs H Q E h => ?_) (fun cdv A outer s H vs Q E hr h => ?_)
  · obtain ⟨a, l, rfl, _⟩ := h
    rfl
  · obtain ⟨a, l, rfl, hl, few, bx, k⟩ := h
    refine ⟨_, pss_cons (ps_set (i := 1) scHr.nd rfl (.inl rfl) (pe_lst pa_nil))
      (pss_cons (ps_for PassesOwn.never rfl (pi_list (pv 0)) (pg_name (i := 2) scHr.nd rfl (.inl rfl))
        (pss_cons (ps_while PassesOwn.never (PW.pt (pw_and (pt_cmpR op_gt (pe_callB call_len_seq (by rfl) mL PySem.boot_len (pa_cons (pv 1) pa_nil)) pe_int (nomark _))
            (pw_and1 (pt_cmpR op_le (pe_cal CT hr (pa_cons (pe_ix ix_list (pv 1) (pe_un un_neg pe_int) (fun _ _ => rfl)) (pa_cons (pe_ix ix_list (pv 1) (pe_un un_neg pe_int) (fun _ _ => rfl)) (pa_cons (pv 2) pa_nil)))) pe_int (nomark _)))))
          (pss_one (ps_expr (pe_bm0 PySem.F.plainAttrs_list PySem.F.slot_list_pop PySem.F.type_list_pop mt_pop (pv 1)))))
        (pss_one (ps_expr (pe_bm PySem.F.plainAttrs_list PySem.F.slot_list_append PySem.F.type_list_append mt_append (pv 1) (pa_cons (pv 2) pa_nil))))))
      (pss_one (ps_ret (pv 1)))), ?_⟩
    refine ⟨Nat.zero_le _, fun C nC => ?_⟩
    have s0 := new_same (o := .lst []) nC
    obtain ⟨ts, h1, h2, h3⟩ := hl
    refine ⟨_, rfl, a, rfl, ⟨_, .inl (.inl (s0 _ _ h1))⟩, for_list (xs := ts.map V.ref) (fun i σ H' => ∃ x2, σ = [some (.ref a), some (.ref C), x2] ∧ Same H H' ∧ ∃ zs : Zs, H' C = some (.lst (zref zs)) ∧ (∀ z ∈ zs, TupP H' z.1 z.2) ∧ zs.map (·.2) = Cf.half (l.take i))
      ⟨none, rfl, s0, [], upd_same, fun z h => (by cases h), rfl⟩ (fun i σ H' _ ⟨x2, _, s, _⟩ => .inl (.inl (s _ _ h1))) ?_ ?_⟩
    · rintro i v σ H' hv ⟨x2, rfl, s, zs, hC, ht, ez⟩
      obtain ⟨t, x, g1, g2, rfl⟩ := objs_at h2 hv
      have hx : TupP H' t x := s _ _ (h3 i t x g1 g2)
      have memx : x ∈ l := List.mem_of_getElem? g2
      have ez' : (zs.map (·.2)).reverse = Cf.halfR (l.take i) := by rw [ez]; exact List.reverse_reverse _
      have bz : ∀ z ∈ zs, Bx z.2 := fun z hz => by
        have : z.2 ∈ Cf.half (l.take i) := by rw [← ez]; exact List.mem_map_of_mem hz
        rcases halfR_sub _ _ _ (List.mem_reverse.mp this) with q | q
        · cases q
        · exact bx _ (List.mem_of_mem_take q)
      have lz : zs.length ≤ i := by
        have := halfR_len (l.take i) []
        have e := congrArg List.length ez'
        rw [List.length_reverse, List.length_map] at e
        unfold Cf.halfR at e
        rw [List.length_take] at this
        simp only [List.length_nil] at this
        omega
      have hi := (List.getElem?_eq_some_iff.mp g2).1
      refine ⟨fun m σ' H2 => σ' = [some (.ref a), some (.ref C), some (.ref t)] ∧ Same H H2 ∧ TupP H2 t x ∧ ∃ ys : Zs, H2 C = some (.lst (zref ys)) ∧ (∀ z ∈ ys, TupP H2 z.1 z.2) ∧ (∀ z ∈ ys, Bx z.2) ∧ ys.length ≤ i ∧ Cf.popR (ys.map (·.2)).reverse x = Cf.popR (Cf.halfR (l.take i)) x ∧ m = ys.length,
        ⟨_, rfl, s, hx, zs, hC, ht, bz, lz, by rw [ez'], rfl⟩, ?_⟩
      rintro m σ' H2 ⟨rfl, s2, hx2, ys, hC2, ht2, by2, ly, ey, rfl⟩
      have lzr : (zref ys).length = ys.length := List.length_map ..
      have go : ¬ (2 ≤ ys.length ∧ ∃ (r : Zs) (u v : Addr × Cf.Pt), ys = r ++ [u, v] ∧ Rc60.cross u.2 v.2 x ≤ 0) → Cf.popR (ys.map (·.2)).reverse x = (ys.map (·.2)).reverse := fun c => by
        by_cases c2 : 2 ≤ ys.length
        · obtain ⟨r, u, v, rfl⟩ := two_last c2
          have : ¬ Rc60.cross u.2 v.2 x ≤ 0 := fun q => c ⟨c2, r, u, v, rfl, q⟩
          simp only [List.map_append, List.reverse_append, List.map_cons, List.map_nil, List.reverse_cons, List.reverse_nil, List.nil_append, List.cons_append]
          show (if Rc60.cross u.2 v.2 x ≤ 0 then _ else _) = _
          rw [if_neg this]
        · match ys, c2 with
          | [], _ => rfl
          | [z], _ => rfl
          | _ :: _ :: _, c2 => exact absurd (by simp) c2
      have zr : ∀ (r : Zs) (u v : Addr × Cf.Pt), zref (r ++ [u, v]) = zref r ++ [.ref u.1, .ref v.1] := fun r u v => by
        show List.map _ _ = _
        rw [List.map_append]; rfl
      -- what is appended
      have app : Cf.popR (ys.map (·.2)).reverse x = (ys.map (·.2)).reverse → ∃ x2 : Option V, [some (V.ref a), some (V.ref C), some (V.ref t)] = [some (V.ref a), some (V.ref C), x2] ∧ Same H (upd H2 C (.lst (zref ys ++ [.ref t]))) ∧ ∃ zs : Zs, (upd H2 C (.lst (zref ys ++ [.ref t]))) C = some (.lst (zref zs)) ∧
          (∀ z ∈ zs, TupP (upd H2 C (.lst (zref ys ++ [.ref t]))) z.1 z.2) ∧ zs.map (·.2) = Cf.half (l.take (i + 1)) := fun e => by
        refine ⟨_, rfl, fun b o q => ?_, ys ++ [(t, x)], ?_, fun z hz => ?_, ?_⟩
        · rw [upd_ne (ne_of_none q nC)]
          exact s2 _ _ q
        · rw [upd_same]
          show _ = some (HO.lst (List.map _ _))
          rw [List.map_append]; rfl
        · have hz' : TupP H2 z.1 z.2 := by
            rcases List.mem_append.mp hz with c | c
            · exact ht2 z c
            · rw [List.mem_singleton.mp c]; exact hx2
          refine (upd_ne (fun c => ?_)).trans hz'
          rw [c] at hz'
          have := hC2.symm.trans hz'
          cases this
        · unfold Cf.half
          rw [halfR_take g2, ← ey, e, List.map_append, List.reverse_cons, List.reverse_reverse]
          rfl
      have few2 : (zref ys).length < sizeLine := by
        rw [lzr]
        exact Nat.lt_of_le_of_lt (show ys.length ≤ 4200 by omega) (by decide)
      by_cases c : 2 ≤ ys.length ∧ ∃ (r : Zs) (u v : Addr × Cf.Pt), ys = r ++ [u, v] ∧ Rc60.cross u.2 v.2 x ≤ 0
      · obtain ⟨c2, r, u, v, rfl, cr⟩ := c
        have hu := ht2 u (by simp)
        have hv' := ht2 v (by simp)
        refine ⟨_, rfl, C, _, rfl, .inl (.inl (.inl hC2)), _, _, rfl, rfl, _, rfl, ?_⟩
        rw [lzr, decide_eq_true (show ((r ++ [u, v]).length : Int) > 1 by omega)]
        refine iteT ⟨_, rfl, 2, rfl, C, _, -2, _, rfl, rfl, .inl (.inl hC2), by rw [zr]; exact atI_m2 _ _ _, _, rfl, 1, rfl, C, _, -1, _, rfl, rfl, .inl (.inl hC2), by rw [zr]; exact atI_m1 _ _ _, _, rfl, u.1, v.1, t, u.2, v.2, x, rfl, hu, hv', hx2, by2 u (by simp), by2 v (by simp), bx x memx,
          _, _, rfl, rfl, _, rfl, ?_⟩
        rw [decide_eq_true cr]
        refine iteT ⟨fun σ' H3 => σ' = [some (.ref a), some (.ref C), some (.ref t)] ∧ Same H H3 ∧ TupP H3 t x ∧ ∃ ys : Zs, H3 C = some (.lst (zref ys)) ∧ (∀ z ∈ ys, TupP H3 z.1 z.2) ∧ (∀ z ∈ ys, Bx z.2) ∧ ys.length ≤ i ∧ Cf.popR (ys.map (·.2)).reverse x = Cf.popR (Cf.halfR (l.take i)) x ∧ ys.length < (r ++ [u, v]).length, ?_, ?_⟩
        · rintro σ' H3 ⟨e1, e2, e3, ys', e4, e5, e6, e7, e8, e9⟩
          exact ⟨_, e9, e1, e2, e3, ys', e4, e5, e6, e7, e8, rfl⟩
        · have ne : ∀ {b : Addr} {p : Cf.Pt}, TupP H2 b p → b ≠ C := fun q e => by
            rw [e] at q
            have := hC2.symm.trans q
            cases this
          have dl : (zref (r ++ [u, v])).dropLast = zref (r ++ [u]) := by
            rw [zr]
            show _ = List.map _ _
            rw [List.map_append, show zref r ++ [V.ref u.1, V.ref v.1] = (zref r ++ [V.ref u.1]) ++ [V.ref v.1] by simp, List.dropLast_concat]
            rfl
          refine ⟨_, rfl, .inl ⟨rfl, _, .inl (.inl hC2)⟩, C, _, .ref v.1, rfl, rfl, hC2, ?_, ?_⟩
          · rw [zr]
            simp
          · rw [dl]
            refine ⟨rfl, fun b o q => ?_, (upd_ne (ne hx2)).trans hx2, r ++ [u], upd_same, fun z hz => ?_, fun z hz => by2 z ?_, ?_, ?_, by simp⟩
            · rw [upd_ne (ne_of_none q nC)]
              exact s2 _ _ q
            · have := ht2 z (by rcases List.mem_append.mp hz with c | c <;> simp_all)
              exact (upd_ne (ne this)).trans this
            · rcases List.mem_append.mp hz with c | c <;> simp_all
            · simp at ly ⊢; omega
            · rw [← ey]
              simp only [List.map_append, List.reverse_append, List.map_cons, List.map_nil, List.reverse_cons, List.reverse_nil, List.nil_append, List.cons_append]
              show _ = (if Rc60.cross u.2 v.2 x ≤ 0 then _ else _)
              rw [if_pos cr]
      · refine ⟨_, rfl, C, _, rfl, .inl (.inl (.inl hC2)), _, _, rfl, rfl, _, rfl, ite2 (fun c1 => ?_) (fun c1 => iteF ?_)⟩
        · have c2 : 2 ≤ ys.length := by
            have := of_decide_eq_true c1
            rw [lzr] at this
            omega
          obtain ⟨r, u, v, rfl⟩ := two_last c2
          have cr : ¬ Rc60.cross u.2 v.2 x ≤ 0 := fun q => c ⟨c2, r, u, v, rfl, q⟩
          have hu := ht2 u (by simp)
          have hv' := ht2 v (by simp)
          refine ⟨_, rfl, 2, rfl, C, _, -2, _, rfl, rfl, .inl (.inl hC2), by rw [zr]; exact atI_m2 _ _ _, _, rfl, 1, rfl, C, _, -1, _, rfl, rfl, .inl (.inl hC2), by rw [zr]; exact atI_m1 _ _ _, _, rfl, u.1, v.1, t, u.2, v.2, x, rfl, hu, hv', hx2, by2 u (by simp), by2 v (by simp), bx x memx,
            _, _, rfl, rfl, _, rfl, ?_⟩
          rw [decide_eq_false cr]
          refine iteF ⟨_, rfl, .inl ⟨rfl, _, .inl (.inl hC2)⟩, _, rfl, C, _, _, rfl, rfl, hC2, few2, app (go c)⟩
        · exact ⟨_, rfl, .inl ⟨rfl, _, .inl (.inl hC2)⟩, _, rfl, C, _, _, rfl, rfl, hC2, few2, app (go c)⟩
    · rintro σ H' ⟨x2, rfl, s, zs, hC, ht, ez⟩
      rw [List.length_map, h2, List.take_length] at ez
      refine ⟨_, rfl, k H' C s ?_⟩
      rw [← ez]
      exact pts_of hC ht
end
end Cs

set_option maxRecDepth 100000
set_option maxHeartbeats 4000000
namespace Cs
open PySem PySem.Spec PyProof.Rows L2
section
variable {P : Program} {w : World} {K : PySem.W.Frag} {mg : Str → Option Value} {base : Heap}
theorem pts_rev {H : Hp} {a p : Addr} {zs : Zs} (h : H p = some (.lst (zref zs).reverse)) (ht : ∀ z ∈ zs, TupP H z.1 z.2) : Pts H p (zs.map (·.2)).reverse := by
  rw [← List.map_reverse]
  refine pts_of (zs := zs.reverse) ?_ fun z hz => ht z (List.mem_reverse.mp hz)
  rw [h]
  show _ = some (HO.lst (List.map _ _))
  rw [List.map_reverse]
theorem half_len (l : List Cf.Pt) : (Cf.half l).length ≤ l.length := by
  have := halfR_len l []
  unfold Cf.half Cf.halfR
  rw [List.length_reverse]
  simpa using this
/-! ## hull -/
theorem scHu : FnScope ["points", "ordered", "below", "above"] ["points"] (defScope (top 3)) := ⟨rfl, rfl, rfl, by decide +kernel, rfl, by decide +kernel, by decide +kernel⟩
def spHu : Sp := fun vs H Q _ => ∃ (a : Addr) (l : List Cf.Pt), vs = [.ref a] ∧ Pts H a l ∧ l.length ≤ 4200 ∧ (∀ p ∈ l, Bx p) ∧ ∀ H' p os, Same H H' → Cf.Asc os → (∀ c, c ∈ os ↔ c ∈ l) → H p = none → Pts H' p (Cf.hullC os) → Q (.ref p) H'
theorem ok_hu (D : Df K mg "hull" (top 3) ["points"]) (CH : Okd P w K mg base "half_round" 2 ["points"] spHr) (mS : mg "sorted" = none) (mT : mg "set" = none) (mL : mg "list" = none) (mR : mg "reversed" = none) : Okd P w K mg base "hull" 3 ["points"] spHu := by
  refine D.ok fun f fd F => F.ok scHu (fun vs H Q E h => ?_) (fun cdv A outer s H vs Q E hr h => ?_)
  · obtain ⟨a, l, rfl, _⟩ := h
    rfl
  · obtain ⟨a, l, rfl, hl, few, bx, k⟩ := h
    refine ⟨_, pss_cons (ps_set (i := 1) scHu.nd rfl (.inl rfl) (pe_callB (cr_sortP rfl) (by rfl) mS (by decide +kernel) (pa_cons (pe_callTy (cr_setP rfl hr.units) (by rfl) mT (by decide +kernel) (pa_cons (pv 0) pa_nil)) pa_nil)))
      (pss_cons (ps_set (i := 2) scHu.nd rfl (.inl rfl) (pe_cal CH hr (pa_cons (pv 1) pa_nil)))
      (pss_cons (ps_set (i := 3) scHu.nd rfl (.inl rfl) (pe_cal CH hr (pa_cons (pe_revLst rfl (by rfl) mL (by rfl) mR (pv 1)) pa_nil)))
      (pss_one (ps_ret (pe_op op_cat (pe_slice sl_list (pv 2) po_none (po_some (pe_un un_neg pe_int))) (pe_slice sl_list (pv 3) po_none (po_some (pe_un un_neg pe_int)))))))), ?_⟩
    obtain ⟨zs, h1, h2, e⟩ := hl.zs
    have lz : zs.length = l.length := by rw [← e, List.length_map]
    refine ⟨_, rfl, a, zs, rfl, h1, h2, by omega, fun b Z nb sub all nd => ?_⟩
    have s1 := new_same (o := SetP P w b Z) nb
    have nl : Z.length ≤ zs.length := by
      have := Cf.nodup_len (m := zs.map (·.2)) nd fun c hc => by
        obtain ⟨z, hz, ez⟩ := List.mem_map.mp hc
        rw [← ez]
        exact List.mem_map_of_mem (sub z hz)
      rw [List.length_map, List.length_map] at this
      exact this
    refine ⟨b, Z, rfl, upd_same, fun z hz => s1 _ _ (h2 z (sub z hz)), by omega, fun Y p perm asc np => ?_⟩
    have s2 := new_same (o := .lst (zref Y)) np
    have s12 := s1.trans s2
    have hY : ∀ z ∈ Y, TupP (upd (upd H b (SetP P w b Z)) p (.lst (zref Y))) z.1 z.2 := fun z hz => s12 _ _ (h2 z (sub z (perm.mem_iff.mp hz)))
    have mem : ∀ c, c ∈ Y.map (·.2) ↔ c ∈ l := fun c => by
      rw [← e]
      refine ⟨fun h => ?_, fun h => ?_⟩
      · obtain ⟨z, hz, ez⟩ := List.mem_map.mp h
        rw [← ez]
        exact List.mem_map_of_mem (sub z (perm.mem_iff.mp hz))
      · obtain ⟨z, hz, ez⟩ := List.mem_map.mp h
        have := all z hz
        rw [ez] at this
        obtain ⟨y, hy, ey⟩ := List.mem_map.mp this
        rw [← ey]
        exact List.mem_map_of_mem (perm.mem_iff.mpr hy)
    have ly : (Y.map (·.2)).length ≤ 4200 := by rw [List.length_map, perm.length_eq]; omega
    have bY : ∀ c ∈ Y.map (·.2), Bx c := fun c hc => bx c ((mem c).mp hc)
    refine ⟨_, rfl, p, _, rfl, pts_of upd_same hY, ly, bY, fun H3 q s3 hq => ?_⟩
    have hp3 := s3 _ _ (upd_same (H := upd H b (SetP P w b Z)) (a := p) (o := .lst (zref Y)))
    refine ⟨_, rfl, p, _, rfl, .inl (.inl hp3), fun r nr => ?_⟩
    have s4 := new_same (o := .lst (zref Y).reverse) nr
    refine ⟨r, _, rfl, pts_rev (a := r) upd_same fun z hz => s4 _ _ (s3 _ _ (hY z hz)), by rw [List.length_reverse]; exact ly, fun c hc => bY c (List.mem_reverse.mp hc), fun H5 t s5 ht => ?_⟩
    obtain ⟨us, hu1, hu2, hu3⟩ := Pts.zs (hq.keep mono_tup (s4.trans s5))
    obtain ⟨ws, hw1, hw2, hw3⟩ := ht.zs
    have l1 := half_len (Y.map (·.2))
    have l2 := half_len (Y.map (·.2)).reverse
    rw [List.length_reverse] at l2
    rw [← hu3, List.length_map] at l1
    rw [← hw3, List.length_map] at l2
    have s5' : Same H H5 := s12.trans (s3.trans (s4.trans s5))
    refine ⟨_, rfl, 1, rfl, _, rfl, q, _, rfl, .inl (.inl hu1), fun x nx => ?_⟩
    have s6 := new_same (o := .lst (cutV (zref us) none (some (-1)))) nx
    refine ⟨_, rfl, 1, rfl, _, rfl, t, _, rfl, .inl (.inl (s6 _ _ hw1)), fun y ny => ?_⟩
    have s7 := new_same (o := .lst (cutV (zref ws) none (some (-1)))) ny
    refine ⟨x, y, _, _, rfl, rfl, s7 _ _ upd_same, upd_same, ?_, fun v nv => ?_⟩
    · have := cutV_length (zref us) none (some (-1))
      have := cutV_length (zref ws) none (some (-1))
      have e1 : (zref us).length = us.length := List.length_map ..
      have e2 : (zref ws).length = ws.length := List.length_map ..
      exact Nat.le_trans (show _ ≤ 8400 by omega) (by decide)
    · have s8 := new_same (o := .lst (cutV (zref us) none (some (-1)) ++ cutV (zref ws) none (some (-1)))) nv
      have sA := s5'.trans (s6.trans (s7.trans s8))
      have nv0 : H v = none := (s5'.trans (s6.trans s7)).free nv
      refine k _ v (Y.map (·.2)) sA asc mem nv0 ?_
      have eq : Cf.hullC (Y.map (·.2)) = (us.dropLast ++ ws.dropLast).map (·.2) := by
        unfold Cf.hullC
        rw [← hu3, ← hw3, List.map_append, List.map_dropLast, List.map_dropLast]
      rw [eq]
      refine pts_of ?_ fun z hz => s8 _ _ (s7 _ _ (s6 _ _ ?_))
      · rw [upd_same, cut_last, cut_last]
        show _ = some (HO.lst (List.map _ _))
        rw [List.map_append, List.map_dropLast, List.map_dropLast]
      · rcases List.mem_append.mp hz with c | c
        · exact hu2 z ((List.dropLast_sublist _).subset c)
        · exact hw2 z ((List.dropLast_sublist _).subset c)
/-! ## put_together -/
theorem scPt : FnScope ["first", "second", "points", "x", "y", "u", "v"] ["first", "second"] (defScope (top 4)) := ⟨rfl, rfl, rfl, by decide +kernel, rfl, by decide +kernel, by decide +kernel⟩
def spPt : Sp := fun vs H Q _ => ∃ (a b : Addr) (l m : List Cf.Pt), vs = [.ref a, .ref b] ∧ Pts H a l ∧ Pts H b m ∧ (Rc60.sums l m).length ≤ 4200 ∧ m.length ≤ 4200 ∧ (∀ p ∈ Rc60.sums l m, Bx p) ∧
  ∀ H' p os, Same H H' → Cf.Asc os → (∀ c, c ∈ os ↔ c ∈ Rc60.sums l m) → H p = none → Pts H' p (Cf.hullC os) → Q (.ref p) H'
theorem sums_take {l m : List Cf.Pt} {i : Nat} {x : Cf.Pt} (h : l[i]? = some x) : Rc60.sums (l.take (i + 1)) m = Rc60.sums (l.take i) m ++ m.map fun q => (x.1 + q.1, x.2 + q.2) := by
  unfold Rc60.sums
  rw [List.take_add_one, h, List.flatMap_append]
  simp
theorem sums_le (l m : List Cf.Pt) (i : Nat) : (Rc60.sums (l.take i) m).length ≤ (Rc60.sums l m).length := by
  conv => rhs; rw [← List.take_append_drop i l]
  unfold Rc60.sums
  rw [List.flatMap_append, List.length_append]
  omega
theorem ok_pt (D : Df K mg "put_together" (top 4) ["first", "second"]) (CH : Okd P w K mg base "hull" 3 ["points"] spHu) : Okd P w K mg base "put_together" 4 ["first", "second"] spPt := by
  refine D.ok fun f fd F => F.ok scPt (fun vs H Q E h => ?_) (fun cdv A outer s H vs Q E hr h => ?_)
  · obtain ⟨a, b, l, m, rfl, _⟩ := h
    rfl
  · obtain ⟨a, b, l, m, rfl, hl, hm, few, fewm, bx, k⟩ := h
    refine ⟨_, pss_cons (ps_set (i := 2) scPt.nd rfl (.inl rfl) (pe_lst pa_nil))
      (pss_cons (ps_for PassesOwn.never rfl (pi_list (pv 0)) (pg_tup rfl (pgs_cons (pg_name (i := 3) scPt.nd rfl (.inr rfl)) (pgs_cons (pg_name (i := 4) scPt.nd rfl (.inr rfl)) pgs_nil)))
        (pss_one (ps_expr (pe_bm PySem.F.plainAttrs_list PySem.F.slot_list_extend PySem.F.type_list_extend mt_extend (pv 2) (pa_cons
          (pe_lc (own := [("u", 5), ("v", 6)]) (g := gTup K 2 (gCons (gName 5) (gCons (gName 6) gNil))) (tt := tYes) rfl scPt.nd (pi_list (pv 1)) (blkOk_by (N := ["first", "second", "points", "x", "y", "u", "v"]) (sc := defScope (top 4)) (by decide +kernel))
            (fun _ _ _ _ _ => pg_tup rfl (pgs_cons (pg_name (i := 5) scPt.nd rfl (Or.inl rfl)) (pgs_cons (pg_name (i := 6) scPt.nd rfl (Or.inl rfl)) pgs_nil))) (fun _ _ _ _ _ => pts_nil)
            (fun _ _ _ _ _ => pe_tup (pa_cons (pe_op op_add (pv 3) (pv 5)) (pa_cons (pe_op op_add (pv 4) (pv 6)) pa_nil)))) pa_nil)))))
      (pss_one (ps_ret (pe_cal CH hr (pa_cons (pv 2) pa_nil))))), ?_⟩
    refine ⟨Nat.zero_le _, fun C nC => ?_⟩
    have s0 := new_same (o := .lst []) nC
    obtain ⟨ts, h1, h2, h3⟩ := hl
    obtain ⟨us, g1, g2, g3⟩ := hm
    refine ⟨_, rfl, a, rfl, ⟨_, .inl (.inl (s0 _ _ h1))⟩, for_list (xs := ts.map V.ref) (fun i σ H' => ∃ x3 x4, σ = [some (.ref a), some (.ref b), some (.ref C), x3, x4, none, none] ∧ Same H H' ∧ ∃ zs : Zs, H' C = some (.lst (zref zs)) ∧ (∀ z ∈ zs, TupP H' z.1 z.2) ∧ zs.map (·.2) = Rc60.sums (l.take i) m)
      ⟨none, none, rfl, s0, [], upd_same, fun z h => (by cases h), rfl⟩ (fun i σ H' _ ⟨x3, x4, _, s, _⟩ => .inl (.inl (s _ _ h1))) ?_ ?_⟩
    · rintro i v σ H' hv ⟨x3, x4, rfl, s, zs, hC, ht, ez⟩
      obtain ⟨t, x, q1, q2, rfl⟩ := objs_at h2 hv
      have hx : TupP H' t x := s _ _ (h3 i t x q1 q2)
      have lz : zs.length + m.length ≤ 4200 := by
        have e := congrArg List.length ez
        have e2 := congrArg List.length (sums_take (m := m) q2)
        have e3 := sums_le l m (i + 1)
        rw [List.length_append, List.length_map] at e2
        rw [List.length_map] at e
        omega
      refine un2 hx ⟨_, rfl, .inl ⟨rfl, _, .inl (.inl hC)⟩, _, rfl, b, rfl, ⟨_, .inl (.inl (s _ _ g1))⟩, fun Dd nD => ?_⟩
      refine lc_pts (f := fun q => (x.1 + q.1, x.2 + q.2)) mono_tup nD (s _ _ g1) g2 (fun i t x a b => s _ _ (g3 i t x a b)) (Nat.le_trans fewm (by decide)) (fun t2 y H2 Q2 hy s2 ht2 k2 => ?_) fun H2 s2 hD => ?_
      · refine un2 ht2 ⟨rfl, _, rfl, _, rfl, _, _, rfl, rfl, _, rfl, _, rfl, _, _, rfl, rfl, (by show 2 ≤ sizeLine; decide), fun p hp => k2 _ p (new_same hp) upd_same⟩
      · obtain ⟨ws, w1, w2, w3⟩ := hD.zs
        have hC2 := s2 _ _ hC
        refine ⟨C, Dd, _, _, rfl, rfl, hC2, w1, ?_, ?_⟩
        · have e1 : (zref zs).length = zs.length := List.length_map ..
          have e2 : (zref ws).length = ws.length := List.length_map ..
          have e3 := congrArg List.length w3
          rw [List.length_map, List.length_map] at e3
          exact Nat.le_trans (show _ ≤ 4200 by omega) (by decide)
        · refine ⟨_, _, rfl, fun b o q => ?_, zs ++ ws, ?_, fun z hz => ?_, ?_⟩
          · rw [upd_ne (ne_of_none q nC)]
            exact s2 _ _ (s _ _ q)
          · rw [upd_same]
            show _ = some (HO.lst (List.map _ _))
            rw [List.map_append]
          · have hz' : TupP H2 z.1 z.2 := by
              rcases List.mem_append.mp hz with c | c
              · exact s2 _ _ (ht z c)
              · exact w2 z c
            refine (upd_ne (fun c => ?_)).trans hz'
            rw [c] at hz'
            have := hC2.symm.trans hz'
            cases this
          · rw [List.map_append, ez, w3, sums_take q2]
    · rintro σ H' ⟨x3, x4, rfl, s, zs, hC, ht, ez⟩
      rw [List.length_map, h2, List.take_length] at ez
      refine ⟨_, rfl, C, _, rfl, by rw [← ez]; exact pts_of hC ht, few, bx, fun H2 p os s2 asc mem np hp => k H2 p os (s.trans s2) asc mem (s.free np) hp⟩
/-! ## dual -/
theorem scDu : FnScope ["figure", "along", "start", "end", "right", "up"] ["figure"] (defScope (top 16)) := ⟨rfl, rfl, rfl, by decide +kernel, rfl, by decide +kernel, by decide +kernel⟩
def spDu : Sp := fun vs H Q _ => ∃ (a : Addr) (l : List Cf.Pt), vs = [.ref a] ∧ Pts H a l ∧ l.length ≤ 4200 ∧ (∀ p ∈ l, Bx p) ∧ Cf.Fig l ∧ (∀ p ∈ Rc60.duals l, Bx p) ∧
  ∀ H' p os, Same H H' → Cf.Asc os → (∀ c, c ∈ os ↔ c ∈ Rc60.duals l) → H p = none → Pts H' p (Cf.hullC os) → Q (.ref p) H'
theorem ok_du (D : Df K mg "dual" (top 16) ["figure"]) (CE : Okd P w K mg base "edges" 1 ["figure"] spEd) (CO : Okd P w K mg base "one_step" 3 ["start", "end"] spOs) (CH : Okd P w K mg base "hull" 3 ["points"] spHu) : Okd P w K mg base "dual" 4 ["figure"] spDu := by
  refine D.ok fun f fd F => F.ok scDu (fun vs H Q E h => ?_) (fun cdv A outer s H vs Q E hr h => ?_)
  · obtain ⟨a, l, rfl, _⟩ := h
    rfl
  · obtain ⟨a, l, rfl, hl, few, bx, fg, bd, k⟩ := h
    refine ⟨_, pss_cons (ps_setLc (i := 1) (own := [("start", 2), ("end", 3)]) (g := gTup K 2 (gCons (gName 2) (gCons (gName 3) gNil))) (tt := tYes) (by rfl) scDu.nd rfl rfl (sw_true rfl rfl rfl (by decide +kernel)) (pi_list (pe_cal CE (hr.mono (by decide)) (pa_cons (pv 0) pa_nil))) (blkOk_by (N := ["figure", "along", "start", "end", "right", "up"]) (sc := defScope (top 16)) (by decide +kernel))
          (fun _ _ _ _ _ => pg_tup rfl (pgs_cons (pg_name (i := 2) scDu.nd rfl (Or.inl rfl)) (pgs_cons (pg_name (i := 3) scDu.nd rfl (Or.inl rfl)) pgs_nil))) (fun _ _ _ _ _ => pts_nil)
          (fun _ _ _ _ _ => pe_cal CO hr (pa_cons (pv 2) (pa_cons (pv 3) pa_nil))))
      (pss_one (ps_ret (pe_cal CH hr (pa_cons
        (pe_lc (own := [("right", 4), ("up", 5)]) (g := gTup K 2 (gCons (gName 4) (gCons (gName 5) gNil))) (tt := tYes) rfl scDu.nd (pi_list (pv 1)) (blkOk_by (N := ["figure", "along", "start", "end", "right", "up"]) (sc := defScope (top 16)) (by decide +kernel))
          (fun _ _ _ _ _ => pg_tup rfl (pgs_cons (pg_name (i := 4) scDu.nd rfl (Or.inl rfl)) (pgs_cons (pg_name (i := 5) scDu.nd rfl (Or.inl rfl)) pgs_nil))) (fun _ _ _ _ _ => pts_nil)
          (fun _ _ _ _ _ => pe_tup (pa_cons (pe_un un_neg (pv 5)) (pa_cons (pv 4) pa_nil)))) pa_nil)))), ?_⟩
    have le := edges_le l
    refine ⟨_, rfl, a, l, rfl, hl, few, fun H1 p s1 ⟨ts, h1, h2, h3⟩ => ⟨p, rfl, ⟨_, .inl (.inl h1)⟩, fun Dd nD => ?_⟩⟩
    refine lc_pts (f := fun e => (Cf.sx e, Cf.sy e)) mono_edg nD h1 h2 h3 (Nat.le_trans (Nat.le_trans le few) (by decide)) (fun t x H' Q' hx s' ht k' => ?_) fun H' s' hD => ?_
    · obtain ⟨m1, m2⟩ := edge_in hx
      obtain ⟨u, v, g1, g2, g3⟩ := ht
      exact unE g1 ⟨rfl, _, rfl, _, rfl, _, _, x, rfl, g2, g3, ⟨bx _ m1, bx _ m2⟩, Cf.gI_pos fg hx, k'⟩
    · obtain ⟨us, q1, q2, q3⟩ := hD
      refine ⟨_, rfl, Dd, rfl, ⟨_, .inl (.inl q1)⟩, fun Ee nE => ?_⟩
      refine lc_pts (f := fun q => (-q.2, q.1)) mono_tup nE q1 q2 q3 (by rw [List.length_map]; exact Nat.le_trans (Nat.le_trans le few) (by decide)) (fun t x H2 Q2 hx s2 ht k2 => ?_) fun H2 s2 hE => ?_
      · exact un2 ht ⟨rfl, _, rfl, _, rfl, _, rfl, (by show 2 ≤ sizeLine; decide), fun p hp => k2 _ p (new_same hp) upd_same⟩
      · have e : ((Rc60.edges l).map fun e => (Cf.sx e, Cf.sy e)).map (fun q => (-q.2, q.1)) = Rc60.duals l := by rw [Cf.duals_eq, List.map_map]; rfl
        rw [e] at hE
        have ld : (Rc60.duals l).length ≤ 4200 := by rw [Cf.duals_eq, List.length_map]; omega
        exact ⟨Ee, _, rfl, hE, ld, bd, fun H3 p os s3 asc mem np hp => k H3 p os (s1.trans (s'.trans (s2.trans s3))) asc mem ((s1.trans (s'.trans s2)).free np) hp⟩
end
end Cs

set_option maxRecDepth 100000
set_option maxHeartbeats 4000000
namespace Cs
open PySem PySem.Spec PyProof.Rows L2
/-! ## a dict with points as keys -/
def kP (p : Cf.Pt) : List Key := [.inl p.1, .inl p.2]
def kD (d : Cf.Dic) : List (List Key × V) := d.map fun e => (kP e.1, .int e.2)
theorem kP_inj {p q : Cf.Pt} (h : kP p = kP q) : p = q := by
  unfold kP at h
  simp only [List.cons.injEq, Sum.inl.injEq, and_true] at h
  exact Prod.ext h.1 h.2
theorem kP_dec (p q : Cf.Pt) : decide (kP p = kP q) = decide (p = q) := decide_eq_decide.mpr ⟨kP_inj, fun h => by rw [h]⟩
theorem kD_find (d : Cf.Dic) (k : Cf.Pt) : valV (kD d) (kP k) = (d.find? fun e => decide (e.1 = k)).map fun e => V.int e.2 := by
  unfold valV kD
  induction d with
  | nil => rfl
  | cons e r ih =>
    rw [List.map_cons, List.find?_cons, List.find?_cons, kP_dec]
    cases decide (e.1 = k) with
    | true => rfl
    | false => exact ih
theorem kD_look (d : Cf.Dic) (k : Cf.Pt) : (valV (kD d) (kP k)).getD (.int 0) = .int (Cf.look d k) := by
  rw [kD_find]
  unfold Cf.look
  cases d.find? fun e => decide (e.1 = k) <;> rfl
theorem map_same {d : Cf.Dic} {k : Cf.Pt} {y : V} (h : k ∉ d.map (·.1)) : (kD d).map (fun kv => if kv.1 = kP k then (kv.1, y) else kv) = kD d := by
  unfold kD
  rw [List.map_map]
  refine List.map_congr_left fun e he => ?_
  have : ¬ kP e.1 = kP k := fun q => h (by rw [← kP_inj q]; exact List.mem_map_of_mem he)
  show (if kP e.1 = kP k then _ else _) = _
  rw [if_neg this]
theorem any_kD (d : Cf.Dic) (k : Cf.Pt) : (kD d).any (fun kv => decide (kv.1 = kP k)) = decide (k ∈ d.map (·.1)) := by
  rw [Bool.eq_iff_iff]
  simp only [kD, List.any_map, List.any_eq_true, Function.comp, decide_eq_true_eq, List.mem_map]
  refine ⟨fun ⟨e, he, q⟩ => ⟨e, he, kP_inj q⟩, fun ⟨e, he, q⟩ => ⟨e, he, by rw [q]⟩⟩
theorem kD_add (k : Cf.Pt) (n : Int) : ∀ d : Cf.Dic, (d.map (·.1)).Nodup → putK (kD d) (kP k) (.int (Cf.look d k + n)) = kD (Cf.addK d k n)
  | [], _ => rfl
  | (a, v) :: r, nd => by
    rw [List.map_cons, List.nodup_cons] at nd
    by_cases c : a = k
    · subst c
      unfold putK
      have hl : Cf.look ((a, v) :: r) a = v := by simp [Cf.look]
      rw [any_kD, if_pos (by simp), hl]
      show (if kP a = kP a then (kP a, V.int (v + n)) else _) :: (kD r).map _ = kD (if a = a then (a, v + n) :: r else _)
      rw [if_pos rfl, if_pos rfl, map_same nd.1]
      rfl
    · have ih := kD_add k n r nd.2
      have hl : Cf.look ((a, v) :: r) k = Cf.look r k := by simp [Cf.look, c]
      have nk : ¬ kP a = kP k := fun q => c (kP_inj q)
      rw [hl]
      unfold putK at ih ⊢
      rw [any_kD] at ih ⊢
      have e : decide (k ∈ ((a, v) :: r).map (·.1)) = decide (k ∈ r.map (·.1)) := decide_eq_decide.mpr (by
        rw [List.map_cons, List.mem_cons]
        exact ⟨fun h => h.resolve_left (fun q => c q.symm), .inr⟩)
      rw [e]
      show _ = kD (if a = k then _ else (a, v) :: Cf.addK r k n)
      rw [if_neg c]
      by_cases m : k ∈ r.map (·.1)
      · rw [if_pos (decide_eq_true m)] at ih ⊢
        show (if kP a = kP k then _ else (kP a, V.int v)) :: (kD r).map _ = (kP a, V.int v) :: kD (Cf.addK r k n)
        rw [if_neg nk, ih]
      · have m' : ¬ decide (k ∈ r.map (·.1)) = true := fun q => m (of_decide_eq_true q)
        rw [if_neg m'] at ih ⊢
        show (kP a, V.int v) :: (kD r ++ _) = (kP a, V.int v) :: kD (Cf.addK r k n)
        rw [ih]
/-! ## walks over its items -/
section
variable {d : Addr} {od : Obj} {kvs : List (List Key × V)}
theorem for_itT {g : TG} {tb : TS} {D : Ends} {σ : L2.St} {H : Hp} (Pv : Nat → L2.St → Hp → Prop) (h0 : Pv 0 σ H) (hl : ∀ i σ H, Pv i σ H → H d = some (.frz od (.dT kvs)))
    (hs : ∀ i k v q T σ H, kvs[i]? = some (k, v) → Pv i σ H → H q = some (.tup (k.map kV)) → H T = none → g (.ref T) σ (upd H T (.tup [.ref q, v])) fun σ2 H2 => tb { D with nx := Pv (i + 1), ct := Pv (i + 1), bk := D.nx } σ2 H2)
    (hd : ∀ σ H, Pv kvs.length σ H → D.nx σ H) :
    ∃ W : Nat → Nat → L2.St → Hp → Prop, (∃ m, W 0 m σ H) ∧ ∀ i m σ H, W i m σ H →
      ((ItiT d od kvs).stop i H ∧ D.nx σ H) ∨ ((ItiT d od kvs).go i H ∧ ∃ N : L2.St → Hp → Prop, (∀ σ' H', N σ' H' → ∃ m', m' < m ∧ W (i + 1) m' σ' H') ∧ ∀ x H', (ItiT d od kvs).yld i H x H' → g x σ H' fun σ2 H2 => tb { D with nx := N, ct := N, bk := D.nx } σ2 H2) := by
  refine ⟨fun i m σ H => m = kvs.length - i ∧ i ≤ kvs.length ∧ Pv i σ H, ⟨_, rfl, Nat.zero_le _, h0⟩, ?_⟩
  rintro i m σ H ⟨rfl, hi, p⟩
  by_cases hlt : i < kvs.length
  · refine .inr ⟨⟨hl _ _ _ p, hlt⟩, Pv (i + 1), fun σ' H' p' => ⟨kvs.length - (i + 1), by omega, rfl, hlt, p'⟩, fun x H' y => ?_⟩
    obtain ⟨T, q, k, v, e1, rfl, e2, e3, rfl⟩ := y
    exact hs i k v q T σ H e1 p e2 e3
  · have e : i = kvs.length := by omega
    subst e
    exact .inl ⟨⟨hl _ _ _ p, Nat.le_refl _⟩, hd _ _ p⟩
theorem lc_itT {g : TG} {te : TE} {vs : List Nat} {σ : L2.St} {H1 : Hp} {D : Addr} {Qd : Hp → Prop} (Pv : Nat → Hp → Prop) (h0 : Pv 0 (upd H1 D (.lst []))) (hl : ∀ i H, Pv i H → H d = some (.frz od (.dT kvs)))
    (hs : ∀ i k v q T H, kvs[i]? = some (k, v) → Pv i H → H q = some (.tup (k.map kV)) → H T = none → g (.ref T) (wipe σ vs) (upd H T (.tup [.ref q, v])) fun σ2 H2 => wipe σ2 vs = wipe σ vs ∧
      te σ2 H2 fun y H4 => ∃ acc, H4 D = some (.lst acc) ∧ acc.length < sizeLine ∧ Pv (i + 1) (upd H4 D (.lst (acc ++ [y])))) (hd : ∀ H, Pv kvs.length H → Qd H) :
    ∃ W : Nat → Nat → Hp → Prop, (∃ m, W 0 m (upd H1 D (.lst []))) ∧ ∀ i m H, W i m H →
      ((ItiT d od kvs).stop i H ∧ Qd H) ∨ ((ItiT d od kvs).go i H ∧ ∃ Nx : Hp → Prop, (∀ H', Nx H' → ∃ m', m' < m ∧ W (i + 1) m' H') ∧ ∀ x H', (ItiT d od kvs).yld i H x H' → g x (wipe σ vs) H' fun σ2 H2 => wipe σ2 vs = wipe σ vs ∧ tYes σ2 H2 fun b H3 =>
        if b = true then te σ2 H3 fun y H4 => ∃ acc, H4 D = some (.lst acc) ∧ acc.length < sizeLine ∧ Nx (upd H4 D (.lst (acc ++ [y]))) else Nx H3) := by
  refine ⟨fun i m H => m = kvs.length - i ∧ i ≤ kvs.length ∧ Pv i H, ⟨_, rfl, Nat.zero_le _, h0⟩, ?_⟩
  rintro i m H ⟨rfl, hi, p⟩
  by_cases hlt : i < kvs.length
  · refine .inr ⟨⟨hl _ _ p, hlt⟩, Pv (i + 1), fun H' p' => ⟨kvs.length - (i + 1), by omega, rfl, hlt, p'⟩, fun x H' y => ?_⟩
    obtain ⟨T, q, k, v, e1, rfl, e2, e3, rfl⟩ := y
    exact hs i k v q T H e1 p e2 e3
  · have e : i = kvs.length := by omega
    subst e
    exact .inl ⟨⟨hl _ _ p, Nat.le_refl _⟩, hd _ p⟩
end
section
variable {P : Program} {w : World} {K : PySem.W.Frag} {mg : Str → Option Value} {base : Heap}
/-! ## with_edge -/
abbrev nWe : List Str := ["ways", "start", "end", "count", "step", "more", "reached", "number", "chosen", "point"]
theorem scWe : FnScope ["ways", "start", "end", "count", "step", "more", "reached", "number", "chosen", "point"] ["ways", "start", "end"] (defScope (top 18)) := ⟨rfl, rfl, rfl, by decide +kernel, rfl, by decide +kernel, by decide +kernel⟩
abbrev gN (e : Cf.Pt × Cf.Pt) : Nat := Int.gcd (e.2.1 - e.1.1) (e.2.2 - e.1.2)
abbrev xE (e : Cf.Pt × Cf.Pt) : Cf.Pt × Nat := ((Cf.sx e, Cf.sy e), gN e)
def spWe : Sp := fun vs H Q _ => ∃ (d a b : Addr) (dd : Cf.Dic) (e : Cf.Pt × Cf.Pt), vs = [.ref d, .ref a, .ref b] ∧ H d = some (.dT (kD dd)) ∧ TupP H a e.1 ∧ TupP H b e.2 ∧ Eb e ∧ 0 < Cf.gI e ∧ dd.length * (gN e + 1) ≤ 8388608 ∧
  ∀ H' p, Same H H' → H p = none → H' p = some (.dT (kD (Cf.withE dd (xE e)))) → Q (.ref p) H'
theorem row_take {d : Cf.Dic} {i : Nat} {x : Cf.Pt × Int} (s : Cf.Pt) (g : Nat) (h : d[i]? = some x) : (d.take (i + 1)).foldl (Cf.rowD s g) [] = Cf.rowD s g ((d.take i).foldl (Cf.rowD s g) []) x := by
  rw [List.take_add_one, h, List.foldl_append]
  rfl
theorem fold_nodup (s : Cf.Pt) (g : Nat) (l : Cf.Dic) : ((l.foldl (Cf.rowD s g) []).map (·.1)).Nodup :=
  Cf.foldl_inv (P := fun m => (m.map (·.1)).Nodup) (fun m e h => Cf.row_nodup s g m e h) l [] List.nodup_nil
theorem turn_nodup (p : Cf.Pt) (n : Int) (s : Cf.Pt) (L : List Nat) (m : Cf.Dic) (h : (m.map (·.1)).Nodup) : ((L.foldl (Cf.turnD p n s) m).map (·.1)).Nodup :=
  Cf.foldl_inv (P := fun m => (m.map (·.1)).Nodup) (fun m k h => Cf.add_nodup _ _ m h) L m h
theorem ok_we (D : Df K mg "with_edge" (top 18) ["ways", "start", "end"]) (CS : Okd P w K mg base "steps" 2 ["start", "end"] spSt) (CO : Okd P w K mg base "one_step" 3 ["start", "end"] spOs) (mR : mg "range" = none) : Okd P w K mg base "with_edge" 4 ["ways", "start", "end"] spWe := by
  refine D.ok fun f fd F => F.ok scWe (fun vs H Q E h => ?_) (fun cdv A outer s H vs Q E hr h => ?_)
  · obtain ⟨d, a, b, dd, e, rfl, _⟩ := h
    rfl
  · obtain ⟨d, a, b, dd, e, rfl, hd, ha, hb, he, hg, few, k⟩ := h
    refine ⟨_, pss_cons (ps_set (i := 3) scWe.nd rfl (.inl rfl) (pe_cal CS (hr.mono (by decide)) (pa_cons (pv 1) (pa_cons (pv 2) pa_nil))))
      (pss_cons (ps_set (i := 4) scWe.nd rfl (.inl rfl) (pe_cal CO hr (pa_cons (pv 1) (pa_cons (pv 2) pa_nil))))
      (pss_cons (ps_set (i := 5) scWe.nd rfl (.inl rfl) pe_dnewT)
      (pss_cons (ps_lock (ps_for PassesOwn.never rfl (pi_itemsT (pv 0)) (pg_tup rfl (pgs_cons (pg_name (i := 6) scWe.nd rfl (.inl rfl)) (pgs_cons (pg_name (i := 7) scWe.nd rfl (.inl rfl)) pgs_nil)))
        (pss_one (ps_for PassesOwn.never rfl (pi_range1 (by rfl) mR (pa_cons (pe_op op_add (pv 3) pe_int) pa_nil)) (pg_name (i := 8) scWe.nd rfl (.inl rfl))
          (pss_cons (ps_set (i := 9) scWe.nd rfl (.inl rfl) (pe_tup (pa_cons (pe_op op_add (ti (pv 6)) (pe_op op_mul (pv 8) (ti (pv 4)))) (pa_cons (pe_op op_add (ti (pv 6)) (pe_op op_mul (pv 8) (ti (pv 4)))) pa_nil))))
          (pss_one (ps_dput (hu_of hr) (pv 5) (pv 9) (pe_op op_add (pe_dget2 (hu_of hr) (pv 5) (pv 9) pe_int (by exact ⟨rfl, rfl, rfl, rfl⟩)) (pv 7)) rfl)))))))
      (pss_one (ps_ret (pv 5)))))), ?_⟩
    have gl := gI_le he hg
    have gn : (gN e : Int) = Cf.gI e := rfl
    refine ⟨_, rfl, _, rfl, a, b, e, rfl, ha, hb, _, rfl, _, rfl, a, b, e, rfl, ha, hb, he, hg, fun H1 st s1 hst => ?_⟩
    intro m nm
    have s2 := new_same (o := .dT []) nm
    have hd2 := s2 _ _ (s1 _ _ hd)
    have dm : d ≠ m := ne_of_none (s1 _ _ hd) nm
    refine ⟨d, _, hd2, trivial, fun od => ?_⟩
    -- the heap under the lock
    obtain ⟨Hl, hHl⟩ : ∃ Hl, Hl = upd (upd H1 m (.dT [])) d (.frz od (.dT (kD dd))) := ⟨_, rfl⟩
    rw [← hHl]
    have ld : Hl d = some (.frz od (.dT (kD dd))) := by rw [hHl, upd_same]
    have lm : Hl m = some (.dT []) := by rw [hHl, upd_ne dm.symm, upd_same]
    have lo : ∀ b o, b ≠ d → b ≠ m → H1 b = some o → Hl b = some o := fun b o h1 h2 q => by rw [hHl, upd_ne h1, upd_ne h2]; exact q
    have std : st ≠ d := fun c => by
      rw [c] at hst
      have := (s1 _ _ hd).symm.trans hst
      cases this
    have lst : TupP Hl st (Cf.sx e, Cf.sy e) := lo _ _ std (ne_of_none hst nm) hst
    obtain ⟨S, hS⟩ : ∃ S : Cf.Pt, S = (Cf.sx e, Cf.sy e) := ⟨_, rfl⟩
    obtain ⟨g, hg0⟩ : ∃ g : Nat, g = gN e := ⟨_, rfl⟩
    rw [← hS] at lst
    refine ⟨_, rfl, d, od, _, rfl, ld, for_itT (fun i σ H' => ∃ x6 x7 x8 x9, σ = [some (.ref d), some (.ref a), some (.ref b), some (.int (Cf.gI e)), some (.ref st), some (.ref m), x6, x7, x8, x9] ∧ (∀ b o, b ≠ m → Hl b = some o → H' b = some o) ∧ H' m = some (.dT (kD ((dd.take i).foldl (Cf.rowD S g) []))))
      ⟨none, none, none, none, rfl, fun b o _ q => q, lm⟩ (fun i σ H' ⟨_, _, _, _, _, q, _⟩ => q _ _ dm ld) ?_ ?_⟩
    · rintro i kk v q T σ H' hkv ⟨x6, x7, x8, x9, rfl, kp, hm⟩ hq nT
      have hx : ∃ x, dd[i]? = some x ∧ kk = kP x.1 ∧ v = .int x.2 := by
        unfold kD at hkv
        rw [List.getElem?_map] at hkv
        cases c : dd[i]? with
        | none => rw [c] at hkv; cases hkv
        | some x => rw [c] at hkv; cases hkv; exact ⟨x, rfl, rfl, rfl⟩
      obtain ⟨x, hx, rfl, rfl⟩ := hx
      obtain ⟨M, hM⟩ : ∃ M, M = (dd.take i).foldl (Cf.rowD S g) [] := ⟨_, rfl⟩
      rw [← hM] at hm
      have ndM : (M.map (·.1)).Nodup := by rw [hM]; exact fold_nodup _ _ _
      have lM : M.length ≤ i * (g + 1) := by
        have := Cf.rows_len S g (dd.take i) []
        rw [← hM, List.length_take] at this
        simp only [List.length_nil, Nat.zero_add] at this
        exact Nat.le_trans this (Nat.mul_le_mul_right _ (Nat.min_le_left _ _))
      have hi := (List.getElem?_eq_some_iff.mp hx).1
      have lM2 : M.length + (g + 1) ≤ 8388608 := by
        have : (i + 1) * (g + 1) ≤ dd.length * (g + 1) := Nat.mul_le_mul_right _ hi
        rw [Nat.succ_mul] at this
        rw [hg0] at this lM ⊢
        omega
      have sT := new_same (o := .tup [.ref q, .int x.2]) nT
      refine ⟨T, _, rfl, .inl (.inl upd_same), rfl, _, _, rfl, _, _, rfl, rfl, ?_⟩
      have hqT := sT _ _ hq
      have hmT := sT _ _ hm
      obtain ⟨Hi, hHi⟩ : ∃ Hi, Hi = upd H' T (.tup [.ref q, .int x.2]) := ⟨_, rfl⟩
      rw [← hHi] at hqT hmT sT ⊢
      have hst' : TupP Hi st S := sT _ _ (kp _ _ (ne_of_none hst nm) lst)
      refine ⟨_, rfl, _, _, rfl, rfl, _, rfl, by omega, by omega, ?_⟩
      have eN : (Cf.gI e + 1).toNat = g + 1 := by rw [hg0]; omega
      rw [eN]
      refine for_range (fun j σ H2 => ∃ x8 x9, σ = [some (.ref d), some (.ref a), some (.ref b), some (.int (Cf.gI e)), some (.ref st), some (.ref m), some (.ref q), some (.int x.2), x8, x9] ∧ (∀ b o, b ≠ m → Hi b = some o → H2 b = some o) ∧ H2 m = some (.dT (kD ((List.range j).foldl (Cf.turnD x.1 x.2 S) M))))
        ⟨x8, x9, rfl, fun b o _ q => q, hmT⟩ ?_ ?_
      · rintro j σ H2 hj ⟨y8, y9, rfl, kp2, hm2⟩
        have hqm : q ≠ m := fun c => by
          rw [c, hm] at hq
          cases hq
        have hq2 : TupP H2 q x.1 := kp2 _ _ hqm hqT
        have hst2 : TupP H2 st S := kp2 _ _ (ne_of_none hst nm) hst'
        obtain ⟨N, hN⟩ : ∃ N, N = (List.range j).foldl (Cf.turnD x.1 x.2 S) M := ⟨_, rfl⟩
        rw [← hN] at hm2
        have ndN : (N.map (·.1)).Nodup := by rw [hN]; exact turn_nodup _ _ _ _ _ ndM
        have lN : N.length ≤ M.length + j := by
          have := Cf.turns_len x.1 x.2 S (List.range j) M
          rw [List.length_range, ← hN] at this
          exact this
        have jb : (-(2 ^ 64) < (0 + (j : Int)) ∧ (0 + (j : Int)) < 2 ^ 64) := by
          rw [hg0] at hj
          omega
        refine it0 rfl hq2 ⟨_, rfl, it0 rfl hst2 ⟨_, _, rfl, rfl, .inl jb, _, _, rfl, rfl, it1 rfl hq2 ⟨_, rfl, it1 rfl hst2 ⟨_, _, rfl, rfl, .inl jb, _, _, rfl, rfl, (by show 2 ≤ sizeLine; decide), fun p np => ?_⟩⟩⟩⟩
        have sp := new_same (o := .tup [.int (x.1.1 + (0 + (j : Int)) * S.1), .int (x.1.2 + (0 + (j : Int)) * S.2)]) np
        have pm : m ≠ p := ne_of_none hm2 np
        have hm3 := sp _ _ hm2
        have hp3 : upd H2 p (.tup [.int (x.1.1 + (0 + (j : Int)) * S.1), .int (x.1.2 + (0 + (j : Int)) * S.2)]) p = some (.tup ((kP (x.1.1 + (0 + (j : Int)) * S.1, x.1.2 + (0 + (j : Int)) * S.2)).map kV)) := upd_same
        refine ⟨_, rfl, m, rfl, .inr ⟨_, .inl hm3⟩, _, rfl, _, DGet.t hm3 hp3, ?_⟩
        rw [kD_look]
        refine ⟨_, rfl, _, _, rfl, rfl, _, rfl, _, rfl, m, _, rfl, DPut.t hm3 hp3 ?_, ?_⟩
        · unfold kD
          rw [List.length_map]
          exact Nat.lt_of_le_of_lt (show N.length ≤ 8388608 by omega) (by decide)
        · refine ⟨_, _, rfl, fun b o hb qb => ?_, ?_⟩
          · rw [upd_ne hb]
            exact sp _ _ (kp2 _ _ hb qb)
          · rw [upd_same, kD_add _ _ _ ndN, List.range_succ, List.foldl_append, ← hN]
            show _ = some (HO.dT (kD (Cf.addK N (x.1.1 + (j : Int) * S.1, x.1.2 + (j : Int) * S.2) x.2)))
            rw [Int.zero_add]
      · rintro σ H2 ⟨y8, y9, rfl, kp2, hm2⟩
        refine ⟨_, _, _, _, rfl, fun b o hb qb => kp2 _ _ hb (sT _ _ (kp _ _ hb qb)), ?_⟩
        rw [hm2, row_take S g hx, ← hM]
        rfl
    · rintro σ H' ⟨x6, x7, x8, x9, rfl, kp, hm⟩
      have ln : (kD dd).length = dd.length := List.length_map ..
      rw [ln, List.take_length] at hm
      refine ⟨kp _ _ dm ld, _, rfl, ?_⟩
      refine k _ m (fun b o qb => ?_) (s1.free nm) ?_
      · by_cases c : b = d
        · subst c
          rw [upd_same]
          exact hd.symm.trans qb
        · rw [upd_ne c]
          have bm : b ≠ m := ne_of_none (s1 _ _ qb) nm
          exact kp _ _ bm (lo _ _ c bm (s1 _ _ qb))
      · rw [upd_ne dm.symm, hm, hS, hg0]
        rfl
end
end Cs

set_option maxRecDepth 100000
set_option maxHeartbeats 4000000
namespace Cs
open PySem PySem.Spec PyProof.Rows L2
/-! ## how great its numbers may be -/
theorem add_nn {n : Int} (hn : 0 ≤ n) (k : Cf.Pt) : ∀ d : Cf.Dic, (∀ e ∈ d, 0 ≤ e.2) → ∀ e ∈ Cf.addK d k n, 0 ≤ e.2
  | [], _, e, h => by
    have : e = (k, 0 + n) := List.mem_singleton.mp h
    rw [this]
    show 0 ≤ 0 + n
    omega
  | (a, v) :: r, hd, e, h => by
    unfold Cf.addK at h
    split at h
    · rcases List.mem_cons.mp h with c | c
      · rw [c]
        have := hd (a, v) (by simp)
        simp only at this ⊢
        omega
      · exact hd e (List.mem_cons_of_mem _ c)
    · rcases List.mem_cons.mp h with c | c
      · rw [c]; exact hd (a, v) (by simp)
      · exact add_nn hn k r (fun x hx => hd x (List.mem_cons_of_mem _ hx)) e c
theorem with_nn (d : Cf.Dic) (x : Cf.Pt × Nat) (h : ∀ e ∈ d, 0 ≤ e.2) : ∀ e ∈ Cf.withE d x, 0 ≤ e.2 := by
  unfold Cf.withE
  have go : ∀ (l m : Cf.Dic), (∀ e ∈ l, 0 ≤ e.2) → (∀ e ∈ m, 0 ≤ e.2) → ∀ e ∈ l.foldl (Cf.rowD x.1 x.2) m, 0 ≤ e.2 := by
    intro l
    induction l with
    | nil => intro m _ hm; exact hm
    | cons a l ih =>
      intro m hl hm
      rw [List.foldl_cons]
      exact ih _ (fun e he => hl e (List.mem_cons_of_mem _ he)) (Cf.foldl_inv (P := fun m : Cf.Dic => ∀ e : Cf.Pt × Int, e ∈ m → 0 ≤ e.2) (fun m k hm => add_nn (hl a (by simp)) _ m hm) _ m hm)
  exact go d [] h fun e he => (by cases he)
theorem all_nn (L : List (Cf.Pt × Nat)) : ∀ e ∈ Cf.allE L, 0 ≤ e.2 :=
  Cf.foldl_inv (P := fun m : Cf.Dic => ∀ e : Cf.Pt × Int, e ∈ m → 0 ≤ e.2) (fun m x hm => with_nn m x hm) L _ fun e he => by rw [List.mem_singleton.mp he]; decide
theorem sum_max {L : List Int} {c : Int} (h : ∀ x ∈ L, x ≤ c) : L.sum ≤ L.length * c := by
  induction L with
  | nil => simp
  | cons a L ih =>
    have := ih fun x hx => h x (List.mem_cons_of_mem _ hx)
    have := h a (by simp)
    rw [List.sum_cons, List.length_cons, Int.natCast_add, Int.add_mul]
    omega
theorem psi_one : ∀ (L : List (Cf.Pt × Nat)) (s : Cf.Pt), Cf.psi L (fun _ => 1) s ≤ ((2 ^ (L.map (·.2)).sum : Nat) : Int)
  | [], s => by show (1 : Int) ≤ ((2 ^ 0 : Nat) : Int); decide
  | x :: r, s => by
    have h : Cf.psi (x :: r) (fun _ => 1) s ≤ ((x.2 + 1 : Nat) : Int) * ((2 ^ (r.map (·.2)).sum : Nat) : Int) := by
      show ((List.range (x.2 + 1)).map fun (k : Nat) => Cf.psi r (fun _ => 1) (s.1 + (k : Int) * x.1.1, s.2 + (k : Int) * x.1.2)).sum ≤ _
      refine Int.le_trans (sum_max (c := ((2 ^ (r.map (·.2)).sum : Nat) : Int)) fun y hy => ?_) (by rw [List.length_map, List.length_range]; exact Int.le_refl _)
      obtain ⟨k, _, e⟩ := List.mem_map.mp hy
      rw [← e]
      exact psi_one r _
    refine Int.le_trans h ?_
    rw [← Int.natCast_mul, List.map_cons, List.sum_cons, Nat.pow_add]
    exact Int.ofNat_le.mpr (Nat.mul_le_mul_right _ (Cf.pow_succ_le _))
theorem one_le_sum : ∀ {L : List Int}, (∀ x ∈ L, 0 ≤ x) → ∀ x ∈ L, x ≤ L.sum
  | [], _, _, h => by cases h
  | a :: L, hL, x, h => by
    have n1 := hL a (by simp)
    have n2 : 0 ≤ L.sum := by
      clear h x n1
      induction L with
      | nil => simp
      | cons b L ih =>
        rw [List.sum_cons]
        have := hL b (by simp)
        have := ih fun y hy => hL y (by rcases List.mem_cons.mp hy with c | c <;> simp [c])
        omega
    rw [List.sum_cons]
    rcases List.mem_cons.mp h with c | c
    · omega
    · have := one_le_sum (fun y hy => hL y (List.mem_cons_of_mem _ hy)) x c
      omega
theorem val_le (L : List (Cf.Pt × Nat)) {e : Cf.Pt × Int} (h : e ∈ Cf.allE L) : 0 ≤ e.2 ∧ e.2 ≤ ((2 ^ (L.map (·.2)).sum : Nat) : Int) := by
  refine ⟨all_nn L e h, ?_⟩
  have t := Cf.all_tot L fun _ => 1
  have p := psi_one L (0, 0)
  rw [← t] at p
  refine Int.le_trans ?_ p
  unfold Cf.tot
  refine one_le_sum (fun x hx => ?_) _ (List.mem_map.mpr ⟨e, h, by simp⟩)
  obtain ⟨y, hy, ey⟩ := List.mem_map.mp hx
  rw [← ey]
  have := all_nn L y hy
  simp only [Int.mul_one]
  exact this
section
variable {P : Program} {w : World} {K : PySem.W.Frag} {mg : Str → Option Value} {base : Heap}
/-! ## ways_by_sum -/
theorem scWb : FnScope ["some_edges", "ways", "start", "end"] ["some_edges"] (defScope (top 19)) := ⟨rfl, rfl, rfl, by decide +kernel, rfl, by decide +kernel, by decide +kernel⟩
def spWb : Sp := fun vs H Q _ => ∃ (a : Addr) (es : List (Cf.Pt × Cf.Pt)), vs = [.ref a] ∧ Edgs H a es ∧ (∀ e ∈ es, Eb e ∧ 0 < Cf.gI e) ∧ (es.map gN).sum ≤ 23 ∧ es.length ≤ 4200 ∧
  ∀ H' p, Same H H' → H p = none → H' p = some (.dT (kD (Cf.allE (es.map xE)))) → Q (.ref p) H'
theorem all_take {es : List (Cf.Pt × Cf.Pt)} {i : Nat} {e : Cf.Pt × Cf.Pt} (h : es[i]? = some e) : Cf.allE ((es.take (i + 1)).map xE) = Cf.withE (Cf.allE ((es.take i).map xE)) (xE e) := by
  unfold Cf.allE
  rw [List.take_add_one, h, List.map_append, List.foldl_append]
  rfl
theorem sum_take_le (es : List (Cf.Pt × Cf.Pt)) (i : Nat) : ((es.take i).map gN).sum ≤ (es.map gN).sum := by
  conv => rhs; rw [← List.take_append_drop i es]
  rw [List.map_append, List.sum_append]
  omega
theorem snd_map (es : List (Cf.Pt × Cf.Pt)) : (es.map xE).map (·.2) = es.map gN := by rw [List.map_map]; rfl
theorem with_fits {es : List (Cf.Pt × Cf.Pt)} {i : Nat} {e : Cf.Pt × Cf.Pt} (h : es[i]? = some e) (few : (es.map gN).sum ≤ 23) : (Cf.allE ((es.take i).map xE)).length * (gN e + 1) ≤ 8388608 := by
  have h1 := Cf.all_len ((es.take i).map xE)
  rw [snd_map] at h1
  have h2 := Cf.pow_succ_le (gN e)
  have h3 : ((es.take (i + 1)).map gN).sum = ((es.take i).map gN).sum + gN e := by
    rw [List.take_add_one, h, List.map_append, List.sum_append]
    simp
  have h4 := sum_take_le es (i + 1)
  have h5 : 2 ^ ((es.take i).map gN).sum * 2 ^ gN e ≤ 2 ^ 23 := by
    rw [← Nat.pow_add, ← h3]
    exact Nat.pow_le_pow_right (by decide) (Nat.le_trans h4 few)
  exact Nat.le_trans (Nat.mul_le_mul h1 h2) h5
theorem ok_wb (D : Df K mg "ways_by_sum" (top 19) ["some_edges"]) (CW : Okd P w K mg base "with_edge" 4 ["ways", "start", "end"] spWe) : Okd P w K mg base "ways_by_sum" 5 ["some_edges"] spWb := by
  refine D.ok fun f fd F => F.ok scWb (fun vs H Q E h => ?_) (fun cdv A outer s H vs Q E hr h => ?_)
  · obtain ⟨a, es, rfl, _⟩ := h
    rfl
  · obtain ⟨a, es, rfl, hes, he, few, fes, k⟩ := h
    refine ⟨_, pss_cons (ps_set (i := 1) scWb.nd rfl (.inl rfl) (pe_dispT (Nat.lt_of_le_of_lt (Nat.le_add_right _ _) hr.units) (pe_tup (pa_cons pe_int (pa_cons pe_int pa_nil))) pe_int))
      (pss_cons (ps_for PassesOwn.never rfl (pi_list (pv 0)) (pg_tup rfl (pgs_cons (pg_name (i := 2) scWb.nd rfl (.inl rfl)) (pgs_cons (pg_name (i := 3) scWb.nd rfl (.inl rfl)) pgs_nil)))
        (pss_one (ps_set (i := 1) scWb.nd rfl (.inl rfl) (pe_cal CW hr (pa_cons (pv 1) (pa_cons (pv 2) (pa_cons (pv 3) pa_nil)))))))
      (pss_one (ps_ret (pv 1)))), ?_⟩
    intro d nd
    have s1 := new_same (o := .dT []) nd
    refine ⟨(by show 2 ≤ sizeLine; decide), fun q nq => ?_⟩
    have s2 := new_same (o := .tup [.int 0, .int 0]) nq
    have dq : d ≠ q := ne_of_none (o := .dT []) upd_same nq
    refine ⟨s2 _ _ upd_same, q, kP (0, 0), rfl, upd_same, ?_⟩
    have s3 : Same H (upd (upd (upd H d (.dT [])) q (.tup [.int 0, .int 0])) d (.dT (kD [((0, 0), 1)]))) := fun b o e => by
      rw [upd_ne (ne_of_none e nd)]
      exact s2 _ _ (s1 _ _ e)
    obtain ⟨ts, h1, h2, h3⟩ := hes
    refine ⟨_, rfl, a, rfl, ⟨_, .inl (.inl (s3 _ _ h1))⟩, for_list (xs := ts.map V.ref) (fun i σ H' => ∃ x2 x3 p, σ = [some (.ref a), some (.ref p), x2, x3] ∧ Same H H' ∧ H p = none ∧ H' p = some (.dT (kD (Cf.allE ((es.take i).map xE)))))
      ⟨none, none, d, rfl, s3, nd, by rw [List.take_zero]; exact upd_same⟩ (fun i σ H' _ ⟨_, _, _, _, s, _⟩ => .inl (.inl (s _ _ h1))) ?_ ?_⟩
    · rintro i v σ H' hv ⟨x2, x3, p, rfl, s', np, hp⟩
      obtain ⟨t, e, g1, g2, rfl⟩ := objs_at h2 hv
      obtain ⟨u, v2, e1, e2, e3⟩ := mono_edg _ _ _ _ s' (h3 i t e g1 g2)
      obtain ⟨be, ge⟩ := he e (List.mem_of_getElem? g2)
      refine unE e1 ⟨_, rfl, _, rfl, _, rfl, p, u, v2, _, e, rfl, hp, e2, e3, be, ge, with_fits g2 few, fun H2 p2 s4 np2 hp2 => ⟨_, _, p2, rfl, s'.trans s4, s'.free np2, ?_⟩⟩
      rw [hp2, all_take g2]
    · rintro σ H' ⟨x2, x3, p, rfl, s', np, hp⟩
      rw [List.length_map, h2, List.take_length] at hp
      exact ⟨_, rfl, k H' p s' np hp⟩
/-! ## partings -/
theorem scPa : FnScope ["figure", "rim", "half", "ahead", "behind", "point", "number"] ["figure"] (defScope (top 20)) := ⟨rfl, rfl, rfl, by decide +kernel, rfl, by decide +kernel, by decide +kernel⟩
def spPa : Sp := fun vs H Q _ => ∃ (a : Addr) (l : List Cf.Pt), vs = [.ref a] ∧ Pts H a l ∧ l.length ≤ 4200 ∧ (∀ p ∈ l, Bx p) ∧ Cf.Fig l ∧ Rc60.rim l ≤ 24 ∧ ∀ H', Same H H' → Q (.int (Rc60.parts l : Nat)) H'
theorem gN_pos {l : List Cf.Pt} (F : Cf.Fig l) {e : Cf.Pt × Cf.Pt} (h : e ∈ Rc60.edges l) : 1 ≤ gN e := Cf.gcd_pos F h
theorem len_le_sum : ∀ {L : List (Cf.Pt × Cf.Pt)}, (∀ e ∈ L, 1 ≤ gN e) → L.length ≤ (L.map gN).sum
  | [], _ => by simp
  | a :: L, h => by
    have := h a (by simp)
    have := len_le_sum fun e he => h e (List.mem_cons_of_mem _ he)
    rw [List.map_cons, List.sum_cons, List.length_cons]
    omega
theorem edgs_take {H : Hp} {a p : Addr} {ts : List Addr} {es : List (Cf.Pt × Cf.Pt)} (n : Nat) (h2 : ts.length = es.length) (h3 : ∀ (i : Nat) t x, ts[i]? = some t → es[i]? = some x → EdgT H t x) (hp : H p = some (.lst ((ts.take n).map V.ref))) : Edgs H p (es.take n) := by
  refine ⟨_, hp, by rw [List.length_take, List.length_take, h2], fun i t x g1 g2 => ?_⟩
  rw [List.getElem?_take] at g1 g2
  split at g1
  · rw [if_pos (by assumption)] at g2
    exact h3 i t x g1 g2
  · cases g1
theorem edgs_drop {H : Hp} {a p : Addr} {ts : List Addr} {es : List (Cf.Pt × Cf.Pt)} (n : Nat) (h2 : ts.length = es.length) (h3 : ∀ (i : Nat) t x, ts[i]? = some t → es[i]? = some x → EdgT H t x) (hp : H p = some (.lst ((ts.drop n).map V.ref))) : Edgs H p (es.drop n) := by
  refine ⟨_, hp, by rw [List.length_drop, List.length_drop, h2], fun i t x g1 g2 => ?_⟩
  rw [List.getElem?_drop] at g1 g2
  exact h3 _ t x g1 g2
theorem ok_pa (D : Df K mg "partings" (top 20) ["figure"]) (CE : Okd P w K mg base "edges" 1 ["figure"] spEd) (CW : Okd P w K mg base "ways_by_sum" 5 ["some_edges"] spWb) (mL : mg "len" = none) (mS : mg "sum" = none) : Okd P w K mg base "partings" 6 ["figure"] spPa := by
  refine D.ok fun f fd F => F.ok scPa (fun vs H Q E h => ?_) (fun cdv A outer s H vs Q E hr h => ?_)
  · obtain ⟨a, l, rfl, _⟩ := h
    rfl
  · obtain ⟨a, l, rfl, hl, few, bx, fg, hrim, k⟩ := h
    refine ⟨_, pss_cons (ps_set (i := 1) scPa.nd rfl (.inl rfl) (pe_cal CE (hr.mono (by decide)) (pa_cons (pv 0) pa_nil)))
      (pss_cons (ps_set (i := 2) scPa.nd rfl (.inl rfl) (pe_op op_fdivN (pe_callB call_len_seq (by rfl) mL PySem.boot_len (pa_cons (pv 1) pa_nil)) pe_int))
      (pss_cons (ps_set (i := 3) scPa.nd rfl (.inl rfl) (pe_cal CW hr (pa_cons (pe_slice sl_list (pv 1) po_none (po_some (pv 2))) pa_nil)))
      (pss_cons (ps_set (i := 4) scPa.nd rfl (.inr rfl) (pe_cal CW hr (pa_cons (pe_slice sl_list (pv 1) (po_some (pv 2)) po_none) pa_nil)))
      (pss_one (ps_ret (pe_callB (cr_sum rfl) (by rfl) mS (by decide +kernel) (pa_cons
        (pe_lock (pe_lc (own := [("point", 5), ("number", 6)]) (g := gTup K 2 (gCons (gName 5) (gCons (gName 6) gNil))) (tt := tYes) rfl scPa.nd (pi_itemsT (pv 3)) (blkOk_by (N := ["figure", "rim", "half", "ahead", "behind", "point", "number"]) (sc := defScope (top 20)) (by decide +kernel))
          (fun _ _ _ _ _ => pg_tup rfl (pgs_cons (pg_name (i := 5) scPa.nd rfl (Or.inl rfl)) (pgs_cons (pg_name (i := 6) scPa.nd rfl (Or.inl rfl)) pgs_nil))) (fun _ _ _ _ _ => pts_nil)
          (fun _ _ _ _ _ => pe_op op_mul (pv 6) (pe_dget2 (hu_of hr) (pv 4) (pe_tup (pa_cons (pe_un un_neg (tik K (pv 5))) (pa_cons (pe_un un_neg (tik K (pv 5))) pa_nil))) pe_int (by exact ⟨rfl, rfl, rfl, rfl⟩))))) pa_nil))))))), ?_⟩
    refine ⟨_, rfl, a, l, rfl, hl, few, fun H1 p s1 ⟨ts, h1, h2, h3⟩ => ?_⟩
    obtain ⟨n, hn⟩ : ∃ n, n = (Rc60.edges l).length / 2 := ⟨_, rfl⟩
    have le := Cf.edges_len l fg.ne
    have l3 := fg.len
    refine ⟨_, rfl, p, _, rfl, .inl (.inl (.inl h1)), _, _, rfl, rfl, ⟨show (2 : Int) ≠ 0 by decide, show (2 : Int).natAbs < 1073741824 by decide⟩, ?_⟩
    have en : ((ts.map V.ref).length : Int).fdiv 2 = (n : Int) := by
      rw [List.length_map, h2, hn, Int.fdiv_eq_ediv_of_nonneg _ (by decide)]
      rfl
    have cutA : cutV (ts.map V.ref) none (some (n : Int)) = (ts.take n).map V.ref := by rw [cut_to, List.map_take]
    have cutB : cutV (ts.map V.ref) (some (n : Int)) none = (ts.drop n).map V.ref := by rw [cut_from, List.map_drop]
    have ge : ∀ e ∈ Rc60.edges l, Eb e ∧ 0 < Cf.gI e := fun e he => ⟨⟨bx _ (edge_in he).1, bx _ (edge_in he).2⟩, Cf.gI_pos fg he⟩
    have sums : ((Rc60.edges l).map gN).sum = Rc60.rim l := rfl
    have split : (((Rc60.edges l).take n).map gN).sum + (((Rc60.edges l).drop n).map gN).sum = Rc60.rim l := by
      rw [← sums, ← List.sum_append, ← List.map_append, List.take_append_drop]
    have sA := len_le_sum (L := (Rc60.edges l).take n) fun e he => gN_pos fg (List.mem_of_mem_take he)
    have sB := len_le_sum (L := (Rc60.edges l).drop n) fun e he => gN_pos fg (List.mem_of_mem_drop he)
    rw [List.length_take] at sA
    rw [List.length_drop] at sB
    -- ahead
    refine ⟨_, rfl, _, rfl, (n : Int), by rw [← en], p, _, rfl, .inl (.inl h1), fun c nc => ?_⟩
    rw [cutA]
    have s2 := new_same (o := .lst ((ts.take n).map V.ref)) nc
    refine ⟨c, (Rc60.edges l).take n, rfl, edgs_take (a := a) n h2 (fun i t x g1 g2 => mono_edg _ _ _ _ s2 (h3 i t x g1 g2)) upd_same, fun e he => ge e (List.mem_of_mem_take he), by omega, by rw [List.length_take]; omega, fun H2 dA s3 nA hA => ?_⟩
    -- behind
    have s23 := s2.trans s3
    refine ⟨_, rfl, _, rfl, (n : Int), by rw [← en], p, _, rfl, .inl (.inl (s23 _ _ h1)), fun c2 nc2 => ?_⟩
    rw [cutB]
    have s4 := new_same (o := .lst ((ts.drop n).map V.ref)) nc2
    have s24 := s23.trans s4
    refine ⟨c2, (Rc60.edges l).drop n, rfl, edgs_drop (a := a) n h2 (fun i t x g1 g2 => mono_edg _ _ _ _ s24 (h3 i t x g1 g2)) upd_same, fun e he => ge e (List.mem_of_mem_drop he), by omega, by rw [List.length_drop]; omega, fun H3 dB s5 nB hB => ?_⟩
    have hA3 := s5 _ _ (s4 _ _ hA)
    obtain ⟨LA, hLA⟩ : ∃ LA, LA = ((Rc60.edges l).take n).map xE := ⟨_, rfl⟩
    obtain ⟨LB, hLB⟩ : ∃ LB, LB = ((Rc60.edges l).drop n).map xE := ⟨_, rfl⟩
    rw [← hLA] at hA3
    rw [← hLB] at hB
    refine ⟨dA, _, hA3, trivial, fun od => ?_⟩
    obtain ⟨Hl, hHl⟩ : ∃ Hl, Hl = upd H3 dA (.frz od (.dT (kD (Cf.allE LA)))) := ⟨_, rfl⟩
    rw [← hHl]
    have ld : Hl dA = some (.frz od (.dT (kD (Cf.allE LA)))) := by rw [hHl, upd_same]
    have lo : ∀ b o, b ≠ dA → H3 b = some o → Hl b = some o := fun b o h1 q => by rw [hHl, upd_ne h1]; exact q
    have AB : dB ≠ dA := fun c => by
      rw [c, s4 _ _ hA] at nB
      cases nB
    have lB : Hl dB = some (.dT (kD (Cf.allE LB))) := lo _ _ AB hB
    refine ⟨_, rfl, dA, od, _, rfl, ld, fun Dd nD => ?_⟩
    have dD : dA ≠ Dd := ne_of_none ld nD
    have lenA : (Cf.allE LA).length ≤ 8388608 := by
      have := Cf.all_len LA
      rw [hLA, snd_map] at this
      have h23 : (((Rc60.edges l).take n).map gN).sum ≤ 23 := by omega
      rw [hLA]
      exact Nat.le_trans this (Nat.pow_le_pow_right (by decide) h23)
    refine lc_itT (fun i H' => (∀ b o, Hl b = some o → H' b = some o) ∧ H' Dd = some (.lst ((((Cf.allE LA).take i).map fun e => e.2 * Cf.look (Cf.allE LB) (-e.1.1, -e.1.2)).map V.int)))
      ⟨new_same nD, upd_same⟩ (fun i H' ⟨q, _⟩ => q _ _ ld) ?_ ?_
    · rintro i kk v q T H' hkv ⟨kp, hD⟩ hq nT
      have hx : ∃ x, (Cf.allE LA)[i]? = some x ∧ kk = kP x.1 ∧ v = .int x.2 := by
        unfold kD at hkv
        rw [List.getElem?_map] at hkv
        cases c : (Cf.allE LA)[i]? with
        | none => rw [c] at hkv; cases hkv
        | some x => rw [c] at hkv; cases hkv; exact ⟨x, rfl, rfl, rfl⟩
      obtain ⟨x, hx, rfl, rfl⟩ := hx
      have hi := (List.getElem?_eq_some_iff.mp hx).1
      have vl := val_le LA (List.mem_of_getElem? hx)
      have v24 : ((2 ^ (LA.map (·.2)).sum : Nat) : Int) ≤ 8388608 := by
        rw [hLA, snd_map]
        exact Int.ofNat_le.mpr (show _ ≤ 2 ^ 23 from Nat.pow_le_pow_right (by decide) (by omega))
      have sT := new_same (o := .tup [.ref q, .int x.2]) nT
      have hqT : TupP _ q x.1 := sT _ _ hq
      refine ⟨T, _, rfl, .inl (.inl upd_same), rfl, _, _, rfl, _, _, rfl, rfl, rfl, _, rfl, _, rfl, dB, rfl, .inr ⟨_, .inl (sT _ _ (kp _ _ lB))⟩, ?_⟩
      · refine it0 rfl hqT ⟨_, rfl, it1 rfl hqT ⟨_, rfl, (by show 2 ≤ sizeLine; decide), fun t nt => ?_⟩⟩
        have st := new_same (o := .tup [.int (-x.1.1), .int (-x.1.2)]) nt
        refine ⟨_, DGet.t (k := kP (-x.1.1, -x.1.2)) (st _ _ (sT _ _ (kp _ _ lB))) upd_same, ?_⟩
        · rw [kD_look]
          refine ⟨_, _, rfl, rfl, .inl ⟨by omega, by omega⟩, _, st _ _ (sT _ _ hD), ?_, fun b o qb => ?_, ?_⟩
          · rw [List.length_map, List.length_map, List.length_take]
            exact Nat.lt_of_le_of_lt (show _ ≤ 8388608 by omega) (by decide)
          · rw [upd_ne (ne_of_none qb nD)]
            exact st _ _ (sT _ _ (kp _ _ qb))
          · rw [upd_same, List.take_add_one, hx, List.map_append, List.map_append]
            rfl
    · intro H' ⟨kp, hD⟩
      have ln : (kD (Cf.allE LA)).length = (Cf.allE LA).length := List.length_map ..
      rw [ln, List.take_length] at hD
      refine ⟨kp _ _ ld, Dd, _, rfl, .inl (.inl ((upd_ne dD.symm).trans hD)), ?_⟩
      have e : ((Cf.allE LA).map fun e => e.2 * Cf.look (Cf.allE LB) (-e.1.1, -e.1.2)).sum = (Rc60.parts l : Nat) := by
        have p := Cf.parts_is LA LB
        rw [hLA, hLB, ← List.map_append, List.take_append_drop, ← hLA, ← hLB] at p
        exact p
      rw [e]
      refine k _ fun b o qb => ?_
      have q3 := s5 _ _ (s24 _ _ (s1 _ _ qb))
      by_cases c : b = dA
      · subst c
        rw [upd_same]
        exact hA3.symm.trans q3
      · rw [upd_ne c]
        exact kp _ _ (lo _ _ c q3)
end
end Cs

set_option maxRecDepth 100000
set_option maxHeartbeats 4000000
namespace Cs
open PySem PySem.Spec PyProof.Rows L2
/-- three numbers -/
abbrev Tri := Int × Int × Int
def TriT (H : Hp) (t : Addr) (x : Tri) : Prop := H t = some (.tup [.int x.1, .int x.2.1, .int x.2.2])
theorem mono_tri : Mono TriT := fun _ _ _ _ s h => s _ _ h
theorem un3 {K : PySem.W.Frag} {σ : L2.St} {H : Hp} {a : Addr} {x : Tri} {i j k : Nat} {R : L2.St → Hp → Prop} (h : TriT H a x) (q : R (((σ.set i (some (.int x.1))).set j (some (.int x.2.1))).set k (some (.int x.2.2))) H) :
    gTup K 3 (gCons (gName i) (gCons (gName j) (gCons (gName k) gNil))) (.ref a) σ H R := ⟨a, _, rfl, .inl (.inl h), rfl, _, _, rfl, _, _, rfl, _, _, rfl, rfl, q⟩
/-- [f(x) for x in a list, if keep(x)] -/
theorem lc_if {α : Type} {R : Hp → Addr → α → Prop} {K : PySem.W.Frag} {a : Addr} {xs : List α} {ts : List Addr} {g : TG} {tt : TT} {te : TE} {vs : List Nat} {σ : L2.St} {H1 : Hp} {D : Addr} {Qd : Hp → Prop} (f : α → V) (keep : α → Bool) (m : Mono R) (nD : H1 D = none)
    (ha : H1 a = some (.lst (ts.map V.ref))) (hl : ts.length = xs.length) (hR : ∀ (i : Nat) t x, ts[i]? = some t → xs[i]? = some x → R H1 t x) (few : xs.length ≤ sizeLine)
    (hs : ∀ t x H (Q : VK) (Q0 : Hp → Prop), x ∈ xs → Same H1 H → R H t x → (keep x = true → ∀ H', Same H H' → Q (f x) H') → (keep x = false → Q0 H) →
      g (.ref t) (wipe σ vs) H fun σ2 H2 => wipe σ2 vs = wipe σ vs ∧ tt σ2 H2 fun b H3 => if b = true then te σ2 H3 Q else Q0 H3)
    (hd : ∀ H, Same H1 H → H D = some (.lst ((xs.filter keep).map f)) → Qd H) :
    ∃ W : Nat → Nat → Hp → Prop, (∃ m, W 0 m (upd H1 D (.lst []))) ∧ ∀ i m H, W i m H →
      ((Itl K a).stop i H ∧ Qd H) ∨ ((Itl K a).go i H ∧ ∃ Nx : Hp → Prop, (∀ H', Nx H' → ∃ m', m' < m ∧ W (i + 1) m' H') ∧ ∀ x H', (Itl K a).yld i H x H' → g x (wipe σ vs) H' fun σ2 H2 => wipe σ2 vs = wipe σ vs ∧ tt σ2 H2 fun b H3 =>
        if b = true then te σ2 H3 fun y H4 => ∃ acc, H4 D = some (.lst acc) ∧ acc.length < sizeLine ∧ Nx (upd H4 D (.lst (acc ++ [y]))) else Nx H3) := by
  have lx : (ts.map V.ref).length = xs.length := by rw [List.length_map, hl]
  refine lc_list (xs := ts.map V.ref) (fun i H => Same H1 H ∧ H D = some (.lst (((xs.take i).filter keep).map f))) ⟨new_same nD, upd_same⟩ (fun i H _ ⟨s, _⟩ => .inl (.inl (s _ _ ha))) (fun i v H hv ⟨s, hD⟩ => ?_) fun H ⟨s, hD⟩ => ?_
  · obtain ⟨t, x, h1, h2, rfl⟩ := objs_at hl hv
    have hi := (List.getElem?_eq_some_iff.mp h2).1
    have tk : (xs.take (i + 1)).filter keep = (xs.take i).filter keep ++ [x].filter keep := by
      rw [List.take_add_one, h2, List.filter_append]; rfl
    refine hs t x H _ (fun H => Same H1 H ∧ H D = some (.lst (((xs.take (i + 1)).filter keep).map f))) (List.mem_of_getElem? h2) s (m _ _ _ _ s (hR i t x h1 h2)) (fun kx H' s' => ⟨_, s' _ _ hD, ?_, fun b o e => ?_, ?_⟩) fun kx => ⟨s, ?_⟩
    · rw [List.length_map]
      have := List.length_filter_le keep (xs.take i)
      rw [List.length_take] at this
      omega
    · rw [upd_ne (ne_of_none e nD)]
      exact s' _ _ (s _ _ e)
    · rw [upd_same, tk, List.filter_cons_of_pos kx, List.map_append]
      rfl
    · rw [tk, List.filter_cons_of_neg (by simp [kx]), List.filter_nil, List.append_nil]
      exact hD
  · rw [lx, List.take_length] at hD
    exact hd H s hD
section
variable {P : Program} {w : World} {K : PySem.W.Frag} {mg : Str → Option Value} {base : Heap}
/-! ## limits -/
theorem scLi : FnScope ["outer", "inner", "found", "start", "end", "spare"] ["outer", "inner"] (defScope (top 22)) := ⟨rfl, rfl, rfl, by decide +kernel, rfl, by decide +kernel, by decide +kernel⟩
abbrev tri (l m : List Cf.Pt) (e : Cf.Pt × Cf.Pt) : Tri := (e.2.1 - e.1.1, e.2.2 - e.1.2, Cf.spr l m e)
def spLi : Sp := fun vs H Q _ => ∃ (a b : Addr) (l m : List Cf.Pt), vs = [.ref a, .ref b] ∧ Pts H a l ∧ Pts H b m ∧ l.length ≤ 4200 ∧ m.length ≤ 4200 ∧ (∀ p ∈ l, Bx p) ∧ (∀ p ∈ m, Bx p) ∧ l ≠ [] ∧ m ≠ [] ∧
  ∀ H' p, Same H H' → Objs TriT H' p ((Rc60.edges l).map (tri l m)) → Q (.ref p) H'
theorem ok_li (D : Df K mg "limits" (top 22) ["outer", "inner"]) (CE : Okd P w K mg base "edges" 1 ["figure"] spEd) (CF : Okd P w K mg base "farthest_out" 1 ["figure", "start", "end"] spFo) : Okd P w K mg base "limits" 2 ["outer", "inner"] spLi := by
  refine D.ok fun f fd F => F.ok scLi (fun vs H Q E h => ?_) (fun cdv A outer s H vs Q E hr h => ?_)
  · obtain ⟨a, b, l, m, rfl, _⟩ := h
    rfl
  · obtain ⟨a, b, l, m, rfl, hl, hm, few, fewm, bx, bm, ne, nem, k⟩ := h
    refine ⟨_, pss_cons (ps_set (i := 2) scLi.nd rfl (.inl rfl) (pe_lst pa_nil))
      (pss_cons (ps_for PassesOwn.never rfl (pi_list (pe_cal CE hr (pa_cons (pv 0) pa_nil))) (pg_tup rfl (pgs_cons (pg_name (i := 3) scLi.nd rfl (.inl rfl)) (pgs_cons (pg_name (i := 4) scLi.nd rfl (.inl rfl)) pgs_nil)))
        (pss_cons (ps_set (i := 5) scLi.nd rfl (.inl rfl) (pe_op op_sub (pe_cal CF hr (pa_cons (pv 0) (pa_cons (pv 3) (pa_cons (pv 4) pa_nil)))) (pe_cal CF hr (pa_cons (pv 1) (pa_cons (pv 3) (pa_cons (pv 4) pa_nil))))))
        (pss_one (ps_expr (pe_bm PySem.F.plainAttrs_list PySem.F.slot_list_append PySem.F.type_list_append mt_append (pv 2) (pa_cons
          (pe_tup (pa_cons (pe_op op_sub (ti (pv 4)) (ti (pv 3))) (pa_cons (pe_op op_sub (ti (pv 4)) (ti (pv 3))) (pa_cons (pv 5) pa_nil)))) pa_nil))))))
      (pss_one (ps_ret (pv 2)))), ?_⟩
    refine ⟨Nat.zero_le _, fun C nC => ?_⟩
    have s0 := new_same (o := .lst []) nC
    refine ⟨_, rfl, a, l, rfl, hl.keep mono_tup s0, few, fun H1 p s1 ⟨ts, h1, h2, h3⟩ => ?_⟩
    have le := edges_le l
    have hC1 := s1 _ _ (upd_same (H := H) (a := C) (o := .lst []))
    have pC : p ≠ C ∨ ts.length = 0 := by
      by_cases c : p = C
      · subst c
        rw [h1] at hC1
        right
        injection hC1 with q
        injection q with q
        simpa using q
      · exact .inl c
    by_cases p0 : ts.length = 0
    · have e0 : Rc60.edges l = [] := List.length_eq_zero_iff.mp (h2.symm.trans p0)
      have := Cf.edges_len l ne
      rw [e0] at this
      exact absurd (List.length_eq_zero_iff.mp this.symm) ne
    have pC : p ≠ C := pC.resolve_right p0
    refine ⟨p, rfl, ⟨_, .inl (.inl h1)⟩, for_list (xs := ts.map V.ref) (fun i σ H' => ∃ x3 x4 x5, σ = [some (.ref a), some (.ref b), some (.ref C), x3, x4, x5] ∧ (∀ b o, b ≠ C → H1 b = some o → H' b = some o) ∧ Same H H' ∧ Objs TriT H' C (((Rc60.edges l).take i).map (tri l m)))
      ⟨none, none, none, rfl, fun b o _ q => q, s0.trans s1, [], hC1, rfl, fun i t x q => (by simp at q)⟩ (fun i σ H' _ ⟨_, _, _, _, q, _⟩ => .inl (.inl (q _ _ pC h1))) ?_ ?_⟩
    · rintro i v σ H' hv ⟨x3, x4, x5, rfl, kp, sm, us, hC, lu, hU⟩
      obtain ⟨t, e, g1, g2, rfl⟩ := objs_at h2 hv
      have hi := (List.getElem?_eq_some_iff.mp g2).1
      obtain ⟨u, v2, e1, e2, e3⟩ := h3 i t e g1 g2
      have far : ∀ {b : Addr} {p : List V}, H1 b = some (.tup p) → b ≠ C := fun q c => by
        rw [c, hC1] at q
        cases q
      have e1' := kp _ _ (far e1) e1
      have e2' : TupP H' u e.1 := kp _ _ (far e2) e2
      have e3' : TupP H' v2 e.2 := kp _ _ (far e3) e3
      refine unE e1' ⟨_, rfl, _, rfl, _, rfl, a, u, v2, l, e, rfl, hl.keep mono_tup sm, e2', e3', bx, ne, few, fun H2 s2 => ?_⟩
      refine ⟨_, rfl, _, rfl, _, rfl, b, u, v2, m, e, rfl, hm.keep mono_tup (sm.trans s2), s2 _ _ e2', s2 _ _ e3', bm, nem, fewm, fun H3 s3 => ?_⟩
      have s23 := s2.trans s3
      have e2'' : TupP H3 u e.1 := s23 _ _ e2'
      have e3'' : TupP H3 v2 e.2 := s23 _ _ e3'
      have hC3 := s23 _ _ hC
      refine ⟨_, _, rfl, rfl, _, rfl, .inl ⟨rfl, _, .inl (.inl hC3)⟩, it0 rfl e3'' (it0 rfl e2'' ⟨_, _, rfl, rfl, it1 rfl e3'' (it1 rfl e2'' ⟨_, _, rfl, rfl, _, rfl, (by show 3 ≤ sizeLine; decide), fun q nq => ?_⟩)⟩)⟩
      have sq := new_same (o := .tup [.int (e.2.1 - e.1.1), .int (e.2.2 - e.1.2), .int (Cf.fo l e - Cf.fo m e)]) nq
      refine ⟨C, _, _, rfl, rfl, sq _ _ hC3, ?_, ?_⟩
      · rw [List.length_map, lu, List.length_map, List.length_take]
        exact Nat.lt_of_le_of_lt (show _ ≤ 4200 by omega) (by decide)
      · have qC : C ≠ q := ne_of_none hC3 nq
        refine ⟨_, _, _, rfl, fun b o hb w => ?_, fun b o w => ?_, us ++ [q], ?_, ?_, fun j t2 x w1 w2 => ?_⟩
        · rw [upd_ne hb]
          exact sq _ _ (s23 _ _ (kp _ _ hb w))
        · rw [upd_ne (ne_of_none w nC)]
          exact sq _ _ (s23 _ _ (sm _ _ w))
        · rw [upd_same, List.map_append]; rfl
        · rw [List.length_append, lu, List.length_map, List.length_map, List.length_take, List.length_take, List.length_singleton]
          omega
        · rw [List.take_add_one, g2, List.map_append] at w2
          by_cases c : j < us.length
          · rw [List.getElem?_append_left c] at w1
            rw [List.getElem?_append_left (by rw [← lu]; exact c)] at w2
            have r := hU j t2 x w1 w2
            have r3 : TriT H3 t2 x := s23 _ _ r
            have : t2 ≠ C := fun z => by
              rw [z] at r3
              have := hC3.symm.trans r3
              cases this
            exact (upd_ne this).trans (sq _ _ r3)
          · rw [List.getElem?_append_right (by omega)] at w1 w2
            have j0 : j - us.length = 0 := by
              have := (List.getElem?_eq_some_iff.mp w1).1
              rw [List.length_singleton] at this
              omega
            rw [← lu, j0] at w2
            rw [j0] at w1
            cases w1
            cases w2
            exact (upd_ne qC.symm).trans upd_same
    · rintro σ H' ⟨x3, x4, x5, rfl, kp, sm, hO⟩
      rw [List.length_map, h2, List.take_length] at hO
      exact ⟨_, rfl, k H' C sm hO⟩
/-! ## shifts_along -/
theorem scSa : FnScope ["found", "a", "least", "greatest", "right", "up", "spare"] ["found", "a"] (defScope (top 23)) := ⟨rfl, rfl, rfl, by decide +kernel, rfl, by decide +kernel, by decide +kernel⟩
def loF (a : Int) (x : Tri) : Int := -((x.2.2 - a * x.2.1).fdiv x.1)
def hiF (a : Int) (x : Tri) : Int := (a * x.2.1 - x.2.2).fdiv x.1
structure EndT (xs : List Tri) (a L G : Int) : Prop where
  l1 : ∃ x ∈ xs, 0 < x.1 ∧ L = loF a x
  l2 : ∀ x ∈ xs, 0 < x.1 → loF a x ≤ L
  g1 : ∃ x ∈ xs, x.1 < 0 ∧ G = hiF a x
  g2 : ∀ x ∈ xs, x.1 < 0 → G ≤ hiF a x
def spSa : Sp := fun vs H Q _ => ∃ (f : Addr) (a : Int) (xs : List Tri), vs = [.ref f, .int a] ∧ Objs TriT H f xs ∧ xs.length ≤ 4200 ∧ (∀ x ∈ xs, x.1.natAbs ≤ 4194304) ∧ a.natAbs ≤ 16777216 ∧ (∃ x ∈ xs, 0 < x.1) ∧ (∃ x ∈ xs, x.1 < 0) ∧
  ∀ H' L G, Same H H' → EndT xs a L G → Q (.int (max 0 (G - L + 1))) H'
theorem ok_sa (D : Df K mg "shifts_along" (top 23) ["found", "a"]) (mM : mg "max" = none) (mN : mg "min" = none) : Okd P w K mg base "shifts_along" 1 ["found", "a"] spSa := by
  refine D.ok fun f fd F => F.ok scSa (fun vs H Q E h => ?_) (fun cdv A outer s H vs Q E hr h => ?_)
  · obtain ⟨f, a, xs, rfl, _⟩ := h
    rfl
  · obtain ⟨f, a, xs, rfl, hf, few, bx, ba, ep, en, k⟩ := h
    refine ⟨_, pss_cons (ps_set (i := 2) scSa.nd rfl (.inl rfl) (pe_callB (cr_max rfl) (by rfl) mM (by decide +kernel) (pa_cons
        (pe_lc (own := [("right", 4), ("up", 5), ("spare", 6)]) (g := gTup K 3 (gCons (gName 4) (gCons (gName 5) (gCons (gName 6) gNil)))) (tt := tTest (tOp (rI0 fun i j => .bl (decide (j < i))) (tVar 4) (tC (.int 0)))) rfl scSa.nd (pi_list (pv 0)) (blkOk_by (N := ["found", "a", "least", "greatest", "right", "up", "spare"]) (sc := defScope (top 23)) (by decide +kernel))
          (fun _ _ _ _ _ => pg_tup rfl (pgs_cons (pg_name (i := 4) scSa.nd rfl (Or.inl rfl)) (pgs_cons (pg_name (i := 5) scSa.nd rfl (Or.inl rfl)) (pgs_cons (pg_name (i := 6) scSa.nd rfl (Or.inl rfl)) pgs_nil)))) (fun _ _ _ _ _ => pts_one (pt_cmpR op_gt (pv 4) pe_int (nomark _)))
          (fun _ _ _ _ _ => pe_un un_neg (pe_op op_fdivN (pe_op op_sub (pv 6) (pe_op op_mul (pv 1) (pv 5))) (pv 4)))) pa_nil)))
      (pss_cons (ps_set (i := 3) scSa.nd rfl (.inl rfl) (pe_callB (cr_min rfl) (by rfl) mN (by decide +kernel) (pa_cons
        (pe_lc (own := [("right", 4), ("up", 5), ("spare", 6)]) (g := gTup K 3 (gCons (gName 4) (gCons (gName 5) (gCons (gName 6) gNil)))) (tt := tTest (tOp (rI0 fun i j => .bl (decide (i < j))) (tVar 4) (tC (.int 0)))) rfl scSa.nd (pi_list (pv 0)) (blkOk_by (N := ["found", "a", "least", "greatest", "right", "up", "spare"]) (sc := defScope (top 23)) (by decide +kernel))
          (fun _ _ _ _ _ => pg_tup rfl (pgs_cons (pg_name (i := 4) scSa.nd rfl (Or.inl rfl)) (pgs_cons (pg_name (i := 5) scSa.nd rfl (Or.inl rfl)) (pgs_cons (pg_name (i := 6) scSa.nd rfl (Or.inl rfl)) pgs_nil)))) (fun _ _ _ _ _ => pts_one (pt_cmpR op_lt (pv 4) pe_int (nomark _)))
          (fun _ _ _ _ _ => pe_op op_fdivN (pe_op op_sub (pe_op op_mul (pv 1) (pv 5)) (pv 6)) (pv 4))) pa_nil)))
      (pss_one (ps_ret (pe_callB (call_max2 rfl) (by rfl) mM (by decide +kernel) (pa_cons pe_int (pa_cons (pe_op op_add (pe_op op_sub (pv 3) (pv 2)) pe_int) pa_nil)))))), ?_⟩
    obtain ⟨ts, h1, h2, h3⟩ := hf
    have ab : -(2 ^ 64) < a ∧ a < 2 ^ 64 := by omega
    refine ⟨_, rfl, f, rfl, ⟨_, .inl (.inl h1)⟩, fun Dd nD => ?_⟩
    refine lc_if (f := fun x => .int (loF a x)) (keep := fun x => decide (0 < x.1)) mono_tri nD h1 h2 h3 (Nat.le_trans few (by decide)) (fun t x H' Q' Q0 hx s' ht k' k0 => ?_) fun H' s' hD => ?_
    · have b := bx x hx
      refine un3 ht ⟨rfl, _, rfl, _, _, rfl, rfl, _, rfl, ite2 (fun c => ?_) (fun c => ?_)⟩
      · have c0 : 0 < x.1 := of_decide_eq_true c
        exact ⟨_, rfl, _, rfl, _, rfl, _, _, rfl, rfl, .inl ab, _, _, rfl, rfl, _, rfl, _, _, rfl, rfl, ⟨by omega, by omega⟩, _, rfl, k' (decide_eq_true c0) _ (Same.refl _)⟩
      · exact k0 (decide_eq_false fun q => c (decide_eq_true q))
    · have ne1 : (xs.filter fun x => decide (0 < x.1)) ≠ [] := fun z => by
        obtain ⟨x, hx, px⟩ := ep
        have : x ∈ xs.filter fun x => decide (0 < x.1) := List.mem_filter.mpr ⟨hx, decide_eq_true px⟩
        rw [z] at this
        cases this
      refine ⟨Dd, (xs.filter fun x => decide (0 < x.1)).map (loF a), rfl, .inl (.inl (by rw [hD, List.map_map]; rfl)), by rw [List.length_map]; exact List.length_pos_iff.mpr ne1, fun L hL hL2 => ?_⟩
      refine ⟨_, rfl, f, rfl, ⟨_, .inl (.inl (s' _ _ h1))⟩, fun Ee nE => ?_⟩
      refine lc_if (f := fun x => .int (hiF a x)) (keep := fun x => decide (x.1 < 0)) mono_tri nE (s' _ _ h1) h2 (fun i t x q1 q2 => mono_tri _ _ _ _ s' (h3 i t x q1 q2)) (Nat.le_trans few (by decide)) (fun t x H2 Q' Q0 hx s2 ht k' k0 => ?_) fun H2 s2 hE => ?_
      · have b := bx x hx
        refine un3 ht ⟨rfl, _, rfl, _, _, rfl, rfl, _, rfl, ite2 (fun c => ?_) (fun c => ?_)⟩
        · have c0 : x.1 < 0 := of_decide_eq_true c
          exact ⟨_, rfl, _, rfl, _, _, rfl, rfl, .inl ab, _, rfl, _, _, rfl, rfl, _, rfl, _, _, rfl, rfl, ⟨by omega, by omega⟩, k' (decide_eq_true c0) _ (Same.refl _)⟩
        · exact k0 (decide_eq_false fun q => c (decide_eq_true q))
      · have ne2 : (xs.filter fun x => decide (x.1 < 0)) ≠ [] := fun z => by
          obtain ⟨x, hx, px⟩ := en
          have : x ∈ xs.filter fun x => decide (x.1 < 0) := List.mem_filter.mpr ⟨hx, decide_eq_true px⟩
          rw [z] at this
          cases this
        refine ⟨Ee, (xs.filter fun x => decide (x.1 < 0)).map (hiF a), rfl, .inl (.inl (by rw [hE, List.map_map]; rfl)), by rw [List.length_map]; exact List.length_pos_iff.mpr ne2, fun G hG hG2 => ?_⟩
        refine ⟨_, rfl, _, rfl, _, _, rfl, rfl, _, _, rfl, rfl, _, _, rfl, ?_⟩
        have mx : (if (G - L + 1) > 0 then G - L + 1 else 0) = max 0 (G - L + 1) := by
          split <;> omega
        rw [mx]
        refine k _ L G (s'.trans s2) ⟨?_, fun x hx px => ?_, ?_, fun x hx px => ?_⟩
        · obtain ⟨x, hx, ex⟩ := List.mem_map.mp hL
          rw [List.mem_filter] at hx
          exact ⟨x, hx.1, of_decide_eq_true hx.2, ex.symm⟩
        · exact hL2 _ (List.mem_map.mpr ⟨x, List.mem_filter.mpr ⟨hx, decide_eq_true px⟩, rfl⟩)
        · obtain ⟨x, hx, ex⟩ := List.mem_map.mp hG
          rw [List.mem_filter] at hx
          exact ⟨x, hx.1, of_decide_eq_true hx.2, ex.symm⟩
        · exact hG2 _ (List.mem_map.mpr ⟨x, List.mem_filter.mpr ⟨hx, decide_eq_true px⟩, rfl⟩)
end
end Cs

set_option maxRecDepth 100000
set_option maxHeartbeats 4000000
namespace Cs
open PySem PySem.Spec PyProof.Rows L2
theorem chain_up : ∀ {r : List Cf.Pt} {x y : Cf.Pt}, (x :: r).getLast? = some y → x.1 < y.1 → ∃ e ∈ Cf.prs (x :: r), e.1.1 < e.2.1
  | [], x, y, h, k => by
    have : x = y := Option.some.inj h
    rw [this] at k
    omega
  | q :: r, x, y, h, k => by
    by_cases c : x.1 < q.1
    · exact ⟨(x, q), by simp [Cf.prs], c⟩
    · rw [List.getLast?_cons_cons] at h
      obtain ⟨e, he, p⟩ := chain_up h (by omega)
      exact ⟨e, List.mem_cons_of_mem _ he, p⟩
theorem chain_down : ∀ {r : List Cf.Pt} {x y : Cf.Pt}, (x :: r).getLast? = some y → y.1 < x.1 → ∃ e ∈ Cf.prs (x :: r), e.2.1 < e.1.1
  | [], x, y, h, k => by
    have : x = y := Option.some.inj h
    rw [this] at k
    omega
  | q :: r, x, y, h, k => by
    by_cases c : q.1 < x.1
    · exact ⟨(x, q), by simp [Cf.prs], c⟩
    · rw [List.getLast?_cons_cons] at h
      obtain ⟨e, he, p⟩ := chain_down h (by omega)
      exact ⟨e, List.mem_cons_of_mem _ he, p⟩
theorem both_ways {l : List Cf.Pt} (F : Cf.Fig l) : (∃ e ∈ Rc60.edges l, 0 < e.2.1 - e.1.1) ∧ ∃ e ∈ Rc60.edges l, e.2.1 - e.1.1 < 0 := by
  obtain ⟨lo, hi, x0, xl, h⟩ := F.sh
  have w := h.wide
  constructor
  · have l1 := h.lo1
    rw [← h.loe] at l1
    obtain ⟨e, he, p⟩ := chain_up l1 w
    rw [h.loe] at he
    exact ⟨e, h.memE.mpr (.inl he), by omega⟩
  · have l1 := h.hi1
    rw [← h.hie] at l1
    obtain ⟨e, he, p⟩ := chain_down l1 w
    rw [h.hie] at he
    exact ⟨e, h.memE.mpr (.inr he), by omega⟩
theorem ends_of {l m : List Cf.Pt} {a L G : Int} (h : EndT ((Rc60.edges l).map (tri l m)) a L G) : Cf.Ends l m a L G := by
  refine ⟨?_, fun e he p => h.l2 _ (List.mem_map_of_mem he) p, ?_, fun e he p => h.g2 _ (List.mem_map_of_mem he) p⟩
  · obtain ⟨x, hx, p, q⟩ := h.l1
    obtain ⟨e, he, rfl⟩ := List.mem_map.mp hx
    exact ⟨e, he, p, q⟩
  · obtain ⟨x, hx, p, q⟩ := h.g1
    obtain ⟨e, he, rfl⟩ := List.mem_map.mp hx
    exact ⟨e, he, p, q⟩
theorem map_getD (vs : List Int) : (List.range vs.length).map (fun i => vs.getD i 0) = vs := by
  refine List.ext_getElem (by simp) fun i h1 h2 => ?_
  rw [List.getElem_map, List.getElem_range, List.getD_eq_getElem?_getD, List.getElem?_eq_getElem h2]
  rfl
section
variable {P : Program} {w : World} {K : PySem.W.Frag} {mg : Str → Option Value} {base : Heap}
/-! ## shifts -/
abbrev nSh : List Str := ["outer", "inner", "found", "outer_across", "inner_across", "least", "greatest", "x", "y", "a"]
theorem scSh : FnScope ["outer", "inner", "found", "outer_across", "inner_across", "least", "greatest", "x", "y", "a"] ["outer", "inner"] (defScope (top 24)) := ⟨rfl, rfl, rfl, by decide +kernel, rfl, by decide +kernel, by decide +kernel⟩
def spSh : Sp := fun vs H Q _ => ∃ (a b : Addr) (l m : List Cf.Pt), vs = [.ref a, .ref b] ∧ Pts H a l ∧ Pts H b m ∧ l.length ≤ 4200 ∧ m.length ≤ 4200 ∧ (∀ p ∈ l, Bx p) ∧ (∀ p ∈ m, Bx p) ∧ Cf.Fig l ∧ m ≠ [] ∧
  ∀ H', Same H H' → Q (.int (Rc60.roomFor l m : Nat)) H'
theorem ok_sh (D : Df K mg "shifts" (top 24) ["outer", "inner"]) (CL : Okd P w K mg base "limits" 2 ["outer", "inner"] spLi) (CA : Okd P w K mg base "shifts_along" 1 ["found", "a"] spSa) (mM : mg "max" = none) (mN : mg "min" = none) (mS : mg "sum" = none) (mR : mg "range" = none) :
    Okd P w K mg base "shifts" 3 ["outer", "inner"] spSh := by
  refine D.ok fun f fd F => F.ok scSh (fun vs H Q E h => ?_) (fun cdv A outer s H vs Q E hr h => ?_)
  · obtain ⟨a, b, l, m, rfl, _⟩ := h
    rfl
  · obtain ⟨a, b, l, m, rfl, hl, hm, few, fewm, bx, bm, fg, nem, k⟩ := h
    refine ⟨_, pss_cons (ps_set (i := 2) scSh.nd rfl (.inr rfl) (pe_cal CL hr (pa_cons (pv 0) (pa_cons (pv 1) pa_nil))))
      (pss_cons (ps_setLc (i := 3) (own := [("x", 7), ("y", 8)]) (g := gTup K 2 (gCons (gName 7) (gCons (gName 8) gNil))) (tt := tYes) (by rfl) scSh.nd rfl rfl (sw_true rfl rfl rfl (by decide +kernel)) (pi_list (pv 0)) (blkOk_by (N := ["outer", "inner", "found", "outer_across", "inner_across", "least", "greatest", "x", "y", "a"]) (sc := defScope (top 24)) (by decide +kernel))
          (fun _ _ _ _ _ => pg_tup rfl (pgs_cons (pg_name (i := 7) scSh.nd rfl (Or.inl rfl)) (pgs_cons (pg_name (i := 8) scSh.nd rfl (Or.inl rfl)) pgs_nil))) (fun _ _ _ _ _ => pts_nil) (fun _ _ _ _ _ => pv 7))
      (pss_cons (ps_setLc (i := 4) (own := [("x", 7), ("y", 8)]) (g := gTup K 2 (gCons (gName 7) (gCons (gName 8) gNil))) (tt := tYes) (by rfl) scSh.nd rfl rfl (sw_true rfl rfl rfl (by decide +kernel)) (pi_list (pv 1)) (blkOk_by (N := ["outer", "inner", "found", "outer_across", "inner_across", "least", "greatest", "x", "y", "a"]) (sc := defScope (top 24)) (by decide +kernel))
          (fun _ _ _ _ _ => pg_tup rfl (pgs_cons (pg_name (i := 7) scSh.nd rfl (Or.inl rfl)) (pgs_cons (pg_name (i := 8) scSh.nd rfl (Or.inl rfl)) pgs_nil))) (fun _ _ _ _ _ => pts_nil) (fun _ _ _ _ _ => pv 7))
      (pss_cons (ps_set (i := 5) scSh.nd rfl (.inl rfl) (pe_op op_sub (pe_callB (cr_min rfl) (by rfl) mN (by decide +kernel) (pa_cons (pv 3) pa_nil)) (pe_callB (cr_min rfl) (by rfl) mN (by decide +kernel) (pa_cons (pv 4) pa_nil))))
      (pss_cons (ps_set (i := 6) scSh.nd rfl (.inl rfl) (pe_op op_sub (pe_callB (cr_max rfl) (by rfl) mM (by decide +kernel) (pa_cons (pv 3) pa_nil)) (pe_callB (cr_max rfl) (by rfl) mM (by decide +kernel) (pa_cons (pv 4) pa_nil))))
      (pss_one (ps_ret (pe_callB (cr_sum rfl) (by rfl) mS (by decide +kernel) (pa_cons
        (pe_lc (own := [("a", 9)]) (g := gName 9) (tt := tYes) rfl scSh.nd (pi_range2 (by rfl) mR (pa_cons (pv 5) (pa_cons (pe_op op_add (pv 6) pe_int) pa_nil))) (blkOk_by (N := ["outer", "inner", "found", "outer_across", "inner_across", "least", "greatest", "x", "y", "a"]) (sc := defScope (top 24)) (by decide +kernel))
          (fun _ _ _ _ _ => pg_name (i := 9) scSh.nd rfl (Or.inl rfl)) (fun _ _ _ _ _ => pts_nil) (fun _ _ _ _ _ => pe_cal CA (hr.mono (by decide)) (pa_cons (pv 2) (pa_cons (pv 9) pa_nil)))) pa_nil)))))))), ?_⟩
    refine ⟨_, rfl, _, rfl, a, b, l, m, rfl, hl, hm, few, fewm, bx, bm, fg.ne, nem, fun H1 f s1 hf => ?_⟩
    obtain ⟨ts, h1, h2, h3⟩ := hl.keep mono_tup s1
    refine ⟨_, rfl, a, rfl, ⟨_, .inl (.inl h1)⟩, fun D3 n3 => ?_⟩
    refine lc_ints (f := fun p : Cf.Pt => .int p.1) mono_tup n3 h1 h2 h3 (Nat.le_trans few (by decide)) (fun t x H' Q' hx s' ht k' => un2 ht ⟨rfl, _, rfl, k' _ (Same.refl _)⟩) fun H2 s2 hD3 => ?_
    obtain ⟨us, g1, g2, g3⟩ := hm.keep mono_tup (s1.trans s2)
    refine ⟨_, rfl, b, rfl, ⟨_, .inl (.inl g1)⟩, fun D4 n4 => ?_⟩
    refine lc_ints (f := fun p : Cf.Pt => .int p.1) mono_tup n4 g1 g2 g3 (Nat.le_trans fewm (by decide)) (fun t x H' Q' hx s' ht k' => un2 ht ⟨rfl, _, rfl, k' _ (Same.refl _)⟩) fun H3 s3 hD4 => ?_
    have hD3' := s3 _ _ hD3
    have e3 : (l.map fun p : Cf.Pt => V.int p.1) = (l.map fun p => p.1).map V.int := by rw [List.map_map]; rfl
    have e4 : (m.map fun p : Cf.Pt => V.int p.1) = (m.map fun p => p.1).map V.int := by rw [List.map_map]; rfl
    rw [e3] at hD3'
    rw [e4] at hD4
    have pl : 0 < (l.map fun p : Cf.Pt => p.1).length := by rw [List.length_map]; exact List.length_pos_iff.mpr fg.ne
    have pm : 0 < (m.map fun p : Cf.Pt => p.1).length := by rw [List.length_map]; exact List.length_pos_iff.mpr nem
    refine ⟨_, rfl, D3, _, rfl, .inl (.inl hD3'), pl, fun x1 hx1 lx1 => ⟨_, rfl, D4, _, rfl, .inl (.inl hD4), pm, fun u1 hu1 lu1 => ⟨_, _, rfl, rfl, ?_⟩⟩⟩
    refine ⟨_, rfl, D3, _, rfl, .inl (.inl hD3'), pl, fun x2 hx2 lx2 => ⟨_, rfl, D4, _, rfl, .inl (.inl hD4), pm, fun u2 hu2 lu2 => ⟨_, _, rfl, rfl, ?_⟩⟩⟩
    have bd : ∀ {z : Int} {l : List Cf.Pt}, (∀ p ∈ l, Bx p) → z ∈ (l.map fun p : Cf.Pt => p.1) → -1048576 ≤ z ∧ z ≤ 1048576 := fun hb hz => by
      obtain ⟨p, hp, e⟩ := List.mem_map.mp hz
      have := hb p hp
      unfold Bx at this
      omega
    have b1 := bd bx hx1
    have b2 := bd bm hu1
    have b3 := bd bx hx2
    have b4 := bd bm hu2
    have hx : (x1, x2) = Rc60.reachOf (l.map fun p : Cf.Pt => p.1) := by
      rw [Cf.reach_eq, Cf.least_is hx1 lx1, Cf.most_is hx2 lx2]
    have hu : (u1, u2) = Rc60.reachOf (m.map fun p : Cf.Pt => p.1) := by
      rw [Cf.reach_eq, Cf.least_is hu1 lu1, Cf.most_is hu2 lu2]
    refine ⟨_, rfl, _, rfl, _, _, rfl, rfl, _, _, rfl, ⟨by omega, by omega, by omega, by omega⟩, fun Dd nD => ?_⟩
    have hf3 := hf.keep mono_tri (s2.trans s3)
    have le := edges_le l
    refine lc_range (lo := x1 - u1) (n := (x2 - u2 + 1 - (x1 - u1)).toNat) (fun i H' => Same H3 H' ∧ ∃ vs : List Int, vs.length = i ∧ H' Dd = some (.lst (vs.map V.int)) ∧ ∀ (j : Nat) v, vs[j]? = some v → ∃ L G, EndT ((Rc60.edges l).map (tri l m)) (x1 - u1 + j) L G ∧ v = max 0 (G - L + 1))
      ⟨new_same nD, [], rfl, upd_same, fun j v q => (by simp at q)⟩ ?_ ?_
    · rintro i H' hi ⟨s', vs, lv, hD, hv⟩
      refine ⟨rfl, _, rfl, _, rfl, f, _, _, rfl, hf3.keep mono_tri s', by rw [List.length_map]; omega, fun x hx => ?_, by omega, ?_, ?_, fun H4 L G s4 hE => ?_⟩
      · obtain ⟨e, he, rfl⟩ := List.mem_map.mp hx
        have m1 := bx _ (edge_in he).1
        have m2 := bx _ (edge_in he).2
        unfold Bx at m1 m2
        show (e.2.1 - e.1.1).natAbs ≤ _
        omega
      · obtain ⟨e, he, p⟩ := (both_ways fg).1
        exact ⟨_, List.mem_map_of_mem he, p⟩
      · obtain ⟨e, he, p⟩ := (both_ways fg).2
        exact ⟨_, List.mem_map_of_mem he, p⟩
      · refine ⟨_, s4 _ _ hD, ?_, fun b o q => ?_, vs ++ [max 0 (G - L + 1)], ?_, ?_, fun j v q => ?_⟩
        · rw [List.length_map, lv]
          exact Nat.lt_of_le_of_lt (show i ≤ 8388608 by omega) (by decide)
        · rw [upd_ne (ne_of_none q nD)]
          exact s4 _ _ (s' _ _ q)
        · rw [List.length_append, lv]; rfl
        · rw [upd_same, List.map_append]; rfl
        · by_cases c : j < vs.length
          · rw [List.getElem?_append_left c] at q
            exact hv j v q
          · rw [List.getElem?_append_right (by omega)] at q
            have j0 : j - vs.length = 0 := by
              have := (List.getElem?_eq_some_iff.mp q).1
              rw [List.length_singleton] at this
              omega
            rw [j0] at q
            have ej : j = i := by omega
            subst ej
            cases q
            exact ⟨L, G, hE, rfl⟩
    · rintro H' ⟨s', vs, lv, hD, hv⟩
      refine ⟨Dd, vs, rfl, .inl (.inl hD), ?_⟩
      have r := Cf.room_is fg nem hx hu (fun a => vs.getD (a - (x1 - u1)).toNat 0) fun a a1 a2 => by
        have lt : (a - (x1 - u1)).toNat < vs.length := by
          simp only at a1 a2
          omega
        obtain ⟨L, G, hE, e⟩ := hv (a - (x1 - u1)).toNat _ (List.getElem?_eq_getElem lt)
        have ea : x1 - u1 + ((a - (x1 - u1)).toNat : Int) = a := by
          simp only at a1 a2
          omega
        rw [ea] at hE
        refine ⟨L, G, ends_of hE, ?_⟩
        rw [List.getD_eq_getElem?_getD, List.getElem?_eq_getElem lt]
        exact e
      have en : (x2 - u2 - (x1 - u1) + 1).toNat = vs.length := by omega
      simp only at r
      rw [en] at r
      have em : ((List.range vs.length).map fun (i : Nat) => vs.getD (x1 - u1 + (i : Int) - (x1 - u1)).toNat 0) = vs := by
        conv => rhs; rw [← map_getD vs]
        refine List.map_congr_left fun i _ => ?_
        rw [show (x1 - u1 + (i : Int) - (x1 - u1)).toNat = i by omega]
      rw [em] at r
      rw [r]
      exact k _ (s1.trans (s2.trans (s3.trans s')))
end
end Cs

set_option maxRecDepth 100000
set_option maxHeartbeats 4000000
namespace Cs
open PySem PySem.Spec PyProof.Rows L2
section
variable {P : Program} {w : World} {K : PySem.W.Frag} {mg : Str → Option Value} {base : Heap}
/-! ## reach -/
theorem scRe : FnScope ["figure", "direction", "heights", "x", "y"] ["figure", "direction"] (defScope (top 26)) := ⟨rfl, rfl, rfl, by decide +kernel, rfl, by decide +kernel, by decide +kernel⟩
def spRe : Sp := fun vs H Q _ => ∃ (a b : Addr) (l : List Cf.Pt) (d : Cf.Pt), vs = [.ref a, .ref b] ∧ Pts H a l ∧ TupP H b d ∧ l.length ≤ 4200 ∧ (∀ p ∈ l, Bx p) ∧ l ≠ [] ∧ ∀ H', Same H H' → Q (.int (Rc60.along d l)) H'
theorem ok_re (D : Df K mg "reach" (top 26) ["figure", "direction"]) (mM : mg "max" = none) (mN : mg "min" = none) : Okd P w K mg base "reach" 1 ["figure", "direction"] spRe := by
  refine D.ok fun f fd F => F.ok scRe (fun vs H Q E h => ?_) (fun cdv A outer s H vs Q E hr h => ?_)
  · obtain ⟨a, b, l, d, rfl, _⟩ := h
    rfl
  · obtain ⟨a, b, l, d, rfl, hl, hd, few, bx, ne, k⟩ := h
    refine ⟨_, pss_cons (ps_setLc (i := 2) (own := [("x", 3), ("y", 4)]) (g := gTup K 2 (gCons (gName 3) (gCons (gName 4) gNil))) (tt := tYes) (by rfl) scRe.nd rfl rfl (sw_true rfl rfl rfl (by decide +kernel)) (pi_list (pv 0)) (blkOk_by (N := ["figure", "direction", "heights", "x", "y"]) (sc := defScope (top 26)) (by decide +kernel))
          (fun _ _ _ _ _ => pg_tup rfl (pgs_cons (pg_name (i := 3) scRe.nd rfl (Or.inl rfl)) (pgs_cons (pg_name (i := 4) scRe.nd rfl (Or.inl rfl)) pgs_nil))) (fun _ _ _ _ _ => pts_nil)
          (fun _ _ _ _ _ => pe_op op_add (pe_op op_mul (tik K (pv 1)) (pv 3)) (pe_op op_mul (tik K (pv 1)) (pv 4))))
      (pss_one (ps_ret (pe_op op_sub (pe_callB (cr_max rfl) (by rfl) mM (by decide +kernel) (pa_cons (pv 2) pa_nil)) (pe_callB (cr_min rfl) (by rfl) mN (by decide +kernel) (pa_cons (pv 2) pa_nil))))), ?_⟩
    obtain ⟨ts, h1, h2, h3⟩ := hl
    refine ⟨_, rfl, a, rfl, ⟨_, .inl (.inl h1)⟩, fun Dd nD => ?_⟩
    refine lc_ints (f := fun p => .int (d.1 * p.1 + d.2 * p.2)) mono_tup nD h1 h2 h3 (Nat.le_trans few (by decide)) (fun t x H' Q' hx s' ht k' => ?_) fun H' s' hD => ?_
    · have b := bx x hx
      unfold Bx at b
      have hd' : TupP H' _ d := s' _ _ hd
      exact un2 ht ⟨rfl, it0 rfl hd' ⟨_, rfl, _, _, rfl, rfl, .inr ⟨by omega, by omega⟩, it1 rfl hd' ⟨_, rfl, _, _, rfl, rfl, .inr ⟨by omega, by omega⟩, _, _, rfl, rfl, k' _ (Same.refl _)⟩⟩⟩
    · have e : (l.map fun p : Cf.Pt => V.int (d.1 * p.1 + d.2 * p.2)) = (l.map fun p => d.1 * p.1 + d.2 * p.2).map V.int := by rw [List.map_map]; rfl
      rw [e] at hD
      have pl : 0 < (l.map fun p : Cf.Pt => d.1 * p.1 + d.2 * p.2).length := by rw [List.length_map]; exact List.length_pos_iff.mpr ne
      refine ⟨_, rfl, Dd, _, rfl, .inl (.inl hD), pl, fun x hx lx => ⟨_, rfl, Dd, _, rfl, .inl (.inl hD), pl, fun u hu lu => ⟨_, _, rfl, rfl, ?_⟩⟩⟩
      have e2 : Rc60.along d l = x - u := by
        show (l.map fun p => d.1 * p.1 + d.2 * p.2).foldl max ((l.map fun p => d.1 * p.1 + d.2 * p.2).headD 0) - (l.map fun p => d.1 * p.1 + d.2 * p.2).foldl min ((l.map fun p => d.1 * p.1 + d.2 * p.2).headD 0) = _
        rw [Cf.most_is hx lx, Cf.least_is hu lu]
      show Q (.int (x - u)) H'
      rw [← e2]
      exact k _ s'
/-! ## moved -/
theorem scMo : FnScope ["direction", "times", "other"] ["direction", "times", "other"] (defScope (top 27)) := ⟨rfl, rfl, rfl, by decide +kernel, rfl, by decide +kernel, by decide +kernel⟩
def spMo : Sp := fun vs H Q _ => ∃ (a b : Addr) (t : Int) (g s : Cf.Pt), vs = [.ref a, .int t, .ref b] ∧ TupP H a g ∧ TupP H b s ∧ t.natAbs ≤ 67108864 ∧ ∀ H' p, Same H H' → TupP H' p (Cf.mv g s t) → Q (.ref p) H'
theorem ok_mo (D : Df K mg "moved" (top 27) ["direction", "times", "other"]) : Okd P w K mg base "moved" 1 ["direction", "times", "other"] spMo := by
  refine D.ok fun f fd F => F.ok scMo (fun vs H Q E h => ?_) (fun cdv A outer s H vs Q E hr h => ?_)
  · obtain ⟨a, b, t, g, s, rfl, _⟩ := h
    rfl
  · obtain ⟨a, b, t, g, s, rfl, ha, hb, ht, k⟩ := h
    refine ⟨_, pss_one (ps_ret (pe_tup (pa_cons (pe_op op_add (ti (pv 0)) (pe_op op_mul (pv 1) (ti (pv 2)))) (pa_cons (pe_op op_add (ti (pv 0)) (pe_op op_mul (pv 1) (ti (pv 2)))) pa_nil)))), ?_⟩
    exact it0 rfl ha ⟨_, rfl, it0 rfl hb ⟨_, _, rfl, rfl, .inl ⟨by omega, by omega⟩, _, _, rfl, rfl, it1 rfl ha ⟨_, rfl, it1 rfl hb ⟨_, _, rfl, rfl, .inl ⟨by omega, by omega⟩, _, _, rfl, rfl, (by show 2 ≤ sizeLine; decide), fun p np => k _ p (new_same np) upd_same⟩⟩⟩⟩
/-! ## lowered -/
theorem scLo : FnScope ["figure", "long", "short", "high", "low", "middle", "here"] ["figure", "long", "short"] (defScope (top 28)) := ⟨rfl, rfl, rfl, by decide +kernel, rfl, by decide +kernel, by decide +kernel⟩
def spLo : Sp := fun vs H Q _ => ∃ (a b c : Addr) (l : List Cf.Pt) (g s : Cf.Pt), vs = [.ref a, .ref b, .ref c] ∧ Pts H a l ∧ TupP H b g ∧ TupP H c s ∧ l.length ≤ 4200 ∧ (∀ p ∈ l, Bx p) ∧ Cf.Fig l ∧ (s.1 ≠ 0 ∨ s.2 ≠ 0) ∧ Rc60.along g l ≤ 8388608 ∧ Rc60.along s l ≤ 8388608 ∧
  ∀ H' p t, Same H H' → TupP H' p (Cf.mv g s t) → (∀ u, Rc60.along (Cf.mv g s t) l ≤ Rc60.along (Cf.mv g s u) l) → Q (.ref p) H'
theorem ok_lo (D : Df K mg "lowered" (top 28) ["figure", "long", "short"]) (CR : Okd P w K mg base "reach" 1 ["figure", "direction"] spRe) (CM : Okd P w K mg base "moved" 1 ["direction", "times", "other"] spMo) : Okd P w K mg base "lowered" 2 ["figure", "long", "short"] spLo := by
  refine D.ok fun f fd F => F.ok scLo (fun vs H Q E h => ?_) (fun cdv A outer s H vs Q E hr h => ?_)
  · obtain ⟨a, b, c, l, g, s, rfl, _⟩ := h
    rfl
  · obtain ⟨a, b, c, l, g, s, rfl, hl, hb, hc, few, bx, fg, ns, ng, nss, k⟩ := h
    refine ⟨_, pss_cons (ps_set (i := 3) scLo.nd rfl (.inl rfl) (pe_op op_fdivN (pe_op op_mul pe_int (pe_cal CR hr (pa_cons (pv 0) (pa_cons (pv 1) pa_nil)))) (pe_cal CR hr (pa_cons (pv 0) (pa_cons (pv 2) pa_nil)))))
      (pss_cons (ps_set (i := 4) scLo.nd rfl (.inl rfl) (pe_op op_sub pe_int (pv 3)))
      (pss_cons (ps_while PassesOwn.never (pt_cmpR op_lt (pv 4) (pv 3) (nomark _))
        (pss_cons (ps_set (i := 5) scLo.nd rfl (.inl rfl) (pe_op op_fdivN (pe_op op_add (pv 4) (pv 3)) pe_int))
        (pss_cons (ps_set (i := 6) scLo.nd rfl (.inl rfl) (pe_cal CR hr (pa_cons (pv 0) (pa_cons (pe_cal CM hr (pa_cons (pv 1) (pa_cons (pv 5) (pa_cons (pv 2) pa_nil)))) pa_nil))))
        (pss_one (ps_if (pt_cmpR op_lt (pe_cal CR hr (pa_cons (pv 0) (pa_cons (pe_cal CM hr (pa_cons (pv 1) (pa_cons (pe_op op_add (pv 5) pe_int) (pa_cons (pv 2) pa_nil)))) pa_nil))) (pv 6) (nomark _))
          (pss_one (ps_set (i := 4) scLo.nd rfl (.inl rfl) (pe_op op_add (pv 5) pe_int)))
          (pss_one (ps_set (i := 3) scLo.nd rfl (.inl rfl) (pv 5))))))))
      (pss_one (ps_ret (pe_cal CM hr (pa_cons (pv 1) (pa_cons (pv 4) (pa_cons (pv 2) pa_nil)))))))), ?_⟩
    have nrm := Cf.along_norm fg
    have ps : 0 < Rc60.along s l := nrm.pos s.1 s.2 ns
    have pg : 0 ≤ Rc60.along g l := nrm.nn g.1 g.2
    obtain ⟨M, hM⟩ : ∃ M, M = (2 * Rc60.along g l).fdiv (Rc60.along s l) := ⟨_, rfl⟩
    have hM2 : M = 2 * Rc60.along g l / Rc60.along s l := by rw [hM, Int.fdiv_eq_ediv_of_nonneg _ (Int.le_of_lt ps)]
    have M0 : 0 ≤ M := by rw [hM2]; exact Int.ediv_nonneg (by omega) (by omega)
    have M1 : M ≤ 16777216 := by
      rw [hM2]
      exact Int.le_trans (Int.ediv_le_self _ (by omega)) (by omega)
    refine ⟨_, rfl, _, rfl, a, b, l, g, rfl, hl, hb, few, bx, fg.ne, fun H1 s1 => ⟨_, _, rfl, rfl, .inl ⟨by decide, by decide⟩, _, rfl, _, rfl, a, c, l, s, rfl, hl.keep mono_tup s1, s1 _ _ hc, few, bx, fg.ne, fun H2 s2 => ⟨_, _, rfl, rfl, ⟨by omega, by omega⟩, _, rfl, _, _, rfl, rfl, ?_⟩⟩⟩
    rw [← hM]
    refine ⟨fun m σ H' => ∃ lo hi x5 x6, σ = [some (.ref a), some (.ref b), some (.ref c), some (.int hi), some (.int lo), x5, x6] ∧ Same H H' ∧ -16777216 ≤ lo ∧ hi ≤ 16777216 ∧ Cf.Hv (N := fun d => Rc60.along d l) g s lo hi ∧ m = (hi - lo).toNat,
      ⟨_, 0 - M, M, none, none, (by subst hM; rfl), s1.trans s2, by omega, by omega, Cf.Hv.start nrm g s ps hM2, rfl⟩, ?_⟩
    rintro m σ H' ⟨lo, hi, x5, x6, rfl, sm, b1, b2, hv, rfl⟩
    have le := hv.le
    refine ⟨_, rfl, _, rfl, _, _, rfl, rfl, _, rfl, ite2 (fun cc => ?_) (fun cc => ?_)⟩
    · have lt : lo < hi := of_decide_eq_true cc
      obtain ⟨md, hmd⟩ : ∃ md, md = (lo + hi).fdiv 2 := ⟨_, rfl⟩
      have md2 : md = (lo + hi) / 2 := by rw [hmd, Int.fdiv_eq_ediv_of_nonneg _ (by decide)]
      have d1 : lo ≤ md := by omega
      have d2 : md < hi := by omega
      refine ⟨fun σ' H3 => ∃ lo' hi' x5 x6, σ' = [some (.ref a), some (.ref b), some (.ref c), some (.int hi'), some (.int lo'), x5, x6] ∧ Same H H3 ∧ -16777216 ≤ lo' ∧ hi' ≤ 16777216 ∧ Cf.Hv (N := fun d => Rc60.along d l) g s lo' hi' ∧ hi' - lo' < hi - lo, ?_, ?_⟩
      · rintro σ' H3 ⟨lo', hi', y5, y6, e, q1, q2, q3, q4, q5⟩
        have := q4.le
        exact ⟨_, by omega, lo', hi', y5, y6, e, q1, q2, q3, q4, rfl⟩
      · have st := hv.step nrm d1 d2
        refine ⟨_, rfl, _, rfl, _, _, rfl, rfl, _, _, rfl, rfl, ⟨show (2 : Int) ≠ 0 by decide, show (2 : Int).natAbs < 1073741824 by decide⟩, ?_⟩
        clear md2
        subst hmd
        refine ⟨_, rfl, _, rfl, _, rfl, _, rfl, b, c, _, g, s, rfl, sm _ _ hb, sm _ _ hc, by omega, fun H3 p s3 hp => ?_⟩
        have sm3 := sm.trans s3
        refine ⟨a, p, l, _, rfl, hl.keep mono_tup sm3, hp, few, bx, fg.ne, fun H4 s4 => ?_⟩
        have sm4 := sm3.trans s4
        refine ⟨_, rfl, _, rfl, _, rfl, _, _, rfl, rfl, _, rfl, b, c, _, g, s, rfl, sm4 _ _ hb, sm4 _ _ hc, by omega, fun H5 p2 s5 hp2 => ?_⟩
        have sm5 := sm4.trans s5
        refine ⟨a, p2, l, _, rfl, hl.keep mono_tup sm5, hp2, few, bx, fg.ne, fun H6 s6 => ?_⟩
        have sm6 := sm5.trans s6
        refine ⟨_, rfl, _, _, rfl, rfl, _, rfl, ite2 (fun c2 => ?_) (fun c2 => ?_)⟩
        · exact ⟨_, rfl, _, _, rfl, rfl, _, hi, _, _, rfl, sm6, by omega, by omega, st.1 (of_decide_eq_true c2), by omega⟩
        · exact ⟨_, rfl, lo, _, _, _, rfl, sm6, by omega, by omega, st.2 (fun q => c2 (decide_eq_true q)), by omega⟩
    · have eq : lo = hi := by
        have : ¬ lo < hi := fun q => cc (decide_eq_true q)
        omega
      refine ⟨_, rfl, _, rfl, _, rfl, b, c, lo, g, s, rfl, sm _ _ hb, sm _ _ hc, by omega, fun H3 p s3 hp => ?_⟩
      exact k H3 p lo (sm.trans s3) hp (hv.best eq)
/-! ## width -/
theorem scWi : FnScope ["figure", "short", "long", "kept"] ["figure"] (defScope (top 29)) := ⟨rfl, rfl, rfl, by decide +kernel, rfl, by decide +kernel, by decide +kernel⟩
def spWi : Sp := fun vs H Q _ => ∃ (a : Addr) (l : List Cf.Pt), vs = [.ref a] ∧ Pts H a l ∧ l.length ≤ 4200 ∧ (∀ p ∈ l, Bx p) ∧ Cf.Fig l ∧ ∀ H', Same H H' → 0 ≤ Rc60.widthOf l → Rc60.widthOf l ≤ 8388608 → Q (.int (Rc60.widthOf l)) H'
theorem base_ne {s g : Cf.Pt} (h : Cf.Base s g) : (s.1 ≠ 0 ∨ s.2 ≠ 0) := by
  by_cases c : s.1 = 0
  · by_cases d : s.2 = 0
    · unfold Cf.Base at h
      rw [c, d, Int.zero_mul, Int.zero_mul] at h
      omega
    · exact .inr d
  · exact .inl c
theorem base_swap {s g : Cf.Pt} (h : Cf.Base s g) : Cf.Base g s := by
  unfold Cf.Base at *
  rw [Int.mul_comm g.1, Int.mul_comm g.2]
  omega
theorem base_mv {s g : Cf.Pt} (h : Cf.Base s g) (t : Int) : Cf.Base s (Cf.mv g s t) := by
  unfold Cf.Base Cf.mv at *
  have : s.1 * (g.2 + t * s.2) - s.2 * (g.1 + t * s.1) = s.1 * g.2 - s.2 * g.1 := by grind
  simp only
  rw [this]
  exact h
theorem along_bd {l : List Cf.Pt} {d : Cf.Pt} (ne : l ≠ []) (bx : ∀ p ∈ l, Bx p) (h : d = (1, 0) ∨ d = (0, 1)) : Rc60.along d l ≤ 8388608 := by
  have nn : (l.map fun p => d.1 * p.1 + d.2 * p.2) ≠ [] := by simpa using ne
  have e1 := (Cf.most_mem nn).1
  have e2 := (Cf.least_mem nn).1
  have b : ∀ z ∈ (l.map fun p => d.1 * p.1 + d.2 * p.2), -1048576 ≤ z ∧ z ≤ 1048576 := fun z hz => by
    obtain ⟨p, hp, e⟩ := List.mem_map.mp hz
    have := bx p hp
    unfold Bx at this
    rcases h with h | h <;> (rw [h] at e; simp only at e; omega)
  have := b _ e1
  have := b _ e2
  show (l.map fun p => d.1 * p.1 + d.2 * p.2).foldl max ((l.map fun p => d.1 * p.1 + d.2 * p.2).headD 0) - (l.map fun p => d.1 * p.1 + d.2 * p.2).foldl min ((l.map fun p => d.1 * p.1 + d.2 * p.2).headD 0) ≤ _
  omega
theorem ok_wi (D : Df K mg "width" (top 29) ["figure"]) (CR : Okd P w K mg base "reach" 1 ["figure", "direction"] spRe) (CL : Okd P w K mg base "lowered" 2 ["figure", "long", "short"] spLo) : Okd P w K mg base "width" 3 ["figure"] spWi := by
  refine D.ok fun f fd F => F.ok scWi (fun vs H Q E h => ?_) (fun cdv A outer s H vs Q E hr h => ?_)
  · obtain ⟨a, l, rfl, _⟩ := h
    rfl
  · obtain ⟨a, l, rfl, hl, few, bx, fg, k⟩ := h
    have hr1 := hr.mono (j := 1) (by decide)
    refine ⟨_, pss_cons (ps_set (i := 1) scWi.nd rfl (.inl rfl) (pe_tup (pa_cons pe_int (pa_cons pe_int pa_nil))))
      (pss_cons (ps_set (i := 2) scWi.nd rfl (.inl rfl) (pe_tup (pa_cons pe_int (pa_cons pe_int pa_nil))))
      (pss_one (ps_while PassesOwn.never (pt_val pe_bl)
        (pss_cons (ps_if (pt_cmpR op_lt (pe_cal CR (hr.mono (by decide)) (pa_cons (pv 0) (pa_cons (pv 2) pa_nil))) (pe_cal CR (hr.mono (by decide)) (pa_cons (pv 0) (pa_cons (pv 1) pa_nil))) (nomark _))
          (pss_cons (ps_set (i := 3) scWi.nd rfl (.inl rfl) (pv 1)) (pss_cons (ps_set (i := 1) scWi.nd rfl (.inl rfl) (pv 2)) (pss_one (ps_set (i := 2) scWi.nd rfl (.inl rfl) (pv 3))))) pss_nil)
        (pss_cons (ps_set (i := 2) scWi.nd rfl (.inl rfl) (pe_cal CL hr (pa_cons (pv 0) (pa_cons (pv 2) (pa_cons (pv 1) pa_nil)))))
        (pss_one (ps_if (pt_cmpR op_le (pe_cal CR (hr.mono (by decide)) (pa_cons (pv 0) (pa_cons (pv 1) pa_nil))) (pe_cal CR (hr.mono (by decide)) (pa_cons (pv 0) (pa_cons (pv 2) pa_nil))) (nomark _))
          (pss_one (ps_ret (pe_cal CR (hr.mono (by decide)) (pa_cons (pv 0) (pa_cons (pv 1) pa_nil))))) pss_nil))))))), ?_⟩
    have nrm := Cf.along_norm fg
    refine ⟨(by show 2 ≤ sizeLine; decide), fun sa na => ?_⟩
    have s1 := new_same (o := .tup [.int 1, .int 0]) na
    refine ⟨(by show 2 ≤ sizeLine; decide), fun ga nga => ?_⟩
    have s2 := new_same (o := .tup [.int 0, .int 1]) nga
    refine ⟨fun m σ H' => ∃ S G s g x3, σ = [some (.ref a), some (.ref S), some (.ref G), x3] ∧ Same H H' ∧ TupP H' S s ∧ TupP H' G g ∧ Cf.Base s g ∧ Rc60.along s l ≤ 8388608 ∧ Rc60.along g l ≤ 8388608 ∧ m = (min (Rc60.along s l) (Rc60.along g l)).toNat,
      ⟨_, sa, ga, (1, 0), (0, 1), none, rfl, s1.trans s2, s2 _ _ upd_same, upd_same, .inl rfl, along_bd fg.ne bx (.inl rfl), along_bd fg.ne bx (.inr rfl), rfl⟩, ?_⟩
    rintro m σ H' ⟨S, G, s, g, x3, rfl, sm, hS, hG, hB, bs, bg, rfl⟩
    obtain ⟨μ, hμ⟩ : ∃ μ, μ = min (Rc60.along s l) (Rc60.along g l) := ⟨_, rfl⟩
    rw [← hμ]
    refine ⟨true, rfl, iteT ⟨fun σ' H3 => ∃ S G s g x3, σ' = [some (.ref a), some (.ref S), some (.ref G), x3] ∧ Same H H3 ∧ TupP H3 S s ∧ TupP H3 G g ∧ Cf.Base s g ∧ Rc60.along s l ≤ 8388608 ∧ Rc60.along g l ≤ 8388608 ∧ min (Rc60.along s l) (Rc60.along g l) < μ, ?_, ?_⟩⟩
    · rintro σ' H3 ⟨S', G', s', g', y3, e, q1, q2, q3, q4, q5, q6, q7⟩
      have n1 : 0 ≤ Rc60.along s' l := nrm.nn s'.1 s'.2
      have n2 : 0 ≤ Rc60.along g' l := nrm.nn g'.1 g'.2
      exact ⟨_, by omega, S', G', s', g', y3, e, q1, q2, q3, q4, q5, q6, rfl⟩
    · refine ⟨_, rfl, _, rfl, a, G, l, g, rfl, hl.keep mono_tup sm, hG, few, bx, fg.ne, fun H3 s3 => ?_⟩
      have sm3 := sm.trans s3
      refine ⟨_, rfl, _, rfl, a, S, l, s, rfl, hl.keep mono_tup sm3, s3 _ _ hS, few, bx, fg.ne, fun H4 s4 => ?_⟩
      have sm4 := sm3.trans s4
      have hS4 : TupP H4 S s := s4 _ _ (s3 _ _ hS)
      have hG4 : TupP H4 G g := s4 _ _ (s3 _ _ hG)
      refine ⟨_, _, rfl, rfl, _, rfl, ite2 (fun c => ?_) (fun c => ?_)⟩
      · obtain ⟨Sa, eSa⟩ : ∃ Sa, Sa = G := ⟨_, rfl⟩
        obtain ⟨Ga, eGa⟩ : ∃ Ga, Ga = S := ⟨_, rfl⟩
        obtain ⟨s1', es⟩ : ∃ z, z = g := ⟨_, rfl⟩
        obtain ⟨g1, eg⟩ : ∃ z, z = s := ⟨_, rfl⟩
        have cc : Rc60.along g l < Rc60.along s l := of_decide_eq_true c
        refine ⟨_, rfl, _, rfl, _, rfl, ?_⟩
        rw [← eSa] at hG4 ⊢
        rw [← eGa] at hS4 ⊢
        rw [← es] at hG4 hB bg cc hμ
        rw [← eg] at hS4 hB bs cc hμ
        have hSa := hG4
        have hGa := hS4
        have hB1 := base_swap hB
        have bg1 := bs
        have bs1 := bg
        have mu : μ = Rc60.along s1' l := by omega
        refine ⟨_, rfl, _, rfl, _, rfl, a, Ga, Sa, l, g1, s1', rfl, hl.keep mono_tup sm4, hGa, hSa, few, bx, fg, base_ne hB1, bg1, bs1, fun H5 p t s5 hp best => ?_⟩
        have sm5 := sm4.trans s5
        have b0 := best 0
        have e0 : Cf.mv g1 s1' 0 = g1 := by unfold Cf.mv; simp
        rw [e0] at b0
        refine ⟨_, rfl, _, rfl, a, Sa, l, s1', rfl, hl.keep mono_tup sm5, s5 _ _ hSa, few, bx, fg.ne, fun H6 s6 => ?_⟩
        have sm6 := sm5.trans s6
        refine ⟨_, rfl, _, rfl, a, p, l, _, rfl, hl.keep mono_tup sm6, s6 _ _ hp, few, bx, fg.ne, fun H7 s7 => ?_⟩
        have sm7 := sm6.trans s7
        refine ⟨_, _, rfl, rfl, _, rfl, ite2 (fun c2 => ?_) (fun c2 => ?_)⟩
        · have le2 : Rc60.along s1' l ≤ Rc60.along (Cf.mv g1 s1' t) l := of_decide_eq_true c2
          refine ⟨_, rfl, _, rfl, a, Sa, l, s1', rfl, hl.keep mono_tup sm7, s7 _ _ (s6 _ _ (s5 _ _ hSa)), few, bx, fg.ne, fun H8 s8 => ?_⟩
          have wi : Rc60.widthOf l = Rc60.along s1' l := Cf.width_is fg ⟨s1', base_ne hB1, rfl⟩ fun d hd => nrm.least (base_mv hB1 t) le2 (fun u => by
            have := best (t + u)
            have e : Cf.mv (Cf.mv g1 s1' t) s1' u = Cf.mv g1 s1' (t + u) := by
              unfold Cf.mv
              refine Prod.ext ?_ ?_ <;> (simp only; grind)
            show Rc60.along (Cf.mv g1 s1' t) l ≤ Rc60.along (Cf.mv (Cf.mv g1 s1' t) s1' u) l
            rw [e]
            exact this) d hd
          show Q (.int (Rc60.along s1' l)) H8
          have nn : 0 ≤ Rc60.along s1' l := nrm.nn s1'.1 s1'.2
          rw [← wi] at nn bs1 ⊢
          exact k _ (sm7.trans s8) nn bs1
        · have lt2 : Rc60.along (Cf.mv g1 s1' t) l < Rc60.along s1' l := by
            have : ¬ Rc60.along s1' l ≤ Rc60.along (Cf.mv g1 s1' t) l := fun q => c2 (decide_eq_true q)
            omega
          exact ⟨Sa, p, s1', _, _, rfl, sm7, s7 _ _ (s6 _ _ (s5 _ _ hSa)), s7 _ _ (s6 _ _ hp), base_mv hB1 t, bs1, by omega, by omega⟩
      · obtain ⟨Sa, eSa⟩ : ∃ Sa, Sa = S := ⟨_, rfl⟩
        obtain ⟨Ga, eGa⟩ : ∃ Ga, Ga = G := ⟨_, rfl⟩
        obtain ⟨s1', es⟩ : ∃ z, z = s := ⟨_, rfl⟩
        obtain ⟨g1, eg⟩ : ∃ z, z = g := ⟨_, rfl⟩
        have cc : ¬ Rc60.along g l < Rc60.along s l := fun q => c (decide_eq_true q)
        rw [← eSa] at hS4
        rw [← eGa] at hG4
        rw [← es] at hS4 hB bs cc hμ
        rw [← eg] at hG4 hB bg cc hμ
        have hSa := hS4
        have hGa := hG4
        have hB1 := hB
        have bg1 := bg
        have bs1 := bs
        have mu : μ = Rc60.along s1' l := by omega
        subst eSa eGa
        refine ⟨_, rfl, _, rfl, _, rfl, a, Ga, Sa, l, g1, s1', rfl, hl.keep mono_tup sm4, hGa, hSa, few, bx, fg, base_ne hB1, bg1, bs1, fun H5 p t s5 hp best => ?_⟩
        have sm5 := sm4.trans s5
        have b0 := best 0
        have e0 : Cf.mv g1 s1' 0 = g1 := by unfold Cf.mv; simp
        rw [e0] at b0
        refine ⟨_, rfl, _, rfl, a, Sa, l, s1', rfl, hl.keep mono_tup sm5, s5 _ _ hSa, few, bx, fg.ne, fun H6 s6 => ?_⟩
        have sm6 := sm5.trans s6
        refine ⟨_, rfl, _, rfl, a, p, l, _, rfl, hl.keep mono_tup sm6, s6 _ _ hp, few, bx, fg.ne, fun H7 s7 => ?_⟩
        have sm7 := sm6.trans s7
        refine ⟨_, _, rfl, rfl, _, rfl, ite2 (fun c2 => ?_) (fun c2 => ?_)⟩
        · have le2 : Rc60.along s1' l ≤ Rc60.along (Cf.mv g1 s1' t) l := of_decide_eq_true c2
          refine ⟨_, rfl, _, rfl, a, Sa, l, s1', rfl, hl.keep mono_tup sm7, s7 _ _ (s6 _ _ (s5 _ _ hSa)), few, bx, fg.ne, fun H8 s8 => ?_⟩
          have wi : Rc60.widthOf l = Rc60.along s1' l := Cf.width_is fg ⟨s1', base_ne hB1, rfl⟩ fun d hd => nrm.least (base_mv hB1 t) le2 (fun u => by
            have := best (t + u)
            have e : Cf.mv (Cf.mv g1 s1' t) s1' u = Cf.mv g1 s1' (t + u) := by
              unfold Cf.mv
              refine Prod.ext ?_ ?_ <;> (simp only; grind)
            show Rc60.along (Cf.mv g1 s1' t) l ≤ Rc60.along (Cf.mv (Cf.mv g1 s1' t) s1' u) l
            rw [e]
            exact this) d hd
          show Q (.int (Rc60.along s1' l)) H8
          have nn : 0 ≤ Rc60.along s1' l := nrm.nn s1'.1 s1'.2
          rw [← wi] at nn bs1 ⊢
          exact k _ (sm7.trans s8) nn bs1
        · have lt2 : Rc60.along (Cf.mv g1 s1' t) l < Rc60.along s1' l := by
            have : ¬ Rc60.along s1' l ≤ Rc60.along (Cf.mv g1 s1' t) l := fun q => c2 (decide_eq_true q)
            omega
          exact ⟨Sa, p, s1', _, _, rfl, sm7, s7 _ _ (s6 _ _ (s5 _ _ hSa)), s7 _ _ (s6 _ _ hp), base_mv hB1 t, bs1, by omega, by omega⟩
end
end Cs

set_option maxRecDepth 100000
set_option maxHeartbeats 4000000
namespace Cs
open PySem PySem.Spec PyProof.Rows L2
/-- a module's number -/
def Cst (mg : Str → Option Value) (nm : Str) (n : Int) : Prop := ∃ t, mg nm = some (.int n t)
theorem pe_cst {X : Cx} {nm : Str} {n : Int} {p : Pos} (c : Cst X.mg nm n) (hg : Gl X nm := by rfl) (hd : (nm == ("__debug__" : Str)) = false := by decide) : PE X (.Name nm p) (tC (.int n)) := by
  refine ⟨fun pins s σ H Q I h => ?_⟩
  obtain ⟨t, e⟩ := c
  exact (pe_glob (v := .int n) hg e ⟨_, rfl⟩ hd).run pins s σ H Q I h
section
variable {P : Program} {w : World} {K : PySem.W.Frag} {mg : Str → Option Value} {base : Heap}
/-! ## signed, lifted, in_bounds, is_place -/
theorem scSg : FnScope ["number"] ["number"] (defScope (top 40)) := ⟨rfl, rfl, rfl, by decide +kernel, rfl, by decide +kernel, by decide +kernel⟩
def sgn (n : Int) : Int := if n ≥ 2147483648 then n - 4294967296 else n
def spSg : Sp := fun vs H Q _ => ∃ n : Int, vs = [.int n] ∧ Q (.int (sgn n)) H
theorem ok_sg (D : Df K mg "signed" (top 40) ["number"]) (c1 : Cst mg "LEAST_LIFTED" 2147483648) (c2 : Cst mg "LIFT" 4294967296) : Okd P w K mg base "signed" 1 ["number"] spSg := by
  refine D.ok fun f fd F => F.ok scSg (fun vs H Q E h => ?_) (fun cdv A outer s H vs Q E hr h => ?_)
  · obtain ⟨n, rfl, _⟩ := h
    rfl
  · obtain ⟨n, rfl, k⟩ := h
    refine ⟨_, pss_one (ps_ret (pe_ifExp (pt_cmpR op_ge (pv 0) (pe_cst c1) (nomark _)) (pe_op op_sub (pv 0) (pe_cst c2)) (pv 0))), ?_⟩
    unfold sgn at k
    refine ⟨_, rfl, _, _, rfl, rfl, _, rfl, ite2 (fun c => ?_) (fun c => ?_)⟩
    · rw [if_pos (of_decide_eq_true c)] at k
      exact ⟨_, rfl, _, _, rfl, rfl, k⟩
    · rw [if_neg (fun q => c (decide_eq_true q))] at k
      exact ⟨_, rfl, k⟩
theorem scLf : FnScope ["number"] ["number"] (defScope (top 41)) := ⟨rfl, rfl, rfl, by decide +kernel, rfl, by decide +kernel, by decide +kernel⟩
def lft (n : Int) : Int := if n < 0 then n + 4294967296 else n
def spLf : Sp := fun vs H Q _ => ∃ n : Int, vs = [.int n] ∧ Q (.int (lft n)) H
theorem ok_lf (D : Df K mg "lifted" (top 41) ["number"]) (c2 : Cst mg "LIFT" 4294967296) : Okd P w K mg base "lifted" 1 ["number"] spLf := by
  refine D.ok fun f fd F => F.ok scLf (fun vs H Q E h => ?_) (fun cdv A outer s H vs Q E hr h => ?_)
  · obtain ⟨n, rfl, _⟩ := h
    rfl
  · obtain ⟨n, rfl, k⟩ := h
    refine ⟨_, pss_one (ps_ret (pe_ifExp (pt_cmpR op_lt (pv 0) pe_int (nomark _)) (pe_op op_add (pv 0) (pe_cst c2)) (pv 0))), ?_⟩
    unfold lft at k
    refine ⟨_, rfl, _, _, rfl, rfl, _, rfl, ite2 (fun c => ?_) (fun c => ?_)⟩
    · rw [if_pos (of_decide_eq_true c)] at k
      exact ⟨_, rfl, _, _, rfl, rfl, k⟩
    · rw [if_neg (fun q => c (decide_eq_true q))] at k
      exact ⟨_, rfl, k⟩
theorem scIb : FnScope ["number"] ["number"] (defScope (top 42)) := ⟨rfl, rfl, rfl, by decide +kernel, rfl, by decide +kernel, by decide +kernel⟩
def inB (n : Int) : Bool := decide (-30000 ≤ n ∧ n ≤ 30000)
def spIb : Sp := fun vs H Q _ => ∃ n : Int, vs = [.int n] ∧ Q (.bl (inB n)) H
theorem ok_ib (D : Df K mg "in_bounds" (top 42) ["number"]) (mA : mg "abs" = none) (c : Cst mg "FARTHEST" 30000) : Okd P w K mg base "in_bounds" 1 ["number"] spIb := by
  refine D.ok fun f fd F => F.ok scIb (fun vs H Q E h => ?_) (fun cdv A outer s H vs Q E hr h => ?_)
  · obtain ⟨n, rfl, _⟩ := h
    rfl
  · obtain ⟨n, rfl, k⟩ := h
    refine ⟨_, pss_one (ps_ret (pe_cmpR op_le (pe_callB call_abs (by rfl) mA (by decide +kernel) (pa_cons (pv 0) pa_nil)) (pe_cst c) (nomark _))), ?_⟩
    have e : inB n = decide ((if n < 0 then -n else n) ≤ 30000) := decide_eq_decide.mpr (by split <;> omega)
    rw [e] at k
    exact ⟨_, rfl, _, rfl, _, _, rfl, rfl, k⟩
theorem scIp : FnScope ["slot"] ["slot"] (defScope (top 43)) := ⟨rfl, rfl, rfl, by decide +kernel, rfl, by decide +kernel, by decide +kernel⟩
def spIp : Sp := fun vs H Q _ => ∃ n : Int, vs = [.int n] ∧ Q (.bl (Rc60.isSlot n)) H
theorem ok_ip (D : Df K mg "is_place" (top 43) ["slot"]) (c : Cst mg "PLACES" 8) : Okd P w K mg base "is_place" 1 ["slot"] spIp := by
  refine D.ok fun f fd F => F.ok scIp (fun vs H Q E h => ?_) (fun cdv A outer s H vs Q E hr h => ?_)
  · obtain ⟨n, rfl, _⟩ := h
    rfl
  · obtain ⟨n, rfl, k⟩ := h
    refine ⟨_, pss_one (ps_ret (pe_chain op_le op_lt pe_int (pv 0) (pe_cst c))), ?_⟩
    refine ⟨_, rfl, _, _, rfl, rfl, _, rfl, ite2 (fun c => ?_) (fun c => ?_)⟩
    · have c0 : 0 ≤ n := of_decide_eq_true c
      refine ⟨_, _, rfl, rfl, ?_⟩
      have e : Rc60.isSlot n = decide (n < 8) := decide_eq_decide.mpr ⟨fun h => h.2, fun h => ⟨c0, h⟩⟩
      rw [e] at k
      exact k
    · have c0 : ¬ 0 ≤ n := fun q => c (decide_eq_true q)
      have e : Rc60.isSlot n = false := decide_eq_false fun h => c0 h.1
      rw [e] at k
      exact k
/-! ## the places -/
abbrev Slots := List (Option (List Cf.Pt))
structure PlA (H : Hp) (A : Addr) (st : Slots) : Prop where
  ex : ∃ ps : List V, H A = some (.lst ps) ∧ ps.length = 8 ∧ st.length = 8 ∧ ∀ (i : Nat), (st[i]? = some none → ps[i]? = some .non) ∧ ∀ l, st[i]? = some (some l) → Cf.Good l ∧ ∃ a, ps[i]? = some (.ref a) ∧ a ≠ A ∧ Pts H a l
/-- all but what stands at A -/
def SameX (A : Addr) (H H' : Hp) : Prop := ∀ b o, b ≠ A → H b = some o → H' b = some o
theorem SameX.pts {A : Addr} {H H' : Hp} {xs : List V} {a : Addr} {l : List Cf.Pt} (s : SameX A H H') (hA : H A = some (.lst xs)) (na : a ≠ A) (h : Pts H a l) : Pts H' a l := by
  obtain ⟨ts, h1, h2, h3⟩ := h
  refine ⟨ts, s _ _ na h1, h2, fun i t x g1 g2 => s _ _ (fun c => ?_) (h3 i t x g1 g2)⟩
  have := h3 i t x g1 g2
  rw [c] at this
  have := hA.symm.trans this
  cases this
theorem PlA.keep {A : Addr} {H H' : Hp} {st : Slots} (h : PlA H A st) (s : Same H H') : PlA H' A st := by
  obtain ⟨ps, h1, h2, h3, h4⟩ := h.ex
  refine ⟨ps, s _ _ h1, h2, h3, fun i => ⟨(h4 i).1, fun l hl => ?_⟩⟩
  obtain ⟨g, a, e1, e2, e3⟩ := (h4 i).2 l hl
  exact ⟨g, a, e1, e2, e3.keep mono_tup s⟩
theorem Same.x {A : Addr} {H H' : Hp} (s : Same H H') : SameX A H H' := fun b o _ e => s b o e
/-- a figure put -/
theorem PlA.put {A : Addr} {H H' : Hp} {st : Slots} {ps : List V} {i : Int} {l : List Cf.Pt} {a : Addr} (h : PlA H' A st) (hA : H' A = some (.lst ps)) (hi : Rc60.isSlot i = true) (g : Cf.Good l) (na : a ≠ A) (hl : Pts H' a l) :
    ixN ps.length i = some i.toNat ∧ PlA (upd H' A (.lst (ps.set i.toNat (.ref a)))) A (st.set i.toNat (some l)) := by
  obtain ⟨ps', h1, h2, h3, h4⟩ := h.ex
  rw [hA] at h1
  cases h1
  have i8 : 0 ≤ i ∧ i < 8 := of_decide_eq_true hi
  refine ⟨?_, ⟨_, upd_same, by rw [List.length_set, h2], by rw [List.length_set, h3], fun j => ⟨fun e => ?_, fun m e => ?_⟩⟩⟩
  · unfold ixN
    rw [if_pos i8.1, if_pos (by omega)]
  · rw [List.getElem?_set] at e ⊢
    split at e
    · split at e <;> cases e
    · rw [if_neg (by assumption)]
      exact (h4 j).1 e
  · have sx : SameX A H' (upd H' A (.lst (ps.set i.toNat (.ref a)))) := fun b o nb e => by rw [upd_ne nb]; exact e
    rw [List.getElem?_set] at e ⊢
    split at e
    · rename_i c
      split at e
      · cases e
        refine ⟨g, a, ?_, na, sx.pts hA na hl⟩
        rw [if_pos c, if_pos (by omega)]
      · cases e
    · obtain ⟨g', b, e1, e2, e3⟩ := (h4 j).2 m e
      refine ⟨g', b, ?_, e2, sx.pts hA e2 e3⟩
      rw [if_neg (by assumption)]
      exact e1
/-! ## figure_at, begin -/
theorem scFa : FnScope ["places", "slot"] ["places", "slot"] (defScope (top 44)) := ⟨rfl, rfl, rfl, by decide +kernel, rfl, by decide +kernel, by decide +kernel⟩
abbrev ab (st : Slots) : Rc60.Abs := { slots := st }
def spFa : Sp := fun vs H Q _ => ∃ (A : Addr) (i : Int) (st : Slots), vs = [.ref A, .int i] ∧ PlA H A st ∧ (Rc60.at_ (ab st) i = none → Q .non H) ∧ ∀ l a, Rc60.at_ (ab st) i = some l → Cf.Good l → a ≠ A → Pts H a l → Q (.ref a) H
theorem at_in {st : Slots} {i : Int} (h8 : st.length = 8) (hi : Rc60.isSlot i = true) : ∃ j : Nat, i = (j : Int) ∧ j < 8 ∧ st[j]? = some (Rc60.at_ (ab st) i) := by
  have i8 : 0 ≤ i ∧ i < 8 := of_decide_eq_true hi
  refine ⟨i.toNat, by omega, by omega, ?_⟩
  unfold Rc60.at_
  rw [if_neg (by omega), List.getD_eq_getElem?_getD, List.getElem?_eq_getElem (by omega)]
  rfl
theorem at_out {st : Slots} {i : Int} (h8 : st.length = 8) (hi : Rc60.isSlot i = false) : Rc60.at_ (ab st) i = none := by
  have i8 : ¬ (0 ≤ i ∧ i < 8) := of_decide_eq_false hi
  unfold Rc60.at_
  by_cases c : i < 0
  · rw [if_pos c]
  · rw [if_neg c, List.getD_eq_getElem?_getD, List.getElem?_eq_none (show st.length ≤ i.toNat by omega)]
    rfl
theorem ok_fa (D : Df K mg "figure_at" (top 44) ["places", "slot"]) (CI : Okd P w K mg base "is_place" 1 ["slot"] spIp) : Okd P w K mg base "figure_at" 2 ["places", "slot"] spFa := by
  refine D.ok fun f fd F => F.ok scFa (fun vs H Q E h => ?_) (fun cdv A outer s H vs Q E hr h => ?_)
  · obtain ⟨a, i, st, rfl, _⟩ := h
    rfl
  · obtain ⟨a, i, st, rfl, hp, k0, k1⟩ := h
    refine ⟨_, pss_one (ps_ret (pe_ifExp (pt_val (pe_cal CI hr (pa_cons (pv 1) pa_nil))) (pe_ix ix_list (pv 0) (pv 1) (fun _ _ => rfl)) pe_non)), ?_⟩
    obtain ⟨ps, h1, h2, h3, h4⟩ := hp.ex
    refine ⟨_, rfl, i, rfl, _, rfl, ite2 (fun c => ?_) (fun c => ?_)⟩
    · obtain ⟨j, rfl, j8, e⟩ := at_in h3 c
      cases ea : Rc60.at_ (ab st) (j : Int) with
      | none =>
        rw [ea] at e
        exact ⟨_, rfl, _, rfl, a, _, _, _, rfl, rfl, .inl (.inl h1), atI_nat ((h4 j).1 e), k0 ea⟩
      | some l =>
        rw [ea] at e
        obtain ⟨g, b, e1, e2, e3⟩ := (h4 j).2 l e
        exact ⟨_, rfl, _, rfl, a, _, _, _, rfl, rfl, .inl (.inl h1), atI_nat e1, k1 l b ea g e2 e3⟩
    · exact k0 (at_out h3 (by simpa using c))
theorem scBg : FnScope ["places", "slot"] ["places"] (defScope (top 45)) := ⟨rfl, rfl, rfl, by decide +kernel, rfl, by decide +kernel, by decide +kernel⟩
/-- what a call of the desk hands back: its answer, the places -/
def After (H : Hp) (Q : VK) (A : Addr) (st : Slots) (ans : List Int) : Prop := ∀ H' p, SameX A H H' → H p = none → H' p = some (.lst (ans.map V.int)) → PlA H' A st → Q (.ref p) H'
def spBg : Sp := fun vs H Q _ => ∃ (A : Addr) (st : Slots), vs = [.ref A] ∧ PlA H A st ∧ After H Q A (List.replicate 8 none) [0]
theorem ok_bg (D : Df K mg "begin" (top 45) ["places"]) (mR : mg "range" = none) (c : Cst mg "PLACES" 8) : Okd P w K mg base "begin" 1 ["places"] spBg := by
  refine D.ok fun f fd F => F.ok scBg (fun vs H Q E h => ?_) (fun cdv A outer s H vs Q E hr h => ?_)
  · obtain ⟨a, st, rfl, _⟩ := h
    rfl
  · obtain ⟨a, st, rfl, hp, k⟩ := h
    refine ⟨_, pss_cons (ps_for PassesOwn.never rfl (pi_range1 (by rfl) mR (pa_cons (pe_cst c) pa_nil)) (pg_name (i := 1) scBg.nd rfl (.inl rfl))
        (pss_one (ps_asg pe_non (pg_sub (pv 0) (pv 1) set_list)))) (pss_one (ps_ret (pe_lst (pa_cons pe_int pa_nil)))), ?_⟩
    obtain ⟨ps, h1, h2, h3, h4⟩ := hp.ex
    refine ⟨8, rfl, by decide, by decide, for_range (n := 8) (fun i σ H' => ∃ x1, σ = [some (.ref a), x1] ∧ SameX a H H' ∧ (∀ b, H' b = none → H b = none) ∧ ∃ ps : List V, ps.length = 8 ∧ H' a = some (.lst ps) ∧ ∀ j < i, ps[j]? = some .non)
      ⟨none, rfl, fun b o _ e => e, fun b e => e, ps, h2, h1, fun j hj => absurd hj (by omega)⟩ ?_ ?_⟩
    · rintro i σ H' hi ⟨x1, rfl, sx, fr, qs, l8, hA, hq⟩
      have ix : ixN qs.length (0 + (i : Int)) = some i := by
        unfold ixN
        rw [if_pos (by omega), if_pos (by omega)]
        congr 1
        omega
      refine ⟨_, rfl, _, rfl, a, _, _, i, rfl, rfl, hA, ix, _, rfl, fun b o nb e => ?_, fun b e => ?_, qs.set i .non, by rw [List.length_set, l8], upd_same, fun j hj => ?_⟩
      · rw [upd_ne nb]
        exact sx b o nb e
      · by_cases cb : b = a
        · rw [cb, upd_same] at e
          cases e
        · rw [upd_ne cb] at e
          exact fr b e
      · rw [List.getElem?_set]
        split
        · rw [if_pos (by omega)]
        · exact hq j (by omega)
    · rintro σ H' ⟨x1, rfl, sx, fr, qs, l8, hA, hq⟩
      refine ⟨(by show 1 ≤ sizeLine; decide), fun p np => ?_⟩
      have sp := new_same (o := .lst [.int 0]) np
      refine k _ p (fun b o nb e => sp _ _ (sx _ _ nb e)) (fr _ np) upd_same ⟨qs, sp _ _ hA, l8, rfl, fun i => ⟨fun e => ?_, fun l e => ?_⟩⟩
      · have := (List.getElem?_eq_some_iff.mp e).1
        exact hq i (by simpa using this)
      · have := List.mem_of_getElem? e
        cases List.eq_of_mem_replicate this
end
end Cs

set_option maxRecDepth 100000
set_option maxHeartbeats 4000000
namespace Cs
open PySem PySem.Spec PyProof.Rows L2
/-! ## what a call answers, and the places behind it -/
def res (y : Rc60.Abs × Rc60.Ans) : List Int := y.2.value :: y.2.numbers.map fun (b : Nat) => (b : Int)
def AfterC (H : Hp) (Q : VK) (A : Addr) (st : Slots) (c : Rc60.Call) : Prop := After H Q A (Rc60.does (ab st) c).1.slots (res (Rc60.does (ab st) c))
theorem AfterC.of {H : Hp} {Q : VK} {A : Addr} {st st' : Slots} {c : Rc60.Call} {v : Int} {ns : List Nat} (k : AfterC H Q A st c) (e : Rc60.does (ab st) c = (ab st', { value := v, numbers := ns })) : After H Q A st' (v :: ns.map fun (b : Nat) => (b : Int)) := by
  unfold AfterC at k
  rw [e] at k
  exact k
theorem After.ret {H H' : Hp} {Q : VK} {A : Addr} {st : Slots} {ans : List Int} {p : Addr} (k : After H Q A st ans) (s : SameX A H H') (fr : H' p = none → H p = none) (hp : PlA H' A st) (np : H' p = none) : Q (.ref p) (upd H' p (.lst (ans.map V.int))) :=
  k _ p (fun b o nb e => new_same np _ _ (s b o nb e)) (fr np) upd_same (hp.keep (new_same np))
theorem After.ret0 {H H' : Hp} {Q : VK} {A : Addr} {st : Slots} {ans : List Int} {p : Addr} (k : After H Q A st ans) (s : Same H H') (hp : PlA H A st) (np : H' p = none) : Q (.ref p) (upd H' p (.lst (ans.map V.int))) :=
  k.ret (Same.x s) s.free (hp.keep s) np
/-- return [n], n below 0 -/
theorem ret_neg {K : PySem.W.Frag} {H H' : Hp} {Q : VK} {A : Addr} {st : Slots} {σ : L2.St} {n : Int} {D : Ends} (hD : D.rt = Q) (k : After H Q A st [-n]) (s : Same H H') (hp : PlA H A st) : tRet (tLst (tCons (tUn (rU fun i => .int (-i)) (tC (.int n))) tNil)) D σ H' := by
  subst hD
  exact ⟨n, rfl, (by show 1 ≤ sizeLine; decide), fun p np => k.ret0 s hp np⟩
theorem isn_yes {A B : Prop} (h : A) : if decide (V.non = V.non) = true then A else B := by
  rw [if_pos (decide_eq_true rfl)]
  exact h
theorem isn_no {a : Addr} {A B : Prop} (h : B) : if decide (V.ref a = V.non) = true then A else B := by
  rw [if_neg (fun c => by have := of_decide_eq_true c; cases this)]
  exact h
theorem Bx.of {l : List Cf.Pt} (g : Cf.Good l) : ∀ p ∈ l, Bx p := fun p hp => by
  have := g.box p hp
  unfold Bx
  omega
theorem few_of {l : List Cf.Pt} (g : Cf.Good l) : l.length ≤ 4200 := Nat.le_trans g.len (by decide)
theorem b64 {z : Int} (h1 : 0 ≤ z) (h2 : z < 18446744073709551616) : ((Rc60.bits64 z : Nat) : Int) = z := by
  unfold Rc60.bits64
  omega
section
variable {P : Program} {w : World} {K : PySem.W.Frag} {mg : Str → Option Value} {base : Heap}
/-! ## mixed -/
theorem does_mixed {s : Rc60.Abs} {i j : Int} {l m : List Cf.Pt} (e1 : Rc60.at_ s i = some l) (e2 : Rc60.at_ s j = some m) : Rc60.does s (.mixed i j) = (s, { value := 0, numbers := [Rc60.bits64 (Rc60.mixed l m)] }) := by
  simp only [Rc60.does, e1, e2]
theorem does_mixed0 {s : Rc60.Abs} {i j : Int} (h : Rc60.at_ s i = none ∨ Rc60.at_ s j = none) : Rc60.does s (.mixed i j) = (s, { value := -1, numbers := [] }) := by
  rcases h with h | h
  · simp only [Rc60.does, h]
    cases Rc60.at_ s j <;> rfl
  · simp only [Rc60.does, h]
    cases Rc60.at_ s i <;> rfl
def sp2 (c : Int → Int → Rc60.Call) : Sp := fun vs H Q _ => ∃ (A : Addr) (st : Slots) (i j : Int), vs = [.ref A, .int i, .int j] ∧ PlA H A st ∧ AfterC H Q A st (c i j)
def sp1 (c : Int → Rc60.Call) : Sp := fun vs H Q _ => ∃ (A : Addr) (st : Slots) (i : Int), vs = [.ref A, .int i] ∧ PlA H A st ∧ AfterC H Q A st (c i)
theorem scTm : FnScope ["places", "i", "j", "first", "second"] ["places", "i", "j"] (defScope (top 50)) := ⟨rfl, rfl, rfl, by decide +kernel, rfl, by decide +kernel, by decide +kernel⟩
theorem ok_tm (D : Df K mg "tell_mixed" (top 50) ["places", "i", "j"]) (CF : Okd P w K mg base "figure_at" 2 ["places", "slot"] spFa) (CT : Okd P w K mg base "together" 2 ["first", "second"] spTg) : Okd P w K mg base "tell_mixed" 3 ["places", "i", "j"] (sp2 .mixed) := by
  refine D.ok fun f fd F => F.ok scTm (fun vs H Q E h => ?_) (fun cdv A outer s H vs Q E hr h => ?_)
  · obtain ⟨a, st, i, j, rfl, _⟩ := h
    rfl
  · obtain ⟨A, st, i, j, rfl, hp, k⟩ := h
    refine ⟨_, pss_cons (ps_set (i := 3) scTm.nd rfl (.inl rfl) (pe_cal CF hr (pa_cons (pv 0) (pa_cons (pv 1) pa_nil))))
      (pss_cons (ps_set (i := 4) scTm.nd rfl (.inl rfl) (pe_cal CF hr (pa_cons (pv 0) (pa_cons (pv 2) pa_nil))))
      (pss_cons (ps_if (PW.pt (pw_or (pt_cmpR op_isN (pv 3) pe_non (nomark _)) (pw_or1 (pt_cmpR op_isN (pv 4) pe_non (nomark _)))))
        (pss_one (ps_ret (pe_lst (pa_cons (pe_un un_neg pe_int) pa_nil)))) pss_nil)
      (pss_one (ps_ret (pe_lst (pa_cons pe_int (pa_cons (pe_cal CT hr (pa_cons (pv 3) (pa_cons (pv 4) pa_nil))) pa_nil))))))), ?_⟩
    refine ⟨_, rfl, _, rfl, A, i, st, rfl, hp, fun e1 => ?_, fun l a e1 g1 na hl => ?_⟩
    · have k0 := k.of (does_mixed0 (.inl e1))
      refine ⟨_, rfl, _, rfl, A, j, st, rfl, hp, fun e2 => ?_, fun m b e2 g2 nb hm => ?_⟩
      · exact ⟨_, rfl, rfl, _, rfl, isn_yes (iteT (ret_neg (K := K) rfl k0 (Same.refl _) hp))⟩
      · exact ⟨_, rfl, rfl, _, rfl, isn_yes (iteT (ret_neg (K := K) rfl k0 (Same.refl _) hp))⟩
    · refine ⟨_, rfl, _, rfl, A, j, st, rfl, hp, fun e2 => ?_, fun m b e2 g2 nb hm => ?_⟩
      · have k0 := k.of (does_mixed0 (.inr e2))
        exact ⟨_, rfl, rfl, _, rfl, isn_no ⟨_, rfl, rfl, _, rfl, isn_yes (ret_neg (K := K) rfl k0 (Same.refl _) hp)⟩⟩
      · have k0 := k.of (does_mixed e1 e2)
        have nn := Cf.mixed_nn g1.fig g2.fig
        have le := Cf.mixed_le g1.fig g2.fig g1.box g2.box
        have lm := g2.len
        refine ⟨_, rfl, rfl, _, rfl, isn_no ⟨_, rfl, rfl, _, rfl, isn_no ⟨_, rfl, _, rfl, a, b, l, m, rfl, hl, hm, few_of g1, few_of g2, Bx.of g1, g1.fig.ne, fun H1 s1 => ⟨(by show 2 ≤ sizeLine; decide), fun p np => ?_⟩⟩⟩⟩
        have := k0.ret0 s1 hp np
        rw [List.map_cons, List.map_cons, List.map_nil, b64 nn (by omega)] at this
        exact this
/-! ## parts -/
theorem does_parts {s : Rc60.Abs} {i : Int} {l : List Cf.Pt} (e1 : Rc60.at_ s i = some l) (h : ¬ 24 < Rc60.rim l) : Rc60.does s (.parts i) = (s, { value := 0, numbers := [Rc60.parts l] }) := by
  simp only [Rc60.does, e1]
  exact if_neg h
theorem does_parts2 {s : Rc60.Abs} {i : Int} {l : List Cf.Pt} (e1 : Rc60.at_ s i = some l) (h : 24 < Rc60.rim l) : Rc60.does s (.parts i) = (s, { value := -2, numbers := [] }) := by
  simp only [Rc60.does, e1]
  exact if_pos h
theorem does_parts0 {s : Rc60.Abs} {i : Int} (h : Rc60.at_ s i = none) : Rc60.does s (.parts i) = (s, { value := -1, numbers := [] }) := by
  simp only [Rc60.does, h]
  rfl
theorem scTp : FnScope ["places", "slot", "figure"] ["places", "slot"] (defScope (top 51)) := ⟨rfl, rfl, rfl, by decide +kernel, rfl, by decide +kernel, by decide +kernel⟩
theorem ok_tp (D : Df K mg "tell_parts" (top 51) ["places", "slot"]) (CF : Okd P w K mg base "figure_at" 2 ["places", "slot"] spFa) (CR : Okd P w K mg base "rim_points" 3 ["figure"] (spN fun l => (Rc60.rim l : Int))) (CP : Okd P w K mg base "partings" 6 ["figure"] spPa) (c : Cst mg "MOST_PARTED_RIM" 24) :
    Okd P w K mg base "tell_parts" 7 ["places", "slot"] (sp1 .parts) := by
  refine D.ok fun f fd F => F.ok scTp (fun vs H Q E h => ?_) (fun cdv A outer s H vs Q E hr h => ?_)
  · obtain ⟨a, st, i, rfl, _⟩ := h
    rfl
  · obtain ⟨A, st, i, rfl, hp, k⟩ := h
    refine ⟨_, pss_cons (ps_set (i := 2) scTp.nd rfl (.inl rfl) (pe_cal CF (hr.mono (by decide)) (pa_cons (pv 0) (pa_cons (pv 1) pa_nil))))
      (pss_cons (ps_if (pt_cmpR op_isN (pv 2) pe_non (nomark _)) (pss_one (ps_ret (pe_lst (pa_cons (pe_un un_neg pe_int) pa_nil)))) pss_nil)
      (pss_cons (ps_if (pt_cmpR op_gt (pe_cal CR (hr.mono (by decide)) (pa_cons (pv 2) pa_nil)) (pe_cst c) (nomark _)) (pss_one (ps_ret (pe_lst (pa_cons (pe_un un_neg pe_int) pa_nil)))) pss_nil)
      (pss_one (ps_ret (pe_lst (pa_cons pe_int (pa_cons (pe_cal CP hr (pa_cons (pv 2) pa_nil)) pa_nil))))))), ?_⟩
    refine ⟨_, rfl, _, rfl, A, i, st, rfl, hp, fun e1 => ?_, fun l a e1 g1 na hl => ?_⟩
    · exact ⟨_, rfl, rfl, _, rfl, isn_yes (ret_neg (K := K) rfl (k.of (does_parts0 e1)) (Same.refl _) hp)⟩
    · refine ⟨_, rfl, rfl, _, rfl, isn_no ⟨_, rfl, a, l, rfl, hl, few_of g1, Bx.of g1, fun H1 s1 => ⟨_, _, rfl, rfl, _, rfl, ite2 (fun c => ?_) (fun c => ?_)⟩⟩⟩
      · have c' : 24 < Rc60.rim l := by
          have : (24 : Int) < (Rc60.rim l : Int) := of_decide_eq_true c
          omega
        exact ret_neg (K := K) rfl (k.of (does_parts2 e1 c')) s1 hp
      · have c' : ¬ 24 < Rc60.rim l := fun q => c (decide_eq_true (show (24 : Int) < (Rc60.rim l : Int) by omega))
        exact ⟨_, rfl, a, l, rfl, hl.keep mono_tup s1, few_of g1, Bx.of g1, g1.fig, by omega, fun H2 s2 => ⟨(by show 2 ≤ sizeLine; decide), fun p np => (k.of (does_parts e1 c')).ret0 (s1.trans s2) hp np⟩⟩
/-! ## room -/
theorem does_room {s : Rc60.Abs} {i j : Int} {l m : List Cf.Pt} (e1 : Rc60.at_ s i = some l) (e2 : Rc60.at_ s j = some m) : Rc60.does s (.room i j) = (s, { value := 0, numbers := [Rc60.roomFor l m] }) := by
  simp only [Rc60.does, e1, e2]
theorem does_room0 {s : Rc60.Abs} {i j : Int} (h : Rc60.at_ s i = none ∨ Rc60.at_ s j = none) : Rc60.does s (.room i j) = (s, { value := -1, numbers := [] }) := by
  rcases h with h | h
  · simp only [Rc60.does, h]
    cases Rc60.at_ s j <;> rfl
  · simp only [Rc60.does, h]
    cases Rc60.at_ s i <;> rfl
theorem scTr : FnScope ["places", "i", "j", "outer", "inner"] ["places", "i", "j"] (defScope (top 52)) := ⟨rfl, rfl, rfl, by decide +kernel, rfl, by decide +kernel, by decide +kernel⟩
theorem ok_tr (D : Df K mg "tell_room" (top 52) ["places", "i", "j"]) (CF : Okd P w K mg base "figure_at" 2 ["places", "slot"] spFa) (CT : Okd P w K mg base "shifts" 3 ["outer", "inner"] spSh) : Okd P w K mg base "tell_room" 4 ["places", "i", "j"] (sp2 .room) := by
  refine D.ok fun f fd F => F.ok scTr (fun vs H Q E h => ?_) (fun cdv A outer s H vs Q E hr h => ?_)
  · obtain ⟨a, st, i, j, rfl, _⟩ := h
    rfl
  · obtain ⟨A, st, i, j, rfl, hp, k⟩ := h
    refine ⟨_, pss_cons (ps_set (i := 3) scTr.nd rfl (.inl rfl) (pe_cal CF (hr.mono (by decide)) (pa_cons (pv 0) (pa_cons (pv 1) pa_nil))))
      (pss_cons (ps_set (i := 4) scTr.nd rfl (.inl rfl) (pe_cal CF (hr.mono (by decide)) (pa_cons (pv 0) (pa_cons (pv 2) pa_nil))))
      (pss_cons (ps_if (PW.pt (pw_or (pt_cmpR op_isN (pv 3) pe_non (nomark _)) (pw_or1 (pt_cmpR op_isN (pv 4) pe_non (nomark _)))))
        (pss_one (ps_ret (pe_lst (pa_cons (pe_un un_neg pe_int) pa_nil)))) pss_nil)
      (pss_one (ps_ret (pe_lst (pa_cons pe_int (pa_cons (pe_cal CT hr (pa_cons (pv 3) (pa_cons (pv 4) pa_nil))) pa_nil))))))), ?_⟩
    refine ⟨_, rfl, _, rfl, A, i, st, rfl, hp, fun e1 => ?_, fun l a e1 g1 na hl => ?_⟩
    · have k0 := k.of (does_room0 (.inl e1))
      refine ⟨_, rfl, _, rfl, A, j, st, rfl, hp, fun e2 => ?_, fun m b e2 g2 nb hm => ?_⟩
      · exact ⟨_, rfl, rfl, _, rfl, isn_yes (iteT (ret_neg (K := K) rfl k0 (Same.refl _) hp))⟩
      · exact ⟨_, rfl, rfl, _, rfl, isn_yes (iteT (ret_neg (K := K) rfl k0 (Same.refl _) hp))⟩
    · refine ⟨_, rfl, _, rfl, A, j, st, rfl, hp, fun e2 => ?_, fun m b e2 g2 nb hm => ?_⟩
      · have k0 := k.of (does_room0 (.inr e2))
        exact ⟨_, rfl, rfl, _, rfl, isn_no ⟨_, rfl, rfl, _, rfl, isn_yes (ret_neg (K := K) rfl k0 (Same.refl _) hp)⟩⟩
      · have k0 := k.of (does_room e1 e2)
        exact ⟨_, rfl, rfl, _, rfl, isn_no ⟨_, rfl, rfl, _, rfl, isn_no ⟨_, rfl, _, rfl, a, b, l, m, rfl, hl, hm, few_of g1, few_of g2, Bx.of g1, Bx.of g2, g1.fig, g2.fig.ne, fun H1 s1 => ⟨(by show 2 ≤ sizeLine; decide), fun p np => k0.ret0 s1 hp np⟩⟩⟩⟩
/-! ## about -/
theorem does_about {s : Rc60.Abs} {i : Int} {l : List Cf.Pt} (e1 : Rc60.at_ s i = some l) : Rc60.does s (.about i) = (s, { value := 0, numbers := [Rc60.bits64 (Rc60.area l), Rc60.rim l, Rc60.countInside l, Rc60.bits64 (Rc60.widthOf l)] }) := by
  simp only [Rc60.does, e1]
theorem does_about0 {s : Rc60.Abs} {i : Int} (h : Rc60.at_ s i = none) : Rc60.does s (.about i) = (s, { value := -1, numbers := [] }) := by
  simp only [Rc60.does, h]
  rfl
theorem scTa : FnScope ["places", "slot", "figure"] ["places", "slot"] (defScope (top 48)) := ⟨rfl, rfl, rfl, by decide +kernel, rfl, by decide +kernel, by decide +kernel⟩
theorem ok_ta (D : Df K mg "tell_about" (top 48) ["places", "slot"]) (CF : Okd P w K mg base "figure_at" 2 ["places", "slot"] spFa) (CA : Okd P w K mg base "double_area" 2 ["figure"] (spN Rc60.area)) (CR : Okd P w K mg base "rim_points" 3 ["figure"] (spN fun l => (Rc60.rim l : Int)))
    (CI : Okd P w K mg base "inside_points" 4 ["figure"] (spN fun l => (Rc60.area l - Rc60.rim l + 2).fdiv 2)) (CW : Okd P w K mg base "width" 3 ["figure"] spWi) : Okd P w K mg base "tell_about" 5 ["places", "slot"] (sp1 .about) := by
  refine D.ok fun f fd F => F.ok scTa (fun vs H Q E h => ?_) (fun cdv A outer s H vs Q E hr h => ?_)
  · obtain ⟨a, st, i, rfl, _⟩ := h
    rfl
  · obtain ⟨A, st, i, rfl, hp, k⟩ := h
    refine ⟨_, pss_cons (ps_set (i := 2) scTa.nd rfl (.inl rfl) (pe_cal CF (hr.mono (by decide)) (pa_cons (pv 0) (pa_cons (pv 1) pa_nil))))
      (pss_cons (ps_if (pt_cmpR op_isN (pv 2) pe_non (nomark _)) (pss_one (ps_ret (pe_lst (pa_cons (pe_un un_neg pe_int) pa_nil)))) pss_nil)
      (pss_one (ps_ret (pe_lst (pa_cons pe_int (pa_cons (pe_cal CA (hr.mono (by decide)) (pa_cons (pv 2) pa_nil)) (pa_cons (pe_cal CR (hr.mono (by decide)) (pa_cons (pv 2) pa_nil)) (pa_cons (pe_cal CI hr (pa_cons (pv 2) pa_nil)) (pa_cons (pe_cal CW (hr.mono (by decide)) (pa_cons (pv 2) pa_nil)) pa_nil))))))))), ?_⟩
    refine ⟨_, rfl, _, rfl, A, i, st, rfl, hp, fun e1 => ?_, fun l a e1 g1 na hl => ?_⟩
    · exact ⟨_, rfl, rfl, _, rfl, isn_yes (ret_neg (K := K) rfl (k.of (does_about0 e1)) (Same.refl _) hp)⟩
    · have fw := few_of g1
      have bx := Bx.of g1
      have k0 := k.of (does_about e1)
      refine ⟨_, rfl, rfl, _, rfl, isn_no ⟨_, rfl, a, l, rfl, hl, fw, bx, fun H1 s1 => ⟨_, rfl, a, l, rfl, hl.keep mono_tup s1, fw, bx, fun H2 s2 => ?_⟩⟩⟩
      have t2 := s1.trans s2
      refine ⟨_, rfl, a, l, rfl, hl.keep mono_tup t2, fw, bx, fun H3 s3 => ?_⟩
      have t3 := t2.trans s3
      refine ⟨_, rfl, a, l, rfl, hl.keep mono_tup t3, fw, bx, g1.fig, fun H4 s4 w0 w1 => ⟨(by show 5 ≤ sizeLine; decide), fun p np => ?_⟩⟩
      have t4 := t3.trans s4
      have nn := Cf.area_nn g1.fig
      have le := Cf.area_le g1.fig g1.box
      have ll := g1.len
      have e : (0 :: [Rc60.bits64 (Rc60.area l), Rc60.rim l, Rc60.countInside l, Rc60.bits64 (Rc60.widthOf l)].map (fun (b : Nat) => (b : Int))) = [0, Rc60.area l, (Rc60.rim l : Int), (Rc60.area l - Rc60.rim l + 2).fdiv 2, Rc60.widthOf l] := by
        show [0, ((Rc60.bits64 (Rc60.area l) : Nat) : Int), (Rc60.rim l : Int), (Rc60.countInside l : Int), ((Rc60.bits64 (Rc60.widthOf l) : Nat) : Int)] = _
        rw [b64 nn (by omega), b64 w0 (by omega), Cf.inside_is g1.fig]
      rw [e] at k0
      exact k0.ret0 t4 hp np
end
end Cs

set_option maxRecDepth 100000
set_option maxHeartbeats 4000000
namespace Cs
open PySem PySem.Spec PyProof.Rows L2
/-! ## what the sum's points are -/
theorem mem_sums {l m : List Cf.Pt} {c : Cf.Pt} : c ∈ Rc60.sums l m ↔ ∃ p ∈ l, ∃ q ∈ m, c = (p.1 + q.1, p.2 + q.2) := by
  unfold Rc60.sums
  rw [List.mem_flatMap]
  constructor
  · rintro ⟨p, hp, h⟩
    obtain ⟨q, hq, e⟩ := List.mem_map.mp h
    exact ⟨p, hp, q, hq, e.symm⟩
  · rintro ⟨p, hp, q, hq, e⟩
    exact ⟨p, hp, List.mem_map.mpr ⟨q, hq, e.symm⟩⟩
theorem sums_len (m : List Cf.Pt) : ∀ l : List Cf.Pt, (Rc60.sums l m).length = l.length * m.length
  | [] => by simp [Rc60.sums]
  | p :: l => by
    have ih := sums_len m l
    unfold Rc60.sums at ih ⊢
    rw [List.flatMap_cons, List.length_append, List.length_map, ih, List.length_cons, Nat.succ_mul, Nat.add_comm]
theorem third {l : List Cf.Pt} (F : Cf.Fig l) (a b : Cf.Pt) : ∃ x ∈ l, x ≠ a ∧ x ≠ b := by
  have h3 := F.len
  have nd := F.nodup
  match l, h3, nd with
  | x :: y :: z :: r, _, nd =>
    rw [List.nodup_cons, List.nodup_cons] at nd
    have xy : x ≠ y := fun e => nd.1 (by simp [e])
    have xz : x ≠ z := fun e => nd.1 (by simp [e])
    have yz : y ≠ z := fun e => nd.2.1 (by simp [e])
    by_cases h1 : x = a ∨ x = b
    · by_cases h2 : y = a ∨ y = b
      · refine ⟨z, by simp, fun e => ?_, fun e => ?_⟩
        · rcases h1 with h1 | h1
          · exact xz (h1.trans e.symm)
          · rcases h2 with h2 | h2
            · exact yz (h2.trans e.symm)
            · exact xy (h1.trans h2.symm)
        · rcases h1 with h1 | h1
          · rcases h2 with h2 | h2
            · exact xy (h1.trans h2.symm)
            · exact yz (h2.trans e.symm)
          · exact xz (h1.trans e.symm)
      · exact ⟨y, by simp, fun e => h2 (.inl e), fun e => h2 (.inr e)⟩
    · exact ⟨x, by simp, fun e => h1 (.inl e), fun e => h1 (.inr e)⟩
theorem sums_flat {l m : List Cf.Pt} (F : Cf.Fig l) (hm : m ≠ []) : Rc60.flat (Rc60.sums l m) = false := by
  cases hf : Rc60.flat (Rc60.sums l m) with
  | false => rfl
  | true =>
    have z := Cf.flat_iff.mp hf
    obtain ⟨q, hq⟩ := List.exists_mem_of_ne_nil m hm
    have le := Cf.edges_len l F.ne
    have h3 := F.len
    obtain ⟨e, he⟩ := List.exists_mem_of_ne_nil (Rc60.edges l) (fun h => by rw [h] at le; simp at le; omega)
    obtain ⟨m1, m2, ne, cv⟩ := F.conv e he
    obtain ⟨x, hx, x1, x2⟩ := third F e.1 e.2
    have c0 := z _ (mem_sums.mpr ⟨e.1, m1, q, hq, rfl⟩) _ (mem_sums.mpr ⟨e.2, m2, q, hq, rfl⟩) _ (mem_sums.mpr ⟨x, hx, q, hq, rfl⟩)
    have c1 : 0 < Rc60.cross e.1 e.2 x := by
      rcases cv x hx with q | q | q
      · exact absurd q x1
      · exact absurd q x2
      · exact q
    unfold Rc60.cross at c0 c1
    simp only at c0
    rw [show e.2.1 + q.1 - (e.1.1 + q.1) = e.2.1 - e.1.1 by omega, show x.2 + q.2 - (e.1.2 + q.2) = x.2 - e.1.2 by omega, show e.2.2 + q.2 - (e.1.2 + q.2) = e.2.2 - e.1.2 by omega, show x.1 + q.1 - (e.1.1 + q.1) = x.1 - e.1.1 by omega] at c0
    omega
theorem sums_bx {l m : List Cf.Pt} (g1 : Cf.Good l) (g2 : Cf.Good m) : ∀ p ∈ Rc60.sums l m, Bx p := fun p hp => by
  obtain ⟨a, ha, b, hb, rfl⟩ := mem_sums.mp hp
  have h1 := g1.box a ha
  have h2 := g2.box b hb
  unfold Bx
  simp only
  omega
theorem close_is (l : List Cf.Pt) : (l.map fun p => inB p.1 && inB p.2).all id = Rc60.closeBy l := by
  rw [List.all_map]
  rfl
theorem close_box {l : List Cf.Pt} (h : Rc60.closeBy l = true) : Cf.Box 30000 l := fun p hp => by
  have := List.all_eq_true.mp h p hp
  rw [Bool.and_eq_true, decide_eq_true_eq, decide_eq_true_eq] at this
  obtain ⟨⟨h1, h2⟩, h3, h4⟩ := this
  exact ⟨h1, h2, h3, h4⟩
/-! ## what is written -/
theorem does_corners0 {s : Rc60.Abs} {i r : Int} (h : Rc60.at_ s i = none) : Rc60.does s (.corners i r) = (s, { value := -1, numbers := [] }) := by
  simp only [Rc60.does, h]
  rfl
theorem does_corners2 {s : Rc60.Abs} {i r : Int} {l : List Cf.Pt} (h : Rc60.at_ s i = some l) (c : Rc60.roomOf r < 2 * l.length) : Rc60.does s (.corners i r) = (s, { value := -2, numbers := [] }) := by
  simp only [Rc60.does, h]
  unfold Rc60.written
  rw [if_pos c]
theorem does_corners {s : Rc60.Abs} {i r : Int} {l : List Cf.Pt} (h : Rc60.at_ s i = some l) (c : ¬ Rc60.roomOf r < 2 * l.length) : Rc60.does s (.corners i r) = (s, { value := ((2 * l.length : Nat) : Int), numbers := Rc60.numbersOf l }) := by
  simp only [Rc60.does, h]
  unfold Rc60.written
  rw [if_neg c]
theorem roomOf_lt {r : Int} {n : Nat} (hn : 3 ≤ n) : Rc60.roomOf r < 2 * n ↔ ¬ (1 ≤ r ∧ r ≤ 1048576) ∨ r < 2 * (n : Int) := by
  unfold Rc60.roomOf
  show (if 1 ≤ r ∧ r ≤ (1048576 : Int) then r.toNat else 0) < 2 * n ↔ _
  by_cases c : 1 ≤ r ∧ r ≤ (1048576 : Int)
  · rw [if_pos c]
    omega
  · rw [if_neg c]
    constructor
    · intro _
      exact .inl c
    · intro _
      omega
theorem lft_bits {z : Int} (h1 : -60000 ≤ z) (h2 : z ≤ 60000) : ((Rc60.bits32 z : Nat) : Int) = lft z := by
  unfold Rc60.bits32 lft
  split <;> omega
/-- its numbers, told -/
def nums (l : List Cf.Pt) : List Int := l.flatMap fun p => [lft p.1, lft p.2]
theorem nums_is : ∀ {l : List Cf.Pt}, Cf.Box 60000 l → (Rc60.numbersOf l).map (fun (b : Nat) => (b : Int)) = nums l
  | [], _ => rfl
  | p :: l, h => by
    have ih := nums_is (l := l) fun q hq => h q (List.mem_cons_of_mem _ hq)
    have hp := h p List.mem_cons_self
    show ((Rc60.bits32 p.1 : Nat) : Int) :: ((Rc60.bits32 p.2 : Nat) : Int) :: (Rc60.numbersOf l).map (fun (b : Nat) => (b : Int)) = lft p.1 :: lft p.2 :: nums l
    rw [ih, lft_bits hp.1 hp.2.1, lft_bits hp.2.2.1 hp.2.2.2]
theorem nums_take {l : List Cf.Pt} {i : Nat} {x : Cf.Pt} (h : l[i]? = some x) : nums (l.take (i + 1)) = nums (l.take i) ++ [lft x.1, lft x.2] := by
  unfold nums
  rw [List.take_add_one, h, List.flatMap_append]
  rfl
theorem nums_len : ∀ l : List Cf.Pt, (nums l).length = 2 * l.length
  | [] => rfl
  | p :: l => by
    show (nums l).length + 1 + 1 = 2 * (l.length + 1)
    rw [nums_len l]
    omega
section
variable {P : Program} {w : World} {K : PySem.W.Frag} {mg : Str → Option Value} {base : Heap}
/-! ## tell_corners -/
theorem scTc : FnScope ["places", "slot", "most", "figure", "told", "x", "y"] ["places", "slot", "most"] (defScope (top 47)) := ⟨rfl, rfl, rfl, by decide +kernel, rfl, by decide +kernel, by decide +kernel⟩
theorem ok_tc (D : Df K mg "tell_corners" (top 47) ["places", "slot", "most"]) (CF : Okd P w K mg base "figure_at" 2 ["places", "slot"] spFa) (CL : Okd P w K mg base "lifted" 1 ["number"] spLf) (mL : mg "len" = none) (c : Cst mg "MOST_CORNER_NUMBERS" 1048576) :
    Okd P w K mg base "tell_corners" 3 ["places", "slot", "most"] (sp2 .corners) := by
  refine D.ok fun f fd F => F.ok scTc (fun vs H Q E h => ?_) (fun cdv A outer s H vs Q E hr h => ?_)
  · obtain ⟨a, st, i, j, rfl, _⟩ := h
    rfl
  · obtain ⟨A, st, i, j, rfl, hp, k⟩ := h
    refine ⟨_, pss_cons (ps_set (i := 3) scTc.nd rfl (.inl rfl) (pe_cal CF hr (pa_cons (pv 0) (pa_cons (pv 1) pa_nil))))
      (pss_cons (ps_if (pt_cmpR op_isN (pv 3) pe_non (nomark _)) (pss_one (ps_ret (pe_lst (pa_cons (pe_un un_neg pe_int) pa_nil)))) pss_nil)
      (pss_cons (ps_set (i := 4) scTc.nd rfl (.inl rfl) (pe_lst (pa_cons (pe_op op_mul pe_int (pe_callB call_len_seq (by rfl) mL PySem.boot_len (pa_cons (pv 3) pa_nil))) pa_nil)))
      (pss_cons (ps_if (PW.pt (pw_or (pt_not (pt_chain op_le op_le pe_int (pv 2) (pe_cst c))) (pw_or1 (pt_cmpR op_gt (pe_ix ix_list (pv 4) pe_int (fun _ _ => rfl)) (pv 2) (nomark _))))) (pss_one (ps_ret (pe_lst (pa_cons (pe_un un_neg pe_int) pa_nil)))) pss_nil)
      (pss_cons (ps_for PassesOwn.never rfl (pi_list (pv 3)) (pg_tup rfl (pgs_cons (pg_name (i := 5) scTc.nd rfl (Or.inl rfl)) (pgs_cons (pg_name (i := 6) scTc.nd rfl (Or.inl rfl)) pgs_nil)))
        (pss_one (ps_expr (pe_bm PySem.F.plainAttrs_list PySem.F.slot_list_extend PySem.F.type_list_extend mt_extend (pv 4) (pa_cons
          (pe_lst (pa_cons (pe_cal CL (hr.mono (by decide)) (pa_cons (pv 5) pa_nil)) (pa_cons (pe_cal CL (hr.mono (by decide)) (pa_cons (pv 6) pa_nil)) pa_nil))) pa_nil)))))
      (pss_one (ps_ret (pv 4))))))), ?_⟩
    refine ⟨_, rfl, _, rfl, A, i, st, rfl, hp, fun e1 => ?_, fun l a e1 g1 na hl => ?_⟩
    · exact ⟨_, rfl, rfl, _, rfl, isn_yes (ret_neg (K := K) rfl (k.of (does_corners0 e1)) (Same.refl _) hp)⟩
    have h64 := g1.len
    have hl0 := hl
    obtain ⟨ts, h1, h2, h3⟩ := hl
    have lt : (ts.map V.ref).length = l.length := by rw [List.length_map, h2]
    refine ⟨_, rfl, rfl, _, rfl, isn_no ⟨_, rfl, a, _, rfl, .inl (.inl (.inl h1)), _, _, rfl, rfl, .inl ⟨by decide, by decide⟩, (by show 1 ≤ sizeLine; decide), fun C nC => ?_⟩⟩
    rw [lt]
    have s0 := new_same (o := .lst [.int (2 * (l.length : Int))]) nC
    -- the refusal
    have no : Rc60.roomOf j < 2 * l.length → tRet (tLst (tCons (tUn (rU fun i => .int (-i)) (tC (.int 2))) tNil)) { nx := fun _ H' => Q .non H', rt := Q } [some (.ref A), some (.int i), some (.int j), some (.ref a), some (.ref C), none, none] (upd H C (.lst [.int (2 * (l.length : Int))])) :=
      fun q => ret_neg (K := K) rfl (k.of (does_corners2 e1 q)) s0 hp
    have few : ∀ i, (2 * (l.length : Int) :: nums (l.take i)).length ≤ 129 := fun i => by
      rw [List.length_cons, nums_len, List.length_take]
      omega
    refine ⟨_, rfl, _, _, rfl, rfl, _, rfl, ite2 (fun c1 => ?_) (fun c1 => ?_)⟩
    · have d1 : 1 ≤ j := of_decide_eq_true c1
      refine ⟨_, _, rfl, rfl, _, rfl, ite2 (fun c2 => ?_) (fun c2 => ?_)⟩
      · have d2 : ¬ j ≤ 1048576 := fun q => by
          rw [decide_eq_true q] at c2
          cases c2
        exact iteT (no ((roomOf_lt g1.fig.len).mpr (.inl fun q => d2 q.2)))
      · have d2 : j ≤ 1048576 := by
          cases e : decide (j ≤ 1048576) with
          | true => exact of_decide_eq_true e
          | false =>
            rw [e] at c2
            exact absurd rfl c2
        refine ⟨_, rfl, C, _, _, _, rfl, rfl, .inl (.inl upd_same), atI_nat (j := 0) rfl, _, rfl, _, _, rfl, rfl, _, rfl, ite2 (fun c3 => ?_) (fun c3 => ?_)⟩
        · have d3 : j < 2 * (l.length : Int) := of_decide_eq_true c3
          exact no ((roomOf_lt g1.fig.len).mpr (.inr d3))
        · have q : ¬ Rc60.roomOf j < 2 * l.length := fun q => by
            rcases (roomOf_lt g1.fig.len).mp q with z | z
            · exact z ⟨d1, d2⟩
            · exact c3 (decide_eq_true z)
          have k0 := k.of (does_corners e1 q)
          rw [nums_is g1.box] at k0
          refine ⟨_, rfl, a, rfl, ⟨_, .inl (.inl (s0 _ _ h1))⟩, for_list (xs := ts.map V.ref) (fun i' σ H' => ∃ x5 x6, σ = [some (.ref A), some (.int i), some (.int j), some (.ref a), some (.ref C), x5, x6] ∧ Same H H' ∧ (∀ b, H' b = none → H b = none) ∧ H' C = some (.lst ((2 * (l.length : Int) :: nums (l.take i')).map V.int)))
            ⟨none, none, rfl, s0, fun b => s0.free, upd_same⟩ (fun i' σ H' _ ⟨_, _, _, s, _⟩ => .inl (.inl (s _ _ h1))) ?_ ?_⟩
          · rintro i' v σ H' hv ⟨x5, x6, rfl, s, fr, hC⟩
            obtain ⟨t, x, q1, q2, rfl⟩ := objs_at h2 hv
            refine un2 (s _ _ (h3 i' t x q1 q2)) ⟨_, rfl, .inl ⟨rfl, _, .inl (.inl hC)⟩, _, rfl, _, rfl, _, rfl, _, rfl, (by show 2 ≤ sizeLine; decide), fun p np => ?_⟩
            have sp := new_same (o := .lst [.int (lft x.1), .int (lft x.2)]) np
            have fw := few i'
            refine ⟨C, p, _, _, rfl, rfl, sp _ _ hC, upd_same, ?_, _, _, rfl, fun b o e => ?_, fun b e => ?_, ?_⟩
            · rw [List.length_map]
              exact Nat.le_trans (show _ ≤ 131 by simp only [List.length_cons, List.length_nil] at *; omega) (by decide)
            · rw [upd_ne (ne_of_none e nC)]
              exact sp _ _ (s _ _ e)
            · by_cases cb : b = C
              · rw [cb, upd_same] at e
                cases e
              · rw [upd_ne cb] at e
                by_cases cp : b = p
                · rw [cp, upd_same] at e
                  cases e
                · rw [upd_ne cp] at e
                  exact fr b e
            · rw [upd_same, nums_take q2, ← List.cons_append, List.map_append]
              rfl
          · rintro σ H' ⟨x5, x6, rfl, s, fr, hC⟩
            rw [lt, List.take_length] at hC
            exact ⟨_, rfl, k0 H' C (Same.x s) nC hC (hp.keep s)⟩
    · have d1 : ¬ 1 ≤ j := fun q => c1 (decide_eq_true q)
      exact ⟨_, rfl, iteT (no ((roomOf_lt g1.fig.len).mpr (.inl fun q => d1 q.1)))⟩
end
end Cs

set_option maxRecDepth 100000
set_option maxHeartbeats 4000000
namespace Cs
open PySem PySem.Spec PyProof.Rows L2
theorem does_sum0 {s : Rc60.Abs} {i j t : Int} (h : Rc60.at_ s i = none ∨ Rc60.at_ s j = none ∨ Rc60.isSlot t = false) : Rc60.does s (.sum i j t) = (s, { value := -1, numbers := [] }) := by
  rcases h with h | h | h
  · simp only [Rc60.does, h]
    cases Rc60.at_ s j <;> rfl
  · simp only [Rc60.does, h]
    cases Rc60.at_ s i <;> rfl
  · simp only [Rc60.does]
    cases Rc60.at_ s i with
    | none => cases Rc60.at_ s j <;> rfl
    | some l =>
      cases Rc60.at_ s j with
      | none => rfl
      | some m => exact if_pos h
theorem not_false_of {b : Bool} (h : b = true) : ¬ b = false := fun e => by
  rw [h] at e
  cases e
theorem does_sum2 {s : Rc60.Abs} {i j t : Int} {l m : List Cf.Pt} (e1 : Rc60.at_ s i = some l) (e2 : Rc60.at_ s j = some m) (ht : Rc60.isSlot t = true) (h : Rc60.closeBy (Rc60.hullOf (Rc60.sums l m)) = false ∨ 64 < (Rc60.hullOf (Rc60.sums l m)).length) :
    Rc60.does s (.sum i j t) = (s, { value := -2, numbers := [] }) := by
  simp only [Rc60.does, e1, e2]
  rw [if_neg (not_false_of ht)]
  exact if_pos h
theorem does_sum {st : Slots} {i j t : Int} {l m : List Cf.Pt} (e1 : Rc60.at_ (ab st) i = some l) (e2 : Rc60.at_ (ab st) j = some m) (ht : Rc60.isSlot t = true) (h : ¬ (Rc60.closeBy (Rc60.hullOf (Rc60.sums l m)) = false ∨ 64 < (Rc60.hullOf (Rc60.sums l m)).length)) :
    Rc60.does (ab st) (.sum i j t) = (ab (st.set t.toNat (some (Rc60.hullOf (Rc60.sums l m)))), { value := ((Rc60.hullOf (Rc60.sums l m)).length : Nat), numbers := [] }) := by
  simp only [Rc60.does, e1, e2]
  rw [if_neg (not_false_of ht)]
  exact if_neg h
theorem does_dual0 {s : Rc60.Abs} {i t : Int} (h : Rc60.at_ s i = none ∨ Rc60.isSlot t = false) : Rc60.does s (.dual i t) = (s, { value := -1, numbers := [] }) := by
  rcases h with h | h
  · simp only [Rc60.does, h]
    rfl
  · simp only [Rc60.does]
    cases Rc60.at_ s i with
    | none => rfl
    | some l => exact if_pos h
theorem does_dual2 {s : Rc60.Abs} {i t : Int} {l : List Cf.Pt} (e1 : Rc60.at_ s i = some l) (ht : Rc60.isSlot t = true) (h : Rc60.near l = false) : Rc60.does s (.dual i t) = (s, { value := -2, numbers := [] }) := by
  simp only [Rc60.does, e1]
  rw [if_neg (not_false_of ht)]
  exact if_pos h
theorem does_dual {st : Slots} {i t : Int} {l : List Cf.Pt} (e1 : Rc60.at_ (ab st) i = some l) (ht : Rc60.isSlot t = true) (h : Rc60.near l = true) :
    Rc60.does (ab st) (.dual i t) = (ab (st.set t.toNat (some (Rc60.hullOf (Rc60.duals l)))), { value := ((Rc60.hullOf (Rc60.duals l)).length : Nat), numbers := [] }) := by
  simp only [Rc60.does, e1]
  rw [if_neg (not_false_of ht)]
  exact if_neg (not_false_of h)
def sp3 (c : Int → Int → Int → Rc60.Call) : Sp := fun vs H Q _ => ∃ (A : Addr) (st : Slots) (i j t : Int), vs = [.ref A, .int i, .int j, .int t] ∧ PlA H A st ∧ AfterC H Q A st (c i j t)
section
variable {P : Program} {w : World} {K : PySem.W.Frag} {mg : Str → Option Value} {base : Heap}
/-- places[slot] = figure; return [len(figure)], the figure new -/
theorem put_ret {H H' : Hp} {Q : VK} {A p : Addr} {st : Slots} {t : Int} {l : List Cf.Pt} (k : After H Q A (st.set t.toNat (some l)) [(l.length : Int)]) (s : Same H H') (hp : PlA H A st) (ht : Rc60.isSlot t = true) (g : Cf.Good l) (np : H p = none) (hl : Pts H' p l) :
    ∃ ps : List V, H' A = some (.lst ps) ∧ ixN ps.length t = some t.toNat ∧ ∃ ts : List V, (upd H' A (.lst (ps.set t.toNat (.ref p)))) p = some (.lst ts) ∧ ts.length = l.length ∧
      ∀ q, (upd H' A (.lst (ps.set t.toNat (.ref p)))) q = none → Q (.ref q) (upd (upd H' A (.lst (ps.set t.toNat (.ref p)))) q (.lst [.int (l.length : Int)])) := by
  have hp' := hp.keep s
  obtain ⟨ps, h1, h2, h3, h4⟩ := hp.ex
  have na : p ≠ A := fun e => by
    rw [← e, np] at h1
    cases h1
  have hA := s _ _ h1
  obtain ⟨i1, i2⟩ := PlA.put (H := H) hp' hA ht g na hl
  obtain ⟨ts, q1, q2, q3⟩ := hl
  refine ⟨ps, hA, i1, ts.map V.ref, by rw [upd_ne na]; exact q1, by rw [List.length_map, q2], fun q nq => ?_⟩
  refine k.ret (H' := upd H' A (.lst (ps.set t.toNat (.ref p)))) (fun b o nb e => by rw [upd_ne nb]; exact s _ _ e) (fun e => ?_) i2 nq
  have nqA : q ≠ A := fun z => by
    rw [z, upd_same] at e
    cases e
  rw [upd_ne nqA] at e
  exact s.free e
/-! ## put_sum -/
theorem scPs : FnScope ["places", "i", "j", "slot", "first", "second", "figure", "x", "y"] ["places", "i", "j", "slot"] (defScope (top 49)) := ⟨rfl, rfl, rfl, by decide +kernel, rfl, by decide +kernel, by decide +kernel⟩
theorem ok_ps (D : Df K mg "put_sum" (top 49) ["places", "i", "j", "slot"]) (CF : Okd P w K mg base "figure_at" 2 ["places", "slot"] spFa) (CI : Okd P w K mg base "is_place" 1 ["slot"] spIp) (CP : Okd P w K mg base "put_together" 4 ["first", "second"] spPt) (CB : Okd P w K mg base "in_bounds" 1 ["number"] spIb)
    (mL : mg "len" = none) (mA : mg "all" = none) (c : Cst mg "MOST_SUM_CORNERS" 64) : Okd P w K mg base "put_sum" 5 ["places", "i", "j", "slot"] (sp3 .sum) := by
  refine D.ok fun f fd F => F.ok scPs (fun vs H Q E h => ?_) (fun cdv A outer s H vs Q E hr h => ?_)
  · obtain ⟨a, st, i, j, t, rfl, _⟩ := h
    rfl
  · obtain ⟨A, st, i, j, t, rfl, hp, k⟩ := h
    refine ⟨_, pss_cons (ps_set (i := 4) scPs.nd rfl (.inl rfl) (pe_cal CF (hr.mono (by decide)) (pa_cons (pv 0) (pa_cons (pv 1) pa_nil))))
      (pss_cons (ps_set (i := 5) scPs.nd rfl (.inl rfl) (pe_cal CF (hr.mono (by decide)) (pa_cons (pv 0) (pa_cons (pv 2) pa_nil))))
      (pss_cons (ps_if (PW.pt (pw_or (pt_cmpR op_isN (pv 4) pe_non (nomark _)) (pw_or (pt_cmpR op_isN (pv 5) pe_non (nomark _)) (pw_or1 (pt_not (pt_val (pe_cal CI (hr.mono (by decide)) (pa_cons (pv 3) pa_nil))))))))
        (pss_one (ps_ret (pe_lst (pa_cons (pe_un un_neg pe_int) pa_nil)))) pss_nil)
      (pss_cons (ps_set (i := 6) scPs.nd rfl (.inl rfl) (pe_cal CP hr (pa_cons (pv 4) (pa_cons (pv 5) pa_nil))))
      (pss_cons (ps_if (PW.pt (pw_or (pt_cmpR op_gt (pe_callB call_len_seq (by rfl) mL PySem.boot_len (pa_cons (pv 6) pa_nil)) (pe_cst c) (nomark _)) (pw_or1 (pt_not (pt_val (pe_callB (cr_all rfl) (by rfl) mA (by decide +kernel) (pa_cons
          (pe_lc (own := [("x", 7), ("y", 8)]) (g := gTup K 2 (gCons (gName 7) (gCons (gName 8) gNil))) (tt := tYes) rfl scPs.nd (pi_list (pv 6)) (blkOk_by (N := ["places", "i", "j", "slot", "first", "second", "figure", "x", "y"]) (sc := defScope (top 49)) (by decide +kernel))
            (fun _ _ _ _ _ => pg_tup rfl (pgs_cons (pg_name (i := 7) scPs.nd rfl (Or.inl rfl)) (pgs_cons (pg_name (i := 8) scPs.nd rfl (Or.inl rfl)) pgs_nil))) (fun _ _ _ _ _ => pts_nil)
            (fun _ _ _ _ _ => pe_and (pe_cal CB (hr.mono (by decide)) (pa_cons (pv 7) pa_nil)) (pe_one (pe_cal CB (hr.mono (by decide)) (pa_cons (pv 8) pa_nil))))) pa_nil)))))))
        (pss_one (ps_ret (pe_lst (pa_cons (pe_un un_neg pe_int) pa_nil)))) pss_nil)
      (pss_cons (ps_asg (pv 6) (pg_sub (pv 0) (pv 3) set_list))
      (pss_one (ps_ret (pe_lst (pa_cons (pe_callB call_len_seq (by rfl) mL PySem.boot_len (pa_cons (pv 6) pa_nil)) pa_nil))))))))), ?_⟩
    refine ⟨_, rfl, _, rfl, A, i, st, rfl, hp, fun e1 => ?_, fun l a e1 g1 na hl => ?_⟩
    · have k0 := k.of (does_sum0 (.inl e1))
      refine ⟨_, rfl, _, rfl, A, j, st, rfl, hp, fun e2 => ?_, fun m b e2 g2 nb hm => ?_⟩
      · exact ⟨_, rfl, rfl, _, rfl, isn_yes (iteT (ret_neg (K := K) rfl k0 (Same.refl _) hp))⟩
      · exact ⟨_, rfl, rfl, _, rfl, isn_yes (iteT (ret_neg (K := K) rfl k0 (Same.refl _) hp))⟩
    refine ⟨_, rfl, _, rfl, A, j, st, rfl, hp, fun e2 => ?_, fun m b e2 g2 nb hm => ?_⟩
    · have k0 := k.of (does_sum0 (.inr (.inl e2)))
      exact ⟨_, rfl, rfl, _, rfl, isn_no ⟨_, rfl, rfl, _, rfl, isn_yes (iteT (ret_neg (K := K) rfl k0 (Same.refl _) hp))⟩⟩
    refine ⟨_, rfl, rfl, _, rfl, isn_no ⟨_, rfl, rfl, _, rfl, isn_no ⟨_, rfl, t, rfl, _, rfl, ?_⟩⟩⟩
    cases ht : Rc60.isSlot t with
    | false => exact iteT (ret_neg (K := K) rfl (k.of (does_sum0 (.inr (.inr ht)))) (Same.refl _) hp)
    | true =>
      have sl : (Rc60.sums l m).length ≤ 4200 := by
        rw [sums_len]
        exact Nat.le_trans (Nat.mul_le_mul g1.len g2.len) (by decide)
      refine iteF ⟨_, rfl, _, rfl, a, b, l, m, rfl, hl, hm, sl, few_of g2, sums_bx g1 g2, fun H1 p os s1 asc mem np hh => ?_⟩
      have hne : Rc60.sums l m ≠ [] := fun e => by
        have := sums_len m l
        rw [e] at this
        have h1 := g1.fig.len
        have h2 := g2.fig.len
        have := Nat.mul_le_mul h1 h2
        simp at *
        omega
      obtain ⟨e, h3, F, le, sub, nx⟩ := (Cf.hull_main asc mem sl hne).2 (sums_flat g1.fig g2.fig.ne)
      rw [e] at hh
      obtain ⟨ts, q1, q2, q3⟩ := hh
      refine ⟨_, rfl, p, _, rfl, .inl (.inl (.inl q1)), _, _, rfl, rfl, _, rfl, ite2 (fun c1 => ?_) (fun c1 => ?_)⟩
      · have d1 : (64 : Int) < ((ts.map V.ref).length : Int) := of_decide_eq_true c1
        rw [List.length_map, q2] at d1
        exact iteT (ret_neg (K := K) rfl (k.of (does_sum2 e1 e2 ht (.inr (by omega)))) s1 hp)
      · have d1 : ¬ 64 < (Rc60.hullOf (Rc60.sums l m)).length := fun q => c1 (decide_eq_true (show (64 : Int) < ((ts.map V.ref).length : Int) by rw [List.length_map, q2]; omega))
        refine ⟨_, rfl, p, rfl, ⟨_, .inl (.inl q1)⟩, fun Dd nD => ?_⟩
        refine lc_ints (f := fun x => .bl (inB x.1 && inB x.2)) mono_tup nD q1 q2 q3 (Nat.le_trans (Nat.le_trans le sl) (by decide)) (fun u x H' Q' hx s' hu k' => ?_) fun H' s' hD => ?_
        · refine un2 hu ⟨rfl, _, rfl, x.1, rfl, _, rfl, ite2 (fun c2 => ?_) (fun c2 => ?_)⟩
          · have := k' H' (Same.refl _)
            rw [c2] at this
            exact ⟨_, rfl, x.2, rfl, this⟩
          · have := k' H' (Same.refl _)
            rw [Bool.eq_false_iff.mpr c2] at this
            exact this
        · refine ⟨Dd, (Rc60.hullOf (Rc60.sums l m)).map (fun x => inB x.1 && inB x.2), rfl, .inl (.inl (by rw [hD, List.map_map]; rfl)), _, rfl, ?_⟩
          rw [close_is]
          have s2 := s1.trans s'
          cases hc : Rc60.closeBy (Rc60.hullOf (Rc60.sums l m)) with
          | false => exact iteT (ret_neg (K := K) rfl (k.of (does_sum2 e1 e2 ht (.inl hc))) s2 hp)
          | true =>
            have g := Cf.good_close F (by omega) (close_box hc)
            have k0 := k.of (does_sum e1 e2 ht (fun q => q.elim (not_false_of hc) d1))
            obtain ⟨ps, w1, w2, us, w3, w4, w5⟩ := put_ret k0 s2 hp ht g np ⟨ts, s' _ _ q1, q2, fun i' t' x' z1 z2 => s' _ _ (q3 i' t' x' z1 z2)⟩
            refine iteF ⟨_, rfl, _, rfl, _, rfl, A, _, _, _, rfl, rfl, w1, w2, _, rfl, p, _, rfl, .inl (.inl (.inl w3)), (by show 1 ≤ sizeLine; decide), fun q nq => ?_⟩
            rw [w4]
            exact w5 q nq
/-! ## put_dual -/
theorem scPd : FnScope ["places", "i", "slot", "figure", "turned"] ["places", "i", "slot"] (defScope (top 53)) := ⟨rfl, rfl, rfl, by decide +kernel, rfl, by decide +kernel, by decide +kernel⟩
theorem ok_pd (D : Df K mg "put_dual" (top 53) ["places", "i", "slot"]) (CF : Okd P w K mg base "figure_at" 2 ["places", "slot"] spFa) (CI : Okd P w K mg base "is_place" 1 ["slot"] spIp) (CH : Okd P w K mg base "has_dual" 4 ["figure"] spHd) (CD : Okd P w K mg base "dual" 4 ["figure"] spDu)
    (mL : mg "len" = none) : Okd P w K mg base "put_dual" 5 ["places", "i", "slot"] (sp2 .dual) := by
  refine D.ok fun f fd F => F.ok scPd (fun vs H Q E h => ?_) (fun cdv A outer s H vs Q E hr h => ?_)
  · obtain ⟨a, st, i, t, rfl, _⟩ := h
    rfl
  · obtain ⟨A, st, i, t, rfl, hp, k⟩ := h
    refine ⟨_, pss_cons (ps_set (i := 3) scPd.nd rfl (.inl rfl) (pe_cal CF (hr.mono (by decide)) (pa_cons (pv 0) (pa_cons (pv 1) pa_nil))))
      (pss_cons (ps_if (PW.pt (pw_or (pt_cmpR op_isN (pv 3) pe_non (nomark _)) (pw_or1 (pt_not (pt_val (pe_cal CI (hr.mono (by decide)) (pa_cons (pv 2) pa_nil)))))))
        (pss_one (ps_ret (pe_lst (pa_cons (pe_un un_neg pe_int) pa_nil)))) pss_nil)
      (pss_cons (ps_if (pt_not (pt_val (pe_cal CH hr (pa_cons (pv 3) pa_nil)))) (pss_one (ps_ret (pe_lst (pa_cons (pe_un un_neg pe_int) pa_nil)))) pss_nil)
      (pss_cons (ps_set (i := 4) scPd.nd rfl (.inl rfl) (pe_cal CD hr (pa_cons (pv 3) pa_nil)))
      (pss_cons (ps_asg (pv 4) (pg_sub (pv 0) (pv 2) set_list))
      (pss_one (ps_ret (pe_lst (pa_cons (pe_callB call_len_seq (by rfl) mL PySem.boot_len (pa_cons (pv 4) pa_nil)) pa_nil)))))))), ?_⟩
    refine ⟨_, rfl, _, rfl, A, i, st, rfl, hp, fun e1 => ?_, fun l a e1 g1 na hl => ?_⟩
    · exact ⟨_, rfl, rfl, _, rfl, isn_yes (iteT (ret_neg (K := K) rfl (k.of (does_dual0 (.inl e1))) (Same.refl _) hp))⟩
    refine ⟨_, rfl, rfl, _, rfl, isn_no ⟨_, rfl, t, rfl, _, rfl, ?_⟩⟩
    cases ht : Rc60.isSlot t with
    | false => exact iteT (ret_neg (K := K) rfl (k.of (does_dual0 (.inr ht))) (Same.refl _) hp)
    | true =>
      refine iteF ⟨_, rfl, a, l, rfl, hl, few_of g1, Bx.of g1, g1.fig, fun H1 s1 => ⟨_, rfl, ?_⟩⟩
      cases hn : Rc60.near l with
      | false => exact iteT (ret_neg (K := K) rfl (k.of (does_dual2 e1 ht hn)) s1 hp)
      | true =>
        have bd : ∀ p ∈ Rc60.duals l, Bx p := fun p hp => by
          have := g1.dbox hn p hp
          unfold Bx
          omega
        have ld : (Rc60.duals l).length = l.length := by rw [Cf.duals_eq, List.length_map, Cf.edges_len l g1.fig.ne]
        have few := few_of g1
        refine iteF ⟨_, rfl, a, l, rfl, hl.keep mono_tup s1, few, Bx.of g1, g1.fig, bd, fun H2 p os s2 asc mem np hh => ?_⟩
        have h3' := g1.fig.len
        obtain ⟨e, h3, F, le, sub, nx⟩ := (Cf.hull_main asc mem (by omega) (fun z => by rw [z] at ld; simp at ld; omega)).2 (Cf.duals_flat g1.fig hn)
        rw [e] at hh
        have g := Cf.good_dual g1 hn F le sub nx
        have k0 := k.of (does_dual e1 ht hn)
        obtain ⟨ps, w1, w2, us, w3, w4, w5⟩ := put_ret k0 (s1.trans s2) hp ht g (s1.free np) hh
        refine ⟨_, rfl, _, rfl, _, rfl, A, _, _, _, rfl, rfl, w1, w2, _, rfl, p, _, rfl, .inl (.inl (.inl w3)), (by show 1 ≤ sizeLine; decide), fun q nq => ?_⟩
        rw [w4]
        exact w5 q nq
end
end Cs

set_option maxRecDepth 100000
set_option maxHeartbeats 4000000
namespace Cs
open PySem PySem.Spec PyProof.Rows L2
/-! ## the points of a list of numbers -/
def prs2 : List Int → List Cf.Pt
  | x :: y :: r => (x, y) :: prs2 r
  | _ => []
theorem sgn_is {z : Int} (h1 : 0 ≤ z) (h2 : z ≤ 4294967295) : Rc60.signed z.toNat = sgn z := by
  unfold Rc60.signed sgn
  split <;> omega
theorem pairs_is : ∀ (ns : List Int), (∀ z ∈ ns, 0 ≤ z ∧ z ≤ 4294967295) → Rc60.pairsOf (ns.map Int.toNat) = prs2 (ns.map sgn)
  | [], _ => rfl
  | [x], _ => rfl
  | x :: y :: r, h => by
    show (Rc60.signed x.toNat, Rc60.signed y.toNat) :: Rc60.pairsOf (r.map Int.toNat) = (sgn x, sgn y) :: prs2 (r.map sgn)
    have hx := h x (by simp)
    have hy := h y (by simp)
    rw [pairs_is r fun z hz => h z (by simp [hz]), sgn_is hx.1 hx.2, sgn_is hy.1 hy.2]
theorem prs2_len : ∀ (zs : List Int), (prs2 zs).length = zs.length / 2
  | [] => rfl
  | [x] => by simp [prs2]
  | x :: y :: r => by
    show (prs2 r).length + 1 = (r.length + 1 + 1) / 2
    rw [prs2_len r]
    omega
theorem prs2_close : ∀ (zs : List Int), zs.length % 2 = 0 → Rc60.closeBy (prs2 zs) = (zs.map inB).all id
  | [], _ => rfl
  | [x], h => by simp at h
  | x :: y :: r, h => by
    have ih := prs2_close r (by simp only [List.length_cons] at h; omega)
    show ((inB x && inB y) && Rc60.closeBy (prs2 r)) = (inB x && (inB y && (r.map inB).all id))
    rw [ih, Bool.and_assoc]
theorem prs2_at : ∀ (zs : List Int) (j : Nat) (x y : Int), (ev2 zs)[j]? = some x → (ev2 (zs.drop 1))[j]? = some y → (prs2 zs)[j]? = some (x, y)
  | [], j, x, y, h, _ => by simp [ev2] at h
  | [a], j, x, y, _, h => by simp [ev2] at h
  | [a, b], 0, x, y, h1, h2 => by
    simp only [ev2, List.drop_succ_cons, List.drop_zero, List.getElem?_cons_zero, Option.some.injEq] at h1 h2
    rw [h1, h2]
    rfl
  | [a, b], j + 1, x, y, h1, h2 => by simp [ev2] at h1
  | a :: b :: c :: r, 0, x, y, h1, h2 => by
    cases r with
    | nil =>
      simp only [ev2, List.drop_succ_cons, List.drop_zero, List.getElem?_cons_zero, Option.some.injEq] at h1 h2
      rw [h1, h2]
      rfl
    | cons d r =>
      simp only [ev2, List.drop_succ_cons, List.drop_zero, List.getElem?_cons_zero, Option.some.injEq] at h1 h2
      rw [h1, h2]
      rfl
  | a :: b :: c :: r, j + 1, x, y, h1, h2 => by
    show (prs2 (c :: r))[j]? = some (x, y)
    refine prs2_at (c :: r) j x y ?_ ?_
    · exact h1
    · cases r with
      | nil => simp [ev2] at h2
      | cons d r => exact h2
theorem ev2_map {α β : Type} (f : α → β) : ∀ l : List α, ev2 (l.map f) = (ev2 l).map f
  | [] => rfl
  | [x] => rfl
  | x :: y :: r => by
    show f x :: ev2 (r.map f) = f x :: (ev2 r).map f
    rw [ev2_map f r]
theorem does_hull0 {s : Rc60.Abs} {l : List Nat} {n t : Int} (h : Rc60.isSlot t = false ∨ (n < 2 ∨ 128 < n ∨ n % 2 = 1) ∨ Rc60.closeBy (Rc60.pairsOf l) = false) : Rc60.does s (.hull l n t) = (s, { value := -1, numbers := [] }) := by
  simp only [Rc60.does]
  by_cases ht : Rc60.isSlot t = false
  · exact if_pos ht
  · rw [if_neg ht]
    have e : Rc60.told l n = none := by
      unfold Rc60.told
      refine if_pos ?_
      rcases h with h | (h | h | h) | h
      · exact absurd h ht
      · exact .inl h
      · exact .inr (.inl h)
      · exact .inr (.inr (.inl h))
      · exact .inr (.inr (.inr h))
    rw [e]
    rfl
theorem told_some {l : List Nat} {n : Int} (h : ¬ (n < 2 ∨ 128 < n ∨ n % 2 = 1)) (hc : Rc60.closeBy (Rc60.pairsOf l) = true) : Rc60.told l n = some (Rc60.pairsOf l) := by
  unfold Rc60.told
  refine if_neg fun q => ?_
  rcases q with q | q | q | q
  · exact h (.inl q)
  · exact h (.inr (.inl q))
  · exact h (.inr (.inr q))
  · exact not_false_of hc q
theorem does_hull2 {s : Rc60.Abs} {l : List Nat} {n t : Int} (ht : Rc60.isSlot t = true) (h : ¬ (n < 2 ∨ 128 < n ∨ n % 2 = 1)) (hc : Rc60.closeBy (Rc60.pairsOf l) = true) (hf : Rc60.flat (Rc60.pairsOf l) = true) : Rc60.does s (.hull l n t) = (s, { value := -2, numbers := [] }) := by
  simp only [Rc60.does]
  rw [if_neg (not_false_of ht), told_some h hc]
  exact if_pos hf
theorem does_hull {st : Slots} {l : List Nat} {n t : Int} (ht : Rc60.isSlot t = true) (h : ¬ (n < 2 ∨ 128 < n ∨ n % 2 = 1)) (hc : Rc60.closeBy (Rc60.pairsOf l) = true) (hf : ¬ Rc60.flat (Rc60.pairsOf l) = true) :
    Rc60.does (ab st) (.hull l n t) = (ab (st.set t.toNat (some (Rc60.hullOf (Rc60.pairsOf l)))), { value := ((Rc60.hullOf (Rc60.pairsOf l)).length : Nat), numbers := [] }) := by
  simp only [Rc60.does]
  rw [if_neg (not_false_of ht), told_some h hc]
  exact if_neg hf
def spPh : Sp := fun vs H Q _ => ∃ (A b : Addr) (st : Slots) (t : Int) (ns : List Int), vs = [.ref A, .int t, .ref b] ∧ PlA H A st ∧ H b = some (.lst (ns.map V.int)) ∧ ns.length ≤ 128 ∧ (∀ z ∈ ns, 0 ≤ z ∧ z ≤ 4294967295) ∧ AfterC H Q A st (.hull (ns.map Int.toNat) ns.length t)
/-- a comprehension over a list of numbers -/
theorem lc_nums {K : PySem.W.Frag} {a : Addr} {ns : List Int} {g : TG} {te : TE} {vs : List Nat} {σ : L2.St} {H1 : Hp} {D : Addr} {Qd : Hp → Prop} (f : Int → V) (nD : H1 D = none) (ha : H1 a = some (.lst (ns.map V.int))) (few : ns.length ≤ sizeLine)
    (hs : ∀ z H (Q : VK), z ∈ ns → Same H1 H → Q (f z) H → g (.int z) (wipe σ vs) H fun σ2 H2 => wipe σ2 vs = wipe σ vs ∧ te σ2 H2 Q)
    (hd : ∀ H, Same H1 H → H D = some (.lst (ns.map f)) → Qd H) :
    ∃ W : Nat → Nat → Hp → Prop, (∃ m, W 0 m (upd H1 D (.lst []))) ∧ ∀ i m H, W i m H →
      ((Itl K a).stop i H ∧ Qd H) ∨ ((Itl K a).go i H ∧ ∃ Nx : Hp → Prop, (∀ H', Nx H' → ∃ m', m' < m ∧ W (i + 1) m' H') ∧ ∀ x H', (Itl K a).yld i H x H' → g x (wipe σ vs) H' fun σ2 H2 => wipe σ2 vs = wipe σ vs ∧ tYes σ2 H2 fun b H3 =>
        if b = true then te σ2 H3 fun y H4 => ∃ acc, H4 D = some (.lst acc) ∧ acc.length < sizeLine ∧ Nx (upd H4 D (.lst (acc ++ [y]))) else Nx H3) := by
  refine lc_list (xs := ns.map V.int) (fun i H => Same H1 H ∧ H D = some (.lst ((ns.take i).map f))) ⟨new_same nD, upd_same⟩ (fun i H _ ⟨s, _⟩ => .inl (.inl (s _ _ ha))) (fun i v H hv ⟨s, hD⟩ => ?_) fun H ⟨s, hD⟩ => ?_
  · rw [List.getElem?_map] at hv
    cases e : ns[i]? with
    | none => rw [e] at hv; cases hv
    | some z =>
      rw [e] at hv
      cases hv
      have hi := (List.getElem?_eq_some_iff.mp e).1
      refine hs z H (fun y H4 => ∃ acc, H4 D = some (.lst acc) ∧ acc.length < sizeLine ∧ (Same H1 (upd H4 D (.lst (acc ++ [y]))) ∧ (upd H4 D (.lst (acc ++ [y]))) D = some (.lst ((ns.take (i + 1)).map f)))) (List.mem_of_getElem? e) s ⟨_, hD, ?_, fun b o q => ?_, ?_⟩
      · rw [List.length_map, List.length_take]
        omega
      · rw [upd_ne (ne_of_none q nD)]
        exact s _ _ q
      · rw [upd_same, List.take_add_one, e, List.map_append]
        rfl
  · rw [List.length_map, List.take_length] at hD
    exact hd H s hD
section
variable {P : Program} {w : World} {K : PySem.W.Frag} {mg : Str → Option Value} {base : Heap}
/-! ## put_hull -/
theorem scPh : FnScope ["places", "slot", "points", "numbers", "figure", "number"] ["places", "slot", "points"] (defScope (top 46)) := ⟨rfl, rfl, rfl, by decide +kernel, rfl, by decide +kernel, by decide +kernel⟩
theorem ok_ph (D : Df K mg "put_hull" (top 46) ["places", "slot", "points"]) (CI : Okd P w K mg base "is_place" 1 ["slot"] spIp) (CG : Okd P w K mg base "signed" 1 ["number"] spSg) (CB : Okd P w K mg base "in_bounds" 1 ["number"] spIb) (CH : Okd P w K mg base "hull" 3 ["points"] spHu)
    (mL : mg "len" = none) (mA : mg "all" = none) (mI : mg "list" = none) (mZ : mg "zip" = none) (c : Cst mg "MOST_POINT_NUMBERS" 128) : Okd P w K mg base "put_hull" 4 ["places", "slot", "points"] spPh := by
  refine D.ok fun f fd F => F.ok scPh (fun vs H Q E h => ?_) (fun cdv A outer s H vs Q E hr h => ?_)
  · obtain ⟨a, b, st, t, ns, rfl, _⟩ := h
    rfl
  · obtain ⟨A, b, st, t, ns, rfl, hp, hb, n128, hz, k⟩ := h
    refine ⟨_, pss_cons (ps_if (PW.pt (pw_or (pt_not (pt_chain op_le op_le pe_int (pe_callB call_len_seq (by rfl) mL PySem.boot_len (pa_cons (pv 2) pa_nil)) (pe_cst c)))
          (pw_or1 (pt_cmpR op_eq (pe_op op_modN (pe_callB call_len_seq (by rfl) mL PySem.boot_len (pa_cons (pv 2) pa_nil)) pe_int) pe_int (nomark _))))) (pss_one (ps_ret (pe_lst (pa_cons (pe_un un_neg pe_int) pa_nil)))) pss_nil)
      (pss_cons (ps_setLc (i := 3) (own := [("number", 5)]) (g := gName 5) (tt := tYes) (by rfl) scPh.nd rfl rfl (sw_true rfl rfl rfl (by decide +kernel)) (pi_list (pv 2)) (blkOk_by (N := ["places", "slot", "points", "numbers", "figure", "number"]) (sc := defScope (top 46)) (by decide +kernel))
          (fun _ _ _ _ _ => pg_name (i := 5) scPh.nd rfl (Or.inl rfl)) (fun _ _ _ _ _ => pts_nil) (fun _ _ _ _ _ => pe_cal CG (hr.mono (by decide)) (pa_cons (pv 5) pa_nil)))
      (pss_cons (ps_if (PW.pt (pw_or (pt_not (pt_val (pe_callB (cr_all rfl) (by rfl) mA (by decide +kernel) (pa_cons
          (pe_lc (own := [("number", 5)]) (g := gName 5) (tt := tYes) rfl scPh.nd (pi_list (pv 3)) (blkOk_by (N := ["places", "slot", "points", "numbers", "figure", "number"]) (sc := defScope (top 46)) (by decide +kernel))
            (fun _ _ _ _ _ => pg_name (i := 5) scPh.nd rfl (Or.inl rfl)) (fun _ _ _ _ _ => pts_nil) (fun _ _ _ _ _ => pe_cal CB (hr.mono (by decide)) (pa_cons (pv 5) pa_nil))) pa_nil))))
          (pw_or1 (pt_not (pt_val (pe_cal CI (hr.mono (by decide)) (pa_cons (pv 1) pa_nil))))))) (pss_one (ps_ret (pe_lst (pa_cons (pe_un un_neg pe_int) pa_nil)))) pss_nil)
      (pss_cons (ps_set (i := 4) scPh.nd rfl (.inl rfl) (pe_cal CH hr (pa_cons (pe_zipL rfl (by rfl) mI (by rfl) mZ (pa_cons (pe_ev2 (i := 0) (by decide) (pv 3)) (pa_cons (pe_ev2 (i := 1) (by decide) (pv 3)) pa_nil))) pa_nil)))
      (pss_cons (ps_if (pt_cmpR op_lt (pe_callB call_len_seq (by rfl) mL PySem.boot_len (pa_cons (pv 4) pa_nil)) pe_int (nomark _)) (pss_one (ps_ret (pe_lst (pa_cons (pe_un un_neg pe_int) pa_nil)))) pss_nil)
      (pss_cons (ps_asg (pv 4) (pg_sub (pv 0) (pv 1) set_list))
      (pss_one (ps_ret (pe_lst (pa_cons (pe_callB call_len_seq (by rfl) mL PySem.boot_len (pa_cons (pv 4) pa_nil)) pa_nil))))))))), ?_⟩
    have lb : (ns.map V.int).length = ns.length := List.length_map ..
    have no : ((ns.length : Int) < 2 ∨ 128 < (ns.length : Int) ∨ (ns.length : Int) % 2 = 1) → _ := fun q => k.of (does_hull0 (.inr (.inl q)))
    refine ⟨_, rfl, b, _, rfl, .inl (.inl (.inl hb)), _, _, rfl, rfl, _, rfl, ite2 (fun c1 => ?_) (fun c1 => ?_)⟩
    · rw [lb] at c1 ⊢
      have d1 : (2 : Int) ≤ ns.length := of_decide_eq_true c1
      refine ⟨_, _, rfl, rfl, _, rfl, ite2 (fun c2 => ?_) (fun c2 => ?_)⟩
      · have d2 : decide ((ns.length : Int) ≤ 128) = true := decide_eq_true (by omega)
        rw [d2] at c2
        cases c2
      refine ⟨_, rfl, b, _, rfl, .inl (.inl (.inl hb)), _, _, rfl, rfl, (show (2 : Int) ≠ 0 by decide), rfl, _, rfl, ite2 (fun c3 => ?_) (fun c3 => ?_)⟩
      · have d3 : V.int (((ns.map V.int).length : Int).fmod 2) = V.int 1 := of_decide_eq_true c3
        rw [lb] at d3
        have d3' := V.int.inj d3
        rw [Int.fmod_eq_emod_of_nonneg _ (by decide)] at d3'
        exact ret_neg (K := K) rfl (no (.inr (.inr d3'))) (Same.refl _) hp
      have d3 : ¬ (ns.length : Int) % 2 = 1 := fun q => c3 (decide_eq_true (by
        show V.int (((ns.map V.int).length : Int).fmod 2) = V.int 1
        rw [lb, Int.fmod_eq_emod_of_nonneg _ (by decide), q]))
      have dd : ¬ ((ns.length : Int) < 2 ∨ 128 < (ns.length : Int) ∨ (ns.length : Int) % 2 = 1) := by omega
      have fs : ns.length ≤ sizeLine := Nat.le_trans n128 (by decide)
      refine ⟨_, rfl, b, rfl, ⟨_, .inl (.inl hb)⟩, fun Dn nD => ?_⟩
      refine lc_nums (f := fun z => .int (sgn z)) nD hb fs (fun z H' Q' _ s' k' => ⟨rfl, _, rfl, z, rfl, k'⟩) fun H1 s1 hD => ?_
      have hD' : H1 Dn = some (.lst ((ns.map sgn).map V.int)) := by
        rw [List.map_map]
        exact hD
      have pis := pairs_is ns hz
      have lz : (ns.map sgn).length = ns.length := List.length_map ..
      generalize ns.map sgn = zs at hD' pis lz
      refine ⟨_, rfl, Dn, rfl, ⟨_, .inl (.inl hD')⟩, fun De nE => ?_⟩
      refine lc_nums (f := fun z => .bl (inB z)) nE hD' (by omega) (fun z H' Q' _ s' k' => ⟨rfl, _, rfl, z, rfl, k'⟩) fun H2 s2 hE => ?_
      have s12 := s1.trans s2
      refine ⟨De, zs.map inB, rfl, .inl (.inl (by rw [hE, List.map_map]; rfl)), _, rfl, ?_⟩
      rw [← prs2_close zs (by omega)]
      cases hc : Rc60.closeBy (prs2 zs) with
      | false => exact iteT (iteT (ret_neg (K := K) rfl (k.of (does_hull0 (.inr (.inr (by rw [pis]; exact hc))))) s12 hp))
      | true =>
        refine iteF ⟨_, rfl, t, rfl, _, rfl, ?_⟩
        cases ht : Rc60.isSlot t with
        | false => exact iteT (ret_neg (K := K) rfl (k.of (does_hull0 (.inl ht))) s12 hp)
        | true =>
          have hD2 := s2 _ _ hD'
          have l2 : 2 ≤ (zs.map V.int).length := by rw [List.length_map]; omega
          refine iteF ⟨_, rfl, Dn, _, rfl, .inl (.inl hD2), l2, fun p1 n1 => ?_⟩
          have s3 := new_same (o := .lst (ev2 ((zs.map V.int).drop 0))) n1
          refine ⟨_, rfl, Dn, _, rfl, .inl (.inl (s3 _ _ hD2)), l2, fun p2 n2 => ?_⟩
          have s4 := new_same (o := .lst (ev2 ((zs.map V.int).drop 1))) n2
          have ll : (ev2 ((zs.map V.int).drop 0)).length = (ev2 ((zs.map V.int).drop 1)).length := by
            rw [ev2_len, ev2_len, List.length_drop, List.length_drop, List.length_map]
            omega
          refine ⟨p1, p2, _, _, rfl, .inl (.inl (s4 _ _ upd_same)), .inl (.inl upd_same), ll, fun H3 p ts s5 np nts lts hq hts => ?_⟩
          have s05 := s12.trans (s3.trans (s4.trans s5))
          have lp : (prs2 zs).length = zs.length / 2 := prs2_len zs
          have few : (prs2 zs).length ≤ 64 := by omega
          have e0 : ev2 ((zs.map V.int).drop 0) = (ev2 zs).map V.int := ev2_map V.int zs
          have e1 : ev2 ((zs.map V.int).drop 1) = (ev2 (zs.drop 1)).map V.int := by
            rw [← List.map_drop]
            exact ev2_map V.int _
          have k1 : (ev2 zs).length = zs.length / 2 := by
            rw [ev2_len]
            omega
          have k2 : (ev2 (zs.drop 1)).length = zs.length / 2 := by
            rw [ev2_len, List.length_drop]
            omega
          rw [e0] at lts hts
          rw [e1] at hts
          rw [List.length_map, k1] at lts
          have hpts : Pts H3 p (prs2 zs) := ⟨ts, hq, by rw [lts, lp], fun i u x g1 g2 => by
            have hi := (List.getElem?_eq_some_iff.mp g1).1
            have a1 : (ev2 zs)[i]? = some ((ev2 zs)[i]'(by omega)) := List.getElem?_eq_getElem _
            have a2 : (ev2 (zs.drop 1))[i]? = some ((ev2 (zs.drop 1))[i]'(by omega)) := List.getElem?_eq_getElem _
            have a3 := prs2_at zs i _ _ a1 a2
            rw [a3] at g2
            cases g2
            exact hts i u _ _ g1 (by rw [List.getElem?_map, a1]; rfl) (by rw [List.getElem?_map, a2]; rfl)⟩
          have cb := close_box hc
          refine ⟨p, prs2 zs, rfl, hpts, by omega, fun x hx => by have := cb x hx; unfold Bx; omega, fun H4 q os s6 asc mem nq hh => ?_⟩
          have s06 := s05.trans s6
          have nq0 : H q = none := s05.free nq
          have hm := Cf.hull_main asc mem (by omega) (fun e => by rw [e] at lp; simp at lp; omega)
          obtain ⟨us, q1, q2, q3⟩ := hh
          refine ⟨_, rfl, q, _, rfl, .inl (.inl (.inl q1)), _, _, rfl, rfl, _, rfl, ?_⟩
          rw [List.length_map, q2]
          cases hf : Rc60.flat (prs2 zs) with
          | true =>
            rw [decide_eq_true (show ((Cf.hullC os).length : Int) < 3 by have := hm.1 hf; omega)]
            exact iteT (ret_neg (K := K) rfl (k.of (does_hull2 ht dd (by rw [pis]; exact hc) (by rw [pis]; exact hf))) s06 hp)
          | false =>
            obtain ⟨e, h3, F, le, sub, nx⟩ := hm.2 hf
            rw [decide_eq_false (show ¬ ((Cf.hullC os).length : Int) < 3 by omega)]
            have k0 := k.of (does_hull ht dd (by rw [pis]; exact hc) (by rw [pis, hf]; decide))
            rw [pis] at k0
            rw [e] at q2 q3
            have g := Cf.good_close F (by omega) (fun x hx => cb x (sub x hx))
            obtain ⟨ps, w1, w2, vs, w3, w4, w5⟩ := put_ret k0 s06 hp ht g nq0 ⟨us, q1, q2, q3⟩
            refine iteF ⟨_, rfl, _, rfl, _, rfl, A, _, _, _, rfl, rfl, w1, w2, _, rfl, q, _, rfl, .inl (.inl (.inl w3)), (by show 1 ≤ sizeLine; decide), fun r nr => ?_⟩
            rw [w4]
            exact w5 r nr
    · rw [lb] at c1
      have d1 : ¬ (2 : Int) ≤ ns.length := fun q => c1 (decide_eq_true q)
      exact ⟨_, rfl, iteT (ret_neg (K := K) rfl (no (.inl (by omega))) (Same.refl _) hp)⟩
end
end Cs

set_option maxRecDepth 100000
set_option maxHeartbeats 4000000
namespace Cs
open PySem PySem.Spec PyProof.Rows L2
/-! ## answer -/
/-- a call's number, its whole numbers, its points, and which call that is -/
inductive CallIs : Int → List Int → List Int → Rc60.Call → Prop
  | init : CallIs 0 [] [] .init
  | hull (t : Int) (ns : List Int) (h1 : ns.length ≤ 128) (h2 : ∀ z ∈ ns, 0 ≤ z ∧ z ≤ 4294967295) : CallIs 1 [t] ns (.hull (ns.map Int.toNat) ns.length t)
  | corners (i j : Int) : CallIs 2 [i, j] [] (.corners i j)
  | about (i : Int) : CallIs 3 [i] [] (.about i)
  | sum (i j t : Int) : CallIs 4 [i, j, t] [] (.sum i j t)
  | mixed (i j : Int) : CallIs 5 [i, j] [] (.mixed i j)
  | parts (i : Int) : CallIs 6 [i] [] (.parts i)
  | room (i j : Int) : CallIs 7 [i, j] [] (.room i j)
  | dual (i j : Int) : CallIs 8 [i, j] [] (.dual i j)
def spAw : Sp := fun vs H Q _ => ∃ (A g b : Addr) (st : Slots) (n : Int) (xs ns : List Int) (c : Rc60.Call), vs = [.ref A, .int n, .ref g, .ref b] ∧ PlA H A st ∧ H g = some (.lst (xs.map V.int)) ∧ H b = some (.lst (ns.map V.int)) ∧ CallIs n xs ns c ∧ AfterC H Q A st c
theorem eq_yes {n : Int} {A B : Prop} (h : A) : if decide (V.int n = V.int n) = true then A else B := by
  rw [if_pos (decide_eq_true rfl)]
  exact h
theorem eq_no {n m : Int} {A B : Prop} (ne : n ≠ m) (h : B) : if decide (V.int n = V.int m) = true then A else B := by
  rw [if_neg (fun c => ne (V.int.inj (of_decide_eq_true c)))]
  exact h
section
variable {P : Program} {w : World} {K : PySem.W.Frag} {mg : Str → Option Value} {base : Heap}
theorem scAw : FnScope ["places", "call", "given", "points"] ["places", "call", "given", "points"] (defScope (top 54)) := ⟨rfl, rfl, rfl, by decide +kernel, rfl, by decide +kernel, by decide +kernel⟩
/-- given[k] -/
theorem gk {σ : L2.St} {H : Hp} {Q : VK} {i : Nat} {g : Addr} {xs : List Int} {k : Nat} {z : Int} (hs : σ[i]? = some (some (.ref g))) (h : H g = some (.lst (xs.map V.int))) (hz : xs[k]? = some z) (q : Q (.int z) H) : tOp (rIxL K) (tVar i) (tC (.int (k : Int))) σ H Q :=
  ⟨_, hs, _, _, _, _, rfl, rfl, .inl (.inl h), atI_nat (by rw [List.getElem?_map, hz]; rfl), q⟩
theorem ok_aw (D : Df K mg "answer" (top 54) ["places", "call", "given", "points"]) (C0 : Okd P w K mg base "begin" 1 ["places"] spBg) (C1 : Okd P w K mg base "put_hull" 4 ["places", "slot", "points"] spPh) (C2 : Okd P w K mg base "tell_corners" 3 ["places", "slot", "most"] (sp2 .corners))
    (C3 : Okd P w K mg base "tell_about" 5 ["places", "slot"] (sp1 .about)) (C4 : Okd P w K mg base "put_sum" 5 ["places", "i", "j", "slot"] (sp3 .sum)) (C5 : Okd P w K mg base "tell_mixed" 3 ["places", "i", "j"] (sp2 .mixed)) (C6 : Okd P w K mg base "tell_parts" 7 ["places", "slot"] (sp1 .parts))
    (C7 : Okd P w K mg base "tell_room" 4 ["places", "i", "j"] (sp2 .room)) (C8 : Okd P w K mg base "put_dual" 5 ["places", "i", "slot"] (sp2 .dual)) : Okd P w K mg base "answer" 8 ["places", "call", "given", "points"] spAw := by
  refine D.ok fun f fd F => F.ok scAw (fun vs H Q E h => ?_) (fun cdv A outer s H vs Q E hr h => ?_)
  · obtain ⟨A, g, b, st, n, xs, ns, c, rfl, _⟩ := h
    rfl
  · obtain ⟨A, g, b, st, n, xs, ns, c, rfl, hp, hg, hb, hc, k⟩ := h
    refine ⟨_, pss_cons (ps_if (pt_cmpR op_eq (pv 1) pe_int (nomark _)) (pss_one (ps_ret (pe_cal C0 (hr.mono (by decide)) (pa_cons (pv 0) pa_nil)))) pss_nil)
      (pss_cons (ps_if (pt_cmpR op_eq (pv 1) pe_int (nomark _)) (pss_one (ps_ret (pe_cal C1 (hr.mono (by decide)) (pa_cons (pv 0) (pa_cons (pe_ix ix_list (pv 2) pe_int (fun _ _ => rfl)) (pa_cons (pv 3) pa_nil)))))) pss_nil)
      (pss_cons (ps_if (pt_cmpR op_eq (pv 1) pe_int (nomark _)) (pss_one (ps_ret (pe_cal C2 (hr.mono (by decide)) (pa_cons (pv 0) (pa_cons (pe_ix ix_list (pv 2) pe_int (fun _ _ => rfl)) (pa_cons (pe_ix ix_list (pv 2) pe_int (fun _ _ => rfl)) pa_nil)))))) pss_nil)
      (pss_cons (ps_if (pt_cmpR op_eq (pv 1) pe_int (nomark _)) (pss_one (ps_ret (pe_cal C3 (hr.mono (by decide)) (pa_cons (pv 0) (pa_cons (pe_ix ix_list (pv 2) pe_int (fun _ _ => rfl)) pa_nil))))) pss_nil)
      (pss_cons (ps_if (pt_cmpR op_eq (pv 1) pe_int (nomark _)) (pss_one (ps_ret (pe_cal C4 (hr.mono (by decide)) (pa_cons (pv 0) (pa_cons (pe_ix ix_list (pv 2) pe_int (fun _ _ => rfl)) (pa_cons (pe_ix ix_list (pv 2) pe_int (fun _ _ => rfl)) (pa_cons (pe_ix ix_list (pv 2) pe_int (fun _ _ => rfl)) pa_nil))))))) pss_nil)
      (pss_cons (ps_if (pt_cmpR op_eq (pv 1) pe_int (nomark _)) (pss_one (ps_ret (pe_cal C5 (hr.mono (by decide)) (pa_cons (pv 0) (pa_cons (pe_ix ix_list (pv 2) pe_int (fun _ _ => rfl)) (pa_cons (pe_ix ix_list (pv 2) pe_int (fun _ _ => rfl)) pa_nil)))))) pss_nil)
      (pss_cons (ps_if (pt_cmpR op_eq (pv 1) pe_int (nomark _)) (pss_one (ps_ret (pe_cal C6 hr (pa_cons (pv 0) (pa_cons (pe_ix ix_list (pv 2) pe_int (fun _ _ => rfl)) pa_nil))))) pss_nil)
      (pss_cons (ps_if (pt_cmpR op_eq (pv 1) pe_int (nomark _)) (pss_one (ps_ret (pe_cal C7 (hr.mono (by decide)) (pa_cons (pv 0) (pa_cons (pe_ix ix_list (pv 2) pe_int (fun _ _ => rfl)) (pa_cons (pe_ix ix_list (pv 2) pe_int (fun _ _ => rfl)) pa_nil)))))) pss_nil)
      (pss_one (ps_ret (pe_cal C8 (hr.mono (by decide)) (pa_cons (pv 0) (pa_cons (pe_ix ix_list (pv 2) pe_int (fun _ _ => rfl)) (pa_cons (pe_ix ix_list (pv 2) pe_int (fun _ _ => rfl)) pa_nil))))))))))))), ?_⟩
    have st8 : st.length = 8 := by obtain ⟨_, _, _, h, _⟩ := hp.ex; exact h
    cases hc with
    | init => exact ⟨_, rfl, rfl, _, rfl, eq_yes ⟨_, rfl, A, st, rfl, hp, k⟩⟩
    | hull t ns h1 h2 => exact ⟨_, rfl, rfl, _, rfl, eq_no (by decide) ⟨_, rfl, rfl, _, rfl, eq_yes ⟨_, rfl, gk (k := 0) rfl hg rfl ⟨_, rfl, A, b, st, t, ns, rfl, hp, hb, h1, h2, k⟩⟩⟩⟩
    | corners i j => exact ⟨_, rfl, rfl, _, rfl, eq_no (by decide) ⟨_, rfl, rfl, _, rfl, eq_no (by decide) ⟨_, rfl, rfl, _, rfl, eq_yes ⟨_, rfl, gk (k := 0) rfl hg rfl (gk (k := 1) rfl hg rfl ⟨A, st, i, j, rfl, hp, k⟩)⟩⟩⟩⟩
    | about i => exact ⟨_, rfl, rfl, _, rfl, eq_no (by decide) ⟨_, rfl, rfl, _, rfl, eq_no (by decide) ⟨_, rfl, rfl, _, rfl, eq_no (by decide) ⟨_, rfl, rfl, _, rfl, eq_yes ⟨_, rfl, gk (k := 0) rfl hg rfl ⟨A, st, i, rfl, hp, k⟩⟩⟩⟩⟩⟩
    | sum i j t => exact ⟨_, rfl, rfl, _, rfl, eq_no (by decide) ⟨_, rfl, rfl, _, rfl, eq_no (by decide) ⟨_, rfl, rfl, _, rfl, eq_no (by decide) ⟨_, rfl, rfl, _, rfl, eq_no (by decide) ⟨_, rfl, rfl, _, rfl, eq_yes ⟨_, rfl, gk (k := 0) rfl hg rfl (gk (k := 1) rfl hg rfl (gk (k := 2) rfl hg rfl ⟨A, st, i, j, t, rfl, hp, k⟩))⟩⟩⟩⟩⟩⟩
    | mixed i j => exact ⟨_, rfl, rfl, _, rfl, eq_no (by decide) ⟨_, rfl, rfl, _, rfl, eq_no (by decide) ⟨_, rfl, rfl, _, rfl, eq_no (by decide) ⟨_, rfl, rfl, _, rfl, eq_no (by decide) ⟨_, rfl, rfl, _, rfl, eq_no (by decide) ⟨_, rfl, rfl, _, rfl, eq_yes ⟨_, rfl, gk (k := 0) rfl hg rfl (gk (k := 1) rfl hg rfl ⟨A, st, i, j, rfl, hp, k⟩)⟩⟩⟩⟩⟩⟩⟩
    | parts i => exact ⟨_, rfl, rfl, _, rfl, eq_no (by decide) ⟨_, rfl, rfl, _, rfl, eq_no (by decide) ⟨_, rfl, rfl, _, rfl, eq_no (by decide) ⟨_, rfl, rfl, _, rfl, eq_no (by decide) ⟨_, rfl, rfl, _, rfl, eq_no (by decide) ⟨_, rfl, rfl, _, rfl, eq_no (by decide) ⟨_, rfl, rfl, _, rfl, eq_yes ⟨_, rfl, gk (k := 0) rfl hg rfl ⟨A, st, i, rfl, hp, k⟩⟩⟩⟩⟩⟩⟩⟩⟩
    | room i j => exact ⟨_, rfl, rfl, _, rfl, eq_no (by decide) ⟨_, rfl, rfl, _, rfl, eq_no (by decide) ⟨_, rfl, rfl, _, rfl, eq_no (by decide) ⟨_, rfl, rfl, _, rfl, eq_no (by decide) ⟨_, rfl, rfl, _, rfl, eq_no (by decide) ⟨_, rfl, rfl, _, rfl, eq_no (by decide) ⟨_, rfl, rfl, _, rfl, eq_no (by decide) ⟨_, rfl, rfl, _, rfl, eq_yes ⟨_, rfl, gk (k := 0) rfl hg rfl (gk (k := 1) rfl hg rfl ⟨A, st, i, j, rfl, hp, k⟩)⟩⟩⟩⟩⟩⟩⟩⟩⟩
    | dual i j => exact ⟨_, rfl, rfl, _, rfl, eq_no (by decide) ⟨_, rfl, rfl, _, rfl, eq_no (by decide) ⟨_, rfl, rfl, _, rfl, eq_no (by decide) ⟨_, rfl, rfl, _, rfl, eq_no (by decide) ⟨_, rfl, rfl, _, rfl, eq_no (by decide) ⟨_, rfl, rfl, _, rfl, eq_no (by decide) ⟨_, rfl, rfl, _, rfl, eq_no (by decide) ⟨_, rfl, rfl, _, rfl, eq_no (by decide) ⟨_, rfl, gk (k := 0) rfl hg rfl (gk (k := 1) rfl hg rfl ⟨A, st, i, j, rfl, hp, k⟩)⟩⟩⟩⟩⟩⟩⟩⟩⟩
end
end Cs

set_option maxRecDepth 100000
set_option maxHeartbeats 4000000
namespace Cs
open PySem PySem.Spec PyProof.Rows L2
/-! ## a list of calls, read call by call -/
theorem calls_cons {f : Nat} {p : Int} {r : List Int} {raw : List (List (List Int))} (h : PyFlat.calls PyRc60.shape f (p :: r) = some raw) : ∃ f' c t raw', raw = c :: raw' ∧ PyFlat.call PyRc60.shape (p :: r) = some (c, t) ∧ PyFlat.calls PyRc60.shape f' t = some raw' := by
  cases f with
  | zero => cases h
  | succ f =>
    unfold PyFlat.calls at h
    cases e : PyFlat.call PyRc60.shape (p :: r) with
    | none => rw [e] at h; cases h
    | some x =>
      obtain ⟨c, t⟩ := x
      rw [e] at h
      simp only at h
      cases e2 : PyFlat.calls PyRc60.shape f t with
      | none => rw [e2] at h; cases h
      | some cs =>
        rw [e2] at h
        cases h
        exact ⟨f, c, t, cs, rfl, rfl, e2⟩
theorem call_plain {p : Int} {r t : List Int} {c : List (List Int)} {n : Nat} (hs : PyRc60.shape p = some (n, 0)) (h : PyFlat.call PyRc60.shape (p :: r) = some (c, t)) : n ≤ r.length ∧ c = [p :: r.take n] ∧ t = r.drop n := by
  simp only [PyFlat.call, hs] at h
  by_cases q : r.length < n
  · rw [if_pos q] at h; cases h
  · rw [if_neg q] at h
    cases h
    exact ⟨by omega, rfl, rfl⟩
theorem call_hull {r t : List Int} {c : List (List Int)} (h : PyFlat.call PyRc60.shape (1 :: r) = some (c, t)) : ∃ (s : Int) (m : Nat) (r2 : List Int), r = s :: (m : Int) :: r2 ∧ m ≤ r2.length ∧ c = [[1, s], r2.take m] ∧ t = r2.drop m := by
  simp only [PyFlat.call, show PyRc60.shape 1 = some (1, 1) from rfl] at h
  match r, h with
  | [], h => cases h
  | [s], h => cases h
  | s :: m :: r2, h =>
    rw [if_neg (by simp only [List.length_cons]; omega)] at h
    simp only [List.drop_succ_cons, List.drop_zero, PyFlat.rows, PyFlat.row] at h
    by_cases q : 0 ≤ m ∧ m.toNat ≤ r2.length
    · rw [if_pos q] at h
      cases h
      exact ⟨s, m.toNat, r2, by rw [show ((m.toNat : Nat) : Int) = m by omega], q.2, rfl, rfl⟩
    · rw [if_neg q] at h
      cases h
def numsI : List Int := [0, 1, 2, 1, 3, 2, 1, 2, 2]
theorem shape_cases {p : Int} {x : Nat × Nat} (h : PyRc60.shape p = some x) : p = 0 ∨ p = 1 ∨ p = 2 ∨ p = 3 ∨ p = 4 ∨ p = 5 ∨ p = 6 ∨ p = 7 ∨ p = 8 := by
  unfold PyRc60.shape at h
  by_cases h0 : p = 0
  · exact .inl h0
  by_cases h1 : p = 1
  · exact .inr (.inl h1)
  by_cases h2 : p = 2
  · exact .inr (.inr (.inl h2))
  by_cases h3 : p = 3
  · exact .inr (.inr (.inr (.inl h3)))
  by_cases h4 : p = 4
  · exact .inr (.inr (.inr (.inr (.inl h4))))
  by_cases h5 : p = 5
  · exact .inr (.inr (.inr (.inr (.inr (.inl h5)))))
  by_cases h6 : p = 6
  · exact .inr (.inr (.inr (.inr (.inr (.inr (.inl h6))))))
  by_cases h7 : p = 7
  · exact .inr (.inr (.inr (.inr (.inr (.inr (.inr (.inl h7)))))))
  by_cases h8 : p = 8
  · exact .inr (.inr (.inr (.inr (.inr (.inr (.inr (.inr h8)))))))
  rw [if_neg h0, if_neg h1, if_neg h2, if_neg h3, if_neg h4, if_neg h5, if_neg h6, if_neg h7, if_neg h8] at h
  cases h
/-- what one call in the list tells -/
structure Parsed (l : List Int) (c : List (List Int)) (t : List Int) (p : Int) (n : Nat) (given points : List Int) (cc : Rc60.Call) : Prop where
  call : Rc60Neutral.callOf (PyRc60.whole c) = some cc
  is : CallIs p given points cc
  num : p = 0 ∧ n = 0 ∨ p = 1 ∧ n = 1 ∨ p = 2 ∧ n = 2 ∨ p = 3 ∧ n = 1 ∨ p = 4 ∧ n = 3 ∨ p = 5 ∧ n = 2 ∨ p = 6 ∧ n = 1 ∨ p = 7 ∧ n = 2 ∨ p = 8 ∧ n = 2
  fst : l[0]? = some p
  len : 1 + n ≤ l.length
  giv : given = (l.drop 1).take n
  pts : (p ≠ 1 ∧ points = [] ∧ t = l.drop (1 + n)) ∨ (p = 1 ∧ ∃ m : Nat, l[2]? = some (m : Int) ∧ 3 + m ≤ l.length ∧ points = (l.drop 3).take m ∧ t = l.drop (3 + m))
theorem parse {p : Int} {r t : List Int} {c : List (List Int)} (h : PyFlat.call PyRc60.shape (p :: r) = some (c, t)) (hin : PyInside.call PyRc60.bound c = true) : ∃ n given points cc, Parsed (p :: r) c t p n given points cc := by
  have hp : ∃ x, PyRc60.shape p = some x := by
    cases e : PyRc60.shape p with
    | none =>
      simp only [PyFlat.call, e] at h
      cases h
    | some x => exact ⟨x, rfl⟩
  obtain ⟨x, hx⟩ := hp
  have pl : ∀ {n : Nat}, 1 + n ≤ (p :: r).length ↔ n ≤ r.length := fun {n} => by rw [List.length_cons]; omega
  have dr : ∀ n : Nat, (p :: r).drop (1 + n) = r.drop n := fun n => by rw [Nat.add_comm]; rfl
  rcases shape_cases hx with rfl | rfl | rfl | rfl | rfl | rfl | rfl | rfl | rfl
  · obtain ⟨h1, rfl, rfl⟩ := call_plain (n := 0) rfl h
    exact ⟨0, [], [], .init, rfl, .init, by omega, rfl, pl.mpr h1, rfl, .inl ⟨by decide, rfl, (dr 0).symm⟩⟩
  · obtain ⟨s, m, r2, rfl, h1, rfl, rfl⟩ := call_hull h
    have hin' : (decide (0 ≤ (r2.take m).length) && decide ((r2.take m).length ≤ 128) && (r2.take m).all (PyInside.within 0 4294967295) && true) = true := by
      unfold PyInside.call at hin
      simp only [PyRc60.bound] at hin
      have := (Bool.and_eq_true _ _ ▸ hin).2
      exact this
    simp only [Bool.and_eq_true, decide_eq_true_eq, Bool.and_true] at hin'
    obtain ⟨⟨_, h3⟩, h4⟩ := hin'
    refine ⟨1, [s], r2.take m, .hull ((r2.take m).map Int.toNat) (r2.take m).length s, rfl, .hull s _ h3 (fun z hz => ?_), by omega, rfl, by simp, rfl, .inr ⟨rfl, m, rfl, by simp only [List.length_cons]; omega, rfl, ?_⟩⟩
    · have := List.all_eq_true.mp h4 z hz
      unfold PyInside.within at this
      rw [Bool.and_eq_true, decide_eq_true_eq, decide_eq_true_eq] at this
      exact this
    · rw [Nat.add_comm]; rfl
  · obtain ⟨h1, rfl, rfl⟩ := call_plain (n := 2) rfl h
    match r, h1 with
    | a :: b :: r, h1 => exact ⟨2, [a, b], [], .corners a b, rfl, .corners a b, by omega, rfl, pl.mpr h1, rfl, .inl ⟨by decide, rfl, (dr 2).symm⟩⟩
  · obtain ⟨h1, rfl, rfl⟩ := call_plain (n := 1) rfl h
    match r, h1 with
    | a :: r, h1 => exact ⟨1, [a], [], .about a, rfl, .about a, by omega, rfl, pl.mpr h1, rfl, .inl ⟨by decide, rfl, (dr 1).symm⟩⟩
  · obtain ⟨h1, rfl, rfl⟩ := call_plain (n := 3) rfl h
    match r, h1 with
    | a :: b :: d :: r, h1 => exact ⟨3, [a, b, d], [], .sum a b d, rfl, .sum a b d, by omega, rfl, pl.mpr h1, rfl, .inl ⟨by decide, rfl, (dr 3).symm⟩⟩
  · obtain ⟨h1, rfl, rfl⟩ := call_plain (n := 2) rfl h
    match r, h1 with
    | a :: b :: r, h1 => exact ⟨2, [a, b], [], .mixed a b, rfl, .mixed a b, by omega, rfl, pl.mpr h1, rfl, .inl ⟨by decide, rfl, (dr 2).symm⟩⟩
  · obtain ⟨h1, rfl, rfl⟩ := call_plain (n := 1) rfl h
    match r, h1 with
    | a :: r, h1 => exact ⟨1, [a], [], .parts a, rfl, .parts a, by omega, rfl, pl.mpr h1, rfl, .inl ⟨by decide, rfl, (dr 1).symm⟩⟩
  · obtain ⟨h1, rfl, rfl⟩ := call_plain (n := 2) rfl h
    match r, h1 with
    | a :: b :: r, h1 => exact ⟨2, [a, b], [], .room a b, rfl, .room a b, by omega, rfl, pl.mpr h1, rfl, .inl ⟨by decide, rfl, (dr 2).symm⟩⟩
  · obtain ⟨h1, rfl, rfl⟩ := call_plain (n := 2) rfl h
    match r, h1 with
    | a :: b :: r, h1 => exact ⟨2, [a, b], [], .dual a b, rfl, .dual a b, by omega, rfl, pl.mpr h1, rfl, .inl ⟨by decide, rfl, (dr 2).symm⟩⟩
/-! ## what is told -/
def toldC (st : Slots) (raw : List (List (List Int))) : List Int := PyFlat.told (PyFlat.played Rc60Neutral.step (ab st) (raw.map PyRc60.whole))
theorem told_cons {st : Slots} {c : List (List Int)} {raw : List (List (List Int))} {cc : Rc60.Call} (h : Rc60Neutral.callOf (PyRc60.whole c) = some cc) :
    toldC st (c :: raw) = ((res (Rc60.does (ab st) cc)).length : Int) :: res (Rc60.does (ab st) cc) ++ toldC (Rc60.does (ab st) cc).1.slots raw := by
  have e : Rc60Neutral.step (ab st) (PyRc60.whole c) = ((Rc60.does (ab st) cc).1, res (Rc60.does (ab st) cc)) := by
    unfold Rc60Neutral.step
    rw [h]
    rfl
  unfold toldC
  rw [List.map_cons]
  show PyFlat.told ((Rc60Neutral.step (ab st) (PyRc60.whole c)).2 :: PyFlat.played Rc60Neutral.step (Rc60Neutral.step (ab st) (PyRc60.whole c)).1 (raw.map PyRc60.whole)) = _
  rw [e]
  rfl
theorem asked_is {l : List Int} (h : PyRc60.answers_asked l = true) : ∃ raw, PyFlat.calls PyRc60.shape l.length l = some raw ∧ PyInside.calls PyRc60.bound raw = true ∧ PyRc60.answers l = toldC (List.replicate 8 none) raw ∧ (PyRc60.answers l).length ≤ 10000000 := by
  unfold PyRc60.answers_asked at h
  cases e : PyFlat.calls PyRc60.shape l.length l with
  | none => rw [e] at h; cases h
  | some raw =>
    rw [e] at h
    simp only [Bool.and_eq_true] at h
    refine ⟨raw, rfl, h.1.1.2, ?_, of_decide_eq_true h.2⟩
    unfold PyRc60.answers PyRc60.calls
    rw [e]
    rfl
theorem inside_cons {c : List (List Int)} {raw : List (List (List Int))} (h : PyInside.calls PyRc60.bound (c :: raw) = true) : PyInside.call PyRc60.bound c = true ∧ PyInside.calls PyRc60.bound raw = true := by
  unfold PyInside.calls at h
  rw [List.all_cons, Bool.and_eq_true] at h
  exact h
end Cs

set_option maxRecDepth 100000
set_option maxHeartbeats 4000000
namespace Cs
open PySem PySem.Spec PyProof.Rows L2
theorem SqL.at' {K : PySem.W.Frag} {H H' : Hp} {a : Addr} {xs : List V} (h : SqL K H a xs) (s : ∀ o, H a = some o → H' a = some o) : SqL K H' a xs := by
  rcases h with (h | ⟨o, h⟩) | h
  · exact .inl (.inl (s _ h))
  · exact .inl (.inr ⟨o, s _ h⟩)
  · exact .inr h
/-- a list of numbers that's none of the figures' changes -/
theorem PlA.updC {H : Hp} {A C : Addr} {st : Slots} {acc : List Int} {o : HO} (h : PlA H A st) (hC : H C = some (.lst (acc.map V.int))) (nC : C ≠ A) : PlA (upd H C o) A st := by
  obtain ⟨ps, h1, h2, h3, h4⟩ := h.ex
  refine ⟨ps, (upd_ne (Ne.symm nC)).trans h1, h2, h3, fun i => ⟨(h4 i).1, fun l hl => ?_⟩⟩
  obtain ⟨g, b, e1, e2, ts, q1, q2, q3⟩ := (h4 i).2 l hl
  refine ⟨g, b, e1, e2, ts, ?_, q2, fun j t x w1 w2 => ?_⟩
  · refine (upd_ne fun e => ?_).trans q1
    rw [e, hC] at q1
    have l3 := g.fig.len
    match ts, acc, q1, q2 with
    | [], _, _, q2 => simp at q2; omega
    | t :: ts, [], q1, _ => cases q1
    | t :: ts, z :: acc, q1, _ => cases q1
  · have w3 := q3 j t x w1 w2
    refine (upd_ne fun e => ?_).trans w3
    rw [e] at w3
    have := hC.symm.trans w3
    cases this
/-- the numbers of a call, as the module has them -/
def NumsT (K : PySem.W.Frag) (mg : Str → Option Value) : Prop := ∃ t, mg "NUMBERS" = some (.ref t) ∧ ∀ H, SqT K H t (numsI.map V.int)
theorem pe_ref {X : Cx} {nm : Str} {t : Addr} {p : Pos} (h : X.mg nm = some (.ref t)) (hg : Gl X nm := by rfl) (hd : (nm == ("__debug__" : Str)) = false := by decide) : PE X (.Name nm p) (tC (.ref t)) := pe_glob hg h rfl hd
theorem num_at {l t given points : List Int} {c : List (List Int)} {p : Int} {n : Nat} {cc : Rc60.Call} (h : Parsed l c t p n given points cc) : atI (numsI.map V.int) p = some (V.int (n : Int)) := by
  rcases h.num with ⟨rfl, rfl⟩ | ⟨rfl, rfl⟩ | ⟨rfl, rfl⟩ | ⟨rfl, rfl⟩ | ⟨rfl, rfl⟩ | ⟨rfl, rfl⟩ | ⟨rfl, rfl⟩ | ⟨rfl, rfl⟩ | ⟨rfl, rfl⟩ <;> rfl
theorem cut_int (ns : List Int) (k j : Nat) (h1 : k ≤ j) (h2 : j ≤ ns.length) : cutV (ns.map V.int) (some (k : Int)) (some (j : Int)) = ((ns.drop k).take (j - k)).map V.int := by
  rw [cut_mid _ k j h1 (by rw [List.length_map]; exact h2), List.map_take, List.map_drop]
/-! ## answers -/
abbrev nAns : List Str := ["calls", "places", "told", "at", "call", "behind", "given", "points", "start", "answered"]
theorem scAn : FnScope ["calls", "places", "told", "at", "call", "behind", "given", "points", "start", "answered"] ["calls"] (defScope (top 55)) := ⟨rfl, rfl, rfl, by decide +kernel, rfl, by decide +kernel, by decide +kernel⟩
def spAns (K : PySem.W.Frag) : Sp := fun vs H Q _ => ∃ (a : Addr) (ns : List Int), vs = [.ref a] ∧ SqL K H a (ns.map V.int) ∧ PyRc60.answers_asked ns = true ∧ ∀ (H' : Hp) (p : Addr), H' p = some (.lst ((PyRc60.answers ns).map V.int)) → Q (.ref p) H'
def LoopI (H : Hp) (a A C : Addr) (ns : List Int) (pos : Nat) (σ : L2.St) (H' : Hp) : Prop := ∃ (x4 x5 x6 x7 x8 x9 : Option V) (st : Slots) (acc : List Int) (f : Nat) (raw : List (List (List Int))),
  σ = [some (.ref a), some (.ref A), some (.ref C), some (.int (pos : Int)), x4, x5, x6, x7, x8, x9] ∧ (∀ o, H a = some o → H' a = some o) ∧ PlA H' A st ∧ H' C = some (.lst (acc.map V.int)) ∧ pos ≤ ns.length ∧
    PyFlat.calls PyRc60.shape f (ns.drop pos) = some raw ∧ PyInside.calls PyRc60.bound raw = true ∧ acc ++ toldC st raw = PyRc60.answers ns
section
variable {P : Program} {w : World} {K : PySem.W.Frag} {mg : Str → Option Value} {base : Heap}
theorem fn_an {f : Addr} {fd : FuncData} (F : Fun K "answers" "answers" (top 55) f fd) (CA : Okd P w K mg base "answer" 8 ["places", "call", "given", "points"] spAw) (mL : mg "len" = none) (c : Cst mg "PLACES" 8) (cN : NumsT K mg) : FnOk P w K mg base CX0 9 f fd ["calls"] (spAns K) := by
  obtain ⟨tN, gN, sN⟩ := cN
  refine F.ok scAn (fun vs H Q E h => ?_) (fun cdv A outer s H vs Q E hr h => ?_)
  · obtain ⟨a, ns, rfl, _⟩ := h
    rfl
  · obtain ⟨a, ns, rfl, hS, hask, k⟩ := h
    refine ⟨_, pss_cons (ps_set (i := 1) scAn.nd rfl (.inl rfl) (pe_op op_rep (pe_lst (pa_cons pe_non pa_nil)) (pe_cst c)))
      (pss_cons (ps_set (i := 2) scAn.nd rfl (.inl rfl) (pe_lst pa_nil))
      (pss_cons (ps_set (i := 3) scAn.nd rfl (.inl rfl) pe_int)
      (pss_cons (ps_while PassesOwn.never (pt_cmpR op_lt (pv 3) (pe_callB call_len_seq (by rfl) mL PySem.boot_len (pa_cons (pv 0) pa_nil)) (nomark _))
        (pss_cons (ps_set (i := 4) scAn.nd rfl (.inl rfl) (pe_ix ix_list (pv 0) (pv 3) (fun _ _ => rfl)))
        (pss_cons (ps_set (i := 5) scAn.nd rfl (.inl rfl) (pe_op op_add (pe_op op_add (pv 3) pe_int) (pe_ix ix_tup (pe_ref gN) (pv 4) (fun _ _ => rfl))))
        (pss_cons (ps_set (i := 6) scAn.nd rfl (.inl rfl) (pe_slice sl_list (pv 0) (po_some (pe_op op_add (pv 3) pe_int)) (po_some (pv 5))))
        (pss_cons (ps_set (i := 7) scAn.nd rfl (.inl rfl) (pe_lst pa_nil))
        (pss_cons (ps_if (pt_cmpR op_eq (pv 4) pe_int (nomark _))
          (pss_cons (ps_set (i := 8) scAn.nd rfl (.inl rfl) (pe_op op_add (pv 5) pe_int))
          (pss_cons (ps_set (i := 5) scAn.nd rfl (.inl rfl) (pe_op op_add (pv 8) (pe_ix ix_list (pv 0) (pv 5) (fun _ _ => rfl))))
          (pss_one (ps_set (i := 7) scAn.nd rfl (.inl rfl) (pe_slice sl_list (pv 0) (po_some (pv 8)) (po_some (pv 5))))))) pss_nil)
        (pss_cons (ps_set (i := 9) scAn.nd rfl (.inl rfl) (pe_cal CA hr (pa_cons (pv 1) (pa_cons (pv 4) (pa_cons (pv 6) (pa_cons (pv 7) pa_nil))))))
        (pss_cons (ps_expr (pe_bm PySem.F.plainAttrs_list PySem.F.slot_list_append PySem.F.type_list_append mt_append (pv 2) (pa_cons (pe_callB call_len_seq (by rfl) mL PySem.boot_len (pa_cons (pv 9) pa_nil)) pa_nil)))
        (pss_cons (ps_expr (pe_bm PySem.F.plainAttrs_list PySem.F.slot_list_extend PySem.F.type_list_extend mt_extend (pv 2) (pa_cons (pv 9) pa_nil)))
        (pss_one (ps_set (i := 3) scAn.nd rfl (.inl rfl) (pv 5))))))))))))
      (pss_one (ps_ret (pv 2)))))), ?_⟩
    obtain ⟨raw0, hr0, hi0, he0, hl0⟩ := asked_is hask
    refine ⟨(by show 1 ≤ sizeLine; decide), fun b0 n0 => ⟨b0, 8, _, rfl, rfl, upd_same, by decide, by decide, (by show 1 * 8 ≤ sizeLine; decide), fun A nA0 => ?_⟩⟩
    have sb := new_same (o := .lst [V.non]) n0
    have nA : H A = none := sb.free nA0
    have sA := new_same (o := .lst (List.replicate (8 : Int).toNat [V.non]).flatten) nA0
    refine ⟨Nat.zero_le _, fun C nC0 => ?_⟩
    have sAC := sb.trans sA
    have nC : H C = none := sAC.free nC0
    have sC := new_same (o := .lst []) nC0
    have nCA : C ≠ A := fun e => by
      rw [e, upd_same] at nC0
      cases nC0
    refine ⟨fun m σ H' => ∃ pos, LoopI H a A C ns pos σ H' ∧ m = ns.length - pos, ⟨_, 0, ⟨none, none, none, none, none, none, List.replicate 8 none, [], ns.length, raw0, rfl, fun o ho => sC _ _ (sAC _ _ ho), ?_, upd_same, Nat.zero_le _, hr0, hi0, he0.symm⟩, rfl⟩, ?_⟩
    · refine ⟨_, sC _ _ upd_same, rfl, rfl, fun i => ⟨fun e => ?_, fun l e => ?_⟩⟩
      · have hi := (List.getElem?_eq_some_iff.mp e).1
        have hi' : i < 8 := by simpa using hi
        show (List.replicate 8 V.non)[i]? = some V.non
        rw [List.getElem?_replicate, if_pos hi']
      · have := List.mem_of_getElem? e
        cases List.eq_of_mem_replicate this
    rintro m σ H' ⟨pos, ⟨x4, x5, x6, x7, x8, x9, st, acc, f0, raw, rfl, ha, hp, hC, hpos, hcs0, hin0, heq⟩, rfl⟩
    have hS' := SqL.at' hS ha
    refine ⟨_, rfl, _, rfl, a, _, rfl, .inl hS', _, _, rfl, rfl, _, rfl, ite2 (fun c1 => ?_) (fun c1 => ?_)⟩
    · have d1 : (pos : Int) < ((ns.map V.int).length : Int) := of_decide_eq_true c1
      rw [List.length_map] at d1
      have d1' : pos < ns.length := by omega
      refine ⟨fun σ' H3 => ∃ pos', pos < pos' ∧ LoopI H a A C ns pos' σ' H3, fun σ' H3 ⟨pos', lt, L⟩ => ⟨ns.length - pos', by omega, pos', L, rfl⟩, ?_⟩
      cases hdp : ns.drop pos with
      | nil =>
        have := congrArg List.length hdp
        rw [List.length_drop] at this
        simp at this
        omega
      | cons p r =>
        rw [hdp] at hcs0
        obtain ⟨f', cl, t, raw', rfl, hcl, hcs⟩ := calls_cons hcs0
        obtain ⟨hin1, hin2⟩ := inside_cons hin0
        obtain ⟨n, given, points, cc, Pd⟩ := parse hcl hin1
        have hln : (p :: r).length = ns.length - pos := by rw [← hdp, List.length_drop]
        have gA : ∀ j : Nat, ns[pos + j]? = (p :: r)[j]? := fun j => by rw [← hdp, List.getElem?_drop]
        have hp0 : ns[pos]? = some p := by
          have := gA 0
          rw [Pd.fst] at this
          exact this
        have l1 := Pd.len
        refine ⟨_, rfl, _, rfl, a, _, _, _, rfl, rfl, hS', atI_nat (j := pos) (by rw [List.getElem?_map, hp0]; rfl), ?_⟩
        refine ⟨_, rfl, _, _, rfl, rfl, _, rfl, tN, _, _, _, rfl, rfl, sN _, num_at Pd, _, _, rfl, rfl, ?_⟩
        refine ⟨_, rfl, _, rfl, _, _, rfl, rfl, _, rfl, _, rfl, _, rfl, a, _, rfl, hS', fun g ng => ?_⟩
        have eg : cutV (ns.map V.int) (some ((pos : Int) + 1)) (some ((pos : Int) + 1 + (n : Int))) = given.map V.int := by
          rw [show ((pos : Int) + 1 + (n : Int)) = ((pos + 1 + n : Nat) : Int) by omega, show ((pos : Int) + 1) = ((pos + 1 : Nat) : Int) by omega, cut_int ns (pos + 1) (pos + 1 + n) (by omega) (by omega), Pd.giv, ← hdp, List.drop_drop]
          rw [show pos + 1 + n - (pos + 1) = n by omega]
        rw [eg]
        have sg := new_same (o := .lst (given.map V.int)) ng
        refine ⟨Nat.zero_le _, fun b nb => ?_⟩
        have sb' := new_same (o := .lst []) nb
        refine ⟨_, rfl, rfl, _, rfl, ?_⟩
        rcases Pd.pts with ⟨np, rfl, ht⟩ | ⟨rfl, m, hm, l2, hpts, ht⟩
        · refine eq_no np ?_
          have s5 := sg.trans sb'
          have hg5 := sb' _ _ (upd_same (H := H') (a := g) (o := .lst (given.map V.int)))
          have hb5 : (upd (upd H' g (.lst (given.map V.int))) b (.lst [])) b = some (.lst (([] : List Int).map V.int)) := upd_same
          have hC5 := s5 _ _ hC
          refine ⟨_, rfl, _, rfl, _, rfl, _, rfl, A, g, b, st, p, given, [], cc, rfl, hp.keep s5, hg5, hb5, Pd.is, fun H6 q sx nq hq hp6 => ?_⟩
          have hC6 := sx C _ nCA hC5
          have nqC : q ≠ C := fun e => by
            rw [e, hC5] at nq
            cases nq
          have lim : acc.length + 1 + (res (Rc60.does (ab st) cc)).length ≤ 10000000 := by
            rw [told_cons Pd.call] at heq
            have := congrArg List.length heq
            simp only [List.length_append, List.length_cons] at this
            omega
          refine ⟨_, rfl, .inl ⟨rfl, _, .inl (.inl hC6)⟩, _, rfl, q, _, rfl, .inl (.inl (.inl hq)), C, _, _, rfl, rfl, hC6, ?_, ?_⟩
          · rw [List.length_map]
            exact Nat.lt_of_lt_of_le (show _ < 10000001 by omega) (by decide)
          refine ⟨_, rfl, .inl ⟨rfl, _, .inl (.inl upd_same)⟩, _, rfl, C, q, _, _, rfl, rfl, upd_same, (upd_ne nqC).trans hq, ?_, ?_⟩
          · simp only [List.length_append, List.length_map, List.length_cons, List.length_nil]
            exact Nat.le_trans (show _ ≤ 10000000 by omega) (by decide)
          have e7 : (acc.map V.int ++ [V.int (((res (Rc60.does (ab st) cc)).map V.int).length : Int)]) = (acc ++ [((res (Rc60.does (ab st) cc)).length : Int)]).map V.int := by
            rw [List.map_append, List.length_map]
            rfl
          refine ⟨_, rfl, pos + 1 + n, by omega, _, _, _, _, _, _, (Rc60.does (ab st) cc).1.slots, acc ++ [((res (Rc60.does (ab st) cc)).length : Int)] ++ res (Rc60.does (ab st) cc), f', raw', rfl, fun o ho => ?_, ?_, ?_, by omega, (by rw [show pos + 1 + n = pos + (1 + n) by omega, ← List.drop_drop, hdp, ← ht]; exact hcs), hin2, ?_⟩
          · have h5 := s5 _ _ (ha o ho)
            have na : a ≠ C := fun e => by
              rw [e, nC] at ho
              cases ho
            have nA' : a ≠ A := fun e => by
              rw [e, nA] at ho
              cases ho
            rw [upd_ne na, upd_ne na]
            exact sx a o nA' h5
          · rw [e7]
            exact (hp6.updC hC6 nCA).updC upd_same nCA
          · rw [upd_same, e7, ← List.map_append]
          · rw [← heq, told_cons Pd.call]
            simp only [List.append_assoc, List.cons_append, List.nil_append]
        · refine eq_yes ?_
          have hn1 : n = 1 := by
            rcases Pd.num with z | z | z | z | z | z | z | z | z <;> omega
          subst hn1
          have s5' := sg.trans sb'
          have hS5 := SqL.at' hS (fun o ho => s5' _ _ (ha o ho))
          have hm2 : ns[pos + 2]? = some (m : Int) := (gA 2).trans hm
          have hat : atI (ns.map V.int) ((pos : Int) + 1 + ((1 : Nat) : Int)) = some (V.int (m : Int)) := by
            rw [show ((pos : Int) + 1 + ((1 : Nat) : Int)) = ((pos + 2 : Nat) : Int) by omega]
            exact atI_nat (j := pos + 2) (by rw [List.getElem?_map, hm2]; rfl)
          refine ⟨_, rfl, _, _, rfl, rfl, _, rfl, _, rfl, _, rfl, a, _, _, _, rfl, rfl, hS5, hat, _, _, rfl, rfl, ?_⟩
          refine ⟨_, rfl, _, rfl, _, rfl, _, rfl, _, rfl, a, _, rfl, hS5, fun b2 nb2 => ?_⟩
          have eb : cutV (ns.map V.int) (some ((pos : Int) + 1 + ((1 : Nat) : Int) + 1)) (some ((pos : Int) + 1 + ((1 : Nat) : Int) + 1 + (m : Int))) = points.map V.int := by
            rw [show ((pos : Int) + 1 + ((1 : Nat) : Int) + 1 + (m : Int)) = ((pos + 3 + m : Nat) : Int) by omega, show ((pos : Int) + 1 + ((1 : Nat) : Int) + 1) = ((pos + 3 : Nat) : Int) by omega, cut_int ns (pos + 3) (pos + 3 + m) (by omega) (by omega), hpts, ← hdp, List.drop_drop]
            rw [show pos + 3 + m - (pos + 3) = m by omega]
          rw [eb]
          have s6 := new_same (o := .lst (points.map V.int)) nb2
          have s5 := s5'.trans s6
          have hg5 := s6 _ _ (sb' _ _ (upd_same (H := H') (a := g) (o := .lst (given.map V.int))))
          have hb5 : (upd (upd (upd H' g (.lst (given.map V.int))) b (.lst [])) b2 (.lst (points.map V.int))) b2 = some (.lst (points.map V.int)) := upd_same
          have hC5 := s5 _ _ hC
          refine ⟨_, rfl, _, rfl, _, rfl, _, rfl, A, g, b2, st, 1, given, points, cc, rfl, hp.keep s5, hg5, hb5, Pd.is, fun H6 q sx nq hq hp6 => ?_⟩
          have hC6 := sx C _ nCA hC5
          have nqC : q ≠ C := fun e => by
            rw [e, hC5] at nq
            cases nq
          have lim : acc.length + 1 + (res (Rc60.does (ab st) cc)).length ≤ 10000000 := by
            rw [told_cons Pd.call] at heq
            have := congrArg List.length heq
            simp only [List.length_append, List.length_cons] at this
            omega
          refine ⟨_, rfl, .inl ⟨rfl, _, .inl (.inl hC6)⟩, _, rfl, q, _, rfl, .inl (.inl (.inl hq)), C, _, _, rfl, rfl, hC6, ?_, ?_⟩
          · rw [List.length_map]
            exact Nat.lt_of_lt_of_le (show _ < 10000001 by omega) (by decide)
          refine ⟨_, rfl, .inl ⟨rfl, _, .inl (.inl upd_same)⟩, _, rfl, C, q, _, _, rfl, rfl, upd_same, (upd_ne nqC).trans hq, ?_, ?_⟩
          · simp only [List.length_append, List.length_map, List.length_cons, List.length_nil]
            exact Nat.le_trans (show _ ≤ 10000000 by omega) (by decide)
          have e7 : (acc.map V.int ++ [V.int (((res (Rc60.does (ab st) cc)).map V.int).length : Int)]) = (acc ++ [((res (Rc60.does (ab st) cc)).length : Int)]).map V.int := by
            rw [List.map_append, List.length_map]
            rfl
          refine ⟨_, rfl, pos + 3 + m, by omega, _, _, _, _, _, _, (Rc60.does (ab st) cc).1.slots, acc ++ [((res (Rc60.does (ab st) cc)).length : Int)] ++ res (Rc60.does (ab st) cc), f', raw', rfl, fun o ho => ?_, ?_, ?_, by omega, (by rw [show pos + 3 + m = pos + (3 + m) by omega, ← List.drop_drop, hdp, ← ht]; exact hcs), hin2, ?_⟩
          · have h5 := s5 _ _ (ha o ho)
            have na : a ≠ C := fun e => by
              rw [e, nC] at ho
              cases ho
            have nA' : a ≠ A := fun e => by
              rw [e, nA] at ho
              cases ho
            rw [upd_ne na, upd_ne na]
            exact sx a o nA' h5
          · rw [e7]
            exact (hp6.updC hC6 nCA).updC upd_same nCA
          · rw [upd_same, e7, ← List.map_append]
          · rw [← heq, told_cons Pd.call]
            simp only [List.append_assoc, List.cons_append, List.nil_append]
    · have d1 : ¬ (pos : Int) < ((ns.map V.int).length : Int) := fun q => c1 (decide_eq_true q)
      rw [List.length_map] at d1
      have e0 : ns.drop pos = [] := List.drop_eq_nil_of_le (by omega)
      rw [e0] at hcs0
      have er : raw = [] := by
        cases f0 <;> (cases hcs0; rfl)
      subst er
      refine ⟨_, rfl, k H' C ?_⟩
      rw [hC, ← heq, show toldC st [] = [] from rfl, List.append_nil]
end
end Cs

set_option maxRecDepth 100000
set_option maxHeartbeats 4000000
namespace Cs
open PySem PySem.Spec PyProof.Rows L2
/-! ## what the text's top has left -/
structure Txt (K : PySem.W.Frag) (mg : Str → Option Value) : Prop where
  d1 : Df K mg "turn" (top 1) ["first", "second", "third"]
  d2 : Df K mg "half_round" (top 2) ["points"]
  d3 : Df K mg "hull" (top 3) ["points"]
  d4 : Df K mg "put_together" (top 4) ["first", "second"]
  d5 : Df K mg "edges" (top 5) ["figure"]
  d6 : Df K mg "common_divisor" (top 6) ["a", "b"]
  d7 : Df K mg "steps" (top 7) ["start", "end"]
  d8 : Df K mg "one_step" (top 8) ["start", "end"]
  d9 : Df K mg "farthest_out" (top 9) ["figure", "start", "end"]
  d10 : Df K mg "double_area" (top 10) ["figure"]
  d11 : Df K mg "rim_points" (top 11) ["figure"]
  d12 : Df K mg "inside_points" (top 12) ["figure"]
  d13 : Df K mg "together" (top 13) ["first", "second"]
  d14 : Df K mg "is_one_step_off" (top 14) ["start", "end"]
  d15 : Df K mg "has_dual" (top 15) ["figure"]
  d16 : Df K mg "dual" (top 16) ["figure"]
  d18 : Df K mg "with_edge" (top 18) ["ways", "start", "end"]
  d19 : Df K mg "ways_by_sum" (top 19) ["some_edges"]
  d20 : Df K mg "partings" (top 20) ["figure"]
  d22 : Df K mg "limits" (top 22) ["outer", "inner"]
  d23 : Df K mg "shifts_along" (top 23) ["found", "a"]
  d24 : Df K mg "shifts" (top 24) ["outer", "inner"]
  d26 : Df K mg "reach" (top 26) ["figure", "direction"]
  d27 : Df K mg "moved" (top 27) ["direction", "times", "other"]
  d28 : Df K mg "lowered" (top 28) ["figure", "long", "short"]
  d29 : Df K mg "width" (top 29) ["figure"]
  d40 : Df K mg "signed" (top 40) ["number"]
  d41 : Df K mg "lifted" (top 41) ["number"]
  d42 : Df K mg "in_bounds" (top 42) ["number"]
  d43 : Df K mg "is_place" (top 43) ["slot"]
  d44 : Df K mg "figure_at" (top 44) ["places", "slot"]
  d45 : Df K mg "begin" (top 45) ["places"]
  d46 : Df K mg "put_hull" (top 46) ["places", "slot", "points"]
  d47 : Df K mg "tell_corners" (top 47) ["places", "slot", "most"]
  d48 : Df K mg "tell_about" (top 48) ["places", "slot"]
  d49 : Df K mg "put_sum" (top 49) ["places", "i", "j", "slot"]
  d50 : Df K mg "tell_mixed" (top 50) ["places", "i", "j"]
  d51 : Df K mg "tell_parts" (top 51) ["places", "slot"]
  d52 : Df K mg "tell_room" (top 52) ["places", "i", "j"]
  d53 : Df K mg "put_dual" (top 53) ["places", "i", "slot"]
  d54 : Df K mg "answer" (top 54) ["places", "call", "given", "points"]
  n_sorted : mg "sorted" = none
  n_set : mg "set" = none
  n_list : mg "list" = none
  n_reversed : mg "reversed" = none
  n_zip : mg "zip" = none
  n_abs : mg "abs" = none
  n_max : mg "max" = none
  n_min : mg "min" = none
  n_sum : mg "sum" = none
  n_all : mg "all" = none
  n_len : mg "len" = none
  n_range : mg "range" = none
  c_places : Cst mg "PLACES" 8
  c_lift : Cst mg "LIFT" 4294967296
  c_least_lifted : Cst mg "LEAST_LIFTED" 2147483648
  c_farthest : Cst mg "FARTHEST" 30000
  c_most_point_numbers : Cst mg "MOST_POINT_NUMBERS" 128
  c_most_corner_numbers : Cst mg "MOST_CORNER_NUMBERS" 1048576
  c_most_sum_corners : Cst mg "MOST_SUM_CORNERS" 64
  c_most_parted_rim : Cst mg "MOST_PARTED_RIM" 24
  nums : NumsT K mg
section
variable {P : Program} {w : World} {K : PySem.W.Frag} {mg : Str → Option Value} {base : Heap}
theorem all_ok (T : Txt K mg) : Okd P w K mg base "answer" 8 ["places", "call", "given", "points"] spAw := by
  have o1 := ok_turn (P := P) (w := w) (base := base) T.d1
  have o2 := ok_hr T.d2 o1 T.n_len
  have o3 := ok_hu T.d3 o2 T.n_sorted T.n_set T.n_list T.n_reversed
  have o4 := ok_pt T.d4 o3
  have o5 := ok_ed (P := P) (w := w) (base := base) T.d5 T.n_list T.n_zip
  have o6 := ok_cd (P := P) (w := w) (base := base) T.d6
  have o7 := ok_st T.d7 o6 T.n_abs
  have o8 := ok_os T.d8 o7
  have o9 := ok_fo (P := P) (w := w) (base := base) T.d9 T.n_max
  have o10 := ok_da T.d10 o5 T.n_sum
  have o11 := ok_rm T.d11 o5 o7 T.n_sum
  have o12 := ok_in T.d12 o10 o11
  have o13 := ok_tg T.d13 o5 o9 T.n_sum
  have o14 := ok_io T.d14 o7
  have o15 := ok_hd T.d15 o5 o14 T.n_all
  have o16 := ok_du T.d16 o5 o8 o3
  have o18 := ok_we T.d18 o7 o8 T.n_range
  have o19 := ok_wb T.d19 o18
  have o20 := ok_pa T.d20 o5 o19 T.n_len T.n_sum
  have o22 := ok_li T.d22 o5 o9
  have o23 := ok_sa (P := P) (w := w) (base := base) T.d23 T.n_max T.n_min
  have o24 := ok_sh T.d24 o22 o23 T.n_max T.n_min T.n_sum T.n_range
  have o26 := ok_re (P := P) (w := w) (base := base) T.d26 T.n_max T.n_min
  have o27 := ok_mo (P := P) (w := w) (base := base) T.d27
  have o28 := ok_lo T.d28 o26 o27
  have o29 := ok_wi T.d29 o26 o28
  have o40 := ok_sg (P := P) (w := w) (base := base) T.d40 T.c_least_lifted T.c_lift
  have o41 := ok_lf (P := P) (w := w) (base := base) T.d41 T.c_lift
  have o42 := ok_ib (P := P) (w := w) (base := base) T.d42 T.n_abs T.c_farthest
  have o43 := ok_ip (P := P) (w := w) (base := base) T.d43 T.c_places
  have o44 := ok_fa T.d44 o43
  have o45 := ok_bg (P := P) (w := w) (base := base) T.d45 T.n_range T.c_places
  have o46 := ok_ph T.d46 o43 o40 o42 o3 T.n_len T.n_all T.n_list T.n_zip T.c_most_point_numbers
  have o47 := ok_tc T.d47 o44 o41 T.n_len T.c_most_corner_numbers
  have o48 := ok_ta T.d48 o44 o10 o11 o12 o29
  have o49 := ok_ps T.d49 o44 o43 o4 o42 T.n_len T.n_all T.c_most_sum_corners
  have o50 := ok_tm T.d50 o44 o13
  have o51 := ok_tp T.d51 o44 o11 o20 T.c_most_parted_rim
  have o52 := ok_tr T.d52 o44 o24
  have o53 := ok_pd T.d53 o44 o43 o15 o16 T.n_len
  exact ok_aw T.d54 o45 o46 o47 o48 o49 o50 o51 o52 o53
end
/-! ## the defs as the top has left them -/
section
variable {K : PySem.W.Frag} {h : Heap} {mg : Str → Option Value}
theorem use_df {nm : Str} {st : Stmt} {ps : List Str} {goal : Prop} (hb : ∀ f fd, Fun K nm nm st f fd → Binds K fd ps []) (X : K.In h) (G : h.Ns mainGlobals mg) {f : Addr} {od an : Option Addr} {sl : Array (Option Value)} {oc kV dc pm cd ct : Value}
    (a : PySem.W.nsIn K mainGlobals nm = some (some (.ref f))) (l : K.lookup f = some ⟨oc, od, .func (PySem.W.fnOf nm nm (defArgs st) (defBody st) (defScope st) .none kV dc pm an cd ct), sl⟩) (c : PySem.W.codeIn K cd nm = true) (k : PySem.W.keepIn K (.ref f) = true) (r : Df K mg nm st ps → goal) : goal :=
  r ⟨f, _, PySem.W.mg_of X G a, fun_mk l c k, hb _ _ (fun_mk l c k)⟩
theorem use_cst {nm : Str} {n : Int} {goal : Prop} (X : K.In h) (G : h.Ns mainGlobals mg) {t : Nat} (a : PySem.W.nsIn K mainGlobals nm = some (some (.int n t))) (r : Cst mg nm n → goal) : goal := r ⟨t, PySem.W.mg_of X G a⟩
theorem use_none {nm : Str} {goal : Prop} (X : K.In h) (G : h.Ns mainGlobals mg) (a : PySem.W.nsIn K mainGlobals nm = some none) (r : mg nm = none → goal) : goal := r (PySem.W.mg_none_of X G a)
theorem use_nums {goal : Prop} (X : K.In h) (G : h.Ns mainGlobals mg) {t : Addr} {od : Option Addr} {n : Nat} {sl : Array (Option Value)} {t0 t1 t2 t3 t4 t5 t6 t7 t8 : Nat} (a : PySem.W.nsIn K mainGlobals "NUMBERS" = some (some (.ref t)))
    (l : K.lookup t = some ⟨.type "tuple", od, .seq #[.int 0 t0, .int 1 t1, .int 2 t2, .int 1 t3, .int 3 t4, .int 2 t5, .int 1 t6, .int 2 t7, .int 2 t8] n, sl⟩) (r : NumsT K mg → goal) : goal :=
  r ⟨t, PySem.W.mg_of X G a, fun H => .inr ⟨_, _, _, l, rfl, rfl, (by show 9 ≤ sizeLine; decide), .cons ⟨_, rfl⟩ (.cons ⟨_, rfl⟩ (.cons ⟨_, rfl⟩ (.cons ⟨_, rfl⟩ (.cons ⟨_, rfl⟩ (.cons ⟨_, rfl⟩ (.cons ⟨_, rfl⟩ (.cons ⟨_, rfl⟩ (.cons ⟨_, rfl⟩ .nil))))))))⟩⟩
theorem bd1 (f : Addr) (fd : FuncData) (F : Fun K "turn" "turn" (top 1) f fd) : Binds K fd ["first", "second", "third"] [] := F.binds fun _ _ _ _ _ _ us hl => match us, hl with | [_, _, _], _ => rfl
theorem bd2 (f : Addr) (fd : FuncData) (F : Fun K "half_round" "half_round" (top 2) f fd) : Binds K fd ["points"] [] := F.binds fun _ _ _ _ _ _ us hl => match us, hl with | [_], _ => rfl
theorem bd3 (f : Addr) (fd : FuncData) (F : Fun K "hull" "hull" (top 3) f fd) : Binds K fd ["points"] [] := F.binds fun _ _ _ _ _ _ us hl => match us, hl with | [_], _ => rfl
theorem bd4 (f : Addr) (fd : FuncData) (F : Fun K "put_together" "put_together" (top 4) f fd) : Binds K fd ["first", "second"] [] := F.binds fun _ _ _ _ _ _ us hl => match us, hl with | [_, _], _ => rfl
theorem bd5 (f : Addr) (fd : FuncData) (F : Fun K "edges" "edges" (top 5) f fd) : Binds K fd ["figure"] [] := F.binds fun _ _ _ _ _ _ us hl => match us, hl with | [_], _ => rfl
theorem bd6 (f : Addr) (fd : FuncData) (F : Fun K "common_divisor" "common_divisor" (top 6) f fd) : Binds K fd ["a", "b"] [] := F.binds fun _ _ _ _ _ _ us hl => match us, hl with | [_, _], _ => rfl
theorem bd7 (f : Addr) (fd : FuncData) (F : Fun K "steps" "steps" (top 7) f fd) : Binds K fd ["start", "end"] [] := F.binds fun _ _ _ _ _ _ us hl => match us, hl with | [_, _], _ => rfl
theorem bd8 (f : Addr) (fd : FuncData) (F : Fun K "one_step" "one_step" (top 8) f fd) : Binds K fd ["start", "end"] [] := F.binds fun _ _ _ _ _ _ us hl => match us, hl with | [_, _], _ => rfl
theorem bd9 (f : Addr) (fd : FuncData) (F : Fun K "farthest_out" "farthest_out" (top 9) f fd) : Binds K fd ["figure", "start", "end"] [] := F.binds fun _ _ _ _ _ _ us hl => match us, hl with | [_, _, _], _ => rfl
theorem bd10 (f : Addr) (fd : FuncData) (F : Fun K "double_area" "double_area" (top 10) f fd) : Binds K fd ["figure"] [] := F.binds fun _ _ _ _ _ _ us hl => match us, hl with | [_], _ => rfl
theorem bd11 (f : Addr) (fd : FuncData) (F : Fun K "rim_points" "rim_points" (top 11) f fd) : Binds K fd ["figure"] [] := F.binds fun _ _ _ _ _ _ us hl => match us, hl with | [_], _ => rfl
theorem bd12 (f : Addr) (fd : FuncData) (F : Fun K "inside_points" "inside_points" (top 12) f fd) : Binds K fd ["figure"] [] := F.binds fun _ _ _ _ _ _ us hl => match us, hl with | [_], _ => rfl
theorem bd13 (f : Addr) (fd : FuncData) (F : Fun K "together" "together" (top 13) f fd) : Binds K fd ["first", "second"] [] := F.binds fun _ _ _ _ _ _ us hl => match us, hl with | [_, _], _ => rfl
theorem bd14 (f : Addr) (fd : FuncData) (F : Fun K "is_one_step_off" "is_one_step_off" (top 14) f fd) : Binds K fd ["start", "end"] [] := F.binds fun _ _ _ _ _ _ us hl => match us, hl with | [_, _], _ => rfl
theorem bd15 (f : Addr) (fd : FuncData) (F : Fun K "has_dual" "has_dual" (top 15) f fd) : Binds K fd ["figure"] [] := F.binds fun _ _ _ _ _ _ us hl => match us, hl with | [_], _ => rfl
theorem bd16 (f : Addr) (fd : FuncData) (F : Fun K "dual" "dual" (top 16) f fd) : Binds K fd ["figure"] [] := F.binds fun _ _ _ _ _ _ us hl => match us, hl with | [_], _ => rfl
theorem bd18 (f : Addr) (fd : FuncData) (F : Fun K "with_edge" "with_edge" (top 18) f fd) : Binds K fd ["ways", "start", "end"] [] := F.binds fun _ _ _ _ _ _ us hl => match us, hl with | [_, _, _], _ => rfl
theorem bd19 (f : Addr) (fd : FuncData) (F : Fun K "ways_by_sum" "ways_by_sum" (top 19) f fd) : Binds K fd ["some_edges"] [] := F.binds fun _ _ _ _ _ _ us hl => match us, hl with | [_], _ => rfl
theorem bd20 (f : Addr) (fd : FuncData) (F : Fun K "partings" "partings" (top 20) f fd) : Binds K fd ["figure"] [] := F.binds fun _ _ _ _ _ _ us hl => match us, hl with | [_], _ => rfl
theorem bd22 (f : Addr) (fd : FuncData) (F : Fun K "limits" "limits" (top 22) f fd) : Binds K fd ["outer", "inner"] [] := F.binds fun _ _ _ _ _ _ us hl => match us, hl with | [_, _], _ => rfl
theorem bd23 (f : Addr) (fd : FuncData) (F : Fun K "shifts_along" "shifts_along" (top 23) f fd) : Binds K fd ["found", "a"] [] := F.binds fun _ _ _ _ _ _ us hl => match us, hl with | [_, _], _ => rfl
theorem bd24 (f : Addr) (fd : FuncData) (F : Fun K "shifts" "shifts" (top 24) f fd) : Binds K fd ["outer", "inner"] [] := F.binds fun _ _ _ _ _ _ us hl => match us, hl with | [_, _], _ => rfl
theorem bd26 (f : Addr) (fd : FuncData) (F : Fun K "reach" "reach" (top 26) f fd) : Binds K fd ["figure", "direction"] [] := F.binds fun _ _ _ _ _ _ us hl => match us, hl with | [_, _], _ => rfl
theorem bd27 (f : Addr) (fd : FuncData) (F : Fun K "moved" "moved" (top 27) f fd) : Binds K fd ["direction", "times", "other"] [] := F.binds fun _ _ _ _ _ _ us hl => match us, hl with | [_, _, _], _ => rfl
theorem bd28 (f : Addr) (fd : FuncData) (F : Fun K "lowered" "lowered" (top 28) f fd) : Binds K fd ["figure", "long", "short"] [] := F.binds fun _ _ _ _ _ _ us hl => match us, hl with | [_, _, _], _ => rfl
theorem bd29 (f : Addr) (fd : FuncData) (F : Fun K "width" "width" (top 29) f fd) : Binds K fd ["figure"] [] := F.binds fun _ _ _ _ _ _ us hl => match us, hl with | [_], _ => rfl
theorem bd40 (f : Addr) (fd : FuncData) (F : Fun K "signed" "signed" (top 40) f fd) : Binds K fd ["number"] [] := F.binds fun _ _ _ _ _ _ us hl => match us, hl with | [_], _ => rfl
theorem bd41 (f : Addr) (fd : FuncData) (F : Fun K "lifted" "lifted" (top 41) f fd) : Binds K fd ["number"] [] := F.binds fun _ _ _ _ _ _ us hl => match us, hl with | [_], _ => rfl
theorem bd42 (f : Addr) (fd : FuncData) (F : Fun K "in_bounds" "in_bounds" (top 42) f fd) : Binds K fd ["number"] [] := F.binds fun _ _ _ _ _ _ us hl => match us, hl with | [_], _ => rfl
theorem bd43 (f : Addr) (fd : FuncData) (F : Fun K "is_place" "is_place" (top 43) f fd) : Binds K fd ["slot"] [] := F.binds fun _ _ _ _ _ _ us hl => match us, hl with | [_], _ => rfl
theorem bd44 (f : Addr) (fd : FuncData) (F : Fun K "figure_at" "figure_at" (top 44) f fd) : Binds K fd ["places", "slot"] [] := F.binds fun _ _ _ _ _ _ us hl => match us, hl with | [_, _], _ => rfl
theorem bd45 (f : Addr) (fd : FuncData) (F : Fun K "begin" "begin" (top 45) f fd) : Binds K fd ["places"] [] := F.binds fun _ _ _ _ _ _ us hl => match us, hl with | [_], _ => rfl
theorem bd46 (f : Addr) (fd : FuncData) (F : Fun K "put_hull" "put_hull" (top 46) f fd) : Binds K fd ["places", "slot", "points"] [] := F.binds fun _ _ _ _ _ _ us hl => match us, hl with | [_, _, _], _ => rfl
theorem bd47 (f : Addr) (fd : FuncData) (F : Fun K "tell_corners" "tell_corners" (top 47) f fd) : Binds K fd ["places", "slot", "most"] [] := F.binds fun _ _ _ _ _ _ us hl => match us, hl with | [_, _, _], _ => rfl
theorem bd48 (f : Addr) (fd : FuncData) (F : Fun K "tell_about" "tell_about" (top 48) f fd) : Binds K fd ["places", "slot"] [] := F.binds fun _ _ _ _ _ _ us hl => match us, hl with | [_, _], _ => rfl
theorem bd49 (f : Addr) (fd : FuncData) (F : Fun K "put_sum" "put_sum" (top 49) f fd) : Binds K fd ["places", "i", "j", "slot"] [] := F.binds fun _ _ _ _ _ _ us hl => match us, hl with | [_, _, _, _], _ => rfl
theorem bd50 (f : Addr) (fd : FuncData) (F : Fun K "tell_mixed" "tell_mixed" (top 50) f fd) : Binds K fd ["places", "i", "j"] [] := F.binds fun _ _ _ _ _ _ us hl => match us, hl with | [_, _, _], _ => rfl
theorem bd51 (f : Addr) (fd : FuncData) (F : Fun K "tell_parts" "tell_parts" (top 51) f fd) : Binds K fd ["places", "slot"] [] := F.binds fun _ _ _ _ _ _ us hl => match us, hl with | [_, _], _ => rfl
theorem bd52 (f : Addr) (fd : FuncData) (F : Fun K "tell_room" "tell_room" (top 52) f fd) : Binds K fd ["places", "i", "j"] [] := F.binds fun _ _ _ _ _ _ us hl => match us, hl with | [_, _, _], _ => rfl
theorem bd53 (f : Addr) (fd : FuncData) (F : Fun K "put_dual" "put_dual" (top 53) f fd) : Binds K fd ["places", "i", "slot"] [] := F.binds fun _ _ _ _ _ _ us hl => match us, hl with | [_, _, _], _ => rfl
theorem bd54 (f : Addr) (fd : FuncData) (F : Fun K "answer" "answer" (top 54) f fd) : Binds K fd ["places", "call", "given", "points"] [] := F.binds fun _ _ _ _ _ _ us hl => match us, hl with | [_, _, _, _], _ => rfl
theorem bd55 (f : Addr) (fd : FuncData) (F : Fun K "answers" "answers" (top 55) f fd) : Binds K fd ["calls"] [] := F.binds fun _ _ _ _ _ _ us hl => match us, hl with | [_], _ => rfl
theorem fin_mk {P : Program} {w : World} {fa : Addr} (X : K.In h) (G : h.Ns mainGlobals mg) (hfa : mg "answers" = some (.ref fa)) (T : Txt K mg) {f : Addr} {od an : Option Addr} {sl : Array (Option Value)} {oc kV dc pm cd ct : Value}
    (a : PySem.W.nsIn K mainGlobals "answers" = some (some (.ref f))) (l : K.lookup f = some ⟨oc, od, .func (PySem.W.fnOf "answers" "answers" (defArgs (top 55)) (defBody (top 55)) (defScope (top 55)) .none kV dc pm an cd ct), sl⟩) (c : PySem.W.codeIn K cd "answers" = true) (k : PySem.W.keepIn K (.ref f) = true) :
    ∃ fd : FuncData, (∀ (s : Shared) (us : List Value), us.length = (["calls"] : List Str).length → BindsTo s fd ⟨us, []⟩ ((["calls"] : List Str).zip us)) ∧ ∀ base : Heap, K.In base → base.Ns mainGlobals mg → FnOk P w K mg base CX0 9 fa fd ["calls"] (spAns K) := by
  have e := hfa.symm.trans (PySem.W.mg_of X G a)
  cases e
  exact ⟨_, fun s us hu => match us, hu with | [_], _ => .of_eq rfl, fun base _ _ => fn_an (fun_mk l c k) (all_ok T) T.n_len T.c_places T.nums⟩
end
end Cs

open PySem PySem.W PyProof.Rows
set_option maxRecDepth 100000 in
set_option maxHeartbeats 8000000 in
theorem PySem.Challenge.cw_cornerfigures_s01_answers_holds : PySem.Challenge.rw_cornerfigures_s01_answers.Holds := by
  w_on; k_headS; (case hw => exact ⟨[.list []], by decide +kernel, by decide +kernel⟩)
  k_fillS
  refine L2.walk_specK (r := PySem.Challenge.rw_cornerfigures_s01_answers) (k := 9) (CX := L2.CX0) (ps := ["calls"]) (sp := Cs.spAns) (by decide +kernel) rfl rfl ⟨rfl, by decide, by decide⟩ (fun w h Y => PySem.W.kIn_of Y) ?F ?S (fun _ _ _ _ z => z)
  case F =>
    intro w mg fa h Y KX G hmg
    refine' Cs.use_df (nm := "turn") (st := Cs.top 1) (ps := ["first", "second", "third"]) Cs.bd1 KX G ?a1 ?l1 ?c1 ?k1 ?r1
    (case a1 => k_is); (case l1 => k_is); (case c1 => k_is); (case k1 => k_is)
    intro d1
    refine' Cs.use_df (nm := "half_round") (st := Cs.top 2) (ps := ["points"]) Cs.bd2 KX G ?a2 ?l2 ?c2 ?k2 ?r2
    (case a2 => k_is); (case l2 => k_is); (case c2 => k_is); (case k2 => k_is)
    intro d2
    refine' Cs.use_df (nm := "hull") (st := Cs.top 3) (ps := ["points"]) Cs.bd3 KX G ?a3 ?l3 ?c3 ?k3 ?r3
    (case a3 => k_is); (case l3 => k_is); (case c3 => k_is); (case k3 => k_is)
    intro d3
    refine' Cs.use_df (nm := "put_together") (st := Cs.top 4) (ps := ["first", "second"]) Cs.bd4 KX G ?a4 ?l4 ?c4 ?k4 ?r4
    (case a4 => k_is); (case l4 => k_is); (case c4 => k_is); (case k4 => k_is)
    intro d4
    refine' Cs.use_df (nm := "edges") (st := Cs.top 5) (ps := ["figure"]) Cs.bd5 KX G ?a5 ?l5 ?c5 ?k5 ?r5
    (case a5 => k_is); (case l5 => k_is); (case c5 => k_is); (case k5 => k_is)
    intro d5
    refine' Cs.use_df (nm := "common_divisor") (st := Cs.top 6) (ps := ["a", "b"]) Cs.bd6 KX G ?a6 ?l6 ?c6 ?k6 ?r6
    (case a6 => k_is); (case l6 => k_is); (case c6 => k_is); (case k6 => k_is)
    intro d6
    refine' Cs.use_df (nm := "steps") (st := Cs.top 7) (ps := ["start", "end"]) Cs.bd7 KX G ?a7 ?l7 ?c7 ?k7 ?r7
    (case a7 => k_is); (case l7 => k_is); (case c7 => k_is); (case k7 => k_is)
    intro d7
    refine' Cs.use_df (nm := "one_step") (st := Cs.top 8) (ps := ["start", "end"]) Cs.bd8 KX G ?a8 ?l8 ?c8 ?k8 ?r8
    (case a8 => k_is); (case l8 => k_is); (case c8 => k_is); (case k8 => k_is)
    intro d8
    refine' Cs.use_df (nm := "farthest_out") (st := Cs.top 9) (ps := ["figure", "start", "end"]) Cs.bd9 KX G ?a9 ?l9 ?c9 ?k9 ?r9
    (case a9 => k_is); (case l9 => k_is); (case c9 => k_is); (case k9 => k_is)
    intro d9
    refine' Cs.use_df (nm := "double_area") (st := Cs.top 10) (ps := ["figure"]) Cs.bd10 KX G ?a10 ?l10 ?c10 ?k10 ?r10
    (case a10 => k_is); (case l10 => k_is); (case c10 => k_is); (case k10 => k_is)
    intro d10
    refine' Cs.use_df (nm := "rim_points") (st := Cs.top 11) (ps := ["figure"]) Cs.bd11 KX G ?a11 ?l11 ?c11 ?k11 ?r11
    (case a11 => k_is); (case l11 => k_is); (case c11 => k_is); (case k11 => k_is)
    intro d11
    refine' Cs.use_df (nm := "inside_points") (st := Cs.top 12) (ps := ["figure"]) Cs.bd12 KX G ?a12 ?l12 ?c12 ?k12 ?r12
    (case a12 => k_is); (case l12 => k_is); (case c12 => k_is); (case k12 => k_is)
    intro d12
    refine' Cs.use_df (nm := "together") (st := Cs.top 13) (ps := ["first", "second"]) Cs.bd13 KX G ?a13 ?l13 ?c13 ?k13 ?r13
    (case a13 => k_is); (case l13 => k_is); (case c13 => k_is); (case k13 => k_is)
    intro d13
    refine' Cs.use_df (nm := "is_one_step_off") (st := Cs.top 14) (ps := ["start", "end"]) Cs.bd14 KX G ?a14 ?l14 ?c14 ?k14 ?r14
    (case a14 => k_is); (case l14 => k_is); (case c14 => k_is); (case k14 => k_is)
    intro d14
    refine' Cs.use_df (nm := "has_dual") (st := Cs.top 15) (ps := ["figure"]) Cs.bd15 KX G ?a15 ?l15 ?c15 ?k15 ?r15
    (case a15 => k_is); (case l15 => k_is); (case c15 => k_is); (case k15 => k_is)
    intro d15
    refine' Cs.use_df (nm := "dual") (st := Cs.top 16) (ps := ["figure"]) Cs.bd16 KX G ?a16 ?l16 ?c16 ?k16 ?r16
    (case a16 => k_is); (case l16 => k_is); (case c16 => k_is); (case k16 => k_is)
    intro d16
    refine' Cs.use_df (nm := "with_edge") (st := Cs.top 18) (ps := ["ways", "start", "end"]) Cs.bd18 KX G ?a18 ?l18 ?c18 ?k18 ?r18
    (case a18 => k_is); (case l18 => k_is); (case c18 => k_is); (case k18 => k_is)
    intro d18
    refine' Cs.use_df (nm := "ways_by_sum") (st := Cs.top 19) (ps := ["some_edges"]) Cs.bd19 KX G ?a19 ?l19 ?c19 ?k19 ?r19
    (case a19 => k_is); (case l19 => k_is); (case c19 => k_is); (case k19 => k_is)
    intro d19
    refine' Cs.use_df (nm := "partings") (st := Cs.top 20) (ps := ["figure"]) Cs.bd20 KX G ?a20 ?l20 ?c20 ?k20 ?r20
    (case a20 => k_is); (case l20 => k_is); (case c20 => k_is); (case k20 => k_is)
    intro d20
    refine' Cs.use_df (nm := "limits") (st := Cs.top 22) (ps := ["outer", "inner"]) Cs.bd22 KX G ?a22 ?l22 ?c22 ?k22 ?r22
    (case a22 => k_is); (case l22 => k_is); (case c22 => k_is); (case k22 => k_is)
    intro d22
    refine' Cs.use_df (nm := "shifts_along") (st := Cs.top 23) (ps := ["found", "a"]) Cs.bd23 KX G ?a23 ?l23 ?c23 ?k23 ?r23
    (case a23 => k_is); (case l23 => k_is); (case c23 => k_is); (case k23 => k_is)
    intro d23
    refine' Cs.use_df (nm := "shifts") (st := Cs.top 24) (ps := ["outer", "inner"]) Cs.bd24 KX G ?a24 ?l24 ?c24 ?k24 ?r24
    (case a24 => k_is); (case l24 => k_is); (case c24 => k_is); (case k24 => k_is)
    intro d24
    refine' Cs.use_df (nm := "reach") (st := Cs.top 26) (ps := ["figure", "direction"]) Cs.bd26 KX G ?a26 ?l26 ?c26 ?k26 ?r26
    (case a26 => k_is); (case l26 => k_is); (case c26 => k_is); (case k26 => k_is)
    intro d26
    refine' Cs.use_df (nm := "moved") (st := Cs.top 27) (ps := ["direction", "times", "other"]) Cs.bd27 KX G ?a27 ?l27 ?c27 ?k27 ?r27
    (case a27 => k_is); (case l27 => k_is); (case c27 => k_is); (case k27 => k_is)
    intro d27
    refine' Cs.use_df (nm := "lowered") (st := Cs.top 28) (ps := ["figure", "long", "short"]) Cs.bd28 KX G ?a28 ?l28 ?c28 ?k28 ?r28
    (case a28 => k_is); (case l28 => k_is); (case c28 => k_is); (case k28 => k_is)
    intro d28
    refine' Cs.use_df (nm := "width") (st := Cs.top 29) (ps := ["figure"]) Cs.bd29 KX G ?a29 ?l29 ?c29 ?k29 ?r29
    (case a29 => k_is); (case l29 => k_is); (case c29 => k_is); (case k29 => k_is)
    intro d29
    refine' Cs.use_df (nm := "signed") (st := Cs.top 40) (ps := ["number"]) Cs.bd40 KX G ?a40 ?l40 ?c40 ?k40 ?r40
    (case a40 => k_is); (case l40 => k_is); (case c40 => k_is); (case k40 => k_is)
    intro d40
    refine' Cs.use_df (nm := "lifted") (st := Cs.top 41) (ps := ["number"]) Cs.bd41 KX G ?a41 ?l41 ?c41 ?k41 ?r41
    (case a41 => k_is); (case l41 => k_is); (case c41 => k_is); (case k41 => k_is)
    intro d41
    refine' Cs.use_df (nm := "in_bounds") (st := Cs.top 42) (ps := ["number"]) Cs.bd42 KX G ?a42 ?l42 ?c42 ?k42 ?r42
    (case a42 => k_is); (case l42 => k_is); (case c42 => k_is); (case k42 => k_is)
    intro d42
    refine' Cs.use_df (nm := "is_place") (st := Cs.top 43) (ps := ["slot"]) Cs.bd43 KX G ?a43 ?l43 ?c43 ?k43 ?r43
    (case a43 => k_is); (case l43 => k_is); (case c43 => k_is); (case k43 => k_is)
    intro d43
    refine' Cs.use_df (nm := "figure_at") (st := Cs.top 44) (ps := ["places", "slot"]) Cs.bd44 KX G ?a44 ?l44 ?c44 ?k44 ?r44
    (case a44 => k_is); (case l44 => k_is); (case c44 => k_is); (case k44 => k_is)
    intro d44
    refine' Cs.use_df (nm := "begin") (st := Cs.top 45) (ps := ["places"]) Cs.bd45 KX G ?a45 ?l45 ?c45 ?k45 ?r45
    (case a45 => k_is); (case l45 => k_is); (case c45 => k_is); (case k45 => k_is)
    intro d45
    refine' Cs.use_df (nm := "put_hull") (st := Cs.top 46) (ps := ["places", "slot", "points"]) Cs.bd46 KX G ?a46 ?l46 ?c46 ?k46 ?r46
    (case a46 => k_is); (case l46 => k_is); (case c46 => k_is); (case k46 => k_is)
    intro d46
    refine' Cs.use_df (nm := "tell_corners") (st := Cs.top 47) (ps := ["places", "slot", "most"]) Cs.bd47 KX G ?a47 ?l47 ?c47 ?k47 ?r47
    (case a47 => k_is); (case l47 => k_is); (case c47 => k_is); (case k47 => k_is)
    intro d47
    refine' Cs.use_df (nm := "tell_about") (st := Cs.top 48) (ps := ["places", "slot"]) Cs.bd48 KX G ?a48 ?l48 ?c48 ?k48 ?r48
    (case a48 => k_is); (case l48 => k_is); (case c48 => k_is); (case k48 => k_is)
    intro d48
    refine' Cs.use_df (nm := "put_sum") (st := Cs.top 49) (ps := ["places", "i", "j", "slot"]) Cs.bd49 KX G ?a49 ?l49 ?c49 ?k49 ?r49
    (case a49 => k_is); (case l49 => k_is); (case c49 => k_is); (case k49 => k_is)
    intro d49
    refine' Cs.use_df (nm := "tell_mixed") (st := Cs.top 50) (ps := ["places", "i", "j"]) Cs.bd50 KX G ?a50 ?l50 ?c50 ?k50 ?r50
    (case a50 => k_is); (case l50 => k_is); (case c50 => k_is); (case k50 => k_is)
    intro d50
    refine' Cs.use_df (nm := "tell_parts") (st := Cs.top 51) (ps := ["places", "slot"]) Cs.bd51 KX G ?a51 ?l51 ?c51 ?k51 ?r51
    (case a51 => k_is); (case l51 => k_is); (case c51 => k_is); (case k51 => k_is)
    intro d51
    refine' Cs.use_df (nm := "tell_room") (st := Cs.top 52) (ps := ["places", "i", "j"]) Cs.bd52 KX G ?a52 ?l52 ?c52 ?k52 ?r52
    (case a52 => k_is); (case l52 => k_is); (case c52 => k_is); (case k52 => k_is)
    intro d52
    refine' Cs.use_df (nm := "put_dual") (st := Cs.top 53) (ps := ["places", "i", "slot"]) Cs.bd53 KX G ?a53 ?l53 ?c53 ?k53 ?r53
    (case a53 => k_is); (case l53 => k_is); (case c53 => k_is); (case k53 => k_is)
    intro d53
    refine' Cs.use_df (nm := "answer") (st := Cs.top 54) (ps := ["places", "call", "given", "points"]) Cs.bd54 KX G ?a54 ?l54 ?c54 ?k54 ?r54
    (case a54 => k_is); (case l54 => k_is); (case c54 => k_is); (case k54 => k_is)
    intro d54
    refine' Cs.use_none (nm := "sorted") KX G ?a_sorted ?r_sorted
    (case a_sorted => k_is)
    intro n_sorted
    refine' Cs.use_none (nm := "set") KX G ?a_set ?r_set
    (case a_set => k_is)
    intro n_set
    refine' Cs.use_none (nm := "list") KX G ?a_list ?r_list
    (case a_list => k_is)
    intro n_list
    refine' Cs.use_none (nm := "reversed") KX G ?a_reversed ?r_reversed
    (case a_reversed => k_is)
    intro n_reversed
    refine' Cs.use_none (nm := "zip") KX G ?a_zip ?r_zip
    (case a_zip => k_is)
    intro n_zip
    refine' Cs.use_none (nm := "abs") KX G ?a_abs ?r_abs
    (case a_abs => k_is)
    intro n_abs
    refine' Cs.use_none (nm := "max") KX G ?a_max ?r_max
    (case a_max => k_is)
    intro n_max
    refine' Cs.use_none (nm := "min") KX G ?a_min ?r_min
    (case a_min => k_is)
    intro n_min
    refine' Cs.use_none (nm := "sum") KX G ?a_sum ?r_sum
    (case a_sum => k_is)
    intro n_sum
    refine' Cs.use_none (nm := "all") KX G ?a_all ?r_all
    (case a_all => k_is)
    intro n_all
    refine' Cs.use_none (nm := "len") KX G ?a_len ?r_len
    (case a_len => k_is)
    intro n_len
    refine' Cs.use_none (nm := "range") KX G ?a_range ?r_range
    (case a_range => k_is)
    intro n_range
    refine' Cs.use_cst (nm := "PLACES") (n := 8) KX G ?a_PLACES ?r_PLACES
    (case a_PLACES => k_is)
    intro c_places
    refine' Cs.use_cst (nm := "LIFT") (n := 4294967296) KX G ?a_LIFT ?r_LIFT
    (case a_LIFT => k_is)
    intro c_lift
    refine' Cs.use_cst (nm := "LEAST_LIFTED") (n := 2147483648) KX G ?a_LEAST_LIFTED ?r_LEAST_LIFTED
    (case a_LEAST_LIFTED => k_is)
    intro c_least_lifted
    refine' Cs.use_cst (nm := "FARTHEST") (n := 30000) KX G ?a_FARTHEST ?r_FARTHEST
    (case a_FARTHEST => k_is)
    intro c_farthest
    refine' Cs.use_cst (nm := "MOST_POINT_NUMBERS") (n := 128) KX G ?a_MOST_POINT_NUMBERS ?r_MOST_POINT_NUMBERS
    (case a_MOST_POINT_NUMBERS => k_is)
    intro c_most_point_numbers
    refine' Cs.use_cst (nm := "MOST_CORNER_NUMBERS") (n := 1048576) KX G ?a_MOST_CORNER_NUMBERS ?r_MOST_CORNER_NUMBERS
    (case a_MOST_CORNER_NUMBERS => k_is)
    intro c_most_corner_numbers
    refine' Cs.use_cst (nm := "MOST_SUM_CORNERS") (n := 64) KX G ?a_MOST_SUM_CORNERS ?r_MOST_SUM_CORNERS
    (case a_MOST_SUM_CORNERS => k_is)
    intro c_most_sum_corners
    refine' Cs.use_cst (nm := "MOST_PARTED_RIM") (n := 24) KX G ?a_MOST_PARTED_RIM ?r_MOST_PARTED_RIM
    (case a_MOST_PARTED_RIM => k_is)
    intro c_most_parted_rim
    refine' Cs.use_nums KX G ?aN ?lN ?rN
    (case aN => k_is); (case lN => k_is)
    intro nums
    have T : Cs.Txt _ mg := ⟨d1, d2, d3, d4, d5, d6, d7, d8, d9, d10, d11, d12, d13, d14, d15, d16, d18, d19, d20, d22, d23, d24, d26, d27, d28, d29, d40, d41, d42, d43, d44, d45, d46, d47, d48, d49, d50, d51, d52, d53, d54, n_sorted, n_set, n_list, n_reversed, n_zip, n_abs, n_max, n_min, n_sum, n_all, n_len, n_range, c_places, c_lift, c_least_lifted, c_farthest, c_most_point_numbers, c_most_corner_numbers, c_most_sum_corners, c_most_parted_rim, nums⟩
    refine' Cs.fin_mk KX G hmg T ?a55 ?l55 ?c55 ?k55
    (case a55 => k_is); (case l55 => k_is); (case c55 => k_is); (case k55 => k_is)
  case S =>
    intro K H xs a hO hwi hask hx
    cases hx with
    | cons h1 h2 =>
      cases h2
      cases h1 with
      | lst hs ha =>
        have e := L2.ints_dw a.1 _ ha
        subst e
        exact ⟨_, a.1, rfl, hs, hask, fun H' p hp => .lst (L2.SqL.of hp) (L2.dw_ints _)⟩
#print axioms PySem.Challenge.cw_cornerfigures_s01_answers_holds
