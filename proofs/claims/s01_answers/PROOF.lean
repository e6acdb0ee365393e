import PyProof.Rows.All
import Wide.All
import OpenK.AllK
import Wide.FinOn
import Open.SpecLaws
import KE.OsHead
import KE.OsGo
import HandS.ForSpec
import HandS.ForMost
import HandS.CallLocal
import HandS.Walk
import HandS.TupLen
import HandS.Deep
import HandS.SetFor
import HandS.TupAny
import HandS.SetKeys
import HandS.More
import HandS.Rev
import HandS.Conv
import HandS.TupSets
import HandS.SortRule
import KE.DataFind
import KE.KEqDeep
import PySem.Challenge.RW_leaststates_s01_answers
set_option Elab.async false
set_option linter.all false
set_option maxRecDepth 100000
set_option maxHeartbeats 4000000
/-! LsOrd -/
namespace Ls
open Rh03

/-! ### the order of words -/
theorem bf_irr : ∀ w : Word, before w w = false
  | [] => rfl
  | a :: w => by
    unfold before
    rw [if_neg (Nat.lt_irrefl a), if_neg (Nat.lt_irrefl a)]
    exact bf_irr w
theorem bf_cons {a b : Nat} {u v : Word} : before (a :: u) (b :: v) = true ↔ a < b ∨ (a = b ∧ before u v = true) := by
  rw [before]
  by_cases h : a < b
  · simp [h]
  · rw [if_neg h]
    by_cases h2 : b < a
    · rw [if_pos h2]
      constructor
      · intro e; cases e
      · rintro (e | ⟨e, _⟩) <;> omega
    · rw [if_neg h2]
      have e : a = b := by omega
      simp [e]
theorem bf_trans : ∀ {u v w : Word}, before u v = true → before v w = true → before u w = true
  | [], [], _, h, _ => by cases h
  | [], _ :: _, [], _, h => by cases h
  | [], _ :: _, _ :: _, _, _ => rfl
  | _ :: _, [], _, h, _ => by cases h
  | _ :: _, _ :: _, [], _, h => by cases h
  | a :: u, b :: v, c :: w, h1, h2 => by
    rw [bf_cons] at h1 h2 ⊢
    rcases h1 with h1 | ⟨e1, h1⟩ <;> rcases h2 with h2 | ⟨e2, h2⟩
    · exact .inl (by omega)
    · exact .inl (by omega)
    · exact .inl (by omega)
    · exact .inr ⟨by omega, bf_trans h1 h2⟩
theorem bf_asymm {u v : Word} (h : before u v = true) : before v u = false := by
  cases e : before v u with
  | false => rfl
  | true =>
    have := bf_trans h e
    rw [bf_irr] at this
    cases this
theorem bf_ne {u v : Word} (h : before u v = true) : u ≠ v := by
  rintro rfl
  rw [bf_irr] at h
  cases h
theorem bf_total : ∀ {u v : Word}, before u v = false → u ≠ v → before v u = true
  | [], [], _, h => absurd rfl h
  | [], _ :: _, h, _ => by cases h
  | _ :: _, [], _, _ => rfl
  | a :: u, b :: v, h, hn => by
    rw [bf_cons]
    by_cases h1 : b < a
    · exact .inl h1
    · by_cases h2 : a < b
      · have : before (a :: u) (b :: v) = true := bf_cons.mpr (.inl h2)
        rw [h] at this; cases this
      · have e : a = b := by omega
        subst e
        refine .inr ⟨rfl, bf_total ?_ ?_⟩
        · cases q : before u v with
          | false => rfl
          | true =>
            have : before (a :: u) (a :: v) = true := bf_cons.mpr (.inr ⟨rfl, q⟩)
            rw [h] at this; cases this
        · rintro rfl; exact hn rfl

/-- in order, each once -/
def Srt (d : List Word) : Prop := d.Pairwise fun u v => before u v = true
theorem Srt.nil : Srt [] := List.Pairwise.nil
theorem Srt.nodup {d : List Word} (h : Srt d) : d.Nodup := List.Pairwise.imp (fun h => bf_ne h) h
theorem Srt.filter {d : List Word} (h : Srt d) (p : Word → Bool) : Srt (d.filter p) := List.Pairwise.filter p h
theorem srt_cons {v : Word} {d : List Word} : Srt (v :: d) ↔ (∀ x ∈ d, before v x = true) ∧ Srt d := List.pairwise_cons

theorem put_cons (w v : Word) (l : List Word) : put w (v :: l) = if w = v then v :: l else if before w v = true then w :: v :: l else v :: put w l := rfl
theorem mem_put {w x : Word} : ∀ {d : List Word}, x ∈ put w d ↔ x = w ∨ x ∈ d
  | [] => by simp [put]
  | v :: d => by
    rw [put_cons]
    by_cases e : w = v
    · rw [if_pos e]; subst e; simp
    · rw [if_neg e]
      by_cases b : before w v = true
      · rw [if_pos b]; simp
      · rw [if_neg b, List.mem_cons, mem_put (d := d), List.mem_cons]
        constructor
        · rintro (h | h | h)
          · exact .inr (.inl h)
          · exact .inl h
          · exact .inr (.inr h)
        · rintro (h | h | h)
          · exact .inr (.inl h)
          · exact .inl h
          · exact .inr (.inr h)
theorem Srt.put {w : Word} : ∀ {d : List Word}, Srt d → Srt (put w d)
  | [], _ => List.pairwise_singleton _ _
  | v :: d, h => by
    rw [put_cons]
    rw [srt_cons] at h
    by_cases e : w = v
    · rw [if_pos e]; exact srt_cons.mpr h
    · rw [if_neg e]
      by_cases b : before w v = true
      · rw [if_pos b]
        refine srt_cons.mpr ⟨fun x hx => ?_, srt_cons.mpr h⟩
        rcases List.mem_cons.mp hx with rfl | hx
        · exact b
        · exact bf_trans b (h.1 x hx)
      · rw [if_neg b]
        have b' : before v w = true := bf_total (by cases q : before w v with | false => rfl | true => exact absurd q b) e
        refine srt_cons.mpr ⟨fun x hx => ?_, Srt.put h.2⟩
        rcases mem_put.mp hx with rfl | hx
        · exact b'
        · exact h.1 x hx
/-- two rows in order with the same words are one -/
theorem srt_ext : ∀ {d e : List Word}, Srt d → Srt e → (∀ x, x ∈ d ↔ x ∈ e) → d = e
  | [], [], _, _, _ => rfl
  | [], y :: e, _, _, h => by have := (h y).mpr List.mem_cons_self; cases this
  | x :: d, [], _, _, h => by have := (h x).mp List.mem_cons_self; cases this
  | x :: d, y :: e, hd, he, h => by
    rw [srt_cons] at hd he
    have exy : x = y := by
      rcases List.mem_cons.mp ((h x).mp List.mem_cons_self) with q | q
      · exact q
      · rcases List.mem_cons.mp ((h y).mpr List.mem_cons_self) with q2 | q2
        · exact q2.symm
        · have a := he.1 x q
          have b := hd.1 y q2
          rw [bf_asymm a] at b; cases b
    subst exy
    rw [srt_ext hd.2 he.2 fun z => ?_]
    constructor
    · intro hz
      rcases List.mem_cons.mp ((h z).mp (List.mem_cons_of_mem _ hz)) with q | q
      · subst q; have := hd.1 z hz; rw [bf_irr] at this; cases this
      · exact q
    · intro hz
      rcases List.mem_cons.mp ((h z).mpr (List.mem_cons_of_mem _ hz)) with q | q
      · subst q; have := he.1 z hz; rw [bf_irr] at this; cases this
      · exact q
/-- how many are earlier -/
def earlier (d : List Word) (w : Word) : Nat := (d.filter fun v => before v w).length
theorem earlier_le (d : List Word) (w : Word) : earlier d w ≤ d.length := List.length_filter_le _ _
theorem earlier_zero {w v : Word} {d : List Word} (h : Srt (v :: d)) (b : before w v = true) : earlier (v :: d) w = 0 := by
  unfold earlier
  rw [List.length_eq_zero_iff, List.filter_eq_nil_iff]
  intro x hx
  rw [srt_cons] at h
  have : before w x = true := by
    rcases List.mem_cons.mp hx with rfl | hx
    · exact b
    · exact bf_trans b (h.1 x hx)
  rw [bf_asymm this]; decide
/-- put in is: at the place of how many are earlier -/
theorem put_new {w : Word} : ∀ {d : List Word}, Srt d → w ∉ d → put w d = d.take (earlier d w) ++ w :: d.drop (earlier d w)
  | [], _, _ => rfl
  | v :: d, h, hn => by
    have e : ¬ w = v := fun q => hn (q ▸ List.mem_cons_self)
    have hn' : w ∉ d := fun q => hn (List.mem_cons_of_mem _ q)
    rw [put_cons, if_neg e]
    by_cases b : before w v = true
    · rw [if_pos b, earlier_zero h b]; rfl
    · rw [if_neg b, put_new (srt_cons.mp h).2 hn']
      have b' : before v w = true := bf_total (by cases q : before w v with | false => rfl | true => exact absurd q b) e
      have q : earlier (v :: d) w = earlier d w + 1 := by
        unfold earlier
        rw [List.filter_cons, if_pos b']; rfl
      rw [q]; rfl
theorem put_old {w : Word} : ∀ {d : List Word}, Srt d → w ∈ d → put w d = d
  | v :: d, h, hm => by
    rw [put_cons]
    by_cases e : w = v
    · rw [if_pos e]
    · rw [if_neg e]
      rcases List.mem_cons.mp hm with q | q
      · exact absurd q e
      · have b := (srt_cons.mp h).1 w q
        rw [if_neg (by rw [bf_asymm b]; decide), put_old (srt_cons.mp h).2 q]
theorem put_len {w : Word} {d : List Word} (h : Srt d) (hn : w ∉ d) : (put w d).length = d.length + 1 := by
  rw [put_new h hn, List.length_append, List.length_cons, List.length_take, List.length_drop]
  have := earlier_le d w
  omega
/-- many put in -/
theorem mem_puts {x : Word} : ∀ {ws d : List Word}, x ∈ ws.foldl (fun l w => put w l) d ↔ x ∈ ws ∨ x ∈ d
  | [], d => by simp
  | w :: ws, d => by
    rw [List.foldl_cons, mem_puts (ws := ws), mem_put, List.mem_cons]
    constructor
    · rintro (h | h | h)
      · exact .inl (.inr h)
      · exact .inl (.inl h)
      · exact .inr h
    · rintro ((h | h) | h)
      · exact .inr (.inl h)
      · exact .inl h
      · exact .inr (.inr h)
theorem srt_puts : ∀ {ws d : List Word}, Srt d → Srt (ws.foldl (fun l w => put w l) d)
  | [], _, h => h
  | _ :: ws, _, h => srt_puts (ws := ws) h.put
end Ls
/-! LsSt -/
namespace Ls
open Rh03

/-! ### rests and letters -/
theorem behind_some : ∀ {p w r : Word}, behind p w = some r ↔ w = p ++ r
  | [], w, r => by simp [behind]
  | a :: p, [], r => by simp [behind]
  | a :: p, b :: w, r => by
    rw [behind]
    by_cases e : a = b
    · rw [if_pos e, behind_some (p := p)]; subst e; simp
    · rw [if_neg e]
      constructor
      · intro h; cases h
      · intro h; rw [List.cons_append] at h; injection h with h1 _; exact absurd h1.symm e
theorem mem_rests {d : List Word} {p r : Word} : r ∈ rests d p ↔ p ++ r ∈ d := by
  unfold rests
  rw [List.mem_filterMap]
  constructor
  · rintro ⟨w, hw, e⟩
    rw [behind_some] at e
    subst e; exact hw
  · intro h
    exact ⟨_, h, behind_some.mpr rfl⟩
theorem rests_nil (d : List Word) : rests d [] = d := by
  unfold rests
  induction d with
  | nil => rfl
  | cons w d ih => rw [List.filterMap_cons, ih]; rfl
theorem behind_app : ∀ (p q w : Word), behind (p ++ q) w = (behind p w).bind (behind q)
  | [], q, w => rfl
  | a :: p, q, [] => rfl
  | a :: p, q, b :: w => by
    show (if a = b then behind (p ++ q) w else none) = (if a = b then behind p w else none).bind (behind q)
    by_cases e : a = b
    · rw [if_pos e, if_pos e]; exact behind_app p q w
    · rw [if_neg e, if_neg e]; rfl
theorem rests_app (d : List Word) (p q : Word) : rests d (p ++ q) = rests (rests d p) q := by
  unfold rests
  induction d with
  | nil => rfl
  | cons w d ih =>
    rw [List.filterMap_cons, List.filterMap_cons, behind_app]
    cases h : behind p w with
    | none => exact ih
    | some r =>
      rw [Option.bind_some]
      show _ = List.filterMap (behind q) (r :: List.filterMap (behind p) d)
      rw [List.filterMap_cons]
      cases h2 : behind q r with
      | none => exact ih
      | some t => exact congrArg (List.cons t) ih
theorem bf_app (p : Word) {u v : Word} : before (p ++ u) (p ++ v) = before u v := by
  induction p with
  | nil => rfl
  | cons a p ih =>
    show (if a < a then true else if a < a then false else before (p ++ u) (p ++ v)) = _
    rw [if_neg (Nat.lt_irrefl a), if_neg (Nat.lt_irrefl a), ih]
theorem Srt.rests {d : List Word} (h : Srt d) (p : Word) : Srt (rests d p) := by
  unfold Srt Rh03.rests
  rw [List.pairwise_filterMap]
  refine List.Pairwise.imp ?_ h
  intro u v huv r hr t ht
  rw [behind_some] at hr ht
  subst hr ht
  rwa [bf_app] at huv

/-- rising -/
def Up (l : List Nat) : Prop := l.Pairwise fun a b => a < b
theorem up_cons {a : Nat} {l : List Nat} : Up (a :: l) ↔ (∀ x ∈ l, a < x) ∧ Up l := List.pairwise_cons
theorem up_ext : ∀ {d e : List Nat}, Up d → Up e → (∀ x, x ∈ d ↔ x ∈ e) → d = e
  | [], [], _, _, _ => rfl
  | [], y :: e, _, _, h => by have := (h y).mpr List.mem_cons_self; cases this
  | x :: d, [], _, _, h => by have := (h x).mp List.mem_cons_self; cases this
  | x :: d, y :: e, hd, he, h => by
    rw [up_cons] at hd he
    have exy : x = y := by
      rcases List.mem_cons.mp ((h x).mp List.mem_cons_self) with q | q
      · exact q
      · rcases List.mem_cons.mp ((h y).mpr List.mem_cons_self) with q2 | q2
        · exact q2.symm
        · have a := he.1 x q
          have b := hd.1 y q2
          omega
    subst exy
    rw [up_ext hd.2 he.2 fun z => ?_]
    constructor
    · intro hz
      rcases List.mem_cons.mp ((h z).mp (List.mem_cons_of_mem _ hz)) with q | q
      · subst q; have := hd.1 z hz; omega
      · exact q
    · intro hz
      rcases List.mem_cons.mp ((h z).mpr (List.mem_cons_of_mem _ hz)) with q | q
      · subst q; have := he.1 z hz; omega
      · exact q
theorem once_cons (a x : Nat) (l : List Nat) : once a (x :: l) = if a < x then a :: x :: l else if x = a then x :: l else x :: once a l := rfl
theorem mem_once {a y : Nat} : ∀ {l : List Nat}, y ∈ once a l ↔ y = a ∨ y ∈ l
  | [] => by simp [once]
  | x :: l => by
    rw [once_cons]
    by_cases h : a < x
    · rw [if_pos h]; simp
    · rw [if_neg h]
      by_cases e : x = a
      · rw [if_pos e]; subst e; simp
      · rw [if_neg e, List.mem_cons, mem_once (l := l), List.mem_cons]
        constructor
        · rintro (h | h | h)
          · exact .inr (.inl h)
          · exact .inl h
          · exact .inr (.inr h)
        · rintro (h | h | h)
          · exact .inr (.inl h)
          · exact .inl h
          · exact .inr (.inr h)
theorem Up.once {a : Nat} : ∀ {l : List Nat}, Up l → Up (once a l)
  | [], _ => List.pairwise_singleton _ _
  | x :: l, h => by
    rw [once_cons]
    rw [up_cons] at h
    by_cases b : a < x
    · rw [if_pos b]
      refine up_cons.mpr ⟨fun y hy => ?_, up_cons.mpr h⟩
      rcases List.mem_cons.mp hy with rfl | hy
      · exact b
      · have := h.1 y hy; omega
    · rw [if_neg b]
      by_cases e : x = a
      · rw [if_pos e]; exact up_cons.mpr h
      · rw [if_neg e]
        refine up_cons.mpr ⟨fun y hy => ?_, Up.once h.2⟩
        rcases mem_once.mp hy with rfl | hy
        · omega
        · exact h.1 y hy
theorem onces : ∀ (ws l : List Nat), Up l → Up (ws.foldl (fun l a => once a l) l) ∧ ∀ y, y ∈ ws.foldl (fun l a => once a l) l ↔ y ∈ ws ∨ y ∈ l
  | [], l, h => ⟨h, fun y => by simp⟩
  | a :: ws, l, h => by
    obtain ⟨h1, h2⟩ := onces ws (once a l) h.once
    refine ⟨h1, fun y => ?_⟩
    rw [List.foldl_cons, h2, mem_once, List.mem_cons]
    constructor
    · rintro (h | h | h)
      · exact .inl (.inr h)
      · exact .inl (.inl h)
      · exact .inr h
    · rintro ((h | h) | h)
      · exact .inr (.inl h)
      · exact .inl h
      · exact .inr (.inr h)
theorem up_letters (s : List Word) : Up (letters s) := (onces _ [] List.Pairwise.nil).1
theorem mem_letters {s : List Word} {a : Nat} : a ∈ letters s ↔ ∃ r, a :: r ∈ s := by
  unfold letters
  rw [(onces _ [] List.Pairwise.nil).2, List.mem_filterMap]
  constructor
  · rintro (⟨w, hw, e⟩ | h)
    · cases w with
      | nil => cases e
      | cons b r => cases e; exact ⟨r, hw⟩
    · cases h
  · rintro ⟨r, h⟩
    exact .inl ⟨_, h, rfl⟩
theorem rests_ne {s : List Word} {a : Nat} : rests s [a] ≠ [] ↔ a ∈ letters s := by
  rw [mem_letters]
  constructor
  · intro h
    obtain ⟨r, hr⟩ := List.exists_mem_of_ne_nil _ h
    exact ⟨r, mem_rests.mp hr⟩
  · rintro ⟨r, h⟩ e
    have : r ∈ rests s [a] := mem_rests.mpr h
    rw [e] at this; cases this

/-! ### longest -/
theorem longest_cons (w : Word) (d : List Word) : longest (w :: d) = max w.length (longest d) := rfl
theorem le_longest {w : Word} : ∀ {d : List Word}, w ∈ d → w.length ≤ longest d
  | v :: d, h => by
    rw [longest_cons]
    rcases List.mem_cons.mp h with rfl | h
    · exact Nat.le_max_left _ _
    · exact Nat.le_trans (le_longest h) (Nat.le_max_right _ _)
theorem longest_le {n : Nat} : ∀ {d : List Word}, (∀ w ∈ d, w.length ≤ n) → longest d ≤ n
  | [], _ => Nat.zero_le _
  | v :: d, h => by
    rw [longest_cons]
    exact Nat.max_le.mpr ⟨h v List.mem_cons_self, longest_le fun w hw => h w (List.mem_cons_of_mem _ hw)⟩
theorem longest_rests {s : List Word} {a : Nat} (h : a ∈ letters s) : longest (rests s [a]) < longest s := by
  obtain ⟨r, hr⟩ := mem_letters.mp h
  have h1 : 1 ≤ longest s := by have := le_longest hr; simp at this; omega
  have h2 : longest (rests s [a]) ≤ longest s - 1 := longest_le fun w hw => by
    have := le_longest (mem_rests.mp hw)
    simp at this; omega
  omega

/-! ### the states, as they are met -/
def kids (s : List Word) : List (List Word) := (letters s).map fun a => rests s [a]
theorem mem_kids {s t : List Word} : t ∈ kids s ↔ ∃ a, a ∈ letters s ∧ rests s [a] = t := by unfold kids; rw [List.mem_map]
theorem longest_kid {s t : List Word} (h : t ∈ kids s) : longest t < longest s := by
  obtain ⟨a, ha, rfl⟩ := mem_kids.mp h
  exact longest_rests ha
theorem kid_ne {s t : List Word} (h : t ∈ kids s) : t ≠ [] := by
  obtain ⟨a, ha, rfl⟩ := mem_kids.mp h
  exact rests_ne.mpr ha
theorem meet_succ (f : Nat) (seen : List (List Word)) (s : List Word) : meet (f + 1) seen s = if seen.contains s = true then seen else (kids s).foldl (fun l t => meet f l t) (seen ++ [s]) := by
  show (if seen.contains s = true then seen else (letters s).foldl (fun l a => meet f l (rests s [a])) (seen ++ [s])) = _
  unfold kids
  rw [List.foldl_map]
theorem foldl_congr {α β : Type} {f g : β → α → β} : ∀ {l : List α} {b : β}, (∀ x ∈ l, ∀ b, f b x = g b x) → l.foldl f b = l.foldl g b
  | [], _, _ => rfl
  | x :: l, b, h => by
    rw [List.foldl_cons, List.foldl_cons, h x List.mem_cons_self]
    exact foldl_congr fun y hy => h y (List.mem_cons_of_mem _ hy)
theorem meet_fuel : ∀ (f g : Nat) (seen : List (List Word)) (s : List Word), longest s < f → longest s < g → meet f seen s = meet g seen s
  | 0, _, _, _, h, _ => absurd h (Nat.not_lt_zero _)
  | _ + 1, 0, _, _, _, h => absurd h (Nat.not_lt_zero _)
  | f + 1, g + 1, seen, s, hf, hg => by
    rw [meet_succ, meet_succ]
    by_cases c : seen.contains s = true
    · rw [if_pos c, if_pos c]
    · rw [if_neg c, if_neg c]
      refine foldl_congr fun t ht l => meet_fuel f g l t ?_ ?_
      · have := longest_kid ht; omega
      · have := longest_kid ht; omega
/-- a state, and all that is met from it -/
def M (seen : List (List Word)) (s : List Word) : List (List Word) := meet (longest s + 1) seen s
theorem M_skip {seen : List (List Word)} {s : List Word} (h : s ∈ seen) : M seen s = seen := by
  unfold M
  rw [meet_succ, if_pos (List.contains_iff_mem.mpr h)]
theorem M_new {seen : List (List Word)} {s : List Word} (h : s ∉ seen) : M seen s = (kids s).foldl M (seen ++ [s]) := by
  unfold M
  rw [meet_succ, if_neg (fun q => h (List.contains_iff_mem.mp q))]
  refine foldl_congr fun t ht l => meet_fuel _ _ _ _ ?_ (Nat.lt_succ_self _)
  exact longest_kid ht
theorem states_M {d : List Word} (h : d ≠ []) : states d = M [] d := by
  unfold states M
  rw [if_neg (by rw [List.isEmpty_iff]; exact h)]
theorem states_nil : states [] = [] := rfl

/-- what M does: what was met stands first; the state is there; each once; whatever is new has its kids -/
structure Met (seen out : List (List Word)) : Prop where
  pre : ∃ more, out = seen ++ more
  nd : seen.Nodup → out.Nodup
  kid : ∀ t ∈ out, t ∉ seen → ∀ k ∈ kids t, k ∈ out
theorem Met.refl (seen : List (List Word)) : Met seen seen := ⟨⟨[], by simp⟩, id, fun _ h h' => absurd h h'⟩
theorem Met.sub {seen out : List (List Word)} (h : Met seen out) {t : List Word} (m : t ∈ seen) : t ∈ out := by
  obtain ⟨more, rfl⟩ := h.pre
  exact List.mem_append_left _ m
theorem Met.trans {a b c : List (List Word)} (h : Met a b) (k : Met b c) : Met a c := by
  refine ⟨?_, fun n => k.nd (h.nd n), fun t ht hn x hx => ?_⟩
  · obtain ⟨m, rfl⟩ := h.pre
    obtain ⟨m', rfl⟩ := k.pre
    exact ⟨m ++ m', by simp⟩
  · by_cases q : t ∈ b
    · exact k.sub (h.kid t q hn x hx)
    · exact k.kid t ht q x hx
theorem met_M : ∀ (n : Nat) (s : List Word), longest s < n → ∀ seen, Met seen (M seen s) ∧ s ∈ M seen s
  | 0, _, h => absurd h (Nat.not_lt_zero _)
  | n + 1, s, h => fun seen => by
    by_cases c : s ∈ seen
    · rw [M_skip c]; exact ⟨Met.refl _, c⟩
    · rw [M_new c]
      have go : ∀ (l : List (List Word)), (∀ t ∈ l, t ∈ kids s) → ∀ b, Met b (l.foldl M b) ∧ ∀ t ∈ l, t ∈ l.foldl M b := by
        intro l
        induction l with
        | nil => intro _ b; exact ⟨Met.refl b, fun t ht => by cases ht⟩
        | cons t l ih =>
          intro hl b
          have ht : longest t < n := by have := longest_kid (hl t List.mem_cons_self); omega
          obtain ⟨m1, m2⟩ := met_M n t ht b
          obtain ⟨k1, k2⟩ := ih (fun x hx => hl x (List.mem_cons_of_mem _ hx)) (M b t)
          refine ⟨m1.trans k1, fun x hx => ?_⟩
          rcases List.mem_cons.mp hx with rfl | hx
          · exact k1.sub m2
          · exact k2 x hx
      obtain ⟨g1, g2⟩ := go (kids s) (fun _ h => h) (seen ++ [s])
      have ms : s ∈ (kids s).foldl M (seen ++ [s]) := g1.sub (List.mem_append_right _ List.mem_cons_self)
      refine ⟨⟨?_, fun nd => g1.nd ?_, fun t ht hn x hx => ?_⟩, ms⟩
      · obtain ⟨more, e⟩ := g1.pre
        exact ⟨s :: more, by rw [e]; simp⟩
      · rw [List.nodup_append]
        refine ⟨nd, by simp, fun a ha b hb => ?_⟩
        simp at hb; subst hb; rintro rfl; exact c ha
      · by_cases e : t = s
        · subst e; exact g2 x hx
        · refine g1.kid t ht (fun q => ?_) x hx
          rcases List.mem_append.mp q with q | q
          · exact hn q
          · simp at q; exact e q
theorem met_all (seen : List (List Word)) (s : List Word) : Met seen (M seen s) ∧ s ∈ M seen s := met_M _ s (Nat.lt_succ_self _) seen
theorem states_nodup (d : List Word) : (states d).Nodup := by
  by_cases h : d = []
  · subst h; exact List.nodup_nil
  · rw [states_M h]; exact (met_all [] d).1.nd List.nodup_nil
theorem states_self {d : List Word} (h : d ≠ []) : d ∈ states d := by rw [states_M h]; exact (met_all [] d).2
theorem states_kid {d s t : List Word} (h : s ∈ states d) (k : t ∈ kids s) : t ∈ states d := by
  by_cases e : d = []
  · subst e; cases h
  · rw [states_M e] at h ⊢
    exact (met_all [] d).1.kid s h (by simp) t k
theorem states_head {d : List Word} (h : d ≠ []) : ∃ more, states d = d :: more := by
  rw [states_M h, M_new (by simp)]
  have go : ∀ (l : List (List Word)) b, Met b (l.foldl M b) := by
    intro l
    induction l with
    | nil => intro b; exact Met.refl b
    | cons t l ih => intro b; exact (met_all b t).1.trans (ih _)
  obtain ⟨more, e⟩ := (go (kids d) ([] ++ [d])).pre
  exact ⟨more, by rw [e]; rfl⟩
/-- whatever is met has a property that goes from a state to its kids -/
theorem mem_M {P : List Word → Prop} (hk : ∀ s t, P s → t ∈ kids s → P t) : ∀ (n : Nat) (s : List Word), longest s < n → P s → ∀ seen, (∀ t ∈ seen, P t) → ∀ t ∈ M seen s, P t
  | 0, _, h => absurd h (Nat.not_lt_zero _)
  | n + 1, s, h => fun ps seen hs => by
    by_cases c : s ∈ seen
    · rw [M_skip c]; exact hs
    · rw [M_new c]
      have go : ∀ (l : List (List Word)), (∀ t ∈ l, t ∈ kids s) → ∀ b : List (List Word), (∀ t ∈ b, P t) → ∀ t ∈ l.foldl M b, P t := by
        intro l
        induction l with
        | nil => intro _ b hb; exact hb
        | cons t l ih =>
          intro hl b hb
          have ht : longest t < n := by have := longest_kid (hl t List.mem_cons_self); omega
          exact ih (fun x hx => hl x (List.mem_cons_of_mem _ hx)) (M b t) (mem_M hk n t ht (hk s t ps (hl t List.mem_cons_self)) b hb)
      refine go (kids s) (fun _ h => h) (seen ++ [s]) fun t ht => ?_
      rcases List.mem_append.mp ht with q | q
      · exact hs t q
      · simp at q; subst q; exact ps
theorem states_all {P : List Word → Prop} {d : List Word} (h0 : P d) (hk : ∀ s t, P s → t ∈ kids s → P t) : ∀ t ∈ states d, P t := by
  by_cases e : d = []
  · subst e; intro t ht; cases ht
  · rw [states_M e]; exact mem_M hk _ d (Nat.lt_succ_self _) h0 [] (fun t ht => by cases ht)

/-! ### the place of a state -/
theorem place_cons (t : List Word) (l : List (List Word)) (s : List Word) : place (t :: l) s = if t = s then 0 else place l s + 1 := by
  unfold place
  rw [List.takeWhile_cons]
  by_cases e : t = s
  · subst e; simp
  · simp [e]
theorem place_at {s : List Word} : ∀ {l : List (List Word)}, s ∈ l → l[place l s]? = some s
  | t :: l, h => by
    rw [place_cons]
    by_cases e : t = s
    · rw [if_pos e]; subst e; rfl
    · rw [if_neg e]
      rcases List.mem_cons.mp h with q | q
      · exact absurd q.symm e
      · exact place_at q
theorem place_lt {s : List Word} {l : List (List Word)} (h : s ∈ l) : place l s < l.length := (List.getElem?_eq_some_iff.mp (place_at h)).1
theorem place_of {s : List Word} : ∀ {l : List (List Word)} {i : Nat}, l.Nodup → l[i]? = some s → place l s = i
  | t :: l, 0, _, h => by
    have : t = s := Option.some.inj h
    rw [place_cons, if_pos this]
  | t :: l, i + 1, nd, h => by
    rw [List.nodup_cons] at nd
    have h' : l[i]? = some s := h
    have : ¬ t = s := fun e => nd.1 (e ▸ List.mem_of_getElem? h')
    rw [place_cons, if_neg this, place_of nd.2 h']
end Ls
/-! LsAuto -/
namespace Ls
open Rh03

/-! ### the automaton's row and its sizes -/
def rowOf (l : List (List Word)) (s : List Word) : List Nat := (2 * (letters s).length + flag (s.contains [])) :: (letters s).flatMap fun a => [a, place l (rests s [a])]
theorem pack_auto (d : List Word) : pack (auto d) = (states d).flatMap (rowOf (states d)) := by
  unfold pack auto
  rw [List.flatMap_map]
  refine congrArg (fun f => List.flatMap f (states d)) (funext fun s => ?_)
  show (2 * ((letters s).map fun a => (a, place (states d) (rests s [a]))).length + flag (s.contains [])) :: ((letters s).map fun a => (a, place (states d) (rests s [a]))).flatMap (fun e => [e.1, e.2]) = _
  rw [List.length_map, List.flatMap_map]
  rfl
theorem total_sum (l : List Nat) : total l = l.sum := by
  unfold total
  induction l with
  | nil => rfl
  | cons a l ih => rw [List.foldr_cons, ih, List.sum_cons]
theorem links_auto (d : List Word) : total ((auto d).map fun n => n.edges.length) = ((states d).map fun s => (letters s).length).sum := by
  rw [total_sum]
  unfold auto
  rw [List.map_map]
  refine congrArg (fun f => (List.map f (states d)).sum) (funext fun s => ?_)
  show ((letters s).map _).length = _
  rw [List.length_map]
theorem auto_len (d : List Word) : (auto d).length = (states d).length := by unfold auto; rw [List.length_map]
theorem auto_at {d s : List Word} (h : s ∈ states d) : (auto d)[place (states d) s]? = some (node (states d) s) := by
  unfold auto
  rw [List.getElem?_map, place_at h]; rfl
theorem find_edge (l : List (List Word)) (s : List Word) (x : Nat) : ∀ as : List Nat, (as.map fun a => (a, place l (rests s [a]))).find? (fun e => e.1 == x) = if x ∈ as then some (x, place l (rests s [x])) else none
  | [] => rfl
  | a :: as => by
    rw [List.map_cons, List.find?_cons]
    by_cases e : a = x
    · subst e; simp
    · have b : (((a, place l (rests s [a])) : Nat × Nat).1 == x) = false := beq_eq_false_iff_ne.mpr e
      rw [b]
      show List.find? _ _ = _
      rw [find_edge l s x as]
      have : x ∈ a :: as ↔ x ∈ as := by
        rw [List.mem_cons]
        constructor
        · rintro (h | h)
          · exact absurd h.symm e
          · exact h
        · exact .inr
      simp only [this]
theorem next_auto {d s : List Word} (h : s ∈ states d) (x : Nat) : next (auto d) (place (states d) s) x = if x ∈ letters s then some (place (states d) (rests s [x])) else none := by
  unfold next
  rw [auto_at h]
  show (match ((letters s).map fun a => (a, place (states d) (rests s [a]))).find? (fun e => e.1 == x) with
    | none => none
    | some e => if e.2 < (auto d).length then some e.2 else none) = _
  rw [find_edge]
  by_cases c : x ∈ letters s
  · rw [if_pos c, if_pos c]
    show (if place (states d) (rests s [x]) < (auto d).length then some (place (states d) (rests s [x])) else none) = _
    rw [if_pos]
    rw [auto_len]
    exact place_lt (states_kid h (mem_kids.mpr ⟨x, c, rfl⟩))
  · rw [if_neg c, if_neg c]
theorem run_auto {d : List Word} : ∀ (p : Word) {s : List Word}, s ∈ states d → s ≠ [] → run (auto d) (place (states d) s) p = if rests s p = [] then none else some (place (states d) (rests s p))
  | [], s, h, hn => by
    show (if place (states d) s < (auto d).length then some (place (states d) s) else none) = _
    rw [rests_nil, if_neg hn, auto_len, if_pos (place_lt h)]
  | x :: p, s, h, hn => by
    show (next (auto d) (place (states d) s) x).bind (fun j => run (auto d) j p) = _
    rw [next_auto h]
    have e : rests s (x :: p) = rests (rests s [x]) p := rests_app s [x] p
    rw [e]
    by_cases c : x ∈ letters s
    · rw [if_pos c, Option.bind_some]
      exact run_auto p (states_kid h (mem_kids.mpr ⟨x, c, rfl⟩)) (rests_ne.mpr c)
    · rw [if_neg c]
      have q : rests s [x] = [] := Classical.byContradiction fun z => c (rests_ne.mp z)
      rw [q]
      have z : rests [] p = [] := rfl
      rw [z, if_pos rfl]; rfl
theorem place_self {d : List Word} (h : d ≠ []) : place (states d) d = 0 := by
  obtain ⟨more, e⟩ := states_head h
  rw [e, place_cons, if_pos rfl]
theorem run_dict (d : List Word) (p : Word) : run (auto d) 0 p = if rests d p = [] then none else some (place (states d) (rests d p)) := by
  by_cases h : d = []
  · subst h
    have z : rests [] p = [] := rfl
    rw [z, if_pos rfl]
    cases p with
    | nil => rfl
    | cons x p => rfl
  · have := run_auto p (states_self h) h
    rwa [place_self h] at this
theorem rests_in {d : List Word} : ∀ (p : Word) {s : List Word}, s ∈ states d → rests s p ≠ [] → rests s p ∈ states d
  | [], s, h, _ => by rw [rests_nil]; exact h
  | x :: p, s, h, hn => by
    have e : rests s (x :: p) = rests (rests s [x]) p := rests_app s [x] p
    rw [e] at hn ⊢
    have c : x ∈ letters s := rests_ne.mp fun z => by rw [z] at hn; exact hn rfl
    exact rests_in p (states_kid h (mem_kids.mpr ⟨x, c, rfl⟩)) hn
theorem ends_auto {d s : List Word} (h : s ∈ states d) : ends (auto d) (place (states d) s) = s.contains [] := by
  unfold ends
  rw [auto_at h]; rfl

/-! ### how many beginnings there are: a bound for the states and for what waits -/
def letterSum (s : List Word) : Nat := (s.map List.length).sum
def tree : Nat → List Word → Nat
  | 0, _ => 0
  | f + 1, s => 1 + ((kids s).map (tree f)).sum
theorem sum_congr {α : Type} {f g : α → Nat} : ∀ {l : List α}, (∀ x ∈ l, f x = g x) → (l.map f).sum = (l.map g).sum
  | [], _ => rfl
  | x :: l, h => by
    rw [List.map_cons, List.map_cons, List.sum_cons, List.sum_cons, h x List.mem_cons_self, sum_congr fun y hy => h y (List.mem_cons_of_mem _ hy)]
theorem tree_fuel : ∀ (f g : Nat) (s : List Word), longest s < f → longest s < g → tree f s = tree g s
  | 0, _, _, h, _ => absurd h (Nat.not_lt_zero _)
  | _ + 1, 0, _, _, h => absurd h (Nat.not_lt_zero _)
  | f + 1, g + 1, s, hf, hg => by
    show 1 + ((kids s).map (tree f)).sum = 1 + ((kids s).map (tree g)).sum
    rw [sum_congr fun t ht => tree_fuel f g t (by have := longest_kid ht; omega) (by have := longest_kid ht; omega)]
def T (s : List Word) : Nat := tree (longest s + 1) s
theorem T_eq (s : List Word) : T s = 1 + ((kids s).map T).sum := by
  show 1 + ((kids s).map (tree (longest s))).sum = _
  rw [sum_congr fun t ht => tree_fuel _ _ t (longest_kid ht) (Nat.lt_succ_self _)]
  rfl
/-- letters behind a first one: the sum over the words that begin with one of these letters -/
theorem letterSum_cons (w : Word) (s : List Word) : letterSum (w :: s) = w.length + letterSum s := rfl
theorem kid_sum : ∀ (s : List Word) (as : List Nat), as.Nodup → ((as.map fun a => letterSum (rests s [a])).sum + (as.map fun a => (rests s [a]).length).sum) ≤ letterSum s
  | [], as, _ => by
    have h1 : ∀ as : List Nat, (as.map fun a => letterSum (rests [] [a])).sum = 0 := by
      intro as; induction as with
      | nil => rfl
      | cons a as ih => rw [List.map_cons, List.sum_cons, ih]; rfl
    have h2 : ∀ as : List Nat, (as.map fun a => (rests [] [a]).length).sum = 0 := by
      intro as; induction as with
      | nil => rfl
      | cons a as ih => rw [List.map_cons, List.sum_cons, ih]; rfl
    rw [h1, h2]; exact Nat.zero_le _
  | w :: s, as, nd => by
    have ih := kid_sum s as nd
    cases w with
    | nil =>
      have e : ∀ a : Nat, rests ([] :: s) [a] = rests s [a] := fun a => rfl
      simp only [e]
      rw [letterSum_cons]; simp only [List.length_nil]; omega
    | cons b w =>
      have e : ∀ a : Nat, rests ((b :: w) :: s) [a] = if a = b then w :: rests s [a] else rests s [a] := by
        intro a
        unfold rests
        rw [List.filterMap_cons]
        have z : behind [a] (b :: w) = if a = b then some w else none := rfl
        rw [z]
        by_cases q : a = b
        · rw [if_pos q, if_pos q]
        · rw [if_neg q, if_neg q]
      have key : ∀ as : List Nat, as.Nodup → (as.map fun a => letterSum (rests ((b :: w) :: s) [a])).sum + (as.map fun a => (rests ((b :: w) :: s) [a]).length).sum ≤
          (as.map fun a => letterSum (rests s [a])).sum + (as.map fun a => (rests s [a]).length).sum + (if b ∈ as then w.length + 1 else 0) := by
        intro as
        induction as with
        | nil => intro _; exact Nat.zero_le _
        | cons a as iha =>
          intro nd
          rw [List.nodup_cons] at nd
          have iha := iha nd.2
          simp only [List.map_cons, List.sum_cons, e a]
          by_cases q : a = b
          · subst q
            rw [if_pos rfl, if_pos List.mem_cons_self]
            rw [if_neg nd.1] at iha
            rw [letterSum_cons, List.length_cons]
            omega
          · rw [if_neg q]
            have : b ∈ a :: as ↔ b ∈ as := by
              rw [List.mem_cons]
              exact ⟨fun h => h.elim (fun z => absurd z.symm q) id, .inr⟩
            simp only [this]
            omega
      have k := key as nd
      rw [letterSum_cons, List.length_cons]
      by_cases q : b ∈ as
      · rw [if_pos q] at k; omega
      · rw [if_neg q] at k; omega
theorem up_nodup {l : List Nat} (h : Up l) : l.Nodup := List.Pairwise.imp (fun h => Nat.ne_of_lt h) h
theorem sum_le {α : Type} {f g : α → Nat} : ∀ {l : List α}, (∀ x ∈ l, f x ≤ g x) → (l.map f).sum ≤ (l.map g).sum
  | [], _ => Nat.le_refl _
  | x :: l, h => by
    rw [List.map_cons, List.map_cons, List.sum_cons, List.sum_cons]
    have a := h x List.mem_cons_self
    have b := sum_le fun y hy => h y (List.mem_cons_of_mem x hy)
    omega
theorem sum_add {α : Type} (f g : α → Nat) : ∀ l : List α, (l.map fun x => f x + g x).sum = (l.map f).sum + (l.map g).sum
  | [] => rfl
  | x :: l => by
    rw [List.map_cons, List.map_cons, List.map_cons, List.sum_cons, List.sum_cons, List.sum_cons, sum_add f g l]
    omega
theorem T_le : ∀ (n : Nat) (s : List Word), longest s < n → T s ≤ 1 + letterSum s
  | 0, _, h => absurd h (Nat.not_lt_zero _)
  | n + 1, s, h => by
    rw [T_eq]
    unfold kids
    rw [List.map_map]
    have k := kid_sum s (letters s) (up_nodup (up_letters s))
    have b : ((letters s).map (T ∘ fun a => rests s [a])).sum ≤ ((letters s).map fun a => letterSum (rests s [a]) + (rests s [a]).length).sum := by
      refine sum_le fun a ha => ?_
      have h1 := T_le n (rests s [a]) (by have := longest_rests ha; omega)
      have h2 : 1 ≤ (rests s [a]).length := by
        have := rests_ne.mpr ha
        cases q : rests s [a] with
        | nil => exact absurd q this
        | cons x l => simp
      show T (rests s [a]) ≤ _
      omega
    rw [sum_add] at b
    omega
theorem T_bound (s : List Word) : T s ≤ 1 + letterSum s := T_le _ s (Nat.lt_succ_self _)
theorem T_pos (s : List Word) : 1 ≤ T s := by rw [T_eq]; omega
/-- words of at most 8 letters, at most 60 of them -/
theorem letterSum_le {s : List Word} {n m : Nat} (h1 : ∀ w ∈ s, w.length ≤ n) (h2 : s.length ≤ m) : letterSum s ≤ n * m := by
  have : ∀ s : List Word, (∀ w ∈ s, w.length ≤ n) → letterSum s ≤ n * s.length := by
    intro s
    induction s with
    | nil => intro _; exact Nat.zero_le _
    | cons w s ih =>
      intro h
      rw [letterSum_cons, List.length_cons, Nat.mul_succ]
      have := h w List.mem_cons_self
      have := ih fun v hv => h v (List.mem_cons_of_mem _ hv)
      omega
  exact Nat.le_trans (this s h1) (Nat.mul_le_mul_left n h2)
/-- the states are no more than the beginnings -/
theorem len_M : ∀ (n : Nat) (s : List Word), longest s < n → ∀ seen, (M seen s).length ≤ seen.length + T s
  | 0, _, h => absurd h (Nat.not_lt_zero _)
  | n + 1, s, h => fun seen => by
    by_cases c : s ∈ seen
    · rw [M_skip c]; omega
    · rw [M_new c, T_eq]
      have go : ∀ (l : List (List Word)), (∀ t ∈ l, t ∈ kids s) → ∀ b : List (List Word), (l.foldl M b).length ≤ b.length + (l.map T).sum := by
        intro l
        induction l with
        | nil => intro _ b; exact Nat.le_refl _
        | cons t l ih =>
          intro hl b
          have ht : longest t < n := by have := longest_kid (hl t List.mem_cons_self); omega
          have a := ih (fun x hx => hl x (List.mem_cons_of_mem _ hx)) (M b t)
          have b' := len_M n t ht b
          rw [List.foldl_cons, List.map_cons, List.sum_cons]
          omega
      have := go (kids s) (fun _ h => h) (seen ++ [s])
      rw [List.length_append, List.length_singleton] at this
      omega
theorem states_len (d : List Word) : (states d).length ≤ T d := by
  by_cases e : d = []
  · subst e; exact Nat.zero_le _
  · rw [states_M e]
    have := len_M _ d (Nat.lt_succ_self _) []
    simpa using this
end Ls
/-! LsGood -/
namespace Ls
open Rh03
/-- what a letter and a word may be -/
def Fine (w : Word) : Prop := w.length ≤ 8 ∧ ∀ a ∈ w, 1 ≤ a ∧ a ≤ 26
structure Good (d : List Word) : Prop where
  srt : Srt d
  len : d.length ≤ 60
  fine : ∀ w ∈ d, Fine w
  ne : ∀ w ∈ d, w ≠ []
theorem Good.nil : Good [] := ⟨Srt.nil, Nat.zero_le _, fun _ h => (nomatch h), fun _ h => (nomatch h)⟩
theorem fine_of {u : Word} (h : isWord u = true) : Fine u := by
  unfold isWord at h
  simp only [Bool.and_eq_true, decide_eq_true_eq, List.all_eq_true] at h
  exact ⟨h.2.1, fun a ha => h.2.2 a ha⟩
theorem ne_of_word {u : Word} (h : isWord u = true) : u ≠ [] := by
  rintro rfl
  unfold isWord at h
  simp at h
/-! ### the four dictionaries -/
theorem get_keep (s : St) (d e : Nat) (l : List Word) : Rh03.get (Rh03.keep s d l) e = if e = d then l else Rh03.get s e := by
  unfold Rh03.get Rh03.keep
  rw [List.find?_cons]
  by_cases h : e = d
  · subst h; simp
  · have b : (d == e) = false := beq_eq_false_iff_ne.mpr fun q => h q.symm
    show (Option.map _ (match (d == e) with | true => _ | false => _)).getD [] = _
    rw [b, if_neg h]
    have : (s.filter fun x => x.1 != d).find? (fun x => x.1 == e) = s.find? fun x => x.1 == e := by
      clear b
      induction s with
      | nil => rfl
      | cons x s ih =>
        rw [List.filter_cons]
        by_cases q : x.1 = d
        · have c1 : (x.1 != d) = false := by simp [q]
          have c2 : (x.1 == e) = false := beq_eq_false_iff_ne.mpr fun z => h (by rw [← z, q])
          rw [c1, List.find?_cons, c2]
          exact ih
        · have c1 : (x.1 != d) = true := by simpa using q
          rw [c1]
          show List.find? _ (x :: _) = _
          rw [List.find?_cons, List.find?_cons, ih]
    rw [this]
def GoodSt (s : St) : Prop := ∀ d, Good (Rh03.get s d)
theorem good_init : GoodSt init := fun _ => Good.nil
theorem GoodSt.keep {s : St} (h : GoodSt s) {d : Nat} {l : List Word} (g : Good l) : GoodSt (Rh03.keep s d l) := fun e => by
  rw [get_keep]
  by_cases q : e = d
  · rw [if_pos q]; exact g
  · rw [if_neg q]; exact h e
/-! ### spelled words, and how many -/
theorem layer_len (a : Auto) : ∀ f, (layer a f).length = a.length
  | 0 => by show (a.map _).length = _; rw [List.length_map]
  | f + 1 => by show (a.map _).length = _; rw [List.length_map]
theorem layer_zero (a : Auto) (i : Nat) : (layer a 0).getD i 0 = 0 := by
  show (a.map fun _ => 0).getD i 0 = 0
  rw [List.getD_eq_getElem?_getD, List.getElem?_map]
  cases a[i]? <;> rfl
theorem layer_succ (a : Auto) (f i : Nat) : (layer a (f + 1)).getD i 0 = match a[i]? with
    | none => 0
    | some n => flag n.ends + total (n.edges.map fun e => (layer a f).getD e.2 0) := by
  show (a.map fun n => flag n.ends + total (n.edges.map fun e => (layer a f).getD e.2 0)).getD i 0 = _
  rw [List.getD_eq_getElem?_getD, List.getElem?_map]
  cases a[i]? <;> rfl
theorem flat_sum {α β : Type} (f : α → List β) : ∀ l : List α, (l.flatMap f).length = (l.map fun x => (f x).length).sum
  | [] => rfl
  | x :: l => by rw [List.flatMap_cons, List.length_append, flat_sum f l, List.map_cons, List.sum_cons]
theorem spell_len (a : Auto) : ∀ f i, (spell a f i).length = (layer a f).getD i 0
  | 0, i => by rw [layer_zero]; rfl
  | f + 1, i => by
    show (if (layer a (f + 1)).getD i 0 = 0 then [] else match a[i]? with
      | none => []
      | some n => (if n.ends = true then [[]] else []) ++ n.edges.flatMap fun (e : Nat × Nat) => (spell a f e.2).map fun w => e.1 :: w).length = _
    by_cases h : (layer a (f + 1)).getD i 0 = 0
    · rw [if_pos h, h]; rfl
    · rw [if_neg h, layer_succ]
      cases q : a[i]? with
      | none => rfl
      | some n =>
        show ((if n.ends = true then [[]] else []) ++ n.edges.flatMap fun (e : Nat × Nat) => (spell a f e.2).map fun w => e.1 :: w).length = flag n.ends + total (n.edges.map fun e => (layer a f).getD e.2 0)
        rw [List.length_append, flat_sum, total_sum]
        have e1 : (if n.ends = true then ([[]] : List Word) else []).length = flag n.ends := by
          unfold flag
          cases n.ends <;> rfl
        rw [e1]
        refine congrArg (flag n.ends + ·) (sum_congr fun e _ => ?_)
        rw [List.length_map, spell_len a f e.2]
/-- which words are spelled: those by which one goes to a state where a word may end -/
def goes (a : Auto) : Nat → Word → Prop
  | i, [] => ∃ n, a[i]? = some n ∧ n.ends = true
  | i, x :: w => ∃ n e, a[i]? = some n ∧ e ∈ n.edges ∧ e.1 = x ∧ goes a e.2 w
theorem mem_spell (a : Auto) : ∀ f i w, w ∈ spell a f i ↔ w.length < f ∧ goes a i w
  | 0, i, w => by
    constructor
    · intro h; cases h
    · intro h; exact absurd h.1 (Nat.not_lt_zero _)
  | f + 1, i, w => by
    have main : w ∈ (match a[i]? with
      | none => []
      | some n => (if n.ends = true then [[]] else []) ++ n.edges.flatMap fun (e : Nat × Nat) => (spell a f e.2).map fun w => e.1 :: w) ↔ w.length < f + 1 ∧ goes a i w := by
      cases q : a[i]? with
      | none =>
        constructor
        · intro h; cases h
        · rintro ⟨_, h⟩
          cases w with
          | nil => obtain ⟨n, h1, _⟩ := h; rw [q] at h1; cases h1
          | cons x w => obtain ⟨n, e, h1, _⟩ := h; rw [q] at h1; cases h1
      | some n =>
        show w ∈ (if n.ends = true then [[]] else []) ++ n.edges.flatMap (fun (e : Nat × Nat) => (spell a f e.2).map fun w => e.1 :: w) ↔ _
        rw [List.mem_append, List.mem_flatMap]
        constructor
        · rintro (h | ⟨e, he, h⟩)
          · by_cases c : n.ends = true
            · rw [if_pos c] at h
              have : w = [] := by simpa using h
              subst this
              exact ⟨Nat.succ_pos _, n, q, c⟩
            · rw [if_neg c] at h; cases h
          · obtain ⟨v, hv, rfl⟩ := List.mem_map.mp h
            obtain ⟨h1, h2⟩ := (mem_spell a f e.2 v).mp hv
            exact ⟨Nat.succ_lt_succ h1, n, e, q, he, rfl, h2⟩
        · rintro ⟨hl, h⟩
          cases w with
          | nil =>
            obtain ⟨m, h1, h2⟩ := h
            rw [q] at h1
            cases h1
            exact .inl (by rw [if_pos h2]; exact List.mem_cons_self)
          | cons x v =>
            obtain ⟨m, e, h1, h2, h3, h4⟩ := h
            rw [q] at h1
            cases h1
            refine .inr ⟨e, h2, List.mem_map.mpr ⟨v, (mem_spell a f e.2 v).mpr ⟨Nat.lt_of_succ_lt_succ hl, h4⟩, by rw [h3]⟩⟩
    show w ∈ (if (layer a (f + 1)).getD i 0 = 0 then [] else _) ↔ _
    by_cases h : (layer a (f + 1)).getD i 0 = 0
    · rw [if_pos h]
      constructor
      · intro z; cases z
      · intro z
        have z2 := main.mpr z
        have hl := spell_len a (f + 1) i
        rw [h] at hl
        rw [layer_succ] at h
        exfalso
        -- nothing is spelled where the layer counts none
        revert z2
        cases q : a[i]? with
        | none => intro z2; cases z2
        | some n =>
          rw [q] at h
          intro z2
          have h : flag n.ends + total (n.edges.map fun e => (layer a f).getD e.2 0) = 0 := h
          have l1 : ((if n.ends = true then ([[]] : List Word) else []) ++ n.edges.flatMap fun (e : Nat × Nat) => (spell a f e.2).map fun w => e.1 :: w).length = 0 := by
            rw [List.length_append, flat_sum]
            have e1 : (if n.ends = true then ([[]] : List Word) else []).length = flag n.ends := by
              unfold flag
              cases n.ends <;> rfl
            rw [e1, ← h, total_sum]
            refine congrArg (flag n.ends + ·) (sum_congr fun e _ => ?_)
            rw [List.length_map, spell_len a f e.2]
          rw [List.length_eq_zero_iff] at l1
          have z3 : w ∈ ((if n.ends = true then ([[]] : List Word) else []) ++ n.edges.flatMap fun (e : Nat × Nat) => (spell a f e.2).map fun w => e.1 :: w) := z2
          rw [l1] at z3
          cases z3
    · rw [if_neg h]; exact main
theorem put_le (w : Word) : ∀ d : List Word, (put w d).length ≤ d.length + 1
  | [] => Nat.le_refl _
  | v :: d => by
    rw [put_cons]
    by_cases e : w = v
    · rw [if_pos e]; simp
    · rw [if_neg e]
      by_cases b : before w v = true
      · rw [if_pos b]; simp
      · rw [if_neg b, List.length_cons, List.length_cons]
        have := put_le w d
        omega
theorem puts_le : ∀ ws d : List Word, (ws.foldl (fun l w => put w l) d).length ≤ d.length + ws.length
  | [], _ => Nat.le_refl _
  | w :: ws, d => by
    have h1 := puts_le ws (put w d)
    have h2 := put_le w d
    rw [List.foldl_cons, List.length_cons]
    omega
/-- what unpack takes is a dictionary -/
theorem unpack_good {r : List Nat} {l : List Word} (h : unpack r = .inr l) : Good l := by
  unfold unpack at h
  cases q : nodes r.length r with
  | none => rw [q] at h; cases h
  | some a =>
    rw [q] at h
    have h : (if 60 < (layer a 9).getD 0 0 then Sum.inl (-5) else
      if ((spell a 9 0).foldl (fun l w => put w l) []).all isWord = true ∧ pack (auto ((spell a 9 0).foldl (fun l w => put w l) [])) = r then Sum.inr ((spell a 9 0).foldl (fun l w => put w l) []) else Sum.inl (-7)) = Sum.inr l := h
    by_cases c : 60 < (layer a 9).getD 0 0
    · rw [if_pos c] at h; cases h
    · rw [if_neg c] at h
      by_cases c2 : ((spell a 9 0).foldl (fun l w => put w l) []).all isWord = true ∧ pack (auto ((spell a 9 0).foldl (fun l w => put w l) [])) = r
      · rw [if_pos c2] at h
        have h := Sum.inr.inj h
        have hw := c2.1
        rw [h, List.all_eq_true] at hw
        refine ⟨?_, ?_, fun w hm => fine_of (hw w hm), fun w hm => ne_of_word (hw w hm)⟩
        · rw [← h]; exact srt_puts Srt.nil
        · rw [← h]
          have h1 := puts_le (spell a 9 0) []
          rw [spell_len] at h1
          simp only [List.length_nil] at h1
          omega
      · rw [if_neg c2] at h; cases h
theorem joined_srt {k : Nat} {a b : List Word} (ha : Srt a) (hb : Srt b) : Srt (joined k a b) := by
  match k with
  | 0 => exact srt_puts ha
  | 1 => exact ha.filter _
  | 2 => exact ha.filter _
  | _ + 3 => exact srt_puts (ha.filter _)
theorem joined_mem {k : Nat} {a b : List Word} {w : Word} : w ∈ joined k a b ↔ (match k with
    | 0 => w ∈ a ∨ w ∈ b
    | 1 => w ∈ a ∧ w ∈ b
    | 2 => w ∈ a ∧ w ∉ b
    | _ => (w ∈ a ∧ w ∉ b) ∨ (w ∈ b ∧ w ∉ a)) := by
  match k with
  | 0 =>
    show w ∈ b.foldl (fun l w => put w l) a ↔ w ∈ a ∨ w ∈ b
    rw [mem_puts]; exact Or.comm
  | 1 =>
    show w ∈ a.filter (fun w => b.contains w) ↔ w ∈ a ∧ w ∈ b
    rw [List.mem_filter, List.contains_iff_mem]
  | 2 =>
    show w ∈ a.filter (fun w => !b.contains w) ↔ w ∈ a ∧ w ∉ b
    rw [List.mem_filter]
    simp
  | _ + 3 =>
    show w ∈ (b.filter fun w => !a.contains w).foldl (fun l w => put w l) (a.filter fun w => !b.contains w) ↔ (w ∈ a ∧ w ∉ b) ∨ (w ∈ b ∧ w ∉ a)
    rw [mem_puts, List.mem_filter, List.mem_filter]
    simp
    exact Or.comm
theorem joined_sub {k : Nat} {a b : List Word} {w : Word} (h : w ∈ joined k a b) : w ∈ a ∨ w ∈ b := by
  rw [joined_mem] at h
  match k, h with
  | 0, h => exact h
  | 1, h => exact .inl h.1
  | 2, h => exact .inl h.1
  | _ + 3, .inl h => exact .inl h.1
  | _ + 3, .inr h => exact .inr h.1
/-- the dictionaries stay dictionaries -/
theorem step_good {s : St} (h : GoodSt s) (c : Call) : GoodSt (step s c).1 := by
  cases c with
  | add d w =>
    show GoodSt (if isDict d = false ∨ isWord w = false then (s, [-1]) else
      if (Rh03.get s d).contains w = true then (s, [-4]) else if 60 ≤ (Rh03.get s d).length then (s, [-5]) else (Rh03.keep s d (put w (Rh03.get s d)), Rh03.«ints» [(put w (Rh03.get s d)).length])).1
    by_cases c1 : isDict d = false ∨ isWord w = false
    · rw [if_pos c1]; exact h
    · rw [if_neg c1]
      by_cases c2 : (Rh03.get s d).contains w = true
      · rw [if_pos c2]; exact h
      · rw [if_neg c2]
        by_cases c3 : 60 ≤ (Rh03.get s d).length
        · rw [if_pos c3]; exact h
        · rw [if_neg c3]
          have hw : isWord w = true := by
            cases q : isWord w with
            | true => rfl
            | false => exact absurd (.inr q) c1
          refine h.keep ⟨(h d).srt.put, ?_, fun x hx => ?_, fun x hx => ?_⟩
          · have := put_le w (Rh03.get s d); omega
          · rcases mem_put.mp hx with e | hx
            · rw [e]; exact fine_of hw
            · exact (h d).fine x hx
          · rcases mem_put.mp hx with e | hx
            · rw [e]; exact ne_of_word hw
            · exact (h d).ne x hx
  | out d w =>
    show GoodSt (if isDict d = false then (s, [-1]) else if (Rh03.get s d).contains w = false then (s, [-3]) else
      (Rh03.keep s d ((Rh03.get s d).filter fun v => v != w), Rh03.«ints» [((Rh03.get s d).filter fun v => v != w).length])).1
    by_cases c1 : isDict d = false
    · rw [if_pos c1]; exact h
    · rw [if_neg c1]
      by_cases c2 : (Rh03.get s d).contains w = false
      · rw [if_pos c2]; exact h
      · rw [if_neg c2]
        refine h.keep ⟨(h d).srt.filter _, Nat.le_trans (List.length_filter_le _ _) (h d).len, fun x hx => (h d).fine x (List.mem_filter.mp hx).1, fun x hx => (h d).ne x (List.mem_filter.mp hx).1⟩
  | number d w => exact h
  | word d n => exact h
  | begins d p => exact h
  | size d => exact h
  | pack d => exact h
  | unpack d r =>
    show GoodSt (if isDict d = false ∨ 2000 < r.length then (s, [-1]) else (match Rh03.unpack r with
      | .inl e => (s, [e])
      | .inr l => (Rh03.keep s d l, Rh03.«ints» [l.length]))).1
    by_cases c1 : isDict d = false ∨ 2000 < r.length
    · rw [if_pos c1]; exact h
    · rw [if_neg c1]
      cases q : Rh03.unpack r with
      | inl e => exact h
      | inr l => exact h.keep (unpack_good q)
  | state d p => exact h
  | after d p => exact h
  | join k a b c =>
    show GoodSt (if 3 < k ∨ isDict a = false ∨ isDict b = false ∨ isDict c = false then (s, [-1]) else
      if 60 < (joined k (Rh03.get s a) (Rh03.get s b)).length then (s, [-5]) else (Rh03.keep s c (joined k (Rh03.get s a) (Rh03.get s b)), Rh03.«ints» [(joined k (Rh03.get s a) (Rh03.get s b)).length])).1
    by_cases c1 : 3 < k ∨ isDict a = false ∨ isDict b = false ∨ isDict c = false
    · rw [if_pos c1]; exact h
    · rw [if_neg c1]
      by_cases c2 : 60 < (joined k (Rh03.get s a) (Rh03.get s b)).length
      · rw [if_pos c2]; exact h
      · rw [if_neg c2]
        refine h.keep ⟨joined_srt (h a).srt (h b).srt, by omega, fun x hx => ?_, fun x hx => ?_⟩
        · rcases joined_sub hx with q | q
          · exact (h a).fine x q
          · exact (h b).fine x q
        · rcases joined_sub hx with q | q
          · exact (h a).ne x q
          · exact (h b).ne x q
  | fits d n k p => exact h
  | ways d t => exact h
  | head d t => exact h
end Ls
/-! LsFlat -/
namespace Ls
/-! ### the flat list of calls -/
theorem shape_cases {p : Int} {n k : Nat} (h : PyRh03.shape p = some (n, k)) : (p = 0 ∧ n = 1 ∧ k = 1) ∨ (p = 1 ∧ n = 1 ∧ k = 1) ∨ (p = 2 ∧ n = 1 ∧ k = 1) ∨ (p = 3 ∧ n = 2 ∧ k = 0) ∨ (p = 4 ∧ n = 1 ∧ k = 1) ∨ (p = 5 ∧ n = 1 ∧ k = 0) ∨ (p = 6 ∧ n = 1 ∧ k = 0) ∨ (p = 7 ∧ n = 1 ∧ k = 1) ∨ (p = 8 ∧ n = 1 ∧ k = 1) ∨ (p = 9 ∧ n = 1 ∧ k = 1) ∨ (p = 10 ∧ n = 4 ∧ k = 0) ∨ (p = 11 ∧ n = 3 ∧ k = 1) ∨ (p = 12 ∧ n = 1 ∧ k = 1) ∨ (p = 13 ∧ n = 1 ∧ k = 1) := by
  unfold PyRh03.shape at h
  by_cases h0 : p = 0
  · rw [if_pos h0] at h; cases h; exact .inl (⟨h0, rfl, rfl⟩)
  rw [if_neg h0] at h
  by_cases h1 : p = 1
  · rw [if_pos h1] at h; cases h; exact .inr (.inl (⟨h1, rfl, rfl⟩))
  rw [if_neg h1] at h
  by_cases h2 : p = 2
  · rw [if_pos h2] at h; cases h; exact .inr (.inr (.inl (⟨h2, rfl, rfl⟩)))
  rw [if_neg h2] at h
  by_cases h3 : p = 3
  · rw [if_pos h3] at h; cases h; exact .inr (.inr (.inr (.inl (⟨h3, rfl, rfl⟩))))
  rw [if_neg h3] at h
  by_cases h4 : p = 4
  · rw [if_pos h4] at h; cases h; exact .inr (.inr (.inr (.inr (.inl (⟨h4, rfl, rfl⟩)))))
  rw [if_neg h4] at h
  by_cases h5 : p = 5
  · rw [if_pos h5] at h; cases h; exact .inr (.inr (.inr (.inr (.inr (.inl (⟨h5, rfl, rfl⟩))))))
  rw [if_neg h5] at h
  by_cases h6 : p = 6
  · rw [if_pos h6] at h; cases h; exact .inr (.inr (.inr (.inr (.inr (.inr (.inl (⟨h6, rfl, rfl⟩)))))))
  rw [if_neg h6] at h
  by_cases h7 : p = 7
  · rw [if_pos h7] at h; cases h; exact .inr (.inr (.inr (.inr (.inr (.inr (.inr (.inl (⟨h7, rfl, rfl⟩))))))))
  rw [if_neg h7] at h
  by_cases h8 : p = 8
  · rw [if_pos h8] at h; cases h; exact .inr (.inr (.inr (.inr (.inr (.inr (.inr (.inr (.inl (⟨h8, rfl, rfl⟩)))))))))
  rw [if_neg h8] at h
  by_cases h9 : p = 9
  · rw [if_pos h9] at h; cases h; exact .inr (.inr (.inr (.inr (.inr (.inr (.inr (.inr (.inr (.inl (⟨h9, rfl, rfl⟩))))))))))
  rw [if_neg h9] at h
  by_cases h10 : p = 10
  · rw [if_pos h10] at h; cases h; exact .inr (.inr (.inr (.inr (.inr (.inr (.inr (.inr (.inr (.inr (.inl (⟨h10, rfl, rfl⟩)))))))))))
  rw [if_neg h10] at h
  by_cases h11 : p = 11
  · rw [if_pos h11] at h; cases h; exact .inr (.inr (.inr (.inr (.inr (.inr (.inr (.inr (.inr (.inr (.inr (.inl (⟨h11, rfl, rfl⟩))))))))))))
  rw [if_neg h11] at h
  by_cases h12 : p = 12
  · rw [if_pos h12] at h; cases h; exact .inr (.inr (.inr (.inr (.inr (.inr (.inr (.inr (.inr (.inr (.inr (.inr (.inl (⟨h12, rfl, rfl⟩)))))))))))))
  rw [if_neg h12] at h
  by_cases h13 : p = 13
  · rw [if_pos h13] at h; cases h; exact .inr (.inr (.inr (.inr (.inr (.inr (.inr (.inr (.inr (.inr (.inr (.inr (.inr (⟨h13, rfl, rfl⟩)))))))))))))
  rw [if_neg h13] at h
  cases h
theorem shape_one {p : Int} {n k : Nat} (h : PyRh03.shape p = some (n, k)) : k = 0 ∨ k = 1 := by
  rcases shape_cases h with h | h | h | h | h | h | h | h | h | h | h | h | h | h <;> omega
theorem take_drop_len {r : List Int} {n : Nat} (h : ¬ r.length < n) : (r.take n).length = n := by
  rw [List.length_take]; omega
/-- one call is taken off: its numbers, then, if it has one, its row with its length ahead -/
theorem call_inv {l : List Int} {c : List (List Int)} {t : List Int} (h : PyFlat.call PyRh03.shape l = some (c, t)) :
    ∃ p xs, (PyRh03.shape p = some (xs.length, 0) ∧ c = [p :: xs] ∧ l = p :: (xs ++ t)) ∨
      ∃ row, PyRh03.shape p = some (xs.length, 1) ∧ c = [p :: xs, row] ∧ l = p :: (xs ++ ((row.length : Nat) : Int) :: (row ++ t)) := by
  cases l with
  | nil => cases h
  | cons p r =>
    have h : (match PyRh03.shape p with
      | none => none
      | some (n, k) => if r.length < n then none else match PyFlat.rows k (r.drop n) with
        | none => none
        | some (xs, t) => some ((p :: r.take n) :: xs, t)) = some (c, t) := h
    cases hs : PyRh03.shape p with
    | none => rw [hs] at h; cases h
    | some nk =>
      obtain ⟨n, k⟩ := nk
      rw [hs] at h
      have h : (if r.length < n then none else match PyFlat.rows k (r.drop n) with
        | none => none
        | some (xs, t) => some ((p :: r.take n) :: xs, t)) = some (c, t) := h
      by_cases hl : r.length < n
      · rw [if_pos hl] at h; cases h
      · rw [if_neg hl] at h
        have hn := take_drop_len hl
        rcases shape_one hs with rfl | rfl
        · have h : some ((p :: r.take n) :: [], r.drop n) = some (c, t) := h
          cases h
          exact ⟨p, r.take n, .inl ⟨by rw [hn]; exact hs, rfl, by rw [List.take_append_drop]⟩⟩
        · have h : (match (match PyFlat.row (r.drop n) with
            | none => none
            | some (x, s) => match PyFlat.rows 0 s with
              | none => none
              | some (xs, t) => some (x :: xs, t)) with
            | none => none
            | some (xs, t) => some ((p :: r.take n) :: xs, t)) = some (c, t) := h
          cases hr : PyFlat.row (r.drop n) with
          | none => rw [hr] at h; cases h
          | some xs =>
            obtain ⟨x, s⟩ := xs
            rw [hr] at h
            have h : some ((p :: r.take n) :: [x], s) = some (c, t) := h
            cases h
            cases hd : r.drop n with
            | nil => rw [hd] at hr; cases hr
            | cons m q =>
              rw [hd] at hr
              have hr : (if 0 ≤ m ∧ m.toNat ≤ q.length then some (q.take m.toNat, q.drop m.toNat) else none) = some (x, t) := hr
              by_cases hc : 0 ≤ m ∧ m.toNat ≤ q.length
              · rw [if_pos hc] at hr
                cases hr
                refine ⟨p, r.take n, .inr ⟨q.take m.toNat, by rw [hn]; exact hs, rfl, ?_⟩⟩
                have e1 : (q.take m.toNat).length = m.toNat := by rw [List.length_take]; omega
                have e2 : ((m.toNat : Nat) : Int) = m := by omega
                rw [e1, e2, List.take_append_drop, ← hd, List.take_append_drop]
              · rw [if_neg hc] at hr; cases hr
theorem calls_inv {f : Nat} {p : Int} {r : List Int} {cs : List (List (List Int))} (h : PyFlat.calls PyRh03.shape f (p :: r) = some cs) :
    ∃ c t cs' f', PyFlat.call PyRh03.shape (p :: r) = some (c, t) ∧ cs = c :: cs' ∧ PyFlat.calls PyRh03.shape f' t = some cs' := by
  cases f with
  | zero => cases h
  | succ f =>
    have h : (match PyFlat.call PyRh03.shape (p :: r) with
      | none => none
      | some (c, t) => match PyFlat.calls PyRh03.shape f t with
        | none => none
        | some cs => some (c :: cs)) = some cs := h
    cases hc : PyFlat.call PyRh03.shape (p :: r) with
    | none => rw [hc] at h; cases h
    | some ct =>
      obtain ⟨c, t⟩ := ct
      rw [hc] at h
      have h : (match PyFlat.calls PyRh03.shape f t with
        | none => none
        | some cs => some (c :: cs)) = some cs := h
      cases hq : PyFlat.calls PyRh03.shape f t with
      | none => rw [hq] at h; cases h
      | some cs' =>
        rw [hq] at h
        cases h
        exact ⟨c, t, cs', f, rfl, rfl, hq⟩
theorem calls_nil {f : Nat} {cs : List (List (List Int))} (h : PyFlat.calls PyRh03.shape f [] = some cs) : cs = [] := by
  cases f <;> cases h <;> rfl
theorem told_cons (a : List Int) (l : List (List Int)) : PyFlat.told (a :: l) = ((a.length : Nat) : Int) :: a ++ PyFlat.told l := by
  unfold PyFlat.told
  rw [List.flatMap_cons]
/-- one call at a state: what is due -/
def due (s : Rh03.St) (c : List (List Int)) : Rh03.St × List Int := Rh03Neutral.step s ((PyRh03.whole c).headD [])
/-- what is due of the raw calls, from a state -/
def dueAll : Rh03.St → List (List (List Int)) → List (List Int)
  | _, [] => []
  | s, c :: cs => (due s c).2 :: dueAll (due s c).1 cs
theorem due_played : ∀ (cs : List (List (List Int))) (s : Rh03.St), PyFlat.played (fun s c => Rh03Neutral.step s (c.headD [])) s (cs.map PyRh03.whole) = dueAll s cs
  | [], _ => rfl
  | c :: cs, s => by
    show (due s c).2 :: PyFlat.played (fun s c => Rh03Neutral.step s (c.headD [])) (due s c).1 (cs.map PyRh03.whole) = _
    rw [due_played cs]
    rfl
theorem answers_due {ns : List Int} {cs : List (List (List Int))} (h : PyFlat.calls PyRh03.shape ns.length ns = some cs) : PyRh03.answers ns = PyFlat.told (dueAll Rh03.init cs) := by
  unfold PyRh03.answers PyRh03.calls
  rw [h]
  show PyFlat.told (PyFlat.played (fun s c => Rh03Neutral.step s (c.headD [])) Rh03Neutral.start (cs.map PyRh03.whole)) = _
  rw [due_played]
  rfl
/-- what is asked of the calls -/
structure Asked (ns : List Int) (cs : List (List (List Int))) : Prop where
  parse : PyFlat.calls PyRh03.shape ns.length ns = some cs
  few : cs.length ≤ 40
  ins : ∀ c ∈ cs, PyInside.call PyRh03.bound c = true
  short : (PyRh03.answers ns).length ≤ 10000000
theorem asked_of {ns : List Int} (h : PyRh03.answers_asked ns = true) : ∃ cs, Asked ns cs := by
  unfold PyRh03.answers_asked at h
  cases q : PyFlat.calls PyRh03.shape ns.length ns with
  | none => rw [q] at h; cases h
  | some cs =>
    rw [q] at h
    have h : (!cs.isEmpty && PyFlat.atMost 40 cs && PyInside.calls PyRh03.bound cs && Rh03Neutral.asked ((cs.map PyRh03.whole).map fun c => c.headD []) && PyFlat.short 10000000 (PyRh03.answers ns)) = true := h
    simp only [Bool.and_eq_true] at h
    obtain ⟨⟨⟨⟨_, h2⟩, h3⟩, _⟩, h5⟩ := h
    refine ⟨cs, q, of_decide_eq_true h2, ?_, of_decide_eq_true h5⟩
    exact List.all_eq_true.mp h3
theorem within_iff {z : Int} : PyInside.within 0 4294967295 z = true ↔ 0 ≤ z ∧ z ≤ 4294967295 := by
  unfold PyInside.within
  rw [Bool.and_eq_true, decide_eq_true_eq, decide_eq_true_eq]
theorem nat_of {z : Int} (h : 0 ≤ z ∧ z ≤ 4294967295) : Rh03Neutral.nat z = true := by
  unfold Rh03Neutral.nat
  rw [Bool.and_eq_true, decide_eq_true_eq, decide_eq_true_eq]
  omega
theorem callOf_nats {l : List Nat} (h : ∀ n ∈ l, n ≤ 4294967295) : Rh03Neutral.callOf (l.map fun n => ((n : Nat) : Int)) = Rh03Neutral.callIn l := by
  unfold Rh03Neutral.callOf
  have e1 : (l.map fun n => ((n : Nat) : Int)).all Rh03Neutral.nat = true := by
    rw [List.all_eq_true]
    intro x hx
    obtain ⟨n, hn, rfl⟩ := List.mem_map.mp hx
    have := h n hn
    exact nat_of ⟨by omega, by omega⟩
  have e2 : (l.map fun n => ((n : Nat) : Int)).map Int.toNat = l := by
    rw [List.map_map]
    have : (Int.toNat ∘ fun n : Nat => (n : Int)) = id := by funext n; simp
    rw [this, List.map_id]
  rw [if_neg (by rw [e1]; decide), e2]
/-- every number of the list is a natural one, as the document lets be handed in -/
theorem nats_of : ∀ {l : List Int}, (∀ z ∈ l, 0 ≤ z ∧ z ≤ 4294967295) → ∃ m : List Nat, l = (m.map fun n => ((n : Nat) : Int)) ∧ ∀ n ∈ m, n ≤ 4294967295
  | [], _ => ⟨[], rfl, fun _ h => (nomatch h)⟩
  | z :: l, h => by
    obtain ⟨m, e, hm⟩ := nats_of fun y hy => h y (List.mem_cons_of_mem _ hy)
    have hz := h z List.mem_cons_self
    refine ⟨z.toNat :: m, ?_, fun n hn => ?_⟩
    · rw [List.map_cons, ← e]
      have : ((z.toNat : Nat) : Int) = z := by omega
      rw [this]
    · rcases List.mem_cons.mp hn with rfl | hn
      · omega
      · exact hm n hn
end Ls
/-! LsDue -/
namespace Ls
/-! ### each call, from its numbers -/
abbrev Mx : Int := 4294967295
abbrev iwN (u : List Nat) : List Int := u.map fun n => ((n : Nat) : Int)
theorem each_cons {lo hi x : Int} {b : List (Int × Int)} {xs : List Int} : PyInside.each ((lo, hi) :: b) (x :: xs) = (PyInside.within lo hi x && PyInside.each b xs) := rfl
theorem lists_cons {lo hi : Int} {a m : Nat} {b : List (Int × Int × Nat × Nat)} {r : List Int} {rs : List (List Int)} : PyInside.lists ((lo, hi, a, m) :: b) (r :: rs) = (decide (a ≤ r.length) && decide (r.length ≤ m) && r.all (PyInside.within lo hi) && PyInside.lists b rs) := rfl
theorem nat1 {x : Int} (h : PyInside.within 0 Mx x = true) : ∃ d : Nat, x = ((d : Nat) : Int) ∧ d ≤ 4294967295 := by
  rw [within_iff] at h
  exact ⟨x.toNat, by omega, by omega⟩
theorem row1 {row : List Int} (h : row.all (PyInside.within 0 Mx) = true) : ∃ u : List Nat, row = iwN u ∧ ∀ n ∈ u, n ≤ 4294967295 := by
  rw [List.all_eq_true] at h
  exact nats_of fun z hz => within_iff.mp (h z hz)
theorem dec11 {p x : Int} {m : Nat} {row : List Int} (hb : PyRh03.bound p = ([(0, Mx)], [(0, Mx, 0, m)])) (h : PyInside.call PyRh03.bound [[p, x], row] = true) :
    ∃ (d : Nat) (u : List Nat), x = ((d : Nat) : Int) ∧ row = iwN u ∧ d ≤ 4294967295 ∧ (∀ n ∈ u, n ≤ 4294967295) ∧ u.length ≤ m := by
  have h : (PyInside.each (PyRh03.bound p).1 [x] && PyInside.lists (PyRh03.bound p).2 [row]) = true := h
  rw [hb] at h
  have h : (PyInside.within 0 Mx x && true && (decide (0 ≤ row.length) && decide (row.length ≤ m) && row.all (PyInside.within 0 Mx) && true)) = true := h
  simp only [Bool.and_true, Bool.and_eq_true, decide_eq_true_eq] at h
  obtain ⟨h1, ⟨_, h2⟩, h3⟩ := h
  obtain ⟨d, rfl, hd⟩ := nat1 h1
  obtain ⟨u, rfl, hu⟩ := row1 h3
  exact ⟨d, u, rfl, rfl, hd, hu, by rw [List.length_map] at h2; exact h2⟩
theorem dec10 {p x : Int} (hb : PyRh03.bound p = ([(0, Mx)], [])) (h : PyInside.call PyRh03.bound [[p, x]] = true) : ∃ d : Nat, x = ((d : Nat) : Int) ∧ d ≤ 4294967295 := by
  have h : (PyInside.each (PyRh03.bound p).1 [x] && PyInside.lists (PyRh03.bound p).2 []) = true := h
  rw [hb] at h
  have h : (PyInside.within 0 Mx x && true && true) = true := h
  simp only [Bool.and_true] at h
  exact nat1 h
theorem dec20 {x y : Int} (h : PyInside.call PyRh03.bound [[3, x, y]] = true) : ∃ d n : Nat, x = ((d : Nat) : Int) ∧ y = ((n : Nat) : Int) ∧ d ≤ 4294967295 ∧ n ≤ 4294967295 := by
  have h : (PyInside.within 0 Mx x && (PyInside.within 0 Mx y && true) && true) = true := h
  simp only [Bool.and_true, Bool.and_eq_true] at h
  obtain ⟨d, rfl, hd⟩ := nat1 h.1
  obtain ⟨n, rfl, hn⟩ := nat1 h.2
  exact ⟨d, n, rfl, rfl, hd, hn⟩
theorem dec40 {x y z v : Int} (h : PyInside.call PyRh03.bound [[10, x, y, z, v]] = true) : ∃ a b c d : Nat, x = ((a : Nat) : Int) ∧ y = ((b : Nat) : Int) ∧ z = ((c : Nat) : Int) ∧ v = ((d : Nat) : Int) ∧ a ≤ 4294967295 ∧ b ≤ 4294967295 ∧ c ≤ 4294967295 ∧ d ≤ 4294967295 := by
  have h : (PyInside.within 0 Mx x && (PyInside.within 0 Mx y && (PyInside.within 0 Mx z && (PyInside.within 0 Mx v && true))) && true) = true := h
  simp only [Bool.and_true, Bool.and_eq_true] at h
  obtain ⟨a, rfl, ha⟩ := nat1 h.1
  obtain ⟨b, rfl, hb⟩ := nat1 h.2.1
  obtain ⟨c, rfl, hc⟩ := nat1 h.2.2.1
  obtain ⟨d, rfl, hd⟩ := nat1 h.2.2.2
  exact ⟨a, b, c, d, rfl, rfl, rfl, rfl, ha, hb, hc, hd⟩
theorem dec31 {x y z : Int} {row : List Int} (h : PyInside.call PyRh03.bound [[11, x, y, z], row] = true) : ∃ (a b c : Nat) (u : List Nat), x = ((a : Nat) : Int) ∧ y = ((b : Nat) : Int) ∧ z = ((c : Nat) : Int) ∧ row = iwN u ∧ a ≤ 4294967295 ∧ b ≤ 4294967295 ∧ c ≤ 4294967295 ∧ (∀ n ∈ u, n ≤ 4294967295) ∧ u.length ≤ 20 := by
  have h : (PyInside.within 0 Mx x && (PyInside.within 0 Mx y && (PyInside.within 0 Mx z && true)) && (decide (0 ≤ row.length) && decide (row.length ≤ 20) && row.all (PyInside.within 0 Mx) && true)) = true := h
  simp only [Bool.and_true, Bool.and_eq_true, decide_eq_true_eq] at h
  obtain ⟨⟨h1, h2, h3⟩, ⟨_, h4⟩, h5⟩ := h
  obtain ⟨a, rfl, ha⟩ := nat1 h1
  obtain ⟨b, rfl, hb⟩ := nat1 h2
  obtain ⟨c, rfl, hc⟩ := nat1 h3
  obtain ⟨u, rfl, hu⟩ := row1 h5
  exact ⟨a, b, c, u, rfl, rfl, rfl, rfl, ha, hb, hc, hu, by rw [List.length_map] at h4; exact h4⟩
theorem due_of {s : Rh03.St} {c : List (List Int)} {l : List Nat} {x : Rh03.Call} (h1 : (PyRh03.whole c).headD [] = iwN l) (h2 : ∀ n ∈ l, n ≤ 4294967295) (h3 : Rh03Neutral.callIn l = some x) : due s c = Rh03.step s x := by
  unfold due Rh03Neutral.step
  rw [h1, callOf_nats h2, h3]
theorem le_cons {n : Nat} {l : List Nat} (h : n ≤ 4294967295) (k : ∀ m ∈ l, m ≤ 4294967295) : ∀ m ∈ n :: l, m ≤ 4294967295 := fun m hm => by
  rcases List.mem_cons.mp hm with rfl | hm
  · exact h
  · exact k m hm
theorem le_nil : ∀ m ∈ ([] : List Nat), m ≤ 4294967295 := fun _ h => (nomatch h)
section
variable (s : Rh03.St) {d n k a b c : Nat} {u : List Nat}
theorem due0 (hd : d ≤ 4294967295) (hu : ∀ m ∈ u, m ≤ 4294967295) : due s [[0, ((d : Nat) : Int)], iwN u] = Rh03.step s (.add d u) := due_of (l := 0 :: d :: u) rfl (le_cons (by omega) (le_cons hd hu)) rfl
theorem due1 (hd : d ≤ 4294967295) (hu : ∀ m ∈ u, m ≤ 4294967295) : due s [[1, ((d : Nat) : Int)], iwN u] = Rh03.step s (.out d u) := due_of (l := 1 :: d :: u) rfl (le_cons (by omega) (le_cons hd hu)) rfl
theorem due2 (hd : d ≤ 4294967295) (hu : ∀ m ∈ u, m ≤ 4294967295) : due s [[2, ((d : Nat) : Int)], iwN u] = Rh03.step s (.number d u) := due_of (l := 2 :: d :: u) rfl (le_cons (by omega) (le_cons hd hu)) rfl
theorem due3 (hd : d ≤ 4294967295) (hn : n ≤ 4294967295) : due s [[3, ((d : Nat) : Int), ((n : Nat) : Int)]] = Rh03.step s (.word d n) := due_of (l := [3, d, n]) rfl (le_cons (by omega) (le_cons hd (le_cons hn le_nil))) rfl
theorem due4 (hd : d ≤ 4294967295) (hu : ∀ m ∈ u, m ≤ 4294967295) : due s [[4, ((d : Nat) : Int)], iwN u] = Rh03.step s (.begins d u) := due_of (l := 4 :: d :: u) rfl (le_cons (by omega) (le_cons hd hu)) rfl
theorem due5 (hd : d ≤ 4294967295) : due s [[5, ((d : Nat) : Int)]] = Rh03.step s (.size d) := due_of (l := [5, d]) rfl (le_cons (by omega) (le_cons hd le_nil)) rfl
theorem due6 (hd : d ≤ 4294967295) : due s [[6, ((d : Nat) : Int)]] = Rh03.step s (.pack d) := due_of (l := [6, d]) rfl (le_cons (by omega) (le_cons hd le_nil)) rfl
theorem due7 (hd : d ≤ 4294967295) (hu : ∀ m ∈ u, m ≤ 4294967295) : due s [[7, ((d : Nat) : Int)], iwN u] = Rh03.step s (.unpack d u) := due_of (l := 7 :: d :: u) rfl (le_cons (by omega) (le_cons hd hu)) rfl
theorem due8 (hd : d ≤ 4294967295) (hu : ∀ m ∈ u, m ≤ 4294967295) : due s [[8, ((d : Nat) : Int)], iwN u] = Rh03.step s (.state d u) := due_of (l := 8 :: d :: u) rfl (le_cons (by omega) (le_cons hd hu)) rfl
theorem due9 (hd : d ≤ 4294967295) (hu : ∀ m ∈ u, m ≤ 4294967295) : due s [[9, ((d : Nat) : Int)], iwN u] = Rh03.step s (.after d u) := due_of (l := 9 :: d :: u) rfl (le_cons (by omega) (le_cons hd hu)) rfl
theorem due10 (hk : k ≤ 4294967295) (ha : a ≤ 4294967295) (hb : b ≤ 4294967295) (hc : c ≤ 4294967295) : due s [[10, ((k : Nat) : Int), ((a : Nat) : Int), ((b : Nat) : Int), ((c : Nat) : Int)]] = Rh03.step s (.join k a b c) := due_of (l := [10, k, a, b, c]) rfl (le_cons (by omega) (le_cons hk (le_cons ha (le_cons hb (le_cons hc le_nil))))) rfl
theorem due11 (hd : d ≤ 4294967295) (hn : n ≤ 4294967295) (hk : k ≤ 4294967295) (hu : ∀ m ∈ u, m ≤ 4294967295) : due s [[11, ((d : Nat) : Int), ((n : Nat) : Int), ((k : Nat) : Int)], iwN u] = Rh03.step s (.fits d n k u) := due_of (l := 11 :: d :: n :: k :: u) rfl (le_cons (by omega) (le_cons hd (le_cons hn (le_cons hk hu)))) rfl
theorem due12 (hd : d ≤ 4294967295) (hu : ∀ m ∈ u, m ≤ 4294967295) : due s [[12, ((d : Nat) : Int)], iwN u] = Rh03.step s (.ways d u) := due_of (l := 12 :: d :: u) rfl (le_cons (by omega) (le_cons hd hu)) rfl
theorem due13 (hd : d ≤ 4294967295) (hu : ∀ m ∈ u, m ≤ 4294967295) : due s [[13, ((d : Nat) : Int)], iwN u] = Rh03.step s (.head d u) := due_of (l := 13 :: d :: u) rfl (le_cons (by omega) (le_cons hd hu)) rfl
end
theorem len1 {α : Type} {xs : List α} (h : xs.length = 1) : ∃ a, xs = [a] := by
  match xs, h with
  | [a], _ => exact ⟨a, rfl⟩
theorem len2 {α : Type} {xs : List α} (h : xs.length = 2) : ∃ a b, xs = [a, b] := by
  match xs, h with
  | [a, b], _ => exact ⟨a, b, rfl⟩
theorem len3 {α : Type} {xs : List α} (h : xs.length = 3) : ∃ a b c, xs = [a, b, c] := by
  match xs, h with
  | [a, b, c], _ => exact ⟨a, b, c, rfl⟩
theorem len4 {α : Type} {xs : List α} (h : xs.length = 4) : ∃ a b c d, xs = [a, b, c, d] := by
  match xs, h with
  | [a, b, c, d], _ => exact ⟨a, b, c, d, rfl⟩
/-- a call with a dictionary's number and a row: how it lies in the list, and what is due -/
structure OneRow (l : List Int) (c : List (List Int)) (t : List Int) (p : Int) (m : Nat) (d : Nat) (u : List Nat) : Prop where
  c_eq : c = [[p, ((d : Nat) : Int)], iwN u]
  l_eq : l = p :: ((d : Nat) : Int) :: ((u.length : Nat) : Int) :: (iwN u ++ t)
  hd : d ≤ 4294967295
  hu : ∀ n ∈ u, n ≤ 4294967295
  len : u.length ≤ m
/-- which call it is, and its parts -/
theorem which {l : List Int} {c : List (List Int)} {t : List Int} (h : PyFlat.call PyRh03.shape l = some (c, t)) (hin : PyInside.call PyRh03.bound c = true) :
    (∃ p ∈ ([0, 1, 2, 4, 8, 9, 12, 13] : List Int), ∃ d u, OneRow l c t p 60 d u) ∨ (∃ d u, OneRow l c t 7 2100 d u) ∨
    (∃ d n : Nat, c = [[3, ((d : Nat) : Int), ((n : Nat) : Int)]] ∧ l = 3 :: ((d : Nat) : Int) :: ((n : Nat) : Int) :: t ∧ d ≤ 4294967295 ∧ n ≤ 4294967295) ∨
    (∃ p ∈ ([5, 6] : List Int), ∃ d : Nat, c = [[p, ((d : Nat) : Int)]] ∧ l = p :: ((d : Nat) : Int) :: t ∧ d ≤ 4294967295) ∨
    (∃ k a b e : Nat, c = [[10, ((k : Nat) : Int), ((a : Nat) : Int), ((b : Nat) : Int), ((e : Nat) : Int)]] ∧ l = 10 :: ((k : Nat) : Int) :: ((a : Nat) : Int) :: ((b : Nat) : Int) :: ((e : Nat) : Int) :: t ∧ k ≤ 4294967295 ∧ a ≤ 4294967295 ∧ b ≤ 4294967295 ∧ e ≤ 4294967295) ∨
    (∃ (d n k : Nat) (u : List Nat), c = [[11, ((d : Nat) : Int), ((n : Nat) : Int), ((k : Nat) : Int)], iwN u] ∧ l = 11 :: ((d : Nat) : Int) :: ((n : Nat) : Int) :: ((k : Nat) : Int) :: ((u.length : Nat) : Int) :: (iwN u ++ t) ∧ d ≤ 4294967295 ∧ n ≤ 4294967295 ∧ k ≤ 4294967295 ∧ (∀ m ∈ u, m ≤ 4294967295) ∧ u.length ≤ 20) := by
  have one : ∀ (p : Int) (m : Nat) (xs row : List Int), PyRh03.bound p = ([(0, Mx)], [(0, Mx, 0, m)]) → xs.length = 1 → c = [p :: xs, row] → l = p :: (xs ++ ((row.length : Nat) : Int) :: (row ++ t)) → ∃ d u, OneRow l c t p m d u := by
    intro p m xs row hb hl hc he
    obtain ⟨x, rfl⟩ := len1 hl
    rw [hc] at hin
    obtain ⟨d, u, rfl, rfl, h1, h2, h3⟩ := dec11 hb hin
    exact ⟨d, u, hc, by rw [he, List.length_map]; rfl, h1, h2, h3⟩
  obtain ⟨p, xs, ⟨hs, hc, he⟩ | ⟨row, hs, hc, he⟩⟩ := call_inv h
  · rcases shape_cases hs with ⟨rfl, h1, h2⟩ | ⟨rfl, h1, h2⟩ | ⟨rfl, h1, h2⟩ | ⟨rfl, h1, h2⟩ | ⟨rfl, h1, h2⟩ | ⟨rfl, h1, h2⟩ | ⟨rfl, h1, h2⟩ | ⟨rfl, h1, h2⟩ | ⟨rfl, h1, h2⟩ | ⟨rfl, h1, h2⟩ | ⟨rfl, h1, h2⟩ | ⟨rfl, h1, h2⟩ | ⟨rfl, h1, h2⟩ | ⟨rfl, h1, h2⟩
    all_goals first
      | cases h2
      | skip
    · obtain ⟨x, y, rfl⟩ := len2 h1
      rw [hc] at hin
      obtain ⟨d, n, rfl, rfl, a1, a2⟩ := dec20 hin
      exact .inr (.inr (.inl ⟨d, n, hc, he, a1, a2⟩))
    · obtain ⟨x, rfl⟩ := len1 h1
      rw [hc] at hin
      obtain ⟨d, rfl, a1⟩ := dec10 rfl hin
      exact .inr (.inr (.inr (.inl ⟨5, by decide, d, hc, he, a1⟩)))
    · obtain ⟨x, rfl⟩ := len1 h1
      rw [hc] at hin
      obtain ⟨d, rfl, a1⟩ := dec10 rfl hin
      exact .inr (.inr (.inr (.inl ⟨6, by decide, d, hc, he, a1⟩)))
    · obtain ⟨x, y, z, v, rfl⟩ := len4 h1
      rw [hc] at hin
      obtain ⟨k, a, b, e, rfl, rfl, rfl, rfl, a1, a2, a3, a4⟩ := dec40 hin
      exact .inr (.inr (.inr (.inr (.inl ⟨k, a, b, e, hc, he, a1, a2, a3, a4⟩))))
  · rcases shape_cases hs with ⟨rfl, h1, h2⟩ | ⟨rfl, h1, h2⟩ | ⟨rfl, h1, h2⟩ | ⟨rfl, h1, h2⟩ | ⟨rfl, h1, h2⟩ | ⟨rfl, h1, h2⟩ | ⟨rfl, h1, h2⟩ | ⟨rfl, h1, h2⟩ | ⟨rfl, h1, h2⟩ | ⟨rfl, h1, h2⟩ | ⟨rfl, h1, h2⟩ | ⟨rfl, h1, h2⟩ | ⟨rfl, h1, h2⟩ | ⟨rfl, h1, h2⟩
    · exact .inl ⟨0, by decide, one 0 60 xs row rfl h1 hc he⟩
    · exact .inl ⟨1, by decide, one 1 60 xs row rfl h1 hc he⟩
    · exact .inl ⟨2, by decide, one 2 60 xs row rfl h1 hc he⟩
    · cases h2
    · exact .inl ⟨4, by decide, one 4 60 xs row rfl h1 hc he⟩
    · cases h2
    · cases h2
    · exact .inr (.inl (one 7 2100 xs row rfl h1 hc he))
    · exact .inl ⟨8, by decide, one 8 60 xs row rfl h1 hc he⟩
    · exact .inl ⟨9, by decide, one 9 60 xs row rfl h1 hc he⟩
    · cases h2
    · obtain ⟨x, y, z, rfl⟩ := len3 h1
      rw [hc] at hin
      obtain ⟨a, b, e, u, rfl, rfl, rfl, rfl, a1, a2, a3, a4, a5⟩ := dec31 hin
      exact .inr (.inr (.inr (.inr (.inr ⟨a, b, e, u, hc, by rw [he, List.length_map]; rfl, a1, a2, a3, a4, a5⟩))))
    · exact .inl ⟨12, by decide, one 12 60 xs row rfl h1 hc he⟩
    · exact .inl ⟨13, by decide, one 13 60 xs row rfl h1 hc he⟩
end Ls
/-! LsMore -/
namespace Ls
open Rh03
/-! ### a word and a pattern, by the lengths of its beginnings -/
theorem mem_tails : ∀ {v u : Word}, u ∈ tails v ↔ ∃ j, j ≤ v.length ∧ u = v.drop j
  | [], u => by
    show u ∈ [[]] ↔ _
    rw [List.mem_singleton]
    constructor
    · rintro rfl; exact ⟨0, Nat.le_refl _, rfl⟩
    · rintro ⟨j, _, rfl⟩; simp
  | a :: v, u => by
    show u ∈ (a :: v) :: tails v ↔ _
    rw [List.mem_cons, mem_tails]
    constructor
    · rintro (rfl | ⟨j, h, rfl⟩)
      · exact ⟨0, Nat.zero_le _, rfl⟩
      · exact ⟨j + 1, Nat.succ_le_succ h, rfl⟩
    · rintro ⟨j, h, rfl⟩
      cases j with
      | zero => exact .inl rfl
      | succ j => exact .inr ⟨j, Nat.le_of_succ_le_succ h, rfl⟩
def okS (w : Word) (x l : Nat) : Bool := x == 0 || x == w.getD l 0
def stepP (w : Word) (L : List Nat) (x : Nat) : List Nat :=
  if L = [] then [] else if x = 27 then List.range' (L.headD 0) (w.length + 1 - L.headD 0) else ((L.filter fun l => decide (l < w.length)).filter (okS w x)).map (· + 1)
structure Lens (w : Word) (L : List Nat) : Prop where
  up : L.Pairwise (· < ·)
  le : ∀ l ∈ L, l ≤ w.length
theorem lens_start (w : Word) : Lens w [0] := by
  refine ⟨by simp, fun l h => ?_⟩
  have : l = 0 := by simpa using h
  omega
theorem Lens.step {w : Word} {L : List Nat} (h : Lens w L) (x : Nat) : Lens w (stepP w L x) := by
  unfold stepP
  by_cases c : L = []
  · rw [if_pos c]; exact ⟨List.Pairwise.nil, fun l h => (nomatch h)⟩
  · rw [if_neg c]
    by_cases c2 : x = 27
    · rw [if_pos c2]
      refine ⟨List.pairwise_lt_range', fun l hl => ?_⟩
      rw [List.mem_range'_1] at hl
      omega
    · rw [if_neg c2]
      refine ⟨?_, fun l hl => ?_⟩
      · rw [List.pairwise_map]
        exact ((h.up.filter _).filter _).imp fun q => by omega
      · obtain ⟨k, hk, rfl⟩ := List.mem_map.mp hl
        have := (List.mem_filter.mp (List.mem_filter.mp hk).1).2
        simp at this
        omega
theorem drop_getD {w : Word} {l : Nat} (h : l < w.length) : w.drop l = w.getD l 0 :: w.drop (l + 1) := by
  rw [List.drop_eq_getElem_cons h, List.getD_eq_getElem?_getD, List.getElem?_eq_getElem h]; rfl
theorem fits_run (w : Word) : ∀ (p L : List Nat), Lens w L → (w.length ∈ p.foldl (stepP w) L ↔ ∃ l ∈ L, fits p (w.drop l) = true)
  | [], L, h => by
    show w.length ∈ L ↔ ∃ l ∈ L, (w.drop l).isEmpty = true
    constructor
    · intro hm; exact ⟨_, hm, by simp⟩
    · rintro ⟨l, hl, e⟩
      have h1 := h.le l hl
      have h2 : w.drop l = [] := List.isEmpty_iff.mp e
      rw [List.drop_eq_nil_iff] at h2
      have : l = w.length := by omega
      rw [← this]; exact hl
  | x :: p, L, h => by
    rw [List.foldl_cons, fits_run w p _ (h.step x)]
    unfold stepP
    by_cases c : L = []
    · subst c
      rw [if_pos rfl]
      simp
    · rw [if_neg c]
      by_cases c2 : x = 27
      · subst c2
        rw [if_pos rfl]
        have ef : ∀ v, fits (27 :: p) v = (tails v).any (fits p) := fun v => by rw [fits.eq_def]; simp
        cases L with
        | nil => exact absurd rfl c
        | cons l0 L =>
          have hmin : ∀ l ∈ l0 :: L, l0 ≤ l := fun l hl => by
            rcases List.mem_cons.mp hl with e | hl
            · omega
            · exact Nat.le_of_lt ((List.pairwise_cons.mp h.up).1 l hl)
          constructor
          · rintro ⟨j, hj, e⟩
            rw [List.mem_range'_1] at hj
            have hj1 : l0 ≤ j := hj.1
            have hj2 : j < l0 + (w.length + 1 - l0) := hj.2
            refine ⟨l0, List.mem_cons_self, ?_⟩
            rw [ef, List.any_eq_true]
            refine ⟨w.drop j, mem_tails.mpr ⟨j - l0, ?_, ?_⟩, e⟩
            · rw [List.length_drop]; omega
            · rw [List.drop_drop]; congr 1; omega
          · rintro ⟨l, hl, e⟩
            rw [ef, List.any_eq_true] at e
            obtain ⟨u, hu, e⟩ := e
            obtain ⟨j, hj, rfl⟩ := mem_tails.mp hu
            rw [List.length_drop] at hj
            rw [List.drop_drop] at e
            refine ⟨l + j, ?_, e⟩
            rw [List.mem_range'_1]
            have := hmin l hl
            have := h.le l hl
            show l0 ≤ l + j ∧ l + j < l0 + (w.length + 1 - l0)
            omega
      · rw [if_neg c2]
        have ef : ∀ l, fits (x :: p) (w.drop l) = (decide (l < w.length) && (okS w x l && fits p (w.drop (l + 1)))) := fun l => by
          by_cases hl : l < w.length
          · rw [drop_getD hl, fits.eq_def]
            simp only [if_neg c2]
            unfold okS
            rw [decide_eq_true hl, Bool.true_and]
          · have : w.drop l = [] := List.drop_eq_nil_iff.mpr (by omega)
            rw [this, fits.eq_def]
            simp only [if_neg c2]
            rw [decide_eq_false hl]; rfl
        constructor
        · rintro ⟨j, hj, e⟩
          obtain ⟨l, hl, rfl⟩ := List.mem_map.mp hj
          have h1 := List.mem_filter.mp hl
          have h2 := List.mem_filter.mp h1.1
          refine ⟨l, h2.1, ?_⟩
          rw [ef, h2.2, h1.2, e]; rfl
        · rintro ⟨l, hl, e⟩
          rw [ef, Bool.and_eq_true, Bool.and_eq_true] at e
          exact ⟨l + 1, List.mem_map.mpr ⟨l, List.mem_filter.mpr ⟨List.mem_filter.mpr ⟨hl, e.1⟩, e.2.1⟩, rfl⟩, e.2.2⟩
theorem fits_fold (w : Word) (p : List Nat) : (p.foldl (stepP w) [0]).contains w.length = fits p w := by
  have h := fits_run w p [0] (lens_start w)
  have e : (∃ l ∈ [0], fits p (w.drop l) = true) ↔ fits p w = true := by simp
  rw [e, ← List.contains_iff_mem] at h
  cases a : fits p w with
  | true => exact h.mpr a
  | false =>
    cases b : (p.foldl (stepP w) [0]).contains w.length with
    | false => rfl
    | true => rw [h.mp b] at a; cases a
theorem stepP_nil (w : Word) : ∀ p : List Nat, p.foldl (stepP w) [] = []
  | [] => rfl
  | x :: p => by
    rw [List.foldl_cons]
    have : stepP w [] x = [] := by unfold stepP; rw [if_pos rfl]
    rw [this, stepP_nil w p]
theorem up_len {n : Nat} : ∀ {L : List Nat} {lo : Nat}, L.Pairwise (· < ·) → (∀ l ∈ L, lo ≤ l ∧ l ≤ n) → L.length ≤ n + 1 - lo
  | [], _, _, _ => Nat.zero_le _
  | x :: L, lo, h, k => by
    have h1 := List.pairwise_cons.mp h
    have hx := k x List.mem_cons_self
    have ih := up_len (n := n) (L := L) (lo := x + 1) h1.2 fun l hl => ⟨h1.1 l hl, (k l (List.mem_cons_of_mem _ hl)).2⟩
    rw [List.length_cons]
    omega
theorem stepP_len {w : Word} {L : List Nat} (h : Lens w L) : L.length ≤ w.length + 1 := up_len (lo := 0) h.up fun l hl => ⟨Nat.zero_le _, h.le l hl⟩
/-! ### cutting letters into words: the last word, not the first -/
theorem total_eq (l : List Nat) : total l = l.sum := total_sum l
theorem waysAll_len (d : List Word) : ∀ t, (waysAll d t).length = t.length + 1
  | [] => rfl
  | a :: t => by
    show ((_ : Nat) :: waysAll d t).length = _
    rw [List.length_cons, waysAll_len d t, List.length_cons]
theorem waysAll_get (d : List Word) : ∀ (t : List Nat) (k : Nat), k ≤ t.length → (waysAll d t).getD k 0 = ways d (t.drop k)
  | t, 0, _ => by
    unfold ways
    rw [List.drop_zero]
    cases waysAll d t <;> rfl
  | [], k + 1, h => absurd h (Nat.not_succ_le_zero _)
  | a :: t, k + 1, h => by
    show ((_ : Nat) :: waysAll d t).getD (k + 1) 0 = ways d (t.drop k)
    rw [← waysAll_get d t k (Nat.le_of_succ_le_succ h)]
    rfl
theorem behind_iff : ∀ {u v : Word}, (behind u v).isSome = true ↔ ∃ r, v = u ++ r
  | [], v => by simp [behind]
  | a :: u, [] => by simp [behind]
  | a :: u, b :: v => by
    rw [behind]
    by_cases e : a = b
    · subst e
      rw [if_pos rfl, behind_iff]
      simp
    · rw [if_neg e]
      constructor
      · intro h; cases h
      · rintro ⟨r, h⟩
        injection h with h1 _
        exact absurd h1.symm e
/-- by the first word -/
def firstW (d : List Word) (f : List Nat → Nat) (u : List Nat) : Nat := (d.map fun w => if u.take w.length = w then f (u.drop w.length) else 0).sum
/-- by the last -/
def lastW (d : List Word) (f : List Nat → Nat) (u : List Nat) : Nat := (d.map fun w => if u.length ≥ w.length ∧ u.drop (u.length - w.length) = w then f (u.take (u.length - w.length)) else 0).sum
theorem take_iff {u w : Word} : u.take w.length = w ↔ ∃ r, u = w ++ r := by
  constructor
  · intro h; exact ⟨u.drop w.length, by conv => lhs; rw [← List.take_append_drop w.length u, h]⟩
  · rintro ⟨r, rfl⟩; simp
theorem pos_of_ne {α : Type} {l : List α} (h : l ≠ []) : 0 < l.length := by
  cases l with
  | nil => exact absurd rfl h
  | cons _ _ => exact Nat.succ_pos _
theorem ways_nil (d : List Word) : ways d [] = 1 := rfl
theorem ways_first {d : List Word} (hd : ∀ w ∈ d, w ≠ []) {u : List Nat} (hu : u ≠ []) : ways d u = firstW d (ways d) u := by
  cases u with
  | nil => exact absurd rfl hu
  | cons a t =>
    show total (d.map fun w => if w ≠ [] ∧ (behind w (a :: t)).isSome = true then (waysAll d t).getD (w.length - 1) 0 else 0) = _
    rw [total_eq]
    unfold firstW
    refine sum_congr fun w hw => ?_
    have hne := hd w hw
    by_cases c : (a :: t).take w.length = w
    · rw [if_pos c, if_pos ⟨hne, behind_iff.mpr (take_iff.mp c)⟩]
      obtain ⟨r, e⟩ := take_iff.mp c
      have hl : w.length ≤ (a :: t).length := by rw [e, List.length_append]; omega
      have hp : 0 < w.length := pos_of_ne hne
      rw [List.length_cons] at hl
      rw [waysAll_get d t _ (by omega)]
      have : (a :: t).drop w.length = t.drop (w.length - 1) := by
        obtain ⟨k, hk⟩ : ∃ k, w.length = k + 1 := ⟨w.length - 1, by omega⟩
        rw [hk]; rfl
      rw [this]
    · rw [if_neg c, if_neg fun q => c (take_iff.mpr (behind_iff.mp q.2))]
theorem sum_swap {α β : Type} (f : α → β → Nat) : ∀ (l : List α) (m : List β), (l.map fun x => (m.map fun y => f x y).sum).sum = (m.map fun y => (l.map fun x => f x y).sum).sum
  | [], m => by
    have : ∀ m : List β, (m.map fun _ => 0).sum = 0 := fun m => by induction m with
      | nil => rfl
      | cons _ _ ih => rw [List.map_cons, List.sum_cons, ih]
    show 0 = (m.map fun _ => 0).sum
    rw [this]
  | x :: l, m => by
    rw [List.map_cons, List.sum_cons, sum_swap f l m]
    have : ∀ m : List β, (m.map fun y => f x y).sum + (m.map fun y => (l.map fun x => f x y).sum).sum = (m.map fun y => ((x :: l).map fun x => f x y).sum).sum := fun m => by
      induction m with
      | nil => rfl
      | cons y m ih =>
        simp only [List.map_cons, List.sum_cons] at ih ⊢
        omega
    exact this m
theorem sum_add2 {α : Type} (f g : α → Nat) : ∀ l : List α, (l.map fun x => f x + g x).sum = (l.map f).sum + (l.map g).sum
  | [] => rfl
  | x :: l => by
    simp only [List.map_cons, List.sum_cons, sum_add2 f g l]
    omega
theorem sum_if {α : Type} (c : Prop) [Decidable c] (f : α → Nat) (l : List α) : (if c then (l.map f).sum else 0) = (l.map fun x => if c then f x else 0).sum := by
  by_cases h : c
  · simp only [if_pos h]
  · simp only [if_neg h]
    induction l with
    | nil => rfl
    | cons x l ih => rw [List.map_cons, List.sum_cons, ← ih]
theorem ways_last {d : List Word} (hd : ∀ w ∈ d, w ≠ []) : ∀ (n : Nat) {u : List Nat}, u.length ≤ n → u ≠ [] → ways d u = lastW d (ways d) u
  | 0, u, h, hu => absurd (List.length_eq_zero_iff.mp (Nat.le_zero.mp h)) hu
  | n + 1, u, h, hu => by
    -- both sides: how often u is itself a word, and what lies between a first and a last
    have hpos : 0 < u.length := pos_of_ne hu
    have mid : ∀ (w v : Word), Nat := fun w v => 0
    have L : firstW d (ways d) u = (d.map fun w => (if w = u then 1 else 0) + (d.map fun v => if w.length + v.length ≤ u.length ∧ u.take w.length = w ∧ u.drop (u.length - v.length) = v then ways d ((u.drop w.length).take (u.length - w.length - v.length)) else 0).sum).sum := by
      unfold firstW
      refine sum_congr fun w hw => ?_
      have hwp : 0 < w.length := pos_of_ne (hd w hw)
      by_cases c : u.take w.length = w
      · rw [if_pos c]
        obtain ⟨r, e⟩ := take_iff.mp c
        have er : u.drop w.length = r := by rw [e]; simp
        have hlen : u.length = w.length + r.length := by rw [e, List.length_append]
        by_cases c2 : w = u
        · have : r = [] := by
            have : u.length = w.length := by rw [c2]
            exact List.length_eq_zero_iff.mp (by omega)
          have z : (d.map fun v => if w.length + v.length ≤ u.length ∧ u.take w.length = w ∧ u.drop (u.length - v.length) = v then ways d ((u.drop w.length).take (u.length - w.length - v.length)) else 0).sum = 0 := by
            have : (d.map fun v => if w.length + v.length ≤ u.length ∧ u.take w.length = w ∧ u.drop (u.length - v.length) = v then ways d ((u.drop w.length).take (u.length - w.length - v.length)) else 0).sum = (d.map fun _ => if False then 0 else 0).sum := by
              refine sum_congr fun v hv => ?_
              have := pos_of_ne (hd v hv)
              rw [if_neg (by rw [c2]; omega), if_neg not_false]
            rw [this, ← sum_if, if_neg not_false]
          rw [z, er, this, if_pos c2, ways_nil]
        · rw [if_neg c2, Nat.zero_add]
          have hr : r ≠ [] := fun z => c2 (by rw [e, z, List.append_nil])
          rw [er, ways_last hd n (u := r) (by omega) hr]
          unfold lastW
          refine sum_congr fun v hv => ?_
          by_cases c3 : r.length ≥ v.length ∧ r.drop (r.length - v.length) = v
          · have q : w.length + v.length ≤ u.length ∧ u.take w.length = w ∧ u.drop (u.length - v.length) = v := by
              refine ⟨by omega, c, ?_⟩
              have : u.length - v.length = w.length + (r.length - v.length) := by omega
              rw [this, ← List.drop_drop, er]
              exact c3.2
            rw [if_pos c3, if_pos q]
            have : u.length - w.length - v.length = r.length - v.length := by omega
            rw [this]
          · rw [if_neg c3, if_neg]
            rintro ⟨q1, _, q3⟩
            apply c3
            refine ⟨by omega, ?_⟩
            have : u.length - v.length = w.length + (r.length - v.length) := by omega
            rw [this, ← List.drop_drop, er] at q3
            exact q3
      · rw [if_neg c, if_neg (fun z => c (by rw [z]; simp))]
        have : (d.map fun v => if w.length + v.length ≤ u.length ∧ u.take w.length = w ∧ u.drop (u.length - v.length) = v then ways d ((u.drop w.length).take (u.length - w.length - v.length)) else 0).sum = (d.map fun _ => if False then 0 else 0).sum :=
          sum_congr fun v _ => by rw [if_neg (fun q => c q.2.1), if_neg not_false]
        rw [this, ← sum_if, if_neg not_false]
    have R : lastW d (ways d) u = (d.map fun v => (if v = u then 1 else 0) + (d.map fun w => if w.length + v.length ≤ u.length ∧ u.take w.length = w ∧ u.drop (u.length - v.length) = v then ways d ((u.drop w.length).take (u.length - w.length - v.length)) else 0).sum).sum := by
      unfold lastW
      refine sum_congr fun v hv => ?_
      have hvp : 0 < v.length := pos_of_ne (hd v hv)
      by_cases c : u.length ≥ v.length ∧ u.drop (u.length - v.length) = v
      · rw [if_pos c]
        by_cases c2 : v = u
        · rw [if_pos c2]
          have e0 : u.take (u.length - v.length) = [] := by rw [c2]; simp
          rw [e0, ways_nil]
          have : (d.map fun w => if w.length + v.length ≤ u.length ∧ u.take w.length = w ∧ u.drop (u.length - v.length) = v then ways d ((u.drop w.length).take (u.length - w.length - v.length)) else 0).sum = (d.map fun _ => if False then 0 else 0).sum :=
            sum_congr fun w hw => by
              have := pos_of_ne (hd w hw)
              rw [if_neg (by rw [c2]; omega), if_neg not_false]
          rw [this, ← sum_if, if_neg not_false]
        · rw [if_neg c2, Nat.zero_add]
          have hlt : v.length < u.length := by
            rcases Nat.lt_or_ge v.length u.length with q | q
            · exact q
            · have : u.length - v.length = 0 := by omega
              have c' := c.2
              rw [this, List.drop_zero] at c'
              exact absurd c'.symm c2
          have hlen : (u.take (u.length - v.length)).length = u.length - v.length := by rw [List.length_take]; omega
          have hne : u.take (u.length - v.length) ≠ [] := fun z => by rw [z] at hlen; simp at hlen; omega
          rw [ways_first hd hne]
          unfold firstW
          refine sum_congr fun w _ => ?_
          by_cases c3 : (u.take (u.length - v.length)).take w.length = w
          · have hwl : w.length ≤ u.length - v.length := by
              have := congrArg List.length c3
              rw [List.length_take, hlen] at this
              omega
            rw [List.take_take, Nat.min_eq_left hwl] at c3
            have c4 : (u.take (u.length - v.length)).take w.length = w := by rw [List.take_take, Nat.min_eq_left hwl]; exact c3
            rw [if_pos c4, if_pos ⟨by omega, c3, c.2⟩, List.drop_take]
            have : u.length - v.length - w.length = u.length - w.length - v.length := by omega
            rw [this]
          · rw [if_neg c3, if_neg]
            rintro ⟨q1, q2, _⟩
            apply c3
            rw [List.take_take, Nat.min_eq_left (by omega)]
            exact q2
      · rw [if_neg c]
        have hvu : v ≠ u := fun z => c ⟨by rw [z]; omega, by rw [z]; simp⟩
        rw [if_neg hvu]
        have : (d.map fun w => if w.length + v.length ≤ u.length ∧ u.take w.length = w ∧ u.drop (u.length - v.length) = v then ways d ((u.drop w.length).take (u.length - w.length - v.length)) else 0).sum = (d.map fun _ => if False then 0 else 0).sum :=
          sum_congr fun w _ => by rw [if_neg (fun q => c ⟨by omega, q.2.2⟩), if_neg not_false]
        rw [this, ← sum_if, if_neg not_false]
    rw [ways_first hd hu, L, R, sum_add2, sum_add2]
    congr 1
    exact sum_swap _ d d
end Ls
/-! LsMore2 -/
namespace Ls
open Rh03
/-! ### the longest word at the head -/
theorem bf_pre : ∀ (u r : Word), r ≠ [] → before u (u ++ r) = true
  | [], [], h => absurd rfl h
  | [], _ :: _, _ => rfl
  | a :: u, r, h => by
    show before (a :: u) (a :: (u ++ r)) = true
    rw [bf_cons]
    exact .inr ⟨rfl, bf_pre u r h⟩
theorem pre_len {t x w : Word} (hx : (behind x t).isSome = true) (hw : (behind w t).isSome = true) (h : before x w = true) : x.length ≤ w.length := by
  obtain ⟨r, e1⟩ := behind_iff.mp hx
  obtain ⟨q, e2⟩ := behind_iff.mp hw
  rcases Nat.lt_or_ge w.length x.length with c | c
  · have e : x = w ++ x.drop w.length := by
      have h1 : t.take w.length = w := by rw [e2]; simp
      have h2 : t.take w.length = x.take w.length := by rw [e1, List.take_append_of_le_length (by omega)]
      conv => lhs; rw [← List.take_append_drop w.length x, ← h2, h1]
    have hne : x.drop w.length ≠ [] := fun z => by
      rw [List.drop_eq_nil_iff] at z; omega
    have := bf_pre w _ hne
    rw [← e, bf_asymm h] at this
    cases this
  · exact c
theorem head_some {d : List Word} {t : List Nat} {w : Word} (hs : Srt d) (h : head d t = some w) : w ∈ (d.filter fun w => (behind w t).isSome) ∧ ∀ x ∈ (d.filter fun w => (behind w t).isSome), x.length ≤ w.length := by
  unfold head at h
  have hs' : Srt (d.filter fun w => (behind w t).isSome) := hs.filter _
  have hm : ∀ x ∈ (d.filter fun w => (behind w t).isSome), (behind x t).isSome = true := fun x hx => (List.mem_filter.mp hx).2
  generalize (d.filter fun w => (behind w t).isSome) = l at h hs' hm
  obtain ⟨ys, rfl⟩ := List.getLast?_eq_some_iff.mp h
  refine ⟨by simp, fun x hx => ?_⟩
  rcases List.mem_append.mp hx with hx' | hx'
  · exact pre_len (hm x hx) (hm w (by simp)) ((List.pairwise_append.mp hs').2.2 x hx' w (by simp))
  · have : x = w := by simpa using hx'
    rw [this]; exact Nat.le_refl _
theorem head_none {d : List Word} {t : List Nat} (h : head d t = none) : (d.filter fun w => (behind w t).isSome) = [] := by
  unfold head at h
  exact List.getLast?_eq_none_iff.mp h
/-! ### a row's states -/
def nodesA (r : List Nat) : Option Auto := nodes r.length r
theorem nodes_fuel : ∀ (f g : Nat) (r : List Nat), r.length ≤ f → r.length ≤ g → nodes f r = nodes g r
  | 0, 0, _, _, _ => rfl
  | 0, g + 1, [], _, _ => rfl
  | 0, g + 1, _ :: _, h, _ => absurd h (Nat.not_succ_le_zero _)
  | f + 1, 0, [], _, _ => rfl
  | f + 1, 0, _ :: _, _, h => absurd h (Nat.not_succ_le_zero _)
  | f + 1, g + 1, [], _, _ => rfl
  | f + 1, g + 1, x :: l, h1, h2 => by
    rw [List.length_cons] at h1 h2
    unfold nodes
    by_cases c : l.length < 2 * (x / 2)
    · rw [if_pos c, if_pos c]
    · rw [if_neg c, if_neg c, nodes_fuel f g (l.drop (2 * (x / 2))) (by rw [List.length_drop]; omega) (by rw [List.length_drop]; omega)]
theorem nodesA_nil : nodesA [] = some [] := rfl
theorem nodesA_cons (x : Nat) (l : List Nat) : nodesA (x :: l) = if l.length < 2 * (x / 2) then none else (nodesA (l.drop (2 * (x / 2)))).map fun r => ⟨x % 2 == 1, pairs (l.take (2 * (x / 2)))⟩ :: r := by
  show nodes (l.length + 1) (x :: l) = _
  unfold nodes
  by_cases c : l.length < 2 * (x / 2)
  · rw [if_pos c, if_pos c]
  · rw [if_neg c, if_neg c, nodes_fuel l.length (l.drop (2 * (x / 2))).length (l.drop (2 * (x / 2))) (by rw [List.length_drop]; omega) (Nat.le_refl _)]
    rfl
theorem pairs_get : ∀ (m : Nat) (l : List Nat), 2 * m ≤ l.length → pairs (l.take (2 * m)) = (List.range m).map fun i => (l.getD (2 * i) 0, l.getD (2 * i + 1) 0)
  | 0, l, _ => by rw [Nat.mul_zero, List.take_zero]; rfl
  | m + 1, [], h => by rw [List.length_nil] at h; omega
  | m + 1, [a], h => by rw [List.length_singleton] at h; omega
  | m + 1, a :: b :: l, h => by
    have e : 2 * (m + 1) = 2 * m + 1 + 1 := by omega
    rw [e]
    show (a, b) :: pairs (l.take (2 * m)) = _
    rw [pairs_get m l (by rw [List.length_cons, List.length_cons] at h; omega), List.range_succ_eq_map, List.map_cons, List.map_map]
    congr 1
/-! ### all spelled words, one state after another -/
abbrev Item := Word × Nat
def spellAt (a : Auto) (x : Item) : List Word := (spell a (9 - x.1.length) x.2).map fun v => x.1 ++ v
def goOn (a : Auto) (x : Item) (e : Nat × Nat) : Bool := decide (0 < 8 - x.1.length) && (decide (e.2 < a.length) && decide (0 < (layer a (8 - x.1.length)).getD e.2 0))
def kidsAt (a : Auto) (x : Item) : List Item := match a[x.2]? with
  | none => []
  | some n => (n.edges.filter (goOn a x)).map fun e => (x.1 ++ [e.1], e.2)
theorem layer_in {a : Auto} {f i : Nat} (h : 0 < (layer a f).getD i 0) : i < a.length := by
  rcases Nat.lt_or_ge i a.length with c | c
  · exact c
  · have : (layer a f).getD i 0 = 0 := by
      rw [List.getD_eq_getElem?_getD, List.getElem?_eq_none (by rw [layer_len]; exact c)]
      rfl
    omega
theorem spell_zero {a : Auto} {f i : Nat} (h : (layer a f).getD i 0 = 0) : spell a f i = [] := List.length_eq_zero_iff.mp (by rw [spell_len, h])
theorem flat_filter {α β : Type} (p : α → Bool) (f : α → List β) : ∀ l : List α, (∀ x ∈ l, p x = false → f x = []) → (l.filter p).flatMap f = l.flatMap f
  | [], _ => rfl
  | x :: l, h => by
    rw [List.filter_cons, List.flatMap_cons]
    have ih := flat_filter p f l fun y hy => h y (List.mem_cons_of_mem _ hy)
    cases c : p x with
    | true => rw [if_pos rfl, List.flatMap_cons, ih]
    | false => rw [if_neg (by decide), h x List.mem_cons_self c, ih]; rfl
theorem spellAt_kids {a : Auto} {x : Item} {n : Node} (hn : a[x.2]? = some n) (hl : x.1.length ≤ 8) (hp : 0 < (layer a (9 - x.1.length)).getD x.2 0) :
    spellAt a x = (if n.ends = true then [x.1] else []) ++ (kidsAt a x).flatMap (spellAt a) := by
  obtain ⟨p, i⟩ := x
  simp only at hn hl hp
  obtain ⟨f, hf⟩ : ∃ f, 9 - p.length = f + 1 := ⟨8 - p.length, by omega⟩
  have hf8 : 8 - p.length = f := by omega
  unfold spellAt kidsAt
  simp only [hf] at hp ⊢
  have e : spell a (f + 1) i = (if n.ends = true then [[]] else []) ++ n.edges.flatMap fun (e : Nat × Nat) => (spell a f e.2).map fun w => e.1 :: w := by
    show (if (layer a (f + 1)).getD i 0 = 0 then [] else match a[i]? with
      | none => []
      | some n => (if n.ends = true then [[]] else []) ++ n.edges.flatMap fun (e : Nat × Nat) => (spell a f e.2).map fun w => e.1 :: w) = _
    rw [if_neg (by omega), hn]
  rw [e, hn, List.map_append]
  congr 1
  · cases n.ends
    · rfl
    · show [p ++ []] = [p]
      rw [List.append_nil]
  · simp only
    rw [List.map_flatMap, List.flatMap_map]
    rw [flat_filter (goOn a (p, i)) (fun e => (spell a (9 - (p ++ [e.1]).length) e.2).map fun v => p ++ [e.1] ++ v) n.edges ?_]
    · congr 1
      funext e
      have : 9 - (p ++ [e.1]).length = f := by rw [List.length_append, List.length_singleton]; omega
      rw [this, List.map_map]
      refine List.map_congr_left fun v _ => ?_
      show p ++ e.1 :: v = p ++ [e.1] ++ v
      simp
    · intro e _ h
      have h9 : 9 - (p ++ [e.1]).length = f := by rw [List.length_append, List.length_singleton]; omega
      simp only [h9]
      unfold goOn at h
      simp only [hf8] at h
      by_cases c0 : f = 0
      · subst c0; rfl
      · rw [decide_eq_true (by omega : 0 < f), Bool.true_and] at h
        by_cases c1 : 0 < (layer a f).getD e.2 0
        · rw [decide_eq_true (layer_in c1), decide_eq_true c1] at h
          cases h
        · rw [spell_zero (by omega)]; rfl
/-- how many states are gone through -/
def cost (a : Auto) : Nat → Nat → Nat
  | 0, _ => 1
  | f + 1, i => match a[i]? with
    | none => 1
    | some n => 1 + (n.edges.map fun (e : Nat × Nat) => cost a f e.2).sum
def costAt (a : Auto) (x : Item) : Nat := cost a (9 - x.1.length) x.2
theorem cost_pos (a : Auto) : ∀ f i, 0 < cost a f i
  | 0, _ => Nat.succ_pos _
  | f + 1, i => by
    show 0 < (match a[i]? with
    | none => 1
    | some n => 1 + (n.edges.map fun (e : Nat × Nat) => cost a f e.2).sum)
    cases a[i]? with
    | none => exact Nat.one_pos
    | some n => simp only; omega
theorem sum_filter {α : Type} (p : α → Bool) (f : α → Nat) : ∀ l : List α, ((l.filter p).map f).sum ≤ (l.map f).sum
  | [] => Nat.le_refl _
  | x :: l => by
    have ih := sum_filter p f l
    rw [List.filter_cons]
    by_cases c : p x = true
    · rw [if_pos c, List.map_cons, List.sum_cons, List.map_cons, List.sum_cons]; omega
    · rw [if_neg c, List.map_cons, List.sum_cons]; omega
theorem cost_kids {a : Auto} {x : Item} {n : Node} (hn : a[x.2]? = some n) (hl : x.1.length ≤ 8) : ((kidsAt a x).map (costAt a)).sum < costAt a x := by
  obtain ⟨p, i⟩ := x
  simp only at hn hl
  obtain ⟨f, hf⟩ : ∃ f, 9 - p.length = f + 1 := ⟨8 - p.length, by omega⟩
  have e1 : costAt a (p, i) = 1 + (n.edges.map fun (e : Nat × Nat) => cost a f e.2).sum := by
    show cost a (9 - p.length) i = _
    rw [hf]
    show (match a[i]? with
    | none => 1
    | some n => 1 + (n.edges.map fun (e : Nat × Nat) => cost a f e.2).sum) = _
    rw [hn]
  have e2 : kidsAt a (p, i) = (n.edges.filter (goOn a (p, i))).map fun e => (p ++ [e.1], e.2) := by
    unfold kidsAt
    simp only [hn]
  rw [e1, e2, List.map_map]
  have := sum_filter (goOn a (p, i)) (costAt a ∘ fun (e : Nat × Nat) => (p ++ [e.1], e.2)) n.edges
  have e3 : (n.edges.map (costAt a ∘ fun (e : Nat × Nat) => (p ++ [e.1], e.2))).sum = (n.edges.map fun (e : Nat × Nat) => cost a f e.2).sum := sum_congr fun e _ => by
    show cost a (9 - (p ++ [e.1]).length) e.2 = _
    have : 9 - (p ++ [e.1]).length = f := by rw [List.length_append, List.length_singleton]; omega
    rw [this]
  omega
theorem kid_ok {a : Auto} {x y : Item} (hy : y ∈ kidsAt a x) : y.1.length ≤ 8 ∧ 0 < (layer a (9 - y.1.length)).getD y.2 0 ∧ y.1.length = x.1.length + 1 := by
  unfold kidsAt at hy
  cases hn : a[x.2]? with
  | none => rw [hn] at hy; cases hy
  | some n =>
    rw [hn] at hy
    obtain ⟨e, he, rfl⟩ := List.mem_map.mp hy
    have h := (List.mem_filter.mp he).2
    unfold goOn at h
    simp only [Bool.and_eq_true, decide_eq_true_eq] at h
    have hlen : (x.1 ++ [e.1]).length = x.1.length + 1 := by rw [List.length_append]; rfl
    refine ⟨by rw [hlen]; omega, ?_, hlen⟩
    have : 9 - (x.1 ++ [e.1]).length = 8 - x.1.length := by rw [hlen]; omega
    rw [this]
    exact h.2.2
end Ls
/-! LsKey -/
/-! tuples of tuples of ints as keys -/
namespace Ls
open PySem
section
variable {prog : Program} {w : World}
inductive NestItems (P : Program) (w : World) (h : Heap) : List (List Int) → List Value → Prop
  | nil : NestItems P w h [] []
  | cons {ks : List Int} {b : Addr} {kss : List (List Int)} {vs : List Value} : IsTupleKey (intKind P w) h ks b → NestItems P w h kss vs → NestItems P w h (ks :: kss) (.ref b :: vs)
def IsNest (P : Program) (w : World) (h : Heap) (kss : List (List Int)) (a : Addr) : Prop :=
  ∃ o items n, h.get? a = some o ∧ o.cls = .type "tuple" ∧ o.data = .seq items n ∧ NestItems P w h kss items.toList
theorem NestItems.inj {h : Heap} {x y : List (List Int)} {vs : List Value} (hx : NestItems prog w h x vs) (hy : NestItems prog w h y vs) : x = y := by
  induction hx generalizing y with
  | nil => cases hy; rfl
  | cons h1 _ ih =>
    cases hy with
    | cons h2 t2 => rw [h1.inj h2, ih t2]
theorem IsNest.typeIs {s : Shared} {ks : List (List Int)} {a : Addr} (x : IsNest prog w s.heap ks a) : s.TypeIs (.ref a) "tuple" := let ⟨o, _, _, ho, hc, _⟩ := x; ⟨o, ho, hc⟩
theorem IsNest.inj {h : Heap} {a : Addr} {x y : List (List Int)} (hx : IsNest prog w h x a) (hy : IsNest prog w h y a) : x = y := by
  obtain ⟨o, items, n, ho, _, hd, hi⟩ := hx
  obtain ⟨o', items', n', ho', _, hd', hi'⟩ := hy
  obtain rfl : o = o' := Option.some.inj (ho.symm.trans ho')
  rw [hd] at hd'
  injection hd' with h1 _
  subst h1
  exact hi.inj hi'
theorem IsNest.keeps {h h' : Heap} {ks : List (List Int)} {a d : Addr} {o : Obj} {es ep} (x : IsNest prog w h ks a) (ho : h.get? d = some o) (hd : o.data = .dict es ep) (hs : Heap.SameBut d h h') :
    IsNest prog w h' ks a := by
  obtain ⟨o', items, n, ho', hc, hd', hi⟩ := x
  have hne : a ≠ d := by
    rintro rfl
    obtain rfl : o' = o := Option.some.inj (ho'.symm.trans ho)
    rw [hd] at hd'; exact nomatch hd'
  refine ⟨o', items, n, (hs.2 a hne).trans ho', hc, hd', ?_⟩
  generalize items.toList = its at hi
  induction hi with
  | nil => exact .nil
  | cons h1 _ ih => exact .cons (h1.keeps ho hd hs) ih
def nestHash (P : Program) (w : World) (kss : List (List Int)) : Int := reduceHash (Builtin.Tuple.tupleHashOf (kss.map (tupleKeyHash (intKind P w))))
def nestDraws (kss : List (List Int)) : Nat := (kss.map fun ks => ks.length + 1).sum + 1
variable {A : Around} {E : Value → Shared → Prop} {s : Shared}
theorem sum_snoc (l : List Nat) (n : Nat) : (l ++ [n]).sum = l.sum + n := by simp
theorem pyHash_nest {kss : List (List Int)} {a : Addr} {Q : Int → Shared → Prop} (hu : A.units + 3 < cLine) (hk : IsNest prog w s.heap kss a) (h : Q (nestHash prog w kss) { s with toks := s.toks + nestDraws kss }) :
    wpAny (model prog w) A (pyHash (.ref a)) Q E s := by
  have hT := hk.typeIs
  obtain ⟨o, items, n, ho, _, hd, hi⟩ := hk
  unfold pyHash
  first | unfold pyHashByItsType | skip
  first | refine wpAny_bind (wpAny_cRoomFor_or (.inr (by omega)) ?_) | skip
  refine wpAny_bind (wpAny_specialOf hT F.slot_tuple_hash.lookup ?_)
  show wpAny _ _ (if (some (Value.builtin "tuple.__hash__") == some Value.none) = true then _ else _) Q E s
  rw [if_neg (by rw [beq_builtin_none]; exact Bool.false_ne_true)]
  refine wpAny_bind (wpAny_specialOf hT F.slot_tuple_hash.lookup ?_)
  show wpAny _ _ (callSpecialIfBoundUnlessNone? (.ref a) "__hash__" _ >>= _) Q E s
  refine wpAny_bind (wpAny_callSpecialIfBoundUnlessNone?_slot hT F.slot_tuple_hash (wpAny_call_entry F.slot_tuple_hash hT F.entry_tuple_hash ?_ (F.args_tuple_hash_1 _)))
  show wpAny _ _ (Builtin.Tuple.tupleItemsOf (.ref a) >>= _) _ _ s
  refine wpAny_bind (wpAny_tupleItemsOf ho hd ?_)
  refine wpAny_bind ?_
  rw [← Array.forIn_toList]
  refine wpAny_forIn_list _
    (fun rest (b : Array Int) s' => ∃ done left, kss = done ++ left ∧ NestItems prog w s.heap left rest ∧ b.toList = done.map (tupleKeyHash (intKind prog w)) ∧ s' = { s with toks := s.toks + (done.map fun ks => ks.length + 1).sum })
    _ ?_ ?_ _ _ ⟨[], kss, rfl, hi, rfl, rfl⟩
  · rintro x rest b s' ⟨done, left, rfl, hl, hb, rfl⟩
    cases hl with
    | @cons k bb ks' _ h1 hl' =>
      refine wpAny_bind (wpAny_pyHash_tuple (knd := intKind prog w) (ks := k) (show A.units + 1 < cLine by omega) h1 ?_)
      have e : s.toks + (done.map fun ks => ks.length + 1).sum + (k.length + 1) = s.toks + ((done ++ [k]).map fun ks => ks.length + 1).sum := by
        rw [List.map_append, List.map_singleton, sum_snoc]; omega
      first
        | exact wpAny_pure ⟨done ++ [k], ks', by simp, hl', by simp [hb], by rw [← e]⟩
        | exact wpAny_bind (wpAny_pure (wpAny_pure ⟨done ++ [k], ks', by simp, hl', by simp [hb], by rw [← e]⟩))
  · rintro b s' ⟨done, left, rfl, hl, hb, rfl⟩
    cases hl
    rw [List.append_nil] at h
    show wpAny _ _ (retInt (Builtin.Tuple.tupleHashOf b.toList)) _ _ _
    rw [hb]
    refine wpAny_ret_mkInt ?_
    show wpAny _ _ (if (decide (-(2 : Int) ^ 63 ≤ Builtin.Tuple.tupleHashOf (done.map (tupleKeyHash (intKind prog w)))) && decide (Builtin.Tuple.tupleHashOf (done.map (tupleKeyHash (intKind prog w))) < 2 ^ 63)) = true then _ else _) Q E _
    unfold nestHash reduceHash nestDraws at h
    by_cases hr : (decide (-(2 : Int) ^ 63 ≤ Builtin.Tuple.tupleHashOf (done.map (tupleKeyHash (intKind prog w)))) && decide (Builtin.Tuple.tupleHashOf (done.map (tupleKeyHash (intKind prog w))) < 2 ^ 63)) = true
    · rw [if_pos hr]
      rw [if_pos hr] at h
      exact wpAny_pure (by simpa [Nat.add_assoc] using h)
    · rw [if_neg hr]
      rw [if_neg hr] at h
      exact wpAny_bind (wpAny_rule (wpAny_pure (by simpa [Nat.add_assoc] using h)))
theorem quiet_tuple {knd : KeyKind prog w Int} {ks : List Int} {a : Addr} {n : Nat} {Q : Bool → Shared → Prop} (hk : IsTupleKey knd s.heap ks a) (h : Q true s) : wpAny (model prog w) A (eqIsQuiet (n + 1) (.ref a)) Q E s := by
  have hT := hk.typeIs
  obtain ⟨o, items, n', ho, _, hd, hi⟩ := hk
  unfold eqIsQuiet
  refine wpAny_bind (wpAny_specialOf hT F.slot_tuple_eq.lookup ?_)
  show wpAny _ _ (isInstance (.ref a) (.type "tuple") >>= _) _ _ s
  refine wpAny_bind (wpAny_isInstance hT isSubtype_tuple_tuple ?_)
  simp only [Bool.not_true, Bool.false_eq_true, if_false]
  refine wpAny_bind (wpAny_seqItems ho hd ?_)
  refine wpAny_bind ?_
  show wpAny _ _ (forIn items _ _) _ _ s
  rw [← Array.forIn_toList]
  refine wpAny_forIn_list _ (fun rest r s' => r.1 = none ∧ s' = s ∧ ∀ v ∈ rest, carriedByValue v = true) _ ?_ ?_ _ _ ⟨rfl, rfl, hi.byValue⟩
  · rintro v rest r s' ⟨hr, rfl, hall⟩
    rw [eqIsQuiet_byValue _ (hall v List.mem_cons_self)]
    refine wpAny_bind (wpAny_pure ?_)
    simp only [Bool.not_true, Bool.false_eq_true, if_false]
    exact wpAny_pure ⟨rfl, rfl, fun u hu' => hall u (List.mem_cons_of_mem _ hu')⟩
  · rintro ⟨r1, r2⟩ s' ⟨hr, rfl, _⟩
    simp only at hr
    subst hr
    exact wpAny_pure h
theorem quiet_nest {kss : List (List Int)} {a : Addr} {Q : Bool → Shared → Prop} (hk : IsNest prog w s.heap kss a) (h : Q true s) : wpAny (model prog w) A (eqIsQuiet 8 (.ref a)) Q E s := by
  have hT := hk.typeIs
  obtain ⟨o, items, n, ho, _, hd, hi⟩ := hk
  unfold eqIsQuiet
  refine wpAny_bind (wpAny_specialOf hT F.slot_tuple_eq.lookup ?_)
  show wpAny _ _ (isInstance (.ref a) (.type "tuple") >>= _) _ _ s
  refine wpAny_bind (wpAny_isInstance hT isSubtype_tuple_tuple ?_)
  simp only [Bool.not_true, Bool.false_eq_true, if_false]
  refine wpAny_bind (wpAny_seqItems ho hd ?_)
  refine wpAny_bind ?_
  show wpAny _ _ (forIn items _ _) _ _ s
  rw [← Array.forIn_toList]
  refine wpAny_forIn_list _ (fun rest r s' => r.1 = none ∧ s' = s ∧ ∃ left, NestItems prog w s.heap left rest) _ ?_ ?_ _ _ ⟨rfl, rfl, kss, hi⟩
  · rintro v rest r s' ⟨hr, rfl, left, hl⟩
    cases hl with
    | cons h1 hl' =>
      refine wpAny_bind (quiet_tuple h1 ?_)
      simp only [Bool.not_true, Bool.false_eq_true, if_false]
      exact wpAny_pure ⟨rfl, rfl, _, hl'⟩
  · rintro ⟨r1, r2⟩ s' ⟨hr, rfl, _⟩
    simp only at hr
    subst hr
    exact wpAny_pure h
theorem nest_eq_tree {x y : List (List Int)} {a b : Addr} {P : Fin → Shared → Prop} (hu : A.units + 1 < cLine) (hx : IsNest prog w s.heap x a) (hy : IsNest prog w s.heap y b) (h : P (.done (.ret (.bool (decide (x = y))))) s) :
    wpAny (model prog w) A (Builtin.«tuple.__eq__» ⟨[.ref a, .ref b], []⟩) P E s := by
  have hTb := hy.typeIs
  obtain ⟨oa, xs, na, hoa, _, hda, hia⟩ := hx
  obtain ⟨ob, ys, nb, hob, _, hdb, hib⟩ := hy
  show wpAny _ _ (isInstance (.ref b) (.type "tuple") >>= _) _ _ s
  refine wpAny_bind (wpAny_isInstance hTb isSubtype_tuple_tuple ?_)
  simp only [Bool.not_true, Bool.false_eq_true, if_false]
  refine wpAny_bind (wpAny_tupleItemsOf hoa hda ?_)
  refine wpAny_bind (wpAny_tupleItemsOf hob hdb ?_)
  refine wpAny_bind ?_
  refine wpAny_forIn_list _
    (fun rest r s' => r.1 = none ∧ s' = s ∧ ∃ x' y' xs' ys', rest = List.zip xs' ys' ∧ NestItems prog w s.heap x' xs' ∧ NestItems prog w s.heap y' ys' ∧ decide (x' = y') = decide (x = y) ∧ (xs'.length == ys'.length) = (xs.size == ys.size))
    _ ?_ ?_ _ _ ⟨rfl, rfl, x, y, xs.toList, ys.toList, rfl, hia, hib, rfl, by simp⟩
  · rintro ⟨u, v⟩ rest r s' ⟨hr, rfl, x', y', xs', ys', hz, hx', hy', hdec, hlen⟩
    cases hx' with
    | nil => simp at hz
    | @cons k1 u' x'' xs'' h1 hx'' =>
      cases hy' with
      | nil => simp at hz
      | @cons k2 v' y'' ys'' h2 hy'' =>
        simp only [List.zip_cons_cons, List.cons.injEq, Prod.mk.injEq] at hz
        obtain ⟨⟨rfl, rfl⟩, rfl⟩ := hz
        refine wpAny_bind (wpAny_eqBool_tuple (knd := intKind prog w) (x := k1) (y := k2) (by omega) h1 h2 ?_)
        by_cases hk : k1 = k2
        · subst hk
          rw [decide_eq_true rfl]
          simp only [Bool.not_true, Bool.false_eq_true, if_false]
          refine wpAny_pure ⟨rfl, rfl, x'', y'', xs'', ys'', rfl, hx'', hy'', ?_, by simpa using hlen⟩
          rw [← hdec]
          by_cases hxy : x'' = y''
          · simp [hxy]
          · simp [hxy]
        · rw [decide_eq_false hk]
          simp only [Bool.not_false, if_true]
          have hf : decide (x = y) = false := by rw [← hdec]; simp [hk]
          rw [hf] at h
          exact wpAny_bind (wpAny_pure (wpAny_pure (wpAny_pure h)))
  · rintro ⟨r1, r2⟩ s' ⟨hr, rfl, x', y', xs', ys', hz, hx', hy', hdec, hlen⟩
    simp only at hr
    subst hr
    refine wpAny_pure ?_
    have hfin : (xs.size == ys.size) = decide (x = y) := by
      rw [← hdec, ← hlen]
      cases hx' with
      | nil =>
        cases hy' with
        | nil => simp
        | cons _ _ => simp
      | cons _ _ =>
        cases hy' with
        | nil => simp
        | cons _ _ => simp at hz
    show P (.done (.ret (.bool (xs.size == ys.size)))) s'
    rw [hfin]; exact h
theorem eqBool_nest {x y : List (List Int)} {a b : Addr} {Q : Bool → Shared → Prop} (hu : A.units + 3 < cLine) (hx : IsNest prog w s.heap x a) (hy : IsNest prog w s.heap y b) (h : Q (decide (x = y)) s) :
    wpAny (model prog w) A (eqBool (.ref a) (.ref b)) Q E s := by
  unfold eqBool
  try with_reducible refine wpAny_holding ?_
  show wpAny _ _ (if (Value.ref a == Value.ref b) = true then _ else _) Q E s
  by_cases hab : (Value.ref a == Value.ref b) = true
  · rw [if_pos hab]
    have e : a = b := by have := eq_of_beq hab; injection this
    subst e
    obtain rfl := hx.inj hy
    exact wpAny_bind (wpAny_rule (wpAny_pure (by simpa using h)))
  · rw [if_neg hab]
    exact wpAny_bind (wpAny_richCompare_same_room (op := .Eq) hx.typeIs hy.typeIs F.slot_tuple_eq
      (wpAny_call_entry F.slot_tuple_eq hx.typeIs F.entry_tuple_eq (nest_eq_tree (show A.units + 1 + 1 < cLine by omega) hx hy ⟨_, rfl, (fun e => nomatch e), wpAny_truthy_bool h⟩) (F.args_tuple_eq_2 _ _)) (by omega))
end
def nestKind (P : Program) (w : World) : HeapKind P w (List (List Int)) where
  is := IsNest P w
  hash := nestHash P w
  draws := nestDraws
  room := fun A => A.units + 3 < cLine
  inj := fun hx hy => hx.inj hy
  keeps := fun x ho hd hs => x.keeps ho hd hs
  pyHash := fun hu hk h => pyHash_nest hu hk h
  eqBool := fun hu hx hy h => eqBool_nest hu hx hy h
  quiet := fun hk h => quiet_nest hk h
end Ls
/-! LsDict -/
/-! a dict whose keys are tuples of tuples of ints -/
namespace Ls
open PySem PySem.Spec PyProof.Rows L2
abbrev NKey := List (List Int)
/-- a tuple of ints -/
def TupI (H : Hp) (a : Addr) (ks : List Int) : Prop := H a = some (.tup (ks.map V.int))
/-- a tuple of tuples of ints -/
def TupN (H : Hp) (a : Addr) (kss : NKey) : Prop := ∃ bs : List Addr, H a = some (.tup (bs.map V.ref)) ∧ Paired (TupI H) bs kss
/-- the tuples stay -/
def TupsStay (H H' : Hp) : Prop := ∀ b ys, H b = some (.tup ys) → H' b = some (.tup ys)
theorem TupI.stay {H H' : Hp} {a : Addr} {ks : List Int} (h : TupI H a ks) (t : TupsStay H H') : TupI H' a ks := t _ _ h
theorem TupN.stay {H H' : Hp} {a : Addr} {kss : NKey} (h : TupN H a kss) (t : TupsStay H H') : TupN H' a kss := by
  obtain ⟨bs, e, p⟩ := h
  exact ⟨bs, t _ _ e, Paired.mapP p fun _ _ z => z.stay t⟩
theorem ints_items {P : Program} {w : World} : ∀ {k : List Int} {us : List Value}, Vals (k.map V.int) us → ItemsAre (intKind P w) k us
  | [], _, .nil => .nil
  | n :: k, _, .cons r t => by
    obtain ⟨tk, rfl⟩ := r
    exact .cons (intKind_is P w n tk) (ints_items t)
section
variable {P : Program} {w : World} {H : Hp} {h : Heap} {a : Addr}
theorem key_ints {ks : List Int} (ok : HOk P w H h) (e : TupI H a ks) : IsTupleKey (intKind P w) h ks a := by
  obtain ⟨_, its, r, o, h1, h2, n, h3⟩ := (show ObjOk P w H h a (.tup (ks.map V.int)) from ok a _ e)
  exact ⟨o, its.toArray, n, h1, h2, h3, by simpa using ints_items r⟩
theorem key_nest {kss : NKey} (ok : HOk P w H h) (e : TupN H a kss) : IsNest P w h kss a := by
  obtain ⟨bs, e, p⟩ := e
  obtain ⟨_, its, r, o, h1, h2, n, h3⟩ := (show ObjOk P w H h a (.tup (bs.map V.ref)) from ok a _ e)
  refine ⟨o, its.toArray, n, h1, h2, h3, ?_⟩
  have go : ∀ {bs : List Addr} {kss : NKey} {its : List Value}, Paired (TupI H) bs kss → Vals (bs.map V.ref) its → NestItems P w h kss its := by
    intro bs kss its p
    induction p generalizing its with
    | nil => intro r; rw [List.map_nil] at r; cases r; exact .nil
    | cons q t ih =>
      intro r
      rw [List.map_cons] at r
      cases r with
      | cons r1 r2 =>
        cases (show _ = Value.ref _ from r1)
        exact .cons (key_ints ok q) (ih r2)
  simpa using go p r
end
/-- one entry, told and held -/
def EnR (p : NKey × Addr × V) (q : NKey × Addr × Value) : Prop := p.1 = q.1 ∧ p.2.1 = q.2.1 ∧ RelV p.2.2 q.2.2
def DNphi (P : Program) (w : World) (a : Addr) (xs : List (NKey × Addr × V)) (h : Heap) : Prop :=
  (a == sysModules) = false ∧ xs.length ≤ sizeLine ∧ ∃ ys : List (NKey × Addr × Value), Paired EnR xs ys ∧
    ∃ o es ep, h.get? a = some o ∧ o.ExactDict ∧ o.data = .dict es ep ∧ es.toList = ys.map (entryOfKey (nestKind P w)) ∧ (ys.map (·.1)).Nodup
/-- a dict: its keys (tuples of tuples of ints, at these addresses) and values, in order -/
def DN (P : Program) (w : World) (a : Addr) (xs : List (NKey × Addr × V)) : HO := .ext (DNphi P w a xs)
/-- its keys are tuples that stand there -/
def NK (H : Hp) (xs : List (NKey × Addr × V)) : Prop := ∀ x ∈ xs, TupN H x.2.1 x.1
theorem NK.stay {H H' : Hp} {xs : List (NKey × Addr × V)} (h : NK H xs) (t : TupsStay H H') : NK H' xs := fun x hx => (h x hx).stay t
theorem NK.snoc {H : Hp} {xs : List (NKey × Addr × V)} {k : NKey} {b : Addr} {v : V} (h : NK H xs) (e : TupN H b k) : NK H (xs ++ [(k, b, v)]) := fun x hx => by
  rcases List.mem_append.mp hx with q | q
  · exact h x q
  · have : x = (k, b, v) := by simpa using q
    subst this; exact e
def valN (xs : List (NKey × Addr × V)) (k : NKey) : Option V := (xs.find? fun x => decide (x.1 = k)).map (·.2.2)
theorem valN_nil (k : NKey) : valN [] k = none := rfl
theorem valN_cons (p : NKey × Addr × V) (xs : List (NKey × Addr × V)) (k : NKey) : valN (p :: xs) k = if p.1 = k then some p.2.2 else valN xs k := by
  unfold valN
  rw [List.find?_cons]
  by_cases e : p.1 = k
  · rw [if_pos e, decide_eq_true e]; rfl
  · rw [if_neg e, decide_eq_false e]
theorem en_val {xs : List (NKey × Addr × V)} {ys : List (NKey × Addr × Value)} (r : Paired EnR xs ys) (k : NKey) : RelO (valN xs k) ((atKey ys k).map (·.2)) := by
  induction r with
  | nil => exact True.intro
  | @cons p q ps qs h t ih =>
    obtain ⟨h1, _, h2⟩ := h
    rw [valN_cons]
    by_cases e : p.1 = k
    · have e' : q.1 = k := h1.symm.trans e
      have b : atKey (q :: qs) k = some q.2 := by simp [atKey, List.find?_cons, e']
      rw [if_pos e, b]; exact h2
    · have e' : ¬ q.1 = k := fun z => e (h1.trans z)
      have b : atKey (q :: qs) k = atKey qs k := by simp [atKey, List.find?_cons, e']
      rw [if_neg e, b]; exact ih
theorem dn_ok {P : Program} {w : World} {H : Hp} {h : Heap} {a : Addr} {xs : List (NKey × Addr × V)} (p : DNphi P w a xs h) : ObjOk P w H h a (DN P w a xs) := by
  refine ⟨p, ?_, fun h1 h2 q k => ?_⟩
  · obtain ⟨_, _, _, _, o, _, _, e, _⟩ := p
    exact ⟨o, e⟩
  · obtain ⟨z1, z2, ys, r, o, es, ep, e, c⟩ := q
    exact ⟨z1, z2, ys, r, o, es, ep, k o e, c⟩
theorem dn_rd {P : Program} {w : World} {H : Hp} {h : Heap} {a : Addr} {xs : List (NKey × Addr × V)} (ok : HOk P w H h) (e : Rd H a (DN P w a xs)) (nk : NK H xs) :
    (a == sysModules) = false ∧ xs.length ≤ sizeLine ∧ ∃ ys, Paired EnR xs ys ∧ h.DictOfH (nestKind P w) a ys := by
  obtain ⟨⟨z1, z2, ys, r, o, es, ep, h1, h2, h3, h4, h5⟩, _, _⟩ := (show ObjOk P w H h a (DN P w a xs) from e.ok ok)
  refine ⟨z1, z2, ys, r, o, es, ep, h1, h2, h3, h4, ?_, h5⟩
  have go : ∀ {xs : List (NKey × Addr × V)} {ys : List (NKey × Addr × Value)}, Paired EnR xs ys → NK H xs → ∀ x ∈ ys, IsNest P w h x.1 x.2.1 := by
    intro xs ys q
    induction q with
    | nil => intro _ x hx; exact nomatch hx
    | @cons p q ps qs hq t ih =>
      intro nk x hx
      rcases List.mem_cons.mp hx with e | hx
      · subst e
        have := key_nest ok (nk p List.mem_cons_self)
        rw [hq.1, hq.2.1] at this
        exact this
      · exact ih (fun y hy => nk y (List.mem_cons_of_mem _ hy)) x hx
  exact go r nk
/-- what the dict at a holds at the key -/
def NGet (P : Program) (w : World) (H : Hp) (a : Addr) (y : V) (r : Option V) : Prop := ∃ xs k b, Rd H a (DN P w a xs) ∧ NK H xs ∧ y = .ref b ∧ TupN H b k ∧ r = valN xs k
/-- the heap behind a[y] = v, y being new -/
def NPut (P : Program) (w : World) (H : Hp) (a : Addr) (y v : V) (H' : Hp) : Prop := ∃ xs k b, H a = some (DN P w a xs) ∧ NK H xs ∧ y = .ref b ∧ TupN H b k ∧ valN xs k = none ∧ xs.length < sizeLine ∧ H' = upd H a (DN P w a (xs ++ [(k, b, v)]))
section
variable {X : Cx} {pins : List (Addr × Obj)} {σ : L2.St} {H : Hp} {s : Shared} {a : Addr} {y v : V} {u r : Value} {o : Option V} {A : Around} {E : Value → Shared → Prop}
theorem n_typeIs (I : Inv X pins σ H s) (g : NGet X.prog X.w H a y o) : s.TypeIs (.ref a) "dict" := by
  obtain ⟨xs, k, b, e, nk, _⟩ := g
  obtain ⟨_, _, ys, _, dd⟩ := dn_rd I.hok e nk
  exact dd.typeIs
theorem n_getItem {Q : Value → Shared → Prop} (hu : A.units + 4 < cLine) (I : Inv X pins σ H s) (g : NGet X.prog X.w H a y (some v)) (ry : RelV y u) (h : ∀ w' s', Inv X pins σ H s' → RelV v w' → Q w' s') :
    wpAny (model X.prog X.w) A (getItem (.ref a) u) Q E s := by
  obtain ⟨xs, k, b, e, nk, ey, eb, l⟩ := g
  subst ey
  cases (show u = Value.ref b from ry)
  obtain ⟨hd, z, ys, rel, dd⟩ := dn_rd I.hok e nk
  obtain ⟨w', hw, rw'⟩ := RelO.some_of (v := v) (o := (atKey ys k).map (·.2)) (by rw [l]; exact en_val rel k)
  obtain ⟨p, hp, hp2⟩ := Option.map_eq_some_iff.mp hw
  refine wpAny_getItem_heap (knd := nestKind X.prog X.w) (show A.units + 1 + 3 < cLine by omega) (key_nest I.hok eb) dd hp ?_
  rw [hp2]
  exact h w' _ (I.tok _) rw'
theorem n_notIn {Q : Value → Shared → Prop} (hu : A.units + 4 < cLine) (I : Inv X pins σ H s) (g : NGet X.prog X.w H a y o) (ry : RelV y u) (h : ∀ s', Inv X pins σ H s' → Q (.bool (!o.isSome)) s') :
    wpAny (model X.prog X.w) A (compareOp .NotIn u (.ref a)) Q E s := by
  obtain ⟨xs, k, b, e, nk, ey, eb, l⟩ := g
  subst ey
  cases (show u = Value.ref b from ry)
  obtain ⟨hd, z, ys, rel, dd⟩ := dn_rd I.hok e nk
  refine wpAny_notIn_heap (knd := nestKind X.prog X.w) (show A.units + 1 + 3 < cLine by omega) (key_nest I.hok eb) hd dd ?_
  have q := (en_val rel k).isSome_eq
  rw [Option.isSome_map] at q
  rw [← q, ← l]
  exact h _ (I.tok _)
theorem n_in {Q : Value → Shared → Prop} (hu : A.units + 4 < cLine) (I : Inv X pins σ H s) (g : NGet X.prog X.w H a y o) (ry : RelV y u) (h : ∀ s', Inv X pins σ H s' → Q (.bool o.isSome) s') :
    wpAny (model X.prog X.w) A (compareOp .In u (.ref a)) Q E s := by
  obtain ⟨xs, k, b, e, nk, ey, eb, l⟩ := g
  subst ey
  cases (show u = Value.ref b from ry)
  obtain ⟨hd, z, ys, rel, dd⟩ := dn_rd I.hok e nk
  refine wpAny_in_heap (knd := nestKind X.prog X.w) (show A.units + 1 + 3 < cLine by omega) (key_nest I.hok eb) hd dd ?_
  have q := (en_val rel k).isSome_eq
  rw [Option.isSome_map] at q
  rw [← q, ← l]
  exact h _ (I.tok _)
theorem n_setItem {H' : Hp} {Q : Unit → Shared → Prop} (hu : A.units + 4 < cLine) (I : Inv X pins σ H s) (g : NPut X.prog X.w H a y v H') (ry : RelV y u) (rv : RelV v r) (h : ∀ s', Inv X pins σ H' s' → Q () s') :
    wpAny (model X.prog X.w) A (setItem (.ref a) u r) Q E s := by
  obtain ⟨xs, k, b, e, nk, ey, eb, l, hl, eH⟩ := g
  subst ey eH
  cases (show u = Value.ref b from ry)
  obtain ⟨hd, z, ys, rel, dd⟩ := dn_rd I.hok (.inl e) nk
  have hz : ys.length ≤ sizeLine := by rw [← Paired.length rel]; exact z
  have hn : atKey ys k = none := by
    have q := (en_val rel k).isSome_eq
    rw [Option.isSome_map, l] at q
    cases c : atKey ys k with
    | none => rfl
    | some p => rw [c] at q; cases q
  refine wpAny_setItem_heap (knd := nestKind X.prog X.w) (hsz := hz) (show A.units + 1 + 3 < cLine by omega) (key_nest I.hok eb) dd fun h' dd' hs => h _ ?_
  rw [storedH_new hn] at dd'
  obtain ⟨q, es, ep, hq, h2, h3, h4, _, h5⟩ := dd'
  refine d_write I (by rw [e]; exact True.intro) hs ⟨q, hq⟩ (dn_ok ⟨hd, by rw [List.length_append, List.length_singleton]; omega, _, Paired.snoc rel ⟨rfl, rfl, rv⟩, q, es, ep, hq, h2, h3, h4, h5⟩)
end
def tNGet (P : Program) (w : World) (td ty : TE) : TE := fun σ H Q => td σ H fun x H1 => ty σ H1 fun y H2 => ∃ a v, x = .ref a ∧ NGet P w H2 a y (some v) ∧ Q v H2
def tNNotIn (P : Program) (w : World) (ty td : TE) : TE := fun σ H Q => ty σ H fun y H1 => td σ H1 fun x H2 => ∃ a o, x = .ref a ∧ NGet P w H2 a y o ∧ Q (.bl (!o.isSome)) H2
def tNIn (P : Program) (w : World) (ty td : TE) : TE := fun σ H Q => ty σ H fun y H1 => td σ H1 fun x H2 => ∃ a o, x = .ref a ∧ NGet P w H2 a y o ∧ Q (.bl o.isSome) H2
def sNPut (P : Program) (w : World) (td ty tv : TE) : TS := fun D σ H => tv σ H fun v H1 => td σ H1 fun x H2 => ty σ H2 fun y H3 => ∃ a H4, x = .ref a ∧ NPut P w H3 a y v H4 ∧ D.nx σ H4
def tNNew (P : Program) (w : World) : TE := fun _ H Q => ∀ p, H p = none → Q (.ref p) (upd H p (DN P w p []))
section
variable {X : Cx} {o i e value : Expr} {pos pos' tpos : Pos} {td ty tv : TE}
theorem pe_nget (hu : X.A.units + 4 < cLine) (ho : PE X o td) (hi : PE X i ty) (hs : NoSl i) : PE X (.Subscript o i pos) (tNGet X.prog X.w td ty) := by
  refine ⟨fun pins s σ H Q I h => ?_⟩
  refine subD_of PySem.F.slot_dict_getitem.lookup hs (thn (ho.run pins s σ H _ I h) fun u s1 ⟨x, H1, I1, rx, q1⟩ => thn (hi.run pins s1 σ H1 _ I1 q1) fun iv s2 ⟨y, H2, I2, ry, a, v, ex, g, q2⟩ => ?_)
  subst ex
  obtain rfl : u = Value.ref a := rx
  exact ⟨n_typeIs I2 g, n_getItem hu I2 g ry fun w' s3 I3 rw' => ⟨v, H2, I3, rw', q2⟩⟩
theorem pc_nnotin (hu : X.A.units + 4 < cLine) (hi : PE X i ty) (ho : PE X o td) : PC X .NotIn i o (tNNotIn X.prog X.w ty td) := by
  refine ⟨fun pins s σ H Q I h => ?_⟩
  refine thn (hi.run pins s σ H _ I h) fun iv s1 ⟨y, H1, I1, ry, q1⟩ => thn (ho.run pins s1 σ H1 _ I1 q1) fun u s2 ⟨x, H2, I2, rx, a, ov, ex, g, q2⟩ => ?_
  subst ex
  obtain rfl : u = Value.ref a := rx
  exact n_notIn hu I2 g ry fun s3 I3 => ⟨.bl (!ov.isSome), H2, I3, rfl, q2⟩
theorem pc_nin (hu : X.A.units + 4 < cLine) (hi : PE X i ty) (ho : PE X o td) : PC X .In i o (tNIn X.prog X.w ty td) := by
  refine ⟨fun pins s σ H Q I h => ?_⟩
  refine thn (hi.run pins s σ H _ I h) fun iv s1 ⟨y, H1, I1, ry, q1⟩ => thn (ho.run pins s1 σ H1 _ I1 q1) fun u s2 ⟨x, H2, I2, rx, a, ov, ex, g, q2⟩ => ?_
  subst ex
  obtain rfl : u = Value.ref a := rx
  exact n_in hu I2 g ry fun s3 I3 => ⟨.bl ov.isSome, H2, I3, rfl, q2⟩
theorem ps_nput (hu : X.A.units + 4 < cLine) (ho : PE X o td) (hi : PE X i ty) (hv : PE X value tv) (hs : swapsWith value (some (.Subscript o i pos')) pos.line X.env = pure false) :
    PS X (.Assign [.Subscript o i pos'] value pos) (sNPut X.prog X.w td ty tv) := by
  refine ⟨fun pins s σ H D I h => ?_⟩
  refine wpAny_Assign_Subscript (thn (hv.run pins s σ H _ I h) fun r s1 ⟨v, H1, I1, rv, q1⟩ => thn (ho.run pins s1 σ H1 _ I1 q1) fun u s2 ⟨x, H2, I2, rx, q2⟩ => thn (hi.run pins s2 σ H2 _ I2 q2) fun iv s3 ⟨y, H3, I3, ry, a, H4, ex, g, q3⟩ => ?_) hs
  subst ex
  obtain rfl : u = Value.ref a := rx
  exact n_setItem hu I3 g ry rv fun s4 I4 => ⟨σ, H4, I4, q3⟩
theorem pe_nnew : PE X (.Dict [] [] pos) (tNNew X.prog X.w) := ⟨fun pins s σ H Q I h =>
  wpAny_Dict_empty ⟨.ref s.heap.objs.size, _, I.laid (a := s.heap.objs.size) (o := DN X.prog X.w s.heap.objs.size []) (t' := s.toks) (fun _ _ q => Heap.get?_push_of_some _ q) (Nat.le_refl _)
    (dn_ok ⟨beq_eq_false_iff_ne.mpr (Ne.symm (Nat.ne_of_lt I.big)), Nat.zero_le _, [], .nil, _, #[], 0, Heap.get?_push_size _ rfl, ⟨rfl, rfl, rfl⟩, rfl, rfl, List.nodup_nil⟩), rfl, h _ (I.hok.fresh (Nat.le_refl _))⟩⟩
end
def rLenN (P : Program) (w : World) : List V → Hp → VK → Prop := fun xs H Q => ∃ (p : Addr) (ys : List (NKey × Addr × V)), xs = [.ref p] ∧ Rd H p (DN P w p ys) ∧ NK H ys ∧ Q (.int ((ys.length : Nat) : Int)) H
theorem call_len_dN {X : Cx} : CallR X (.builtin "len") (rLenN X.prog X.w) := by
  intro pins s σ H xs us Q I r h
  obtain ⟨p, kvs, rfl, hp, nk, q⟩ := h
  obtain ⟨u, rfl, rx⟩ := vals1 r
  obtain rfl : u = .ref p := rx
  obtain ⟨hd, z, ys, rel, dd⟩ := dn_rd I.hok hp nk
  have hl : kvs.length = ys.length := Paired.length rel
  refine call_len_dictH hd dd (by rw [← hl]; rw [sizeLine_eq] at z; omega) ?_
  rw [← hl]
  exact ⟨.int ((kvs.length : Nat) : Int), H, I.tok _, ⟨_, rfl⟩, q⟩
/-! walked: its keys, in order -/
def ItN (P : Program) (w : World) (d : Addr) (o : Obj) (xs : List (NKey × Addr × V)) : It :=
  ⟨fun i H => H d = some (.frz o (DN P w d xs)) ∧ i < xs.length, fun i H x H' => H' = H ∧ ∃ (k : NKey) (q : Addr) (v : V), xs[i]? = some (k, q, v) ∧ x = .ref q, fun i H => H d = some (.frz o (DN P w d xs)) ∧ xs.length ≤ i⟩
theorem frzN {X : Cx} {pins : List (Addr × Obj)} {σ : L2.St} {H : Hp} {s : Shared} {d : Addr} {o : Obj} {xs : List (NKey × Addr × V)} (I : Inv X pins σ H s) (h : H d = some (.frz o (DN X.prog X.w d xs))) :
    (d == sysModules) = false ∧ s.heap.get? d = some o ∧ o.ExactDict ∧ ∃ (es : Array DictEntry) (ep : Nat), o.data = .dict es ep ∧ es.size = xs.length ∧
      ∀ (i : Nat) (k : NKey) (q : Addr) (v : V), xs[i]? = some (k, q, v) → ∃ en : DictEntry, es[i]? = some en ∧ en.key = .ref q := by
  obtain ⟨hd, ⟨z1, z2, ys, pr, o', es, ep, ho, hx, hdt, he, _⟩, _⟩ := I.hok d _ h
  rw [hd] at ho
  cases ho
  refine ⟨z1, hd, hx, es, ep, hdt, ?_, fun i k q v e => ?_⟩
  · have l1 : es.size = ys.length := size_of_entries he
    have l2 : xs.length = ys.length := Paired.length pr
    omega
  · obtain ⟨b, hb, e1, e2, _⟩ := paired_get pr e
    have qq := entry_at he i
    rw [hb] at qq
    refine ⟨_, qq, ?_⟩
    show Value.ref b.2.1 = Value.ref q
    rw [← e2]
section
variable {P : Program} {w : World} {K : PySem.W.Frag} {tg : Expr} {d : Addr} {o : Obj} {es : Array DictEntry} {ep : Nat}
theorem turn_keysN {xs : List (NKey × Addr × V)} (it : Addr) (hod : o.data = .dict es ep) : Turn P w K tg (ItN P w d o xs) [it] it (fun i h => h.IsKeyIter it d i xs.length ep) where
  mem := by simp
  obj := fun i h st b hb => by
    have e : b = it := by simpa using hb
    subst e
    obtain ⟨oi, e, c, dd⟩ := st
    exact ⟨oi, e, fun v z => by rw [dd] at z; cases z⟩
  keep := fun i h h' st k => st.at fun oi e => k it (by simp) oi e
  item := by
    intro X hP hw hK hc i pins s σ H E I hf st hg
    subst hP hw hK
    obtain ⟨hd, hi⟩ := hg
    obtain ⟨f0, f1, f2, f3, f4, f5⟩ := hf it (by simp)
    obtain ⟨hs, hgd, hx, es', ep', hdt, hsz, ent⟩ := frzN I hd
    obtain ⟨rfl, rfl⟩ := dict_ep hod hdt
    obtain ⟨⟨k, q, v⟩, hkv⟩ : ∃ p, xs[i]? = some p := ⟨xs[i], List.getElem?_eq_getElem hi⟩
    obtain ⟨en, hen, hkey⟩ := ent i k q v hkv
    refine next_key_item st hgd hdt hsz hen fun h' st' sb => ?_
    have I1 : Inv X pins σ H { s with heap := h' } := I.turned (t' := s.toks) (fun b ob hb e => (sb.2 b hb).trans e) f0 f1 f3 f4 f5
    obtain ⟨oi, e, c, dd⟩ := id st'
    exact ⟨en.key, rfl, go_of (s := { s with heap := h' }) e c dd (by decide) ⟨.ref q, H, I1, hkey, ⟨rfl, k, q, v, hkv, rfl⟩, st', fun b hb => (hf b hb).1⟩⟩
  done := by
    intro X hP hw hK hc i pins s σ H E I hf st hg
    subst hP hw hK
    obtain ⟨hd, hi⟩ := hg
    obtain ⟨f0, f1, f2, f3, f4, f5⟩ := hf it (by simp)
    obtain ⟨hs, hgd, hx, es', ep', hdt, hsz, ent⟩ := frzN I hd
    obtain ⟨rfl, rfl⟩ := dict_ep hod hdt
    exact next_key_end (I.ok.hd hc) st hgd hdt hsz hi fun h' eb => ⟨rfl, I.turned (t' := s.toks) (fun b ob hb e => eb b ob hb e) f0 f1 f3 f4 f5⟩
  self := fun A i s Q E st h => by
    refine wpAny_pyIter_slot st.typeIs F.slot_dict_keyiterator_iter (wpAny_call_entry F.slot_dict_keyiterator_iter st.typeIs F.entry_dict_keyiterator_iter ?_ (F.args_dict_keyiterator_iter_1 _))
    show wpAny _ _ (ret (.ref it)) _ _ s
    exact wpAny_pure ⟨_, rfl, "dict_keyiterator", _, st.typeIs, F.slot_dict_keyiterator_next.lookup, h⟩
end
def iKeysN (P : Program) (w : World) (td : TE) : TI := fun σ H R => td σ H fun x H1 => ∃ d o xs, x = .ref d ∧ H1 d = some (.frz o (DN P w d xs)) ∧ R (ItN P w d o xs) H1
theorem pi_keysN {X : Cx} {tg e : Expr} {td : TE} (he : PE X e td) : PI X tg e (iKeysN X.prog X.w td) := by
  refine ⟨fun pins s σ H R I h => ?_⟩
  refine thn (he.run pins s σ H _ I h) fun u s1 ⟨x, H1, I1, rx, d, o, xs, ex, hd, q⟩ => ?_
  subst ex
  obtain rfl : u = Value.ref d := rx
  obtain ⟨hs, hgd, hx, es, ep, hdt, hsz, ent⟩ := frzN I1 hd
  refine iter_keys hs hgd hx hdt (pi_one (tk := s1.toks) I1 _ (turn_keysN _ hdt) ⟨_, Heap.get?_push_size _ rfl, rfl, ?_⟩ q)
  rw [hsz] <;> rfl
theorem walk_keysN {P : Program} {w : World} {d : Addr} {o : Obj} {xs : List (NKey × Addr × V)} : Walk (ItN P w d o xs) xs.length (fun H => H d = some (.frz o (DN P w d xs)))
    (fun i H x H' => H' = H ∧ ∃ (k : NKey) (q : Addr) (v : V), xs[i]? = some (k, q, v) ∧ x = .ref q) :=
  ⟨fun _ _ hi q => ⟨q, hi⟩, fun _ q => ⟨q, Nat.le_refl _⟩, fun _ _ _ _ _ _ y => y⟩
end Ls
/-! LsRules -/
/-! words (tuples of ints) in rows: in, not in, index, remove, == -/
namespace Ls
open PySem PySem.Spec PyProof.Rows L2
/-- a tuple of ints as data -/
def wD (ks : List Int) : PyData := .tuple (ks.map PyData.int)
theorem ints_lay : ∀ ks : List Int, PyData.canLayAll0 (ks.map PyData.int) = true
  | [] => by simp [PyData.canLayAll0]
  | k :: ks => by simp [PyData.canLayAll0, PyData.canLay0, ints_lay ks]
theorem ints_depth : ∀ ks : List Int, PyData.depthAll (ks.map PyData.int) ≤ 0
  | [] => by simp [PyData.depthAll]
  | k :: ks => by
    have h1 := ints_depth ks
    simp only [List.map_cons, PyData.depthAll, PyData.depth]
    omega
theorem wD_lay (ks : List Int) : (wD ks).canLay0 = true := by simp only [wD, PyData.canLay0]; exact ints_lay ks
theorem wD_depth (ks : List Int) : (wD ks).depth ≤ 1 := by
  have := ints_depth ks
  simp only [wD, PyData.depth]
  omega
theorem wD_shaped (ks : List Int) : SeqAt.shaped (wD ks) = true := by
  have h := wD_depth ks
  show ((wD ks).canLay0 && decide ((wD ks).depth ≤ 64)) = true
  rw [Bool.and_eq_true]
  exact ⟨wD_lay ks, decide_eq_true (by omega)⟩
theorem wDs_lay : ∀ kss : NKey, PyData.canLayAll0 (kss.map wD) = true
  | [] => by simp [PyData.canLayAll0]
  | z :: zs => by simp [PyData.canLayAll0, wD_lay z, wDs_lay zs]
theorem wDs_depth : ∀ kss : NKey, PyData.depthAll (kss.map wD) ≤ 1
  | [] => by simp [PyData.depthAll]
  | z :: zs => by
    have h1 := wDs_depth zs
    have h2 := wD_depth z
    simp only [List.map_cons, PyData.depthAll]
    omega
theorem wDs_shapedL (kss : NKey) : SeqAt.shaped (.list (kss.map wD)) = true := by
  have h1 := wDs_depth kss
  have h2 : PyData.depth (.list (kss.map wD)) ≤ 64 := by
    simp only [PyData.depth]
    omega
  show (PyData.canLay0 (.list (kss.map wD)) && decide (PyData.depth (.list (kss.map wD)) ≤ 64)) = true
  rw [Bool.and_eq_true]
  exact ⟨by simp only [PyData.canLay0]; exact wDs_lay kss, decide_eq_true h2⟩
theorem wDs_shapedT (kss : NKey) : SeqAt.shaped (.tuple (kss.map wD)) = true := by
  have h1 := wDs_depth kss
  have h2 : PyData.depth (.tuple (kss.map wD)) ≤ 64 := by
    simp only [PyData.depth]
    omega
  show (PyData.canLay0 (.tuple (kss.map wD)) && decide (PyData.depth (.tuple (kss.map wD)) ≤ 64)) = true
  rw [Bool.and_eq_true]
  exact ⟨by simp only [PyData.canLay0]; exact wDs_lay kss, decide_eq_true h2⟩
theorem ints_eqv : ∀ a b : List Int, PyData.eqvAll (a.map PyData.int) (b.map PyData.int) = decide (a = b)
  | [], [] => by simp [PyData.eqvAll]
  | [], _ :: _ => by simp [PyData.eqvAll]
  | _ :: _, [] => by simp [PyData.eqvAll]
  | x :: a, y :: b => by
    simp only [List.map_cons, PyData.eqvAll, PyData.eqv, ints_eqv a b]
    by_cases h1 : x = y
    · subst h1
      by_cases h2 : a = b
      · subst h2; simp
      · simp [h2]
    · simp [h1]
theorem wD_eqv (a b : List Int) : PyData.eqv (wD a) (wD b) = decide (a = b) := by
  simp only [wD, PyData.eqv]
  exact ints_eqv a b
theorem wD_any (ks : List Int) : ∀ kss : NKey, (kss.map wD).any (fun z => PyData.eqv z (wD ks)) = kss.contains ks
  | [] => rfl
  | z :: zs => by
    rw [List.map_cons, List.any_cons, wD_any ks zs, wD_eqv, List.contains_cons]
    by_cases h : z = ks
    · subst h; simp
    · have : (ks == z) = false := beq_eq_false_iff_ne.mpr fun e => h e.symm
      rw [decide_eq_false h, this]
section
variable {K : PySem.W.Frag} {H : Hp}
theorem dp_ints : ∀ ks : List Int, DpAll K H (ks.map V.int) (ks.map PyData.int)
  | [] => .nil
  | k :: ks => .cons (.int k) (dp_ints ks)
theorem dp_w {a : Addr} {ks : List Int} (h : TupI H a ks) : Dp K H (.ref a) (wD ks) := .tup (SqT.of h) (dp_ints ks)
theorem dp_ws {bs : List Addr} {kss : NKey} (h : Paired (TupI H) bs kss) : DpAll K H (bs.map V.ref) (kss.map wD) := by
  induction h with
  | nil => exact .nil
  | cons r t ih => exact .cons (dp_w r) ih
end
/-- a row of words: a list of tuples of ints, to be read -/
def RowL (K : PySem.W.Frag) (H : Hp) (l : Addr) (kss : NKey) : Prop := ∃ bs : List Addr, SqL K H l (bs.map V.ref) ∧ Paired (TupI H) bs kss
/-- x in l, x not in l -/
def rInW (K : PySem.W.Frag) (neg : Bool) : R2 := fun x y H Q => ∃ a l ks kss, x = .ref a ∧ TupI H a ks ∧ y = .ref l ∧ RowL K H l kss ∧ Q (.bl (if neg then !kss.contains ks else kss.contains ks)) H
/-- x in t, a tuple of tuples -/
def rInWT : R2 := fun x y H Q => ∃ a l ks kss, x = .ref a ∧ TupI H a ks ∧ y = .ref l ∧ TupN H l kss ∧ Q (.bl (kss.contains ks)) H
section
variable {X : Cx}
theorem op_inW (hu : X.A.units + 65 < cLine) : OpR X (compareOp .In) (rInW X.K false) := by
  intro pins s σ H x y v u Q I rx ry h
  obtain ⟨a, l, ks, kss, rfl, hx, rfl, ⟨bs, hs, hp⟩, q⟩ := h
  refine op_inD hu pins s σ H _ _ v u Q I rx ry ⟨_, _, dp_w hx, .lst hs (dp_ws hp), wD_shaped ks, wDs_shapedL kss, ?_⟩
  rw [wD_any]
  exact q
theorem op_notInW (hu : X.A.units + 65 < cLine) : OpR X (compareOp .NotIn) (rInW X.K true) := by
  intro pins s σ H x y v u Q I rx ry h
  obtain ⟨a, l, ks, kss, rfl, hx, rfl, ⟨bs, hs, hp⟩, q⟩ := h
  refine op_notInD hu pins s σ H _ _ v u Q I rx ry ⟨_, _, dp_w hx, .lst hs (dp_ws hp), wD_shaped ks, wDs_shapedL kss, ?_⟩
  rw [wD_any]
  exact q
theorem op_inWT (hu : X.A.units + 65 < cLine) : OpR X (compareOp .In) rInWT := by
  intro pins s σ H x y v u Q I rx ry h
  obtain ⟨a, l, ks, kss, rfl, hx, rfl, ⟨bs, hs, hp⟩, q⟩ := h
  obtain ⟨as, r1⟩ := Dp.reads I _ _ v (dp_w (K := X.K) hx) rx
  obtain ⟨cs, r2⟩ := Dp.reads I (.tuple (kss.map wD)) _ u (.tup (SqT.of hs) (dp_ws hp)) ry
  refine SeqAt.in_tuple_reads r2 r1 (SeqAt.canLay_of_shaped (wDs_shapedT kss)) (SeqAt.canLay_of_shaped (wD_shaped ks)) (room_in_shaped (wD_shaped ks) hu) ⟨.bl (kss.contains ks), H, I, ?_, q⟩
  rw [wD_any]
  rfl
/-- l.index(x): the place of the first equal one -/
def rIndexW (K : PySem.W.Frag) : V → List V → Hp → VK → Prop := fun x xs H Q => ∃ l a ks kss j, x = .ref l ∧ xs = [.ref a] ∧ TupI H a ks ∧ RowL K H l kss ∧ kss[j]? = some ks ∧ (∀ m, m < j → kss[m]? ≠ some ks) ∧ Q (.int (j : Nat)) H
theorem mt_indexW (hu : X.A.units + 65 < cLine) : MtR X "list.index" (rIndexW X.K) := by
  intro pins s σ H x xs v us Q I rx rxs h
  obtain ⟨l, a, ks, kss, j, rfl, rfl, hx, ⟨bs, hs, hp⟩, hj, hno, q⟩ := h
  refine mt_indexD hu pins s σ H _ _ v us Q I rx rxs ⟨l, .ref a, wD ks, kss.map wD, j, wD ks, rfl, rfl, .lst hs (dp_ws hp), dp_w hx, wDs_shapedL kss, wD_shaped ks, ?_, ?_, fun m z hm hz => ?_, q⟩
  · rw [List.getElem?_map, hj]; rfl
  · rw [wD_eqv]; exact decide_eq_true rfl
  · rw [List.getElem?_map] at hz
    obtain ⟨k', h1, rfl⟩ := Option.map_eq_some_iff.mp hz
    rw [wD_eqv]
    exact decide_eq_false fun e => hno m hm (by rw [h1, e])
/-- l.remove(x): the first equal one goes -/
def rRemW : V → List V → Hp → VK → Prop := fun x xs H Q => ∃ l a ks bs kss j, x = .ref l ∧ xs = [.ref a] ∧ TupI H a ks ∧ H l = some (.lst (bs.map V.ref)) ∧ Paired (TupI H) bs kss ∧ kss[j]? = some ks ∧ (∀ m, m < j → kss[m]? ≠ some ks) ∧
  Q .non (upd H l (.lst ((bs.eraseIdx j).map V.ref)))
theorem erase_refs : ∀ (bs : List Addr) (j : Nat), (bs.map V.ref).eraseIdx j = (bs.eraseIdx j).map V.ref
  | [], _ => rfl
  | _ :: _, 0 => rfl
  | b :: bs, j + 1 => by
    show V.ref b :: (bs.map V.ref).eraseIdx j = V.ref b :: (bs.eraseIdx j).map V.ref
    rw [erase_refs bs j]
theorem mt_removeW (hu : X.A.units + 65 < cLine) : MtM X "list.remove" rRemW := by
  intro pins s σ H x xs v us Q I rx rxs h
  obtain ⟨l, a, ks, bs, kss, j, rfl, rfl, hx, hH, hp, hj, hno, q⟩ := h
  cases rx
  obtain ⟨uy, rfl, ry⟩ := rxs.one
  obtain ⟨cs, r1⟩ := Dp.reads I (wD ks) (.ref a) uy (dp_w (K := X.K) hx) ry
  have hxs : PyData.canLayAll0 (kss.map wD) = true := wDs_lay kss
  have hroom : X.A.units + 1 + min (PyData.depthAll (kss.map wD)) (wD ks).depth < cLine := room_in_shaped (wD_shaped ks) hu
  obtain ⟨z, its, n, rv, hl, ho⟩ := I.lstM hH
  obtain ⟨as, h4⟩ := Dp.readsAll I (kss.map wD) _ its (dp_ws (K := X.K) hp) rv
  have hn : its.length = (kss.map wD).length := SeqAt.ReadsAll.length (kss.map wD) its as h4
  have hmap : its.map (SeqAt.readOf s.heap) = kss.map wD := SeqAt.readsAll_map (kss.map wD) its as hxs h4
  rw [List.length_map] at hn hl
  have hjk : j < kss.length := (List.getElem?_eq_some_iff.mp hj).1
  have hjl : j < its.length := by omega
  have hja : j < its.toArray.size := by simpa using hjl
  have at_ : ∀ (m : Nat) (hm : m < its.toArray.size) (k' : List Int), kss[m]? = some k' → SeqAt.readOf s.heap its.toArray[m] = wD k' := by
    intro m hm k' hk'
    have hml : m < its.length := by simpa using hm
    have e0 : (its.map (SeqAt.readOf s.heap))[m]? = (kss.map wD)[m]? := by rw [hmap]
    rw [List.getElem?_map, List.getElem?_map, hk', List.getElem?_eq_getElem hml] at e0
    have e1 : SeqAt.readOf s.heap its[m] = wD k' := Option.some.inj (show some (SeqAt.readOf s.heap its[m]) = some (wD k') from e0)
    simpa using e1
  rw [List.length_map] at z
  refine call_meets PySem.F.slot_list_remove ⟨_, ho, rfl⟩ PySem.F.entry_list_remove (PySem.F.args_list_remove_2 _ _)
    (SeqAt.list_removeAt l its.toArray n none #[] uy (fun u => PyData.eqv (SeqAt.readOf s.heap u) (wD ks)) j hja ?_ ?_ (by rw [List.size_toArray]; omega)) ⟨ho, SeqAt.items_eqAt (vs := its.toArray) (show ReadsAll s.heap its.toArray.toList (kss.map wD) as from h4) r1 hxs (SeqAt.canLay_of_shaped (wD_shaped ks)) hroom, ?_⟩
  · show PyData.eqv (SeqAt.readOf s.heap its.toArray[j]) (wD ks) = true
    rw [at_ j hja ks hj, wD_eqv]
    exact decide_eq_true rfl
  · intro m hm hmj
    have hmd : m < kss.length := by omega
    have hz' : kss[m]? = some kss[m] := List.getElem?_eq_getElem hmd
    show PyData.eqv (SeqAt.readOf s.heap its.toArray[m]) (wD ks) = false
    rw [at_ m hm _ hz', wD_eqv]
    exact decide_eq_false fun e => hno m hmj (by rw [hz', e])
  · have rr := rv.eraseIdx j
    rw [erase_refs] at rr
    refine ⟨.non, _, I.lset (its' := its.eraseIdx j) (t' := s.toks) hH ho ?_ rr ?_, rfl, q⟩
    · show its.toArray.eraseIdxIfInBounds j = (its.eraseIdx j).toArray
      rw [List.eraseIdxIfInBounds_toArray]
    · rw [List.length_map]
      have := List.length_eraseIdx_le (l := bs) (i := j)
      omega
/-- t == u, two tuples of ints -/
def rEqW : R2 := fun x y H Q => ∃ a b ks ms, x = .ref a ∧ y = .ref b ∧ TupI H a ks ∧ TupI H b ms ∧ Q (.bl (decide (ks = ms))) H
theorem op_eqW (hu : X.A.units + 64 < cLine) : OpR X (compareOp .Eq) rEqW := by
  intro pins s σ H x y v u Q I rx ry h
  obtain ⟨a, b, ks, ms, rfl, rfl, hx, hy, q⟩ := h
  refine op_eqD hu pins s σ H _ _ v u Q I rx ry ⟨_, _, dp_w hx, dp_w hy, wD_shaped ks, wD_shaped ms, ?_⟩
  rw [wD_eqv]
  exact q
end
end Ls
/-! LsBase -/
namespace Ls
open PySem PySem.Spec PyProof.Rows L2
def top (i : Nat) : Stmt := PySem.Challenge.pw_leaststates_s01_answers.main.body.getD i (.Pass ⟨0, 0, 0, 0⟩)
abbrev Word := Rh03.Word
abbrev iw (w : List Nat) : List Int := Rh03.«ints» w
abbrev nk (s : List Word) : NKey := s.map iw
theorem hr65 {k : Nat} {A : Around} (hr : Room k A) : A.units + 65 < cLine := by have := hr.un; omega
theorem hr4 {k : Nat} {A : Around} (hr : Room k A) : A.units + 4 < cLine := by have := hr.un; omega
theorem ifT {c : Bool} {A B : Prop} (h : c = true) (a : A) : if c = true then A else B := by rw [if_pos h]; exact a
theorem ifF {c : Bool} {A B : Prop} (h : c = false) (b : B) : if c = true then A else B := by rw [h, if_neg Bool.false_ne_true]; exact b
theorem iw_len (w : List Nat) : (iw w).length = w.length := List.length_map _
theorem iw_inj : ∀ {u v : List Nat}, iw u = iw v → u = v
  | [], [], _ => rfl
  | [], _ :: _, e => by cases e
  | _ :: _, [], e => by cases e
  | a :: u, b :: v, e => by
    have e' : ((a : Nat) : Int) :: iw u = ((b : Nat) : Int) :: iw v := e
    injection e' with e1 e2
    rw [Int.ofNat.inj e1, iw_inj e2]
theorem nk_inj : ∀ {u v : List Word}, nk u = nk v → u = v
  | [], [], _ => rfl
  | [], _ :: _, e => by cases e
  | _ :: _, [], e => by cases e
  | a :: u, b :: v, e => by
    have e' : iw a :: nk u = iw b :: nk v := e
    injection e' with e1 e2
    rw [iw_inj e1, nk_inj e2]
theorem nk_has (w : Word) : ∀ d : List Word, (nk d).contains (iw w) = d.contains w
  | [] => rfl
  | v :: d => by
    show (iw v :: nk d).contains (iw w) = (v :: d).contains w
    rw [List.contains_cons, List.contains_cons, nk_has w d]
    by_cases e : w = v
    · subst e; simp
    · have h1 : (w == v) = false := beq_eq_false_iff_ne.mpr e
      have h2 : (iw w == iw v) = false := beq_eq_false_iff_ne.mpr fun q => e (iw_inj q)
      rw [h1, h2]
theorem Same.tups {H H' : Hp} (s : Same H H') : TupsStay H H' := fun b ys e => s b _ e
theorem Same.new {H : Hp} {p : Addr} {o : HO} (h : H p = none) : Same H (upd H p o) := fun b u e => by
  rw [upd_ne (ne_of_none e h)]
  exact e
theorem Same.refl (H : Hp) : Same H H := fun _ _ e => e
theorem Same.trans {A B C : Hp} (h : Same A B) (k : Same B C) : Same A C := fun b u e => k b u (h b u e)
theorem fresh_of {H H' : Hp} {p : Addr} (s : Same H H') (h : H' p = none) : H p = none := by
  cases e : H p with
  | none => rfl
  | some o => have := s _ _ e; rw [h] at this; cases this
theorem pairedI_len {H : Hp} {bs : List Addr} {kss : NKey} (h : Paired (TupI H) bs kss) : bs.length = kss.length := Paired.length h
theorem paired_stay {H H' : Hp} {bs : List Addr} {kss : NKey} (h : Paired (TupI H) bs kss) (t : TupsStay H H') : Paired (TupI H') bs kss := Paired.mapP h fun _ _ z => z.stay t
/-- the words d stand in the list at l -/
def DictAt (H : Hp) (l : Addr) (d : List Word) : Prop := ∃ bs : List Addr, H l = some (.lst (bs.map V.ref)) ∧ Paired (TupI H) bs (nk d)
theorem take_more {α : Type} : ∀ {l : List α} {i : Nat} {x : α}, l[i]? = some x → l.take (i + 1) = l.take i ++ [x]
  | [], _, _, h => by simp at h
  | a :: l, 0, x, h => by
    have e : a = x := Option.some.inj h
    subst e
    rfl
  | a :: l, i + 1, x, h => by
    have ih := take_more (l := l) (i := i) (x := x) h
    show a :: l.take (i + 1) = a :: l.take i ++ [x]
    rw [ih]
    rfl
theorem get_map {α β : Type} {f : α → β} {l : List α} {i : Nat} {y : β} (h : (l.map f)[i]? = some y) : ∃ x, l[i]? = some x ∧ y = f x := by
  rw [List.getElem?_map] at h
  obtain ⟨x, h1, h2⟩ := Option.map_eq_some_iff.mp h
  exact ⟨x, h1, h2.symm⟩
/-- of the module's names -/
structure Names (mg : Str → Option Value) : Prop where
  len : mg "len" = none
  all : mg "all" = none
  sum : mg "sum" = none
  sorted : mg "sorted" = none
  reversed : mg "reversed" = none
  tuple : mg "tuple" = none
  list : mg "list" = none
  range : mg "range" = none
  c4 : ∃ t, mg "DICTIONARIES" = some (.int 4 t)
  c60 : ∃ t, mg "MOST_WORDS" = some (.int 60 t)
  c8 : ∃ t, mg "MOST_LETTERS" = some (.int 8 t)
  c26 : ∃ t, mg "LAST_LETTER" = some (.int 26 t)
  m1 : ∃ t, mg "NOT_AS_TOLD" = some (.int (-1) t)
  m3 : ∃ t, mg "NOT_THERE" = some (.int (-3) t)
  m4 : ∃ t, mg "THERE_ALREADY" = some (.int (-4) t)
  m5 : ∃ t, mg "TOO_MANY" = some (.int (-5) t)
end Ls
/-! LsD1 -/
namespace Ls
open PySem PySem.Spec PyProof.Rows L2
abbrev sIsWord : Stmt := top 35
/-- is_word -/
def spIsWord : Sp := fun vs H Q _ => ∃ (a : Addr) (w : Word), vs = [.ref a] ∧ TupI H a (iw w) ∧ w.length ≤ 60 ∧ ∀ H' : Hp, Same H H' → Q (.bl (Rh03.isWord w)) H'
def okL (a : Nat) : Bool := decide (1 ≤ a) && decide (a ≤ 26)
section
variable {P : Program} {w : World} {K : PySem.W.Frag} {mg : Str → Option Value} {base : Heap}
theorem scIsWord : FnScope ["row", "letter"] ["row"] (defScope sIsWord) := ⟨rfl, rfl, rfl, by decide +kernel, rfl, by decide +kernel, by decide +kernel⟩
theorem ok_is_word {f : Addr} {fd : FuncData} (F : Fun K "is_word" "is_word" sIsWord f fd) (T : Names mg) : FnOk P w K mg base CX0 1 f fd ["row"] spIsWord := by
  obtain ⟨t8, g8⟩ := T.c8
  obtain ⟨t26, g26⟩ := T.c26
  refine F.ok scIsWord (fun vs H Q E h => ?_) (fun cdv A outer s H vs Q E hr h => ?_)
  · obtain ⟨a, u, rfl, _⟩ := h
    rfl
  · obtain ⟨a, u, rfl, ha, hl, k⟩ := h
    refine ⟨_, pss_cons (ps_if (PW.pt (pw_or (pt_cmpR op_lt (pe_callB call_len_seq (by rfl) T.len PySem.boot_len (pa_cons (pv 0) pa_nil)) pe_int (nomark _)) (pw_or1 (pt_cmpR op_gt (pe_callB call_len_seq (by rfl) T.len PySem.boot_len (pa_cons (pv 0) pa_nil)) (pe_glob (v := .int 8) (by rfl) g8 ⟨_, rfl⟩) (nomark _))))) (pss_one (ps_ret pe_bl)) pss_nil)
      (pss_one (ps_ret (pe_callB (cr_all rfl) (by rfl) T.all (by decide +kernel) (pa_cons (pe_lc (own := [("letter", 1)]) (g := gName 1) (tt := tYes) rfl scIsWord.nd (pi_tup (pv 0)) (blkOk_by (N := ["row", "letter"]) (sc := defScope sIsWord) (by decide +kernel)) (fun _ _ _ _ _ => pg_name (i := 1) scIsWord.nd rfl (Or.inl rfl)) (fun _ _ _ _ _ => pts_nil)
        (fun _ _ _ _ _ => pe_and (pe_cmpR op_ge (pv 1) pe_int (nomark _)) (pe_one (pe_cmpR op_le (pv 1) (pe_glob (v := .int 26) (by rfl) g26 ⟨_, rfl⟩) (nomark _))))) pa_nil)))), ?_⟩
    have eL : ((iw u).map V.int).length = u.length := by rw [List.length_map, iw_len]
    refine ⟨_, rfl, a, _, rfl, .inr (SqT.of ha), _, _, rfl, rfl, _, rfl, ?_⟩
    rw [eL]
    by_cases c1 : (u.length : Int) < 1
    · refine ifT (decide_eq_true c1) (ifT rfl ?_)
      have e : Rh03.isWord u = false := by unfold Rh03.isWord; rw [decide_eq_false (by omega)]; rfl
      rw [e] at k
      exact k H (Same.refl H)
    · refine ifF (decide_eq_false c1) ?_
      refine ⟨_, rfl, a, _, rfl, .inr (SqT.of ha), _, _, rfl, rfl, _, rfl, ?_⟩
      rw [eL]
      by_cases c2 : (8 : Int) < u.length
      · refine ifT (decide_eq_true c2) ?_
        have e : Rh03.isWord u = false := by unfold Rh03.isWord; rw [decide_eq_false (show ¬ u.length ≤ 8 by omega)]; simp
        rw [e] at k
        exact k H (Same.refl H)
      · refine ifF (decide_eq_false c2) ?_
        refine ⟨_, rfl, a, rfl, ⟨_, SqT.of ha⟩, fun D hD => lc_tup (K := K) (a := a) (xs := (iw u).map V.int)
          (fun i H' => Same H H' ∧ H' D = some (.lst (((u.take i).map okL).map V.bl))) ⟨Same.new hD, upd_same⟩ (fun i H' _ h => SqT.of (h.1 _ _ ha)) ?_ ?_⟩
        · rintro i x H' hi ⟨s1, h1⟩
          obtain ⟨y, hy, rfl⟩ := get_map hi
          obtain ⟨z, hz, rfl⟩ := get_map hy
          have hlen : (((u.take i).map okL).map V.bl).length < sizeLine := by
            rw [List.length_map, List.length_map, List.length_take, sizeLine_eq]; omega
          have fin : H' D = some (.lst (((u.take i).map okL).map V.bl)) → ∀ b : Bool, b = okL z → ∃ acc, H' D = some (.lst acc) ∧ acc.length < sizeLine ∧ (Same H (upd H' D (.lst (acc ++ [V.bl b]))) ∧ upd H' D (.lst (acc ++ [V.bl b])) D = some (.lst (((u.take (i + 1)).map okL).map V.bl))) := by
            intro h b hb
            refine ⟨_, h, hlen, fun c o e => ?_, ?_⟩
            · rw [upd_ne (ne_of_none e hD)]; exact s1 c o e
            · rw [upd_same, take_more hz, List.map_append, List.map_append, hb]; rfl
          refine ⟨rfl, _, rfl, _, _, rfl, rfl, _, rfl, ?_⟩
          by_cases d1 : (1 : Int) ≤ (z : Int)
          · refine ifT (decide_eq_true d1) ⟨_, rfl, _, _, rfl, rfl, ?_⟩
            refine fin h1 _ ?_
            unfold okL
            rw [decide_eq_true (show 1 ≤ z by omega), Bool.true_and]
            exact decide_eq_decide.mpr (by omega)
          · refine ifF (decide_eq_false d1) ?_
            refine fin h1 _ ?_
            unfold okL
            rw [decide_eq_false (show ¬ 1 ≤ z by omega)]; rfl
        · rintro H' ⟨s1, h1⟩
          rw [eL, List.take_length] at h1
          refine ⟨D, u.map okL, rfl, SqL.of h1, ?_⟩
          have e : ((u.map okL).all id) = Rh03.isWord u := by
            unfold Rh03.isWord
            rw [decide_eq_true (show 1 ≤ u.length by omega), decide_eq_true (show u.length ≤ 8 by omega), Bool.true_and, Bool.true_and, List.all_map]
            rfl
          rw [e]
          exact k H' s1
end
end Ls
/-! LsD2 -/
namespace Ls
open PySem PySem.Spec PyProof.Rows L2
def rLenS (K : PySem.W.Frag) : List V → Hp → VK → Prop := fun xs H Q => ∃ p ys, xs = [V.ref p] ∧ (SqL K H p ys ∨ SqT K H p ys) ∧ Q (V.int ((ys.length : Nat) : Int)) H
theorem lex_before : ∀ u v : Word, HT.lexLt (iw u) (iw v) = Rh03.before u v
  | [], [] => rfl
  | [], _ :: _ => rfl
  | _ :: _, [] => rfl
  | a :: u, b :: v => by
    show (if ((a : Nat) : Int) = (b : Nat) then HT.lexLt (iw u) (iw v) else decide (((a : Nat) : Int) < (b : Nat))) = (if a < b then true else if b < a then false else Rh03.before u v)
    rw [lex_before u v]
    by_cases h1 : a < b
    · rw [if_neg (by omega), if_pos h1, decide_eq_true (by omega)]
    · rw [if_neg h1]
      by_cases h2 : b < a
      · rw [if_neg (by omega), if_pos h2, decide_eq_false (by omega)]
      · rw [if_pos (by omega), if_neg h2]
def cutI (ks : List Int) (lo hi : Option Int) : List Int := (ks.drop (HT.sIx ks.length 0 lo)).take (HT.sIx ks.length ks.length hi - HT.sIx ks.length 0 lo)
theorem slice_ints {K : PySem.W.Frag} {H : Hp} {a : Addr} {ks : List Int} {lo hi : Option Int} {Q : VK} (h : TupI H a ks) (k : ∀ p H', Same H H' → TupI H' p (cutI ks lo hi) → Q (.ref p) H') : rSlA K (.ref a) lo hi H Q := by
  have eL : (ks.map V.int).length = ks.length := List.length_map _
  refine ⟨a, _, rfl, SqT.of h, fun q => ?_, fun q p hp => ?_⟩
  · refine k a H (Same.refl H) ?_
    rw [eL] at q
    unfold cutI
    rw [q.1, q.2, List.drop_zero, Nat.sub_zero, List.take_length]
    exact h
  · refine k p _ (Same.new hp) ?_
    show upd H p _ p = _
    rw [upd_same]
    unfold cutV cutI
    rw [eL, List.map_take, List.map_drop]
theorem cut_to (ks : List Int) (n : Nat) : cutI ks none (some (n : Int)) = ks.take n := by
  unfold cutI
  rw [HT.sIx_none, HT.sIx_nat, List.drop_zero, Nat.sub_zero]
  by_cases h : n ≤ ks.length
  · rw [Nat.min_eq_left h]
  · rw [Nat.min_eq_right (by omega), List.take_of_length_le (Nat.le_refl _), List.take_of_length_le (by omega)]
theorem cut_from1 (ks : List Int) : cutI ks (some 1) none = ks.drop 1 := by
  unfold cutI
  rw [HT.sIx_none]
  have e : HT.sIx ks.length 0 (some 1) = min 1 ks.length := HT.sIx_nat ks.length 0 1
  rw [e]
  cases ks with
  | nil => rfl
  | cons x ks =>
    have e2 : min 1 (x :: ks).length = 1 := by rw [List.length_cons]; omega
    rw [e2, List.take_of_length_le (by rw [List.length_drop]; exact Nat.le_refl _)]
theorem take_behind : ∀ (u v : Word), (v.take u.length = u) ↔ (Rh03.behind u v).isSome = true
  | [], v => by simp [Rh03.behind]
  | a :: u, [] => by simp [Rh03.behind]
  | a :: u, b :: v => by
    rw [Rh03.behind]
    show (b :: v.take u.length = a :: u) ↔ _
    by_cases e : a = b
    · subst e
      rw [if_pos rfl, ← take_behind u v]
      simp
    · rw [if_neg e]
      constructor
      · intro h; injection h with h1 _; exact absurd h1.symm e
      · intro h; cases h
theorem rests_count (d : List Word) (u : Word) : (Rh03.rests d u).length = (d.filter fun v => (Rh03.behind u v).isSome).length := by
  unfold Rh03.rests
  induction d with
  | nil => rfl
  | cons v d ih =>
    rw [List.filterMap_cons, List.filter_cons]
    cases h : Rh03.behind u v with
    | none => rw [if_neg (by simp)]; exact ih
    | some r =>
      rw [if_pos (by rfl)]
      exact congrArg (· + 1) ih
theorem iw_take (v : Word) (n : Nat) : (iw v).take n = iw (v.take n) := by
  show (v.map _).take n = (v.take n).map _
  rw [List.map_take]
theorem filter_more {α : Type} {l : List α} {i : Nat} {x : α} (p : α → Bool) (h : l[i]? = some x) : ((l.take (i + 1)).filter p).length = ((l.take i).filter p).length + (if p x = true then 1 else 0) := by
  rw [take_more h, List.filter_append, List.length_append, List.filter_cons]
  by_cases c : p x = true
  · rw [if_pos c, if_pos c]; rfl
  · rw [if_neg c, if_neg c]; rfl

abbrev sEarlier : Stmt := top 36
abbrev sBegin : Stmt := top 37
abbrev sMayEnd : Stmt := top 14
def spEarlier : Sp := fun vs H Q _ => ∃ (l a : Addr) (d : List Word) (u : Word), vs = [.ref l, .ref a] ∧ DictAt H l d ∧ TupI H a (iw u) ∧ d.length ≤ 60 ∧ ∀ H' : Hp, Same H H' → Q (.int (earlier d u : Nat)) H'
def spBegin : Sp := fun vs H Q _ => ∃ (l a : Addr) (d : List Word) (u : Word), vs = [.ref l, .ref a] ∧ DictAt H l d ∧ TupI H a (iw u) ∧ u.length ≤ 60 ∧ d.length ≤ 60 ∧ ∀ H' : Hp, Same H H' → Q (.int ((Rh03.rests d u).length : Nat)) H'
def spMayEnd : Sp := fun vs H Q _ => ∃ (a : Addr) (s : List Word), vs = [.ref a] ∧ TupN H a (nk s) ∧ ∀ H' : Hp, Same H H' → Q (.bl (s.contains [])) H'
section
variable {P : Program} {w : World} {K : PySem.W.Frag} {mg : Str → Option Value} {base : Heap}
theorem scEarlier : FnScope ["words", "row", "word"] ["words", "row"] (defScope sEarlier) := ⟨rfl, rfl, rfl, by decide +kernel, rfl, by decide +kernel, by decide +kernel⟩
theorem ok_earlier {f : Addr} {fd : FuncData} (F : Fun K "count_earlier" "count_earlier" sEarlier f fd) (T : Names mg) : FnOk P w K mg base CX0 1 f fd ["words", "row"] spEarlier := by
  refine F.ok scEarlier (fun vs H Q E h => ?_) (fun cdv A outer s H vs Q E hr h => ?_)
  · obtain ⟨l, a, d, u, rfl, _⟩ := h
    rfl
  · obtain ⟨l, a, d, u, rfl, ⟨bs, hl, hp⟩, ha, hd, k⟩ := h
    have hbl : bs.length = d.length := by rw [Paired.length hp, List.length_map]
    refine ⟨_, pss_one (ps_ret (pe_callB call_len_seq (by rfl) T.len PySem.boot_len (pa_cons (pe_lc (own := [("word", 2)]) (g := gName 2) (tt := tTest (tOp (rLtT K) (tVar 2) (tVar 1))) rfl scEarlier.nd (pi_list (pv 0)) (blkOk_by (N := ["words", "row", "word"]) (sc := defScope sEarlier) (by decide +kernel)) (fun _ _ _ _ _ => pg_name (i := 2) scEarlier.nd rfl (Or.inl rfl))
        (fun _ _ _ _ _ => pts_one (pt_cmpR (op_ltT hr.units0) (pv 2) (pv 1) (nomark _)))
        (fun _ _ _ _ _ => pv 2)) pa_nil))), ?_⟩
    refine ⟨_, rfl, l, rfl, ⟨_, SqL.of hl⟩, fun D hD => lc_list (K := K) (a := l) (xs := bs.map V.ref)
          (fun i H' => Same H H' ∧ ∃ acc, H' D = some (.lst acc) ∧ acc.length = ((d.take i).filter fun v => Rh03.before v u).length) ⟨Same.new hD, [], upd_same, rfl⟩ (fun i H' _ h => SqL.of (h.1 _ _ hl)) ?_ ?_⟩
    · rintro i x H' hi ⟨s1, acc, h1, h2⟩
      obtain ⟨b, hb, rfl⟩ := get_map hi
      obtain ⟨ks, hk, hbk⟩ := paired_get hp hb
      obtain ⟨v, hv, rfl⟩ := get_map hk
      refine ⟨rfl, _, rfl, _, rfl, b, a, iw v, iw u, rfl, rfl, SqT.of (s1 _ _ hbk), SqT.of (s1 _ _ ha), _, rfl, ?_⟩
      rw [lex_before]
      have f1 := filter_more (fun v => Rh03.before v u) hv
      cases c : Rh03.before v u with
      | true =>
        rw [if_pos c] at f1
        refine ifT rfl ⟨_, rfl, acc, h1, ?_, ⟨fun c o e => ?_, _, upd_same, ?_⟩⟩
        · rw [h2, sizeLine_eq]
          have := List.length_filter_le (fun v => Rh03.before v u) (d.take i)
          rw [List.length_take] at this; omega
        · rw [upd_ne (ne_of_none e hD)]; exact s1 _ _ e
        · rw [List.length_append, h2, f1]; rfl
      | false =>
        rw [if_neg (by rw [c]; decide)] at f1
        refine ifF rfl ⟨s1, acc, h1, ?_⟩
        rw [f1, h2]; rfl
    · rintro H' ⟨s1, acc, h1, h2⟩
      rw [List.length_map, hbl, List.take_length] at h2
      refine ⟨D, acc, rfl, .inl (SqL.of h1), ?_⟩
      rw [h2]
      exact k H' s1
theorem scBegin : FnScope ["words", "row", "word"] ["words", "row"] (defScope sBegin) := ⟨rfl, rfl, rfl, by decide +kernel, rfl, by decide +kernel, by decide +kernel⟩
theorem ok_begin {f : Addr} {fd : FuncData} (F : Fun K "count_beginning" "count_beginning" sBegin f fd) (T : Names mg) : FnOk P w K mg base CX0 1 f fd ["words", "row"] spBegin := by
  refine F.ok scBegin (fun vs H Q E h => ?_) (fun cdv A outer s H vs Q E hr h => ?_)
  · obtain ⟨l, a, d, u, rfl, _⟩ := h
    rfl
  · obtain ⟨l, a, d, u, rfl, ⟨bs, hl, hp⟩, ha, hu, hd, k⟩ := h
    have hbl : bs.length = d.length := by rw [Paired.length hp, List.length_map]
    refine ⟨_, pss_one (ps_ret (pe_callB call_len_seq (by rfl) T.len PySem.boot_len (pa_cons (pe_lc (own := [("word", 2)]) (g := gName 2) (tt := tTest (tOp rEqW (tSl (rSlA K) (tVar 2) tNoPart (tPart (tCB (rLenS K) (tCons (tVar 1) tNil)))) (tVar 1))) rfl scBegin.nd (pi_list (pv 0)) (blkOk_by (N := ["words", "row", "word"]) (sc := defScope sBegin) (by decide +kernel)) (fun _ _ _ _ _ => pg_name (i := 2) scBegin.nd rfl (Or.inl rfl))
        (fun _ _ _ _ _ => pts_one (pt_cmpR (op_eqW hr.units) (pe_slice sl_tupA (pv 2) po_none (po_some (pe_callB (r := rLenS K) call_len_seq (by rfl) T.len PySem.boot_len (pa_cons (pv 1) pa_nil)))) (pv 1) (nomark _)))
        (fun _ _ _ _ _ => pv 2)) pa_nil))), ?_⟩
    refine ⟨_, rfl, l, rfl, ⟨_, SqL.of hl⟩, fun D hD => lc_list (K := K) (a := l) (xs := bs.map V.ref)
          (fun i H' => Same H H' ∧ ∃ acc, H' D = some (.lst acc) ∧ acc.length = ((d.take i).filter fun v => (Rh03.behind u v).isSome).length) ⟨Same.new hD, [], upd_same, rfl⟩ (fun i H' _ h => SqL.of (h.1 _ _ hl)) ?_ ?_⟩
    · rintro i x H' hi ⟨s1, acc, h1, h2⟩
      obtain ⟨b, hb, rfl⟩ := get_map hi
      obtain ⟨ks, hk, hbk⟩ := paired_get hp hb
      obtain ⟨v, hv, rfl⟩ := get_map hk
      refine ⟨rfl, _, rfl, _, rfl, a, _, rfl, .inr (SqT.of (s1 _ _ ha)), _, rfl, slice_ints (ks := iw v) (s1 _ _ hbk) fun p H2 s2 hp2 => ?_⟩
      rw [List.length_map, iw_len, cut_to, iw_take] at hp2
      refine ⟨_, rfl, p, a, _, iw u, rfl, rfl, hp2, s2 _ _ (s1 _ _ ha), _, rfl, ?_⟩
      have f1 := filter_more (fun v => (Rh03.behind u v).isSome) hv
      have e : decide (iw (v.take u.length) = iw u) = (Rh03.behind u v).isSome := by
        by_cases c : v.take u.length = u
        · rw [decide_eq_true (by rw [c]), (take_behind u v).mp c]
        · rw [decide_eq_false fun q => c (iw_inj q)]
          cases q : (Rh03.behind u v).isSome with
          | false => rfl
          | true => exact absurd ((take_behind u v).mpr q) c
      rw [e]
      cases c : (Rh03.behind u v).isSome with
      | true =>
        rw [if_pos c] at f1
        refine ifT rfl ⟨_, rfl, acc, s2 _ _ h1, ?_, ⟨fun c o e => ?_, _, upd_same, ?_⟩⟩
        · rw [h2, sizeLine_eq]
          have := List.length_filter_le (fun v => (Rh03.behind u v).isSome) (d.take i)
          rw [List.length_take] at this; omega
        · rw [upd_ne (ne_of_none e hD)]; exact s2 _ _ (s1 _ _ e)
        · rw [List.length_append, h2, f1]; rfl
      | false =>
        rw [if_neg (by rw [c]; decide)] at f1
        refine ifF rfl ⟨Same.trans s1 s2, acc, s2 _ _ h1, ?_⟩
        rw [f1, h2]; rfl
    · rintro H' ⟨s1, acc, h1, h2⟩
      rw [List.length_map, hbl, List.take_length, ← rests_count] at h2
      refine ⟨D, acc, rfl, .inl (SqL.of h1), ?_⟩
      rw [h2]
      exact k H' s1
theorem scMayEnd : FnScope ["rests"] ["rests"] (defScope sMayEnd) := ⟨rfl, rfl, rfl, by decide +kernel, rfl, by decide +kernel, by decide +kernel⟩
theorem ok_may_end {f : Addr} {fd : FuncData} (F : Fun K "may_end" "may_end" sMayEnd f fd) : FnOk P w K mg base CX0 1 f fd ["rests"] spMayEnd := by
  refine F.ok scMayEnd (fun vs H Q E h => ?_) (fun cdv A outer s H vs Q E hr h => ?_)
  · obtain ⟨a, d, rfl, _⟩ := h
    rfl
  · obtain ⟨a, d, rfl, ha, k⟩ := h
    have hu := hr65 hr
    refine ⟨_, pss_one (ps_ret (pe_cmpR (op_inWT hu) (pe_tup pa_nil) (pv 0) (by rfl))), ?_⟩
    refine ⟨Nat.zero_le _, fun p hp => ⟨_, rfl, p, a, [], nk d, rfl, upd_same, rfl, ha.stay (Same.tups (Same.new hp)), ?_⟩⟩
    have e : (nk d).contains [] = d.contains [] := nk_has [] d
    rw [e]
    exact k _ (Same.new hp)
end
end Ls
/-! LsD3 -/
namespace Ls
open PySem PySem.Spec PyProof.Rows L2
def rTupOf (K : PySem.W.Frag) : List V → Hp → VK → Prop := fun xs H Q => ∃ p ys, xs = [V.ref p] ∧ ((SqL K H p ys ∧ ∀ l, H l = none → Q (.ref l) (upd H l (.tup ys))) ∨ (SqT K H p ys ∧ Q (.ref p) H))
/-! ### words by their first letters -/
theorem rests_snoc (s : List Word) (r p : Word) : Rh03.rests (s ++ [r]) p = Rh03.rests s p ++ (match Rh03.behind p r with | some t => [t] | none => []) := by
  unfold Rh03.rests
  rw [List.filterMap_append]
  have e : List.filterMap (Rh03.behind p) [r] = (match Rh03.behind p r with | some t => [t] | none => []) := by
    rw [List.filterMap_cons]
    cases Rh03.behind p r <;> rfl
  rw [e]
theorem rests_snoc_nil (s : List Word) (a : Nat) : Rh03.rests (s ++ [[]]) [a] = Rh03.rests s [a] := by
  rw [rests_snoc]
  show Rh03.rests s [a] ++ [] = _
  rw [List.append_nil]
theorem rests_snoc_same (s : List Word) (a : Nat) (r : Word) : Rh03.rests (s ++ [a :: r]) [a] = Rh03.rests s [a] ++ [r] := by
  rw [rests_snoc]
  have e : Rh03.behind [a] (a :: r) = some r := by rw [behind_some]; rfl
  rw [e]
theorem rests_snoc_other (s : List Word) {a b : Nat} (r : Word) (h : b ≠ a) : Rh03.rests (s ++ [a :: r]) [b] = Rh03.rests s [b] := by
  rw [rests_snoc]
  have e : Rh03.behind [b] (a :: r) = none := by
    show (if b = a then Rh03.behind [] r else none) = none
    rw [if_neg h]
  rw [e, List.append_nil]
abbrev kv (ps : List (Nat × Addr)) : List (Key × V) := ps.map fun p => (Sum.inl ((p.1 : Nat) : Int), V.ref p.2)
theorem kv_none {a : Nat} : ∀ {ps : List (Nat × Addr)}, a ∉ ps.map (·.1) → valV (kv ps) (Sum.inl ((a : Nat) : Int)) = none
  | [], _ => rfl
  | p :: ps, h => by
    rw [List.map_cons, List.mem_cons, not_or] at h
    show valV ((Sum.inl ((p.1 : Nat) : Int), V.ref p.2) :: kv ps) _ = none
    rw [valV_neg (fun e => h.1 (by have := Sum.inl.inj e; omega))]
    exact kv_none h.2
theorem kv_some {a : Nat} {v : V} : ∀ {ps : List (Nat × Addr)}, valV (kv ps) (Sum.inl ((a : Nat) : Int)) = some v → ∃ l, (a, l) ∈ ps ∧ v = .ref l
  | [], h => by cases h
  | p :: ps, h => by
    have h' : valV ((Sum.inl ((p.1 : Nat) : Int), V.ref p.2) :: kv ps) (Sum.inl ((a : Nat) : Int)) = some v := h
    by_cases e : p.1 = a
    · rw [valV_pos (by rw [e])] at h'
      obtain ⟨p1, p2⟩ := p
      cases e
      exact ⟨p2, List.mem_cons_self, (Option.some.inj h').symm⟩
    · rw [valV_neg (fun q => e (by have := Sum.inl.inj q; omega))] at h'
      obtain ⟨l, h1, h2⟩ := kv_some h'
      exact ⟨l, List.mem_cons_of_mem _ h1, h2⟩
theorem kv_at {a : Nat} {l : Addr} : ∀ {ps : List (Nat × Addr)}, (ps.map (·.1)).Nodup → (a, l) ∈ ps → valV (kv ps) (Sum.inl ((a : Nat) : Int)) = some (.ref l)
  | p :: ps, nd, h => by
    rw [List.map_cons, List.nodup_cons] at nd
    show valV ((Sum.inl ((p.1 : Nat) : Int), V.ref p.2) :: kv ps) (Sum.inl ((a : Nat) : Int)) = _
    rcases List.mem_cons.mp h with e | e
    · subst e
      rw [valV_pos rfl]
    · have hne : ¬ p.1 = a := fun q => nd.1 (by rw [q]; exact List.mem_map.mpr ⟨(a, l), e, rfl⟩)
      rw [valV_neg (fun q => hne (by have := Sum.inl.inj q; omega))]
      exact kv_at nd.2 e
/-- the words done, by their first letters: a dict of lists -/
structure Grp (H : Hp) (d : Addr) (ps : List (Nat × Addr)) (done : List Word) : Prop where
  dict : H d = some (.dK (kv ps))
  ndk : (ps.map (·.1)).Nodup
  nda : (ps.map (·.2)).Nodup
  at_ : ∀ p ∈ ps, ∃ bs : List Addr, H p.2 = some (.lst (bs.map V.ref)) ∧ Paired (TupI H) bs (nk (Rh03.rests done [p.1]))
theorem Grp.stay {H H' : Hp} {d : Addr} {ps : List (Nat × Addr)} {done : List Word} (g : Grp H d ps done) (s : Same H H') : Grp H' d ps done :=
  ⟨s _ _ g.dict, g.ndk, g.nda, fun p hp => by
    obtain ⟨bs, h1, h2⟩ := g.at_ p hp
    exact ⟨bs, s _ _ h1, paired_stay h2 (Same.tups s)⟩⟩
theorem Grp.skip {H : Hp} {d : Addr} {ps : List (Nat × Addr)} {done : List Word} (g : Grp H d ps done) : Grp H d ps (done ++ [[]]) :=
  ⟨g.dict, g.ndk, g.nda, fun p hp => by rw [rests_snoc_nil]; exact g.at_ p hp⟩
/-- a new letter -/
theorem Grp.more {H : Hp} {d q : Addr} {ps : List (Nat × Addr)} {done : List Word} {a : Nat} (g : Grp H d ps done) (ha : a ∉ ps.map (·.1)) (hn : Rh03.rests done [a] = []) (hq : H q = some (.lst [])) (hqn : q ∉ ps.map (·.2)) :
    Grp (upd H d (.dK (kv (ps ++ [(a, q)])))) d (ps ++ [(a, q)]) done := by
  have nd : ∀ b u, H b = some (.lst u) → b ≠ d := fun b u e => ne_of e g.dict (by intro z; cases z)
  have nt : TupsStay H (upd H d (.dK (kv (ps ++ [(a, q)])))) := fun b ys e => by rw [upd_ne (ne_of e g.dict (by intro z; cases z))]; exact e
  refine ⟨upd_same, ?_, ?_, fun p hp => ?_⟩
  · rw [List.map_append, List.nodup_append]
    refine ⟨g.ndk, by simp, fun x hx y hy => ?_⟩
    have : y = a := by simpa using hy
    subst this; rintro rfl; exact ha hx
  · rw [List.map_append, List.nodup_append]
    refine ⟨g.nda, by simp, fun x hx y hy => ?_⟩
    have : y = q := by simpa using hy
    subst this; rintro rfl; exact hqn hx
  · rcases List.mem_append.mp hp with hp | hp
    · obtain ⟨bs, h1, h2⟩ := g.at_ p hp
      exact ⟨bs, by rw [upd_ne (nd _ _ h1)]; exact h1, paired_stay h2 nt⟩
    · have : p = (a, q) := by simpa using hp
      subst this
      refine ⟨[], by rw [upd_ne (nd _ _ hq)]; exact hq, ?_⟩
      rw [hn]; exact .nil
/-- a word more -/
theorem Grp.push {H : Hp} {d l t : Addr} {ps : List (Nat × Addr)} {done : List Word} {a : Nat} {r : Word} {bs : List Addr} (g : Grp H d ps done) (hl : (a, l) ∈ ps) (hb : H l = some (.lst (bs.map V.ref))) (ht : TupI H t (iw r)) :
    Grp (upd H l (.lst (bs.map V.ref ++ [.ref t]))) d ps (done ++ [a :: r]) := by
  have nt : TupsStay H (upd H l (.lst (bs.map V.ref ++ [.ref t]))) := fun b ys e => by rw [upd_ne (ne_of e hb (by intro z; cases z))]; exact e
  refine ⟨by rw [upd_ne (ne_of g.dict hb (by intro z; cases z))]; exact g.dict, g.ndk, g.nda, fun p hp => ?_⟩
  obtain ⟨cs, h1, h2⟩ := g.at_ p hp
  by_cases e : p.1 = a
  · have e2 : p = (a, l) := by
      obtain ⟨p1, p2⟩ := p
      cases e
      have x1 := kv_at g.ndk hp
      have x2 := kv_at g.ndk hl
      rw [x1] at x2
      cases x2
      rfl
    subst e2
    rw [hb] at h1
    have e3 : bs = cs := by
      have : bs.map V.ref = cs.map V.ref := by injection (Option.some.inj h1)
      exact List.map_inj_right (fun _ _ z => by injection z) |>.mp this
    subst e3
    refine ⟨bs ++ [t], by rw [upd_same, List.map_append]; rfl, ?_⟩
    rw [rests_snoc_same]
    show Paired _ _ ((Rh03.rests done [a] ++ [r]).map iw)
    rw [List.map_append]
    exact Paired.snoc (paired_stay h2 nt) (ht.stay nt)
  · have hne : p.2 ≠ l := fun z => e (by
      have i1 : ∀ {ps : List (Nat × Addr)}, (ps.map (·.2)).Nodup → ∀ x ∈ ps, ∀ y ∈ ps, x.2 = y.2 → x = y := by
        intro ps
        induction ps with
        | nil => intro _ x hx; cases hx
        | cons z ps ih =>
          intro nd x hx y hy exy
          rw [List.map_cons, List.nodup_cons] at nd
          rcases List.mem_cons.mp hx with hx | hx <;> rcases List.mem_cons.mp hy with hy | hy
          · rw [hx, hy]
          · exact absurd (List.mem_map.mpr ⟨y, hy, by rw [← exy, hx]⟩) nd.1
          · exact absurd (List.mem_map.mpr ⟨x, hx, by rw [exy, hy]⟩) nd.1
          · exact ih nd.2 x hx y hy exy
      rw [i1 g.nda p hp (a, l) hl z])
    refine ⟨cs, by rw [upd_ne hne]; exact h1, ?_⟩
    rw [rests_snoc_other _ _ e]
    exact paired_stay h2 nt

abbrev sLinks : Stmt := top 13
/-- the links of the state s: pairs of a letter and the state behind it -/
def LinksAt (H : Hp) (p : Addr) (s : List Word) : Prop := ∃ ts : List Addr, H p = some (.lst (ts.map V.ref)) ∧ Paired (fun t a => ∃ q, H t = some (.tup [.int ((a : Nat) : Int), .ref q]) ∧ TupN H q (nk (Rh03.rests s [a]))) ts (Rh03.letters s)
def spLinks : Sp := fun vs H Q _ => ∃ (a : Addr) (s : List Word), vs = [.ref a] ∧ TupN H a (nk s) ∧ s.length ≤ 60 ∧ (Rh03.letters s).length ≤ 60 ∧ ∀ (H' : Hp) (p : Addr), Same H H' → H p = none → LinksAt H' p s → Q (.ref p) H'
theorem up_of_perm {ks : List Nat} {ys : List Int} {s : List Word} (hp : ys.Perm (ks.map fun a => ((a : Nat) : Int))) (ho : ys.Pairwise (· ≤ ·)) (nd : ks.Nodup) (hk : ∀ a, a ∈ ks ↔ ∃ r, a :: r ∈ s) : ys = (Rh03.letters s).map fun a => ((a : Nat) : Int) := by
  have ndi : (ks.map fun a => ((a : Nat) : Int)).Nodup := by
    refine List.Pairwise.map _ (fun a b h => ?_) nd
    intro e; exact h (by omega)
  have ndy : ys.Nodup := (hp.nodup_iff).mpr ndi
  have e1 : ys = (ys.map Int.toNat).map fun a => ((a : Nat) : Int) := by
    rw [List.map_map]
    have e0 : ys.map (fun x => x) = ys.map ((fun a => ((a : Nat) : Int)) ∘ Int.toNat) := by
      refine List.map_congr_left fun x hx => ?_
      obtain ⟨a, _, rfl⟩ := List.mem_map.mp (hp.mem_iff.mp hx)
      show ((a : Nat) : Int) = (((a : Int)).toNat : Int)
      omega
    rw [← e0]
    simp
  have up : Up (ys.map Int.toNat) := by
    unfold Up
    rw [List.pairwise_map]
    have both := List.Pairwise.and ho ndy
    refine List.Pairwise.imp_of_mem (fun {x y} hx hy h => ?_) both
    obtain ⟨a, _, rfl⟩ := List.mem_map.mp (hp.mem_iff.mp hx)
    obtain ⟨b, _, rfl⟩ := List.mem_map.mp (hp.mem_iff.mp hy)
    have h1 := h.1
    have h2 := h.2
    omega
  have e2 : ys.map Int.toNat = Rh03.letters s := by
    refine up_ext up (up_letters s) fun a => ?_
    rw [mem_letters, ← hk, List.mem_map]
    constructor
    · rintro ⟨x, hx, rfl⟩
      obtain ⟨b, hb, rfl⟩ := List.mem_map.mp (hp.mem_iff.mp hx)
      simpa using hb
    · intro h
      exact ⟨(a : Int), hp.mem_iff.mpr (List.mem_map.mpr ⟨a, h, rfl⟩), by simp⟩
  rw [e2] at e1
  exact e1
section
variable {P : Program} {w : World} {K : PySem.W.Frag} {mg : Str → Option Value} {base : Heap}
theorem scLinks : FnScope ["rests", "behind", "rest", "letter"] ["rests"] (defScope sLinks) := ⟨rfl, rfl, rfl, by decide +kernel, rfl, by decide +kernel, by decide +kernel⟩
theorem ok_links {f : Addr} {fd : FuncData} (F : Fun K "links_from" "links_from" sLinks f fd) (T : Names mg) : FnOk P w K mg base CX0 1 f fd ["rests"] spLinks := by
  refine F.ok scLinks (fun vs H Q E h => ?_) (fun cdv A outer s H vs Q E hr h => ?_)
  · obtain ⟨a, d, rfl, _⟩ := h
    rfl
  · obtain ⟨a, d, rfl, ha, hd, hlt, k⟩ := h
    have hu := hu_of hr
    obtain ⟨bs, hbs, hpb⟩ := ha
    have hbl : bs.length = d.length := by rw [Paired.length hpb, List.length_map]
    refine ⟨_, pss_cons (ps_set (i := 1) scLinks.nd rfl (Or.inr rfl) pe_dnewK)
      (pss_cons (ps_for PassesOwn.never rfl (pi_tup (pv 0)) (pg_name (i := 2) scLinks.nd rfl (Or.inl rfl))
        (pss_one (ps_if (pt_cmpR op_gt (pe_callB call_len_seq (by rfl) T.len PySem.boot_len (pa_cons (pv 2) pa_nil)) pe_int (nomark _))
          (pss_one (ps_expr (pe_bm PySem.F.plainAttrs_list PySem.F.slot_list_append PySem.F.type_list_append mt_append
            (pe_dsetd (pv 1) (pe_ix ix_tup (pv 2) pe_int (fun _ _ => rfl)) (pe_lst pa_nil) ⟨rfl, rfl, rfl, rfl⟩) (pa_cons (pe_slice sl_tupA (pv 2) (po_some pe_int) po_none) pa_nil)))) pss_nil)))
      (pss_one (ps_ret (pe_lc (own := [("letter", 3)]) (g := gName 3) (tt := tYes) (te := tTup (tCons (tVar 3) (tCons (tCB (rTupOf K) (tCons (tDGet (tVar 1) (tVar 3)) tNil)) tNil))) rfl scLinks.nd
        (pi_list (pe_callB (call_sortedDI rfl) (by rfl) T.sorted (by decide +kernel) (pa_cons (pv 1) pa_nil))) (blkOk_by (N := ["rests", "behind", "rest", "letter"]) (sc := defScope sLinks) (by decide +kernel)) (fun _ _ _ _ _ => pg_name (i := 3) scLinks.nd rfl (Or.inl rfl)) (fun _ _ _ _ _ => pts_nil)
        (fun _ _ _ _ _ => pe_tup (pa_cons (pv 3) (pa_cons (pe_callTy (r := rTupOf K) call_tuple_of (by rfl) T.tuple (by decide +kernel) (pa_cons (pe_dget hu (pv 1) (pv 3) (fun _ _ => rfl)) pa_nil)) pa_nil))))))), ?_⟩
    intro q hq
    refine ⟨_, rfl, a, rfl, ⟨_, SqT.of (Same.new hq _ _ hbs)⟩, for_tup (K := K) (a := a) (xs := bs.map V.ref)
      (fun i σ H' => ∃ v : Option V, σ = [some (.ref a), some (.ref q), v, none] ∧ Same H H' ∧ ∃ ps : List (Nat × Addr), Grp H' q ps (d.take i) ∧ (∀ b, b ∈ ps.map (·.1) ↔ ∃ r, b :: r ∈ d.take i) ∧ (∀ p ∈ ps, H p.2 = none) ∧ ps.length ≤ i)
      ⟨none, rfl, Same.new hq, [], ⟨upd_same, List.nodup_nil, List.nodup_nil, fun p hp => nomatch hp⟩, fun b => by simp, fun p hp => (nomatch hp), Nat.le_refl _⟩ (fun i σ H' _ ⟨_, _, s1, _⟩ => SqT.of (s1 _ _ hbs)) ?_ ?_⟩
    · rintro i x σ H' hi ⟨v, rfl, s1, ps, g, hk, hn, hpl⟩
      obtain ⟨b, hb, rfl⟩ := get_map hi
      obtain ⟨ks, hks, hbk⟩ := paired_get hpb hb
      obtain ⟨r, hrd, rfl⟩ := get_map hks
      have et := take_more hrd
      have hil : i < d.length := (List.getElem?_eq_some_iff.mp hrd).1
      refine ⟨_, rfl, b, _, rfl, .inr (SqT.of (s1 _ _ hbk)), _, _, rfl, rfl, _, rfl, ?_⟩
      cases r with
      | nil =>
        refine ifF rfl ⟨some (.ref b), rfl, s1, ps, ?_, fun c => ?_, hn, by omega⟩
        · rw [et]; exact g.skip
        · rw [et, hk]
          constructor
          · rintro ⟨r, h⟩; exact ⟨r, List.mem_append_left _ h⟩
          · rintro ⟨r, h⟩
            rcases List.mem_append.mp h with h | h
            · exact ⟨r, h⟩
            · simp at h
      | cons c r =>
        have fin : ∀ (H3 : Hp) (ps' : List (Nat × Addr)) (l : Addr), Same H H3 → Grp H3 q ps' (d.take i) → (c, l) ∈ ps' → (∀ b, b ∈ ps'.map (·.1) ↔ (b = c ∨ ∃ r, b :: r ∈ d.take i)) → (∀ p ∈ ps', H p.2 = none) → ps'.length ≤ i + 1 →
            tyV K "list" (.ref l) H3 ∧ (tCons (tSl (rSlA K) (tVar 2) (tPart (tC (V.int 1))) tNoPart) tNil) [some (.ref a), some (.ref q), some (.ref b), none] H3 fun vs H2 => rAppend (.ref l) vs H2 fun _ H4 =>
              ∃ v : Option V, [some (V.ref a), some (V.ref q), some (V.ref b), none] = [some (V.ref a), some (V.ref q), v, none] ∧ Same H H4 ∧ ∃ ps : List (Nat × Addr), Grp H4 q ps (d.take (i + 1)) ∧ (∀ b, b ∈ ps.map (·.1) ↔ ∃ r, b :: r ∈ d.take (i + 1)) ∧ (∀ p ∈ ps, H p.2 = none) ∧ ps.length ≤ i + 1 := by
          intro H3 ps' l s3 g3 hl3 hk3 hn3 hp3
          obtain ⟨cs, hcs, hpc⟩ := g3.at_ _ hl3
          refine ⟨.inl ⟨rfl, _, SqL.of hcs⟩, _, rfl, _, rfl, ?_⟩
          dsimp only [tNoPart]
          refine slice_ints (ks := iw (c :: r)) (s3 _ _ hbk) fun p H2 s2 hp2 => ?_
          rw [cut_from1] at hp2
          have hlen : cs.length ≤ 60 := by
            have h1 := Paired.length hpc
            rw [List.length_map] at h1
            have h2 := List.length_filterMap_le (Rh03.behind [c]) (d.take i)
            have h3 : (Rh03.rests (d.take i) [c]).length ≤ (d.take i).length := h2
            rw [List.length_take] at h3
            rw [h1]
            have : (Rh03.rests (d.take i) [(c, l).1]).length = (Rh03.rests (d.take i) [c]).length := rfl
            omega
          refine ⟨l, _, _, rfl, rfl, s2 _ _ hcs, by rw [List.length_map, sizeLine_eq]; omega, some (.ref b), rfl, fun c' o e => ?_, ps', ?_, fun x => ?_, hn3, hp3⟩
          · rw [upd_ne (ne_of_none e (hn3 _ hl3))]
            exact s2 _ _ (s3 _ _ e)
          · rw [et]
            exact (g3.stay s2).push hl3 (s2 _ _ hcs) hp2
          · rw [hk3, et]
            constructor
            · rintro (rfl | ⟨r', h⟩)
              · exact ⟨r, List.mem_append_right _ List.mem_cons_self⟩
              · exact ⟨r', List.mem_append_left _ h⟩
            · rintro ⟨r', h⟩
              rcases List.mem_append.mp h with h | h
              · exact .inr ⟨r', h⟩
              · have : x :: r' = c :: r := by simpa using h
                injection this with h1 _
                exact .inl h1
        refine ifT (decide_eq_true (by show (0 : Int) < (((iw (c :: r)).map V.int).length : Nat); rw [List.length_map, iw_len, List.length_cons]; omega)) ?_
        refine ⟨_, rfl, q, rfl, .inl ⟨_, .inl g.dict⟩, _, rfl, b, _, _, _, rfl, rfl, SqT.of (s1 _ _ hbk), atI_nat (j := 0) (v := V.int ((c : Nat) : Int)) rfl, Nat.zero_le _, fun q2 hq2 => ?_⟩
        have s2 : Same H' (upd H' q2 (.lst [])) := Same.new hq2
        have g2 := g.stay s2
        refine ⟨kv ps, Sum.inl ((c : Nat) : Int), g2.dict, rfl, by rw [List.length_map, sizeLine_eq]; omega, fun v hv => ?_, fun hv => ?_⟩
        · obtain ⟨l, hl, rfl⟩ := kv_some hv
          refine fin _ ps l (Same.trans s1 s2) g2 hl (fun x => ?_) hn (by omega)
          rw [hk]
          constructor
          · exact .inr
          · rintro (rfl | h)
            · exact (hk x).mp (List.mem_map.mpr ⟨(x, l), hl, rfl⟩)
            · exact h
        · have hc : c ∉ ps.map (·.1) := fun h => by
            obtain ⟨⟨c', l⟩, hl, e⟩ := List.mem_map.mp h
            cases e
            rw [kv_at g.ndk hl] at hv
            cases hv
          have hr0 : Rh03.rests (d.take i) [c] = [] := Classical.byContradiction fun z => hc ((hk c).mpr (mem_letters.mp (rests_ne.mp z)))
          have hq2n : H q2 = none := by
            cases e : H q2 with
            | none => rfl
            | some o => have := s1 _ _ e; rw [hq2] at this; cases this
          have hqps : q2 ∉ ps.map (·.2) := fun h => by
            obtain ⟨p, hp, rfl⟩ := List.mem_map.mp h
            obtain ⟨cs, hcs, _⟩ := g.at_ p hp
            rw [hq2] at hcs; cases hcs
          have ep : putK (kv ps) (Sum.inl ((c : Nat) : Int)) (V.ref q2) = kv (ps ++ [(c, q2)]) := by
            rw [putK_new _ hv]
            show _ = (ps ++ [(c, q2)]).map _
            rw [List.map_append]; rfl
          rw [ep]
          have hqn : H q = none := hq
          refine fin _ (ps ++ [(c, q2)]) q2 (fun b' o e => ?_) (g2.more hc hr0 upd_same hqps) (List.mem_append_right _ List.mem_cons_self) (fun x => ?_) (fun p hp => ?_) (by rw [List.length_append, List.length_singleton]; omega)
          · rw [upd_ne (ne_of_none e hqn)]
            exact s2 _ _ (s1 _ _ e)
          · rw [List.map_append, List.mem_append, hk]
            constructor
            · rintro (h | h)
              · exact .inr h
              · exact .inl (by simpa using h)
            · rintro (h | h)
              · exact .inr (by simpa using h)
              · exact .inl h
          · rcases List.mem_append.mp hp with h | h
            · exact hn p h
            · have : p = (c, q2) := by simpa using h
              subst this; exact hq2n
    · rintro σ H' ⟨v, rfl, s1, ps, g, hk, hn, hpl⟩
      rw [List.length_map, hbl, List.take_length] at g
      rw [List.length_map, hbl, List.take_length] at hk
      rw [List.length_map, hbl] at hpl
      refine ⟨_, rfl, q, kv ps, (ps.map (·.1)).map fun a => ((a : Nat) : Int), rfl, .inl g.dict, by rw [List.map_map, List.map_map, List.map_map]; rfl, by rw [List.length_map, List.length_map]; omega, fun ys p hperm hord hp => ?_⟩
      have ey := up_of_perm hperm hord g.ndk hk
      subst ey
      have s2 : Same H' (upd H' p (.lst (((Rh03.letters d).map fun a => ((a : Nat) : Int)).map V.int))) := Same.new hp
      refine ⟨p, rfl, ⟨_, SqL.of upd_same⟩, fun D hD => lc_list (K := K) (a := p) (xs := ((Rh03.letters d).map fun a => ((a : Nat) : Int)).map V.int)
        (fun i H2 => Same (upd H' p (.lst (((Rh03.letters d).map fun a => ((a : Nat) : Int)).map V.int))) H2 ∧ ∃ ts : List Addr, H2 D = some (.lst (ts.map V.ref)) ∧ Paired (fun t a => ∃ q, H2 t = some (.tup [.int ((a : Nat) : Int), .ref q]) ∧ TupN H2 q (nk (Rh03.rests d [a]))) ts ((Rh03.letters d).take i))
        ⟨Same.new hD, [], upd_same, .nil⟩ (fun i H2 _ h => SqL.of (h.1 _ _ upd_same)) ?_ ?_⟩
      · rintro i x H2 hi ⟨s3, ts, hts, hpt⟩
        obtain ⟨y, hy, rfl⟩ := get_map hi
        obtain ⟨c, hc, rfl⟩ := get_map hy
        obtain ⟨⟨c', l⟩, hl0, e⟩ := List.mem_map.mp ((hk c).mpr (mem_letters.mp (List.mem_of_getElem? hc)))
        have hl : (c, l) ∈ ps := by rw [← show c' = c from e]; exact hl0
        have g3 := g.stay (Same.trans s2 s3)
        obtain ⟨cs, hcs, hpc⟩ := g3.at_ _ hl
        refine ⟨rfl, _, rfl, _, rfl, _, rfl, q, _, rfl, (by rw [← kv_at g.ndk hl]; exact DGet.k (k := Sum.inl ((c : Nat) : Int)) g3.dict), l, _, rfl, .inl ⟨SqL.of hcs, fun p2 hp2 => ⟨by show 2 ≤ sizeLine; decide, fun p3 hp3 => ?_⟩⟩⟩
        have s4 : Same H2 (upd H2 p2 (.tup (cs.map V.ref))) := Same.new hp2
        have s5 : Same (upd H2 p2 (.tup (cs.map V.ref))) (upd (upd H2 p2 (.tup (cs.map V.ref))) p3 (.tup [.int ((c : Nat) : Int), .ref p2])) := Same.new hp3
        have s6 := Same.trans s4 s5
        have nD : ∀ b ys, (upd (upd H2 p2 (.tup (cs.map V.ref))) p3 (.tup [.int ((c : Nat) : Int), .ref p2])) b = some (.tup ys) → b ≠ D := fun b ys e => ne_of e (s6 _ _ hts) (by intro z; cases z)
        refine ⟨_, s6 _ _ hts, ?_, fun b o e => ?_, ts ++ [p3], by rw [upd_same, List.map_append]; rfl, ?_⟩
        · have h1 := Paired.length hpt
          rw [List.length_take] at h1
          rw [List.length_map, sizeLine_eq]; omega
        · rw [upd_ne (ne_of_none e hD)]
          exact s6 _ _ (s3 _ _ e)
        · have st : TupsStay (upd (upd H2 p2 (.tup (cs.map V.ref))) p3 (.tup [.int ((c : Nat) : Int), .ref p2])) (upd (upd (upd H2 p2 (.tup (cs.map V.ref))) p3 (.tup [.int ((c : Nat) : Int), .ref p2])) D (.lst (ts.map V.ref ++ [.ref p3]))) :=
            fun b ys e => by rw [upd_ne (nD b ys e)]; exact e
          have st2 : TupsStay H2 (upd (upd (upd H2 p2 (.tup (cs.map V.ref))) p3 (.tup [.int ((c : Nat) : Int), .ref p2])) D (.lst (ts.map V.ref ++ [.ref p3]))) := fun b ys e => st _ _ (s6 _ _ e)
          rw [take_more hc]
          refine Paired.snoc (Paired.mapP hpt fun t a ⟨q', h1, h2⟩ => ⟨q', st2 _ _ h1, h2.stay st2⟩) ⟨p2, st _ _ upd_same, cs, st _ _ (s5 _ _ upd_same), paired_stay hpc st2⟩
      · rintro H2 ⟨s3, ts, hts, hpt⟩
        rw [List.length_map, List.length_map, List.take_length] at hpt
        exact k H2 D (Same.trans s1 (Same.trans s2 s3)) (fresh_of (Same.trans s1 s2) hD) ⟨ts, hts, hpt⟩
end
end Ls
/-! LsD4 -/
namespace Ls
open PySem PySem.Spec PyProof.Rows L2
/-- a def of the module, by its name -/
def Callee (P : Program) (w : World) (K : PySem.W.Frag) (mg : Str → Option Value) (base : Heap) (x : Str) (k : Nat) (ps : List Str) (sp : Sp) : Prop :=
  ∃ f fd, FnOk P w K mg base CX0 k f fd ps sp ∧ mg x = some (.ref f) ∧ PySem.W.keepIn K (.ref f) = true ∧ Binds K fd ps []
theorem once_len (a : Nat) : ∀ l : List Nat, (Rh03.once a l).length ≤ l.length + 1
  | [] => Nat.le_refl _
  | x :: l => by
    rw [once_cons]
    by_cases h : a < x
    · rw [if_pos h]; simp
    · rw [if_neg h]
      by_cases e : x = a
      · rw [if_pos e]; simp
      · rw [if_neg e, List.length_cons, List.length_cons]
        have := once_len a l
        omega
theorem letters_len (s : List Word) : (Rh03.letters s).length ≤ s.length := by
  have go : ∀ ws l : List Nat, (ws.foldl (fun l a => Rh03.once a l) l).length ≤ l.length + ws.length := by
    intro ws
    induction ws with
    | nil => intro l; exact Nat.le_refl _
    | cons a ws ih =>
      intro l
      have h1 := ih (Rh03.once a l)
      have h2 := once_len a l
      rw [List.foldl_cons, List.length_cons]
      omega
  have h1 := go (s.filterMap fun w => w.head?) []
  have h2 := List.length_filterMap_le (fun w : Word => w.head?) s
  simp only [List.length_nil] at h1
  have h3 : (Rh03.letters s).length ≤ 0 + (s.filterMap fun w : Word => w.head?).length := h1
  omega
theorem rests_len (s : List Word) (p : Word) : (Rh03.rests s p).length ≤ s.length := List.length_filterMap_le _ _
theorem kid_len {s t : List Word} (h : t ∈ kids s) : t.length ≤ s.length := by
  obtain ⟨a, _, rfl⟩ := mem_kids.mp h
  exact rests_len s [a]
/-- the states l, each with its number -/
def Nums (xs : List (NKey × Addr × V)) (l : List (List Word)) : Prop := xs.length = l.length ∧ ∀ (i : Nat) (s : List Word), l[i]? = some s → ∃ q, xs[i]? = some (nk s, q, .int ((i : Nat) : Int))
theorem Nums.nil : Nums [] [] := ⟨rfl, fun i s h => by simp at h⟩
theorem Nums.snoc {xs : List (NKey × Addr × V)} {l : List (List Word)} (h : Nums xs l) (s : List Word) (q : Addr) : Nums (xs ++ [(nk s, q, .int ((xs.length : Nat) : Int))]) (l ++ [s]) := by
  refine ⟨by rw [List.length_append, List.length_append, h.1]; rfl, fun i t ht => ?_⟩
  by_cases hi : i < l.length
  · rw [List.getElem?_append_left hi] at ht
    obtain ⟨q', e⟩ := h.2 i t ht
    exact ⟨q', by rw [List.getElem?_append_left (by rw [h.1]; exact hi)]; exact e⟩
  · have hlt : i < (l ++ [s]).length := (List.getElem?_eq_some_iff.mp ht).1
    rw [List.length_append, List.length_singleton] at hlt
    have hil : i = l.length := by omega
    subst hil
    rw [List.getElem?_append_right (Nat.le_refl _), Nat.sub_self] at ht
    have : s = t := Option.some.inj ht
    subst this
    refine ⟨q, ?_⟩
    rw [← h.1, List.getElem?_append_right (Nat.le_refl _), Nat.sub_self]
    rfl
theorem Nums.val {xs : List (NKey × Addr × V)} {l : List (List Word)} (h : Nums xs l) (s : List Word) : valN xs (nk s) = if s ∈ l then some (.int ((Rh03.place l s : Nat) : Int)) else none := by
  have go : ∀ (xs : List (NKey × Addr × V)) (l : List (List Word)) (n : Nat), xs.length = l.length → (∀ (i : Nat) (s : List Word), l[i]? = some s → ∃ q, xs[i]? = some (nk s, q, .int ((i + n : Nat) : Int))) → valN xs (nk s) = if s ∈ l then some (.int ((Rh03.place l s + n : Nat) : Int)) else none := by
    intro xs
    induction xs with
    | nil =>
      intro l n hl _
      cases l with
      | nil => rfl
      | cons t l => cases hl
    | cons x xs ih =>
      intro l n hl hx
      cases l with
      | nil => cases hl
      | cons t l =>
        obtain ⟨q, e⟩ := hx 0 t rfl
        have e' : x = (nk t, q, .int ((0 + n : Nat) : Int)) := Option.some.inj e
        rw [valN_cons, e']
        rw [place_cons]
        by_cases c : t = s
        · subst c
          rw [if_pos rfl, if_pos List.mem_cons_self, if_pos rfl]
        · rw [if_neg (show ¬ nk t = nk s from fun z => c (nk_inj z)), if_neg c]
          have h2 := ih l (n + 1) (by simpa using hl) (fun i s' hs' => by
            obtain ⟨q', e2⟩ := hx (i + 1) s' hs'
            refine ⟨q', ?_⟩
            have e3 : xs[i]? = some (nk s', q', .int ((i + 1 + n : Nat) : Int)) := e2
            rw [e3]
            have : i + 1 + n = i + (n + 1) := by omega
            rw [this])
          rw [h2]
          have hm : s ∈ t :: l ↔ s ∈ l := by
            rw [List.mem_cons]
            exact ⟨fun h => h.elim (fun z => absurd z.symm c) id, .inr⟩
          simp only [hm]
          have e4 : Rh03.place l s + (n + 1) = Rh03.place l s + 1 + n := by omega
          rw [e4]
  have := go xs l 0 h.1 (fun i s hs => h.2 i s hs)
  simpa using this
/-- numbers holds the states of d -/
def NumAt (P : Program) (w : World) (H : Hp) (p : Addr) (d : List Word) : Prop := ∃ xs, H p = some (DN P w p xs) ∧ NK H xs ∧ Nums xs (Rh03.states d)
def spNumber (P : Program) (w : World) : Sp := fun vs H Q _ => ∃ (l : Addr) (d : List Word), vs = [.ref l] ∧ DictAt H l d ∧ d.length ≤ 60 ∧ (∀ u ∈ d, Fine u) ∧ ∀ (H' : Hp) (p : Addr), Same H H' → H p = none → NumAt P w H' p d → Q (.ref p) H'
/-- what waits and what is met -/
def RunAt (P : Program) (w : World) (H : Hp) (n wt : Addr) (d : List Word) (m : Nat) : Prop := ∃ (xs : List (NKey × Addr × V)) (ts : List Addr) (seen stack : List (List Word)), H n = some (DN P w n xs) ∧ NK H xs ∧ Nums xs seen ∧
  H wt = some (.lst (ts.map V.ref)) ∧ Paired (TupN H) ts (stack.map nk) ∧ stack.reverse.foldl M seen = Rh03.states d ∧ (∀ s ∈ stack, s.length ≤ 60) ∧ (stack.map T).sum = m ∧ seen.length + m ≤ 500
theorem T_small {d : List Word} (h1 : d.length ≤ 60) (h2 : ∀ u ∈ d, Fine u) : T d ≤ 481 := by
  have a := T_bound d
  have b := letterSum_le (n := 8) (m := 60) (fun u hu => (h2 u hu).1) h1
  omega
theorem sumT_ge (l : List (List Word)) : l.length ≤ (l.map T).sum := by
  induction l with
  | nil => exact Nat.le_refl _
  | cons s l ih =>
    rw [List.map_cons, List.sum_cons, List.length_cons]
    have := T_pos s
    omega
theorem sum_app (a b : List Nat) : (a ++ b).sum = a.sum + b.sum := by simp
theorem sum_rev (a : List Nat) : a.reverse.sum = a.sum := by simp
theorem paired_stayN {H H' : Hp} {ts : List Addr} {ss : List NKey} (h : Paired (TupN H) ts ss) (t : TupsStay H H') : Paired (TupN H') ts ss := Paired.mapP h fun _ _ z => z.stay t
theorem paired_snoc {α β : Type} {F : α → β → Prop} : ∀ {l : List α} {m : List β} {a : α} {b : β}, Paired F (l ++ [a]) (m ++ [b]) → Paired F l m ∧ F a b
  | [], [], _, _, .cons r .nil => ⟨.nil, r⟩
  | [], _ :: m, _, _, h => by
    have := Paired.length h
    rw [List.length_append, List.length_append] at this
    simp at this
  | _ :: l, [], _, _, h => by
    have := Paired.length h
    rw [List.length_append, List.length_append] at this
    simp at this
  | _ :: l, _ :: m, _, _, .cons r t => by
    obtain ⟨h1, h2⟩ := paired_snoc (l := l) (m := m) t
    exact ⟨.cons r h1, h2⟩
abbrev sNumber : Stmt := top 16
section
variable {P : Program} {w : World} {K : PySem.W.Frag} {mg : Str → Option Value} {base : Heap}
theorem scNumber : FnScope ["words", "numbers", "waiting", "rests", "link"] ["words"] (defScope sNumber) := ⟨rfl, rfl, rfl, by decide +kernel, rfl, by decide +kernel, by decide +kernel⟩
theorem ok_number {f : Addr} {fd : FuncData} (F : Fun K "number_states" "number_states" sNumber f fd) (T0 : Names mg) (CL : Callee P w K mg base "links_from" 1 ["rests"] spLinks) : FnOk P w K mg base CX0 2 f fd ["words"] (spNumber P w) := by
  obtain ⟨fL, fdL, GL, mgL, kpL, bL⟩ := CL
  refine F.ok scNumber (fun vs H Q E h => ?_) (fun cdv A outer s H vs Q E hr h => ?_)
  · obtain ⟨a, d, rfl, _⟩ := h
    rfl
  · obtain ⟨l, d, rfl, ⟨bs, hl, hpb⟩, hd, hfi, k⟩ := h
    have hu := hr4 hr
    have hbl : bs.length = d.length := by rw [Paired.length hpb, List.length_map]
    refine ⟨_, pss_cons (ps_set (i := 1) scNumber.nd rfl (Or.inl rfl) pe_nnew)
      (pss_cons (ps_set (i := 2) scNumber.nd rfl (Or.inl rfl) (pe_lst pa_nil))
      (pss_cons (ps_if (pt_cmpR op_gt (pe_callB call_len_seq (by rfl) T0.len PySem.boot_len (pa_cons (pv 0) pa_nil)) pe_int (nomark _))
        (pss_one (ps_expr (pe_bm PySem.F.plainAttrs_list PySem.F.slot_list_append PySem.F.type_list_append mt_append (pv 2) (pa_cons (pe_callTy call_tuple_of (by rfl) T0.tuple (by decide +kernel) (pa_cons (pv 0) pa_nil)) pa_nil)))) pss_nil)
      (pss_cons (ps_while PassesOwn.never (pt_cmpR op_gt (pe_callB call_len_seq (by rfl) T0.len PySem.boot_len (pa_cons (pv 2) pa_nil)) pe_int (nomark _))
        (pss_cons (ps_set (i := 3) scNumber.nd rfl (Or.inl rfl) (pe_bm0 PySem.F.plainAttrs_list PySem.F.slot_list_pop PySem.F.type_list_pop mt_pop (pv 2)))
        (pss_one (ps_if (pt_cmp (pc_nnotin hu (pv 3) (pv 1)))
          (pss_cons (ps_nput hu (pv 1) (pv 3) (pe_callB call_len_dN (by rfl) T0.len PySem.boot_len (pa_cons (pv 1) pa_nil)) rfl)
          (pss_one (ps_for PassesOwn.never rfl (pi_reversed (by rfl) T0.reversed (pa_cons (pe_call GL hr rfl mgL kpL bL .nil pass0 (pa_cons (pv 3) pa_nil)) pa_nil)) (pg_name (i := 4) scNumber.nd rfl (Or.inl rfl))
            (pss_one (ps_expr (pe_bm PySem.F.plainAttrs_list PySem.F.slot_list_append PySem.F.type_list_append mt_append (pv 2) (pa_cons (pe_ix ix_tup (pv 4) pe_int (fun _ _ => rfl)) pa_nil))))))) pss_nil))))
      (pss_one (ps_ret (pv 1)))))), ?_⟩
    intro n hn
    refine ⟨Nat.zero_le _, fun wt hwt => ?_⟩
    have hwn : wt ≠ n := fun e => by rw [e, upd_same] at hwt; cases hwt
    have hwH : H wt = none := fresh_of (Same.new hn) hwt
    have s2 : Same H (upd (upd H n (DN P w n [])) wt (.lst [])) := Same.trans (Same.new hn) (Same.new hwt)
    -- from a start, the loop and the end
    have loop : ∀ (H3 : Hp) (v3 v4 : Option V) (m : Nat), Same H H3 → RunAt P w H3 n wt d m →
        tWhile (tTest (tOp (rI0 fun i j => V.bl (decide (j < i))) (tCB (rLenS K) (tCons (tVar 2) tNil)) (tC (.int 0))))
          (tSeq (tAsg (tBM0 K "list" rPop (tVar 2)) (gName 3))
            (tIfS (tTest (tNNotIn P w (tVar 3) (tVar 1)))
              (tSeq (sNPut P w (tVar 1) (tVar 3) (tCB (rLenN P w) (tCons (tVar 1) tNil)))
                (tFor (iRev K (tCons (tCall spLinks [] E0 (tCons (tVar 3) tNil)) tNil)) (gName 4)
                  (tDrop (tBM K "list" rAppend (tVar 2) (tCons (tOp (rIxT K) (tVar 4) (tC (.int 1))) tNil))))) tNext))
          { nx := tRet (tVar 1) { nx := fun _ H' => Q .non H', rt := Q }, rt := Q } [some (.ref l), some (.ref n), some (.ref wt), v3, v4] H3 := by
      intro H3 v3 v4 m s3 R3
      refine ⟨fun m σ H' => ∃ v3 v4, σ = [some (.ref l), some (.ref n), some (.ref wt), v3, v4] ∧ Same H H' ∧ RunAt P w H' n wt d m, ⟨m, v3, v4, rfl, s3, R3⟩, ?_⟩
      rintro m σ H' ⟨v3, v4, rfl, s4, xs, ts, seen, stack, hnn, hnk, hnum, hww, hpt, hfold, hsm, hsum, hbd⟩
      have htl : ts.length = stack.length := by rw [Paired.length hpt, List.length_map]
      have hst := sumT_ge stack
      refine ⟨_, rfl, wt, _, rfl, .inl (SqL.of hww), _, _, rfl, rfl, _, rfl, ?_⟩
      rw [List.length_map]
      rcases List.eq_nil_or_concat stack with e0 | ⟨st, s0, e0⟩
      · subst e0
        have ht0 : ts.length = 0 := by rw [htl]; rfl
        refine ifF (decide_eq_false (by rw [ht0]; decide)) ⟨_, rfl, ?_⟩
        refine k H' n s4 hn ⟨xs, hnn, hnk, ?_⟩
        have hf : seen = Rh03.states d := hfold
        rw [← hf]; exact hnum
      · rw [List.concat_eq_append] at e0
        subst e0
        obtain ⟨ts', t, rfl⟩ : ∃ ts' t, ts = ts' ++ [t] := by
          rcases List.eq_nil_or_concat ts with z | ⟨a, b, z⟩
          · rw [z, List.length_append, List.length_singleton, List.length_nil] at htl; omega
          · exact ⟨a, b, by rw [z, List.concat_eq_append]⟩
        rw [List.map_append, List.map_singleton] at hpt
        obtain ⟨hp1, hp2⟩ := paired_snoc hpt
        have hs0 : s0.length ≤ 60 := hsm s0 (List.mem_append_right _ List.mem_cons_self)
        rw [List.map_append, sum_app] at hsum
        have hsum' : (st.map T).sum + T s0 = m := by simpa using hsum
        have hTp := T_pos s0
        have hrev : (st ++ [s0]).reverse = s0 :: st.reverse := by simp
        rw [hrev, List.foldl_cons] at hfold
        refine ifT (decide_eq_true (by rw [List.length_append, List.length_singleton]; omega)) ?_
        refine ⟨fun σ' H' => ∃ m', m' < m ∧ ∃ v3 v4, σ' = [some (.ref l), some (.ref n), some (.ref wt), v3, v4] ∧ Same H H' ∧ RunAt P w H' n wt d m', fun σ' H' h => h, ?_⟩
        have hlast : ((ts' ++ [t]).map V.ref)[((ts' ++ [t]).map V.ref).length - 1]? = some (V.ref t) := by
          rw [List.map_append, List.length_append]
          simp
        refine ⟨_, rfl, .inl ⟨rfl, _, SqL.of hww⟩, wt, _, _, rfl, rfl, hww, hlast, ?_⟩
        have edl : ((ts' ++ [t]).map V.ref).dropLast = ts'.map V.ref := by rw [List.map_append]; simp
        rw [edl]
        -- the heap behind the pop
        have hnw : n ≠ wt := fun e => hwn e.symm
        have stA : TupsStay H' (upd H' wt (.lst (ts'.map V.ref))) := fun b ys e => by rw [upd_ne (ne_of e hww (by intro z; cases z))]; exact e
        have sA : Same H (upd H' wt (.lst (ts'.map V.ref))) := fun b o e => by rw [upd_ne (ne_of_none e hwH)]; exact s4 _ _ e
        have nA : (upd H' wt (.lst (ts'.map V.ref))) n = some (DN P w n xs) := by rw [upd_ne hnw]; exact hnn
        have wA : (upd H' wt (.lst (ts'.map V.ref))) wt = some (.lst (ts'.map V.ref)) := upd_same
        have pA := paired_stayN hp1 stA
        have tA := hp2.stay stA
        have kA := hnk.stay stA
        generalize upd H' wt (.lst (ts'.map V.ref)) = HA at stA sA nA wA pA tA kA ⊢
        refine ⟨_, rfl, _, rfl, n, _, rfl, ⟨xs, nk s0, t, .inl nA, kA, rfl, tA, rfl⟩, _, rfl, ?_⟩
        rw [hnum.val]
        by_cases hin : s0 ∈ seen
        · rw [if_pos hin]
          refine ifF rfl ?_
          refine ⟨(st.map T).sum, by omega, _, _, rfl, sA, xs, ts', seen, st, nA, kA, hnum, wA, pA, ?_, fun x hx => hsm x (List.mem_append_left _ hx), rfl, by omega⟩
          rw [M_skip hin] at hfold; exact hfold
        · rw [if_neg hin]
          refine ifT rfl ?_
          have hxl : xs.length ≤ 500 := by rw [hnum.1]; omega
          refine ⟨_, rfl, n, xs, rfl, .inl nA, kA, _, rfl, _, rfl, n, _, rfl, ⟨xs, nk s0, t, nA, kA, rfl, tA, by rw [hnum.val, if_neg hin], by rw [sizeLine_eq]; omega, rfl⟩, ?_⟩
          -- the heap behind numbers[rests] = len(numbers)
          have stB : TupsStay HA (upd HA n (DN P w n (xs ++ [(nk s0, t, .int ((xs.length : Nat) : Int))]))) := fun b ys e => by rw [upd_ne (ne_of e nA (by intro z; cases z))]; exact e
          have sB : Same H (upd HA n (DN P w n (xs ++ [(nk s0, t, .int ((xs.length : Nat) : Int))]))) := fun b o e => by rw [upd_ne (ne_of_none e hn)]; exact sA _ _ e
          have wB : (upd HA n (DN P w n (xs ++ [(nk s0, t, .int ((xs.length : Nat) : Int))]))) wt = some (.lst (ts'.map V.ref)) := by rw [upd_ne hwn]; exact wA
          have nB : (upd HA n (DN P w n (xs ++ [(nk s0, t, .int ((xs.length : Nat) : Int))]))) n = some (DN P w n (xs ++ [(nk s0, t, .int ((xs.length : Nat) : Int))])) := upd_same
          have pB := paired_stayN pA stB
          have tB := tA.stay stB
          have kB := (kA.stay stB).snoc (v := .int ((xs.length : Nat) : Int)) tB
          have numB := hnum.snoc s0 t
          generalize upd HA n (DN P w n (xs ++ [(nk s0, t, .int ((xs.length : Nat) : Int))])) = HB at stB sB wB nB pB tB kB ⊢
          generalize xs ++ [(nk s0, t, V.int ((xs.length : Nat) : Int))] = xs1 at nB kB numB
          refine ⟨_, rfl, t, s0, rfl, tB, hs0, Nat.le_trans (letters_len s0) hs0, fun HC p sC hp LC => ?_⟩
          obtain ⟨ls, hls, hpl⟩ := LC
          have hpw : p ≠ wt := fun e => by rw [e, wB] at hp; cases hp
          have hll : ls.length = (Rh03.letters s0).length := Paired.length hpl
          have hkl : (kids s0).length = (Rh03.letters s0).length := by unfold kids; rw [List.length_map]
          refine ⟨p, _, rfl, SqL.of hls, for_it (walk_rev (K := K) (a := p) (xs := ls.map V.ref)) (fun i σ Hd => ∃ v4, σ = [some (.ref l), some (.ref n), some (.ref wt), some (.ref t), v4] ∧ Same H Hd ∧ Hd n = some (DN P w n xs1) ∧ NK Hd xs1 ∧ Hd p = some (.lst (ls.map V.ref)) ∧
              Paired (fun t a => ∃ q, Hd t = some (.tup [.int ((a : Nat) : Int), .ref q]) ∧ TupN Hd q (nk (Rh03.rests s0 [a]))) ls (Rh03.letters s0) ∧ ∃ ts2, Hd wt = some (.lst (ts2.map V.ref)) ∧ Paired (TupN Hd) ts2 ((st ++ (kids s0).reverse.take i).map nk))
            ⟨v4, rfl, Same.trans sB sC, sC _ _ nB, kB.stay (Same.tups sC), hls, hpl, ts', sC _ _ wB, ?_⟩ (fun i σ Hd _ ⟨_, _, _, _, _, h5, _⟩ => SqL.of h5) ?_ ?_⟩
          · rw [List.take_zero, List.append_nil]
            exact paired_stayN pB (Same.tups sC)
          · rintro i x σ Hd He hi ⟨v4, rfl, sD, nD, kD, pD, lD, ts2, wD2, qD⟩ ⟨rfl, hx⟩
            obtain ⟨b, hb, rfl⟩ := get_map hx
            rw [List.length_map] at hi hb
            obtain ⟨c, hc, q, hbq, hq⟩ := paired_get lD hb
            have hkid : (kids s0).reverse[i]? = some (Rh03.rests s0 [c]) := by
              rw [List.getElem?_reverse (by omega)]
              have e1 : (kids s0).length - 1 - i = ls.length - 1 - i := by omega
              rw [e1]
              unfold kids
              rw [List.getElem?_map, hc]; rfl
            have htk := take_more hkid
            have ht2 : ts2.length ≤ 600 := by
              have h1 := Paired.length qD
              rw [List.length_map, List.length_append, List.length_take] at h1
              have h2 : (kids s0).length ≤ 60 := by rw [hkl]; exact Nat.le_trans (letters_len s0) hs0
              have h3 := sumT_ge st
              rw [List.length_reverse] at h1
              omega
            refine ⟨_, rfl, .inl ⟨rfl, _, SqL.of wD2⟩, _, rfl, b, _, 1, _, rfl, rfl, SqT.of hbq, atI_nat (j := 1) (v := V.ref q) rfl, wt, _, _, rfl, rfl, wD2, by rw [List.length_map, sizeLine_eq]; omega, ?_⟩
            have stE : TupsStay He (upd He wt (.lst (ts2.map V.ref ++ [.ref q]))) := fun b ys e => by rw [upd_ne (ne_of e wD2 (by intro z; cases z))]; exact e
            refine ⟨_, rfl, fun b o e => by rw [upd_ne (ne_of_none e hwH)]; exact sD _ _ e, by rw [upd_ne hnw]; exact nD, kD.stay stE, by rw [upd_ne hpw]; exact pD, Paired.mapP lD fun t a ⟨q', h1, h2⟩ => ⟨q', stE _ _ h1, h2.stay stE⟩,
              ts2 ++ [q], by rw [upd_same, List.map_append]; rfl, ?_⟩
            rw [htk, ← List.append_assoc, List.map_append]
            exact Paired.snoc (paired_stayN qD stE) (hq.stay stE)
          · rintro σ Hd ⟨v4, rfl, sD, nD, kD, pD, lD, ts2, wD2, qD⟩
            have e1 : (ls.map V.ref).length = (kids s0).reverse.length := by rw [List.length_map, List.length_reverse]; omega
            rw [e1, List.take_length] at qD
            have hkT : ((kids s0).map T).sum + 1 = T s0 := by have := T_eq s0; omega
            have hseen : (seen ++ [s0]).length = seen.length + 1 := by rw [List.length_append]; rfl
            refine ⟨((st ++ (kids s0).reverse).map T).sum, ?_, _, _, rfl, sD, xs1, ts2, seen ++ [s0], st ++ (kids s0).reverse, nD, kD, numB, wD2, qD, ?_, fun x hx => ?_, rfl, ?_⟩
            · rw [List.map_append, sum_app, List.map_reverse, sum_rev]; omega
            · rw [List.reverse_append, List.reverse_reverse, List.foldl_append]
              rw [M_new hin] at hfold
              exact hfold
            · rcases List.mem_append.mp hx with h | h
              · exact hsm x (List.mem_append_left _ h)
              · exact Nat.le_trans (kid_len (List.mem_reverse.mp h)) hs0
            · rw [List.map_append, sum_app, List.map_reverse, sum_rev, hseen]; omega
    have hl2 := s2 _ _ hl
    refine ⟨_, rfl, l, _, rfl, .inl (SqL.of hl2), _, _, rfl, rfl, _, rfl, ?_⟩
    rw [List.length_map, hbl]
    by_cases c : d = []
    · refine ifF (decide_eq_false (by rw [c]; decide)) ?_
      refine loop _ none none 0 s2 ⟨[], [], [], [], by rw [upd_ne hwn.symm]; exact upd_same, fun x hx => (nomatch hx), Nums.nil, upd_same, .nil, by rw [c]; rfl, fun x hx => (nomatch hx), rfl, by decide⟩
    · have hpos : 0 < d.length := List.length_pos_iff.mpr c
      refine ifT (decide_eq_true (by omega)) ?_
      refine ⟨_, rfl, .inl ⟨rfl, _, SqL.of upd_same⟩, _, rfl, l, _, rfl, .inl ⟨SqL.of hl2, fun t ht => ?_⟩⟩
      have s3 : Same (upd (upd H n (DN P w n [])) wt (.lst [])) (upd (upd (upd H n (DN P w n [])) wt (.lst [])) t (.tup (bs.map V.ref))) := Same.new ht
      refine ⟨wt, _, _, rfl, rfl, s3 _ _ upd_same, by rw [sizeLine_eq]; decide, ?_⟩
      have stE : TupsStay (upd (upd (upd H n (DN P w n [])) wt (.lst [])) t (.tup (bs.map V.ref))) (upd (upd (upd (upd H n (DN P w n [])) wt (.lst [])) t (.tup (bs.map V.ref))) wt (.lst ([] ++ [.ref t]))) :=
        fun b ys e => by rw [upd_ne (ne_of e (s3 _ _ upd_same) (by intro z; cases z))]; exact e
      have hT := T_small hd hfi
      refine loop _ none none (T d) (fun b o e => by rw [upd_ne (ne_of_none e hwH)]; exact s3 _ _ (s2 _ _ e)) ⟨[], [t], [], [d], ?_, fun x hx => (nomatch hx), Nums.nil, upd_same, .cons ⟨bs, stE _ _ upd_same, ?_⟩ .nil, ?_, fun x hx => ?_, by simp, by simp; omega⟩
      · rw [upd_ne hwn.symm]
        exact s3 _ _ (by rw [upd_ne hwn.symm]; exact upd_same)
      · exact paired_stay hpb fun b ys e => stE _ _ (s3 _ _ (s2 _ _ e))
      · rw [states_M c]; rfl
      · have : x = d := by simpa using hx
        subst this; exact hd
end
end Ls
/-! LsD5 -/
namespace Ls
open PySem PySem.Spec PyProof.Rows L2
abbrev nV (l : List Nat) : List V := l.map fun n => V.int ((n : Nat) : Int)
theorem isum_nat : ∀ l : List Nat, (l.map fun n => ((n : Nat) : Int)).sum = ((l.sum : Nat) : Int)
  | [] => rfl
  | a :: l => by
    rw [List.map_cons, List.sum_cons, List.sum_cons, isum_nat l]
    omega
/-- what is so of all states of a dictionary -/
structure Sts (l : List (List Word)) : Prop where
  len : l.length ≤ 500
  few : ∀ s ∈ l, s.length ≤ 60
theorem sts_of {d : List Word} (h1 : d.length ≤ 60) (h2 : ∀ u ∈ d, Fine u) : Sts (Rh03.states d) := by
  refine ⟨?_, states_all h1 fun s t hs ht => Nat.le_trans (kid_len ht) hs⟩
  have a := states_len d
  have b := T_small h1 h2
  omega
abbrev sCount : Stmt := top 17
abbrev sRow : Stmt := top 18
def spCount (P : Program) (w : World) : Sp := fun vs H Q _ => ∃ (p : Addr) (d : List Word), vs = [.ref p] ∧ NumAt P w H p d ∧ Sts (Rh03.states d) ∧ ∀ H' : Hp, Same H H' → Q (.int ((((Rh03.states d).map fun s => (Rh03.letters s).length).sum : Nat) : Int)) H'
def spRow : Sp := fun vs H Q _ => ∃ (l : Addr) (d : List Word), vs = [.ref l] ∧ DictAt H l d ∧ d.length ≤ 60 ∧ (∀ u ∈ d, Fine u) ∧ ∀ (H' : Hp) (p : Addr), Same H H' → H p = none → H' p = some (.lst (nV (Rh03.pack (Rh03.auto d)))) → Q (.ref p) H'
theorem same_lock {H H' : Hp} {d : Addr} {o : Obj} {u : HO} (hd : H d = some u) (s : Same (upd H d (.frz o u)) H') : Same H (upd H' d u) := fun b x e => by
  by_cases hb : b = d
  · subst hb; rw [upd_same]; rw [hd] at e; exact e
  · rw [upd_ne hb]; exact s b x (by rw [upd_ne hb]; exact e)
theorem tups_lock {H : Hp} {P : Program} {w : World} {d : Addr} {o : Obj} {xs : List (NKey × Addr × V)} (hd : H d = some (DN P w d xs)) : TupsStay H (upd H d (.frz o (DN P w d xs))) := fun b ys e => by
  rw [upd_ne (ne_of e hd (by intro z; cases z))]; exact e
theorem nums_at {xs : List (NKey × Addr × V)} {l : List (List Word)} (h : Nums xs l) {i : Nat} {k : NKey} {q : Addr} {v : V} (e : xs[i]? = some (k, q, v)) : ∃ s, l[i]? = some s ∧ k = nk s := by
  have hi : i < l.length := by rw [← h.1]; exact (List.getElem?_eq_some_iff.mp e).1
  obtain ⟨q', e'⟩ := h.2 i _ (List.getElem?_eq_getElem hi)
  rw [e] at e'
  cases e'
  exact ⟨_, List.getElem?_eq_getElem hi, rfl⟩
theorem two_len (f : Nat → Nat) : ∀ l : List Nat, (l.flatMap fun a => [a, f a]).length = 2 * l.length
  | [] => rfl
  | a :: l => by
    have e : (a :: l).length = l.length + 1 := rfl
    rw [List.flatMap_cons, List.length_append, two_len f l, e]
    show 2 + 2 * l.length = _
    omega
theorem flat_len (L : List (List Word)) : ∀ l : List (List Word), (∀ s ∈ l, (Rh03.letters s).length ≤ 60) → (l.flatMap (rowOf L)).length ≤ 121 * l.length
  | [], _ => Nat.le_refl _
  | s :: l, h => by
    have h1 := flat_len L l fun t ht => h t (List.mem_cons_of_mem _ ht)
    have h2 := h s List.mem_cons_self
    have h3 := two_len (fun a => Rh03.place L (Rh03.rests s [a])) (Rh03.letters s)
    rw [List.flatMap_cons, List.length_append, List.length_cons]
    have h4 : (rowOf L s).length = 1 + 2 * (Rh03.letters s).length := by
      unfold rowOf
      rw [List.length_cons, h3]; omega
    omega
section
variable {P : Program} {w : World} {K : PySem.W.Frag} {mg : Str → Option Value} {base : Heap}
theorem scCount : FnScope ["numbers", "rests"] ["numbers"] (defScope sCount) := ⟨rfl, rfl, rfl, by decide +kernel, rfl, by decide +kernel, by decide +kernel⟩
theorem ok_count {f : Addr} {fd : FuncData} (F : Fun K "count_links" "count_links" sCount f fd) (T0 : Names mg) (CL : Callee P w K mg base "links_from" 1 ["rests"] spLinks) : FnOk P w K mg base CX0 2 f fd ["numbers"] (spCount P w) := by
  obtain ⟨fL, fdL, GL, mgL, kpL, bL⟩ := CL
  refine F.ok scCount (fun vs H Q E h => ?_) (fun cdv A outer s H vs Q E hr h => ?_)
  · obtain ⟨a, d, rfl, _⟩ := h
    rfl
  · obtain ⟨p, d, rfl, ⟨xs, hp, hnk, hnum⟩, hst, k⟩ := h
    refine ⟨_, pss_one (ps_ret (pe_callB (cr_sum rfl) (by rfl) T0.sum (by decide +kernel) (pa_cons (pe_lock (pe_lc (own := [("rests", 1)]) (g := gName 1) (tt := tYes) (te := tCB (rLenS K) (tCons (tCall spLinks [] E0 (tCons (tVar 1) tNil)) tNil)) rfl scCount.nd (pi_keysN (pv 0)) (blkOk_by (N := ["numbers", "rests"]) (sc := defScope sCount) (by decide +kernel)) (fun _ _ _ _ _ => pg_name (i := 1) scCount.nd rfl (Or.inl rfl)) (fun _ _ _ _ _ => pts_nil)
        (fun _ _ _ _ _ => pe_callB (r := rLenS K) call_len_seq (by rfl) T0.len PySem.boot_len (pa_cons (pe_call GL hr (by rfl) mgL kpL bL .nil pass0 (pa_cons (pv 1) pa_nil)) pa_nil)))) pa_nil))), ?_⟩
    refine ⟨p, _, hp, True.intro, fun od => ⟨_, rfl, p, od, xs, rfl, upd_same, fun D hD => ?_⟩⟩
    have st0 := tups_lock (o := od) hp
    have hpD : D ≠ p := fun e => by rw [e, upd_same] at hD; cases hD
    have hDH : H D = none := by rw [upd_ne hpD] at hD; exact hD
    refine lc_it (walk_keysN (P := P) (w := w) (d := p) (o := od) (xs := xs)) (fun i H2 => Same (upd H p (.frz od (DN P w p xs))) H2 ∧ H2 D = some (.lst ((((Rh03.states d).take i).map fun s => (((Rh03.letters s).length : Nat) : Int)).map V.int))) ⟨Same.new hD, upd_same⟩ (fun i H2 _ h => h.1 _ _ upd_same) ?_ ?_
    · rintro i x H2 H3 hi ⟨s1, h1⟩ ⟨rfl, kk, q, v, hx, rfl⟩
      obtain ⟨s0, hs0, rfl⟩ := nums_at hnum hx
      have hmem := List.mem_of_getElem? hs0
      have hq : TupN H3 q (nk s0) := ((hnk _ (List.mem_of_getElem? hx)).stay st0).stay (Same.tups s1)
      refine ⟨rfl, _, rfl, q, s0, rfl, hq, hst.few _ hmem, Nat.le_trans (letters_len s0) (hst.few _ hmem), fun H4 p4 s4 hp4 L4 => ?_⟩
      obtain ⟨ls, hls, hpl⟩ := L4
      have hll : (ls.map V.ref).length = (Rh03.letters s0).length := by rw [List.length_map]; exact Paired.length hpl
      refine ⟨p4, _, rfl, .inl (SqL.of hls), _, s4 _ _ h1, ?_, fun b o e => ?_, ?_⟩
      · rw [List.length_map, List.length_map, List.length_take, sizeLine_eq]
        have := hst.len
        omega
      · rw [upd_ne (ne_of_none e hD)]
        exact s4 _ _ (s1 _ _ e)
      · rw [upd_same, take_more hs0, List.map_append, List.map_append, hll]
        rfl
    · rintro H2 ⟨s1, h1⟩
      rw [hnum.1, List.take_length] at h1
      refine ⟨s1 _ _ upd_same, D, _, rfl, SqL.of (by rw [upd_ne hpD]; exact h1), ?_⟩
      have e : ((Rh03.states d).map fun s => (((Rh03.letters s).length : Nat) : Int)).sum = ((((Rh03.states d).map fun s => (Rh03.letters s).length).sum : Nat) : Int) := by
        rw [← isum_nat, List.map_map]; rfl
      rw [e]
      exact k _ (same_lock hp s1)
theorem scRow : FnScope ["words", "numbers", "row", "rests", "links", "link"] ["words"] (defScope sRow) := ⟨rfl, rfl, rfl, by decide +kernel, rfl, by decide +kernel, by decide +kernel⟩
theorem ok_row {f : Addr} {fd : FuncData} (F : Fun K "write_row" "write_row" sRow f fd) (T0 : Names mg) (CN : Callee P w K mg base "number_states" 2 ["words"] (spNumber P w)) (CL : Callee P w K mg base "links_from" 1 ["rests"] spLinks) (CM : Callee P w K mg base "may_end" 1 ["rests"] spMayEnd) : FnOk P w K mg base CX0 3 f fd ["words"] spRow := by
  obtain ⟨fL, fdL, GL, mgL, kpL, bL⟩ := CL
  obtain ⟨fM, fdM, GM, mgM, kpM, bM⟩ := CM
  obtain ⟨fN, fdN, GN, mgN, kpN, bN⟩ := CN
  refine F.ok scRow (fun vs H Q E h => ?_) (fun cdv A outer s H vs Q E hr h => ?_)
  · obtain ⟨a, d, rfl, _⟩ := h
    rfl
  · obtain ⟨l, d, rfl, hdict, hd, hfi, k⟩ := h
    have hu := hr4 hr
    have hr1 := hr.mono (show 1 ≤ 2 by decide)
    have hst := sts_of hd hfi
    refine ⟨_, pss_cons (ps_set (i := 1) scRow.nd rfl (Or.inl rfl) (pe_call GN hr rfl mgN kpN bN .nil pass0 (pa_cons (pv 0) pa_nil)))
      (pss_cons (ps_set (i := 2) scRow.nd rfl (Or.inl rfl) (pe_lst pa_nil))
      (pss_cons (ps_lock (ps_for PassesOwn.never rfl (pi_keysN (pv 1)) (pg_name (i := 3) scRow.nd rfl (Or.inl rfl))
        (pss_cons (ps_set (i := 4) scRow.nd rfl (Or.inl rfl) (pe_call GL hr1 rfl mgL kpL bL .nil pass0 (pa_cons (pv 3) pa_nil)))
        (pss_cons (ps_expr (pe_bm PySem.F.plainAttrs_list PySem.F.slot_list_append PySem.F.type_list_append mt_append (pv 2) (pa_cons (pe_op op_add (pe_op op_mul pe_int (pe_callB call_len_seq (by rfl) T0.len PySem.boot_len (pa_cons (pv 4) pa_nil))) (pe_ifExp (pt_val (pe_call GM hr1 rfl mgM kpM bM .nil pass0 (pa_cons (pv 3) pa_nil))) pe_int pe_int)) pa_nil)))
        (pss_one (ps_for PassesOwn.never rfl (pi_list (pv 4)) (pg_name (i := 5) scRow.nd rfl (Or.inl rfl))
          (pss_cons (ps_expr (pe_bm PySem.F.plainAttrs_list PySem.F.slot_list_append PySem.F.type_list_append mt_append (pv 2) (pa_cons (pe_ix ix_tup (pv 5) pe_int (fun _ _ => rfl)) pa_nil)))
          (pss_one (ps_expr (pe_bm PySem.F.plainAttrs_list PySem.F.slot_list_append PySem.F.type_list_append mt_append (pv 2) (pa_cons (pe_nget hu (pv 1) (pe_ix ix_tup (pv 5) pe_int (fun _ _ => rfl)) (fun _ _ => rfl)) pa_nil)))))))))))
      (pss_one (ps_ret (pv 2))))), ?_⟩
    refine ⟨_, rfl, l, d, rfl, hdict, hd, hfi, fun H1 n s1 hn N1 => ?_⟩
    obtain ⟨xs, hnn, hnk, hnum⟩ := N1
    refine ⟨Nat.zero_le _, fun r hr0 => ?_⟩
    have hrn : r ≠ n := fun e => by rw [e, hnn] at hr0; cases hr0
    have hrH : H r = none := fresh_of s1 hr0
    have s2 : Same H1 (upd H1 r (.lst [])) := Same.new hr0
    have hn2 := s2 _ _ hnn
    have hr2 : (upd H1 r (.lst [])) r = some (.lst []) := upd_same
    have hnk2 := hnk.stay (Same.tups s2)
    have sH2 := Same.trans s1 s2
    generalize upd H1 r (.lst []) = H2 at s2 hn2 hr2 hnk2 sH2 ⊢
    refine ⟨n, _, hn2, True.intro, fun od => ⟨_, rfl, n, od, xs, rfl, upd_same, ?_⟩⟩
    have hr3 : (upd H2 n (.frz od (DN P w n xs))) r = some (.lst []) := by rw [upd_ne hrn]; exact hr2
    have hn3 : (upd H2 n (.frz od (DN P w n xs))) n = some (.frz od (DN P w n xs)) := upd_same
    have hnk3 := hnk2.stay (tups_lock (o := od) hn2)
    have back : ∀ Hd : Hp, (∀ b o, b ≠ r → (upd H2 n (.frz od (DN P w n xs))) b = some o → Hd b = some o) → Same H (upd Hd n (DN P w n xs)) := fun Hd f b o e => by
      by_cases hb : b = n
      · subst hb; rw [hn] at e; cases e
      · rw [upd_ne hb]
        exact f b o (ne_of_none e hrH) (by rw [upd_ne hb]; exact sH2 _ _ e)
    generalize upd H2 n (.frz od (DN P w n xs)) = H3 at hr3 hn3 hnk3 back ⊢
    have tstay : ∀ Hd : Hp, (∀ b o, b ≠ r → H3 b = some o → Hd b = some o) → TupsStay H3 Hd := fun Hd f b ys e => f b _ (ne_of e hr3 (by intro z; cases z)) e
    refine for_it (walk_keysN (P := P) (w := w) (d := n) (o := od) (xs := xs)) (fun i σ Hd => ∃ v3 v4 v5, σ = [some (.ref l), some (.ref n), some (.ref r), v3, v4, v5] ∧ (∀ b o, b ≠ r → H3 b = some o → Hd b = some o) ∧ Hd r = some (.lst (nV (((Rh03.states d).take i).flatMap (rowOf (Rh03.states d))))))
      ⟨none, none, none, rfl, fun b o _ e => e, hr3⟩ (fun i σ Hd _ ⟨_, _, _, _, f, _⟩ => f n _ (fun e => hrn e.symm) hn3) ?_ ?_
    · rintro i x σ Hd He hi ⟨v3, v4, v5, rfl, fr, hrow⟩ ⟨rfl, kk, q, v, hx, rfl⟩
      obtain ⟨s0, hs0, rfl⟩ := nums_at hnum hx
      have hmem := List.mem_of_getElem? hs0
      have hq : TupN He q (nk s0) := (hnk3 _ (List.mem_of_getElem? hx)).stay (tstay _ fr)
      have hlet : (Rh03.letters s0).length ≤ 60 := Nat.le_trans (letters_len s0) (hst.few _ hmem)
      have hil : i < (Rh03.states d).length := (List.getElem?_eq_some_iff.mp hs0).1
      have hi5 := hst.len
      have hpre : (((Rh03.states d).take i).flatMap (rowOf (Rh03.states d))).length ≤ 121 * i := by
        have := flat_len (Rh03.states d) ((Rh03.states d).take i) (fun s hs => Nat.le_trans (letters_len s) (hst.few s (List.mem_of_mem_take hs)))
        rw [List.length_take] at this
        have h2 : min i (Rh03.states d).length = i := by omega
        rw [h2] at this; exact this
      refine ⟨_, rfl, q, s0, rfl, hq, hst.few _ hmem, hlet, fun H4 p4 s4 hp4 L4 => ?_⟩
      have hpr : p4 ≠ r := fun e => by rw [e, hrow] at hp4; cases hp4
      have hq4 := hq.stay (Same.tups s4)
      have fr4 : ∀ b o, b ≠ r → H3 b = some o → H4 b = some o := fun b o hb e => s4 _ _ (fr b o hb e)
      have hrow4 := s4 _ _ hrow
      obtain ⟨ls, hls, hpl⟩ := L4
      have hll : ls.length = (Rh03.letters s0).length := Paired.length hpl
      -- the inner loop
      have inner : ∀ (Dn : Ends) (H6 : Hp), (∀ σ Hd, (∃ v3 v4 v5, σ = [some (.ref l), some (.ref n), some (.ref r), v3, v4, v5] ∧ (∀ b o, b ≠ r → H3 b = some o → Hd b = some o) ∧ Hd r = some (.lst (nV (((Rh03.states d).take (i + 1)).flatMap (rowOf (Rh03.states d)))))) → Dn.nx σ Hd) →
          (∀ b o, b ≠ r → H4 b = some o → H6 b = some o) → H6 r = some (.lst (nV (((Rh03.states d).take i).flatMap (rowOf (Rh03.states d)) ++ [2 * (Rh03.letters s0).length + Rh03.flag (s0.contains [])]))) →
          tFor (iList K (tVar 4)) (gName 5) (tSeq (tDrop (tBM K "list" rAppend (tVar 2) (tCons (tOp (rIxT K) (tVar 5) (tC (.int 0))) tNil))) (tDrop (tBM K "list" rAppend (tVar 2) (tCons (tNGet P w (tVar 1) (tOp (rIxT K) (tVar 5) (tC (.int 1)))) tNil)))) Dn
            [some (.ref l), some (.ref n), some (.ref r), some (.ref q), some (.ref p4), v5] H6 := by
        intro Dn H6 hend fr6 hr6
        have st46 : TupsStay H4 H6 := fun b ys e => fr6 b _ (ne_of e hrow4 (by intro z; cases z)) e
        refine ⟨_, rfl, p4, rfl, ⟨_, SqL.of (fr6 _ _ hpr hls)⟩, for_list (K := K) (a := p4) (xs := ls.map V.ref) (fun j σ Hj => ∃ v5, σ = [some (.ref l), some (.ref n), some (.ref r), some (.ref q), some (.ref p4), v5] ∧ (∀ b o, b ≠ r → H4 b = some o → Hj b = some o) ∧
            Hj r = some (.lst (nV (((Rh03.states d).take i).flatMap (rowOf (Rh03.states d)) ++ [2 * (Rh03.letters s0).length + Rh03.flag (s0.contains [])] ++ ((Rh03.letters s0).take j).flatMap fun a => [a, Rh03.place (Rh03.states d) (Rh03.rests s0 [a])]))))
          ⟨v5, rfl, fr6, by rw [List.take_zero, List.flatMap_nil, List.append_nil]; exact hr6⟩ (fun j σ Hj _ ⟨_, _, f, _⟩ => SqL.of (f _ _ hpr hls)) ?_ ?_⟩
        · rintro j x σ Hj hj ⟨v5, rfl, frj, hrj⟩
          obtain ⟨b, hb, rfl⟩ := get_map hj
          obtain ⟨c, hc, q5, hbq, hq5⟩ := paired_get hpl hb
          have st4j : TupsStay H4 Hj := fun b ys e => frj b _ (ne_of e hrow4 (by intro z; cases z)) e
          have hjl : j < (Rh03.letters s0).length := (List.getElem?_eq_some_iff.mp hc).1
          have hsz : (((Rh03.states d).take i).flatMap (rowOf (Rh03.states d)) ++ [2 * (Rh03.letters s0).length + Rh03.flag (s0.contains [])] ++ ((Rh03.letters s0).take j).flatMap fun a => [a, Rh03.place (Rh03.states d) (Rh03.rests s0 [a])]).length ≤ 121 * i + 1 + 2 * j := by
            rw [List.length_append, List.length_append, List.length_singleton]
            have := two_len (fun a => Rh03.place (Rh03.states d) (Rh03.rests s0 [a])) ((Rh03.letters s0).take j)
            rw [List.length_take] at this
            omega
          refine ⟨_, rfl, .inl ⟨rfl, _, SqL.of hrj⟩, _, rfl, b, _, _, _, rfl, rfl, SqT.of (st4j _ _ hbq), atI_nat (j := 0) (v := V.int ((c : Nat) : Int)) rfl, r, _, _, rfl, rfl, hrj, by rw [List.length_map, sizeLine_eq]; omega, ?_⟩
          have st5 : TupsStay Hj (upd Hj r (.lst (nV (((Rh03.states d).take i).flatMap (rowOf (Rh03.states d)) ++ [2 * (Rh03.letters s0).length + Rh03.flag (s0.contains [])] ++ ((Rh03.letters s0).take j).flatMap fun a => [a, Rh03.place (Rh03.states d) (Rh03.rests s0 [a])]) ++ [V.int ((c : Nat) : Int)]))) :=
            fun b ys e => by rw [upd_ne (ne_of e hrj (by intro z; cases z))]; exact e
          have hkid : Rh03.rests s0 [c] ∈ Rh03.states d := states_kid hmem (mem_kids.mpr ⟨c, List.mem_of_getElem? hc, rfl⟩)
          have hnr : n ≠ r := fun e => hrn e.symm
          refine ⟨_, rfl, .inl ⟨rfl, _, SqL.of upd_same⟩, _, rfl, _, rfl, b, _, _, _, rfl, rfl, SqT.of (st5 _ _ (st4j _ _ hbq)), atI_nat (j := 1) (v := V.ref q5) rfl, n, V.int ((Rh03.place (Rh03.states d) (Rh03.rests s0 [c]) : Nat) : Int), rfl,
            ⟨xs, nk (Rh03.rests s0 [c]), q5, .inr ⟨od, by rw [upd_ne hnr]; exact frj _ _ hnr (fr4 _ _ hnr hn3)⟩, ((hnk3.stay (tstay _ fr4)).stay st4j).stay st5, rfl, (hq5.stay st4j).stay st5, by rw [hnum.val, if_pos hkid]⟩,
            r, _, _, rfl, rfl, upd_same, by rw [List.length_append, List.length_map, List.length_singleton, sizeLine_eq]; omega, ?_⟩
          refine ⟨_, rfl, fun b o hb e => by rw [upd_ne hb, upd_ne hb]; exact frj _ _ hb e, ?_⟩
          rw [upd_same, take_more hc, List.flatMap_append]
          simp [nV]
        · rintro σ Hj ⟨v5, rfl, frj, hrj⟩
          rw [List.length_map, hll, List.take_length] at hrj
          refine hend _ _ ⟨_, _, _, rfl, fun b o hb e => frj _ _ hb (fr4 _ _ hb e), ?_⟩
          rw [take_more hs0, List.flatMap_append, hrj]
          simp [rowOf]
      refine ⟨_, rfl, .inl ⟨rfl, _, SqL.of hrow4⟩, _, rfl, p4, _, rfl, .inl (SqL.of hls), _, _, rfl, rfl, .inl ⟨by decide, by decide⟩, _, rfl, q, s0, rfl, hq4, fun H5 s5 => ⟨_, rfl, ?_⟩⟩
      have fr5 : ∀ b o, b ≠ r → H4 b = some o → H5 b = some o := fun b o _ e => s5 _ _ e
      rw [List.length_map, hll]
      have hsz0 : (nV (((Rh03.states d).take i).flatMap (rowOf (Rh03.states d)))).length < sizeLine := by rw [List.length_map, sizeLine_eq]; omega
      cases hc : s0.contains [] with
      | true =>
        refine ifT rfl ⟨_, _, rfl, rfl, r, _, _, rfl, rfl, s5 _ _ hrow4, hsz0, inner _ _ (fun σ Hd h => h) (fun b o hb e => by rw [upd_ne hb]; exact fr5 _ _ hb e) ?_⟩
        rw [upd_same, hc]
        simp [nV, Rh03.flag]
      | false =>
        refine ifF rfl ⟨_, _, rfl, rfl, r, _, _, rfl, rfl, s5 _ _ hrow4, hsz0, inner _ _ (fun σ Hd h => h) (fun b o hb e => by rw [upd_ne hb]; exact fr5 _ _ hb e) ?_⟩
        rw [upd_same, hc]
        simp [nV, Rh03.flag]
    · rintro σ Hd ⟨v3, v4, v5, rfl, fr, hrow⟩
      rw [hnum.1, List.take_length, ← pack_auto] at hrow
      refine ⟨fr _ _ (fun e => hrn e.symm) hn3, _, rfl, k _ r (back Hd fr) hrH ?_⟩
      rw [upd_ne hrn]; exact hrow
end
end Ls
/-! LsD6 -/
namespace Ls
open PySem PySem.Spec PyProof.Rows L2
section
variable {α β : Type} {F : α → β → Prop}
theorem paired_get_r : ∀ {a : List α} {b : List β} {i : Nat} {y : β}, Paired F a b → b[i]? = some y → ∃ x, a[i]? = some x ∧ F x y
  | _, _, _, _, .nil, e => by simp at e
  | _, _, 0, _, .cons r t, e => by
    cases e
    exact ⟨_, rfl, r⟩
  | _, _, i + 1, _, .cons r t, e => paired_get_r (i := i) t e
theorem paired_app : ∀ {a c : List α} {b d : List β}, Paired F a b → Paired F c d → Paired F (a ++ c) (b ++ d)
  | _, _, _, _, .nil, k => k
  | _, _, _, _, .cons r t, k => .cons r (paired_app t k)
theorem paired_take : ∀ {a : List α} {b : List β} (n : Nat), Paired F a b → Paired F (a.take n) (b.take n)
  | _, _, 0, _ => by rw [List.take_zero, List.take_zero]; exact .nil
  | _, _, n + 1, .nil => .nil
  | _, _, n + 1, .cons r t => .cons r (paired_take n t)
theorem paired_drop : ∀ {a : List α} {b : List β} (n : Nat), Paired F a b → Paired F (a.drop n) (b.drop n)
  | _, _, 0, h => h
  | _, _, n + 1, .nil => .nil
  | _, _, n + 1, .cons r t => paired_drop n t
theorem paired_erase : ∀ {a : List α} {b : List β} (n : Nat), Paired F a b → Paired F (a.eraseIdx n) (b.eraseIdx n)
  | _, _, _, .nil => .nil
  | _, _, 0, .cons r t => t
  | _, _, n + 1, .cons r t => .cons r (paired_erase n t)
end
def P60 (u : List Nat) : Prop := u.length ≤ 60
def P1 (u : List Nat) : Prop := ∃ n, u = [n]
abbrev Hn := List Word → List Nat → List Word × List Int
def spH (pre : List Nat → Prop) (f : Hn) : Sp := fun vs H Q _ => ∃ (l g : Addr) (d : List Word) (u : List Nat), vs = [.ref l, .ref g] ∧ DictAt H l d ∧ Good d ∧ H g = some (.lst (nV u)) ∧ pre u ∧
  ∀ (H' : Hp) (p : Addr), (∀ b o, H b = some o → b ≠ l → H' b = some o) → DictAt H' l (f d u).1 → H p = none → H' p = some (.lst ((f d u).2.map V.int)) → Q (.ref p) H'
theorem nV_iw (u : List Nat) : nV u = (iw u).map V.int := by
  show u.map _ = (u.map _).map _
  rw [List.map_map]; rfl
def hAdd : Hn := fun d u => if Rh03.isWord u = false then (d, [-1]) else if d.contains u = true then (d, [-4]) else if 60 ≤ d.length then (d, [-5]) else (Rh03.put u d, iw [(Rh03.put u d).length])
def hOut : Hn := fun d u => if d.contains u = false then (d, [-3]) else (d.filter fun v => v != u, iw [(d.filter fun v => v != u).length])
def hNumber : Hn := fun d u => (d, if d.contains u = false then [-3] else iw [(d.takeWhile fun v => v != u).length])
def hBegins : Hn := fun d u => (d, iw [(Rh03.rests d u).length, (d.filter fun v => Rh03.before v u).length])
def hSize : Hn := fun d _ => (d, iw [(Rh03.states d).length, Rh03.total ((Rh03.auto d).map fun n => n.edges.length), d.length])
def hPack : Hn := fun d _ => (d, Rh03.told (Rh03.pack (Rh03.auto d)))
theorem DictAt.stay {H H' : Hp} {l : Addr} {d : List Word} (h : DictAt H l d) (s : Same H H') : DictAt H' l d := by
  obtain ⟨bs, h1, h2⟩ := h
  exact ⟨bs, s _ _ h1, paired_stay h2 (Same.tups s)⟩
theorem same_but {H H' : Hp} (s : Same H H') (l : Addr) : ∀ b o, H b = some o → b ≠ l → H' b = some o := fun b o e _ => s b o e
abbrev sPutIn : Stmt := top 38
section
variable {P : Program} {w : World} {K : PySem.W.Frag} {mg : Str → Option Value} {base : Heap}
theorem scPutIn : FnScope ["words", "given", "row"] ["words", "given"] (defScope sPutIn) := ⟨rfl, rfl, rfl, by decide +kernel, rfl, by decide +kernel, by decide +kernel⟩
theorem ok_put_in {f : Addr} {fd : FuncData} (F : Fun K "put_in" "put_in" sPutIn f fd) (T : Names mg) (CW : Callee P w K mg base "is_word" 1 ["row"] spIsWord) (CE : Callee P w K mg base "count_earlier" 1 ["words", "row"] spEarlier) : FnOk P w K mg base CX0 2 f fd ["words", "given"] (spH P60 hAdd) := by
  obtain ⟨fW, fdW, GW, mgW, kpW, bW⟩ := CW
  obtain ⟨fE, fdE, GE, mgE, kpE, bE⟩ := CE
  obtain ⟨t60, g60⟩ := T.c60
  obtain ⟨t1, g1⟩ := T.m1
  obtain ⟨t4, g4⟩ := T.m4
  obtain ⟨t5, g5⟩ := T.m5
  refine F.ok scPutIn (fun vs H Q E h => ?_) (fun cdv A outer s H vs Q E hr h => ?_)
  · obtain ⟨l, g, d, u, rfl, _⟩ := h
    rfl
  · obtain ⟨l, g, d, u, rfl, hD, hG, hg, hul, k⟩ := h
    have hu := hr65 hr
    refine ⟨_, pss_cons (ps_set (i := 2) scPutIn.nd rfl (Or.inl rfl) (pe_callTy call_tuple_of (by rfl) T.tuple (by decide +kernel) (pa_cons (pv 1) pa_nil)))
      (pss_cons (ps_if (pt_not (pt_val (pe_call GW hr rfl mgW kpW bW .nil pass0 (pa_cons (pv 2) pa_nil)))) (pss_one (ps_ret (pe_lst (pa_cons (pe_glob (v := .int (-1)) (by rfl) g1 ⟨_, rfl⟩) pa_nil)))) pss_nil)
      (pss_cons (ps_if (pt_cmpR (op_inW hu) (pv 2) (pv 0) (by rfl)) (pss_one (ps_ret (pe_lst (pa_cons (pe_glob (v := .int (-4)) (by rfl) g4 ⟨_, rfl⟩) pa_nil)))) pss_nil)
      (pss_cons (ps_if (pt_cmpR op_ge (pe_callB call_len_seq (by rfl) T.len PySem.boot_len (pa_cons (pv 0) pa_nil)) (pe_glob (v := .int 60) (by rfl) g60 ⟨_, rfl⟩) (nomark _)) (pss_one (ps_ret (pe_lst (pa_cons (pe_glob (v := .int (-5)) (by rfl) g5 ⟨_, rfl⟩) pa_nil)))) pss_nil)
      (pss_cons (ps_expr (pe_bm PySem.F.plainAttrs_list PySem.F.slot_list_insert PySem.F.type_list_insert mt_insert (pv 0) (pa_cons (pe_call GE hr rfl mgE kpE bE .nil pass0 (pa_cons (pv 0) (pa_cons (pv 2) pa_nil))) (pa_cons (pv 2) pa_nil))))
      (pss_one (ps_ret (pe_lst (pa_cons (pe_callB call_len_seq (by rfl) T.len PySem.boot_len (pa_cons (pv 0) pa_nil)) pa_nil)))))))), ?_⟩
    refine ⟨_, rfl, g, _, rfl, .inl ⟨SqL.of hg, fun t ht => ?_⟩⟩
    have s1 : Same H (upd H t (.tup (nV u))) := Same.new ht
    have hti : TupI (upd H t (.tup (nV u))) t (iw u) := by show upd H t _ t = _; rw [upd_same, nV_iw]
    generalize upd H t (.tup (nV u)) = H1 at s1 hti ⊢
    refine ⟨_, rfl, t, u, rfl, hti, hul, fun H2 s2 => ⟨_, rfl, ?_⟩⟩
    have s12 := Same.trans s1 s2
    have leave : ∀ (H3 : Hp) (z : Int), Same H H3 → hAdd d u = (d, [z]) → ∀ p, H3 p = none → Q (.ref p) (upd H3 p (.lst [V.int z])) := fun H3 z s3 e p hp => by
      rw [e] at k
      exact k _ p (same_but (Same.trans s3 (Same.new hp)) l) (hD.stay (Same.trans s3 (Same.new hp))) (fresh_of s3 hp) upd_same
    cases c1 : Rh03.isWord u with
    | false => exact ifT rfl ⟨by show 1 ≤ sizeLine; decide, leave H2 (-1) s12 (by unfold hAdd; rw [if_pos c1])⟩
    | true =>
      refine ifF rfl ?_
      obtain ⟨bs, hl2, hp2⟩ := hD.stay s12
      refine ⟨_, rfl, _, rfl, t, l, iw u, nk d, rfl, s2 _ _ hti, rfl, ⟨bs, SqL.of hl2, hp2⟩, _, rfl, ?_⟩
      rw [nk_has]
      cases c2 : d.contains u with
      | true => exact ifT rfl ⟨by show 1 ≤ sizeLine; decide, leave H2 (-4) s12 (by unfold hAdd; rw [if_neg (by rw [c1]; decide), if_pos c2])⟩
      | false =>
        refine ifF rfl ?_
        have hbl : bs.length = d.length := by rw [Paired.length hp2, List.length_map]
        refine ⟨_, rfl, l, _, rfl, .inl (SqL.of hl2), _, _, rfl, rfl, _, rfl, ?_⟩
        rw [List.length_map, hbl]
        by_cases c3 : 60 ≤ d.length
        · exact ifT (decide_eq_true (by omega)) ⟨by show 1 ≤ sizeLine; decide, leave H2 (-5) s12 (by unfold hAdd; rw [if_neg (by rw [c1]; decide), if_neg (by rw [c2]; decide), if_pos c3])⟩
        · refine ifF (decide_eq_false (by omega)) ?_
          have hnm : u ∉ d := fun h => by rw [List.contains_iff_mem.mpr h] at c2; cases c2
          refine ⟨_, rfl, .inl ⟨rfl, _, SqL.of hl2⟩, _, rfl, _, rfl, l, t, d, u, rfl, ⟨bs, hl2, hp2⟩, s2 _ _ hti, hG.len, fun H3 s3 => ⟨_, rfl, l, _, _, _, rfl, rfl, s3 _ _ hl2, by rw [List.length_map, sizeLine_eq]; omega, by omega, ?_, ?_⟩⟩
          · have := earlier_le d u; omega
          have hl3 := s3 _ _ hl2
          have stE : TupsStay H3 (upd H3 l (.lst ((bs.map V.ref).take (((earlier d u : Nat) : Int)).toNat ++ [V.ref t] ++ (bs.map V.ref).drop (((earlier d u : Nat) : Int)).toNat))) := fun b ys e => by rw [upd_ne (ne_of e hl3 (by intro z; cases z))]; exact e
          have eN : (((earlier d u : Nat) : Int)).toNat = earlier d u := by omega
          have eL : (bs.map V.ref).take (((earlier d u : Nat) : Int)).toNat ++ [V.ref t] ++ (bs.map V.ref).drop (((earlier d u : Nat) : Int)).toNat = (bs.take (earlier d u) ++ t :: bs.drop (earlier d u)).map V.ref := by
            rw [eN, List.map_append, List.map_cons, List.map_take, List.map_drop, List.append_assoc]; rfl
          rw [eL] at stE ⊢
          have p3 := paired_stay hp2 fun b ys e => stE _ _ (s3 _ _ e)
          have t3 : TupI (upd H3 l (.lst ((bs.take (earlier d u) ++ t :: bs.drop (earlier d u)).map V.ref))) t (iw u) := stE _ _ (s3 _ _ (s2 _ _ hti))
          have D3 : DictAt (upd H3 l (.lst ((bs.take (earlier d u) ++ t :: bs.drop (earlier d u)).map V.ref))) l (Rh03.put u d) := by
            refine ⟨_, upd_same, ?_⟩
            rw [put_new hG.srt hnm]
            have en : nk (d.take (earlier d u) ++ u :: d.drop (earlier d u)) = (nk d).take (earlier d u) ++ iw u :: (nk d).drop (earlier d u) := by
              show List.map iw _ = _
              rw [List.map_append, List.map_cons, List.map_take, List.map_drop]
            rw [en]
            exact paired_app (paired_take _ p3) (.cons t3 (paired_drop _ p3))
          have hfr : ∀ b o, H b = some o → b ≠ l → (upd H3 l (.lst ((bs.take (earlier d u) ++ t :: bs.drop (earlier d u)).map V.ref))) b = some o := fun b o e hb => by rw [upd_ne hb]; exact s3 _ _ (s12 _ _ e)
          have hlen : ((bs.take (earlier d u) ++ t :: bs.drop (earlier d u)).map V.ref).length = (Rh03.put u d).length := by
            rw [put_len hG.srt hnm, List.length_map, List.length_append, List.length_cons, List.length_take, List.length_drop, hbl]
            have := earlier_le d u
            omega
          have hl4 : (upd H3 l (.lst ((bs.take (earlier d u) ++ t :: bs.drop (earlier d u)).map V.ref))) l = some (.lst ((bs.take (earlier d u) ++ t :: bs.drop (earlier d u)).map V.ref)) := upd_same
          have hH3 : ∀ p, (upd H3 l (.lst ((bs.take (earlier d u) ++ t :: bs.drop (earlier d u)).map V.ref))) p = none → H p = none := fun p hp => by
            have : p ≠ l := fun e => by rw [e, upd_same] at hp; cases hp
            rw [upd_ne this] at hp
            exact fresh_of (Same.trans s12 s3) hp
          generalize upd H3 l (.lst ((bs.take (earlier d u) ++ t :: bs.drop (earlier d u)).map V.ref)) = H4 at D3 hfr hl4 hH3 ⊢
          refine ⟨_, rfl, l, _, rfl, .inl (SqL.of hl4), by show 1 ≤ sizeLine; decide, fun p hp => ?_⟩
          have ek : hAdd d u = (Rh03.put u d, iw [(Rh03.put u d).length]) := by unfold hAdd; rw [if_neg (by rw [c1]; decide), if_neg (by rw [c2]; decide), if_neg c3]
          rw [ek] at k
          refine k _ p (fun b o e hb => Same.new hp _ _ (hfr b o e hb)) (D3.stay (Same.new hp)) (hH3 p hp) ?_
          rw [upd_same, hlen]; rfl
end
end Ls
/-! LsD7 -/
namespace Ls
open PySem PySem.Spec PyProof.Rows L2
theorem first_idx {u : Word} : ∀ {d : List Word}, u ∈ d → d[(d.takeWhile fun v => v != u).length]? = some u ∧ (∀ m, m < (d.takeWhile fun v => v != u).length → d[m]? ≠ some u) ∧ (d.Nodup → d.eraseIdx (d.takeWhile fun v => v != u).length = d.filter fun v => v != u)
  | v :: d, h => by
    rw [List.takeWhile_cons]
    by_cases e : v = u
    · subst e
      have b : (v != v) = false := by simp
      rw [b]
      refine ⟨rfl, fun m hm => absurd hm (Nat.not_lt_zero _), fun nd => ?_⟩
      show d = _
      rw [List.filter_cons, if_neg (by rw [b]; decide)]
      symm
      rw [List.filter_eq_self]
      intro x hx
      rw [List.nodup_cons] at nd
      simp only [bne_iff_ne, ne_eq]
      rintro rfl; exact nd.1 hx
    · have b : (v != u) = true := by simpa using e
      rw [b]
      obtain ⟨h1, h2, h3⟩ := first_idx (d := d) (by
        rcases List.mem_cons.mp h with q | q
        · exact absurd q.symm e
        · exact q)
      refine ⟨h1, fun m hm => ?_, fun nd => ?_⟩
      · cases m with
        | zero => intro q; exact e (Option.some.inj q)
        | succ m => exact h2 m (Nat.lt_of_succ_lt_succ hm)
      · rw [List.nodup_cons] at nd
        rw [List.filter_cons, if_pos b, ← h3 nd.2]
        rfl
theorem nk_get {d : List Word} {j : Nat} {u : Word} : (nk d)[j]? = some (iw u) ↔ d[j]? = some u := by
  rw [List.getElem?_map]
  cases d[j]? with
  | none => simp
  | some v =>
    constructor
    · intro h
      have : iw v = iw u := Option.some.inj h
      rw [iw_inj this]
    · intro h
      cases h; rfl
theorem nk_erase : ∀ (d : List Word) (j : Nat), (nk d).eraseIdx j = nk (d.eraseIdx j)
  | [], _ => rfl
  | _ :: _, 0 => rfl
  | v :: d, j + 1 => congrArg (List.cons (iw v)) (nk_erase d j)
def hWord : Hn := fun d u => (d, match d[u.headD 0]? with
    | none => [-3]
    | some v => Rh03.told v)
abbrev sTakeOut : Stmt := top 39
abbrev sTellNumber : Stmt := top 40
abbrev sTellWord : Stmt := top 41
abbrev sTellBegins : Stmt := top 42
abbrev sTellSize : Stmt := top 43
abbrev sTellRow : Stmt := top 44
section
variable {P : Program} {w : World} {K : PySem.W.Frag} {mg : Str → Option Value} {base : Heap}
theorem scTakeOut : FnScope ["words", "given", "row"] ["words", "given"] (defScope sTakeOut) := ⟨rfl, rfl, rfl, by decide +kernel, rfl, by decide +kernel, by decide +kernel⟩
theorem ok_take_out {f : Addr} {fd : FuncData} (F : Fun K "take_out" "take_out" sTakeOut f fd) (T : Names mg) : FnOk P w K mg base CX0 1 f fd ["words", "given"] (spH P60 hOut) := by
  obtain ⟨t3, g3⟩ := T.m3
  refine F.ok scTakeOut (fun vs H Q E h => ?_) (fun cdv A outer s H vs Q E hr h => ?_)
  · obtain ⟨l, g, d, u, rfl, _⟩ := h
    rfl
  · obtain ⟨l, g, d, u, rfl, hD, hG, hg, hul, k⟩ := h
    have hu := hr65 hr
    refine ⟨_, pss_cons (ps_set (i := 2) scTakeOut.nd rfl (Or.inl rfl) (pe_callTy call_tuple_of (by rfl) T.tuple (by decide +kernel) (pa_cons (pv 1) pa_nil)))
      (pss_cons (ps_if (pt_cmpR (op_notInW hu) (pv 2) (pv 0) (by rfl)) (pss_one (ps_ret (pe_lst (pa_cons (pe_glob (v := .int (-3)) (by rfl) g3 ⟨_, rfl⟩) pa_nil)))) pss_nil)
      (pss_cons (ps_expr (pe_bm PySem.F.plainAttrs_list PySem.F.slot_list_remove PySem.F.type_list_remove (mt_removeW hu) (pv 0) (pa_cons (pv 2) pa_nil)))
      (pss_one (ps_ret (pe_lst (pa_cons (pe_callB call_len_seq (by rfl) T.len PySem.boot_len (pa_cons (pv 0) pa_nil)) pa_nil)))))), ?_⟩
    refine ⟨_, rfl, g, _, rfl, .inl ⟨SqL.of hg, fun t ht => ?_⟩⟩
    have s1 : Same H (upd H t (.tup (nV u))) := Same.new ht
    have hti : TupI (upd H t (.tup (nV u))) t (iw u) := by show upd H t _ t = _; rw [upd_same, nV_iw]
    generalize upd H t (.tup (nV u)) = H1 at s1 hti ⊢
    obtain ⟨bs, hl2, hp2⟩ := hD.stay s1
    refine ⟨_, rfl, _, rfl, t, l, iw u, nk d, rfl, hti, rfl, ⟨bs, SqL.of hl2, hp2⟩, _, rfl, ?_⟩
    rw [nk_has]
    cases c2 : d.contains u with
    | false =>
      refine ifT rfl ⟨by show 1 ≤ sizeLine; decide, fun p hp => ?_⟩
      have e : hOut d u = (d, [-3]) := by unfold hOut; rw [if_pos c2]
      rw [e] at k
      exact k _ p (same_but (Same.trans s1 (Same.new hp)) l) (hD.stay (Same.trans s1 (Same.new hp))) (fresh_of s1 hp) upd_same
    | true =>
      refine ifF rfl ?_
      obtain ⟨f1, f2, f3⟩ := first_idx (List.contains_iff_mem.mp c2)
      have f3 := f3 hG.srt.nodup
      refine ⟨_, rfl, .inl ⟨rfl, _, SqL.of hl2⟩, _, rfl, l, t, iw u, bs, nk d, _, rfl, rfl, hti, hl2, hp2, nk_get.mpr f1, fun m hm e => f2 m hm (nk_get.mp e), ?_⟩
      have stE : TupsStay H1 (upd H1 l (.lst ((bs.eraseIdx (d.takeWhile fun v => v != u).length).map V.ref))) := fun b ys e => by rw [upd_ne (ne_of e hl2 (by intro z; cases z))]; exact e
      have p3 := paired_erase (d.takeWhile fun v => v != u).length (paired_stay hp2 stE)
      rw [nk_erase, f3] at p3
      have D3 : DictAt (upd H1 l (.lst ((bs.eraseIdx (d.takeWhile fun v => v != u).length).map V.ref))) l (d.filter fun v => v != u) := ⟨_, upd_same, p3⟩
      have hlen : ((bs.eraseIdx (d.takeWhile fun v => v != u).length).map V.ref).length = (d.filter fun v => v != u).length := by rw [List.length_map, Paired.length p3, List.length_map]
      refine ⟨_, rfl, l, _, rfl, .inl (SqL.of upd_same), by show 1 ≤ sizeLine; decide, fun p hp => ?_⟩
      have ek : hOut d u = (d.filter fun v => v != u, iw [(d.filter fun v => v != u).length]) := by unfold hOut; rw [if_neg (by rw [c2]; decide)]
      rw [ek] at k
      have hpl : p ≠ l := fun e => by rw [e, upd_same] at hp; cases hp
      refine k _ p (fun b o e hb => Same.new hp _ _ (by rw [upd_ne hb]; exact s1 _ _ e)) (D3.stay (Same.new hp)) (fresh_of s1 (by rw [upd_ne hpl] at hp; exact hp)) ?_
      rw [upd_same, hlen]; rfl
theorem scTellNumber : FnScope ["words", "given", "row"] ["words", "given"] (defScope sTellNumber) := ⟨rfl, rfl, rfl, by decide +kernel, rfl, by decide +kernel, by decide +kernel⟩
theorem ok_tell_number {f : Addr} {fd : FuncData} (F : Fun K "tell_number" "tell_number" sTellNumber f fd) (T : Names mg) : FnOk P w K mg base CX0 1 f fd ["words", "given"] (spH P60 hNumber) := by
  obtain ⟨t3, g3⟩ := T.m3
  refine F.ok scTellNumber (fun vs H Q E h => ?_) (fun cdv A outer s H vs Q E hr h => ?_)
  · obtain ⟨l, g, d, u, rfl, _⟩ := h
    rfl
  · obtain ⟨l, g, d, u, rfl, hD, hG, hg, hul, k⟩ := h
    have hu := hr65 hr
    refine ⟨_, pss_cons (ps_set (i := 2) scTellNumber.nd rfl (Or.inl rfl) (pe_callTy call_tuple_of (by rfl) T.tuple (by decide +kernel) (pa_cons (pv 1) pa_nil)))
      (pss_cons (ps_if (pt_cmpR (op_notInW hu) (pv 2) (pv 0) (by rfl)) (pss_one (ps_ret (pe_lst (pa_cons (pe_glob (v := .int (-3)) (by rfl) g3 ⟨_, rfl⟩) pa_nil)))) pss_nil)
      (pss_one (ps_ret (pe_lst (pa_cons (pe_bm PySem.F.plainAttrs_list PySem.F.slot_list_index PySem.F.type_list_index (mt_indexW hu) (pv 0) (pa_cons (pv 2) pa_nil)) pa_nil))))), ?_⟩
    refine ⟨_, rfl, g, _, rfl, .inl ⟨SqL.of hg, fun t ht => ?_⟩⟩
    have s1 : Same H (upd H t (.tup (nV u))) := Same.new ht
    have hti : TupI (upd H t (.tup (nV u))) t (iw u) := by show upd H t _ t = _; rw [upd_same, nV_iw]
    generalize upd H t (.tup (nV u)) = H1 at s1 hti ⊢
    obtain ⟨bs, hl2, hp2⟩ := hD.stay s1
    refine ⟨_, rfl, _, rfl, t, l, iw u, nk d, rfl, hti, rfl, ⟨bs, SqL.of hl2, hp2⟩, _, rfl, ?_⟩
    rw [nk_has]
    cases c2 : d.contains u with
    | false =>
      refine ifT rfl ⟨by show 1 ≤ sizeLine; decide, fun p hp => ?_⟩
      have e : hNumber d u = (d, [-3]) := by unfold hNumber; rw [if_pos c2]
      rw [e] at k
      exact k _ p (same_but (Same.trans s1 (Same.new hp)) l) (hD.stay (Same.trans s1 (Same.new hp))) (fresh_of s1 hp) upd_same
    | true =>
      refine ifF rfl ?_
      obtain ⟨f1, f2, _⟩ := first_idx (List.contains_iff_mem.mp c2)
      refine ⟨_, rfl, .inl ⟨rfl, _, SqL.of hl2⟩, _, rfl, l, t, iw u, nk d, _, rfl, rfl, hti, ⟨bs, SqL.of hl2, hp2⟩, nk_get.mpr f1, fun m hm e => f2 m hm (nk_get.mp e), by show 1 ≤ sizeLine; decide, fun p hp => ?_⟩
      have e : hNumber d u = (d, iw [(d.takeWhile fun v => v != u).length]) := by unfold hNumber; rw [if_neg (by rw [c2]; decide)]
      rw [e] at k
      exact k _ p (same_but (Same.trans s1 (Same.new hp)) l) (hD.stay (Same.trans s1 (Same.new hp))) (fresh_of s1 hp) upd_same
theorem scTellWord : FnScope ["words", "given", "number"] ["words", "given"] (defScope sTellWord) := ⟨rfl, rfl, rfl, by decide +kernel, rfl, by decide +kernel, by decide +kernel⟩
theorem ok_tell_word {f : Addr} {fd : FuncData} (F : Fun K "tell_word" "tell_word" sTellWord f fd) (T : Names mg) : FnOk P w K mg base CX0 1 f fd ["words", "given"] (spH P1 hWord) := by
  obtain ⟨t3, g3⟩ := T.m3
  refine F.ok scTellWord (fun vs H Q E h => ?_) (fun cdv A outer s H vs Q E hr h => ?_)
  · obtain ⟨l, g, d, u, rfl, _⟩ := h
    rfl
  · obtain ⟨l, g, d, u, rfl, hD, hG, hg, ⟨n, rfl⟩, k⟩ := h
    refine ⟨_, pss_cons (ps_set (i := 2) scTellWord.nd rfl (Or.inl rfl) (pe_ix ix_list (pv 1) pe_int (fun _ _ => rfl)))
      (pss_cons (ps_if (pt_cmpR op_ge (pv 2) (pe_callB call_len_seq (by rfl) T.len PySem.boot_len (pa_cons (pv 0) pa_nil)) (nomark _)) (pss_one (ps_ret (pe_lst (pa_cons (pe_glob (v := .int (-3)) (by rfl) g3 ⟨_, rfl⟩) pa_nil)))) pss_nil)
      (pss_one (ps_ret (pe_op op_cat (pe_lst (pa_cons (pe_callB call_len_seq (by rfl) T.len PySem.boot_len (pa_cons (pe_ix ix_list (pv 0) (pv 2) (fun _ _ => rfl)) pa_nil)) pa_nil)) (pe_callTy call_list_of (by rfl) T.list (by decide +kernel) (pa_cons (pe_ix ix_list (pv 0) (pv 2) (fun _ _ => rfl)) pa_nil)))))), ?_⟩
    obtain ⟨bs, hl, hp⟩ := hD
    have hbl : bs.length = d.length := by rw [Paired.length hp, List.length_map]
    refine ⟨_, rfl, g, _, _, _, rfl, rfl, SqL.of hg, atI_nat (j := 0) (v := V.int ((n : Nat) : Int)) rfl, _, rfl, _, rfl, l, _, rfl, .inl (SqL.of hl), _, _, rfl, rfl, _, rfl, ?_⟩
    rw [List.length_map, hbl]
    by_cases c : d.length ≤ n
    · refine ifT (decide_eq_true (by omega)) ⟨by show 1 ≤ sizeLine; decide, fun p hp0 => ?_⟩
      have e : hWord d [n] = (d, [-3]) := by
        unfold hWord
        show (d, match d[n]? with | none => [-3] | some v => Rh03.told v) = _
        rw [List.getElem?_eq_none c]
      rw [e] at k
      exact k _ p (same_but (Same.new hp0) l) (DictAt.stay ⟨bs, hl, hp⟩ (Same.new hp0)) hp0 upd_same
    · refine ifF (decide_eq_false (by omega)) ?_
      have hn : n < d.length := by omega
      have hv : d[n]? = some d[n] := List.getElem?_eq_getElem hn
      obtain ⟨b, hb, hbk⟩ := paired_get_r hp (show (nk d)[n]? = some (iw d[n]) from nk_get.mpr hv)
      have hbv : (bs.map V.ref)[n]? = some (V.ref b) := by rw [List.getElem?_map, hb]; rfl
      have e : hWord d [n] = (d, Rh03.told d[n]) := by
        unfold hWord
        show (d, match d[n]? with | none => [-3] | some v => Rh03.told v) = _
        rw [hv]
      rw [e] at k
      have hlen : d[n].length ≤ 8 := (hG.fine _ (List.getElem_mem hn)).1
      refine ⟨_, rfl, _, rfl, l, _, _, _, rfl, rfl, SqL.of hl, atI_nat hbv, b, _, rfl, .inr (SqT.of hbk), by show 1 ≤ sizeLine; decide, fun p1 hp1 => ?_⟩
      have s1 := Same.new (o := .lst [V.int (((iw d[n]).map V.int).length : Nat)]) hp1
      refine ⟨_, rfl, _, rfl, l, _, _, _, rfl, rfl, SqL.of (s1 _ _ hl), atI_nat hbv, b, _, rfl, .inr (SqT.of (s1 _ _ hbk)), fun p2 hp2 => ?_⟩
      have s2 := Same.new (o := .lst ((iw d[n]).map V.int)) hp2
      refine ⟨p1, p2, _, _, rfl, rfl, s2 _ _ upd_same, upd_same, ?_, fun p3 hp3 => ?_⟩
      · rw [List.length_map, iw_len, List.length_singleton, sizeLine_eq]; omega
      · refine k _ p3 (same_but (Same.trans s1 (Same.trans s2 (Same.new hp3))) l) (DictAt.stay ⟨bs, hl, hp⟩ (Same.trans s1 (Same.trans s2 (Same.new hp3)))) (fresh_of (Same.trans s1 s2) hp3) ?_
        rw [upd_same, List.length_map, iw_len]
        rfl
theorem scTellBegins : FnScope ["words", "given", "row"] ["words", "given"] (defScope sTellBegins) := ⟨rfl, rfl, rfl, by decide +kernel, rfl, by decide +kernel, by decide +kernel⟩
theorem ok_tell_begins {f : Addr} {fd : FuncData} (F : Fun K "tell_begins" "tell_begins" sTellBegins f fd) (T : Names mg) (CB : Callee P w K mg base "count_beginning" 1 ["words", "row"] spBegin) (CE : Callee P w K mg base "count_earlier" 1 ["words", "row"] spEarlier) : FnOk P w K mg base CX0 2 f fd ["words", "given"] (spH P60 hBegins) := by
  obtain ⟨fB, fdB, GB, mgB, kpB, bB⟩ := CB
  obtain ⟨fE, fdE, GE, mgE, kpE, bE⟩ := CE
  refine F.ok scTellBegins (fun vs H Q E h => ?_) (fun cdv A outer s H vs Q E hr h => ?_)
  · obtain ⟨l, g, d, u, rfl, _⟩ := h
    rfl
  · obtain ⟨l, g, d, u, rfl, hD, hG, hg, hul, k⟩ := h
    refine ⟨_, pss_cons (ps_set (i := 2) scTellBegins.nd rfl (Or.inl rfl) (pe_callTy call_tuple_of (by rfl) T.tuple (by decide +kernel) (pa_cons (pv 1) pa_nil)))
      (pss_one (ps_ret (pe_lst (pa_cons (pe_call GB hr rfl mgB kpB bB .nil pass0 (pa_cons (pv 0) (pa_cons (pv 2) pa_nil))) (pa_cons (pe_call GE hr rfl mgE kpE bE .nil pass0 (pa_cons (pv 0) (pa_cons (pv 2) pa_nil))) pa_nil))))), ?_⟩
    refine ⟨_, rfl, g, _, rfl, .inl ⟨SqL.of hg, fun t ht => ?_⟩⟩
    have s1 : Same H (upd H t (.tup (nV u))) := Same.new ht
    have hti : TupI (upd H t (.tup (nV u))) t (iw u) := by show upd H t _ t = _; rw [upd_same, nV_iw]
    generalize upd H t (.tup (nV u)) = H1 at s1 hti ⊢
    refine ⟨_, rfl, _, rfl, l, t, d, u, rfl, hD.stay s1, hti, hul, hG.len, fun H2 s2 => ?_⟩
    refine ⟨_, rfl, _, rfl, l, t, d, u, rfl, hD.stay (Same.trans s1 s2), hti.stay (Same.tups s2), hG.len, fun H3 s3 => ⟨by show 2 ≤ sizeLine; decide, fun p hp => ?_⟩⟩
    have s4 := Same.trans s1 (Same.trans s2 s3)
    exact k _ p (same_but (Same.trans s4 (Same.new hp)) l) (hD.stay (Same.trans s4 (Same.new hp))) (fresh_of s4 hp) upd_same
theorem scTellSize : FnScope ["words", "given", "numbers"] ["words", "given"] (defScope sTellSize) := ⟨rfl, rfl, rfl, by decide +kernel, rfl, by decide +kernel, by decide +kernel⟩
theorem ok_tell_size {f : Addr} {fd : FuncData} (F : Fun K "tell_size" "tell_size" sTellSize f fd) (T : Names mg) (CN : Callee P w K mg base "number_states" 2 ["words"] (spNumber P w)) (CC : Callee P w K mg base "count_links" 2 ["numbers"] (spCount P w)) : FnOk P w K mg base CX0 3 f fd ["words", "given"] (spH (fun _ => True) hSize) := by
  obtain ⟨fN, fdN, GN, mgN, kpN, bN⟩ := CN
  obtain ⟨fC, fdC, GC, mgC, kpC, bC⟩ := CC
  refine F.ok scTellSize (fun vs H Q E h => ?_) (fun cdv A outer s H vs Q E hr h => ?_)
  · obtain ⟨l, g, d, u, rfl, _⟩ := h
    rfl
  · obtain ⟨l, g, d, u, rfl, hD, hG, hg, _, k⟩ := h
    refine ⟨_, pss_cons (ps_set (i := 2) scTellSize.nd rfl (Or.inl rfl) (pe_call GN hr rfl mgN kpN bN .nil pass0 (pa_cons (pv 0) pa_nil)))
      (pss_one (ps_ret (pe_lst (pa_cons (pe_callB call_len_dN (by rfl) T.len PySem.boot_len (pa_cons (pv 2) pa_nil)) (pa_cons (pe_call GC hr rfl mgC kpC bC .nil pass0 (pa_cons (pv 2) pa_nil)) (pa_cons (pe_callB call_len_seq (by rfl) T.len PySem.boot_len (pa_cons (pv 0) pa_nil)) pa_nil)))))), ?_⟩
    refine ⟨_, rfl, l, d, rfl, hD, hG.len, hG.fine, fun H1 n s1 hn N1 => ?_⟩
    have N1' := N1
    obtain ⟨xs, hnn, hnk, hnum⟩ := N1'
    refine ⟨_, rfl, n, xs, rfl, .inl hnn, hnk, _, rfl, n, d, rfl, N1, sts_of hG.len hG.fine, fun H2 s2 => ?_⟩
    obtain ⟨bs, hl, hp⟩ := hD.stay (Same.trans s1 s2)
    have hbl : bs.length = d.length := by rw [Paired.length hp, List.length_map]
    refine ⟨_, rfl, l, _, rfl, .inl (SqL.of hl), by show 3 ≤ sizeLine; decide, fun p hp0 => ?_⟩
    have s3 := Same.trans s1 s2
    refine k _ p (same_but (Same.trans s3 (Same.new hp0)) l) (hD.stay (Same.trans s3 (Same.new hp0))) (fresh_of s3 hp0) ?_
    rw [upd_same, hnum.1, List.length_map, hbl, ← links_auto]
    rfl
theorem scTellRow : FnScope ["words", "given", "row"] ["words", "given"] (defScope sTellRow) := ⟨rfl, rfl, rfl, by decide +kernel, rfl, by decide +kernel, by decide +kernel⟩
theorem ok_tell_row {f : Addr} {fd : FuncData} (F : Fun K "tell_row" "tell_row" sTellRow f fd) (T : Names mg) (CR : Callee P w K mg base "write_row" 3 ["words"] spRow) : FnOk P w K mg base CX0 4 f fd ["words", "given"] (spH (fun _ => True) hPack) := by
  obtain ⟨fR, fdR, GR, mgR, kpR, bR⟩ := CR
  refine F.ok scTellRow (fun vs H Q E h => ?_) (fun cdv A outer s H vs Q E hr h => ?_)
  · obtain ⟨l, g, d, u, rfl, _⟩ := h
    rfl
  · obtain ⟨l, g, d, u, rfl, hD, hG, hg, _, k⟩ := h
    refine ⟨_, pss_cons (ps_set (i := 2) scTellRow.nd rfl (Or.inl rfl) (pe_call GR hr rfl mgR kpR bR .nil pass0 (pa_cons (pv 0) pa_nil)))
      (pss_one (ps_ret (pe_op op_cat (pe_lst (pa_cons (pe_callB call_len_seq (by rfl) T.len PySem.boot_len (pa_cons (pv 2) pa_nil)) pa_nil)) (pv 2)))), ?_⟩
    refine ⟨_, rfl, l, d, rfl, hD, hG.len, hG.fine, fun H1 r s1 hr0 h1 => ?_⟩
    refine ⟨_, rfl, r, _, rfl, .inl (SqL.of h1), by show 1 ≤ sizeLine; decide, fun p1 hp1 => ?_⟩
    have s2 := Same.new (o := .lst [V.int ((nV (Rh03.pack (Rh03.auto d))).length : Nat)]) hp1
    have hlen : (Rh03.pack (Rh03.auto d)).length ≤ 60500 := by
      have hst := sts_of hG.len hG.fine
      rw [pack_auto]
      have h1 := flat_len (Rh03.states d) (Rh03.states d) fun s hs => Nat.le_trans (letters_len s) (hst.few s hs)
      have h2 := hst.len
      omega
    refine ⟨_, rfl, p1, r, _, _, rfl, rfl, upd_same, s2 _ _ h1, ?_, fun p3 hp3 => ?_⟩
    · rw [List.length_map, List.length_singleton, sizeLine_eq]; omega
    · refine k _ p3 (same_but (Same.trans s1 (Same.trans s2 (Same.new hp3))) l) (hD.stay (Same.trans s1 (Same.trans s2 (Same.new hp3)))) (fresh_of (Same.trans s1 s2) hp3) ?_
      rw [upd_same, List.length_map]
      show some (HO.lst (V.int _ :: nV _)) = some (HO.lst ((Rh03.told _).map V.int))
      rw [nV_iw]
      rfl
end
end Ls
/-! LsD8 -/
namespace Ls
open PySem PySem.Spec PyProof.Rows L2
abbrev sInit : Stmt := inClass (top 57) 0
abbrev sMore : Stmt := inClass (top 57) 1
abbrev sOne : Stmt := inClass (top 57) 2
abbrev sMany : Stmt := inClass (top 57) 3
def rF (a : Addr) (i : Nat) : List (Str × V) := [("calls", .ref a), ("place", .int ((i : Nat) : Int))]
theorem lkHere {k : Str} {v : V} {r : List (Str × V)} : List.lookup k ((k, v) :: r) = some v := by
  have e : (k == k) = true := beq_self_eq_true k
  simp only [List.lookup, e]
theorem lkPast {k g : Str} {v : V} {r : List (Str × V)} (h : (k == g) = false) : List.lookup k ((g, v) :: r) = List.lookup k r := by
  simp only [List.lookup, h]
theorem rF_calls (a : Addr) (i : Nat) : (rF a i).lookup ("calls" : Str) = some (.ref a) := lkHere
theorem rF_place (a : Addr) (i : Nat) : (rF a i).lookup ("place" : Str) = some (.int ((i : Nat) : Int)) := (lkPast (by decide +kernel)).trans lkHere
theorem rF_no (a : Addr) (i : Nat) {m : Str} (h1 : (m == ("calls" : Str)) = false) (h2 : (m == ("place" : Str)) = false) : (rF a i).lookup m = none := (lkPast h1).trans ((lkPast h2).trans rfl)
theorem rF_put (a : Addr) (i j : Nat) : putF "place" (.int ((j : Nat) : Int)) (rF a i) = rF a j := by
  show (if ("calls" : Str) = "place" then _ else (("calls" : Str), V.ref a) :: (if ("place" : Str) = "place" then [(("place" : Str), V.int ((j : Nat) : Int))] else _)) = _
  rw [if_neg (by decide +kernel), if_pos rfl]
  rfl
theorem rF_new (a : Addr) : putF "place" (.int 0) (putF "calls" (.ref a) []) = rF a 0 := by
  show (if ("calls" : Str) = "place" then _ else (("calls" : Str), V.ref a) :: [(("place" : Str), V.int 0)]) = _
  rw [if_neg (by decide +kernel)]
  rfl
/-- a Reader that stands at the place i of the list at a -/
def RdAt (C : Addr) (H : Hp) (r a : Addr) (i : Nat) : Prop := ∃ dx, H r = some (.ins C dx (rF a i))
structure RTxt (K : PySem.W.Frag) (mg : Str → Option Value) (C : Addr) : Prop where
  cl : Cls K C
  nC : NoAttr K C "calls"
  nP : NoAttr K C "place"
  gC : mg "Reader" = some (.ref C)
def But (r : Addr) (H H' : Hp) : Prop := ∀ b o, H b = some o → b ≠ r → H' b = some o
def spRInit (C : Addr) : Sp := fun vs H Q _ => ∃ (p dx a : Addr), vs = [.ref p, .ref a] ∧ H p = some (.ins C dx []) ∧ ∀ H' : Hp, RdAt C H' p a 0 → But p H H' → Q .non H'
def spRMore (K : PySem.W.Frag) (C : Addr) : Sp := fun vs H Q _ => ∃ (r a : Addr) (i : Nat) (ns : List Int), vs = [.ref r] ∧ RdAt C H r a i ∧ SqL K H a (ns.map V.int) ∧ Q (.bl (decide (i < ns.length))) H
def spROne (K : PySem.W.Frag) (C : Addr) : Sp := fun vs H Q _ => ∃ (r a : Addr) (i : Nat) (ns : List Int) (z : Int), vs = [.ref r] ∧ RdAt C H r a i ∧ SqL K H a (ns.map V.int) ∧ ns[i]? = some z ∧ ∀ H' : Hp, RdAt C H' r a (i + 1) → But r H H' → (∀ b, H b = none → H' b = none) → Q (.int z) H'
def spRMany (K : PySem.W.Frag) (C : Addr) : Sp := fun vs H Q _ => ∃ (r a : Addr) (i m : Nat) (ns : List Int), vs = [.ref r, .int ((m : Nat) : Int)] ∧ RdAt C H r a i ∧ SqL K H a (ns.map V.int) ∧ i + m ≤ ns.length ∧
  ∀ (H' : Hp) (p : Addr), RdAt C H' r a (i + m) → But r H H' → H p = none → H' p = some (.lst (((ns.drop i).take m).map V.int)) → Q (.ref p) H'
section
variable {P : Program} {w : World} {K : PySem.W.Frag} {mg : Str → Option Value} {base : Heap} {C : Addr}
theorem scRInit : FnScope ["self", "calls"] ["self", "calls"] (defScope sInit) := ⟨rfl, rfl, rfl, by decide +kernel, rfl, by decide +kernel, by decide +kernel⟩
theorem ok_rinit {f : Addr} {fd : FuncData} (F : Fun K "__init__" "Reader.__init__" sInit f fd) (T : RTxt K mg C) : FnOk P w K mg base CX0 1 f fd ["self", "calls"] (spRInit C) := by
  refine F.ok scRInit (fun vs H Q E h => ?_) (fun cdv A outer s H vs Q E hr h => ?_)
  · obtain ⟨p, dx, a, rfl, _⟩ := h
    rfl
  · obtain ⟨p, dx, a, rfl, hp, k⟩ := h
    refine ⟨_, pss_cons (ps_fld (pv 0) (pv 1) rfl) (pss_one (ps_fld (pv 0) pe_int rfl)), ?_⟩
    refine ⟨_, rfl, _, rfl, p, C, dx, [], rfl, hp, T.cl, T.nC, (by show 0 < 1000; decide), ?_⟩
    refine ⟨_, rfl, p, C, dx, _, rfl, upd_same, T.cl, T.nP, (by show 1 < 1000; decide), ?_⟩
    exact k _ ⟨dx, Eq.trans upd_same (congrArg (fun q => some (HO.ins C dx q)) (rF_new a))⟩ fun b o e hb => by
      rw [upd_ne hb, upd_ne hb]
      exact e
theorem scRMore : FnScope ["self"] ["self"] (defScope sMore) := ⟨rfl, rfl, rfl, by decide +kernel, rfl, by decide +kernel, by decide +kernel⟩
theorem ok_rmore {f : Addr} {fd : FuncData} (F : Fun K "has_more" "Reader.has_more" sMore f fd) (T : RTxt K mg C) (N : Names mg) : FnOk P w K mg base CX0 1 f fd ["self"] (spRMore K C) := by
  refine F.ok scRMore (fun vs H Q E h => ?_) (fun cdv A outer s H vs Q E hr h => ?_)
  · obtain ⟨r, a, i, ns, rfl, _⟩ := h
    rfl
  · obtain ⟨r, a, i, ns, rfl, ⟨dx, h1⟩, hs, k⟩ := h
    refine ⟨_, pss_one (ps_ret (pe_cmpR op_lt (pe_fld (pv 0) rfl) (pe_callB call_len_seq (by rfl) N.len PySem.boot_len (pa_cons (pe_fld (pv 0) rfl) pa_nil)) (nomark _))), ?_⟩
    refine ⟨_, rfl, r, C, dx, _, _, rfl, h1, T.cl, T.nP, rF_place a i, _, rfl, r, C, dx, _, _, rfl, h1, T.cl, T.nC, rF_calls a i, a, _, rfl, .inl hs, _, _, rfl, rfl, ?_⟩
    rw [List.length_map]
    have e : decide (((i : Nat) : Int) < ((ns.length : Nat) : Int)) = decide (i < ns.length) := decide_eq_decide.mpr (by omega)
    show Q (V.bl (decide (((i : Nat) : Int) < ((ns.length : Nat) : Int)))) H
    rw [e]
    exact k
theorem scROne : FnScope ["self", "taken"] ["self"] (defScope sOne) := ⟨rfl, rfl, rfl, by decide +kernel, rfl, by decide +kernel, by decide +kernel⟩
theorem ok_rone {f : Addr} {fd : FuncData} (F : Fun K "take_one" "Reader.take_one" sOne f fd) (T : RTxt K mg C) : FnOk P w K mg base CX0 1 f fd ["self"] (spROne K C) := by
  refine F.ok scROne (fun vs H Q E h => ?_) (fun cdv A outer s H vs Q E hr h => ?_)
  · obtain ⟨r, a, i, ns, z, rfl, _⟩ := h
    rfl
  · obtain ⟨r, a, i, ns, z, rfl, ⟨dx, h1⟩, hs, hz, k⟩ := h
    refine ⟨_, pss_cons (ps_set (i := 1) scROne.nd rfl (Or.inl rfl) (pe_ix ix_list (pe_fld (pv 0) rfl) (pe_fld (pv 0) rfl) (fun _ _ => rfl)))
      (pss_cons (ps_fld (pv 0) (pe_op op_add (pe_fld (pv 0) rfl) pe_int) rfl) (pss_one (ps_ret (pv 1)))), ?_⟩
    refine ⟨_, rfl, r, C, dx, _, _, rfl, h1, T.cl, T.nC, rF_calls a i, _, rfl, r, C, dx, _, _, rfl, h1, T.cl, T.nP, rF_place a i, a, _, _, _, rfl, rfl, hs, atI_nat (v := V.int z) (by rw [List.getElem?_map, hz]; rfl), ?_⟩
    refine ⟨_, rfl, r, C, dx, _, _, rfl, h1, T.cl, T.nP, rF_place a i, _, _, rfl, rfl, _, rfl, r, C, dx, _, rfl, h1, T.cl, T.nP, (by show 2 < 1000; decide), _, rfl, ?_⟩
    have e1 : putF "place" (V.int (((i : Nat) : Int) + 1)) (rF a i) = rF a (i + 1) := rF_put a i (i + 1)
    exact k _ ⟨dx, Eq.trans upd_same (congrArg (fun q => some (HO.ins C dx q)) e1)⟩ (fun b o e hb => by rw [upd_ne hb]; exact e) (fun b hb => by rw [upd_ne (fun z => by rw [z, h1] at hb; cases hb)]; exact hb)
theorem scRMany : FnScope ["self", "many", "taken"] ["self", "many"] (defScope sMany) := ⟨rfl, rfl, rfl, by decide +kernel, rfl, by decide +kernel, by decide +kernel⟩
theorem ok_rmany {f : Addr} {fd : FuncData} (F : Fun K "take_many" "Reader.take_many" sMany f fd) (T : RTxt K mg C) : FnOk P w K mg base CX0 1 f fd ["self", "many"] (spRMany K C) := by
  refine F.ok scRMany (fun vs H Q E h => ?_) (fun cdv A outer s H vs Q E hr h => ?_)
  · obtain ⟨r, a, i, m, ns, rfl, _⟩ := h
    rfl
  · obtain ⟨r, a, i, m, ns, rfl, ⟨dx, h1⟩, hs, hm, k⟩ := h
    refine ⟨_, pss_cons (ps_set (i := 2) scRMany.nd rfl (Or.inl rfl) (pe_slice sl_list (pe_fld (pv 0) rfl) (po_some (pe_fld (pv 0) rfl)) (po_some (pe_op op_add (pe_fld (pv 0) rfl) (pv 1)))))
      (pss_cons (ps_fld (pv 0) (pe_op op_add (pe_fld (pv 0) rfl) (pv 1)) rfl) (pss_one (ps_ret (pv 2)))), ?_⟩
    refine ⟨_, rfl, r, C, dx, _, _, rfl, h1, T.cl, T.nC, rF_calls a i, _, rfl, r, C, dx, _, _, rfl, h1, T.cl, T.nP, rF_place a i, _, rfl, _, rfl, r, C, dx, _, _, rfl, h1, T.cl, T.nP, rF_place a i, _, rfl, _, _, rfl, rfl, _, rfl, a, _, rfl, hs, fun p hp => ?_⟩
    have hpr : r ≠ p := fun z => by rw [← z, h1] at hp; cases hp
    have h2 : (upd H p (.lst (cutV (ns.map V.int) (some ((i : Nat) : Int)) (some (((i : Nat) : Int) + ((m : Nat) : Int)))))) r = some (.ins C dx (rF a i)) := by rw [upd_ne hpr]; exact h1
    refine ⟨_, rfl, r, C, dx, _, _, rfl, h2, T.cl, T.nP, rF_place a i, _, rfl, _, _, rfl, rfl, _, rfl, r, C, dx, _, rfl, h2, T.cl, T.nP, (by show 2 < 1000; decide), _, rfl, ?_⟩
    have e1 : putF "place" (V.int (((i : Nat) : Int) + ((m : Nat) : Int))) (rF a i) = rF a (i + m) := rF_put a i (i + m)
    refine k _ p ⟨dx, Eq.trans upd_same (congrArg (fun q => some (HO.ins C dx q)) e1)⟩ (fun b o e hb => by rw [upd_ne hb, upd_ne (ne_of_none e hp)]; exact e) hp ?_
    rw [upd_ne (fun z => hpr z.symm), upd_same]
    have e2 : cutV (ns.map V.int) (some ((i : Nat) : Int)) (some (((i : Nat) : Int) + ((m : Nat) : Int))) = ((ns.drop i).take m).map V.int := by
      unfold cutV
      have e3 : ((i : Nat) : Int) + ((m : Nat) : Int) = ((i + m : Nat) : Int) := by omega
      rw [e3, HT.sIx_nat, HT.sIx_nat, List.length_map, List.map_take, List.map_drop]
      have a1 : min i ns.length = i := by omega
      have a2 : min (i + m) ns.length = i + m := by omega
      rw [a1, a2]
      have a3 : i + m - i = m := by omega
      rw [a3]
    rw [e2]
end
end Ls
/-! LsD9 -/
namespace Ls
open PySem PySem.Spec PyProof.Rows L2
/-- the list that is handed in: read, never written -/
def Scr (K : PySem.W.Frag) (H : Hp) (a : Addr) (ns : List Int) : Prop := (∃ o, H a = some (.frz o (.lst (ns.map V.int)))) ∨
  ∃ (o : Obj) (its : Array Value) (n : Nat), K.lookup a = some o ∧ o.cls = .type "list" ∧ o.dict = none ∧ o.data = .seq its n ∧ its.size ≤ sizeLine ∧ Vals (ns.map V.int) its.toList
theorem Scr.sq {K : PySem.W.Frag} {H : Hp} {a : Addr} {ns : List Int} (h : Scr K H a ns) : SqL K H a (ns.map V.int) := by
  rcases h with h | h
  · exact .inl (.inr h)
  · exact .inr h
theorem Scr.stay {K : PySem.W.Frag} {H H' : Hp} {a : Addr} {ns : List Int} (h : Scr K H a ns) (k : ∀ b o u, H b = some (.frz o u) → H' b = some (.frz o u)) : Scr K H' a ns := by
  rcases h with ⟨o, h⟩ | h
  · exact .inl ⟨o, k _ _ _ h⟩
  · exact .inr h
theorem scr_of {K : PySem.W.Frag} {H : Hp} {a : Addr} {ns : List Int} (hO : OnlyF H) (h : SqL K H a (ns.map V.int)) : Scr K H a ns := by
  rcases h with (h | h) | h
  · rcases hO a with q | ⟨o, u, q⟩
    · rw [q] at h; cases h
    · rw [q] at h; cases h
  · exact .inl h
  · exact .inr h
/-- all but these stands as it stood -/
def Keep (ex : List Addr) (H H' : Hp) : Prop := ∀ b o, H b = some o → b ∉ ex → H' b = some o
/-- the four dictionaries: the list at D holds the lists ls -/
structure DictsAt (H : Hp) (D : Addr) (ls : List Addr) (s : Rh03.St) : Prop where
  lst : H D = some (.lst (ls.map V.ref))
  len : ls.length = 4
  nd : ls.Nodup
  out : D ∉ ls
  at_ : ∀ (j : Nat) (l : Addr), ls[j]? = some l → DictAt H l (Rh03.get s (j + 1))
/-- answer_one: the call c at the reader's place -/
def spCall (K : PySem.W.Frag) (C : Addr) : Sp := fun vs H Q _ => ∃ (D r a : Addr) (ls : List Addr) (s : Rh03.St) (i : Nat) (ns : List Int) (c : List (List Int)) (t : List Int), vs = [.ref D, .ref r] ∧ DictsAt H D ls s ∧ GoodSt s ∧ RdAt C H r a i ∧ Scr K H a ns ∧ ns.length ≤ 30000 ∧
  PyFlat.call PyRh03.shape (ns.drop i) = some (c, t) ∧ PyInside.call PyRh03.bound c = true ∧
  ∀ (H' : Hp) (p : Addr) (ls' : List Addr), DictsAt H' D ls' (due s c).1 → RdAt C H' r a (ns.length - t.length) → Keep (D :: r :: ls) H H' → (∀ x ∈ ls', x ∈ ls ∨ H x = none) → H p = none → H' p = some (.lst ((due s c).2.map V.int)) → Q (.ref p) H'
def spAnswers (K : PySem.W.Frag) : Sp := fun vs H Q _ => ∃ (a : Addr) (ns : List Int) (cs : List (List (List Int))), vs = [.ref a] ∧ Scr K H a ns ∧ ns.length ≤ 30000 ∧ Asked ns cs ∧ ∀ (H' : Hp) (p : Addr), H' p = some (.lst ((PyRh03.answers ns).map V.int)) → Q (.ref p) H'
/-- the due answers stay due -/
theorem due_good {s : Rh03.St} (h : GoodSt s) (c : List (List Int)) : GoodSt (due s c).1 := by
  unfold due Rh03Neutral.step
  cases Rh03Neutral.callOf ((PyRh03.whole c).headD []) with
  | none => exact h
  | some x => exact step_good h x
theorem call_suffix {l : List Int} {c : List (List Int)} {t : List Int} (h : PyFlat.call PyRh03.shape l = some (c, t)) : ∃ pre, l = pre ++ t ∧ 0 < pre.length := by
  obtain ⟨p, xs, ⟨_, _, e⟩ | ⟨row, _, _, e⟩⟩ := call_inv h
  · exact ⟨p :: xs, by rw [e]; rfl, Nat.succ_pos _⟩
  · exact ⟨p :: (xs ++ ((row.length : Nat) : Int) :: row), by rw [e]; simp, Nat.succ_pos _⟩
theorem suffix_at {ns pre t : List Int} {i : Nat} (hi : i ≤ ns.length) (h : ns.drop i = pre ++ t) : ns.drop (ns.length - t.length) = t ∧ i + pre.length = ns.length - t.length := by
  have hl : (ns.drop i).length = pre.length + t.length := by rw [h, List.length_append]
  rw [List.length_drop] at hl
  have e : ns.length - t.length = i + pre.length := by omega
  refine ⟨?_, e.symm⟩
  rw [e, ← List.drop_drop, h, List.drop_left]
theorem Keep.of_same {ex : List Addr} {H H' : Hp} (s : L2.Same H H') : Keep ex H H' := fun b o e _ => s b o e
abbrev sAnswers : Stmt := top 59
section
variable {P : Program} {w : World} {K : PySem.W.Frag} {mg : Str → Option Value} {base : Heap} {C : Addr}
theorem scAnswers : FnScope ["calls", "dictionaries", "reader", "told", "answer", "dictionary"] ["calls"] (defScope sAnswers) := ⟨rfl, rfl, rfl, by decide +kernel, rfl, by decide +kernel, by decide +kernel⟩
theorem ok_answers {f fI fM : Addr} {fd fdI fdM : FuncData} {k : Nat} (F : Fun K "answers" "answers" sAnswers f fd) (T : RTxt K mg C) (N : Names mg) (MK : Mk K C fI) (GI : FnOk P w K mg base CX0 1 fI fdI ["self", "calls"] (spRInit C)) (bI : Binds K fdI ["self", "calls"] [])
    (mM : Meth K C "has_more" fM) (GM : FnOk P w K mg base CX0 1 fM fdM ["self"] (spRMore K C)) (bM : Binds K fdM ["self"] []) (CO : Callee P w K mg base "answer_one" (k + 2) ["dictionaries", "reader"] (spCall K C)) : FnOk P w K mg base CX0 (k + 3) f fd ["calls"] (spAnswers K) := by
  obtain ⟨fO, fdO, GO, mgO, kpO, bO⟩ := CO
  obtain ⟨t4, g4⟩ := N.c4
  refine F.ok scAnswers (fun vs H Q E h => ?_) (fun cdv A outer s H vs Q E hr h => ?_)
  · obtain ⟨a, ns, cs, rfl, _⟩ := h
    rfl
  · obtain ⟨a, ns, cs, rfl, hS, hln, hA, kq⟩ := h
    have hr1 := hr.mono (show 1 ≤ k + 2 by omega)
    have hr2 := hr.mono (show 2 ≤ k + 2 by omega)
    refine ⟨_, pss_cons (ps_setLc (i := 1) (own := [("dictionary", 5)]) (g := gName 5) (tt := tYes) (te := tLst tNil) rfl scAnswers.nd rfl rfl (sw_true rfl rfl rfl (by decide +kernel)) (pi_range1 (by rfl) N.range (pa_cons (pe_glob (v := .int 4) (by rfl) g4 ⟨_, rfl⟩) pa_nil)) (blkOk_by (N := ["calls", "dictionaries", "reader", "told", "answer", "dictionary"]) (sc := defScope sAnswers) (by decide +kernel)) (fun _ _ _ _ _ => pg_name (i := 5) scAnswers.nd rfl (Or.inl rfl)) (fun _ _ _ _ _ => pts_nil) (fun _ _ _ _ _ => pe_lst pa_nil))
      (pss_cons (ps_set (i := 2) scAnswers.nd rfl (Or.inl rfl) (pe_make MK GI hr2 rfl T.gC bI .nil pass0 (pa_cons (pv 0) pa_nil)))
      (pss_cons (ps_set (i := 3) scAnswers.nd rfl (Or.inl rfl) (pe_lst pa_nil))
      (pss_cons (ps_while PassesOwn.never (pt_val (pe_meth0 (pv 2) T.cl mM GM hr1 bM .nil pass0))
        (pss_cons (ps_set (i := 4) scAnswers.nd rfl (Or.inl rfl) (pe_call GO hr rfl mgO kpO bO .nil pass0 (pa_cons (pv 1) (pa_cons (pv 2) pa_nil))))
        (pss_cons (ps_expr (pe_bm PySem.F.plainAttrs_list PySem.F.slot_list_append PySem.F.type_list_append mt_append (pv 3) (pa_cons (pe_callB call_len_seq (by rfl) N.len PySem.boot_len (pa_cons (pv 4) pa_nil)) pa_nil)))
        (pss_one (ps_expr (pe_bm PySem.F.plainAttrs_list PySem.F.slot_list_extend PySem.F.type_list_extend mt_extend (pv 3) (pa_cons (pv 4) pa_nil)))))))
      (pss_one (ps_ret (pv 3)))))), ?_⟩
    refine ⟨4, rfl, by decide, by decide, fun D hD => lc_range (lo := 0) (n := 4) (fun i H' => L2.Same H H' ∧ ∃ ls : List Addr, H' D = some (.lst (ls.map V.ref)) ∧ ls.length = i ∧ ls.Nodup ∧ D ∉ ls ∧ ∀ l ∈ ls, H' l = some (.lst []))
      ⟨Same.new hD, [], upd_same, rfl, List.nodup_nil, fun h => (nomatch h), fun l h => (nomatch h)⟩ ?_ ?_⟩
    · rintro i H' hi ⟨s1, ls, h1, h2, h3, h4, h5⟩
      refine ⟨rfl, Nat.zero_le _, fun q hq => ⟨_, Same.new hq _ _ h1, by rw [List.length_map, sizeLine_eq]; omega, fun b o e => ?_, ls ++ [q], by rw [upd_same, List.map_append]; rfl, by rw [List.length_append, h2]; rfl, ?_, fun h => ?_, fun l hl => ?_⟩⟩
      · rw [upd_ne (ne_of_none e hD)]
        exact Same.new hq _ _ (s1 _ _ e)
      · rw [List.nodup_append]
        refine ⟨h3, by simp, fun x hx y hy => ?_⟩
        have : y = q := by simpa using hy
        subst this; rintro rfl
        rw [h5 _ hx] at hq; cases hq
      · rcases List.mem_append.mp h with h | h
        · exact h4 h
        · have : D = q := by simpa using h
          rw [← this, h1] at hq; cases hq
      · rcases List.mem_append.mp hl with h | h
        · have hlD : l ≠ D := fun e => h4 (by rw [← e]; exact h)
          rw [upd_ne hlD]
          exact Same.new hq _ _ (h5 l h)
        · have e : l = q := by simpa using h
          subst e
          have hlD : l ≠ D := fun e => by rw [e, h1] at hq; cases hq
          rw [upd_ne hlD]
          exact upd_same
    · rintro H1 ⟨s1, ls, h1, h2, h3, h4, h5⟩
      refine ⟨_, rfl, fun x dx nx ndx ne => ⟨x, dx, a, rfl, upd_same, fun H2 R2 B2 => ⟨rfl, ?_⟩⟩⟩
      have s2 : L2.Same H1 H2 := Same.made nx ndx B2
      refine ⟨Nat.zero_le _, fun tt htt => ?_⟩
      have s3 : L2.Same H2 (upd H2 tt (.lst [])) := Same.new htt
      obtain ⟨dx2, hx2⟩ := R2
      refine ⟨fun m σ H' => ∃ (v4 : Option V) (i : Nat) (ls : List Addr) (s : Rh03.St) (csr : List (List (List Int))) (ts : List Int), σ = [some (.ref a), some (.ref D), some (.ref x), some (.ref tt), v4, none] ∧ m = ns.length - i ∧ i ≤ ns.length ∧ DictsAt H' D ls s ∧ GoodSt s ∧ RdAt C H' x a i ∧ Scr K H' a ns ∧
          H' tt = some (.lst (ts.map V.int)) ∧ tt ∉ D :: x :: ls ∧ (∃ f, PyFlat.calls PyRh03.shape f (ns.drop i) = some csr) ∧ (∀ c ∈ csr, PyInside.call PyRh03.bound c = true) ∧ ts ++ PyFlat.told (dueAll s csr) = PyRh03.answers ns,
        ⟨_, none, 0, ls, Rh03.init, cs, [], rfl, rfl, Nat.zero_le _, ⟨s3 _ _ (s2 _ _ h1), h2, h3, h4, fun j l hl => ⟨[], s3 _ _ (s2 _ _ (h5 l (List.mem_of_getElem? hl))), .nil⟩⟩, good_init, ⟨dx2, s3 _ _ hx2⟩, hS.stay (fun b o u e => s3 _ _ (s2 _ _ (s1 _ _ e))), upd_same, ?_, ⟨_, hA.parse⟩, hA.ins, ?_⟩, ?_⟩
      · intro h
        rcases List.mem_cons.mp h with e | h
        · rw [e, s2 _ _ h1] at htt; cases htt
        · rcases List.mem_cons.mp h with e | h
          · rw [e, hx2] at htt; cases htt
          · rw [s2 _ _ (h5 _ h)] at htt; cases htt
      · rw [answers_due hA.parse]; rfl
      · rintro m σ H' ⟨v4, i, ls, s, csr, ts, rfl, rfl, hi, DA, GS, ⟨dxr, hxr⟩, hS', htt', hno, ⟨f', hcs⟩, hins, heq⟩
        refine ⟨_, rfl, x, dxr, _, rfl, hxr, rF_no a i (by decide +kernel) (by decide +kernel), x, a, i, ns, rfl, ⟨dxr, hxr⟩, hS'.sq, _, rfl, ?_⟩
        have hsh := hA.short
        rw [← heq, List.length_append] at hsh
        by_cases hlt : i < ns.length
        · refine ifT (decide_eq_true hlt) ?_
          cases hd : ns.drop i with
          | nil =>
            have := congrArg List.length hd
            rw [List.length_drop, List.length_nil] at this
            omega
          | cons p0 r0 =>
            rw [hd] at hcs
            obtain ⟨c, t, csr', f2, hc, rfl, hcs2⟩ := calls_inv hcs
            rw [← hd] at hc
            obtain ⟨pre, epre, hpre⟩ := call_suffix hc
            obtain ⟨ed, ei⟩ := suffix_at hi epre
            refine ⟨fun σ' H' => ∃ m', m' < ns.length - i ∧ ∃ (v4 : Option V) (i : Nat) (ls : List Addr) (s : Rh03.St) (csr : List (List (List Int))) (ts : List Int), σ' = [some (.ref a), some (.ref D), some (.ref x), some (.ref tt), v4, none] ∧ m' = ns.length - i ∧ i ≤ ns.length ∧ DictsAt H' D ls s ∧ GoodSt s ∧ RdAt C H' x a i ∧ Scr K H' a ns ∧
              H' tt = some (.lst (ts.map V.int)) ∧ tt ∉ D :: x :: ls ∧ (∃ f, PyFlat.calls PyRh03.shape f (ns.drop i) = some csr) ∧ (∀ c ∈ csr, PyInside.call PyRh03.bound c = true) ∧ ts ++ PyFlat.told (dueAll s csr) = PyRh03.answers ns, fun σ' H' h => h, ?_⟩
            refine ⟨_, rfl, _, rfl, D, x, a, ls, s, i, ns, c, t, rfl, DA, GS, ⟨dxr, hxr⟩, hS', hln, hc, hins c List.mem_cons_self, fun H2 p ls' D2 R2 K2 L2' hp hp2 => ?_⟩
            have ht2 := K2 _ _ htt' hno
            have hpt : p ≠ tt := fun e => by rw [e, htt'] at hp; cases hp
            have eall : PyFlat.told (dueAll s (c :: csr')) = (((due s c).2.length : Nat) : Int) :: (due s c).2 ++ PyFlat.told (dueAll (due s c).1 csr') := told_cons _ _
            have hl1 : (PyFlat.told (dueAll s (c :: csr'))).length = 1 + (due s c).2.length + (PyFlat.told (dueAll (due s c).1 csr')).length := by
              rw [eall, List.length_append, List.length_cons]; omega
            refine ⟨_, rfl, .inl ⟨rfl, _, SqL.of ht2⟩, _, rfl, p, _, rfl, .inl (SqL.of hp2), tt, _, _, rfl, rfl, ht2, by rw [List.length_map, sizeLine_eq]; omega, ?_⟩
            refine ⟨_, rfl, .inl ⟨rfl, _, SqL.of upd_same⟩, _, rfl, tt, p, _, _, rfl, rfl, upd_same, by rw [upd_ne hpt]; exact hp2, by rw [List.length_append, List.length_map, List.length_singleton, List.length_map, sizeLine_eq]; omega, ?_⟩
            rw [upd_upd]
            have hno' : tt ∉ D :: x :: ls' := fun h => by
              rcases List.mem_cons.mp h with e | h
              · exact hno (e ▸ List.mem_cons_self)
              · rcases List.mem_cons.mp h with e | h
                · exact hno (e ▸ List.mem_cons_of_mem _ List.mem_cons_self)
                · rcases L2' _ h with q | q
                  · exact hno (List.mem_cons_of_mem _ (List.mem_cons_of_mem _ q))
                  · rw [htt'] at q; cases q
            have keepU : ∀ b o, H2 b = some o → b ≠ tt → (upd H2 tt (.lst (ts.map V.int ++ [V.int (((due s c).2.map V.int).length : Nat)] ++ (due s c).2.map V.int))) b = some o := fun b o e hb => by rw [upd_ne hb]; exact e
            have stU : TupsStay H2 (upd H2 tt (.lst (ts.map V.int ++ [V.int (((due s c).2.map V.int).length : Nat)] ++ (due s c).2.map V.int))) := fun b ys e => keepU _ _ e (ne_of e ht2 (by intro z; cases z))
            refine ⟨ns.length - (ns.length - t.length), by omega, some (.ref p), ns.length - t.length, ls', (due s c).1, csr', ts ++ [(((due s c).2.length : Nat) : Int)] ++ (due s c).2, rfl, rfl, by omega, ?_, due_good GS c, ?_, ?_, ?_, hno', ⟨f2, by rw [ed]; exact hcs2⟩, fun c' hc' => hins c' (List.mem_cons_of_mem _ hc'), ?_⟩
            · refine ⟨keepU _ _ D2.lst (fun e => hno' (e ▸ List.mem_cons_self)), D2.len, D2.nd, D2.out, fun j l hl => ?_⟩
              obtain ⟨bs, hb1, hb2⟩ := D2.at_ j l hl
              exact ⟨bs, keepU _ _ hb1 (fun e => hno' (e ▸ List.mem_cons_of_mem _ (List.mem_cons_of_mem _ (List.mem_of_getElem? hl)))), paired_stay hb2 stU⟩
            · obtain ⟨dx3, hx3⟩ := R2
              exact ⟨dx3, keepU _ _ hx3 (fun e => hno' (e ▸ List.mem_cons_of_mem _ List.mem_cons_self))⟩
            · refine hS'.stay fun b o u e => ?_
              have nb : b ∉ D :: x :: ls := fun h => by
                rcases List.mem_cons.mp h with q | h
                · rw [q, DA.lst] at e; cases e
                · rcases List.mem_cons.mp h with q | h
                  · rw [q, hxr] at e; cases e
                  · obtain ⟨j, hj⟩ := List.mem_iff_getElem?.mp h
                    obtain ⟨bs, hb1, _⟩ := DA.at_ j _ hj
                    rw [hb1] at e; cases e
              refine keepU _ _ (K2 _ _ e nb) fun q => ?_
              rw [q, htt'] at e; cases e
            · rw [upd_same, List.map_append, List.map_append, List.length_map]; rfl
            · rw [← heq, eall]
              simp
        · refine ifF (decide_eq_false hlt) ?_
          have hd : ns.drop i = [] := List.drop_eq_nil_iff.mpr (by omega)
          rw [hd] at hcs
          have := calls_nil hcs
          subst this
          have e2 : ts = PyRh03.answers ns := by
            rw [← heq]
            show ts = ts ++ []
            rw [List.append_nil]
          refine ⟨_, rfl, kq _ tt ?_⟩
          rw [← e2]; exact htt'
end
end Ls
/-! LsSetA -/
namespace Ls
open PySem PySem.Spec PyProof.Rows L2
/-! ### tables of up to 512 slots, with slots that were left -/
def masks : List Nat := [7, 15, 31, 63, 127, 255, 511]
def orb (m : Nat) : Nat → Nat → List Nat
  | 0, _ => []
  | n + 1, x => x :: orb m n ((x * 5 + 1) % (m + 1))
theorem orb_mem {m : Nat} : ∀ (n a : Nat) {x : Nat}, x ∈ orb m n (lcgN m a) → ∃ b, b < a + n ∧ lcgN m b = x
  | 0, _, _, h => nomatch h
  | n + 1, a, x, h => by
    rcases List.mem_cons.mp h with e | h
    · exact ⟨a, by omega, e.symm⟩
    · obtain ⟨b, hb, e⟩ := orb_mem n (a + 1) (x := x) h
      exact ⟨b, by omega, e⟩
def okMask (m : Nat) : Bool := ((List.range (m + 1)).all fun j => (orb m (m + 1) 0).contains j) && lcgN m (m + 1) == 0
theorem masks_ok : (masks.all okMask) = true := by decide +kernel
theorem mask_ok {m : Nat} (h : m ∈ masks) : okMask m = true := List.all_eq_true.mp masks_ok m h
theorem mask_odd' {m : Nat} (h : m ∈ masks) : m % 2 = 1 := by
  have : (masks.all fun m => m % 2 == 1) = true := by decide
  exact beq_iff_eq.mp (List.all_eq_true.mp this m h)
theorem mask_le {m : Nat} (h : m ∈ masks) : m ≤ 511 ∧ 7 ≤ m := by
  have : (masks.all fun m => decide (m ≤ 511) && decide (7 ≤ m)) = true := by decide
  have := List.all_eq_true.mp this m h
  simpa using this
theorem lcg_hit {m : Nat} (hm : m ∈ masks) {j : Nat} (hj : j ≤ m) : ∃ b, b ≤ m ∧ lcgN m b = j := by
  have h := mask_ok hm
  unfold okMask at h
  rw [Bool.and_eq_true] at h
  have h1 := List.all_eq_true.mp h.1 j (List.mem_range.mpr (Nat.lt_succ_of_le hj))
  obtain ⟨b, hb, e⟩ := orb_mem (m := m) (m + 1) 0 (List.contains_iff_mem.mp h1)
  exact ⟨b, by omega, e⟩
theorem lcg_per {m : Nat} (hm : m ∈ masks) : ∀ k, lcgN m (m + 1 + k) = lcgN m k
  | 0 => by
    have h := mask_ok hm
    unfold okMask at h
    rw [Bool.and_eq_true] at h
    exact beq_iff_eq.mp h.2
  | k + 1 => by
    show (lcgN m (m + 1 + k) * 5 + 1) % (m + 1) = (lcgN m k * 5 + 1) % (m + 1)
    rw [lcg_per hm k]
theorem run_hit {m : Nat} (hm : m ∈ masks) (h : Int) {j : Nat} (hj : j ≤ m) : ∃ n, n ≤ m + 12 ∧ runI m (SetTable.bits h) n = j := by
  obtain ⟨a, ha, ea⟩ := lcg_hit hm (runI_le m (SetTable.bits h) 12)
  obtain ⟨b, hb, eb⟩ := lcg_hit hm hj
  have key : ∃ k, k ≤ m ∧ lcgI m (runI m (SetTable.bits h) 12) k = j := by
    rw [← ea]
    by_cases c : b < a
    · refine ⟨b + (m + 1) - a, by omega, ?_⟩
      rw [lcgN_add, show a + (b + (m + 1) - a) = m + 1 + b by omega, lcg_per hm, eb]
    · refine ⟨b - a, by omega, ?_⟩
      rw [lcgN_add, show a + (b - a) = b by omega, eb]
  obtain ⟨k, hk, e⟩ := key
  exact ⟨12 + k, by omega, by rw [runI_tail (bits_lt h)]; exact e⟩
theorem way_hit {m : Nat} (hm : m ∈ masks) (h : Int) {j : Nat} (hj : j ≤ m) : ∃ k, k < 10 * SetTable.turns m ∧ way m h k = j := by
  obtain ⟨n, hn, e⟩ := run_hit hm h hj
  obtain ⟨k, hk, e2⟩ := run_nth m (SetTable.bits h) n
  refine ⟨k, by unfold SetTable.turns; omega, ?_⟩
  show (nth m (runAt m (SetTable.bits h % (m + 1)) (SetTable.bits h)) k).j = j
  rw [e2]; exact e
theorem way_in (m : Nat) (h : Int) (k : Nat) : way m h k ≤ m := by
  have hi : SetTable.bits h % (m + 1) ≤ m := Nat.le_of_lt_succ (Nat.mod_lt _ (Nat.succ_pos _))
  have r := runEnd_bd hi
  have q := nth_in (m := m) k (runAt m (SetTable.bits h % (m + 1)) (SetTable.bits h)) (by
    show SetTable.bits h % (m + 1) + (SetTable.runEnd m (SetTable.bits h % (m + 1)) - SetTable.bits h % (m + 1)) ≤ m
    omega)
  show (nth m (runAt m (SetTable.bits h % (m + 1)) (SetTable.bits h)) k).j ≤ m
  omega
/-! ### what stands at a slot -/
theorem has_iff {xs : Array Nat} (r : Ris xs.toList) {j : Nat} : SetTable.has xs j = true ↔ j ∈ xs.toList := by
  constructor
  · intro h
    have e : xs[SetTable.below xs j]? = some j := beq_iff_eq.mp h
    exact List.mem_of_getElem? (by rw [Array.getElem?_toList]; exact e)
  · intro h
    obtain ⟨i, hi⟩ := List.mem_iff_getElem?.mp h
    have e := slot_live (t := { (default : SetTable) with place := xs }) r hi
    unfold SetTable.slot at e
    unfold SetTable.has
    by_cases c : (xs[SetTable.below xs j]? == some j) = true
    · exact c
    · simp only [c] at e
      exfalso
      revert e
      show (if false = true then _ else if SetTable.has _ j = true then SetTable.Slot.dummy else SetTable.Slot.empty) = _ → False
      rw [if_neg Bool.false_ne_true]
      split <;> intro e <;> cases e
abbrev Occ (t : SetTable) (j : Nat) : Prop := j ∈ t.place.toList ∨ j ∈ t.dummies.toList
/-- a table whose elements are found again from their hashes -/
structure TabG (t : SetTable) (hs : List Int) : Prop where
  ris : Ris t.place.toList
  risD : Ris t.dummies.toList
  sz : t.place.size = hs.length
  mok : t.mask ∈ masks
  bd : ∀ x, Occ t x → x ≤ t.mask
  dj : ∀ x ∈ t.dummies.toList, x ∉ t.place.toList
  reach : ∀ (i : Nat) (h : Int) (j : Nat), hs[i]? = some h → t.place.toList[i]? = some j → ∃ k, way t.mask h k = j ∧ ∀ k', k' < k → Occ t (way t.mask h k')
theorem TabG.slotD {t : SetTable} {hs : List Int} (T : TabG t hs) {j : Nat} (h : j ∈ t.dummies.toList) : t.slot j = .dummy := by
  unfold SetTable.slot
  have c : (t.place[SetTable.below t.place j]? == some j) = false := by
    cases q : (t.place[SetTable.below t.place j]? == some j) with
    | false => rfl
    | true => exact absurd ((has_iff T.ris).mp q) (T.dj j h)
  simp only [c]
  show (if false = true then _ else if SetTable.has t.dummies j = true then SetTable.Slot.dummy else SetTable.Slot.empty) = _
  rw [if_neg Bool.false_ne_true, if_pos ((has_iff T.risD).mpr h)]
theorem TabG.slotE {t : SetTable} {hs : List Int} (T : TabG t hs) {j : Nat} (h : ¬ Occ t j) : t.slot j = .empty := by
  unfold SetTable.slot
  have c : (t.place[SetTable.below t.place j]? == some j) = false := by
    cases q : (t.place[SetTable.below t.place j]? == some j) with
    | false => rfl
    | true => exact absurd (.inl ((has_iff T.ris).mp q)) h
  have c2 : ¬ SetTable.has t.dummies j = true := fun q => h (.inr ((has_iff T.risD).mp q))
  simp only [c]
  show (if false = true then _ else if SetTable.has t.dummies j = true then SetTable.Slot.dummy else SetTable.Slot.empty) = _
  rw [if_neg Bool.false_ne_true, if_neg c2]
theorem TabG.first {t : SetTable} {hs : List Int} (T : TabG t hs) (hl : t.fill ≤ t.mask) (h : Int) : ∃ K, K < 10 * SetTable.turns t.mask ∧ ¬ Occ t (way t.mask h K) ∧ ∀ k, k < K → Occ t (way t.mask h k) := by
  have hlen : (t.place.toList ++ t.dummies.toList).length < t.mask + 1 := by
    rw [List.length_append, Array.length_toList, Array.length_toList]
    unfold SetTable.fill at hl
    omega
  obtain ⟨j, hj, hn⟩ := st_missing _ (t.mask + 1) hlen
  obtain ⟨k, hk, e⟩ := way_hit T.mok h (Nat.le_of_lt_succ hj)
  obtain ⟨K, h1, h2, h3⟩ := st_least (p := fun k => ¬ Occ t (way t.mask h k)) k (by
    show ¬ Occ t (way t.mask h k)
    rw [show way t.mask h k = j from e]
    intro q
    exact hn (List.mem_append.mpr q))
  refine ⟨K, Nat.lt_of_le_of_lt h1 hk, h2, fun k' hk' => ?_⟩
  exact Classical.byContradiction fun c => h3 k' hk' c
/-! ### the probe -/
def onW (m : Nat) (h : Int) (c : Nat) (d : Option Nat) : SetTable.Probe := { nth m (runAt m (SetTable.bits h % (m + 1)) (SetTable.bits h)) c with dummy := d }
theorem onW_j (m : Nat) (h : Int) (c : Nat) (d : Option Nat) : (onW m h c d).j = way m h c := rfl
theorem onW_adv (m : Nat) (h : Int) (c : Nat) (d d' : Option Nat) : adv m { onW m h c d with dummy := d' } = onW m h (c + 1) d' := by
  unfold onW
  rw [nth_succ]
  unfold adv
  dsimp only
  split <;> rfl
theorem onW_adv' (m : Nat) (h : Int) (c : Nat) (d : Option Nat) : adv m (onW m h c d) = onW m h (c + 1) d := onW_adv m h c d d
theorem onW_zero (t : SetTable) (h : Int) : t.probeStart h = onW t.mask h 0 none := rfl
def DumOk (t : SetTable) (h : Int) (K : Nat) (d : Option Nat) : Prop := ∀ x, d = some x → ∃ k, k < K ∧ x = way t.mask h k ∧ x ∈ t.dummies.toList
theorem go_specG {t : SetTable} {hs : List Int} (T : TabG t hs) (hashAt : Nat → Int) (h : Int) {K : Nat} (hK : ¬ Occ t (way t.mask h K)) (hb : ∀ k, k < K → Occ t (way t.mask h k)) :
    ∀ (f c : Nat) (d : Option Nat), c ≤ K → K - c < f → DumOk t h K d →
      (∃ k i d', c ≤ k ∧ k < K ∧ t.place.toList[i]? = some (way t.mask h k) ∧ hashAt i = h ∧ (∀ k' i', c ≤ k' → k' < k → t.place.toList[i']? = some (way t.mask h k') → hashAt i' ≠ h) ∧ DumOk t h K d' ∧
        SetTable.probe.go t hashAt h f (onW t.mask h c d) = some (.candidate (way t.mask h k) i (onW t.mask h (k + 1) d'))) ∨
      ((∀ k' i', c ≤ k' → k' < K → t.place.toList[i']? = some (way t.mask h k') → hashAt i' ≠ h) ∧ ∃ d', DumOk t h K d' ∧ SetTable.probe.go t hashAt h f (onW t.mask h c d) = some (.empty (way t.mask h K) d'))
  | 0, c, d, _, hf, _ => absurd hf (Nat.not_lt_zero _)
  | f + 1, c, d, hc, hf, hd => by
    have unf : SetTable.probe.go t hashAt h (f + 1) (onW t.mask h c d) = (match t.slot (way t.mask h c) with
      | .empty => some (.empty (way t.mask h c) d)
      | .dummy => SetTable.probe.go t hashAt h f (adv t.mask { onW t.mask h c d with dummy := some (way t.mask h c) })
      | .live i => if (hashAt i == h) = true then some (.candidate (way t.mask h c) i (adv t.mask (onW t.mask h c d))) else SetTable.probe.go t hashAt h f (adv t.mask (onW t.mask h c d))) := by
      conv => lhs; unfold SetTable.probe.go
      rfl
    rcases Nat.lt_or_ge c K with hlt | hge
    · rcases hb c hlt with hp | hdm
      · obtain ⟨i, hi⟩ := List.mem_iff_getElem?.mp hp
        have hs := slot_live T.ris hi
        rw [hs] at unf
        dsimp only at unf
        rw [onW_adv'] at unf
        by_cases hh : hashAt i = h
        · refine .inl ⟨c, i, d, Nat.le_refl _, hlt, hi, hh, fun k' i' h1 h2 => absurd h2 (by omega), hd, ?_⟩
          rw [unf, if_pos (beq_iff_eq.mpr hh)]
        · have unf2 : SetTable.probe.go t hashAt h (f + 1) (onW t.mask h c d) = SetTable.probe.go t hashAt h f (onW t.mask h (c + 1) d) := by
            rw [unf, if_neg (by rw [beq_iff_eq]; exact hh)]
          have one : ∀ i', t.place.toList[i']? = some (way t.mask h c) → hashAt i' ≠ h := fun i' hi' => by
            have e1 := slot_live T.ris hi'
            rw [hs] at e1
            injection e1 with e1
            rw [← e1]; exact hh
          rcases go_specG T hashAt h hK hb f (c + 1) d hlt (by omega) hd with ⟨k, i2, d', a1, a2, a3, a4, a5, a6, a7⟩ | ⟨a1, d', a2, a3⟩
          · refine .inl ⟨k, i2, d', by omega, a2, a3, a4, fun k' i' h1 h2 h3 => ?_, a6, by rw [unf2]; exact a7⟩
            rcases Nat.lt_or_ge c k' with z | z
            · exact a5 k' i' z h2 h3
            · have : k' = c := by omega
              subst this; exact one i' h3
          · refine .inr ⟨fun k' i' h1 h2 h3 => ?_, d', a2, by rw [unf2]; exact a3⟩
            rcases Nat.lt_or_ge c k' with z | z
            · exact a1 k' i' z h2 h3
            · have : k' = c := by omega
              subst this; exact one i' h3
      · have hs := T.slotD hdm
        rw [hs] at unf
        dsimp only at unf
        rw [onW_adv] at unf
        have hd2 : DumOk t h K (some (way t.mask h c)) := fun x e => by
          cases e
          exact ⟨c, hlt, rfl, hdm⟩
        have one : ∀ i', t.place.toList[i']? = some (way t.mask h c) → hashAt i' ≠ h := fun i' hi' => absurd (List.mem_of_getElem? hi') (T.dj _ hdm)
        rcases go_specG T hashAt h hK hb f (c + 1) (some (way t.mask h c)) hlt (by omega) hd2 with ⟨k, i2, d', a1, a2, a3, a4, a5, a6, a7⟩ | ⟨a1, d', a2, a3⟩
        · refine .inl ⟨k, i2, d', by omega, a2, a3, a4, fun k' i' h1 h2 h3 => ?_, a6, by rw [unf]; exact a7⟩
          rcases Nat.lt_or_ge c k' with z | z
          · exact a5 k' i' z h2 h3
          · have : k' = c := by omega
            subst this; exact one i' h3
        · refine .inr ⟨fun k' i' h1 h2 h3 => ?_, d', a2, by rw [unf]; exact a3⟩
          rcases Nat.lt_or_ge c k' with z | z
          · exact a1 k' i' z h2 h3
          · have : k' = c := by omega
            subst this; exact one i' h3
    · have ec : c = K := by omega
      subst ec
      refine .inr ⟨fun k' i' h1 h2 => absurd h2 (by omega), d, hd, ?_⟩
      rw [unf, T.slotE hK]
/-! ### one more, one less -/
theorem ris_nodup {l : List Nat} (r : Ris l) : l.Nodup := r.imp fun h => Nat.ne_of_lt h
theorem erase_list {α : Type} (xs : Array α) (p : Nat) : (SetTable.eraseAt xs p).toList = xs.toList.eraseIdx p := by
  unfold SetTable.eraseAt
  rw [Array.toList_append, Array.toList_extract, Array.toList_extract, List.eraseIdx_eq_take_drop_succ]
  simp [List.extract]
  exact List.take_of_length_le (by simp)
theorem TabG.put {t : SetTable} {hs : List Int} (T : TabG t hs) {h : Int} {k : Nat} (hk : way t.mask h k ∉ t.place.toList) (hb : ∀ k', k' < k → Occ t (way t.mask h k')) :
    ∃ t1 p, t.put (way t.mask h k) = (t1, p) ∧ p ≤ hs.length ∧ TabG t1 (hs.take p ++ h :: hs.drop p) ∧ t1.mask = t.mask ∧ t1.led = t.led ∧ t1.plain = t.plain ∧ t1.moves = t.moves ∧
      t1.place.size = t.place.size + 1 ∧ (way t.mask h k ∈ t.dummies.toList → t1.fill = t.fill) ∧ (way t.mask h k ∉ t.dummies.toList → t1.fill = t.fill + 1) := by
  have hjm : way t.mask h k ≤ t.mask := way_in _ _ _
  refine ⟨(t.put (way t.mask h k)).1, (t.put (way t.mask h k)).2, rfl, ?_⟩
  have hpp := put_place t (way t.mask h k)
  generalize hj : way t.mask h k = j at hk hjm hpp ⊢
  have c1 : SetTable.below t.place j ≤ t.place.size := (below_cut T.ris j).1
  have hpl : SetTable.below t.place j ≤ t.place.toList.length := by rw [Array.length_toList]; exact c1
  have hph : SetTable.below t.place j ≤ hs.length := by rw [← T.sz]; exact c1
  have hsz : t.place.toList.length = hs.length := by rw [Array.length_toList]; exact T.sz
  have hnp : t.place[SetTable.below t.place j]? ≠ some j := fun e => hk (List.mem_of_getElem? (by rw [Array.getElem?_toList]; exact e))
  have hsize : (t.put j).1.place.size = t.place.size + 1 := by
    rw [← Array.length_toList, hpp, len_ins _ hpl, Array.length_toList]
  have edm : (t.put j).1.dummies = if SetTable.has t.dummies j = true then SetTable.eraseAt t.dummies (SetTable.below t.dummies j) else t.dummies := rfl
  -- the slots that were left
  have dm : (∀ x, x ∈ (t.put j).1.dummies.toList ↔ x ∈ t.dummies.toList ∧ x ≠ j) ∧ Ris (t.put j).1.dummies.toList ∧ (j ∈ t.dummies.toList → (t.put j).1.dummies.size + 1 = t.dummies.size) ∧ (j ∉ t.dummies.toList → (t.put j).1.dummies.size = t.dummies.size) := by
    by_cases c : SetTable.has t.dummies j = true
    · rw [edm, if_pos c]
      have e : t.dummies.toList[SetTable.below t.dummies j]? = some j := by rw [Array.getElem?_toList]; exact beq_iff_eq.mp c
      have hmem := (has_iff T.risD).mp c
      have hlt : SetTable.below t.dummies j < t.dummies.toList.length := (List.getElem?_eq_some_iff.mp e).1
      have pm := erase_perm t.dummies.toList _ _ e
      have nd : (j :: t.dummies.toList.eraseIdx (SetTable.below t.dummies j)).Nodup := pm.nodup_iff.mpr (ris_nodup T.risD)
      refine ⟨fun x => ?_, ?_, fun _ => ?_, fun q => absurd hmem q⟩
      · rw [erase_list, ← pm.mem_iff, List.mem_cons]
        constructor
        · intro hx
          exact ⟨.inr hx, fun e => (List.nodup_cons.mp nd).1 (e ▸ hx)⟩
        · rintro ⟨hx | hx, hne⟩
          · exact absurd hx hne
          · exact hx
      · rw [erase_list]
        exact List.Pairwise.sublist (List.eraseIdx_sublist _ _) T.risD
      · rw [← Array.length_toList, erase_list, List.length_eraseIdx, if_pos hlt, Array.length_toList]
        rw [Array.length_toList] at hlt
        omega
    · rw [edm, if_neg c]
      have hnm : j ∉ t.dummies.toList := fun q => c ((has_iff T.risD).mpr q)
      exact ⟨fun x => ⟨fun hx => ⟨hx, fun e => hnm (e ▸ hx)⟩, fun hx => hx.1⟩, T.risD, fun q => absurd q hnm, fun _ => rfl⟩
  have occ : ∀ x, Occ t x → Occ (t.put j).1 x := fun x hx => by
    by_cases e : x = j
    · left; rw [hpp]; exact mem_ins.2 (.inl e)
    · rcases hx with hx | hx
      · left; rw [hpp]; exact mem_ins.2 (.inr hx)
      · right; exact (dm.1 x).mpr ⟨hx, e⟩
  refine ⟨hph, ⟨ris_insert T.ris hnp, dm.2.1, ?_, T.mok, fun x hx => ?_, fun x hx => ?_, fun i h' j' h1 h2 => ?_⟩, rfl, rfl, rfl, rfl, hsize, fun q => ?_, fun q => ?_⟩
  · show (t.put j).1.place.size = (hs.take (SetTable.below t.place j) ++ h :: hs.drop (SetTable.below t.place j)).length
    rw [len_ins _ hph, hsize, T.sz]
  · show x ≤ t.mask
    rcases hx with hx | hx
    · rw [hpp] at hx
      rcases mem_ins.1 hx with z | z
      · rw [z]; exact hjm
      · exact T.bd x (.inl z)
    · exact T.bd x (.inr ((dm.1 x).mp hx).1)
  · have h1 := (dm.1 x).mp hx
    rw [hpp]
    intro z
    rcases mem_ins.1 z with z | z
    · exact h1.2 z
    · exact T.dj x h1.1 z
  · have h1 : (hs.take (SetTable.below t.place j) ++ h :: hs.drop (SetTable.below t.place j))[i]? = some h' := h1
    rw [tins_get hs hph] at h1
    rw [hpp, tins_get _ hpl] at h2
    show ∃ k, way t.mask h' k = j' ∧ ∀ k', k' < k → Occ (t.put j).1 (way t.mask h' k')
    by_cases c : i < SetTable.below t.place j
    · rw [if_pos c] at h1 h2
      obtain ⟨k, e, z⟩ := T.reach i h' j' h1 h2
      exact ⟨k, e, fun k' hk' => occ _ (z k' hk')⟩
    · rw [if_neg c] at h1 h2
      by_cases d : i = SetTable.below t.place j
      · rw [if_pos d] at h1 h2
        have e1 : h = h' := Option.some.inj h1
        have e2 : j = j' := Option.some.inj h2
        subst e1; subst e2
        exact ⟨k, hj, fun k' hk' => occ _ (hb k' hk')⟩
      · rw [if_neg d] at h1 h2
        obtain ⟨k, e, z⟩ := T.reach (i - 1) h' j' h1 h2
        exact ⟨k, e, fun k' hk' => occ _ (z k' hk')⟩
  · have := dm.2.2.1 q
    show (t.put j).1.place.size + (t.put j).1.dummies.size = t.place.size + t.dummies.size
    omega
  · have := dm.2.2.2 q
    show (t.put j).1.place.size + (t.put j).1.dummies.size = t.place.size + t.dummies.size + 1
    omega
theorem TabG.drop {t : SetTable} {hs : List Int} (T : TabG t hs) {i j : Nat} (hi : t.place.toList[i]? = some j) :
    TabG (t.drop i) (hs.eraseIdx i) ∧ (t.drop i).mask = t.mask ∧ (t.drop i).led = t.led ∧ (t.drop i).plain = t.plain ∧ (t.drop i).fill = t.fill := by
  have hi' : t.place[i]? = some j := by rw [← Array.getElem?_toList]; exact hi
  have ed : t.drop i = { t with place := SetTable.eraseAt t.place i, dummies := SetTable.insertAt t.dummies (SetTable.below t.dummies j) j } := by
    unfold SetTable.drop
    rw [hi']
  have hjp : j ∈ t.place.toList := List.mem_of_getElem? hi
  have hnd : j ∉ t.dummies.toList := fun q => T.dj j q hjp
  have hlt : i < t.place.toList.length := (List.getElem?_eq_some_iff.mp hi).1
  have pm := erase_perm t.place.toList _ _ hi
  have nd : (j :: t.place.toList.eraseIdx i).Nodup := pm.nodup_iff.mpr (ris_nodup T.ris)
  have dl : (SetTable.insertAt t.dummies (SetTable.below t.dummies j) j).toList = t.dummies.toList.take (SetTable.below t.dummies j) ++ j :: t.dummies.toList.drop (SetTable.below t.dummies j) := SetTable.toList_insertAt _ _ _
  have hbd : SetTable.below t.dummies j ≤ t.dummies.toList.length := by rw [Array.length_toList]; exact (below_cut T.risD j).1
  have occ : ∀ x, Occ t x → Occ (t.drop i) x := fun x hx => by
    rw [ed]
    by_cases e : x = j
    · right; show x ∈ (SetTable.insertAt t.dummies _ j).toList; rw [dl]; exact mem_ins.2 (.inl e)
    · rcases hx with hx | hx
      · left
        show x ∈ (SetTable.eraseAt t.place i).toList
        rw [erase_list]
        rcases List.mem_cons.mp (pm.mem_iff.mpr hx) with z | z
        · exact absurd z e
        · exact z
      · right; show x ∈ (SetTable.insertAt t.dummies _ j).toList; rw [dl]; exact mem_ins.2 (.inr hx)
  have szp : (SetTable.eraseAt t.place i).size + 1 = t.place.size := by
    rw [← Array.length_toList, erase_list, List.length_eraseIdx, if_pos hlt, Array.length_toList]
    rw [Array.length_toList] at hlt
    omega
  have szd : (SetTable.insertAt t.dummies (SetTable.below t.dummies j) j).size = t.dummies.size + 1 := by
    rw [← Array.length_toList, dl, len_ins _ hbd, Array.length_toList]
  have hm : (t.drop i).mask = t.mask := by rw [ed]
  refine ⟨⟨?_, ?_, ?_, by rw [hm]; exact T.mok, fun x hx => ?_, fun x hx => ?_, fun i' h' j' h1 h2 => ?_⟩, hm, by rw [ed], by rw [ed], ?_⟩
  · rw [ed]
    show Ris (SetTable.eraseAt t.place i).toList
    rw [erase_list]
    exact List.Pairwise.sublist (List.eraseIdx_sublist _ _) T.ris
  · rw [ed]
    exact ris_insert T.risD fun e => hnd (List.mem_of_getElem? (by rw [Array.getElem?_toList]; exact e))
  · rw [ed]
    show (SetTable.eraseAt t.place i).size = (hs.eraseIdx i).length
    rw [Array.length_toList] at hlt
    have := T.sz
    rw [List.length_eraseIdx, if_pos (by omega)]
    omega
  · rw [hm]
    rw [ed] at hx
    rcases hx with hx | hx
    · have hx : x ∈ (SetTable.eraseAt t.place i).toList := hx
      rw [erase_list] at hx
      exact T.bd x (.inl (pm.mem_iff.mp (List.mem_cons_of_mem _ hx)))
    · have hx : x ∈ (SetTable.insertAt t.dummies _ j).toList := hx
      rw [dl] at hx
      rcases mem_ins.1 hx with z | z
      · rw [z]; exact T.bd j (.inl hjp)
      · exact T.bd x (.inr z)
  · rw [ed] at hx ⊢
    have hx : x ∈ (SetTable.insertAt t.dummies _ j).toList := hx
    show x ∉ (SetTable.eraseAt t.place i).toList
    rw [dl] at hx
    rw [erase_list]
    intro hp
    rcases mem_ins.1 hx with z | z
    · exact (List.nodup_cons.mp nd).1 (z ▸ hp)
    · exact T.dj x z (pm.mem_iff.mp (List.mem_cons_of_mem _ hp))
  · rw [hm]
    have h2 : (t.place.toList.eraseIdx i)[i']? = some j' := by
      rw [ed] at h2
      have h2 : (SetTable.eraseAt t.place i).toList[i']? = some j' := h2
      rw [erase_list] at h2
      exact h2
    rw [List.getElem?_eraseIdx] at h1 h2
    have : ∃ i0 : Nat, hs[i0]? = some h' ∧ t.place.toList[i0]? = some j' := by
      by_cases c : i' < i
      · rw [if_pos c] at h1 h2; exact ⟨i', h1, h2⟩
      · rw [if_neg c] at h1 h2; exact ⟨i' + 1, h1, h2⟩
    obtain ⟨i0, q1, q2⟩ := this
    obtain ⟨k, e, z⟩ := T.reach i0 h' j' q1 q2
    exact ⟨k, e, fun k' hk' => occ _ (z k' hk')⟩
  · rw [ed]
    show (SetTable.eraseAt t.place i).size + (SetTable.insertAt t.dummies (SetTable.below t.dummies j) j).size = t.place.size + t.dummies.size
    omega
end Ls
/-! LsSetB -/
namespace Ls
open PySem PySem.Spec PyProof.Rows L2
/-! ### a table laid anew -/
theorem fm_same {α β : Type} {f g : α → Option β} : ∀ l : List α, (∀ x ∈ l, g x = f x) → l.filterMap g = l.filterMap f
  | [], _ => rfl
  | x :: l, h => by
    have e := h x List.mem_cons_self
    have ih := fm_same l fun y hy => h y (List.mem_cons_of_mem _ hy)
    rw [List.filterMap_cons, List.filterMap_cons, e, ih]
theorem fm_perm {α β : Type} {f g : α → Option β} {j : α} {b : β} (hf : f j = none) (hg : g j = some b) (ho : ∀ x, x ≠ j → g x = f x) : ∀ l : List α, l.Nodup → j ∈ l → (l.filterMap g).Perm (b :: l.filterMap f)
  | [], _, h => nomatch h
  | x :: l, nd, h => by
    rw [List.nodup_cons] at nd
    rcases List.mem_cons.mp h with e | h
    · subst e
      rw [List.filterMap_cons_some hg, List.filterMap_cons_none hf]
      have : l.filterMap g = l.filterMap f := fm_same l fun x hx => ho x fun e => nd.1 (e ▸ hx)
      rw [this]
    · have hne : x ≠ j := by rintro rfl; exact nd.1 h
      have ih := fm_perm hf hg ho l nd.2 h
      cases c : f x with
      | none => rw [List.filterMap_cons_none (by rw [ho x hne, c]), List.filterMap_cons_none c]; exact ih
      | some y =>
        rw [List.filterMap_cons_some (by rw [ho x hne, c]), List.filterMap_cons_some c]
        exact (ih.cons y).trans (List.Perm.swap _ _ _)
structure Lay (m : Nat) (done : List Int) (owner : Array (Option Nat)) : Prop where
  sz : owner.size = m + 1
  at_ : ∀ j k, j ≤ m → oAt owner j = some k → ∃ h K, done[k]? = some h ∧ way m h K = j ∧ ∀ k', k' < K → oAt owner (way m h k') ≠ none
  pm : ((liveOf m owner).map (·.2)).Perm (List.range done.length)
theorem Lay.init (m : Nat) : Lay m [] (Array.replicate (m + 1) none) := by
  have hs : (Array.replicate (m + 1) (none : Option Nat)).size = m + 1 := by simp
  refine ⟨hs, fun j k hj e => ?_, ?_⟩
  · rw [oAt_init hj] at e; cases e
  · have : liveOf m (Array.replicate (m + 1) none) = [] := by
      rw [List.eq_nil_iff_forall_not_mem]
      rintro ⟨j, k⟩ h
      obtain ⟨hj, e⟩ := (mem_live hs).1 h
      rw [oAt_init hj] at e; cases e
    rw [this]
    exact List.Perm.refl _
theorem Lay.free {m : Nat} (hm : m ∈ masks) {done : List Int} {owner : Array (Option Nat)} (W : Lay m done owner) (hl : done.length ≤ m) (h : Int) :
    ∃ K, SetTable.layClean.free m owner (SetTable.turns m) (SetTable.bits h % (m + 1)) (SetTable.bits h) = some (way m h K) ∧ oAt owner (way m h K) = none ∧ ∀ k, k < K → oAt owner (way m h k) ≠ none := by
  obtain ⟨j, hj, hn⟩ := st_missing ((liveOf m owner).map (·.1)) (m + 1) (by
    have := W.pm.length_eq
    rw [List.length_map, List.length_range] at this
    rw [List.length_map]; omega)
  have hj0 : oAt owner j = none := by
    cases z : oAt owner j with
    | none => rfl
    | some k => exact absurd (List.mem_map.mpr ⟨(j, k), (mem_live W.sz).2 ⟨Nat.le_of_lt_succ hj, z⟩, rfl⟩) hn
  obtain ⟨n, hn2, e⟩ := run_hit hm h (Nat.le_of_lt_succ hj)
  have hw : way m h (off m (SetTable.bits h % (m + 1)) (SetTable.bits h) n) = j := by
    show (nth m (runAt m (SetTable.bits h % (m + 1)) (SetTable.bits h)) (off m (SetTable.bits h % (m + 1)) (SetTable.bits h) n)).j = j
    rw [nth_off, itL_run]
    exact e
  obtain ⟨K, k1, k2, k3⟩ := st_least (p := fun k => oAt owner (way m h k) = none) (off m (SetTable.bits h % (m + 1)) (SetTable.bits h) n) (by
    show oAt owner (way m h (off m (SetTable.bits h % (m + 1)) (SetTable.bits h) n)) = none
    rw [show way m h (off m (SetTable.bits h % (m + 1)) (SetTable.bits h) n) = j from hw]
    exact hj0)
  refine ⟨K, free_spec m owner (SetTable.turns m) n _ _ K (by unfold SetTable.turns; omega) k1 (fun k hk => ?_) ?_, k2, k3⟩
  · have q := k3 k hk
    cases z : oAt owner (nth m (runAt m (SetTable.bits h % (m + 1)) (SetTable.bits h)) k).j with
    | none => exact absurd z q
    | some _ => rfl
  · have q : oAt owner (nth m (runAt m (SetTable.bits h % (m + 1)) (SetTable.bits h)) K).j = none := k2
    rw [q]; rfl
theorem Lay.step {m : Nat} {done : List Int} {owner : Array (Option Nat)} (W : Lay m done owner) {h : Int} {K : Nat} (hf : oAt owner (way m h K) = none) (hb : ∀ k, k < K → oAt owner (way m h k) ≠ none) :
    Lay m (done ++ [h]) (owner.setIfInBounds (way m h K) (some done.length)) := by
  have hjm : way m h K ≤ m := way_in _ _ _
  have hjs : way m h K < owner.size := by rw [W.sz]; exact Nat.lt_succ_of_le hjm
  have hself := oAt_set_self (some done.length) hjs
  have mono : ∀ {i : Nat}, oAt owner i ≠ none → oAt (owner.setIfInBounds (way m h K) (some done.length)) i ≠ none := fun {i} hi => by
    by_cases c : i = way m h K
    · rw [c, hself]; intro z; cases z
    · rw [oAt_set_ne _ c]; exact hi
  refine ⟨by rw [Array.size_setIfInBounds]; exact W.sz, fun j k hj e => ?_, ?_⟩
  · by_cases c : j = way m h K
    · rw [c, hself] at e
      have ek : done.length = k := Option.some.inj e
      refine ⟨h, K, ?_, c.symm, fun k' hk' => mono (hb k' hk')⟩
      rw [← ek, List.getElem?_append_right (Nat.le_refl _), Nat.sub_self]; rfl
    · rw [oAt_set_ne _ c] at e
      obtain ⟨h', K', a1, a2, a3⟩ := W.at_ j k hj e
      refine ⟨h', K', ?_, a2, fun k' hk' => mono (a3 k' hk')⟩
      rw [List.getElem?_append_left (List.getElem?_eq_some_iff.mp a1).1]
      exact a1
  · have p1 : (liveOf m (owner.setIfInBounds (way m h K) (some done.length))).Perm ((way m h K, done.length) :: liveOf m owner) := by
      unfold liveOf
      refine fm_perm (j := way m h K) ?_ ?_ (fun x hx => ?_) (List.range (m + 1)) List.nodup_range (List.mem_range.mpr (Nat.lt_succ_of_le hjm))
      · rw [oAt_none hjs, hf]; rfl
      · rw [oAt_none (by rw [Array.size_setIfInBounds]; exact hjs), hself]; rfl
      · have : (owner.setIfInBounds (way m h K) (some done.length)).getD x none = owner.getD x none := by
          rw [Array.getD_eq_getD_getElem?, Array.getD_eq_getD_getElem?, Array.getElem?_setIfInBounds, if_neg (Ne.symm hx)]
        rw [this]
    have p2 := p1.map (·.2)
    rw [List.map_cons] at p2
    rw [List.length_append, List.length_singleton, List.range_succ]
    exact p2.trans ((W.pm.cons _).trans (List.perm_append_singleton _ _).symm)
theorem lay_fold {m : Nat} (hm : m ∈ masks) : ∀ (rest done : List Int) (owner : Array (Option Nat)), Lay m done owner → done.length + rest.length ≤ m →
    ∃ owner', rest.foldl (stepF m) (some (owner, done.length)) = some (owner', (done ++ rest).length) ∧ Lay m (done ++ rest) owner'
  | [], done, owner, W, _ => ⟨owner, by rw [List.append_nil]; rfl, by rw [List.append_nil]; exact W⟩
  | h :: rest, done, owner, W, hl => by
    rw [List.length_cons] at hl
    obtain ⟨K, e, e2, e3⟩ := W.free hm (by omega) h
    have W' := W.step e2 e3
    have hl' : (done ++ [h]).length = done.length + 1 := by rw [List.length_append]; rfl
    obtain ⟨owner', f, W2⟩ := lay_fold hm rest (done ++ [h]) _ W' (by rw [hl']; omega)
    have ea : done ++ [h] ++ rest = done ++ h :: rest := by rw [List.append_assoc]; rfl
    rw [ea, hl'] at f
    rw [ea] at W2
    refine ⟨owner', ?_, W2⟩
    rw [List.foldl_cons, stepF_some e]
    exact f
theorem laid_ok {m : Nat} (hm : m ∈ masks) {hs : Array Int} (hn : hs.size ≤ m) (finger moves : Nat) (led plain : Bool) :
    ∃ t' order, SetTable.laid m finger moves led plain hs = some (t', order) ∧ order.toList.Perm (List.range hs.size) ∧ TabG t' (order.toList.map fun i => hs.getD i 0) ∧ t'.mask = m ∧ t'.led = led ∧ t'.plain = plain ∧ t'.dummies = #[] ∧ t'.place.size = hs.size := by
  obtain ⟨owner, f, W⟩ := lay_fold hm hs.toList [] _ (Lay.init m) (by rw [Array.length_toList]; show 0 + hs.size ≤ m; omega)
  rw [List.nil_append] at W
  have el : SetTable.layClean m hs = some owner := by
    rw [layClean_eq]
    have f' : hs.toList.foldl (stepF m) (some (Array.replicate (m + 1) none, 0)) = some (owner, ([] ++ hs.toList).length) := f
    rw [f']; rfl
  have hlz : (liveOf m owner).length = hs.size := by
    have := W.pm.length_eq
    rw [List.length_map, List.length_range, Array.length_toList] at this
    exact this
  have ris := ris_live (fun j => owner.getD j none) (List.range (m + 1)) (by
    unfold Ris
    first | exact List.pairwise_lt_range | exact List.pairwise_lt_range _)
  have r1 : Ris ((liveOf m owner).map (·.1)) := ris.1
  have r2 : ∀ x ∈ (liveOf m owner).map (·.1), x ∈ List.range (m + 1) := ris.2
  refine ⟨{ mask := m, place := ((liveOf m owner).map (·.1)).toArray, dummies := #[], finger, led, moves, plain }, ((liveOf m owner).map (·.2)).toArray, ?_, ?_, ⟨r1, List.Pairwise.nil, ?_, hm, fun x hx => ?_, fun x hx => (nomatch hx), fun i h j h1 h2 => ?_⟩, rfl, rfl, rfl, rfl, ?_⟩
  · unfold SetTable.laid
    rw [el]; rfl
  · have := W.pm
    rw [Array.length_toList] at this
    exact this
  · show ((liveOf m owner).map (·.1)).toArray.size = (((liveOf m owner).map (·.2)).map fun i => hs.getD i 0).length
    rw [List.size_toArray, List.length_map, List.length_map, List.length_map]
  · rcases hx with hx | hx
    · exact Nat.le_of_lt_succ (List.mem_range.mp (r2 x hx))
    · exact absurd hx (by simp)
  · have h1' : (((liveOf m owner).map (·.2)).map fun i => hs.getD i 0)[i]? = some h := h1
    have h2' : ((liveOf m owner).map (·.1))[i]? = some j := h2
    rw [List.getElem?_map, List.getElem?_map] at h1'
    rw [List.getElem?_map] at h2'
    cases hq : (liveOf m owner)[i]? with
    | none => rw [hq] at h2'; cases h2'
    | some q =>
      obtain ⟨y, k⟩ := q
      rw [hq] at h1' h2'
      have ej : y = j := Option.some.inj h2'
      have eh : hs.getD k 0 = h := Option.some.inj h1'
      subst ej
      obtain ⟨b1, b2⟩ := (mem_live W.sz).1 (List.mem_of_getElem? hq)
      obtain ⟨h0, K, a1, a2, a3⟩ := W.at_ y k b1 b2
      have e0 : hs.getD k 0 = h0 := by
        rw [Array.getD_eq_getD_getElem?, ← Array.getElem?_toList, a1]; rfl
      have ehh : h0 = h := e0.symm.trans eh
      subst ehh
      refine ⟨K, a2, fun k' hk' => .inl ?_⟩
      show way m h0 k' ∈ (liveOf m owner).map (·.1)
      cases z : oAt owner (way m h0 k') with
      | none => exact absurd z (a3 k' hk')
      | some k2 => exact List.mem_map.mpr ⟨(way m h0 k', k2), (mem_live W.sz).2 ⟨way_in _ _ _, z⟩, rfl⟩
  · show ((liveOf m owner).map (·.1)).toArray.size = hs.size
    rw [List.size_toArray, List.length_map, hlz]
/-- the sizes that come -/
theorem size_two : ∀ n, n ≤ 240 → SetTable.sizeAbove n - 1 ∈ masks ∧ n ≤ SetTable.sizeAbove n - 1 := by
  have h : ((List.range 241).all fun n => decide (SetTable.sizeAbove n - 1 ∈ masks) && decide (n ≤ SetTable.sizeAbove n - 1)) = true := by decide +kernel
  intro n hn
  have := List.all_eq_true.mp h n (List.mem_range.mpr (by omega))
  simpa using this
theorem size_four : ∀ n, n ≤ 120 → SetTable.sizeAbove (SetTable.grown n) - 1 ∈ masks ∧ 4 * n ≤ SetTable.sizeAbove (SetTable.grown n) - 1 := by
  have h : ((List.range 121).all fun n => decide (SetTable.sizeAbove (SetTable.grown n) - 1 ∈ masks) && decide (4 * n ≤ SetTable.sizeAbove (SetTable.grown n) - 1)) = true := by decide +kernel
  intro n hn
  have := List.all_eq_true.mp h n (List.mem_range.mpr (by omega))
  simpa using this
end Ls
/-! LsSetC -/
namespace Ls
open PySem PySem.Spec PyProof.Rows L2
/-- the set at a has the tuples L -/
structure SetG (P : Program) (w : World) (h : Heap) (a : Addr) (L : List (Addr × List Int)) (es : Array (Int × Value)) (ep : Nat) (t : SetTable) : Prop where
  ob : ∃ o, h.get? a = some o ∧ o.ExactSet ∧ o.data = .set es ep t
  rows : es.toList = rowsOf P w L
  tab : TabG t (L.map fun p => thash P w p.2)
  nd : (L.map (·.2)).Nodup
  tup : ∀ p ∈ L, IsT P w h p.2 p.1
  plain : t.plain = true
  led : w.params.followText "set-order" = true ∨ t.led = true
  room : t.fill * 5 < t.mask * 3
  few : L.length ≤ 120
section
variable {P : Program} {w : World} {A : Around} {E : Value → Shared → Prop} {s : Shared} {a : Addr} {L : List (Addr × List Int)} {es : Array (Int × Value)} {ep : Nat} {t : SetTable} {h h' : Heap}
theorem rows_size (hr : es.toList = rowsOf P w L) : es.size = L.length := by
  have h := congrArg List.length hr
  unfold rowsOf at h
  rw [Array.length_toList, List.length_map] at h
  exact h
theorem rows_at (hr : es.toList = rowsOf P w L) {i : Nat} {p : Addr × List Int} (hp : L[i]? = some p) : es[i]? = some (thash P w p.2, Value.ref p.1) := by
  rw [← Array.getElem?_toList, hr]
  unfold rowsOf
  rw [List.getElem?_map, hp]; rfl
theorem fits_of (T : TabG t (L.map fun p => thash P w p.2)) (hr : es.toList = rowsOf P w L) (hf : t.fill ≤ t.mask) : t.fits es.size = true := by
  have h1 := T.sz
  rw [List.length_map] at h1
  unfold SetTable.fits
  rw [rows_size hr, Bool.and_eq_true, beq_iff_eq, decide_eq_true_eq]
  exact ⟨h1, hf⟩
theorem SetG.fits (R : SetG P w h a L es ep t) : t.fits es.size = true := fits_of R.tab R.rows (by have := R.room; omega)
theorem SetG.size (R : SetG P w h a L es ep t) : es.size = L.length := rows_size R.rows
theorem SetG.gw (R : SetG P w h a L es ep t) : ¬ t.gaveWay = true := by
  unfold SetTable.gaveWay
  rw [mask_odd' R.tab.mok]
  decide
theorem SetG.keep (R : SetG P w h a L es ep t) (ha : ∀ o, h.get? a = some o → h'.get? a = some o) (ht : ∀ p ∈ L, IsT P w h' p.2 p.1) : SetG P w h' a L es ep t := by
  obtain ⟨o, ho, r⟩ := R.ob
  exact ⟨⟨o, ha o ho, r⟩, R.rows, R.tab, R.nd, ht, R.plain, R.led, R.room, R.few⟩
/-- the search -/
theorem search_onW (R : SetG P w s.heap a L es ep t) {x : Addr} {k : List Int} (hx : IsT P w s.heap k x) (hu : A.units < cLine) (ad : Bool) {K : Nat} (hKf : K < 10 * SetTable.turns t.mask)
    (hK : ¬ Occ t (way t.mask (thash P w k) K)) (hKb : ∀ c, c < K → Occ t (way t.mask (thash P w k) c)) {Q : SetFound → Shared → Prop}
    (hin : ∀ (i : Nat) p, L[i]? = some p → p.2 = k → Q (.there (if ad = true then none else some i)) s)
    (hout : ∀ K' wd, k ∉ L.map (·.2) → way t.mask (thash P w k) K' ∉ t.place.toList → (∀ c, c < K' → Occ t (way t.mask (thash P w k) c)) → (wd = true → way t.mask (thash P w k) K' ∈ t.dummies.toList) → (wd = false → way t.mask (thash P w k) K' ∉ t.dummies.toList) → Q (.free (way t.mask (thash P w k) K') wd) s) :
    ∀ (f c : Nat) (d : Option Nat) (stand : Option SetTable.Probe), stand.getD (t.probeStart (thash P w k)) = onW t.mask (thash P w k) c d → DumOk t (thash P w k) K d → c ≤ K → K - c < f →
      (∀ (i : Nat) p, L[i]? = some p → p.2 = k → ∃ c', c ≤ c' ∧ c' < K ∧ t.place.toList[i]? = some (way t.mask (thash P w k) c')) →
      wpAny (model P w) A (setSearchFrom a (.ref x) (thash P w k) ad f stand) Q E s
  | 0, c, d, stand, _, _, _, hf, _ => absurd hf (Nat.not_lt_zero _)
  | f + 1, c, d, stand, hst, hd0, hc, hf, hre => by
    obtain ⟨o, ho, hex, hd⟩ := R.ob
    rw [setSearchFrom_succ]
    refine wpAny_bind (wpAny_setState_of ho hd R.fits ?_)
    dsimp only
    refine wp_if_neg R.gw ?_
    try refine wpAny_bind (wpAny_pure ?_)
    have hashAt : ∀ (i : Nat) p, L[i]? = some p → (fun i => (es[i]?.map (·.1)).getD 0) i = thash P w p.2 := fun i p hp => by
      show (es[i]?.map (·.1)).getD 0 = _
      rw [rows_at R.rows hp]; rfl
    rcases go_specG R.tab (fun i => (es[i]?.map (·.1)).getD 0) (thash P w k) hK hKb (10 * SetTable.turns t.mask) c d hc (by omega) hd0 with ⟨q, i, d', hcq, hq, hi, hh, hno, hd', hpr⟩ | ⟨hno, d', hd', hpr⟩
    · have hpr' : t.probe (fun i => (es[i]?.map (·.1)).getD 0) (thash P w k) (stand.getD (t.probeStart (thash P w k))) = some (.candidate (way t.mask (thash P w k) q) i (onW t.mask (thash P w k) (q + 1) d')) := by
        rw [hst]; exact hpr
      rw [hpr']
      dsimp only
      have hil : i < L.length := by
        have h1 : i < t.place.toList.length := (List.getElem?_eq_some_iff.mp hi).1
        have h2 := R.tab.sz
        rw [List.length_map] at h2
        rw [Array.length_toList] at h1
        omega
      have hp : L[i]? = some L[i] := List.getElem?_eq_getElem hil
      generalize hpe : L[i] = p at hp
      have hmem : p ∈ L := List.mem_of_getElem? hp
      have hpt := R.tup p hmem
      have hsl : t.slot (way t.mask (thash P w k) q) = .live i := slot_live R.tab.ris hi
      have rest : wpAny (model P w) A (searchRest a (.ref x) (thash P w k) ad f es t (way t.mask (thash P w k) q) i (onW t.mask (thash P w k) (q + 1) d')) Q E s := by
        unfold searchRest
        rw [rows_at R.rows hp]
        dsimp only
        refine wpAny_bind (wpAny_holding (wpAny_eqBool_tuple hu hpt hx ?_))
        refine wpAny_bind (wpAny_setState_of ho hd R.fits ?_)
        dsimp only
        by_cases hkk : p.2 = k
        · have hq0 := hin i p hp hkk
          cases had : ad with
          | true =>
            rw [had] at hq0
            refine wp_if_pos (by simp [hkk]) ?_
            exact wpAny_pure hq0
          | false =>
            rw [had] at hq0
            refine wp_if_neg (by simp) ?_
            try refine wpAny_bind (wpAny_pure ?_)
            rw [sameMem]
            dsimp only
            simp only [if_true, hsl, rows_at R.rows hp]
            refine wpAny_bind (wpAny_isSame_ref_self (wpAny_bind (wpAny_pure ?_)))
            simp only [if_true]
            refine wp_if_pos (by simp [hkk]) ?_
            exact wpAny_pure hq0
        · refine wp_if_neg (by simp [hkk]) ?_
          try refine wpAny_bind (wpAny_pure ?_)
          rw [sameMem]
          dsimp only
          simp only [if_true, hsl, rows_at R.rows hp]
          refine wpAny_bind (wpAny_isSame_ref_self (wpAny_bind (wpAny_pure ?_)))
          simp only [if_true]
          refine wp_if_neg (by simp [hkk]) ?_
          refine search_onW R hx hu ad hKf hK hKb hin hout f (q + 1) d' _ rfl hd' hq (by omega) fun i0 p0 h0 hk0 => ?_
          obtain ⟨c', a1, a2, a3⟩ := hre i0 p0 h0 hk0
          refine ⟨c', ?_, a2, a3⟩
          rcases Nat.lt_or_ge c' q with z | z
          · exact absurd ((hashAt i0 p0 h0).trans (congrArg (thash P w) hk0)) (hno c' i0 a1 z a3)
          · rcases Nat.lt_or_ge q c' with y | y
            · exact y
            · exfalso
              have ec : c' = q := Nat.le_antisymm y z
              rw [ec] at a3
              have s0 := slot_live R.tab.ris a3
              rw [hsl] at s0
              injection s0 with s0
              rw [← s0, hp] at h0
              exact hkk ((congrArg Prod.snd (Option.some.inj h0)).trans hk0)
      by_cases hl : t.led = true
      · refine wp_if_neg (by simp [hl]) ?_
        try refine wpAny_bind (wpAny_pure ?_)
        exact rest
      · refine wp_if_pos (by simp [hl]) ?_
        refine wpAny_bind (seen_tup hx (fun y hy => ?_) ?_)
        · obtain ⟨e, he, ee⟩ := List.mem_map.mp hy
          have he1 : e ∈ es ∧ e.1 = thash P w k := by simpa using he
          have he2 : e ∈ es.toList := by simpa using he1.1
          rw [R.rows] at he2
          obtain ⟨p2, hp2, e2⟩ := List.mem_map.mp he2
          refine ⟨p2.2, p2.1, ?_, R.tup p2 hp2⟩
          rw [← ee, ← e2]
        · refine wp_if_neg (by decide) ?_
          try refine wpAny_bind (wpAny_pure ?_)
          exact rest
    · have hpr' : t.probe (fun i => (es[i]?.map (·.1)).getD 0) (thash P w k) (stand.getD (t.probeStart (thash P w k))) = some (.empty (way t.mask (thash P w k) K) d') := by
        rw [hst]; exact hpr
      rw [hpr']
      dsimp only
      have hnk : k ∉ L.map (·.2) := fun hm => by
        obtain ⟨p0, h0, hk0⟩ := List.mem_map.mp hm
        obtain ⟨i0, hi0, e0⟩ := List.getElem_of_mem h0
        have h00 : L[i0]? = some p0 := by rw [List.getElem?_eq_getElem hi0, e0]
        obtain ⟨c', a1, a2, a3⟩ := hre i0 p0 h00 hk0
        exact hno c' i0 a1 a2 a3 ((hashAt i0 p0 h00).trans (congrArg (thash P w) hk0))
      cases d' with
      | none =>
        dsimp only
        exact wpAny_pure (hout K false hnk (fun z => hK (.inl z)) hKb (fun z => (nomatch z)) fun _ z => hK (.inr z))
      | some x0 =>
        dsimp only
        obtain ⟨k0, hk0, e0, hdm⟩ := hd' x0 rfl
        have hsd := R.tab.slotD hdm
        refine wp_if_neg (by rw [hsd]; simp) ?_
        try refine wpAny_bind (wpAny_pure ?_)
        subst e0
        exact wpAny_pure (hout k0 true hnk (R.tab.dj _ hdm) (fun c hc => hKb c (by omega)) (fun _ => hdm) (fun z => (nomatch z)))
theorem searchG (R : SetG P w s.heap a L es ep t) {x : Addr} {k : List Int} (hx : IsT P w s.heap k x) (hu : A.units < cLine) (ad : Bool) {Q : SetFound → Shared → Prop}
    (hin : ∀ (i : Nat) p, L[i]? = some p → p.2 = k → Q (.there (if ad = true then none else some i)) s)
    (hout : ∀ K' wd, k ∉ L.map (·.2) → way t.mask (thash P w k) K' ∉ t.place.toList → (∀ c, c < K' → Occ t (way t.mask (thash P w k) c)) → (wd = true → way t.mask (thash P w k) K' ∈ t.dummies.toList) → (wd = false → way t.mask (thash P w k) K' ∉ t.dummies.toList) → Q (.free (way t.mask (thash P w k) K') wd) s) :
    wpAny (model P w) A (setSearch a (.ref x) (thash P w k) ad) Q E s := by
  obtain ⟨K, hKf, hK, hKb⟩ := R.tab.first (by have := R.room; omega) (thash P w k)
  have hbig : K < 100000 := by
    have := mask_le R.tab.mok
    unfold SetTable.turns at hKf
    omega
  unfold setSearch
  refine search_onW R hx hu ad hKf hK hKb hin hout 100000 0 none none rfl (fun x e => (nomatch e)) (Nat.zero_le _) (by omega) fun i p hp hk => ?_
  have hi : (L.map fun p => thash P w p.2)[i]? = some (thash P w k) := by rw [List.getElem?_map, hp, ← hk]; rfl
  have hil : i < t.place.toList.length := by
    have h1 : i < L.length := (List.getElem?_eq_some_iff.mp hp).1
    have h2 := R.tab.sz
    rw [List.length_map] at h2
    rw [Array.length_toList]; omega
  have hj := List.getElem?_eq_getElem hil
  obtain ⟨c, e, hb⟩ := R.tab.reach i _ _ hi hj
  refine ⟨c, Nat.zero_le _, ?_, by rw [hj, e]⟩
  rcases Nat.lt_trichotomy c K with z | z | z
  · exact z
  · rw [z] at e
    exact absurd (.inl (by rw [e]; exact List.mem_of_getElem? hj)) hK
  · exact absurd (hb K z) hK
theorem findG (R : SetG P w s.heap a L es ep t) {x : Addr} {k : List Int} (hx : IsT P w s.heap k x) (hu : A.units < cLine) {Q : Option Nat → Shared → Prop}
    (hin : ∀ (i : Nat) p, L[i]? = some p → p.2 = k → Q (some i) s) (hout : k ∉ L.map (·.2) → Q none s) : wpAny (model P w) A (setFind a (.ref x) (thash P w k)) Q E s := by
  obtain ⟨o, ho, hex, hd⟩ := R.ob
  unfold setFind
  rw [show (100000 : Nat) = 99999 + 1 from rfl]
  unfold setFindIn
  refine wpAny_bind (wpAny_setState_of ho hd R.fits ?_)
  dsimp only
  refine wp_if_neg (by simp [byScan, Value.scannable]) ?_
  try refine wpAny_bind (wpAny_pure ?_)
  refine wpAny_bind (searchG R hx hu false (fun i p hp hk => ?_) fun K' wd hn _ _ _ _ => ?_)
  · exact wpAny_pure (hin i p hp hk)
  · exact wpAny_pure (hout hn)
end
end Ls
/-! LsSetD -/
namespace Ls
open PySem PySem.Spec PyProof.Rows L2
theorem erase_map {α β : Type} (f : α → β) : ∀ (l : List α) (i : Nat), (l.map f).eraseIdx i = (l.eraseIdx i).map f
  | [], _ => rfl
  | _ :: _, 0 => rfl
  | x :: l, i + 1 => congrArg (List.cons (f x)) (erase_map f l i)
section
variable {P : Program} {w : World} {A : Around} {E : Value → Shared → Prop} {s : Shared} {a : Addr} {L : List (Addr × List Int)} {es : Array (Int × Value)} {ep : Nat} {t : SetTable} {h h' : Heap}
/-- the same table, whatever else is noted with it -/
theorem TabG.of_eq {t t' : SetTable} {hs : List Int} (T : TabG t hs) (h1 : t'.place = t.place) (h2 : t'.dummies = t.dummies) (h3 : t'.mask = t.mask) : TabG t' hs := by
  obtain ⟨m', pl', dm', f', ld', mv', pn'⟩ := t'
  obtain ⟨m, pl, dm, f, ld, mv, pn⟩ := t
  simp only at h1 h2 h3
  subst h1; subst h2; subst h3
  exact ⟨T.ris, T.risD, T.sz, T.mok, T.bd, T.dj, T.reach⟩
/-- what is stored is the set then -/
theorem stored {o : Obj} {es' : Array (Int × Value)} {t' : SetTable} {L' : List (Addr × List Int)} (ho : h.get? a = some o) (hex : o.ExactSet) (hd : o.data = .set es ep t) (rows : es'.toList = rowsOf P w L') (tab : TabG t' (L'.map fun p => thash P w p.2))
    (nd : (L'.map (·.2)).Nodup) (tup : ∀ p ∈ L', IsT P w h p.2 p.1) (plain : t'.plain = true) (led : w.params.followText "set-order" = true ∨ t'.led = true) (room : t'.fill * 5 < t'.mask * 3) (few : L'.length ≤ 120) :
    SetG P w (h.update a (Obj.putSet es' t')) a L' es' (ep + 1) t' :=
  ⟨⟨_, store_at ho hd, ⟨hex.1, hex.2.1, hex.2.2⟩, rfl⟩, rows, tab, nd, fun p hp => isT_same (tup p hp) ho hd (Heap.SameBut.update ..), plain, led, room, few⟩
/-- laid anew -/
theorem relayG {o : Obj} (ho : s.heap.get? a = some o) (hex : o.ExactSet) (hd : o.data = .set es ep t) (hrows : es.toList = rowsOf P w L) (hfits : t.fits es.size = true)
    (nd : (L.map (·.2)).Nodup) (tup : ∀ p ∈ L, IsT P w s.heap p.2 p.1) (pl : t.plain = true) (ld : w.params.followText "set-order" = true ∨ t.led = true) (few : L.length ≤ 120) {wanted : Nat}
    (hM : SetTable.sizeAbove wanted - 1 ∈ masks) (hn : L.length * 5 < (SetTable.sizeAbove wanted - 1) * 3) {Q : Unit → Shared → Prop}
    (hQ : ∀ h' L' es' ep' t', Heap.SameBut a s.heap h' → SetG P w h' a L' es' ep' t' → L'.Perm L → t'.dummies = #[] → t'.mask = SetTable.sizeAbove wanted - 1 → Q () { s with heap := h' }) : wpAny (model P w) A (setRelay a wanted) Q E s := by
  have hsl := rows_size hrows
  obtain ⟨t', order, e, hp, T, em, el, ep', ed, es'⟩ := laid_ok hM (hs := es.map (·.1)) (by rw [Array.size_map, hsl]; omega) t.finger (t.movedTo (SetTable.sizeAbove wanted - 1)) t.led t.plain
  rw [Array.size_map, hsl] at hp
  obtain ⟨L2, r1, r2, r3⟩ := order_rows L es order hrows hp
  rw [← r3] at T
  have hs2 : (order.filterMap (es[·]?)).size = es.size := by rw [rows_size r1, r2.length_eq, hsl]
  have hm := mask_le hM
  rw [setRelay_eq]
  refine wpAny_bind (wpAny_setState_of ho hd hfits ?_)
  dsimp only
  refine wp_if_neg (by rw [sizeLine_eq]; omega) ?_
  try refine wpAny_bind (wpAny_pure ?_)
  have er : t.relaid (es.map (·.1)) wanted = some (t', order) := e
  rw [er]
  dsimp only
  refine wpAny_bind ?_
  refine wp_if_neg (by rw [hs2]; simp) ?_
  try refine wpAny_bind (wpAny_pure ?_)
  refine wpAny_pure ?_
  dsimp only
  refine wpAny_storeSet_of ho hd ?_ (by rw [hs2, hsl, sizeLine_eq]; omega)
  refine hQ _ L2 _ (ep + 1) t' (Heap.SameBut.update ..) (stored ho hex hd r1 T ((r2.map (·.2)).nodup_iff.mpr nd) (fun p hpm => tup p (r2.mem_iff.mp hpm)) (by rw [ep']; exact pl) (by rw [el]; exact ld) ?_ (by rw [r2.length_eq]; exact few)) r2 ed em
  unfold SetTable.fill
  rw [ed, em, es', Array.size_map, hsl]
  exact hn
/-- one more -/
theorem addG (R : SetG P w s.heap a L es ep t) {x : Addr} {k : List Int} (hx : IsT P w s.heap k x) (hu : A.units < cLine) (hfew : L.length + 1 ≤ 120) {Q : Bool → Shared → Prop}
    (hQ : ∀ b h' L' es' ep' t', Heap.SameBut a s.heap h' → SetG P w h' a L' es' ep' t' → (k ∈ L.map (·.2) → L' = L) → (k ∉ L.map (·.2) → L'.Perm ((x, k) :: L)) → Q b { s with heap := h' }) :
    wpAny (model P w) A (setAddHashed a (.ref x) (thash P w k)) Q E s := by
  obtain ⟨o, ho, hex, hd⟩ := R.ob
  have hsl := R.size
  have hroom := R.room
  unfold setAddHashed
  refine wpAny_holding ?_
  rw [show (100000 : Nat) = 99999 + 1 from rfl, setAddHashedIn_succ]
  refine wpAny_bind (wpAny_setState_of ho hd R.fits ?_)
  dsimp only
  refine wp_if_neg (by simp [byScan, Value.scannable]) ?_
  try refine wpAny_bind (wpAny_pure ?_)
  refine wpAny_bind (searchG R hx hu true (fun i p hp hk => ?_) fun K wd hm hK hb hwd hwd' => ?_)
  · dsimp only
    have hmem : k ∈ L.map (·.2) := List.mem_map.mpr ⟨p, List.mem_of_getElem? hp, hk⟩
    exact wpAny_pure (hQ false s.heap L es ep t (Heap.SameBut.refl a s.heap) R (fun _ => rfl) fun z => absurd hmem z)
  · dsimp only
    refine wpAny_bind (wpAny_setState_of ho hd R.fits ?_)
    dsimp only
    obtain ⟨t1, p, ept, q2, q3, q4, q5, q6, q7, q8, q9, q10⟩ := R.tab.put hK hb
    rw [ept]
    dsimp only
    have hp1 : t1.plain = true := by rw [q6]; exact R.plain
    first
      | (refine wpAny_bind ?_; refine wp_if_pos hp1 ?_; refine hashBy_tup hx ?_)
      | refine wp_if_pos hp1 (wpAny_bind (hashBy_tup hx ?_))
    simp only [if_true]
    have hin : (SetTable.insertAt es p (thash P w k, Value.ref x)).toList = rowsOf P w (L.take p ++ (x, k) :: L.drop p) := by
      rw [SetTable.toList_insertAt, rows_put, R.rows]
    have pm := put_perm L p (x, k)
    have hlen : (L.take p ++ (x, k) :: L.drop p).length = L.length + 1 := pm.length_eq
    have hhs : (L.take p ++ (x, k) :: L.drop p).map (fun p => thash P w p.2) = (L.map fun p => thash P w p.2).take p ++ thash P w k :: (L.map fun p => thash P w p.2).drop p := by
      rw [List.map_append, List.map_cons, List.map_take, List.map_drop]
    rw [← hhs] at q3
    have nd1 : ((L.take p ++ (x, k) :: L.drop p).map (·.2)).Nodup := by
      refine (pm.map (·.2)).nodup_iff.mpr ?_
      rw [List.map_cons]
      exact List.nodup_cons.mpr ⟨hm, R.nd⟩
    have hes : (SetTable.insertAt es p (thash P w k, Value.ref x)).size = L.length + 1 := by rw [rows_size hin, hlen]
    generalize SetTable.insertAt es p (thash P w k, Value.ref x) = es1 at hin hes ⊢
    have tup1 : ∀ p' ∈ L.take p ++ (x, k) :: L.drop p, IsT P w s.heap p'.2 p'.1 := fun p' hp => by
      rcases List.mem_cons.mp (pm.mem_iff.mp hp) with e | hp
      · rw [e]; exact hx
      · exact R.tup p' hp
    have ld1 : w.params.followText "set-order" = true ∨ t1.led = true := by rw [q5]; exact R.led
    generalize L.take p ++ (x, k) :: L.drop p = L1 at pm hlen q3 nd1 hin tup1
    refine wpAny_bind (wpAny_storeSet_of ho hd ?_ (by rw [hes, sizeLine_eq]; omega))
    have sb : Heap.SameBut a s.heap (s.heap.update a (Obj.putSet es1 t1)) := Heap.SameBut.update ..
    by_cases hf : (!wd && t1.tooFull) = true
    · rw [Bool.and_eq_true] at hf
      have hwf : wd = false := by
        cases wd with
        | false => rfl
        | true => exact absurd hf.1 (by decide)
      have hfill := q10 (hwd' hwf)
      first
        | (refine wpAny_bind ?_; refine wp_if_pos (by simp [hf.2, hwf]) ?_)
        | (refine wp_if_pos (by simp [hf.2, hwf]) ?_; refine wpAny_bind ?_)
      rw [hsl]
      have ho1 := store_at (es' := es1) (t' := t1) ho hd
      have hg := size_four (L.length + 1) (by omega)
      have hex1 : ({ o with data := .set es1 (ep + 1) t1 } : Obj).ExactSet := ⟨hex.1, hex.2.1, hex.2.2⟩
      refine relayG (s := { s with heap := s.heap.update a (Obj.putSet es1 t1) }) ho1 hex1 rfl hin (fits_of q3 hin ?_) nd1 (fun p' hp' => isT_same (tup1 p' hp') ho hd sb) hp1 ld1 (by rw [hlen]; exact hfew) hg.1 (by rw [hlen]; omega) ?_
      · have := mask_le R.tab.mok
        rw [q4, hfill]; omega
      · intro h2 L2 es2 ep2 t2 sb2 R2 pm2 _ _
        refine wpAny_pure (hQ true h2 L2 es2 ep2 t2 (sb.trans sb2) R2 (fun z => absurd z hm) fun _ => pm2.trans pm)
    · first
        | refine wp_if_neg hf ?_
        | (refine wpAny_bind ?_; refine wp_if_neg hf ?_; refine wpAny_pure ?_)
      refine wpAny_pure (hQ true _ L1 es1 (ep + 1) t1 sb (stored ho hex hd hin q3 nd1 tup1 hp1 ld1 ?_ (by rw [hlen]; exact hfew)) (fun z => absurd z hm) fun _ => pm)
      cases wd with
      | true => rw [q9 (hwd rfl), q4]; exact hroom
      | false =>
        have h2 : ¬ t1.tooFull = true := fun z => hf (by rw [z]; rfl)
        unfold SetTable.tooFull at h2
        rw [decide_eq_true_eq] at h2
        omega
/-- one less -/
theorem discardG (R : SetG P w s.heap a L es ep t) {x : Addr} {k : List Int} (hx : IsT P w s.heap k x) (hu : A.units < cLine) {Q : Bool → Shared → Prop}
    (hno : k ∉ L.map (·.2) → Q false s)
    (hyes : ∀ (i : Nat) p h' es' ep' t', L[i]? = some p → p.2 = k → Heap.SameBut a s.heap h' → SetG P w h' a (L.eraseIdx i) es' ep' t' → Q true { s with heap := h' }) :
    wpAny (model P w) A (setDiscardHashed a (.ref x) (thash P w k)) Q E s := by
  obtain ⟨o, ho, hex, hd⟩ := R.ob
  have hsl := R.size
  unfold setDiscardHashed
  refine wpAny_bind (findG R hx hu (fun i p hp hk => ?_) fun hn => ?_)
  · dsimp only
    refine wpAny_bind (wpAny_setState_of ho hd R.fits ?_)
    dsimp only
    have hil : i < L.length := (List.getElem?_eq_some_iff.mp hp).1
    have hpl : i < t.place.toList.length := by
      have h2 := R.tab.sz
      rw [List.length_map] at h2
      rw [Array.length_toList]; omega
    obtain ⟨T1, m1, l1, pl1, f1⟩ := R.tab.drop (List.getElem?_eq_getElem hpl)
    have erm : (L.map fun p => thash P w p.2).eraseIdx i = (L.eraseIdx i).map fun p => thash P w p.2 := erase_map _ L i
    rw [erm] at T1
    have er : (SetTable.eraseAt es i).toList = rowsOf P w (L.eraseIdx i) := by
      rw [erase_list, R.rows]
      unfold rowsOf
      exact erase_map _ L i
    have hlen : (L.eraseIdx i).length ≤ L.length := (List.eraseIdx_sublist L i).length_le
    have few := R.few
    refine wpAny_bind (wpAny_storeSet_of ho hd ?_ (by rw [rows_size er, sizeLine_eq]; omega))
    refine wpAny_bind (wpAny_point ?_)
    refine wpAny_pure (hyes i p _ _ (ep + 1) _ hp hk (Heap.SameBut.update ..) (stored ho hex hd er T1 ?_ (fun q hq => R.tup q ((List.eraseIdx_sublist L i).mem hq)) (by rw [pl1]; exact R.plain) (by rw [l1]; exact R.led) (by rw [f1, m1]; exact R.room) (by omega)))
    exact List.Pairwise.sublist ((List.eraseIdx_sublist L i).map _) R.nd
  · dsimp only
    exact wpAny_pure (hno hn)
/-- room for more -/
theorem roomG (R : SetG P w s.heap a L es ep t) {more : Nat} (hfew : L.length + more ≤ 120) {Q : Unit → Shared → Prop}
    (hQ : ∀ h' L' es' ep' t', Heap.SameBut a s.heap h' → SetG P w h' a L' es' ep' t' → L'.Perm L → (t'.fill + more) * 5 < t'.mask * 3 → (t' = t ∨ t'.dummies = #[]) → Q () { s with heap := h' }) : wpAny (model P w) A (setRoomFor a more) Q E s := by
  obtain ⟨o, ho, hex, hd⟩ := R.ob
  unfold setRoomFor
  refine wpAny_bind (wpAny_setState_of ho hd R.fits ?_)
  dsimp only
  have hsz : t.place.size = L.length := by
    have := R.tab.sz
    rw [List.length_map] at this
    exact this
  by_cases c : (t.fill + more) * 5 ≥ t.mask * 3
  · have e : t.roomFor more = some ((t.place.size + more) * 2) := by unfold SetTable.roomFor; rw [if_pos c]
    rw [e]
    dsimp only
    have hg := size_two ((t.place.size + more) * 2) (by omega)
    have hm := mask_le hg.1
    refine relayG ho hex hd R.rows R.fits R.nd R.tup R.plain R.led R.few hg.1 (by omega) fun h' L' es' ep' t' sb R' pm ed em => hQ h' L' es' ep' t' sb R' pm ?_ (.inr ed)
    have hz' : t'.place.size = L.length := by
      have := R'.tab.sz
      rw [List.length_map, pm.length_eq] at this
      exact this
    unfold SetTable.fill
    rw [ed, em, hz']
    show (L.length + 0 + more) * 5 < _
    omega
  · have e : t.roomFor more = none := by unfold SetTable.roomFor; rw [if_neg c]
    rw [e]
    dsimp only
    exact wpAny_pure (hQ s.heap L es ep t (Heap.SameBut.refl a s.heap) R (List.Perm.refl _) (by omega) (.inl rfl))
end
end Ls
/-! LsSetE -/
namespace Ls
open PySem PySem.Spec PyProof.Rows L2
theorem perm_map_inv {α β : Type} {f : α → β} {l k : List β} (h : l.Perm k) : ∀ m : List α, k = m.map f → ∃ m' : List α, m'.Perm m ∧ l = m'.map f := by
  induction h with
  | nil =>
    intro m e
    cases m with
    | nil => exact ⟨[], List.Perm.refl _, rfl⟩
    | cons _ _ => cases e
  | cons x _ ih =>
    intro m e
    cases m with
    | nil => cases e
    | cons y m =>
      injection e with e1 e2
      obtain ⟨m', h1, h2⟩ := ih m e2
      exact ⟨y :: m', h1.cons y, by rw [e1, h2]; rfl⟩
  | swap x y l =>
    intro m e
    match m, e with
    | p :: q :: m, e =>
      injection e with e1 e2
      injection e2 with e2 e3
      exact ⟨q :: p :: m, List.Perm.swap _ _ _, by rw [e1, e2, e3]; rfl⟩
  | trans _ _ ih1 ih2 =>
    intro m e
    obtain ⟨m2, h1, h2⟩ := ih2 m e
    obtain ⟨m3, h3, h4⟩ := ih1 m2 h2
    exact ⟨m3, h3.trans h1, h4⟩
section
variable {P : Program} {w : World} {A : Around} {E : Value → Shared → Prop} {s : Shared} {a : Addr} {L : List (Addr × List Int)} {es : Array (Int × Value)} {ep : Nat} {t : SetTable} {h h' : Heap}
theorem walkG (R : SetG P w s.heap a L es ep t) (others : List Addr) (f : Option Addr) {Q : Array (Int × Value) → Shared → Prop} (hQ : ∀ out : Array (Int × Value), (∃ L', L'.Perm L ∧ out.toList = rowsOf P w L') → Q out s) : wpAny (model P w) A (setWalkUnseen a others f) Q E s := by
  obtain ⟨o, ho, hex, hd⟩ := R.ob
  unfold setWalkUnseen
  refine wpAny_bind (wpAny_setState_of ho hd R.fits ?_)
  dsimp only
  refine wpAny_bind (wpAny_byText ?_)
  have hpl := R.plain
  refine wp_if_pos ?_ ?_
  · rcases R.led with c | c
    · simp [c]
    · simp [c, hpl]
  · refine wpAny_bind ?_
    refine wpAny_setState_of ho hd R.fits ?_
    dsimp only
    refine wpAny_bind (wpAny_byText ?_)
    cases c : w.params.followText "set-order" with
    | true =>
      refine wp_if_pos rfl ?_
      refine wpAny_bind (wpAny_askSetting (wpAny_pure (hQ _ ?_)))
      have pm := pick_perm (w.params.setOrder a ep) es
      rw [R.rows] at pm
      obtain ⟨L', h1, h2⟩ := perm_map_inv pm L rfl
      exact ⟨L', h1, h2⟩
    | false =>
      refine wp_if_neg Bool.false_ne_true ?_
      refine wp_if_neg (by show ¬ (!t.plain && decide (es.size > 1)) = true; rw [hpl]; simp) ?_
      have hl : t.led = true := by
        rcases R.led with z | z
        · rw [c] at z; cases z
        · exact z
      refine wpAny_bind ?_
      show wpAny _ _ (if (!t.led && decide (es.size > 1)) = true then _ else pure ()) _ _ _
      refine wp_if_neg (by rw [hl]; simp) (wpAny_pure (wpAny_pure (hQ es ⟨L, List.Perm.refl _, R.rows⟩)))
/-- what the set s has got of the set o -/
structure Merged (Ls Lo L' : List (Addr × List Int)) : Prop where
  sub : ∀ p ∈ L', p ∈ Ls ∨ p ∈ Lo
  all : ∀ k, k ∈ L'.map (·.2) ↔ k ∈ Ls.map (·.2) ∨ k ∈ Lo.map (·.2)
theorem Merged.step {Lx done Lc L' : List (Addr × List Int)} {p : Addr × List Int} (M : Merged Lx done Lc) (h1 : p.2 ∈ Lc.map (·.2) → L' = Lc) (h2 : p.2 ∉ Lc.map (·.2) → L'.Perm (p :: Lc)) : Merged Lx (done ++ [p]) L' ∧ L'.length ≤ Lc.length + 1 := by
  by_cases c : p.2 ∈ Lc.map (·.2)
  · rw [h1 c]
    refine ⟨⟨fun q hq => ?_, fun k => ?_⟩, Nat.le_succ _⟩
    · rcases M.sub q hq with z | z
      · exact .inl z
      · exact .inr (List.mem_append_left _ z)
    · rw [M.all, List.map_append, List.mem_append]
      constructor
      · rintro (z | z)
        · exact .inl z
        · exact .inr (.inl z)
      · rintro (z | z | z)
        · exact .inl z
        · exact .inr z
        · have e : k = p.2 := by simpa using z
          rw [e, ← M.all]; exact c
  · have pm := h2 c
    refine ⟨⟨fun q hq => ?_, fun k => ?_⟩, by rw [pm.length_eq]; exact Nat.le_refl _⟩
    · rcases List.mem_cons.mp (pm.mem_iff.mp hq) with z | z
      · exact .inr (List.mem_append_right _ (by rw [z]; simp))
      · rcases M.sub q z with y | y
        · exact .inl y
        · exact .inr (List.mem_append_left _ y)
    · rw [(pm.map (·.2)).mem_iff, List.map_cons, List.mem_cons, M.all, List.map_append, List.mem_append]
      constructor
      · rintro (z | z | z)
        · exact .inr (.inr (by rw [z]; simp))
        · exact .inl z
        · exact .inr (.inl z)
      · rintro (z | z | z)
        · exact .inr (.inl z)
        · exact .inr (.inr z)
        · exact .inl (by simpa using z)
theorem Merged.nil (Lx : List (Addr × List Int)) : Merged Lx [] Lx := ⟨fun p hp => .inl hp, fun k => by simp⟩
theorem Merged.perm {Lx Lo Lo' L : List (Addr × List Int)} (M : Merged Lx Lo' L) (pm : Lo'.Perm Lo) : Merged Lx Lo L :=
  ⟨fun p hp => (M.sub p hp).imp id pm.mem_iff.mp, fun k => by rw [M.all, (pm.map (·.2)).mem_iff]⟩
theorem Merged.permX {Lx Lx' Lo L : List (Addr × List Int)} (M : Merged Lx' Lo L) (pm : Lx'.Perm Lx) : Merged Lx Lo L :=
  ⟨fun p hp => (M.sub p hp).imp pm.mem_iff.mp id, fun k => by rw [M.all, (pm.map (·.2)).mem_iff]⟩
theorem Merged.of_nil {Lo L : List (Addr × List Int)} (pm : L.Perm Lo) : Merged [] Lo L :=
  ⟨fun p hp => .inr (pm.mem_iff.mp hp), fun k => by rw [(pm.map (·.2)).mem_iff]; simp⟩
theorem setMerge_eq (x o : Addr) (each : Sem Unit) : setMerge x o each = (do
    if x == o then return
    let (eo, epoch, to) ← setState o
    if eo.isEmpty then return
    setRoomFor x eo.size
    let (_, _, ts) ← setState x
    match ts.road to with
    | .slotForSlot => storeSet x eo { to with finger := ts.finger, led := ts.led && to.led, moves := ts.moves, plain := ts.plain && to.plain }
    | .clean =>
      let (es, t) ← (do
        let some (t, order) := SetTable.laid ts.mask ts.finger ts.moves (led := ts.led && to.led) (plain := ts.plain && to.plain) (eo.map (·.1)) | unsupported "internal:set-table-without-room"
        let es' := order.filterMap (eo[·]?)
        if es'.size != eo.size then unsupported "internal:set-table-lost-an-element"
        pure (es', t) : Sem (Array (Int × Value) × SetTable))
      storeSet x es t
    | .oneByOne =>
      for (h, y) in ← setWalkUnseen o [x] (some x) do
        let _ ← holding [y] (setAddHashed x y h)
        each
        if (← setState o).2.1 != epoch then unsupported "set.changed-during-merge") := by rfl
theorem mergeG {x o : Addr} {Lx Lo : List (Addr × List Int)} {ex eo : Array (Int × Value)} {px po : Nat} {tx to : SetTable} (hne : x ≠ o) (R : SetG P w s.heap x Lx ex px tx) (O : SetG P w s.heap o Lo eo po to) (hu : A.units < cLine) (hfew : Lx.length + Lo.length ≤ 120) {each : Sem Unit}
    (heach : ∀ (h' : Heap) (Q : Unit → Shared → Prop), SetG P w h' o Lo eo po to → Q () { s with heap := h' } → wpAny (model P w) A each Q E { s with heap := h' }) {Q : Unit → Shared → Prop}
    (hQ : ∀ h' L' es' ep' t', Heap.SameBut x s.heap h' → SetG P w h' x L' es' ep' t' → Merged Lx Lo L' → Q () { s with heap := h' }) : wpAny (model P w) A (setMerge x o each) Q E s := by
  obtain ⟨oo, hoo, hexo, hdo⟩ := O.ob
  have hso := O.size
  rw [setMerge_eq]
  refine wp_if_neg (by simpa using hne) ?_
  try refine wpAny_bind (wpAny_pure ?_)
  refine wpAny_bind (wpAny_setState_of hoo hdo O.fits ?_)
  dsimp only
  by_cases c0 : eo.isEmpty = true
  · refine wp_if_pos c0 (wpAny_pure (hQ s.heap Lx ex px tx (Heap.SameBut.refl x s.heap) R ⟨fun p hp => .inl hp, fun k => ?_⟩))
    have : Lo = [] := by
      have : eo.size = 0 := by simpa using c0
      exact List.length_eq_zero_iff.mp (by omega)
    rw [this]; simp
  · refine wp_if_neg c0 ?_
    try refine wpAny_bind (wpAny_pure ?_)
    refine wpAny_bind (roomG R (by rw [hso]; exact hfew) fun h1 L1 es1 ep1 t1 sb1 R1 pm1 room1 dm1 => ?_)
    obtain ⟨o1, ho1, hex1, hd1⟩ := R1.ob
    have hoo1 : h1.get? o = some oo := (sb1.2 o (fun e => hne e.symm)).trans hoo
    refine wpAny_bind (wpAny_setState_of (s := { s with heap := h1 }) ho1 hd1 R1.fits ?_)
    dsimp only
    have hsb : ∀ p ∈ Lo, IsT P w h1 p.2 p.1 := fun p hp => by
      obtain ⟨ox, hox, _, hdx⟩ := R.ob
      exact isT_same (O.tup p hp) hox hdx sb1
    have hl1 : t1.place.size = L1.length := by
      have := R1.tab.sz
      rw [List.length_map] at this
      exact this
    have pln : (t1.plain && to.plain) = true := by rw [R1.plain, O.plain]; rfl
    have ldd : w.params.followText "set-order" = true ∨ (t1.led && to.led) = true := by
      rcases R1.led with z | z
      · exact .inl z
      · rcases O.led with y | y
        · exact .inl y
        · exact .inr (by rw [z, y]; rfl)
    have few := O.few
    by_cases cf : (t1.fill != 0) = true
    · have er : t1.road to = .oneByOne := by unfold SetTable.road; rw [if_pos cf]
      rw [er]
      dsimp only
      have O1 : SetG P w h1 o Lo eo po to := O.keep (fun o' e => (sb1.2 o (fun e => hne e.symm)).trans e) hsb
      refine wpAny_bind (walkG (s := { s with heap := h1 }) O1 [x] (some x) fun out hout => ?_)
      obtain ⟨Lw, pmw, eout⟩ := hout
      refine wpAny_bind ?_
      rw [← Array.forIn_toList]
      refine wpAny_forIn_list _ (fun rest r s' => ∃ h' done restL Lc ec pc tc, s' = { s with heap := h' } ∧ rest = rowsOf P w restL ∧ done ++ restL = Lw ∧ Heap.SameBut x h1 h' ∧ SetG P w h' x Lc ec pc tc ∧ Merged L1 done Lc ∧ Lc.length ≤ L1.length + done.length) _ ?_ ?_ _ _
        ⟨h1, [], Lw, L1, es1, ep1, t1, rfl, eout, rfl, Heap.SameBut.refl x h1, R1, Merged.nil L1, Nat.le_refl _⟩
      · rintro e rest r s' ⟨h', done, restL, Lc, ec, pc, tc, rfl, erest, edone, sb', Rc, Mc, lc⟩
        cases restL with
        | nil => cases erest
        | cons p restL =>
          injection erest with e1 e2
          subst e1
          have hpm : p ∈ Lo := pmw.mem_iff.mp (by rw [← edone]; exact List.mem_append_right _ List.mem_cons_self)
          have hlen : done.length + (restL.length + 1) = Lo.length := by rw [← pmw.length_eq, ← edone, List.length_append, List.length_cons]
          have hp' : IsT P w h' p.2 p.1 := isT_same (hsb p hpm) ho1 hd1 sb'
          have pl := pm1.length_eq
          refine wpAny_bind (wpAny_holding (addG (s := { s with heap := h' }) Rc hp' hu (by omega) fun b h2 L2 es2 ep2 t2 sb2 R2 c1 c2 => ?_))
          have sbb := sb'.trans sb2
          obtain ⟨M2, l2⟩ := Mc.step c1 c2
          have O2 : SetG P w h2 o Lo eo po to := O1.keep (fun o' e => (sbb.2 o (fun e => hne e.symm)).trans e) fun q hq => isT_same (hsb q hq) ho1 hd1 sbb
          obtain ⟨o2, hoo2, hexo2, hdo2⟩ := O2.ob
          refine wpAny_bind (heach h2 _ O2 ?_)
          refine wpAny_bind (wpAny_setState_of (s := { s with heap := h2 }) hoo2 hdo2 O2.fits ?_)
          refine wp_if_neg (by simp) ?_
          refine wpAny_pure ?_
          exact ⟨h2, done ++ [p], restL, L2, es2, ep2, t2, rfl, e2, by rw [← edone]; simp, sbb, R2, M2, by rw [List.length_append, List.length_singleton]; omega⟩
      · rintro r s' ⟨h', done, restL, Lc, ec, pc, tc, rfl, erest, edone, sb', Rc, Mc, lc⟩
        have : restL = [] := by
          cases restL with
          | nil => rfl
          | cons _ _ => cases erest
        subst this
        rw [List.append_nil] at edone
        subst edone
        exact wpAny_pure (hQ h' Lc ec pc tc (sb1.trans sb') Rc ((Mc.perm pmw).permX pm1))
    · have f0 : t1.fill = 0 := by simpa using cf
      have z1 : L1 = [] := List.length_eq_zero_iff.mp (by unfold SetTable.fill at f0; omega)
      have zx : Lx = [] := by rw [z1] at pm1; exact pm1.symm.eq_nil
      subst zx
      by_cases cm : (t1.mask == to.mask && to.dummies.isEmpty) = true
      · have er : t1.road to = .slotForSlot := by unfold SetTable.road; rw [if_neg cf, if_pos cm]
        rw [er]
        dsimp only
        refine wpAny_storeSet_of (s := { s with heap := h1 }) ho1 hd1 ?_ (by rw [hso, sizeLine_eq]; omega)
        refine hQ _ Lo eo (ep1 + 1) _ (sb1.trans (Heap.SameBut.update ..)) (stored ho1 hex1 hd1 O.rows (O.tab.of_eq rfl rfl rfl) O.nd hsb pln ldd O.room O.few) (Merged.of_nil (List.Perm.refl _))
      · have er : t1.road to = .clean := by unfold SetTable.road; rw [if_neg cf, if_neg cm]
        rw [er]
        dsimp only
        have hn : eo.size * 5 < t1.mask * 3 := by rw [f0] at room1; omega
        obtain ⟨t', order, e, hp, T, em, el, ep', ed, es'⟩ := laid_ok R1.tab.mok (hs := eo.map (·.1)) (by rw [Array.size_map]; omega) t1.finger t1.moves (t1.led && to.led) (t1.plain && to.plain)
        rw [Array.size_map, hso] at hp
        obtain ⟨L2, r1, r2, r3⟩ := order_rows Lo eo order O.rows hp
        rw [← r3] at T
        have hs2 : (order.filterMap (eo[·]?)).size = eo.size := by rw [rows_size r1, r2.length_eq, hso]
        rw [e]
        dsimp only
        refine wpAny_bind ?_
        refine wp_if_neg (by rw [hs2]; simp) ?_
        refine wpAny_pure ?_
        dsimp only
        refine wpAny_storeSet_of (s := { s with heap := h1 }) ho1 hd1 ?_ (by rw [hs2, hso, sizeLine_eq]; omega)
        refine hQ _ L2 _ (ep1 + 1) t' (sb1.trans (Heap.SameBut.update ..)) (stored ho1 hex1 hd1 r1 T ((r2.map (·.2)).nodup_iff.mpr O.nd) (fun p hpm => hsb p (r2.mem_iff.mp hpm)) (by rw [ep']; exact pln) (by rw [el]; exact ldd) ?_ (by rw [r2.length_eq]; exact few)) (Merged.of_nil r2)
        unfold SetTable.fill
        rw [ed, em, es', Array.size_map]
        exact hn
end
end Ls
/-! LsSetF -/
namespace Ls
open PySem PySem.Spec PyProof.Rows L2
open PySem.Builtin.Frozenset (copyOf addrOf isAnySet slot1 updateFrom intersection difference newFrom baseOf symmetricDifferenceUpdate)
theorem entry_or : entryFor table "set.__or__" = some Builtin.«frozenset.__or__» := entryFor_alias (id' := "frozenset.__or__") (by kernel_rfl) rfl (by decide +kernel) (by kernel_rfl)
theorem entry_and : entryFor table "set.__and__" = some Builtin.«frozenset.__and__» := entryFor_alias (id' := "frozenset.__and__") (by kernel_rfl) rfl (by decide +kernel) (by kernel_rfl)
theorem entry_sub : entryFor table "set.__sub__" = some Builtin.«frozenset.__sub__» := entryFor_alias (id' := "frozenset.__sub__") (by kernel_rfl) rfl (by decide +kernel) (by kernel_rfl)
theorem entry_xor : entryFor table "set.__xor__" = some Builtin.«frozenset.__xor__» := entryFor_alias (id' := "frozenset.__xor__") (by kernel_rfl) rfl (by decide +kernel) (by kernel_rfl)
def binB (name : String) (f : String → Addr → Value → Sem Value) : Builtin := fun args => do
  let (self, other) ← slot1 name args
  let (l, r) := if false then (other, self) else (self, other)
  if !(← isAnySet l <&&> isAnySet r) then rule s!"frozenset.{name}.declined"; return ← ret .notImplemented
  ret (← f s!"frozenset.{name}" (← addrOf l) r)
theorem or_eq : Builtin.«frozenset.__or__» = binB "__or__" (fun id l r => do
  let result ← copyOf l
  if r != .ref l then holding [result] (updateFrom id (← addrOf result) r)
  return result) := by rfl
theorem and_eq : Builtin.«frozenset.__and__» = binB "__and__" intersection := by rfl
theorem sub_eq : Builtin.«frozenset.__sub__» = binB "__sub__" difference := by rfl
theorem xor_eq : Builtin.«frozenset.__xor__» = binB "__xor__" (fun id l r => do
  let result ← newFrom id (← baseOf l) r
  holding [result] (symmetricDifferenceUpdate id (← addrOf result) (.ref l))
  return result) := by rfl
theorem sub_set : isSubtype (.type "set") (.type "set") = pure true := by rw [isSubtype_type]; kernel_rfl
section
variable {P : Program} {w : World} {A : Around} {E : Value → Shared → Prop} {s : Shared} {a : Addr} {L : List (Addr × List Int)} {es : Array (Int × Value)} {ep : Nat} {t : SetTable} {h h' : Heap}
theorem SetG.typeIs (R : SetG P w s.heap a L es ep t) : s.TypeIs (.ref a) "set" := by
  obtain ⟨o, ho, hex, _⟩ := R.ob
  exact ⟨o, ho, hex.1⟩
theorem anySet {v : Value} {Q : Bool → Shared → Prop} (hT : s.TypeIs v "set") (hQ : Q true s) : wpAny (model P w) A (isAnySet v) Q E s := by
  unfold isAnySet
  refine wpAny_bind (wpAny_isInstance hT sub_set ?_)
  exact wpAny_pure hQ
theorem bin_of {op : Operator} {id : String} {B : Builtin} {x y : Addr} {Q : Value → Shared → Prop} (hx : s.TypeIs (.ref x) "set") (hy : s.TypeIs (.ref y) "set") (hfill : fillsNumberSlot (.type "set") op.info.2 = pure true) (hs : Slot "set" (dunder op.info.2) id)
    (he : entryFor table id = some B) (ha : argsOk id ⟨[.ref x, .ref y], []⟩) {nm : String} {f : String → Addr → Value → Sem Value} (hB : B = binB nm f)
    (h : wpAny (model P w) A.in1 (f s!"frozenset.{nm}" x (.ref y)) (fun v s' => v ≠ .notImplemented ∧ Q v s') E s) : wpAny (model P w) A (binaryOp op (.ref x) (.ref y)) Q E s := by
  refine wpAny_binaryOp_same (op := op) (T := "set") hx hy hfill hs (wpAny_call_entry hs hx he ?_ ha)
  rw [hB]
  unfold binB
  refine wpAny_bind (m := slot1 nm _) (wpAny_pure ?_)
  dsimp only
  simp only [Bool.false_eq_true, if_false]
  refine wpAny_bind ?_
  refine wpAny_bind (anySet hx ?_)
  refine anySet hy ?_
  simp only [Bool.not_true, Bool.false_eq_true, if_false]
  refine wpAny_bind (m := addrOf (.ref x)) (wpAny_pure ?_)
  refine wpAny_bind (wpAny_mono h (fun v s' h' => ?_) fun _ _ h' => h')
  exact wpAny_pure ⟨v, rfl, h'⟩
theorem freshT (led : Bool) : TabG (.fresh 0 0 led) [] := by
  refine ⟨List.Pairwise.nil, List.Pairwise.nil, rfl, by show 7 ∈ masks; decide, fun x hx => ?_, fun x hx => (nomatch hx), fun i h j hi => (by simp at hi)⟩
  rcases hx with hx | hx <;> exact absurd hx (by simp [SetTable.fresh])
theorem freshG {h : Heap} {a : Addr} (ho : h.get? a = some { cls := .type "set", dict := none, data := .set #[] 0 (.fresh 0 0 (!w.params.followText "set-order")) }) : SetG P w h a [] #[] 0 (.fresh 0 0 (!w.params.followText "set-order")) where
  ob := ⟨_, ho, ⟨rfl, rfl, rfl⟩, rfl⟩
  rows := rfl
  tab := freshT _
  nd := List.nodup_nil
  tup := fun p hp => (nomatch hp)
  plain := rfl
  led := by
    show _ ∨ (!w.params.followText "set-order") = true
    cases w.params.followText "set-order"
    · exact .inr rfl
    · exact .inl rfl
  room := by
    show 0 * 5 < 7 * 3
    decide
  few := Nat.zero_le _
/-- a new set -/
theorem newG {x : Addr} (hx : s.TypeIs (.ref x) "set") {Q : Value → Shared → Prop} (hQ : ∀ h', (∀ b o, s.heap.get? b = some o → h'.get? b = some o) → (∀ b o, b ≠ s.heap.objs.size → h'.get? b = some o → s.heap.get? b = some o) → SetG P w h' s.heap.objs.size [] #[] 0 (.fresh 0 0 (!w.params.followText "set-order")) → Q (.ref s.heap.objs.size) { s with heap := h' }) :
    wpAny (model P w) A (baseOf x >>= newSet) Q E s := by
  refine wpAny_bind ?_
  unfold baseOf
  refine wpAny_bind (wpAny_isInstance hx sub_set ?_)
  refine wpAny_pure ?_
  simp only [if_true]
  unfold newSet
  refine wpAny_bind (wpAny_byText ?_)
  refine wpAny_newObj_type ?_
  refine hQ _ (fun b o e => Heap.get?_push_of_some _ e) (fun b o hb e => ?_) (freshG (Heap.get?_push_size _ rfl))
  rw [Heap.get?_push_ne _ _ _ hb] at e
  exact e
end
end Ls
/-! LsSetG -/
namespace Ls
open PySem PySem.Spec PyProof.Rows L2
open PySem.Builtin.Frozenset (copyOf addrOf isAnySet slot1 updateFrom intersection difference newFrom baseOf symmetricDifferenceUpdate merge unchanged differenceUpdate)
def Ext (h h' : Heap) : Prop := ∀ b o, h.get? b = some o → h'.get? b = some o
theorem Ext.refl (h : Heap) : Ext h h := fun _ _ e => e
theorem Ext.trans {a b c : Heap} (h : Ext a b) (k : Ext b c) : Ext a c := fun x o e => k x o (h x o e)
theorem ext_new {h h1 h2 : Heap} {n : Addr} (e : Ext h h1) (hn : h.get? n = none) (sb : Heap.SameBut n h1 h2) : Ext h h2 := fun b o q => (sb.2 b (fun z => by rw [z, hn] at q; cases q)).trans (e b o q)
theorem get_size (h : Heap) : h.get? h.objs.size = none := by
  cases q : h.get? h.objs.size with
  | none => rfl
  | some o => exact absurd (Heap.lt_size q) (Nat.lt_irrefl _)
section
variable {P : Program} {w : World} {A : Around} {E : Value → Shared → Prop} {s : Shared} {a : Addr} {L : List (Addr × List Int)} {es : Array (Int × Value)} {ep : Nat} {t : SetTable} {h h' : Heap}
theorem SetG.ext (R : SetG P w h a L es ep t) (e : Ext h h') : SetG P w h' a L es ep t := R.keep (fun o q => e a o q) fun p hp => isT_keep (R.tup p hp) e
theorem copyG (R : SetG P w s.heap a L es ep t) (hu : A.units < cLine) {Q : Value → Shared → Prop}
    (hQ : ∀ h' L' es' ep' t', Ext s.heap h' → SetG P w h' s.heap.objs.size L' es' ep' t' → Merged [] L L' → Q (.ref s.heap.objs.size) { s with heap := h' }) : wpAny (model P w) A (copyOf a) Q E s := by
  have e : copyOf a = ((baseOf a >>= newSet) >>= fun r => (addrOf r >>= fun q => setMerge q a) >>= fun _ => pure r) := by
    unfold copyOf
    simp only [bind_assoc]
  rw [e]
  have few := R.few
  refine wpAny_bind (newG R.typeIs fun h1 e1 _ N => ?_)
  refine wpAny_bind (wpAny_bind (m := addrOf (.ref s.heap.objs.size)) (wpAny_pure ?_))
  obtain ⟨o, ho, _⟩ := R.ob
  have hne : s.heap.objs.size ≠ a := Nat.ne_of_gt (Heap.lt_size ho)
  refine mergeG (s := { s with heap := h1 }) hne N (R.ext e1) hu (by rw [List.length_nil]; omega) (fun h' Q _ hq => wpAny_pure hq) fun h2 L2 es2 ep2 t2 sb R2 M => ?_
  exact wpAny_pure (hQ h2 L2 es2 ep2 t2 (ext_new e1 (get_size _) sb) R2 M)
theorem epochG (R : SetG P w s.heap a L es ep t) {Q : Nat → Shared → Prop} (hQ : Q ep s) : wpAny (model P w) A (setEpoch a) Q E s := by
  obtain ⟨o, ho, _, hd⟩ := R.ob
  unfold setEpoch
  exact wpAny_bind (wpAny_setState_of ho hd R.fits (wpAny_pure hQ))
theorem sizeG (R : SetG P w s.heap a L es ep t) {Q : Nat → Shared → Prop} (hQ : Q L.length s) : wpAny (model P w) A (Builtin.Frozenset.sizeOf a) Q E s := by
  obtain ⟨o, ho, _, hd⟩ := R.ob
  unfold Builtin.Frozenset.sizeOf setEntries
  refine wpAny_bind (wpAny_bind (wpAny_setState_of ho hd R.fits (wpAny_pure (wpAny_pure ?_))))
  show Q es.size s
  rw [R.size]; exact hQ
theorem unchG (id : String) (R : SetG P w s.heap a L es ep t) {Q : Unit → Shared → Prop} (hQ : Q () s) : wpAny (model P w) A (unchanged id a ep) Q E s := by
  unfold unchanged
  refine wpAny_bind (epochG R ?_)
  refine wp_if_neg (by simp) ?_
  exact wpAny_pure hQ
theorem updG (id : String) {x o : Addr} {Lx Lo : List (Addr × List Int)} {ex eo : Array (Int × Value)} {px po : Nat} {tx to : SetTable} (hne : x ≠ o) (R : SetG P w s.heap x Lx ex px tx) (O : SetG P w s.heap o Lo eo po to) (hu : A.units < cLine) (hfew : Lx.length + Lo.length ≤ 120) {Q : Unit → Shared → Prop}
    (hQ : ∀ h' L' es' ep' t', Heap.SameBut x s.heap h' → SetG P w h' x L' es' ep' t' → Merged Lx Lo L' → Q () { s with heap := h' }) : wpAny (model P w) A (updateFrom id x (.ref o)) Q E s := by
  unfold updateFrom
  refine wpAny_bind (anySet O.typeIs ?_)
  refine wp_if_pos rfl ?_
  refine wpAny_bind (m := addrOf (.ref o)) (wpAny_pure ?_)
  unfold merge
  refine wpAny_bind (epochG O ?_)
  exact mergeG hne R O hu hfew (fun h' Q O' hq => unchG (s := { s with heap := h' }) id O' hq) hQ
/-- of a walk so far: what was taken -/
structure Picked (c : List Int → Prop) (done L : List (Addr × List Int)) : Prop where
  sub : ∀ p ∈ L, p ∈ done
  all : ∀ k, k ∈ L.map (·.2) ↔ k ∈ done.map (·.2) ∧ c k
  len : L.length ≤ done.length
theorem Picked.nil (c : List Int → Prop) : Picked c [] [] := ⟨fun _ h => (nomatch h), fun k => by simp, Nat.le_refl _⟩
theorem Picked.perm {c : List Int → Prop} {d d' L : List (Addr × List Int)} (M : Picked c d L) (pm : d.Perm d') : Picked c d' L := ⟨fun p hp => pm.mem_iff.mp (M.sub p hp), fun k => by rw [M.all, (pm.map (·.2)).mem_iff], by rw [← pm.length_eq]; exact M.len⟩
theorem Picked.skip {c : List Int → Prop} {d L : List (Addr × List Int)} {p : Addr × List Int} (M : Picked c d L) (hc : ¬ c p.2) : Picked c (d ++ [p]) L := by
  refine ⟨fun q hq => List.mem_append_left _ (M.sub q hq), fun k => ?_, by rw [List.length_append]; exact Nat.le_trans M.len (Nat.le_add_right _ _)⟩
  rw [M.all, List.map_append, List.mem_append]
  constructor
  · rintro ⟨z, y⟩; exact ⟨.inl z, y⟩
  · rintro ⟨z | z, y⟩
    · exact ⟨z, y⟩
    · have e : k = p.2 := by simpa using z
      rw [e] at y
      exact absurd y hc
theorem Picked.take {c : List Int → Prop} {d L L' : List (Addr × List Int)} {p : Addr × List Int} (M : Picked c d L) (hc : c p.2) (h1 : p.2 ∈ L.map (·.2) → L' = L) (h2 : p.2 ∉ L.map (·.2) → L'.Perm (p :: L)) : Picked c (d ++ [p]) L' := by
  by_cases hm : p.2 ∈ L.map (·.2)
  · rw [h1 hm]
    refine ⟨fun q hq => List.mem_append_left _ (M.sub q hq), fun k => ?_, by rw [List.length_append]; exact Nat.le_trans M.len (Nat.le_add_right _ _)⟩
    rw [List.map_append, List.mem_append]
    constructor
    · intro z; exact ⟨.inl ((M.all k).mp z).1, ((M.all k).mp z).2⟩
    · rintro ⟨z | z, y⟩
      · exact (M.all k).mpr ⟨z, y⟩
      · have e : k = p.2 := by simpa using z
        rw [e]; exact hm
  · have pm := h2 hm
    refine ⟨fun q hq => ?_, fun k => ?_, by rw [pm.length_eq, List.length_append]; exact Nat.succ_le_succ M.len⟩
    · rcases List.mem_cons.mp (pm.mem_iff.mp hq) with z | z
      · rw [z]; exact List.mem_append_right _ (by simp)
      · exact List.mem_append_left _ (M.sub q z)
    · rw [(pm.map (·.2)).mem_iff, List.map_cons, List.mem_cons, M.all, List.map_append, List.mem_append]
      constructor
      · rintro (z | ⟨z, y⟩)
        · exact ⟨.inr (by rw [z]; simp), by rw [z]; exact hc⟩
        · exact ⟨.inl z, y⟩
      · rintro ⟨z | z, y⟩
        · exact .inr ⟨z, y⟩
        · exact .inl (by simpa using z)
theorem pickG (c : List Int → Prop) {n : Addr} (hn : s.heap.get? n = none) {Lw : List (Addr × List Int)} {out : Array (Int × Value)} (eout : out.toList = rowsOf P w Lw) (hlen : Lw.length ≤ 120) {h1 : Heap} (e1 : Ext s.heap h1) {e0 : Array (Int × Value)} {p0 : Nat} {t0 : SetTable} (N : SetG P w h1 n [] e0 p0 t0)
    (f : Int × Value → PUnit → Sem (ForInStep PUnit)) {Q : PUnit → Shared → Prop}
    (turn : ∀ p ∈ Lw, ∀ (h' : Heap) Lc ec pc tc (Q' : ForInStep PUnit → Shared → Prop), Ext s.heap h' → SetG P w h' n Lc ec pc tc → Lc.length + 1 ≤ 120 →
      (c p.2 → ∀ h2 L2 es2 ep2 t2, Heap.SameBut n h' h2 → SetG P w h2 n L2 es2 ep2 t2 → (p.2 ∈ Lc.map (·.2) → L2 = Lc) → (p.2 ∉ Lc.map (·.2) → L2.Perm (p :: Lc)) → Q' (.yield PUnit.unit) { s with heap := h2 }) →
      (¬ c p.2 → Q' (.yield PUnit.unit) { s with heap := h' }) → wpAny (model P w) A (f (thash P w p.2, Value.ref p.1) PUnit.unit) Q' E { s with heap := h' })
    (hQ : ∀ h' L' es' ep' t', Ext s.heap h' → SetG P w h' n L' es' ep' t' → Picked c Lw L' → Q PUnit.unit { s with heap := h' }) : wpAny (model P w) A (forIn out PUnit.unit f) Q E { s with heap := h1 } := by
  rw [← Array.forIn_toList]
  refine wpAny_forIn_list _ (fun rest r s' => ∃ h' done restL Lc ec pc tc, s' = { s with heap := h' } ∧ rest = rowsOf P w restL ∧ done ++ restL = Lw ∧ Ext s.heap h' ∧ SetG P w h' n Lc ec pc tc ∧ Picked c done Lc) _ ?_ ?_ _ _
    ⟨h1, [], Lw, [], e0, p0, t0, rfl, eout, rfl, e1, N, Picked.nil c⟩
  · rintro e rest r s' ⟨h', done, restL, Lc, ec, pc, tc, rfl, erest, edone, ex, Rc, Mc⟩
    cases restL with
    | nil => cases erest
    | cons p restL =>
      injection erest with a1 a2
      subst a1
      have hlen2 : done.length + (restL.length + 1) = Lw.length := by rw [← edone, List.length_append, List.length_cons]
      have := Mc.len
      refine turn p (by rw [← edone]; exact List.mem_append_right _ List.mem_cons_self) h' Lc ec pc tc _ ex Rc (by omega) (fun hc h2 L2 es2 ep2 t2 sb R2 c1 c2 => ?_) (fun hc => ?_)
      · exact ⟨h2, done ++ [p], restL, L2, es2, ep2, t2, rfl, a2, by rw [← edone]; simp, ext_new ex hn sb, R2, Mc.take hc c1 c2⟩
      · exact ⟨h', done ++ [p], restL, Lc, ec, pc, tc, rfl, a2, by rw [← edone]; simp, ex, Rc, Mc.skip hc⟩
  · rintro r s' ⟨h', done, restL, Lc, ec, pc, tc, rfl, erest, edone, ex, Rc, Mc⟩
    have : restL = [] := by
      cases restL with
      | nil => rfl
      | cons _ _ => cases erest
    subst this
    rw [List.append_nil] at edone
    subst edone
    exact hQ h' Lc ec pc tc ex Rc Mc
theorem interG (id : String) {x y : Addr} {Lx Ly : List (Addr × List Int)} {ex ey : Array (Int × Value)} {px py : Nat} {tx ty : SetTable} (hne : x ≠ y) (X : SetG P w s.heap x Lx ex px tx) (Y : SetG P w s.heap y Ly ey py ty) (hu : A.units < cLine) {Q : Value → Shared → Prop}
    (hQ : ∀ h' L' es' ep' t', Ext s.heap h' → SetG P w h' s.heap.objs.size L' es' ep' t' → (∀ p ∈ L', p ∈ Lx ∨ p ∈ Ly) → (∀ k, k ∈ L'.map (·.2) ↔ k ∈ Lx.map (·.2) ∧ k ∈ Ly.map (·.2)) → Q (.ref s.heap.objs.size) { s with heap := h' }) : wpAny (model P w) A (intersection id x (.ref y)) Q E s := by
  unfold intersection
  refine wp_if_neg (by simpa using fun e => hne e.symm) ?_
  try refine wpAny_bind (wpAny_pure ?_)
  rw [← bind_assoc]
  refine wpAny_bind (newG X.typeIs fun h1 e1 _ N => ?_)
  refine wpAny_bind (m := addrOf (.ref s.heap.objs.size)) (wpAny_pure ?_)
  refine wpAny_bind (wpAny_holding ?_)
  have X1 := X.ext e1
  have Y1 := Y.ext e1
  refine wpAny_bind (anySet (s := { s with heap := h1 }) Y1.typeIs ?_)
  refine wp_if_pos rfl ?_
  refine wpAny_bind (m := addrOf (.ref y)) (wpAny_pure ?_)
  refine wpAny_bind (sizeG (s := { s with heap := h1 }) Y1 ?_)
  refine wpAny_bind (sizeG (s := { s with heap := h1 }) X1 ?_)
  have main : ∀ {u v : Addr} {Lu Lv : List (Addr × List Int)} {eu ev : Array (Int × Value)} {pu pv : Nat} {tu tv : SetTable}, SetG P w s.heap u Lu eu pu tu → SetG P w s.heap v Lv ev pv tv →
      (∀ h' L' es' ep' t', Ext s.heap h' → SetG P w h' s.heap.objs.size L' es' ep' t' → (∀ p ∈ L', p ∈ Lv) → (∀ k, k ∈ L'.map (·.2) ↔ k ∈ Lv.map (·.2) ∧ k ∈ Lu.map (·.2)) → Q (.ref s.heap.objs.size) { s with heap := h' }) →
      wpAny (model P w) A (do
        let was ← setEpoch v
        let out ← setWalkUnseen v [u, s.heap.objs.size] (some s.heap.objs.size)
        forIn out PUnit.unit fun x __s =>
          match x with
          | (h, x) => do
            holding [x] do
                let r ← setFind u x h
                if r.isSome = true then do
                    let _ ← setAddHashed s.heap.objs.size x h
                    pure ()
                  else pure ()
            unchanged id v was
            pure (ForInStep.yield PUnit.unit)
        pure ()) (fun a s' => wpAny (model P w) A (pure (Value.ref s.heap.objs.size)) Q E s') E { s with heap := h1 } := by
    intro u v Lu Lv eu ev pu pv tu tv U V hq
    have U1 := U.ext e1
    have V1 := V.ext e1
    refine wpAny_bind (epochG (s := { s with heap := h1 }) V1 ?_)
    refine wpAny_bind (walkG (s := { s with heap := h1 }) V1 _ _ fun out hout => ?_)
    obtain ⟨Lw, pmw, eout⟩ := hout
    have few := V.few
    refine wpAny_bind (pickG (s := s) (fun k => k ∈ Lu.map (·.2)) (get_size _) eout (by rw [pmw.length_eq]; exact few) e1 N _ (fun p hp h' Lc ec pc tc Q' ex Rc hl k1 k2 => ?_) fun h' L' es' ep' t' ex R' M => ?_)
    · have hpV := V.tup p (pmw.mem_iff.mp hp)
      dsimp only
      refine wpAny_bind (wpAny_holding (wpAny_bind (findG (s := { s with heap := h' }) (U.ext ex) (isT_keep hpV ex) hu (fun i q hq' hqk => ?_) fun hno => ?_)))
      · have hin : p.2 ∈ Lu.map (·.2) := List.mem_map.mpr ⟨q, List.mem_of_getElem? hq', hqk⟩
        refine wp_if_pos rfl ?_
        refine wpAny_bind (addG (s := { s with heap := h' }) Rc (isT_keep hpV ex) hu hl fun b h2 L2 es2 ep2 t2 sb R2 c1 c2 => ?_)
        refine wpAny_pure ?_
        refine wpAny_bind (unchG (s := { s with heap := h2 }) id (V.ext (ext_new ex (get_size _) sb)) ?_)
        exact wpAny_pure (k1 hin h2 L2 es2 ep2 t2 sb R2 c1 c2)
      · refine wp_if_neg (by simp) ?_
        refine wpAny_pure ?_
        refine wpAny_bind (unchG (s := { s with heap := h' }) id (V.ext ex) ?_)
        exact wpAny_pure (k2 hno)
    · have M := M.perm pmw
      exact wpAny_pure (wpAny_pure (hq h' L' es' ep' t' ex R' M.sub M.all))
  by_cases c : Ly.length > Lx.length
  · rw [if_pos c]
    exact main Y X fun h' L' es' ep' t' ex R' sub all => hQ h' L' es' ep' t' ex R' (fun p hp => .inl (sub p hp)) all
  · rw [if_neg c]
    exact main X Y fun h' L' es' ep' t' ex R' sub all => hQ h' L' es' ep' t' ex R' (fun p hp => .inr (sub p hp)) fun k => by rw [all, And.comm]
theorem chgG (D : List (Addr × List Int) → List Int → Prop) {n : Addr} (hn : s.heap.get? n = none) {L1 Lw : List (Addr × List Int)} {out : Array (Int × Value)} (eout : out.toList = rowsOf P w Lw) (hlen : L1.length + Lw.length ≤ 120) {h1 : Heap} (e1 : Ext s.heap h1) {e0 : Array (Int × Value)} {p0 : Nat} {t0 : SetTable} (N : SetG P w h1 n L1 e0 p0 t0)
    (hD : ∀ k, k ∈ L1.map (·.2) ↔ D [] k) (f : Int × Value → PUnit → Sem (ForInStep PUnit)) {Q : PUnit → Shared → Prop}
    (turn : ∀ done p rest, done ++ p :: rest = Lw → ∀ (h' : Heap) Lc ec pc tc (Q' : ForInStep PUnit → Shared → Prop), Ext s.heap h' → SetG P w h' n Lc ec pc tc → (∀ k, k ∈ Lc.map (·.2) ↔ D done k) → Lc.length + 1 ≤ 120 →
      (∀ h2 L2 es2 ep2 t2, Heap.SameBut n h' h2 → SetG P w h2 n L2 es2 ep2 t2 → (∀ q ∈ L2, q ∈ Lc ∨ q = p) → (∀ k, k ∈ L2.map (·.2) ↔ D (done ++ [p]) k) → L2.length ≤ Lc.length + 1 → Q' (.yield PUnit.unit) { s with heap := h2 }) →
      wpAny (model P w) A (f (thash P w p.2, Value.ref p.1) PUnit.unit) Q' E { s with heap := h' })
    (hQ : ∀ h' L' es' ep' t', Ext s.heap h' → SetG P w h' n L' es' ep' t' → (∀ q ∈ L', q ∈ L1 ∨ q ∈ Lw) → (∀ k, k ∈ L'.map (·.2) ↔ D Lw k) → Q PUnit.unit { s with heap := h' }) : wpAny (model P w) A (forIn out PUnit.unit f) Q E { s with heap := h1 } := by
  rw [← Array.forIn_toList]
  refine wpAny_forIn_list _ (fun rest r s' => ∃ h' done restL Lc ec pc tc, s' = { s with heap := h' } ∧ rest = rowsOf P w restL ∧ done ++ restL = Lw ∧ Ext s.heap h' ∧ SetG P w h' n Lc ec pc tc ∧ (∀ q ∈ Lc, q ∈ L1 ∨ q ∈ done) ∧ (∀ k, k ∈ Lc.map (·.2) ↔ D done k) ∧ Lc.length ≤ L1.length + done.length) _ ?_ ?_ _ _
    ⟨h1, [], Lw, L1, e0, p0, t0, rfl, eout, rfl, e1, N, fun q hq => .inl hq, hD, Nat.le_refl _⟩
  · rintro e rest r s' ⟨h', done, restL, Lc, ec, pc, tc, rfl, erest, edone, ex, Rc, sub, all, len⟩
    cases restL with
    | nil => cases erest
    | cons p restL =>
      injection erest with a1 a2
      subst a1
      have hlen2 : done.length + (restL.length + 1) = Lw.length := by rw [← edone, List.length_append, List.length_cons]
      refine turn done p restL edone h' Lc ec pc tc _ ex Rc all (by omega) fun h2 L2 es2 ep2 t2 sb R2 c1 c2 c3 => ?_
      refine ⟨h2, done ++ [p], restL, L2, es2, ep2, t2, rfl, a2, by rw [← edone]; simp, ext_new ex hn sb, R2, fun q hq => ?_, c2, by rw [List.length_append, List.length_singleton]; omega⟩
      rcases c1 q hq with z | z
      · rcases sub q z with y | y
        · exact .inl y
        · exact .inr (List.mem_append_left _ y)
      · exact .inr (List.mem_append_right _ (by rw [z]; simp))
  · rintro r s' ⟨h', done, restL, Lc, ec, pc, tc, rfl, erest, edone, ex, Rc, sub, all, len⟩
    have : restL = [] := by
      cases restL with
      | nil => rfl
      | cons _ _ => cases erest
    subst this
    rw [List.append_nil] at edone
    subst edone
    exact hQ h' Lc ec pc tc ex Rc sub all
theorem erase_keys {L : List (Addr × List Int)} (nd : (L.map (·.2)).Nodup) {i : Nat} {p : Addr × List Int} (hi : L[i]? = some p) (k : List Int) : k ∈ (L.eraseIdx i).map (·.2) ↔ k ∈ L.map (·.2) ∧ k ≠ p.2 := by
  have pm := (erase_perm L i p hi).map (·.2)
  rw [List.map_cons] at pm
  have nd2 := pm.nodup_iff.mpr nd
  rw [← pm.mem_iff, List.mem_cons]
  constructor
  · intro h
    refine ⟨.inr h, fun e => ?_⟩
    rw [e] at h
    exact (List.nodup_cons.mp nd2).1 h
  · rintro ⟨h | h, hne⟩
    · exact absurd h hne
    · exact h
theorem tidyG (R : SetG P w s.heap a L es ep t) {Q : Unit → Shared → Prop} (hQ : ∀ h' L' es' ep' t', Heap.SameBut a s.heap h' → SetG P w h' a L' es' ep' t' → L'.Perm L → Q () { s with heap := h' }) : wpAny (model P w) A (setTidy a) Q E s := by
  obtain ⟨o, ho, hex, hd⟩ := R.ob
  unfold setTidy
  refine wpAny_bind (wpAny_setState_of ho hd R.fits ?_)
  dsimp only
  by_cases c : t.tooManyDummies = true
  · refine wp_if_pos c ?_
    have few := R.few
    have hg := size_four L.length few
    have hm := mask_le hg.1
    rw [R.size]
    refine relayG ho hex hd R.rows R.fits R.nd R.tup R.plain R.led R.few hg.1 (by omega) fun h' L' es' ep' t' sb R' pm _ _ => hQ h' L' es' ep' t' sb R' pm
  · refine wp_if_neg c (wpAny_pure (hQ s.heap L es ep t (Heap.SameBut.refl a s.heap) R (List.Perm.refl _)))
/-- a - b -/
theorem diffG (id : String) {x y : Addr} {Lx Ly : List (Addr × List Int)} {ex ey : Array (Int × Value)} {px py : Nat} {tx ty : SetTable} (hne : x ≠ y) (X : SetG P w s.heap x Lx ex px tx) (Y : SetG P w s.heap y Ly ey py ty) (hu : A.units < cLine) (hsum : Lx.length + Ly.length ≤ 120) {Q : Value → Shared → Prop}
    (hQ : ∀ h' L' es' ep' t', Ext s.heap h' → SetG P w h' s.heap.objs.size L' es' ep' t' → (∀ p ∈ L', p ∈ Lx ∨ p ∈ Ly) → (∀ k, k ∈ L'.map (·.2) ↔ k ∈ Lx.map (·.2) ∧ k ∉ Ly.map (·.2)) → Q (.ref s.heap.objs.size) { s with heap := h' }) : wpAny (model P w) A (difference id x (.ref y)) Q E s := by
  unfold difference
  refine wpAny_bind (anySet Y.typeIs ?_)
  refine wp_if_neg (by decide) ?_
  try refine wpAny_bind (wpAny_pure ?_)
  dsimp only
  refine wp_if_neg (by simp) ?_
  refine wp_if_pos rfl ?_
  refine wpAny_bind (sizeG Y ?_)
  refine wpAny_bind (sizeG X ?_)
  by_cases cb : Lx.length / 4 > Ly.length
  · refine wp_if_pos cb ?_
    refine wpAny_bind (wpAny_rule ?_)
    refine wpAny_bind (copyG X hu fun h1 L1 es1 ep1 t1 e1 R1 M1 => ?_)
    refine wpAny_bind (m := addrOf (.ref s.heap.objs.size)) (wpAny_pure ?_)
    refine wpAny_bind (wpAny_holding ?_)
    unfold differenceUpdate
    obtain ⟨oy, hoy, _⟩ := Y.ob
    refine wp_if_neg (by simpa using fun e => Nat.ne_of_lt (Heap.lt_size hoy) e) ?_
    refine wpAny_bind (anySet (s := { s with heap := h1 }) (Y.ext e1).typeIs ?_)
    dsimp only
    refine wp_if_pos rfl ?_
    refine wpAny_bind (m := addrOf (.ref y)) (wpAny_pure ?_)
    refine wpAny_bind (sizeG (s := { s with heap := h1 }) (Y.ext e1) ?_)
    refine wpAny_bind (sizeG (s := { s with heap := h1 }) R1 ?_)
    have hl1 : L1.length = Lx.length := by
      have pm : (L1.map (·.2)).Perm (Lx.map (·.2)) := (List.perm_ext_iff_of_nodup R1.nd X.nd).mpr fun k => by rw [M1.all]; simp
      have := pm.length_eq
      rw [List.length_map, List.length_map] at this
      exact this
    refine wp_if_neg (by omega) ?_
    refine wpAny_bind (epochG (s := { s with heap := h1 }) (Y.ext e1) ?_)
    refine wpAny_bind (wpAny_holding ?_)
    refine wpAny_bind (walkG (s := { s with heap := h1 }) (Y.ext e1) _ _ fun out hout => ?_)
    obtain ⟨Lw, pmw, eout⟩ := hout
    have fewX := X.few
    have fewY := Y.few
    have hx4 : L1.length + Lw.length ≤ 120 := by rw [pmw.length_eq, hl1]; exact hsum
    refine wpAny_bind (chgG (s := s) (fun done k => k ∈ Lx.map (·.2) ∧ k ∉ done.map (·.2)) (get_size _) eout hx4 e1 R1 (fun k => by rw [M1.all]; simp) _ (fun done p rest edone h' Lc ec pc tc Q' ex Rc all hl kq => ?_) fun h' L' es' ep' t' ex R' sub all => ?_)
    · have hpY := Y.tup p (pmw.mem_iff.mp (by rw [← edone]; exact List.mem_append_right _ List.mem_cons_self))
      dsimp only
      have fin : ∀ k, (k ∈ Lc.map (·.2) ∧ k ≠ p.2) ↔ (k ∈ Lx.map (·.2) ∧ k ∉ (done ++ [p]).map (·.2)) := fun k => by
        rw [all, List.map_append, List.mem_append]
        simp only [List.map_cons, List.map_nil, List.mem_singleton]
        constructor
        · rintro ⟨⟨z1, z2⟩, z3⟩
          exact ⟨z1, fun q => q.elim z2 z3⟩
        · rintro ⟨z1, z2⟩
          exact ⟨⟨z1, fun q => z2 (.inl q)⟩, fun q => z2 (.inr q)⟩
      refine wpAny_bind (wpAny_holding (discardG (s := { s with heap := h' }) Rc (isT_keep hpY ex) hu (fun hno => ?_) fun i q h2 es2 ep2 t2 hq' hqk sb R2 => ?_))
      · refine wpAny_bind (unchG (s := { s with heap := h' }) id (Y.ext ex) ?_)
        refine wpAny_pure (kq h' Lc ec pc tc (Heap.SameBut.refl _ _) Rc (fun q hq => .inl hq) (fun k => ?_) (Nat.le_succ _))
        rw [← fin]
        exact ⟨fun z => ⟨z, fun e => hno (e ▸ z)⟩, fun z => z.1⟩
      · refine wpAny_bind (unchG (s := { s with heap := h2 }) id (Y.ext (ext_new ex (get_size _) sb)) ?_)
        refine wpAny_pure (kq h2 _ es2 ep2 t2 sb R2 (fun q hq => .inl ((List.eraseIdx_sublist Lc i).mem hq)) (fun k => ?_) (Nat.le_succ_of_le (List.eraseIdx_sublist Lc i).length_le))
        rw [← fin, ← hqk]
        exact erase_keys Rc.nd hq' k
    · refine wpAny_pure ?_
      refine tidyG (s := { s with heap := h' }) R' fun h2 L2 es2 ep2 t2 sb R2 pm => ?_
      refine wpAny_pure (hQ h2 L2 es2 ep2 t2 (ext_new ex (get_size _) sb) R2 (fun p hp => ?_) fun k => ?_)
      · rcases sub p (pm.mem_iff.mp hp) with z | z
        · rcases M1.sub p z with y | y
          · exact absurd y (by simp)
          · exact .inl y
        · exact .inr (pmw.mem_iff.mp z)
      · rw [(pm.map (·.2)).mem_iff, all, (pmw.map (·.2)).mem_iff]
  · refine wp_if_neg cb ?_
    rw [← bind_assoc]
    refine wpAny_bind (newG X.typeIs fun h1 e1 _ N => ?_)
    refine wpAny_bind (m := addrOf (.ref s.heap.objs.size)) (wpAny_pure ?_)
    refine wpAny_bind (epochG (s := { s with heap := h1 }) (X.ext e1) ?_)
    refine wpAny_bind (wpAny_holding ?_)
    simp only [if_true]
    refine wpAny_bind (walkG (s := { s with heap := h1 }) (X.ext e1) _ _ fun out hout => ?_)
    obtain ⟨Lw, pmw, eout⟩ := hout
    have few := X.few
    refine wpAny_bind (pickG (s := s) (fun k => k ∉ Ly.map (·.2)) (get_size _) eout (by rw [pmw.length_eq]; exact few) e1 N _ (fun p hp h' Lc ec pc tc Q' ex Rc hl k1 k2 => ?_) fun h' L' es' ep' t' ex R' M => ?_)
    · have hpV := X.tup p (pmw.mem_iff.mp hp)
      dsimp only
      refine wpAny_bind (wpAny_holding (wpAny_bind (findG (s := { s with heap := h' }) (Y.ext ex) (isT_keep hpV ex) hu (fun i q hq' hqk => ?_) fun hno => ?_)))
      · have hin : p.2 ∈ Ly.map (·.2) := List.mem_map.mpr ⟨q, List.mem_of_getElem? hq', hqk⟩
        refine wpAny_bind (wpAny_pure ?_)
        refine wp_if_neg (by simp) ?_
        refine wpAny_pure ?_
        refine wpAny_bind (unchG (s := { s with heap := h' }) id (X.ext ex) ?_)
        exact wpAny_pure (k2 fun z => z hin)
      · refine wpAny_bind (wpAny_pure ?_)
        refine wp_if_pos (by simp) ?_
        refine wpAny_bind (addG (s := { s with heap := h' }) Rc (isT_keep hpV ex) hu hl fun b h2 L2 es2 ep2 t2 sb R2 c1 c2 => ?_)
        refine wpAny_pure ?_
        refine wpAny_bind (unchG (s := { s with heap := h2 }) id (X.ext (ext_new ex (get_size _) sb)) ?_)
        exact wpAny_pure (k1 hno h2 L2 es2 ep2 t2 sb R2 c1 c2)
    · have M := M.perm pmw
      exact wpAny_pure (wpAny_pure (hQ h' L' es' ep' t' ex R' (fun p hp => .inl (M.sub p hp)) M.all))
/-- a | b -/
theorem unionG (id : String) {x y : Addr} {Lx Ly : List (Addr × List Int)} {ex ey : Array (Int × Value)} {px py : Nat} {tx ty : SetTable} (hne : x ≠ y) (X : SetG P w s.heap x Lx ex px tx) (Y : SetG P w s.heap y Ly ey py ty) (hu : A.units < cLine) (hsum : Lx.length + Ly.length ≤ 120) {Q : Value → Shared → Prop}
    (hQ : ∀ h' L' es' ep' t', Ext s.heap h' → SetG P w h' s.heap.objs.size L' es' ep' t' → (∀ p ∈ L', p ∈ Lx ∨ p ∈ Ly) → (∀ k, k ∈ L'.map (·.2) ↔ k ∈ Lx.map (·.2) ∨ k ∈ Ly.map (·.2)) → Q (.ref s.heap.objs.size) { s with heap := h' }) :
    wpAny (model P w) A (do
      let result ← copyOf x
      if (Value.ref y) != .ref x then holding [result] (updateFrom id (← addrOf result) (.ref y))
      return result) Q E s := by
  refine wpAny_bind (copyG X hu fun h1 L1 es1 ep1 t1 e1 R1 M1 => ?_)
  have hl1 : L1.length = Lx.length := by
    have pm : (L1.map (·.2)).Perm (Lx.map (·.2)) := (List.perm_ext_iff_of_nodup R1.nd X.nd).mpr fun k => by rw [M1.all]; simp
    have := pm.length_eq
    rw [List.length_map, List.length_map] at this
    exact this
  obtain ⟨oy, hoy, _⟩ := Y.ob
  refine wp_if_pos (by simpa using fun e => hne e.symm) ?_
  refine wpAny_bind (m := addrOf (.ref s.heap.objs.size)) (wpAny_pure ?_)
  refine wpAny_bind (wpAny_holding ?_)
  refine updG (s := { s with heap := h1 }) id (fun e => Nat.ne_of_lt (Heap.lt_size hoy) e.symm) R1 (Y.ext e1) hu (by omega) fun h2 L2 es2 ep2 t2 sb R2 M2 => ?_
  refine wpAny_pure (hQ h2 L2 es2 ep2 t2 (ext_new e1 (get_size _) sb) R2 (fun p hp => ?_) fun k => ?_)
  · rcases M2.sub p hp with z | z
    · rcases M1.sub p z with y | y
      · exact absurd y (by simp)
      · exact .inl y
    · exact .inr z
  · rw [M2.all, M1.all]; simp
/-- a ^ b -/
theorem xorG (id : String) {x y : Addr} {Lx Ly : List (Addr × List Int)} {ex ey : Array (Int × Value)} {px py : Nat} {tx ty : SetTable} (hne : x ≠ y) (X : SetG P w s.heap x Lx ex px tx) (Y : SetG P w s.heap y Ly ey py ty) (hu : A.units < cLine) (hsum : Lx.length + Ly.length ≤ 120) {Q : Value → Shared → Prop}
    (hQ : ∀ h' L' es' ep' t', Ext s.heap h' → SetG P w h' s.heap.objs.size L' es' ep' t' → (∀ p ∈ L', p ∈ Lx ∨ p ∈ Ly) → (∀ k, k ∈ L'.map (·.2) ↔ (k ∈ Lx.map (·.2) ∧ k ∉ Ly.map (·.2)) ∨ (k ∈ Ly.map (·.2) ∧ k ∉ Lx.map (·.2))) → Q (.ref s.heap.objs.size) { s with heap := h' }) :
    wpAny (model P w) A (do
      let result ← newFrom id (← baseOf x) (.ref y)
      holding [result] (symmetricDifferenceUpdate id (← addrOf result) (.ref x))
      return result) Q E s := by
  have e : (do
      let result ← newFrom id (← baseOf x) (.ref y)
      holding [result] (symmetricDifferenceUpdate id (← addrOf result) (.ref x))
      return result) = ((baseOf x >>= newSet) >>= fun r => (addrOf r >>= fun q => holding [r] (updateFrom id q (.ref y))) >>= fun _ => addrOf r >>= fun q => holding [r] (symmetricDifferenceUpdate id q (.ref x)) >>= fun _ => pure r) := by
    unfold newFrom
    simp only [bind_assoc, pure_bind]
  rw [e]
  refine wpAny_bind (newG X.typeIs fun h0 e0 _ N => ?_)
  refine wpAny_bind (wpAny_bind (m := addrOf (.ref s.heap.objs.size)) (wpAny_pure ?_))
  obtain ⟨oy, hoy, _⟩ := Y.ob
  obtain ⟨ox, hox, _⟩ := X.ob
  have fewY := Y.few
  refine wpAny_holding (updG (s := { s with heap := h0 }) id (fun e => Nat.ne_of_lt (Heap.lt_size hoy) e.symm) N (Y.ext e0) hu (by rw [List.length_nil]; omega) fun h1 L1 es1 ep1 t1 sb1 R1 M1 => ?_)
  have e1 : Ext s.heap h1 := ext_new e0 (get_size _) sb1
  have hl1 : L1.length = Ly.length := by
    have pm : (L1.map (·.2)).Perm (Ly.map (·.2)) := (List.perm_ext_iff_of_nodup R1.nd Y.nd).mpr fun k => by rw [M1.all]; simp
    have := pm.length_eq
    rw [List.length_map, List.length_map] at this
    exact this
  refine wpAny_bind (m := addrOf (.ref s.heap.objs.size)) (wpAny_pure ?_)
  refine wpAny_bind (wpAny_holding ?_)
  unfold symmetricDifferenceUpdate
  refine wp_if_neg (by simpa using fun e => Nat.ne_of_lt (Heap.lt_size hox) e) ?_
  dsimp only
  have X1 := X.ext e1
  refine wpAny_bind (wpAny_typeOf (s := { s with heap := h1 }) X1.typeIs ?_)
  refine wp_if_neg (by decide) ?_
  refine wpAny_bind (anySet (s := { s with heap := h1 }) X1.typeIs ?_)
  refine wp_if_pos rfl ?_
  refine wpAny_bind (wpAny_pure ?_)
  refine wpAny_bind (m := addrOf (.ref x)) (wpAny_pure ?_)
  refine wpAny_bind (epochG (s := { s with heap := h1 }) X1 ?_)
  refine wpAny_holding ?_
  refine wpAny_bind (walkG (s := { s with heap := h1 }) X1 _ _ fun out hout => ?_)
  obtain ⟨Lw, pmw, eout⟩ := hout
  have ndw : (Lw.map (·.2)).Nodup := (pmw.map (·.2)).nodup_iff.mpr X.nd
  refine wpAny_bind (chgG (s := s) (fun done k => (k ∈ Ly.map (·.2) ∧ k ∉ done.map (·.2)) ∨ (k ∉ Ly.map (·.2) ∧ k ∈ done.map (·.2))) (get_size _) eout (by rw [pmw.length_eq, hl1]; omega) e1 R1 (fun k => by rw [M1.all]; simp) _ (fun done p rest edone h' Lc ec pc tc Q' ex Rc all hl kq => ?_) fun h' L' es' ep' t' ex R' sub all => ?_)
  · have hpX := X.tup p (pmw.mem_iff.mp (by rw [← edone]; exact List.mem_append_right _ List.mem_cons_self))
    have hnp : p.2 ∉ done.map (·.2) := fun z => by
      rw [← edone, List.map_append, List.map_cons] at ndw
      exact (List.nodup_append.mp ndw).2.2 _ z _ List.mem_cons_self rfl
    dsimp only
    refine wpAny_bind (wpAny_holding (wpAny_bind (discardG (s := { s with heap := h' }) Rc (isT_keep hpX ex) hu (fun hno => ?_) fun i q h2 es2 ep2 t2 hq' hqk sb R2 => ?_)))
    · have hny : p.2 ∉ Ly.map (·.2) := fun z => hno ((all p.2).mpr (.inl ⟨z, hnp⟩))
      refine wp_if_pos rfl ?_
      refine wpAny_bind (addG (s := { s with heap := h' }) Rc (isT_keep hpX ex) hu hl fun b h2 L2 es2 ep2 t2 sb R2 c1 c2 => ?_)
      refine wpAny_pure ?_
      refine wpAny_bind (unchG (s := { s with heap := h2 }) id (X.ext (ext_new ex (get_size _) sb)) ?_)
      have pm := c2 hno
      refine wpAny_pure (kq h2 L2 es2 ep2 t2 sb R2 (fun q hq => ?_) (fun k => ?_) (by rw [pm.length_eq]; exact Nat.le_refl _))
      · rcases List.mem_cons.mp (pm.mem_iff.mp hq) with z | z
        · exact .inr z
        · exact .inl z
      · rw [(pm.map (·.2)).mem_iff, List.map_cons, List.mem_cons, all, List.map_append, List.mem_append]
        simp only [List.map_cons, List.map_nil, List.mem_singleton]
        by_cases e : k = p.2
        · subst e
          exact ⟨fun _ => .inr ⟨hny, .inr rfl⟩, fun _ => .inl rfl⟩
        · constructor
          · rintro (z | ⟨z1, z2⟩ | ⟨z1, z2⟩)
            · exact absurd z e
            · exact .inl ⟨z1, fun q => q.elim z2 e⟩
            · exact .inr ⟨z1, .inl z2⟩
          · rintro (⟨z1, z2⟩ | ⟨z1, z2 | z2⟩)
            · exact .inr (.inl ⟨z1, fun q => z2 (.inl q)⟩)
            · exact .inr (.inr ⟨z1, z2⟩)
            · exact absurd z2 e
    · refine wp_if_neg (by decide) ?_
      refine wpAny_pure ?_
      have hin : p.2 ∈ Ly.map (·.2) := by
        rcases (all p.2).mp (List.mem_map.mpr ⟨q, List.mem_of_getElem? hq', hqk⟩) with z | z
        · exact z.1
        · exact absurd z.2 hnp
      refine wpAny_bind (unchG (s := { s with heap := h2 }) id (X.ext (ext_new ex (get_size _) sb)) ?_)
      refine wpAny_pure (kq h2 _ es2 ep2 t2 sb R2 (fun q hq => .inl ((List.eraseIdx_sublist Lc i).mem hq)) (fun k => ?_) (Nat.le_succ_of_le (List.eraseIdx_sublist Lc i).length_le))
      rw [erase_keys Rc.nd hq' k, all, hqk, List.map_append, List.mem_append]
      simp only [List.map_cons, List.map_nil, List.mem_singleton]
      by_cases e : k = p.2
      · subst e
        constructor
        · rintro ⟨_, z⟩; exact absurd rfl z
        · rintro (⟨_, z⟩ | ⟨z, _⟩)
          · exact absurd (.inr rfl) z
          · exact absurd hin z
      · constructor
        · rintro ⟨⟨z1, z2⟩ | ⟨z1, z2⟩, _⟩
          · exact .inl ⟨z1, fun q => q.elim z2 e⟩
          · exact .inr ⟨z1, .inl z2⟩
        · rintro (⟨z1, z2⟩ | ⟨z1, z2 | z2⟩)
          · exact ⟨.inl ⟨z1, fun q => z2 (.inl q)⟩, e⟩
          · exact ⟨.inr ⟨z1, z2⟩, e⟩
          · exact absurd z2 e
  · refine wpAny_pure (wpAny_pure (hQ h' L' es' ep' t' ex R' (fun p hp => ?_) fun k => ?_))
    · rcases sub p hp with z | z
      · rcases M1.sub p z with y | y
        · exact absurd y (by simp)
        · exact .inr y
      · exact .inl (pmw.mem_iff.mp z)
    · rw [all, (pmw.map (·.2)).mem_iff]
      constructor
      · rintro (z | ⟨z1, z2⟩)
        · exact .inr z
        · exact .inl ⟨z2, z1⟩
      · rintro (⟨z1, z2⟩ | z)
        · exact .inr ⟨z2, z1⟩
        · exact .inl z
end
end Ls
/-! LsSort -/
namespace Ls
open PySem PySem.Spec PyProof.Rows L2
/-! ### tuples of ints in their order -/
theorem lexL_irr : ∀ x : List Int, HT.lexLt x x = false
  | [] => rfl
  | a :: x => by rw [HT.lexLt_cons, if_pos rfl]; exact lexL_irr x
theorem lexL_asym : ∀ x y : List Int, HT.lexLt x y = true → HT.lexLt y x = false
  | [], [], h => nomatch h
  | [], _ :: _, _ => rfl
  | _ :: _, [], h => nomatch h
  | a :: x, b :: y, h => by
    rw [HT.lexLt_cons] at h ⊢
    by_cases e : a = b
    · subst e
      rw [if_pos rfl] at h ⊢
      exact lexL_asym x y h
    · rw [if_neg e, decide_eq_true_eq] at h
      rw [if_neg (Ne.symm e), decide_eq_false_iff_not]
      omega
theorem lexL_tr : ∀ x y z : List Int, HT.lexLt y x = false → HT.lexLt z y = false → HT.lexLt z x = false
  | _, _, [], h1, h2 => by
    rename_i x y
    cases y with
    | nil =>
      cases x with
      | nil => rfl
      | cons _ _ => exact absurd h1 (by show ¬ (true = false); decide)
    | cons _ _ => exact absurd h2 (by show ¬ (true = false); decide)
  | [], _, _ :: _, _, _ => rfl
  | a :: x, [], c :: z, h1, _ => absurd h1 (by show ¬ (true = false); decide)
  | a :: x, b :: y, c :: z, h1, h2 => by
    rw [HT.lexLt_cons] at h1 h2 ⊢
    by_cases e1 : b = a
    · subst e1
      rw [if_pos rfl] at h1
      by_cases e2 : c = b
      · subst e2
        rw [if_pos rfl] at h2 ⊢
        exact lexL_tr x y z h1 h2
      · rw [if_neg e2] at h2 ⊢
        exact h2
    · rw [if_neg e1, decide_eq_false_iff_not] at h1
      by_cases e2 : c = b
      · subst e2
        rw [if_neg e1, decide_eq_false_iff_not]; exact h1
      · rw [if_neg e2, decide_eq_false_iff_not] at h2
        rw [if_neg (by omega), decide_eq_false_iff_not]
        omega
theorem lexL_swo {α : Type} (k : α → List Int) : SrtO.Swo fun u v => HT.lexLt (k u) (k v) := ⟨fun x y h => lexL_asym _ _ h, fun x y z h1 h2 => lexL_tr _ _ _ h1 h2⟩
section
variable {prog : Program} {w : World} {A : Around} {E : Value → Shared → Prop} {s : Shared}
theorem lexK {b : Bool} {xs ys : List Value} {ns ms : List Int} {Q : Bool → Shared → Prop} (i : Nat) (hx : IntsAre xs ns) (hy : IntsAre ys ms) (h : Q (HT.lexLt ns ms) s) : PySem.W.KatLex prog w A b (decide (ns.length < ms.length)) Q (xs.zip ys) i s := by
  induction hx generalizing ys ms i with
  | nil =>
    cases hy with
    | nil => exact PySem.W.kat_nil h
    | cons q u hy => exact PySem.W.kat_nil h
  | @cons p t xs ns hx ih =>
    cases hy with
    | nil => exact PySem.W.kat_nil h
    | @cons q u ys ms hy =>
      rw [HT.lexLt_cons] at h
      have hl : decide ((p :: ns).length < (q :: ms).length) = decide (ns.length < ms.length) := decide_eq_decide.mpr (by rw [List.length_cons, List.length_cons]; omega)
      rw [hl]
      refine PySem.W.kat_cons (SeqAt.EqAt.int_int p t q u prog w _ _ ?_)
      refine PySem.W.kat_go (fun e1 => ?_) (fun e1 => ?_)
      · have ex : p = q := by simpa using e1
        rw [if_pos ex] at h
        exact PySem.W.kat_yes (ih (i + 1) hy h)
      · have ex : ¬ p = q := by simpa using e1
        rw [if_neg ex] at h
        by_cases c : (b && i == 0) = true
        · refine PySem.W.kat_no ?_
          rw [c]
          exact oneLt_int h
        · refine PySem.W.kat_no ?_
          have : (b && i == 0) = false := by cases q : (b && i == 0) with
            | true => exact absurd q c
            | false => rfl
          rw [this]
          exact PySem.W.kat_one _ _ (PyProof.Rows.lt_int h)
theorem cmp_tups {vs : List Value} {k : Value → List Int} (hu : A.units < cLine) (hp : ∀ v ∈ vs, TS.TupInts s.heap v (k v)) (κ : SortKind) (hκ : κ = tuples' true ∨ κ = general' ∨ κ = oneType') : SrtO.Cmp prog w A s κ (fun p => p.1 ∈ vs) (SrtO.lt2 fun v u => HT.lexLt (k v) (k u)) := by
  intro p q hm hm'
  obtain ⟨a, xs, e1, ⟨o, ho, hc, n, hd⟩, i⟩ := hp _ hm
  obtain ⟨a', ys, e2, ⟨o', ho', hc', n', hd'⟩, i'⟩ := hp _ hm'
  show wpAny (model prog w) A (keyLt' κ p.1 q.1) (fun r s' => s' = s ∧ r = HT.lexLt (k p.1) (k q.1)) (fun _ _ => False) s
  generalize k p.1 = ns at i ⊢
  generalize k q.1 = ms at i' ⊢
  rw [e1, e2]
  rcases hκ with e | e | e
  · subst e
    refine PySem.W.kat_lt ho hd ho' hd' ?_
    have l1 := i.length
    have l2 := i'.length
    rw [Array.length_toList] at l1 l2
    rw [l1, l2]
    exact lexK 0 i i' ⟨rfl, rfl⟩
  · subst e
    show wpAny (model prog w) A (oneLt' false (.ref a) (.ref a')) _ _ s
    exact PySem.W.kat_one _ _ (HT.lt_tupInts ⟨o, ho, hc, n, hd⟩ ⟨o', ho', hc', n', hd'⟩ i i' hu ⟨rfl, rfl⟩)
  · subst e
    rw [keyLt'_oneType, oneLt'_eq]
    simp only [if_true]
    refine wpAny_bind (wpAny_cRoomFor hu ?_)
    obtain ⟨cls, dd, data, sl⟩ := o
    obtain ⟨cls2, dd2, data2, sl2⟩ := o'
    simp only at hc hd hc' hd'
    subst hc hd hc' hd'
    have hT : s.TypeIs (.ref a) "tuple" := ⟨_, ho, rfl⟩
    refine wpAny_bind (wpAny_callSpecialIfBound?_slot hT PySem.F.slot_tuple_lt (call_meets PySem.F.slot_tuple_lt hT PySem.F.entry_tuple_lt (PySem.F.args_tuple_lt_2 _ _) (HT.tuple_lt_ints a a' xs ys n n' dd dd2 sl sl2 ns ms i i') ⟨ho, ho', ?_⟩))
    exact wpAny_truthy_bool ⟨rfl, rfl⟩
theorem first_one {v : Value} {ns : List Int} (h : TS.TupInts s.heap v ns) {Q : Option Value → Shared → Prop} (hQ : ∀ f, (f.isSome = !ns.isEmpty) → (∀ x, f = some x → ∃ n t, x = Value.int n t) → Q f s) : wpAny (model prog w) A (firstOfTuple' v) Q E s := by
  obtain ⟨a, xs, rfl, ⟨o, ho, hc, n, hd⟩, i⟩ := h
  rw [PySem.W.kas_first_eq]
  refine wpAny_bind (wpAny_typeOf (T := "tuple") ⟨o, ho, hc⟩ ?_)
  rw [if_neg (by first | decide | simp)]
  refine wpAny_bind (listItems_at ho hd (wpAny_pure ?_))
  cases q : xs.toList with
  | nil =>
    rw [q] at i
    cases i
    have e : xs[0]? = none := by rw [← Array.getElem?_toList, q]; rfl
    rw [e]
    exact hQ none rfl fun x e => (nomatch e)
  | cons y ys =>
    rw [q] at i
    cases i with
    | cons m t i =>
      have e : xs[0]? = some (Value.int m t) := by rw [← Array.getElem?_toList, q]; rfl
      rw [e]
      exact hQ _ rfl fun x e => by cases e; exact ⟨m, t, rfl⟩
theorem firsts_any {k : Value → List Int} : ∀ (vs : List Value) {Q : List (Option Value) → Shared → Prop}, (∀ v ∈ vs, TS.TupInts s.heap v (k v)) → (∀ os : List (Option Value), os.map (·.isSome) = vs.map (fun v => !(k v).isEmpty) → (∀ x, some x ∈ os → ∃ n t, x = Value.int n t) → Q os s) → wpAny (model prog w) A (vs.mapM firstOfTuple') Q E s
  | [], Q, _, h => by
    rw [List.mapM_nil]
    exact wpAny_pure (h [] rfl fun x hx => (nomatch hx))
  | v :: vs, Q, hp, h => by
    rw [List.mapM_cons]
    refine wpAny_bind (first_one (hp v List.mem_cons_self) fun f hf hi => ?_)
    refine wpAny_bind (firsts_any vs (fun u hu => hp u (List.mem_cons_of_mem _ hu)) fun os e1 e2 => wpAny_pure (h (f :: os) ?_ fun x hx => ?_))
    · rw [List.map_cons, List.map_cons, hf, e1]
    · rcases List.mem_cons.mp hx with q | q
      · exact hi x q.symm
      · exact e2 x q
theorem kind_any {vs : List Value} {k : Value → List Int} (h2 : 2 ≤ vs.length) (hp : ∀ v ∈ vs, TS.TupInts s.heap v (k v)) : ∃ κ, (κ = tuples' true ∨ κ = general' ∨ κ = oneType') ∧ ∀ (Q : SortKind → Shared → Prop) (E : Value → Shared → Prop), Q κ s → wpAny (model prog w) A (keyKind' vs.toArray) Q E s := by
  obtain ⟨v0, vr, rfl⟩ : ∃ v0 vr, vs = v0 :: vr := by
    match vs, h2 with
    | v0 :: vr, _ => exact ⟨v0, vr, rfl⟩
  have nonE : ∀ os : List (Option Value), os.map (·.isSome) = (v0 :: vr).map (fun v => !(k v).isEmpty) → ((os.toArray.all (·.isSome)) = true ↔ ((v0 :: vr).all fun v => !(k v).isEmpty) = true) := fun os e => by
    have e1 : os.all (·.isSome) = (os.map (·.isSome)).all id := by rw [List.all_map]; rfl
    have e2 : ((v0 :: vr).all fun v => !(k v).isEmpty) = ((v0 :: vr).map fun v => !(k v).isEmpty).all id := by rw [List.all_map]; rfl
    rw [e2, ← e, ← e1]
    simp
  by_cases c : ((v0 :: vr).all fun v => !(k v).isEmpty) = true
  · refine ⟨tuples' true, .inl rfl, fun Q E hQ => ?_⟩
    rw [kat_kind_eq, List.mapM_toArray, map_eq_pure_bind]
    refine wpAny_bind (wpAny_bind (firsts_any _ hp fun os e1 e2 => wpAny_pure ?_))
    rw [if_pos ((nonE os e1).mpr c)]
    refine wpAny_bind (wpAny_rule ?_)
    have ho : ∃ x os', os = some x :: os' := by
      cases os with
      | nil => simp at e1
      | cons f os' =>
        have hall := (nonE _ e1).mpr c
        cases f with
        | none => simp at hall
        | some x => exact ⟨x, os', rfl⟩
    obtain ⟨x, os', rfl⟩ := ho
    have hfm : ((some x :: os').toArray.filterMap id) = (x :: os'.filterMap id).toArray := by simp
    rw [hfm, oneTypeOnly'_eq, List.mapM_toArray, map_eq_pure_bind]
    refine wpAny_bind (wpAny_bind (wpAny_bind (PySem.W.kas_mapM (r := Value.type "int") _ (fun v hv Q' hq => ?_) (wpAny_pure ?_))))
    · have : some v ∈ some x :: os' := by
        rcases List.mem_cons.mp hv with e | e
        · rw [e]; exact List.mem_cons_self
        · obtain ⟨f, hf, ef⟩ := List.mem_filterMap.mp e
          have : f = some v := ef
          rw [← this]; exact List.mem_cons_of_mem _ hf
      obtain ⟨n, t, rfl⟩ := e2 v this
      exact wpAny_pure hq
    · have h0 : (List.map (fun _ => Value.type "int") (x :: os'.filterMap id)).toArray[0]? = some (Value.type "int") := by simp
      rw [h0]
      have hall2 : ((List.map (fun _ => Value.type "int") (x :: os'.filterMap id)).toArray.all fun y => y == Value.type "int") = true := by
        simp only [List.all_toArray, List.all_map, List.all_eq_true]
        intro _ _
        rfl
      simp only [hall2, if_true]
      refine wpAny_pure (wpAny_pure ?_)
      exact hQ
  · by_cases c0 : (k v0).isEmpty = true
    · refine ⟨oneType', .inr (.inr rfl), fun Q E hQ => ?_⟩
      rw [kat_kind_eq, List.mapM_toArray, map_eq_pure_bind]
      refine wpAny_bind (wpAny_bind (firsts_any _ hp fun os e1 e2 => wpAny_pure ?_))
      rw [if_neg (fun z => c ((nonE os e1).mp z))]
      have ho : ((os.toArray[0]?).bind id).isSome = false := by
        cases os with
        | nil => simp at e1
        | cons f os' =>
          rw [List.map_cons, List.map_cons] at e1
          injection e1 with e1 _
          rw [c0] at e1
          simpa using e1
      rw [if_neg (by rw [ho]; exact Bool.false_ne_true)]
      rw [oneTypeOnly'_eq, List.mapM_toArray, map_eq_pure_bind]
      refine wpAny_bind (wpAny_bind (wpAny_bind (PySem.W.kas_mapM (r := Value.type "tuple") _ (fun v hv Q' hq => ?_) (wpAny_pure ?_))))
      · obtain ⟨a, xs, rfl, ⟨o, ho, hc, _⟩, _⟩ := hp v hv
        exact wpAny_typeOf (T := "tuple") ⟨o, ho, hc⟩ hq
      · have h0 : (List.map (fun _ => Value.type "tuple") (v0 :: vr)).toArray[0]? = some (Value.type "tuple") := by simp
        rw [h0]
        have hall2 : ((List.map (fun _ => Value.type "tuple") (v0 :: vr)).toArray.all fun y => y == Value.type "tuple") = true := by
          simp only [List.all_toArray, List.all_map, List.all_eq_true]
          intro _ _
          rfl
        simp only [hall2, if_true]
        exact wpAny_pure (wpAny_pure hQ)
    · refine ⟨general', .inr (.inl rfl), fun Q E hQ => ?_⟩
      rw [kat_kind_eq, List.mapM_toArray, map_eq_pure_bind]
      refine wpAny_bind (wpAny_bind (firsts_any _ hp fun os e1 e2 => wpAny_pure ?_))
      rw [if_neg (fun z => c ((nonE os e1).mp z))]
      have ho : ((os.toArray[0]?).bind id).isSome = true := by
        cases os with
        | nil => simp at e1
        | cons f os' =>
          rw [List.map_cons, List.map_cons] at e1
          injection e1 with e1 _
          have : (k v0).isEmpty = false := by cases q : (k v0).isEmpty with
            | true => exact absurd q c0
            | false => rfl
          rw [this] at e1
          simpa using e1
      rw [if_pos ho]
      exact wpAny_pure hQ
theorem tups_sortable {a : Addr} {vs : List Value} {k : Value → List Int} (hu : A.units < cLine) (h2 : 2 ≤ vs.length) (hp : ∀ v ∈ vs, TS.TupInts s.heap v (k v)) (ha : ∀ o, s.heap.get? a = some o → o.cls ≠ .type "tuple") : SrtO.SortableO prog w A s a vs fun v u => HT.lexLt (k v) (k u) := by
  intro h' keep
  have hp' : ∀ v ∈ vs, TS.TupInts h' v (k v) := fun v hm => (hp v hm).keeps fun b o e c => keep b o (fun z => by subst z; exact ha o e c) e
  obtain ⟨κ, hκ, hk⟩ := kind_any (prog := prog) (w := w) (A := A) (s := { s with heap := h' }) h2 hp'
  exact ⟨κ, hk, cmp_tups (s := { s with heap := h' }) hu hp' κ hκ⟩
end
end Ls
/-! LsSetH -/
namespace Ls
open PySem PySem.Spec PyProof.Rows L2
/-! ### sets of tuples as objects of the layer -/
structure SetG0 (P : Program) (w : World) (h : Heap) (a : Addr) (L : List (Addr × List Int)) : Prop where
  ex : ∃ (es : Array (Int × Value)) (ep : Nat) (t : SetTable), (∃ o, h.get? a = some o ∧ o.ExactSet ∧ o.data = .set es ep t) ∧ es.toList = rowsOf P w L ∧ TabG t (L.map fun p => thash P w p.2) ∧ (L.map (·.2)).Nodup ∧ t.plain = true ∧
    (w.params.followText "set-order" = true ∨ t.led = true) ∧ t.fill * 5 < t.mask * 3 ∧ L.length ≤ 120
def SetGO (P : Program) (w : World) (a : Addr) (L : List (Addr × List Int)) : HO := .ext fun h => SetG0 P w h a L
theorem SetG.g0 {P : Program} {w : World} {h : Heap} {a : Addr} {L : List (Addr × List Int)} {es : Array (Int × Value)} {ep : Nat} {t : SetTable} (R : SetG P w h a L es ep t) : SetG0 P w h a L :=
  ⟨es, ep, t, R.ob, R.rows, R.tab, R.nd, R.plain, R.led, R.room, R.few⟩
theorem SetG0.full {P : Program} {w : World} {h : Heap} {a : Addr} {L : List (Addr × List Int)} (R : SetG0 P w h a L) (ht : ∀ p ∈ L, IsT P w h p.2 p.1) : ∃ es ep t, SetG P w h a L es ep t := by
  obtain ⟨es, ep, t, h1, h2, h3, h4, h5, h6, h7, h8⟩ := R.ex
  exact ⟨es, ep, t, h1, h2, h3, h4, ht, h5, h6, h7, h8⟩
theorem setGO_new {P : Program} {w : World} {H : Hp} {h : Heap} {a : Addr} {L : List (Addr × List Int)} (R : SetG0 P w h a L) : ObjOk P w H h a (SetGO P w a L) := by
  have ⟨es, ep, t, ⟨o, ho, r⟩, q⟩ := R.ex
  refine ⟨R, ⟨o, ho⟩, fun h1 h2 p k => ?_⟩
  have ⟨es', ep', t', ⟨o', ho', r'⟩, q'⟩ := SetG0.ex p
  exact ⟨es', ep', t', ⟨o', k o' ho', r'⟩, q'⟩
theorem tabG_of {t : SetTable} {hs : List Int} (T : TabOk t hs) : TabG t hs := by
  refine ⟨T.ris, by rw [T.dm]; exact List.Pairwise.nil, T.sz, ?_, fun x hx => ?_, fun x hx => by rw [T.dm] at hx; exact (nomatch hx), fun i h j h1 h2 => ?_⟩
  · rcases T.mok with e | e | e <;> rw [e] <;> decide
  · rcases hx with hx | hx
    · exact T.bd x hx
    · rw [T.dm] at hx; exact (nomatch hx)
  · obtain ⟨k, e, z⟩ := T.reach i h j h1 h2
    exact ⟨k, e, fun k' hk' => .inl (z k' hk')⟩
theorem setG_of {P : Program} {w : World} {h : Heap} {a : Addr} {L : List (Addr × List Int)} {es : Array (Int × Value)} {ep : Nat} {t : SetTable} (R : SetTR P w h a L es ep t) : SetG P w h a L es ep t := by
  have hf := R.few
  refine ⟨R.ob, R.rows, tabG_of R.tab, R.nd, R.tup, R.plain, R.led, ?_, by omega⟩
  have h1 := R.tab.sz
  rw [List.length_map] at h1
  have h3 := R.room
  unfold SetTable.fill
  rw [R.tab.dm]
  show (t.place.size + 0) * 5 < _
  omega
/-- the tuples of L stand in H -/
def TupsIn (K : PySem.W.Frag) (H : Hp) (L : List (Addr × List Int)) : Prop := ∀ p ∈ L, SqT K H p.1 (p.2.map V.int)
section
variable {X : Cx}
/-- set(xs), xs a list of tuples of ints -/
def rSetG (K : PySem.W.Frag) (P : Program) (w : World) : List V → Hp → VK → Prop := fun xs H Q => ∃ (l : Addr) (ks : List (Addr × List Int)), xs = [V.ref l] ∧ SqL K H l (ks.map fun p => V.ref p.1) ∧ TupsIn K H ks ∧ ks.length < 64 ∧
  ∀ a L, H a = none → L.length ≤ ks.length → (∀ p ∈ L, p ∈ ks) → (∀ p ∈ ks, p.2 ∈ L.map (·.2)) → Q (.ref a) (upd H a (SetGO P w a L))
theorem cr_setG (hc : X.calm = true) (hu : X.A.units + 64 < cLine) : CallR X (.type "set") (rSetG X.K X.prog X.w) := by
  intro pins s σ H xs us Q I r h
  obtain ⟨l, ks, rfl, hl, hk, hf, q⟩ := h
  rw [Vals.ref1 r]
  obtain ⟨its, rv, pl, hz⟩ := I.list hl
  have hn : H s.heap.objs.size = none := I.hok.fresh (Nat.le_refl _)
  refine call_set_tups (P := X.prog) (w := X.w) ks (I.ok.hd hc) pl.isList (by simpa using refs_of_vals rv) (fun p hp => I.isT (hk p hp)) hf (by omega) fun h' tk L es ep t R g k => ?_
  refine ⟨.ref s.heap.objs.size, upd H s.heap.objs.size (SetGO X.prog X.w s.heap.objs.size L), I.laid (t' := tk) k (Nat.le_refl _) (setGO_new (setG_of R).g0), rfl, q _ L hn g.len (fun p hp => ?_) fun p hp => ?_⟩
  · exact List.mem_of_mem_take (g.sub p hp)
  · exact g.all p (by rw [List.take_length]; exact hp)
/-- a op b of two sets of tuples: c tells which keys are in it -/
def rSetOp (K : PySem.W.Frag) (P : Program) (w : World) (c : List (List Int) → List (List Int) → List Int → Prop) : V → V → Hp → VK → Prop := fun x y H Q => ∃ (a b : Addr) (La Lb : List (Addr × List Int)), x = .ref a ∧ y = .ref b ∧ a ≠ b ∧ H a = some (SetGO P w a La) ∧ H b = some (SetGO P w b Lb) ∧
  TupsIn K H La ∧ TupsIn K H Lb ∧ La.length + Lb.length ≤ 120 ∧
  ∀ p L', H p = none → (∀ q ∈ L', q ∈ La ∨ q ∈ Lb) → (∀ k, k ∈ L'.map (·.2) ↔ c (La.map (·.2)) (Lb.map (·.2)) k) → Q (.ref p) (upd H p (SetGO P w p L'))
theorem op_setG {op : Operator} {c : List (List Int) → List (List Int) → List Int → Prop}
    (hop : ∀ {A : Around} {E : Value → Shared → Prop} {s : Shared} {x y : Addr} {Lx Ly : List (Addr × List Int)} {ex ey : Array (Int × Value)} {px py : Nat} {tx ty : SetTable} {Q : Value → Shared → Prop}, x ≠ y → SetG X.prog X.w s.heap x Lx ex px tx → SetG X.prog X.w s.heap y Ly ey py ty → A.units + 1 < cLine → Lx.length + Ly.length ≤ 120 →
      (∀ h' L' es' ep' t', Ext s.heap h' → SetG X.prog X.w h' s.heap.objs.size L' es' ep' t' → (∀ p ∈ L', p ∈ Lx ∨ p ∈ Ly) → (∀ k, k ∈ L'.map (·.2) ↔ c (Lx.map (·.2)) (Ly.map (·.2)) k) → Q (.ref s.heap.objs.size) { s with heap := h' }) → wpAny (model X.prog X.w) A (binaryOp op (.ref x) (.ref y)) Q E s)
    (hu : X.A.units + 64 < cLine) : OpR X (binaryOp op) (rSetOp X.K X.prog X.w c) := by
  intro pins s σ H x y v u Q I rx ry h
  obtain ⟨a, b, La, Lb, rfl, rfl, hne, ha, hb, ta, tb, hl, q⟩ := h
  cases rx
  cases ry
  have Ra : SetG0 X.prog X.w s.heap a La := (I.hok a _ ha).1
  have Rb : SetG0 X.prog X.w s.heap b Lb := (I.hok b _ hb).1
  obtain ⟨ea, pa, tta, Ga⟩ := Ra.full fun p hp => I.isT (ta p hp)
  obtain ⟨eb, pb, ttb, Gb⟩ := Rb.full fun p hp => I.isT (tb p hp)
  have hn : H s.heap.objs.size = none := I.hok.fresh (Nat.le_refl _)
  refine hop hne Ga Gb (by omega) hl fun h' L' es' ep' t' ex R sub all => ?_
  exact ⟨.ref s.heap.objs.size, upd H s.heap.objs.size (SetGO X.prog X.w s.heap.objs.size L'), I.laid (t' := s.toks) ex (Nat.le_refl _) (setGO_new R.g0), rfl, q _ L' hn sub all⟩
theorem in1_units {A : Around} (h : A.units + 1 < cLine) : A.in1.units < cLine := by
  show A.units + 1 < cLine
  exact h
abbrev cOr : List (List Int) → List (List Int) → List Int → Prop := fun a b k => k ∈ a ∨ k ∈ b
abbrev cAnd : List (List Int) → List (List Int) → List Int → Prop := fun a b k => k ∈ a ∧ k ∈ b
abbrev cSub : List (List Int) → List (List Int) → List Int → Prop := fun a b k => k ∈ a ∧ k ∉ b
abbrev cXor : List (List Int) → List (List Int) → List Int → Prop := fun a b k => (k ∈ a ∧ k ∉ b) ∨ (k ∈ b ∧ k ∉ a)
theorem op_or (hu : X.A.units + 64 < cLine) : OpR X (binaryOp .BitOr) (rSetOp X.K X.prog X.w cOr) := op_setG (fun hne Ra Rb h1 h2 hq => by
  refine bin_of Ra.typeIs Rb.typeIs PySem.F.fills_set_or PySem.F.slot_set_or entry_or (PySem.F.args_set_or_2 _ _) or_eq ?_
  exact unionG _ hne Ra Rb (in1_units h1) h2 fun h' L' es' ep' t' ex R sub all => ⟨(fun z => nomatch z), hq h' L' es' ep' t' ex R sub all⟩) hu
theorem op_and (hu : X.A.units + 64 < cLine) : OpR X (binaryOp .BitAnd) (rSetOp X.K X.prog X.w cAnd) := op_setG (fun hne Ra Rb h1 h2 hq => by
  refine bin_of Ra.typeIs Rb.typeIs PySem.F.fills_set_and PySem.F.slot_set_and entry_and (PySem.F.args_set_and_2 _ _) and_eq ?_
  exact interG _ hne Ra Rb (in1_units h1) fun h' L' es' ep' t' ex R sub all => ⟨(fun z => nomatch z), hq h' L' es' ep' t' ex R sub all⟩) hu
theorem op_sub' (hu : X.A.units + 64 < cLine) : OpR X (binaryOp .Sub) (rSetOp X.K X.prog X.w cSub) := op_setG (fun hne Ra Rb h1 h2 hq => by
  refine bin_of Ra.typeIs Rb.typeIs PySem.F.fills_set_sub PySem.F.slot_set_sub entry_sub (PySem.F.args_set_sub_2 _ _) sub_eq ?_
  exact diffG _ hne Ra Rb (in1_units h1) h2 fun h' L' es' ep' t' ex R sub all => ⟨(fun z => nomatch z), hq h' L' es' ep' t' ex R sub all⟩) hu
theorem op_xor (hu : X.A.units + 64 < cLine) : OpR X (binaryOp .BitXor) (rSetOp X.K X.prog X.w cXor) := op_setG (fun hne Ra Rb h1 h2 hq => by
  refine bin_of Ra.typeIs Rb.typeIs PySem.F.fills_set_xor PySem.F.slot_set_xor entry_xor (PySem.F.args_set_xor_2 _ _) xor_eq ?_
  exact xorG _ hne Ra Rb (in1_units h1) h2 fun h' L' es' ep' t' ex R sub all => ⟨(fun z => nomatch z), hq h' L' es' ep' t' ex R sub all⟩) hu
/-- sorted(set of tuples) -/
theorem sortG {P : Program} {w : World} {A : Around} {E : Value → Shared → Prop} {s : Shared} {a : Addr} {L : List (Addr × List Int)} {es : Array (Int × Value)} {ep : Nat} {t : SetTable} {Q : Value → Shared → Prop} (R : SetG P w s.heap a L es ep t) (hh : A.handled = none) (hu : A.units + 2 < cLine)
    (hQ : ∀ s' p (out : Array Value) (c : Nat) (L' : List (Addr × List Int)), (∀ b o, s.heap.get? b = some o → s'.heap.get? b = some o) → s'.gens = s.gens → s'.os = s.os → s.heap.objs.size ≤ p →
      s'.heap.get? p = some (seqObj "list" out c) → out.toList = L'.map (fun q => Value.ref q.1) → L'.Perm L → L'.Pairwise (fun q r => HT.lexLt r.2 q.2 = false) → Q (.ref p) s') :
    wpAny (model P w) A (call (.builtin "sorted") [.ref a]) Q E s := by
  obtain ⟨o, ho, hex, hd⟩ := R.ob
  have hsz := R.size
  have hfew := R.few
  refine Calls.call_function_entry kind_sorted plain_sorted entry_sorted (args_sorted1 _) ?_
  unfold Builtin.«sorted»
  refine wpAny_bind (m := checkCount "sorted" 1 1 _) (wpAny_pure ?_)
  refine wpAny_bind (collect_set (A := A.in1) hh ⟨o, ho, hex.1, hd⟩ R.fits (by unfold scanBound; omega) R.tab.ris R.led fun s1 vs k1 hz g1 o1 pm => ?_)
  have hes : es.toList.map (·.2) = L.map fun q => Value.ref q.1 := by
    rw [R.rows]
    unfold rowsOf
    rw [List.map_map]; rfl
  rw [hes] at pm
  have hvl : vs.length ≤ sizeLine := by rw [pm.length_eq, List.length_map, sizeLine_eq]; omega
  refine wpAny_bind (wpAny_newList ?_ hvl)
  have hoL : (s1.heap.push (seqObj "list" vs.toArray 0)).get? s1.heap.objs.size = some (seqObj "list" vs.toArray 0) := Heap.get?_push_size _ rfl
  have tk : ∀ q ∈ L, TS.TupInts (s1.heap.push (seqObj "list" vs.toArray 0)) (.ref q.1) q.2 := fun q hq => tupInts_of (P := P) (w := w) (isT_keep (R.tup q hq) fun b u e => Heap.get?_push_of_some _ (k1 b u e))
  have hp : ∀ v ∈ vs, TS.TupInts (s1.heap.push (seqObj "list" vs.toArray 0)) v (TS.intsOf (s1.heap.push (seqObj "list" vs.toArray 0)) v) := fun v hv => by
    obtain ⟨q, hq, e⟩ := List.mem_map.mp (pm.mem_iff.mp hv)
    rw [← e, (tk q hq).ints]
    exact tk q hq
  refine wpAny_bind (wpAny_holding (wpAny_call_entry slot_list_sort ⟨_, hoL, rfl⟩ entry_list_sort (SrtO.list_sort_ord (s := { s1 with heap := s1.heap.push (seqObj "list" vs.toArray 0) }) (lexL_swo (TS.intsOf (s1.heap.push (seqObj "list" vs.toArray 0)))) hoL hvl (fun h2 => tups_sortable (s := { s1 with heap := s1.heap.push (seqObj "list" vs.toArray 0) }) ?_ h2 hp fun o' e => ?_) fun out hs hb => ⟨_, rfl, ?_⟩) (args_list_sort _)))
  · show A.units + 1 + 1 < cLine
    omega
  · have e' : some o' = some (seqObj "list" vs.toArray 0) := e.symm.trans hoL
    cases e'
    intro c
    exact absurd (Value.type.inj c) (by decide)
  · obtain ⟨c, hc⟩ := sortedHeap_at (vs := vs) (out := out.toArray) hoL
    obtain ⟨L', pL, e'⟩ := perm_map_inv (hb.perm.trans pm) L rfl
    have pw : L'.Pairwise (fun q r => HT.lexLt r.2 q.2 = false) := by
      have hs' : out.Pairwise fun x y => HT.lexLt (TS.intsOf (s1.heap.push (seqObj "list" vs.toArray 0)) y) (TS.intsOf (s1.heap.push (seqObj "list" vs.toArray 0)) x) = false := hs
      rw [e'] at hs'
      refine List.Pairwise.imp_of_mem (fun {q r} hq hr hle => ?_) (List.pairwise_map.mp hs')
      rw [(tk q (pL.mem_iff.mp hq)).ints, (tk r (pL.mem_iff.mp hr)).ints] at hle
      exact hle
    refine wpAny_pure ⟨_, rfl, hQ _ s1.heap.objs.size out.toArray c L' (fun b u e => ?_) g1 o1 hz hc (by simpa using e') pL pw⟩
    have q := k1 b u e
    have hlt := Heap.lt_size q
    show (sortedHeap (s1.heap.push (seqObj "list" vs.toArray 0)) s1.heap.objs.size vs out.toArray).get? b = some u
    rw [sortedHeap_old (Nat.ne_of_lt hlt) (by rw [size_push']; exact Nat.lt_succ_of_lt hlt)]
    exact Heap.get?_push_of_some _ q
def rSortG (K : PySem.W.Frag) (P : Program) (w : World) : List V → Hp → VK → Prop := fun vs H Q => ∃ (a : Addr) (L : List (Addr × List Int)), vs = [V.ref a] ∧ H a = some (SetGO P w a L) ∧ TupsIn K H L ∧
  ∀ (L' : List (Addr × List Int)) (p : Addr), L'.Perm L → (L'.map (·.2)).Nodup → L'.length ≤ 120 → L'.Pairwise (fun q r => HT.lexLt r.2 q.2 = false) → H p = none → Q (.ref p) (upd H p (.lst (L'.map fun q => V.ref q.1)))
theorem cr_sortG (hc : X.calm = true) (hu : X.A.units + 64 < cLine) : CallR X (.builtin "sorted") (rSortG X.K X.prog X.w) := by
  intro pins s σ H vs us Q I r h
  obtain ⟨a, L, rfl, ha, hk, q⟩ := h
  have R0 : SetG0 X.prog X.w s.heap a L := (I.hok a _ ha).1
  obtain ⟨es, ep, t, R⟩ := R0.full fun p hp => I.isT (hk p hp)
  rw [Vals.ref1 r]
  refine sortG R (I.ok.hd hc) (by omega) fun s' p out c L' k g o hp hg hout pm pw => ?_
  have hfew : L'.length ≤ 120 := by rw [pm.length_eq]; exact R.few
  have hlen : (L'.map fun q => V.ref q.1).length ≤ sizeLine := by rw [List.length_map, sizeLine_eq]; omega
  have hn : H p = none := I.hok.fresh hp
  have hv : Vals (L'.map fun q => V.ref q.1) out.toList := by rw [hout]; exact vals_of_refs L'
  have J : Inv X pins σ (upd H p (.lst (L'.map fun q => V.ref q.1))) { s with heap := s'.heap, gens := s'.gens, drawn := s'.drawn, toks := s'.toks } :=
    I.call (ch := []) (Un.laid k hp hn) (I.hok.laid k hp ⟨hlen, out.toList, c, hv, hg⟩) (by rw [g]; exact I.bare) (fun _ z => nomatch z)
  have e : s' = { s with heap := s'.heap, gens := s'.gens, drawn := s'.drawn, toks := s'.toks } := by
    cases s'
    cases s
    cases o
    rfl
  rw [e]
  exact ⟨.ref p, _, J, rfl, q L' p pm ((pm.map (·.2)).nodup_iff.mpr R.nd) hfew pw hn⟩
end
end Ls
/-! LsE1 -/
namespace Ls
open PySem PySem.Spec PyProof.Rows L2
/-- more of the module's names -/
structure Names2 (mg : Str → Option Value) : Prop where
  set : mg "set" = none
  max : mg "max" = none
  a0 : ∃ t, mg "ANY_LETTER" = some (.int 0 t)
  a27 : ∃ t, mg "ANY_LETTERS" = some (.int 27 t)
  p10 : ∃ t, mg "MOST_IN_PATTERN" = some (.int 10 t)
  r2000 : ∃ t, mg "MOST_IN_ROW" = some (.int 2000 t)
  t40 : ∃ t, mg "MOST_TO_CUT" = some (.int 40 t)
  m7 : ∃ t, mg "NO_SUCH_ROW" = some (.int (-7) t)
  k0 : ∃ t, mg "IN_EITHER" = some (.int 0 t)
  k1 : ∃ t, mg "IN_BOTH" = some (.int 1 t)
  k2 : ∃ t, mg "IN_FIRST_ALONE" = some (.int 2 t)
  k3 : ∃ t, mg "IN_ONE_ALONE" = some (.int 3 t)
  j10 : ∃ t, mg "JOIN" = some (.int 10 t)
abbrev sIsPat : Stmt := top 4
abbrev sRests : Stmt := top 15
abbrev sSetWords : Stmt := top 45
abbrev sHasD : Stmt := top 53
def okP (u : List Nat) : Bool := decide (u.length ≤ 10) && u.all fun x => decide (x ≤ 27)
def spIsPat : Sp := fun vs H Q _ => ∃ (a : Addr) (u : List Nat), vs = [.ref a] ∧ H a = some (.lst (nV u)) ∧ u.length ≤ 60 ∧ ∀ H' : Hp, Same H H' → Q (.bl (okP u)) H'
/-- the words of d that begin with u, without it -/
def spRests : Sp := fun vs H Q _ => ∃ (l a : Addr) (d : List Word) (u : Word), vs = [.ref l, .ref a] ∧ DictAt H l d ∧ TupI H a (iw u) ∧ u.length ≤ 60 ∧ d.length ≤ 60 ∧ ∀ (H' : Hp) (p : Addr), Same H H' → TupN H' p (nk (Rh03.rests d u)) → Q (.ref p) H'
def spHasD : Sp := fun vs H Q _ => ∃ n : Nat, vs = [.int ((n : Nat) : Int)] ∧ Q (.bl (Rh03.isDict n)) H
def spSetWords : Sp := fun vs H Q _ => ∃ (l g : Addr) (d e : List Word), vs = [.ref l, .ref g] ∧ l ≠ g ∧ DictAt H l d ∧ DictAt H g e ∧ e.length ≤ 60 ∧
  ∀ (H' : Hp) (p : Addr), (∀ b o, H b = some o → b ≠ l → H' b = some o) → DictAt H' l e → H p = none → H' p = some (.lst ((iw [e.length]).map V.int)) → Q (.ref p) H'
theorem cut_from (ks : List Int) (n : Nat) : cutI ks (some (n : Int)) none = ks.drop n := by
  unfold cutI
  rw [HT.sIx_none, HT.sIx_nat]
  by_cases h : n ≤ ks.length
  · rw [Nat.min_eq_left h, List.take_of_length_le (by rw [List.length_drop]; exact Nat.le_refl _)]
  · rw [Nat.min_eq_right (by omega), Nat.sub_self, List.take_zero, List.drop_eq_nil_iff.mpr (by omega)]
theorem iw_drop (v : Word) (n : Nat) : (iw v).drop n = iw (v.drop n) := by
  show (v.map _).drop n = (v.drop n).map _
  rw [List.map_drop]
theorem rests_filter (d : List Word) (u : Word) : Rh03.rests d u = (d.filter fun v => (Rh03.behind u v).isSome).map fun v => v.drop u.length := by
  have h1 : ∀ u v : Word, Rh03.behind u v = if (Rh03.behind u v).isSome = true then some (v.drop u.length) else none := by
    intro u
    induction u with
    | nil => intro v; rfl
    | cons a u ih =>
      intro v
      cases v with
      | nil => rfl
      | cons b v =>
        rw [Rh03.behind]
        by_cases e : a = b
        · rw [if_pos e]; exact ih v
        · rw [if_neg e]; rfl
  unfold Rh03.rests
  induction d with
  | nil => rfl
  | cons v d ih =>
    rw [List.filterMap_cons, List.filter_cons]
    cases h : (Rh03.behind u v).isSome with
    | true =>
      have e := h1 u v
      rw [h, if_pos rfl] at e
      rw [e, if_pos rfl, List.map_cons, ← ih]
    | false =>
      have e := h1 u v
      rw [h, if_neg Bool.false_ne_true] at e
      rw [e, if_neg Bool.false_ne_true, ← ih]
section
variable {P : Program} {w : World} {K : PySem.W.Frag} {mg : Str → Option Value} {base : Heap}
theorem scIsPat : FnScope ["row", "sign"] ["row"] (defScope sIsPat) := ⟨rfl, rfl, rfl, by decide +kernel, rfl, by decide +kernel, by decide +kernel⟩
theorem ok_is_pattern {f : Addr} {fd : FuncData} (F : Fun K "is_pattern" "is_pattern" sIsPat f fd) (T : Names mg) (T2 : Names2 mg) : FnOk P w K mg base CX0 1 f fd ["row"] spIsPat := by
  obtain ⟨t10, g10⟩ := T2.p10
  obtain ⟨t27, g27⟩ := T2.a27
  refine F.ok scIsPat (fun vs H Q E h => ?_) (fun cdv A outer s H vs Q E hr h => ?_)
  · obtain ⟨a, u, rfl, _⟩ := h
    rfl
  · obtain ⟨a, u, rfl, ha, hl, k⟩ := h
    refine ⟨_, pss_one (ps_ret (pe_and (pe_cmpR op_le (pe_callB call_len_seq (by rfl) T.len PySem.boot_len (pa_cons (pv 0) pa_nil)) (pe_glob (v := .int 10) (by rfl) g10 ⟨_, rfl⟩) (nomark _))
      (pe_one (pe_callB (cr_all rfl) (by rfl) T.all (by decide +kernel) (pa_cons (pe_lc (own := [("sign", 1)]) (g := gName 1) (tt := tYes) rfl scIsPat.nd (pi_list (pv 0)) (blkOk_by (N := ["row", "sign"]) (sc := defScope sIsPat) (by decide +kernel)) (fun _ _ _ _ _ => pg_name (i := 1) scIsPat.nd rfl (Or.inl rfl)) (fun _ _ _ _ _ => pts_nil)
        (fun _ _ _ _ _ => pe_cmpR op_le (pv 1) (pe_glob (v := .int 27) (by rfl) g27 ⟨_, rfl⟩) (nomark _))) pa_nil))))), ?_⟩
    have eL : (nV u).length = u.length := List.length_map _
    refine ⟨_, rfl, a, _, rfl, .inl (SqL.of ha), _, _, rfl, rfl, _, rfl, ?_⟩
    rw [eL]
    by_cases c1 : (u.length : Int) ≤ 10
    · refine ifT (decide_eq_true c1) ?_
      refine ⟨_, rfl, a, rfl, ⟨_, SqL.of ha⟩, fun D hD => lc_list (K := K) (a := a) (xs := nV u)
          (fun i H' => Same H H' ∧ H' D = some (.lst (((u.take i).map fun x => decide (x ≤ 27)).map V.bl))) ⟨Same.new hD, upd_same⟩ (fun i H' _ h => SqL.of (h.1 _ _ ha)) ?_ ?_⟩
      · rintro i x H' hi ⟨s1, h1⟩
        obtain ⟨z, hz, rfl⟩ := get_map hi
        refine ⟨rfl, _, rfl, _, _, rfl, rfl, _, h1, ?_, fun c o e => ?_, ?_⟩
        · rw [List.length_map, List.length_map, List.length_take, sizeLine_eq]; omega
        · rw [upd_ne (ne_of_none e hD)]; exact s1 c o e
        · rw [upd_same, take_more hz, List.map_append, List.map_append]
          have : decide (((z : Nat) : Int) ≤ 27) = decide (z ≤ 27) := decide_eq_decide.mpr (by omega)
          show _ = some (HO.lst (_ ++ [V.bl (decide (z ≤ 27))]))
          rw [← this]
      · rintro H' ⟨s1, h1⟩
        rw [eL, List.take_length] at h1
        refine ⟨D, u.map fun x => decide (x ≤ 27), rfl, SqL.of h1, ?_⟩
        have e : ((u.map fun x => decide (x ≤ 27)).all id) = okP u := by
          unfold okP
          rw [decide_eq_true (show u.length ≤ 10 by omega), Bool.true_and, List.all_map]
          rfl
        rw [e]
        exact k H' s1
    · refine ifF (decide_eq_false c1) ?_
      have e : okP u = false := by unfold okP; rw [decide_eq_false (by omega)]; rfl
      rw [e] at k
      exact k H (Same.refl H)
theorem scHasD : FnScope ["number"] ["number"] (defScope sHasD) := ⟨rfl, rfl, rfl, by decide +kernel, rfl, by decide +kernel, by decide +kernel⟩
theorem ok_has_d {f : Addr} {fd : FuncData} (F : Fun K "has_dictionary" "has_dictionary" sHasD f fd) (T : Names mg) : FnOk P w K mg base CX0 1 f fd ["number"] spHasD := by
  obtain ⟨t4, g4⟩ := T.c4
  refine F.ok scHasD (fun vs H Q E h => ?_) (fun cdv A outer s H vs Q E hr h => ?_)
  · obtain ⟨n, rfl, _⟩ := h
    rfl
  · obtain ⟨n, rfl, k⟩ := h
    refine ⟨_, pss_one (ps_ret (pe_and (pe_cmpR op_ge (pv 0) pe_int (nomark _)) (pe_one (pe_cmpR op_le (pv 0) (pe_glob (v := .int 4) (by rfl) g4 ⟨_, rfl⟩) (nomark _))))), ?_⟩
    refine ⟨_, rfl, _, _, rfl, rfl, _, rfl, ?_⟩
    unfold Rh03.isDict at k
    by_cases c : (1 : Int) ≤ ((n : Nat) : Int)
    · refine ifT (decide_eq_true c) ⟨_, rfl, _, _, rfl, rfl, ?_⟩
      rw [decide_eq_true (show 1 ≤ n by omega), Bool.true_and] at k
      have : decide (((n : Nat) : Int) ≤ 4) = decide (n ≤ 4) := decide_eq_decide.mpr (by omega)
      show Q (V.bl (decide (((n : Nat) : Int) ≤ 4))) H
      rw [this]; exact k
    · refine ifF (decide_eq_false c) ?_
      rw [decide_eq_false (show ¬ 1 ≤ n by omega)] at k
      exact k
theorem scSetWords : FnScope ["words", "new"] ["words", "new"] (defScope sSetWords) := ⟨rfl, rfl, rfl, by decide +kernel, rfl, by decide +kernel, by decide +kernel⟩
theorem ok_set_words {f : Addr} {fd : FuncData} (F : Fun K "set_words" "set_words" sSetWords f fd) (T : Names mg) : FnOk P w K mg base CX0 1 f fd ["words", "new"] spSetWords := by
  refine F.ok scSetWords (fun vs H Q E h => ?_) (fun cdv A outer s H vs Q E hr h => ?_)
  · obtain ⟨l, g, d, e, rfl, _⟩ := h
    rfl
  · obtain ⟨l, g, d, e, rfl, hne, ⟨bs, hl, hp⟩, ⟨cs, hg, hq⟩, he, k⟩ := h
    refine ⟨_, pss_cons (ps_expr (pe_bm0 PySem.F.plainAttrs_list PySem.F.slot_list_clear PySem.F.type_list_clear mt_clear (pv 0)))
      (pss_cons (ps_expr (pe_bm PySem.F.plainAttrs_list PySem.F.slot_list_extend PySem.F.type_list_extend mt_extend (pv 0) (pa_cons (pv 1) pa_nil)))
      (pss_one (ps_ret (pe_lst (pa_cons (pe_callB call_len_seq (by rfl) T.len PySem.boot_len (pa_cons (pv 0) pa_nil)) pa_nil))))), ?_⟩
    have hcl : cs.length = e.length := by rw [Paired.length hq, List.length_map]
    refine ⟨_, rfl, .inl ⟨rfl, _, SqL.of hl⟩, l, _, rfl, rfl, hl, ?_⟩
    refine ⟨_, rfl, .inl ⟨rfl, _, SqL.of upd_same⟩, _, rfl, l, g, _, _, rfl, rfl, upd_same, by rw [upd_ne (Ne.symm hne)]; exact hg, by rw [List.length_nil, List.length_map, sizeLine_eq]; omega, ?_⟩
    rw [upd_upd]
    refine ⟨_, rfl, l, _, rfl, .inl (SqL.of upd_same), by show 1 ≤ sizeLine; decide, fun p hpn => ?_⟩
    have hpl : p ≠ l := fun z => by rw [z, upd_same] at hpn; cases hpn
    have hpn' : H p = none := by rw [upd_ne hpl] at hpn; exact hpn
    have st : TupsStay H (upd (upd H l (.lst ([] ++ cs.map V.ref))) p (.lst [V.int ((([] ++ cs.map V.ref).length : Nat) : Int)])) := fun b ys z => by
      rw [upd_ne (ne_of_none z hpn'), upd_ne (ne_of z hl (by intro y; cases y))]; exact z
    refine k _ p (fun b o z hb => by rw [upd_ne (ne_of_none z hpn'), upd_ne hb]; exact z) ⟨cs, ?_, paired_stay hq st⟩ hpn' ?_
    · rw [upd_ne (Ne.symm hpl), upd_same]; rfl
    · rw [upd_same, List.nil_append, List.length_map, hcl]; rfl
theorem scRests : FnScope ["words", "row", "word"] ["words", "row"] (defScope sRests) := ⟨rfl, rfl, rfl, by decide +kernel, rfl, by decide +kernel, by decide +kernel⟩
theorem ok_rests {f : Addr} {fd : FuncData} (F : Fun K "rests_behind" "rests_behind" sRests f fd) (T : Names mg) : FnOk P w K mg base CX0 1 f fd ["words", "row"] spRests := by
  refine F.ok scRests (fun vs H Q E h => ?_) (fun cdv A outer s H vs Q E hr h => ?_)
  · obtain ⟨l, a, d, u, rfl, _⟩ := h
    rfl
  · obtain ⟨l, a, d, u, rfl, ⟨bs, hl, hp⟩, ha, hu, hd, k⟩ := h
    have hbl : bs.length = d.length := by rw [Paired.length hp, List.length_map]
    refine ⟨_, pss_one (ps_ret (pe_callTy call_tuple_of (by rfl) T.tuple (by decide +kernel) (pa_cons (pe_lc (own := [("word", 2)]) (g := gName 2) (tt := tTest (tOp rEqW (tSl (rSlA K) (tVar 2) tNoPart (tPart (tCB (rLenS K) (tCons (tVar 1) tNil)))) (tVar 1))) (te := tSl (rSlA K) (tVar 2) (tPart (tCB (rLenS K) (tCons (tVar 1) tNil))) tNoPart) rfl scRests.nd (pi_list (pv 0)) (blkOk_by (N := ["words", "row", "word"]) (sc := defScope sRests) (by decide +kernel)) (fun _ _ _ _ _ => pg_name (i := 2) scRests.nd rfl (Or.inl rfl))
        (fun _ _ _ _ _ => pts_one (pt_cmpR (op_eqW hr.units) (pe_slice sl_tupA (pv 2) po_none (po_some (pe_callB (r := rLenS K) call_len_seq (by rfl) T.len PySem.boot_len (pa_cons (pv 1) pa_nil)))) (pv 1) (nomark _)))
        (fun _ _ _ _ _ => pe_slice sl_tupA (pv 2) (po_some (pe_callB (r := rLenS K) call_len_seq (by rfl) T.len PySem.boot_len (pa_cons (pv 1) pa_nil))) po_none)) pa_nil))), ?_⟩
    refine ⟨_, rfl, l, rfl, ⟨_, SqL.of hl⟩, fun D hD => lc_list (K := K) (a := l) (xs := bs.map V.ref)
          (fun i H' => Same H H' ∧ ∃ cs : List Addr, H' D = some (.lst (cs.map V.ref)) ∧ Paired (TupI H') cs (nk (((d.take i).filter fun v => (Rh03.behind u v).isSome).map fun v => v.drop u.length))) ⟨Same.new hD, [], upd_same, .nil⟩ (fun i H' _ h => SqL.of (h.1 _ _ hl)) ?_ ?_⟩
    · rintro i x H' hi ⟨s1, cs, h1, h2⟩
      obtain ⟨b, hb, rfl⟩ := get_map hi
      obtain ⟨ks, hk, hbk⟩ := paired_get hp hb
      obtain ⟨v, hv, rfl⟩ := get_map hk
      have hcl := Paired.length h2
      refine ⟨rfl, _, rfl, _, rfl, a, _, rfl, .inr (SqT.of (s1 _ _ ha)), _, rfl, slice_ints (ks := iw v) (s1 _ _ hbk) fun p H2 s2 hp2 => ?_⟩
      rw [List.length_map, iw_len, cut_to, iw_take] at hp2
      refine ⟨_, rfl, p, a, _, iw u, rfl, rfl, hp2, s2 _ _ (s1 _ _ ha), _, rfl, ?_⟩
      have e : decide (iw (v.take u.length) = iw u) = (Rh03.behind u v).isSome := by
        by_cases c : v.take u.length = u
        · rw [decide_eq_true (by rw [c]), (take_behind u v).mp c]
        · rw [decide_eq_false fun q => c (iw_inj q)]
          cases q : (Rh03.behind u v).isSome with
          | false => rfl
          | true => exact absurd ((take_behind u v).mpr q) c
      rw [e, take_more hv, List.filter_append, List.filter_cons, List.filter_nil]
      cases c : (Rh03.behind u v).isSome with
      | true =>
        refine ifT rfl ⟨_, rfl, _, rfl, a, _, rfl, .inr (SqT.of (s2 _ _ (s1 _ _ ha))), _, rfl, ?_⟩
        dsimp only [tNoPart]
        refine slice_ints (ks := iw v) (s2 _ _ (s1 _ _ hbk)) fun q H3 s3 hq3 => ?_
        rw [List.length_map, iw_len, cut_from, iw_drop] at hq3
        have st : TupsStay H3 (upd H3 D (.lst (cs.map V.ref ++ [V.ref q]))) := fun b ys z => by rw [upd_ne (ne_of z (s3 _ _ (s2 _ _ h1)) (by intro y; cases y))]; exact z
        refine ⟨_, s3 _ _ (s2 _ _ h1), ?_, fun c o z => ?_, cs ++ [q], by rw [upd_same, List.map_append]; rfl, ?_⟩
        · rw [List.length_map, hcl, List.length_map, List.length_map, sizeLine_eq]
          have := List.length_filter_le (fun v => (Rh03.behind u v).isSome) (d.take i)
          rw [List.length_take] at this; omega
        · rw [upd_ne (ne_of_none z hD)]; exact s3 _ _ (s2 _ _ (s1 _ _ z))
        · rw [if_pos rfl, List.map_append]
          have en : nk (((d.take i).filter fun v => (Rh03.behind u v).isSome).map (fun v => v.drop u.length) ++ [v].map fun v => v.drop u.length) = nk (((d.take i).filter fun v => (Rh03.behind u v).isSome).map fun v => v.drop u.length) ++ [iw (v.drop u.length)] := by
            show List.map iw _ = _
            rw [List.map_append]; rfl
          rw [en]
          exact Paired.snoc (paired_stay h2 fun b ys z => st _ _ (s3 _ _ (s2 _ _ z))) (st _ _ hq3)
      | false =>
        refine ifF rfl ⟨Same.trans s1 s2, cs, s2 _ _ h1, ?_⟩
        rw [if_neg Bool.false_ne_true, List.append_nil]
        exact paired_stay h2 (Same.tups s2)
    · rintro H' ⟨s1, cs, h1, h2⟩
      rw [List.length_map, hbl, List.take_length, ← rests_filter] at h2
      refine ⟨D, _, rfl, .inl ⟨SqL.of h1, fun t ht => ?_⟩⟩
      exact k _ t (Same.trans s1 (Same.new ht)) ⟨cs, upd_same, paired_stay h2 (Same.tups (Same.new ht))⟩
end
end Ls
/-! LsE2 -/
namespace Ls
open PySem PySem.Spec PyProof.Rows L2
theorem decI (a b : Int) : decide (V.int a = V.int b) = decide (a = b) := decide_eq_decide.mpr ⟨fun h => by injection h, fun h => by rw [h]⟩
abbrev sTellState : Stmt := top 47
abbrev sTellAfter : Stmt := top 48
def hState : Hn := fun d u => (d, if Rh03.rests d u = [] then [-3] else iw [Rh03.place (Rh03.states d) (Rh03.rests d u)])
def hAfter : Hn := fun d u => (d, if Rh03.rests d u = [] then [-3] else ((Rh03.flag ((Rh03.rests d u).contains []) : Nat) : Int) :: Rh03.told (Rh03.letters (Rh03.rests d u)))
section
variable {P : Program} {w : World} {K : PySem.W.Frag} {mg : Str → Option Value} {base : Heap}
theorem scTellState : FnScope ["words", "given", "rests"] ["words", "given"] (defScope sTellState) := ⟨rfl, rfl, rfl, by decide +kernel, rfl, by decide +kernel, by decide +kernel⟩
theorem ok_tell_state {f : Addr} {fd : FuncData} (F : Fun K "tell_state" "tell_state" sTellState f fd) (T : Names mg) (CR : Callee P w K mg base "rests_behind" 1 ["words", "row"] spRests) (CN : Callee P w K mg base "number_states" 2 ["words"] (spNumber P w)) : FnOk P w K mg base CX0 3 f fd ["words", "given"] (spH P60 hState) := by
  obtain ⟨fN, fdN, GN, mgN, kpN, bN⟩ := CN
  obtain ⟨fR, fdR, GR, mgR, kpR, bR⟩ := CR
  obtain ⟨t3, g3⟩ := T.m3
  refine F.ok scTellState (fun vs H Q E h => ?_) (fun cdv A outer s H vs Q E hr h => ?_)
  · obtain ⟨l, g, d, u, rfl, _⟩ := h
    rfl
  · obtain ⟨l, g, d, u, rfl, hD, hG, hg, hul, k⟩ := h
    have hu := hr4 hr
    have hr1 := hr.mono (show 1 ≤ 2 by decide)
    refine ⟨_, pss_cons (ps_set (i := 2) scTellState.nd rfl (Or.inl rfl) (pe_call GR hr1 rfl mgR kpR bR .nil pass0 (pa_cons (pv 0) (pa_cons (pe_callTy call_tuple_of (by rfl) T.tuple (by decide +kernel) (pa_cons (pv 1) pa_nil)) pa_nil))))
      (pss_cons (ps_if (pt_cmpR op_eq (pe_callB call_len_seq (by rfl) T.len PySem.boot_len (pa_cons (pv 2) pa_nil)) pe_int (nomark _)) (pss_one (ps_ret (pe_lst (pa_cons (pe_glob (v := .int (-3)) (by rfl) g3 ⟨_, rfl⟩) pa_nil)))) pss_nil)
      (pss_one (ps_ret (pe_lst (pa_cons (pe_nget hu (pe_call GN hr rfl mgN kpN bN .nil pass0 (pa_cons (pv 0) pa_nil)) (pv 2) (fun _ _ => rfl)) pa_nil))))), ?_⟩
    refine ⟨_, rfl, _, rfl, g, _, rfl, .inl ⟨SqL.of hg, fun t ht => ?_⟩⟩
    have s1 : Same H (upd H t (.tup (nV u))) := Same.new ht
    have hti : TupI (upd H t (.tup (nV u))) t (iw u) := by show upd H t _ t = _; rw [upd_same, nV_iw]
    generalize upd H t (.tup (nV u)) = H1 at s1 hti ⊢
    refine ⟨l, t, d, u, rfl, hD.stay s1, hti, hul, hG.len, fun H2 q s2 hq => ?_⟩
    have s12 := Same.trans s1 s2
    have hq' := hq
    obtain ⟨bs, hqb, hqp⟩ := hq'
    have hbl : bs.length = (Rh03.rests d u).length := by rw [Paired.length hqp, List.length_map]
    refine ⟨_, rfl, q, _, rfl, .inr (SqT.of hqb), rfl, _, rfl, ?_⟩
    rw [decI, List.length_map, hbl]
    by_cases c : Rh03.rests d u = []
    · refine ifT (decide_eq_true (by rw [c]; rfl)) ⟨by show 1 ≤ sizeLine; decide, fun p hp => ?_⟩
      have e : hState d u = (d, [-3]) := by unfold hState; rw [if_pos c]
      rw [e] at k
      exact k _ p (same_but (Same.trans s12 (Same.new hp)) l) (hD.stay (Same.trans s12 (Same.new hp))) (fresh_of s12 hp) upd_same
    · have hpos : 0 < (Rh03.rests d u).length := pos_of_ne c
      refine ifF (decide_eq_false (by omega)) ?_
      refine ⟨_, rfl, l, d, rfl, hD.stay s12, hG.len, hG.fine, fun H3 n s3 hn N3 => ?_⟩
      obtain ⟨xs, hnn, hnk, hnum⟩ := N3
      have hdne : d ≠ [] := fun z => c (by rw [z]; rfl)
      have hin : Rh03.rests d u ∈ Rh03.states d := rests_in u (states_self hdne) c
      refine ⟨_, rfl, n, V.int ((Rh03.place (Rh03.states d) (Rh03.rests d u) : Nat) : Int), rfl, ⟨xs, nk (Rh03.rests d u), q, .inl hnn, hnk, rfl, hq.stay (Same.tups s3), by rw [hnum.val, if_pos hin]⟩, by show 1 ≤ sizeLine; decide, fun p hp => ?_⟩
      have s4 := Same.trans s12 s3
      have e : hState d u = (d, iw [Rh03.place (Rh03.states d) (Rh03.rests d u)]) := by unfold hState; rw [if_neg c]
      rw [e] at k
      exact k _ p (same_but (Same.trans s4 (Same.new hp)) l) (hD.stay (Same.trans s4 (Same.new hp))) (fresh_of s4 hp) upd_same
theorem scTellAfter : FnScope ["words", "given", "rests", "letters", "link"] ["words", "given"] (defScope sTellAfter) := ⟨rfl, rfl, rfl, by decide +kernel, rfl, by decide +kernel, by decide +kernel⟩
theorem ok_tell_after {f : Addr} {fd : FuncData} (F : Fun K "tell_after" "tell_after" sTellAfter f fd) (T : Names mg) (CR : Callee P w K mg base "rests_behind" 1 ["words", "row"] spRests) (CL : Callee P w K mg base "links_from" 1 ["rests"] spLinks) (CM : Callee P w K mg base "may_end" 1 ["rests"] spMayEnd) : FnOk P w K mg base CX0 2 f fd ["words", "given"] (spH P60 hAfter) := by
  obtain ⟨fL, fdL, GL, mgL, kpL, bL⟩ := CL
  obtain ⟨fM, fdM, GM, mgM, kpM, bM⟩ := CM
  obtain ⟨fR, fdR, GR, mgR, kpR, bR⟩ := CR
  obtain ⟨t3, g3⟩ := T.m3
  refine F.ok scTellAfter (fun vs H Q E h => ?_) (fun cdv A outer s H vs Q E hr h => ?_)
  · obtain ⟨l, g, d, u, rfl, _⟩ := h
    rfl
  · obtain ⟨l, g, d, u, rfl, hD, hG, hg, hul, k⟩ := h
    refine ⟨_, pss_cons (ps_set (i := 2) scTellAfter.nd rfl (Or.inl rfl) (pe_call GR hr rfl mgR kpR bR .nil pass0 (pa_cons (pv 0) (pa_cons (pe_callTy call_tuple_of (by rfl) T.tuple (by decide +kernel) (pa_cons (pv 1) pa_nil)) pa_nil))))
      (pss_cons (ps_if (pt_cmpR op_eq (pe_callB call_len_seq (by rfl) T.len PySem.boot_len (pa_cons (pv 2) pa_nil)) pe_int (nomark _)) (pss_one (ps_ret (pe_lst (pa_cons (pe_glob (v := .int (-3)) (by rfl) g3 ⟨_, rfl⟩) pa_nil)))) pss_nil)
      (pss_cons (ps_setLc (i := 3) (own := [("link", 4)]) (g := gName 4) (tt := tYes) (te := tOp (rIxT K) (tVar 4) (tC (.int 0))) rfl scTellAfter.nd rfl rfl (sw_true rfl rfl rfl (by decide +kernel)) (pi_list (pe_call GL hr rfl mgL kpL bL .nil pass0 (pa_cons (pv 2) pa_nil))) (blkOk_by (N := ["words", "given", "rests", "letters", "link"]) (sc := defScope sTellAfter) (by decide +kernel)) (fun _ _ _ _ _ => pg_name (i := 4) scTellAfter.nd rfl (Or.inl rfl)) (fun _ _ _ _ _ => pts_nil) (fun _ _ _ _ _ => pe_ix ix_tup (pv 4) pe_int (fun _ _ => rfl)))
      (pss_one (ps_ret (pe_op op_cat (pe_lst (pa_cons (pe_ifExp (pt_val (pe_call GM hr rfl mgM kpM bM .nil pass0 (pa_cons (pv 2) pa_nil))) pe_int pe_int) (pa_cons (pe_callB call_len_seq (by rfl) T.len PySem.boot_len (pa_cons (pv 3) pa_nil)) pa_nil))) (pv 3)))))), ?_⟩
    refine ⟨_, rfl, _, rfl, g, _, rfl, .inl ⟨SqL.of hg, fun t ht => ?_⟩⟩
    have s1 : Same H (upd H t (.tup (nV u))) := Same.new ht
    have hti : TupI (upd H t (.tup (nV u))) t (iw u) := by show upd H t _ t = _; rw [upd_same, nV_iw]
    generalize upd H t (.tup (nV u)) = H1 at s1 hti ⊢
    refine ⟨l, t, d, u, rfl, hD.stay s1, hti, hul, hG.len, fun H2 q s2 hq => ?_⟩
    have s12 := Same.trans s1 s2
    have hq' := hq
    obtain ⟨bs, hqb, hqp⟩ := hq'
    have hbl : bs.length = (Rh03.rests d u).length := by rw [Paired.length hqp, List.length_map]
    refine ⟨_, rfl, q, _, rfl, .inr (SqT.of hqb), rfl, _, rfl, ?_⟩
    rw [decI, List.length_map, hbl]
    by_cases c : Rh03.rests d u = []
    · refine ifT (decide_eq_true (by rw [c]; rfl)) ⟨by show 1 ≤ sizeLine; decide, fun p hp => ?_⟩
      have e : hAfter d u = (d, [-3]) := by unfold hAfter; rw [if_pos c]
      rw [e] at k
      exact k _ p (same_but (Same.trans s12 (Same.new hp)) l) (hD.stay (Same.trans s12 (Same.new hp))) (fresh_of s12 hp) upd_same
    · have hpos : 0 < (Rh03.rests d u).length := pos_of_ne c
      refine ifF (decide_eq_false (by omega)) ?_
      have hrl : (Rh03.rests d u).length ≤ 60 := Nat.le_trans (rests_len d u) hG.len
      have hll : (Rh03.letters (Rh03.rests d u)).length ≤ 60 := Nat.le_trans (letters_len _) hrl
      refine ⟨_, rfl, q, Rh03.rests d u, rfl, hq, hrl, hll, fun H3 p3 s3 hp3 L3 => ?_⟩
      obtain ⟨ls, hls, hpl⟩ := L3
      have hlen : ls.length = (Rh03.letters (Rh03.rests d u)).length := Paired.length hpl
      have s13 := Same.trans s12 s3
      refine ⟨p3, rfl, ⟨_, SqL.of hls⟩, fun D hD' => lc_list (K := K) (a := p3) (xs := ls.map V.ref)
          (fun i H' => Same H3 H' ∧ H' D = some (.lst (nV ((Rh03.letters (Rh03.rests d u)).take i)))) ⟨Same.new hD', upd_same⟩ (fun i H' _ h => SqL.of (h.1 _ _ hls)) ?_ ?_⟩
      · rintro i x H' hi ⟨s4, h1⟩
        obtain ⟨b, hb, rfl⟩ := get_map hi
        obtain ⟨a, ha, q5, hbq, _⟩ := paired_get hpl hb
        refine ⟨rfl, _, rfl, b, _, _, _, rfl, rfl, SqT.of (s4 _ _ hbq), atI_nat (j := 0) (v := V.int ((a : Nat) : Int)) rfl, _, h1, ?_, fun b o e => ?_, ?_⟩
        · rw [List.length_map, List.length_take, sizeLine_eq]; omega
        · rw [upd_ne (ne_of_none e hD')]; exact s4 _ _ e
        · rw [upd_same, take_more ha]
          simp [nV]
      · rintro H' ⟨s4, h1⟩
        rw [List.length_map, hlen, List.take_length] at h1
        have s5 := Same.trans s13 s4
        have hDn : H D = none := fresh_of s13 hD'
        refine ⟨_, rfl, q, Rh03.rests d u, rfl, hq.stay (Same.tups (Same.trans s3 s4)), fun H5 s6 => ⟨_, rfl, ?_⟩⟩
        have s7 := Same.trans s5 s6
        have e : hAfter d u = (d, ((Rh03.flag ((Rh03.rests d u).contains []) : Nat) : Int) :: Rh03.told (Rh03.letters (Rh03.rests d u))) := by unfold hAfter; rw [if_neg c]
        rw [e] at k
        have fin : ∀ z : Int, z = ((Rh03.flag ((Rh03.rests d u).contains []) : Nat) : Int) → ∀ p1, H5 p1 = none → ∃ l b xs zs, V.ref p1 = V.ref l ∧ V.ref D = V.ref b ∧ (upd H5 p1 (.lst [V.int z, V.int (((nV (Rh03.letters (Rh03.rests d u))).length : Nat) : Int)])) l = some (.lst xs) ∧ (upd H5 p1 (.lst [V.int z, V.int (((nV (Rh03.letters (Rh03.rests d u))).length : Nat) : Int)])) b = some (.lst zs) ∧ xs.length + zs.length ≤ sizeLine ∧
            ∀ p, (upd H5 p1 (.lst [V.int z, V.int (((nV (Rh03.letters (Rh03.rests d u))).length : Nat) : Int)])) p = none → Q (.ref p) (upd (upd H5 p1 (.lst [V.int z, V.int (((nV (Rh03.letters (Rh03.rests d u))).length : Nat) : Int)])) p (.lst (xs ++ zs))) := by
          intro z hz p1 hp1
          have s8 := Same.new (o := .lst [V.int z, V.int (((nV (Rh03.letters (Rh03.rests d u))).length : Nat) : Int)]) hp1
          refine ⟨p1, D, _, _, rfl, rfl, upd_same, s8 _ _ (s6 _ _ h1), ?_, fun p hp => ?_⟩
          · rw [List.length_map, sizeLine_eq]
            show 2 + _ ≤ _
            omega
          · have s9 := Same.trans s7 s8
            refine k _ p (same_but (Same.trans s9 (Same.new hp)) l) (hD.stay (Same.trans s9 (Same.new hp))) (fresh_of s9 hp) ?_
            rw [upd_same, hz, List.length_map, nV_iw]
            rfl
        cases hc : (Rh03.rests d u).contains [] with
        | true => exact ifT rfl ⟨_, rfl, D, _, rfl, .inl (SqL.of (s6 _ _ h1)), by show 2 ≤ sizeLine; decide, fun p1 hp1 => ⟨_, rfl, fin 1 (by rw [hc]; rfl) p1 hp1⟩⟩
        | false => exact ifF rfl ⟨_, rfl, D, _, rfl, .inl (SqL.of (s6 _ _ h1)), by show 2 ≤ sizeLine; decide, fun p1 hp1 => ⟨_, rfl, fin 0 (by rw [hc]; rfl) p1 hp1⟩⟩
end
end Ls
/-! LsE3 -/
namespace Ls
open PySem PySem.Spec PyProof.Rows L2
abbrev sCuts : Stmt := top 6
abbrev sTellWays : Stmt := top 50
abbrev sTellHead : Stmt := top 51
def spCuts : Sp := fun vs H Q _ => ∃ (l a : Addr) (d : List Word) (u : Word), vs = [.ref l, .ref a] ∧ DictAt H l d ∧ TupI H a (iw u) ∧ u.length ≤ 40 ∧ Good d ∧ ∀ H' : Hp, Same H H' → Q (.int ((Rh03.ways d u : Nat) : Int)) H'
theorem filt_more {α : Type} {p : α → Bool} {d : List α} {m : Nat} {v : α} (hv : d[m]? = some v) : (d.take (m + 1)).filter p = (d.take m).filter p ++ (if p v = true then [v] else []) := by
  rw [take_more hv, List.filter_append, List.filter_cons, List.filter_nil]
theorem cut_neg (ks : List Int) (n : Nat) (hn : 0 < n) : cutI ks (some (-((n : Nat) : Int))) none = ks.drop (ks.length - n) := by
  unfold cutI
  have e : HT.sIx ks.length 0 (some (-((n : Nat) : Int))) = ks.length - n := by
    show (if -((n : Nat) : Int) < 0 then (-((n : Nat) : Int) + (ks.length : Int)).toNat else _) = _
    rw [if_pos (by omega)]
    omega
  rw [HT.sIx_none, e]
  exact List.take_of_length_le (by rw [List.length_drop]; omega)
/-- w is at the end of u -/
def endsW (u w : Word) : Bool := decide (u.length ≥ w.length ∧ u.drop (u.length - w.length) = w)
theorem endsW_dec {u w : Word} : decide (iw (u.drop (u.length - w.length)) = iw w) = endsW u w := by
  unfold endsW
  refine decide_eq_decide.mpr ⟨fun h => ?_, fun h => by rw [h.2]⟩
  have e := iw_inj h
  refine ⟨?_, e⟩
  have := congrArg List.length e
  rw [List.length_drop] at this
  omega
theorem lastW_filter (d : List Word) (f : List Nat → Nat) (u : List Nat) : lastW d f u = ((d.filter (endsW u)).map fun w => f (u.take (u.length - w.length))).sum := by
  unfold lastW
  induction d with
  | nil => rfl
  | cons w d ih =>
    rw [List.map_cons, List.sum_cons, ih, List.filter_cons]
    by_cases c : u.length ≥ w.length ∧ u.drop (u.length - w.length) = w
    · have e : endsW u w = true := decide_eq_true c
      rw [if_pos c, if_pos e, List.map_cons, List.sum_cons]
    · have e : ¬ endsW u w = true := fun z => c (of_decide_eq_true z)
      rw [if_neg c, if_neg e, Nat.zero_add]
section
variable {P : Program} {w : World} {K : PySem.W.Frag} {mg : Str → Option Value} {base : Heap}
theorem scCuts : FnScope ["words", "row", "counts", "behind", "last", "word"] ["words", "row"] (defScope sCuts) := ⟨rfl, rfl, rfl, by decide +kernel, rfl, by decide +kernel, by decide +kernel⟩
theorem ok_cuts {f : Addr} {fd : FuncData} (F : Fun K "count_cuts" "count_cuts" sCuts f fd) (T : Names mg) : FnOk P w K mg base CX0 1 f fd ["words", "row"] spCuts := by
  refine F.ok scCuts (fun vs H Q E h => ?_) (fun cdv A outer s H vs Q E hr h => ?_)
  · obtain ⟨l, a, d, u, rfl, _⟩ := h
    rfl
  · obtain ⟨l, a, d, u, rfl, ⟨bs, hl, hp⟩, ha, hu, hG, k⟩ := h
    have hbl : bs.length = d.length := by rw [Paired.length hp, List.length_map]
    have hd := hG.len
    refine ⟨_, pss_cons (ps_set (i := 2) scCuts.nd rfl (Or.inr rfl) (pe_lst (pa_cons pe_int pa_nil)))
      (pss_cons (ps_for PassesOwn.never rfl (pi_range2 (by rfl) T.range (pa_cons pe_int (pa_cons (pe_op op_add (pe_callB call_len_seq (by rfl) T.len PySem.boot_len (pa_cons (pv 1) pa_nil)) pe_int) pa_nil))) (pg_name (i := 3) scCuts.nd rfl (Or.inr rfl))
        (pss_cons (ps_setLc (i := 4) (own := [("word", 5)]) (g := gName 5) (tt := tTest (tOp rEqW (tSl (rSlA K) (tSl (rSlA K) (tVar 1) tNoPart (tPart (tVar 3))) (tPart (tUn (rU fun i => .int (-i)) (tCB (rLenS K) (tCons (tVar 5) tNil)))) tNoPart) (tVar 5))) (te := tVar 5) rfl scCuts.nd rfl rfl (sw_true rfl rfl rfl (by decide +kernel)) (pi_list (pv 0)) (blkOk_by (N := ["words", "row", "counts", "behind", "last", "word"]) (sc := defScope sCuts) (by decide +kernel)) (fun _ _ _ _ _ => pg_name (i := 5) scCuts.nd rfl (Or.inl rfl))
            (fun _ _ _ _ _ => pts_one (pt_cmpR (op_eqW hr.units) (pe_slice sl_tupA (pe_slice sl_tupA (pv 1) po_none (po_some (pv 3))) (po_some (pe_un un_neg (pe_callB (r := rLenS K) call_len_seq (by rfl) T.len PySem.boot_len (pa_cons (pv 5) pa_nil)))) po_none) (pv 5) (nomark _)))
            (fun _ _ _ _ _ => pv 5))
        (pss_one (ps_expr (pe_bm PySem.F.plainAttrs_list PySem.F.slot_list_append PySem.F.type_list_append mt_append (pv 2) (pa_cons
          (pe_callB (cr_sum rfl) (by rfl) T.sum (by decide +kernel) (pa_cons (pe_lc (own := [("word", 5)]) (g := gName 5) (tt := tYes) (te := tOp (rIxL K) (tVar 2) (tOp (rI0 fun i j => .int (i - j)) (tVar 3) (tCB (rLenS K) (tCons (tVar 5) tNil)))) rfl scCuts.nd (pi_list (pv 4)) (blkOk_by (N := ["words", "row", "counts", "behind", "last", "word"]) (sc := defScope sCuts) (by decide +kernel)) (fun _ _ _ _ _ => pg_name (i := 5) scCuts.nd rfl (Or.inl rfl)) (fun _ _ _ _ _ => pts_nil)
            (fun _ _ _ _ _ => pe_ix ix_list (pv 2) (pe_op op_sub (pv 3) (pe_callB (r := rLenS K) call_len_seq (by rfl) T.len PySem.boot_len (pa_cons (pv 5) pa_nil))) (fun _ _ => rfl))) pa_nil)) pa_nil))))))
      (pss_one (ps_ret (pe_ix ix_list (pv 2) (pe_un un_neg pe_int) (fun _ _ => rfl))))), ?_⟩
    refine ⟨by show 1 ≤ sizeLine; decide, fun C hC => ?_⟩
    have s0 : Same H (upd H C (.lst [V.int 1])) := Same.new hC
    have hC0 : (upd H C (.lst [V.int 1])) C = some (.lst (nV ((List.range 1).map fun i => Rh03.ways d (u.take i)))) := by rw [upd_same]; rfl
    generalize upd H C (.lst [V.int 1]) = H0 at s0 hC0 ⊢
    refine ⟨_, rfl, a, _, rfl, .inr (SqT.of (s0 _ _ ha)), _, _, rfl, rfl, _, _, rfl, ?_, ?_⟩
    · rw [List.length_map, iw_len]
      refine ⟨by decide, by decide, by omega, by omega⟩
    · have en : (((((iw u).map V.int).length : Nat) : Int) + 1 - 1).toNat = u.length := by rw [List.length_map, iw_len]; omega
      rw [en]
      refine for_range (lo := 1) (n := u.length) (fun i σ Hi => ∃ v3 v4, σ = [some (.ref l), some (.ref a), some (.ref C), v3, v4, none] ∧ Same H Hi ∧ Hi C = some (.lst (nV ((List.range (i + 1)).map fun i => Rh03.ways d (u.take i)))))
        ⟨none, none, rfl, s0, hC0⟩ ?_ ?_
      · rintro i σ Hi hi ⟨v3, v4, rfl, si, hCi⟩
        have hUl : (u.take (i + 1)).length = i + 1 := by rw [List.length_take]; omega
        refine ⟨_, rfl, l, rfl, ⟨_, SqL.of (si _ _ hl)⟩, fun D hD => lc_list (K := K) (a := l) (xs := bs.map V.ref)
          (fun m H' => Same Hi H' ∧ ∃ cs : List Addr, H' D = some (.lst (cs.map V.ref)) ∧ Paired (TupI H') cs (nk ((d.take m).filter (endsW (u.take (i + 1)))))) ⟨Same.new hD, [], upd_same, .nil⟩ (fun m H' _ h => SqL.of (h.1 _ _ (si _ _ hl))) ?_ ?_⟩
        · rintro m x H' hm ⟨s1, cs, h1, h2⟩
          obtain ⟨b, hb, rfl⟩ := get_map hm
          obtain ⟨ks, hk, hbk⟩ := paired_get hp hb
          obtain ⟨v, hv, rfl⟩ := get_map hk
          have hvp : 0 < v.length := pos_of_ne (hG.ne v (List.mem_of_getElem? hv))
          have hcl := Paired.length h2
          have sH := Same.trans si s1
          refine ⟨rfl, _, rfl, _, rfl, _, rfl, ?_⟩
          refine slice_ints (ks := iw u) (sH _ _ ha) fun p H2 s2 hp2 => ?_
          have ej : (1 + ((i : Nat) : Int)) = ((i + 1 : Nat) : Int) := by omega
          rw [ej, cut_to, iw_take] at hp2
          refine ⟨_, rfl, b, _, rfl, .inr (SqT.of (s2 _ _ (sH _ _ hbk))), _, rfl, _, rfl, ?_⟩
          dsimp only [tNoPart]
          refine slice_ints (ks := iw (u.take (i + 1))) hp2 fun q H3 s3 hq3 => ?_
          rw [List.length_map, iw_len, cut_neg _ _ hvp, iw_drop, iw_len] at hq3
          have sH3 := Same.trans sH (Same.trans s2 s3)
          refine ⟨_, rfl, q, b, _, iw v, rfl, rfl, hq3, sH3 _ _ hbk, _, rfl, ?_⟩
          rw [endsW_dec]
          have s23 := Same.trans s2 s3
          cases c : endsW (u.take (i + 1)) v with
          | true =>
            refine ifT rfl ⟨_, rfl, _, s23 _ _ h1, ?_, fun c o z => ?_, cs ++ [b], by rw [upd_same, List.map_append]; rfl, ?_⟩
            · rw [List.length_map, hcl, List.length_map, sizeLine_eq]
              have := List.length_filter_le (endsW (u.take (i + 1))) (d.take m)
              rw [List.length_take] at this; omega
            · rw [upd_ne (ne_of_none z hD)]; exact s23 _ _ (s1 _ _ z)
            · have st : TupsStay H3 (upd H3 D (.lst (cs.map V.ref ++ [V.ref b]))) := fun b ys z => by rw [upd_ne (ne_of z (s23 _ _ h1) (by intro y; cases y))]; exact z
              have en : nk ((d.take (m + 1)).filter (endsW (u.take (i + 1)))) = nk ((d.take m).filter (endsW (u.take (i + 1)))) ++ [iw v] := by
                have := filt_more (p := endsW (u.take (i + 1))) hv
                rw [if_pos c] at this
                refine (congrArg nk this).trans ?_
                show List.map iw _ = _
                rw [List.map_append]; rfl
              refine Eq.subst (motive := fun z => Paired (TupI _) _ z) en.symm ?_
              exact Paired.snoc (paired_stay h2 fun b ys z => st _ _ (s23 _ _ z)) (st _ _ (sH3 _ _ hbk))
          | false =>
            refine ifF rfl ⟨Same.trans s1 s23, cs, s23 _ _ h1, ?_⟩
            have en : nk ((d.take (m + 1)).filter (endsW (u.take (i + 1)))) = nk ((d.take m).filter (endsW (u.take (i + 1)))) := by
              have := filt_more (p := endsW (u.take (i + 1))) hv
              rw [if_neg (by rw [c]; exact Bool.false_ne_true), List.append_nil] at this
              exact congrArg nk this
            refine Eq.subst (motive := fun z => Paired (TupI _) _ z) en.symm ?_
            exact paired_stay h2 (Same.tups s23)
        · rintro H1 ⟨s1, cs, h1, h2⟩
          rw [List.length_map, hbl, List.take_length] at h2
          have hcl : cs.length = (d.filter (endsW (u.take (i + 1)))).length := by rw [Paired.length h2, List.length_map]
          have hfl := List.length_filter_le (endsW (u.take (i + 1))) d
          have hC1 := s1 _ _ hCi
          have hDC : D ≠ C := fun z => by rw [z, hCi] at hD; cases hD
          refine ⟨_, rfl, .inl ⟨rfl, _, SqL.of hC1⟩, _, rfl, D, rfl, ⟨_, SqL.of h1⟩, fun D2 hD2 => lc_list (K := K) (a := D) (xs := cs.map V.ref)
            (fun m H' => Same H1 H' ∧ H' D2 = some (.lst (nV (((d.filter (endsW (u.take (i + 1)))).take m).map fun w => Rh03.ways d (u.take (i + 1 - w.length)))))) ⟨Same.new hD2, upd_same⟩ (fun m H' _ h => SqL.of (h.1 _ _ h1)) ?_ ?_⟩
          · rintro m x H' hm ⟨s2, h3⟩
            obtain ⟨b, hb, rfl⟩ := get_map hm
            obtain ⟨ks, hk, hbk⟩ := paired_get h2 hb
            obtain ⟨v, hv, rfl⟩ := get_map hk
            have hve := (List.mem_filter.mp (List.mem_of_getElem? hv)).2
            have hvl : v.length ≤ i + 1 := by
              have := (of_decide_eq_true hve).1
              rw [hUl] at this; exact this
            have hvp : 0 < v.length := pos_of_ne (hG.ne v (List.mem_filter.mp (List.mem_of_getElem? hv)).1)
            refine ⟨rfl, _, rfl, _, rfl, _, rfl, b, _, rfl, .inr (SqT.of (s2 _ _ hbk)), _, _, rfl, rfl, C, _, _, V.int ((Rh03.ways d (u.take (i + 1 - v.length)) : Nat) : Int), rfl, rfl, SqL.of (s2 _ _ hC1), ?_, _, h3, ?_, fun b o e => ?_, ?_⟩
            · rw [List.length_map, iw_len]
              have ej : (1 + ((i : Nat) : Int)) - ((v.length : Nat) : Int) = ((i + 1 - v.length : Nat) : Int) := by omega
              rw [ej]
              refine atI_nat ?_
              show ((List.map _ (List.range (i + 1))).map _)[i + 1 - v.length]? = _
              rw [List.getElem?_map, List.getElem?_map, List.getElem?_range (by omega)]
              rfl
            · rw [List.length_map, List.length_map, List.length_take, sizeLine_eq]; omega
            · rw [upd_ne (ne_of_none e hD2)]; exact s2 _ _ e
            · rw [upd_same, take_more hv]
              simp [nV]
          · rintro H2 ⟨s2, h3⟩
            rw [List.length_map, hcl, List.take_length] at h3
            have hs : ((d.filter (endsW (u.take (i + 1)))).map fun w => Rh03.ways d (u.take (i + 1 - w.length))).sum = Rh03.ways d (u.take (i + 1)) := by
              have hUne : u.take (i + 1) ≠ [] := fun z => by rw [z] at hUl; cases hUl
              rw [ways_last hG.ne (i + 1) (u := u.take (i + 1)) (by omega) hUne, lastW_filter]
              refine sum_congr fun w _ => ?_
              rw [hUl, List.take_take, Nat.min_eq_left (by omega)]
            refine ⟨D2, iw ((d.filter (endsW (u.take (i + 1)))).map fun w => Rh03.ways d (u.take (i + 1 - w.length))), rfl, SqL.of (by rw [h3, nV_iw]), ?_⟩
            have e2 : (iw ((d.filter (endsW (u.take (i + 1)))).map fun w => Rh03.ways d (u.take (i + 1 - w.length)))).sum = ((Rh03.ways d (u.take (i + 1)) : Nat) : Int) := by
              rw [← hs]; exact isum_nat _
            rw [e2]
            refine ⟨C, _, _, rfl, rfl, s2 _ _ hC1, by rw [List.length_map, List.length_map, List.length_range, sizeLine_eq]; omega, _, _, rfl, fun b o z => ?_, ?_⟩
            · rw [upd_ne (ne_of_none z hC)]; exact s2 _ _ (s1 _ _ (si _ _ z))
            · rw [upd_same, List.range_succ (n := i + 1)]
              simp [nV]
      · rintro σ Hi ⟨v3, v4, rfl, si, hCi⟩
        refine ⟨_, rfl, _, rfl, C, _, _, V.int ((Rh03.ways d u : Nat) : Int), rfl, rfl, SqL.of hCi, ?_, k Hi si⟩
        unfold atI ixN
        rw [List.length_map, List.length_map, List.length_range, if_neg (by omega), if_pos (by omega)]
        show (nV ((List.range (u.length + 1)).map fun i => Rh03.ways d (u.take i)))[(-1 + ((u.length + 1 : Nat) : Int)).toNat]? = _
        have e : (-1 + ((u.length + 1 : Nat) : Int)).toNat = u.length := by omega
        rw [e]
        show ((List.map _ (List.range (u.length + 1))).map _)[u.length]? = _
        rw [List.getElem?_map, List.getElem?_map, List.getElem?_range (by omega)]
        show some (V.int ((Rh03.ways d (u.take u.length) : Nat) : Int)) = _
        rw [List.take_length]
end
end Ls
/-! LsE4 -/
namespace Ls
open PySem PySem.Spec PyProof.Rows L2
def hWays : Hn := fun d u => (d, if 40 < u.length then [-1] else iw [Rh03.ways d u])
def hHead : Hn := fun d u => (d, if 40 < u.length then [-1] else match Rh03.head d u with
    | none => [-3]
    | some v => iw [v.length])
section
variable {P : Program} {w : World} {K : PySem.W.Frag} {mg : Str → Option Value} {base : Heap}
theorem scTellWays : FnScope ["words", "given"] ["words", "given"] (defScope sTellWays) := ⟨rfl, rfl, rfl, by decide +kernel, rfl, by decide +kernel, by decide +kernel⟩
theorem ok_tell_ways {f : Addr} {fd : FuncData} (F : Fun K "tell_ways" "tell_ways" sTellWays f fd) (T : Names mg) (T2 : Names2 mg) (CC : Callee P w K mg base "count_cuts" 1 ["words", "row"] spCuts) : FnOk P w K mg base CX0 2 f fd ["words", "given"] (spH P60 hWays) := by
  obtain ⟨fC, fdC, GC, mgC, kpC, bC⟩ := CC
  obtain ⟨t40, g40⟩ := T2.t40
  obtain ⟨t1, g1⟩ := T.m1
  refine F.ok scTellWays (fun vs H Q E h => ?_) (fun cdv A outer s H vs Q E hr h => ?_)
  · obtain ⟨l, g, d, u, rfl, _⟩ := h
    rfl
  · obtain ⟨l, g, d, u, rfl, hD, hG, hg, hul, k⟩ := h
    refine ⟨_, pss_cons (ps_if (pt_cmpR op_gt (pe_callB call_len_seq (by rfl) T.len PySem.boot_len (pa_cons (pv 1) pa_nil)) (pe_glob (v := .int 40) (by rfl) g40 ⟨_, rfl⟩) (nomark _)) (pss_one (ps_ret (pe_lst (pa_cons (pe_glob (v := .int (-1)) (by rfl) g1 ⟨_, rfl⟩) pa_nil)))) pss_nil)
      (pss_one (ps_ret (pe_lst (pa_cons (pe_call GC hr rfl mgC kpC bC .nil pass0 (pa_cons (pv 0) (pa_cons (pe_callTy call_tuple_of (by rfl) T.tuple (by decide +kernel) (pa_cons (pv 1) pa_nil)) pa_nil))) pa_nil)))), ?_⟩
    have eL : (nV u).length = u.length := List.length_map _
    refine ⟨_, rfl, g, _, rfl, .inl (SqL.of hg), _, _, rfl, rfl, _, rfl, ?_⟩
    rw [eL]
    by_cases c : (40 : Int) < u.length
    · refine ifT (decide_eq_true c) ⟨by show 1 ≤ sizeLine; decide, fun p hp => ?_⟩
      have e : hWays d u = (d, [-1]) := by unfold hWays; rw [if_pos (by omega)]
      rw [e] at k
      exact k _ p (same_but (Same.new hp) l) (hD.stay (Same.new hp)) hp upd_same
    · refine ifF (decide_eq_false c) ?_
      refine ⟨_, rfl, _, rfl, g, _, rfl, .inl ⟨SqL.of hg, fun t ht => ?_⟩⟩
      have s1 : Same H (upd H t (.tup (nV u))) := Same.new ht
      have hti : TupI (upd H t (.tup (nV u))) t (iw u) := by show upd H t _ t = _; rw [upd_same, nV_iw]
      generalize upd H t (.tup (nV u)) = H1 at s1 hti ⊢
      refine ⟨l, t, d, u, rfl, hD.stay s1, hti, by omega, hG, fun H2 s2 => ⟨by show 1 ≤ sizeLine; decide, fun p hp => ?_⟩⟩
      have s12 := Same.trans s1 s2
      have e : hWays d u = (d, iw [Rh03.ways d u]) := by unfold hWays; rw [if_neg (by omega)]
      rw [e] at k
      exact k _ p (same_but (Same.trans s12 (Same.new hp)) l) (hD.stay (Same.trans s12 (Same.new hp))) (fresh_of s12 hp) upd_same
theorem scTellHead : FnScope ["words", "given", "row", "lengths", "word"] ["words", "given"] (defScope sTellHead) := ⟨rfl, rfl, rfl, by decide +kernel, rfl, by decide +kernel, by decide +kernel⟩
theorem ok_tell_head {f : Addr} {fd : FuncData} (F : Fun K "tell_head" "tell_head" sTellHead f fd) (T : Names mg) (T2 : Names2 mg) : FnOk P w K mg base CX0 1 f fd ["words", "given"] (spH P60 hHead) := by
  obtain ⟨t40, g40⟩ := T2.t40
  obtain ⟨t1, g1⟩ := T.m1
  obtain ⟨t3, g3⟩ := T.m3
  refine F.ok scTellHead (fun vs H Q E h => ?_) (fun cdv A outer s H vs Q E hr h => ?_)
  · obtain ⟨l, g, d, u, rfl, _⟩ := h
    rfl
  · obtain ⟨l, g, d, u, rfl, hD, hG, hg, hul, k⟩ := h
    refine ⟨_, pss_cons (ps_set (i := 2) scTellHead.nd rfl (Or.inr rfl) (pe_callTy call_tuple_of (by rfl) T.tuple (by decide +kernel) (pa_cons (pv 1) pa_nil)))
      (pss_cons (ps_if (pt_cmpR op_gt (pe_callB call_len_seq (by rfl) T.len PySem.boot_len (pa_cons (pv 2) pa_nil)) (pe_glob (v := .int 40) (by rfl) g40 ⟨_, rfl⟩) (nomark _)) (pss_one (ps_ret (pe_lst (pa_cons (pe_glob (v := .int (-1)) (by rfl) g1 ⟨_, rfl⟩) pa_nil)))) pss_nil)
      (pss_cons (ps_setLc (i := 3) (own := [("word", 4)]) (g := gName 4) (tt := tTest (tOp rEqW (tSl (rSlA K) (tVar 2) tNoPart (tPart (tCB (rLenS K) (tCons (tVar 4) tNil)))) (tVar 4))) (te := tCB (rLenS K) (tCons (tVar 4) tNil)) rfl scTellHead.nd rfl rfl (sw_true rfl rfl rfl (by decide +kernel)) (pi_list (pv 0)) (blkOk_by (N := ["words", "given", "row", "lengths", "word"]) (sc := defScope sTellHead) (by decide +kernel)) (fun _ _ _ _ _ => pg_name (i := 4) scTellHead.nd rfl (Or.inl rfl))
        (fun _ _ _ _ _ => pts_one (pt_cmpR (op_eqW hr.units) (pe_slice sl_tupA (pv 2) po_none (po_some (pe_callB (r := rLenS K) call_len_seq (by rfl) T.len PySem.boot_len (pa_cons (pv 4) pa_nil)))) (pv 4) (nomark _)))
        (fun _ _ _ _ _ => pe_callB (r := rLenS K) call_len_seq (by rfl) T.len PySem.boot_len (pa_cons (pv 4) pa_nil)))
      (pss_cons (ps_if (pt_cmpR op_eq (pe_callB call_len_seq (by rfl) T.len PySem.boot_len (pa_cons (pv 3) pa_nil)) pe_int (nomark _)) (pss_one (ps_ret (pe_lst (pa_cons (pe_glob (v := .int (-3)) (by rfl) g3 ⟨_, rfl⟩) pa_nil)))) pss_nil)
      (pss_one (ps_ret (pe_lst (pa_cons (pe_callB (cr_max rfl) (by rfl) T2.max (by decide +kernel) (pa_cons (pv 3) pa_nil)) pa_nil))))))), ?_⟩
    refine ⟨_, rfl, g, _, rfl, .inl ⟨SqL.of hg, fun t ht => ?_⟩⟩
    have s1 : Same H (upd H t (.tup (nV u))) := Same.new ht
    have hti : TupI (upd H t (.tup (nV u))) t (iw u) := by show upd H t _ t = _; rw [upd_same, nV_iw]
    generalize upd H t (.tup (nV u)) = H1 at s1 hti ⊢
    refine ⟨_, rfl, t, _, rfl, .inr (SqT.of hti), _, _, rfl, rfl, _, rfl, ?_⟩
    rw [List.length_map, iw_len]
    by_cases c : (40 : Int) < u.length
    · refine ifT (decide_eq_true c) ⟨by show 1 ≤ sizeLine; decide, fun p hp => ?_⟩
      have e : hHead d u = (d, [-1]) := by unfold hHead; rw [if_pos (by omega)]
      rw [e] at k
      exact k _ p (same_but (Same.trans s1 (Same.new hp)) l) (hD.stay (Same.trans s1 (Same.new hp))) (fresh_of s1 hp) upd_same
    · refine ifF (decide_eq_false c) ?_
      obtain ⟨bs, hl, hp⟩ := hD.stay s1
      have hbl : bs.length = d.length := by rw [Paired.length hp, List.length_map]
      have hd := hG.len
      refine ⟨_, rfl, l, rfl, ⟨_, SqL.of hl⟩, fun D hDn => lc_list (K := K) (a := l) (xs := bs.map V.ref)
          (fun i H' => Same H1 H' ∧ H' D = some (.lst (nV (((d.take i).filter fun v => (Rh03.behind v u).isSome).map List.length)))) ⟨Same.new hDn, upd_same⟩ (fun i H' _ h => SqL.of (h.1 _ _ hl)) ?_ ?_⟩
      · rintro i x H' hi ⟨s2, h1⟩
        obtain ⟨b, hb, rfl⟩ := get_map hi
        obtain ⟨ks, hk, hbk⟩ := paired_get hp hb
        obtain ⟨v, hv, rfl⟩ := get_map hk
        refine ⟨rfl, _, rfl, _, rfl, b, _, rfl, .inr (SqT.of (s2 _ _ hbk)), _, rfl, slice_ints (ks := iw u) (s2 _ _ hti) fun p H2 s3 hp2 => ?_⟩
        rw [List.length_map, iw_len, cut_to, iw_take] at hp2
        refine ⟨_, rfl, p, b, _, iw v, rfl, rfl, hp2, s3 _ _ (s2 _ _ hbk), _, rfl, ?_⟩
        have e : decide (iw (u.take v.length) = iw v) = (Rh03.behind v u).isSome := by
          by_cases c : u.take v.length = v
          · rw [decide_eq_true (by rw [c]), (take_behind v u).mp c]
          · rw [decide_eq_false fun q => c (iw_inj q)]
            cases q : (Rh03.behind v u).isSome with
            | false => rfl
            | true => exact absurd ((take_behind v u).mpr q) c
        rw [e]
        have fm := filt_more (p := fun v => (Rh03.behind v u).isSome) hv
        have fl := List.length_filter_le (fun v => (Rh03.behind v u).isSome) (d.take i)
        rw [List.length_take] at fl
        cases c2 : (Rh03.behind v u).isSome with
        | true =>
          rw [if_pos c2] at fm
          refine ifT rfl ⟨_, rfl, b, _, rfl, .inr (SqT.of (s3 _ _ (s2 _ _ hbk))), _, s3 _ _ h1, ?_, fun b o z => ?_, ?_⟩
          · rw [List.length_map, List.length_map, sizeLine_eq]; omega
          · rw [upd_ne (ne_of_none z hDn)]; exact s3 _ _ (s2 _ _ z)
          · rw [upd_same]
            have en : nV (((d.take (i + 1)).filter fun v => (Rh03.behind v u).isSome).map List.length) = nV (((d.take i).filter fun v => (Rh03.behind v u).isSome).map List.length) ++ [V.int ((v.length : Nat) : Int)] := by
              refine (congrArg (fun z => nV (List.map List.length z)) fm).trans ?_
              simp [nV]
            rw [List.length_map, iw_len]
            exact congrArg (fun z => some (HO.lst z)) en.symm
        | false =>
          rw [if_neg (by rw [c2]; exact Bool.false_ne_true), List.append_nil] at fm
          refine ifF rfl ⟨Same.trans s2 s3, ?_⟩
          refine (s3 _ _ h1).trans ?_
          exact congrArg (fun z => some (HO.lst (nV (List.map List.length z)))) fm.symm
      · rintro H2 ⟨s2, h1⟩
        rw [List.length_map, hbl, List.take_length] at h1
        have s12 := Same.trans s1 s2
        refine ⟨_, rfl, D, _, rfl, .inl (SqL.of h1), rfl, _, rfl, ?_⟩
        rw [decI, List.length_map, List.length_map]
        cases hh : Rh03.head d u with
        | none =>
          have e0 := head_none hh
          refine ifT (decide_eq_true (by rw [e0]; rfl)) ⟨by show 1 ≤ sizeLine; decide, fun p hp => ?_⟩
          have e : hHead d u = (d, [-3]) := by unfold hHead; rw [if_neg (by omega), hh]
          rw [e] at k
          exact k _ p (same_but (Same.trans s12 (Same.new hp)) l) (hD.stay (Same.trans s12 (Same.new hp))) (fresh_of s12 hp) upd_same
        | some v =>
          obtain ⟨hv1, hv2⟩ := head_some hG.srt hh
          have hpos : 0 < (d.filter fun v => (Rh03.behind v u).isSome).length := List.length_pos_of_mem hv1
          refine ifF (decide_eq_false (by omega)) ?_
          refine ⟨_, rfl, D, iw ((d.filter fun v => (Rh03.behind v u).isSome).map List.length), rfl, SqL.of (by rw [h1, nV_iw]), by rw [iw_len, List.length_map]; exact hpos, fun m hm1 hm2 => ⟨by show 1 ≤ sizeLine; decide, fun p hp => ?_⟩⟩
          have em : m = ((v.length : Nat) : Int) := by
            obtain ⟨n, hn, rfl⟩ := List.mem_map.mp hm1
            obtain ⟨x, hx, rfl⟩ := List.mem_map.mp hn
            have h3 := hv2 x hx
            have h4 := hm2 ((v.length : Nat) : Int) (List.mem_map.mpr ⟨v.length, List.mem_map.mpr ⟨v, hv1, rfl⟩, rfl⟩)
            omega
          have e : hHead d u = (d, iw [v.length]) := by unfold hHead; rw [if_neg (by omega), hh]
          rw [e] at k
          rw [em]
          exact k _ p (same_but (Same.trans s12 (Same.new hp)) l) (hD.stay (Same.trans s12 (Same.new hp))) (fresh_of s12 hp) upd_same
end
end Ls
/-! LsE5 -/
namespace Ls
open PySem PySem.Spec PyProof.Rows L2
abbrev sIsOf : Stmt := top 5
abbrev sTellFits : Stmt := top 49
def spIsOf : Sp := fun vs H Q _ => ∃ (b g : Addr) (v : Word) (p : List Nat), vs = [.ref b, .ref g] ∧ TupI H b (iw v) ∧ H g = some (.lst (nV p)) ∧ v.length ≤ 8 ∧ ∀ H' : Hp, Same H H' → Q (.bl (Rh03.fits p v)) H'
theorem inV_nat (n : Nat) : ∀ L : List Nat, inV (V.int ((n : Nat) : Int)) (nV L) = L.contains n
  | [] => rfl
  | x :: L => by
    show (eqV (V.int ((x : Nat) : Int)) (V.int ((n : Nat) : Int)) || inV (V.int ((n : Nat) : Int)) (nV L)) = _
    rw [inV_nat n L, List.contains_cons]
    congr 1
    show decide (((x : Nat) : Int) = ((n : Nat) : Int)) = _
    by_cases e : n = x
    · subst e; simp
    · rw [decide_eq_false (by omega)]
      exact (beq_eq_false_iff_ne.mpr e).symm
theorem flat_nat : ∀ L : List Nat, (nV L).all flatV = true
  | [] => rfl
  | x :: L => by
    show (flatV (V.int _) && (nV L).all flatV) = true
    rw [flat_nat L]; rfl
theorem rgV_nat (lo n : Nat) : rgV ((lo : Nat) : Int) ((n : Nat) : Int) = nV (List.range' lo (n - lo)) := by
  unfold rgV
  have e : (((n : Nat) : Int) - ((lo : Nat) : Int)).toNat = n - lo := by omega
  rw [e, List.range'_eq_map_range]
  show _ = (List.map _ _).map _
  rw [List.map_map]
  refine List.map_congr_left fun i _ => ?_
  show V.int _ = V.int _
  congr 1
section
variable {P : Program} {w : World} {K : PySem.W.Frag} {mg : Str → Option Value} {base : Heap}
theorem scIsOf : FnScope ["word", "pattern", "lengths", "sign", "within", "length"] ["word", "pattern"] (defScope sIsOf) := ⟨rfl, rfl, rfl, by decide +kernel, rfl, by decide +kernel, by decide +kernel⟩
theorem ok_is_of {f : Addr} {fd : FuncData} (F : Fun K "is_of_pattern" "is_of_pattern" sIsOf f fd) (T : Names mg) (T2 : Names2 mg) : FnOk P w K mg base CX0 1 f fd ["word", "pattern"] spIsOf := by
  obtain ⟨t27, g27⟩ := T2.a27
  obtain ⟨t0, g0⟩ := T2.a0
  refine F.ok scIsOf (fun vs H Q E h => ?_) (fun cdv A outer s H vs Q E hr h => ?_)
  · obtain ⟨b, g, v, p, rfl, _⟩ := h
    rfl
  · obtain ⟨b, g, v, p, rfl, hb, hg, hv8, k⟩ := h
    refine ⟨_, pss_cons (ps_set (i := 2) scIsOf.nd rfl (Or.inl rfl) (pe_lst (pa_cons pe_int pa_nil)))
      (pss_cons (ps_for PassesOwn.never rfl (pi_list (pv 1)) (pg_name (i := 3) scIsOf.nd rfl (Or.inr rfl))
        (pss_cons (ps_if (pt_cmpR op_eq (pe_callB call_len_seq (by rfl) T.len PySem.boot_len (pa_cons (pv 2) pa_nil)) pe_int (nomark _)) (pss_one (ps_ret pe_bl)) pss_nil)
        (pss_one (ps_if (pt_cmpR op_eq (pv 3) (pe_glob (v := .int 27) (by rfl) g27 ⟨_, rfl⟩) (nomark _))
          (pss_one (ps_set (i := 2) scIsOf.nd rfl (Or.inl rfl) (pe_listRg rfl (by rfl) T.list (prg_2 (by rfl) T.range (pe_ix ix_list (pv 2) pe_int (fun _ _ => rfl)) (pe_op op_add (pe_callB call_len_seq (by rfl) T.len PySem.boot_len (pa_cons (pv 0) pa_nil)) pe_int)))))
          (pss_cons (ps_setLc (i := 4) (own := [("length", 5)]) (g := gName 5) (tt := tTest (tOp (rI0 fun i j => .bl (decide (i < j))) (tVar 5) (tCB (rLenS K) (tCons (tVar 0) tNil)))) (te := tVar 5) rfl scIsOf.nd rfl rfl (sw_true rfl rfl rfl (by decide +kernel)) (pi_list (pv 2)) (blkOk_by (N := ["word", "pattern", "lengths", "sign", "within", "length"]) (sc := defScope sIsOf) (by decide +kernel)) (fun _ _ _ _ _ => pg_name (i := 5) scIsOf.nd rfl (Or.inl rfl))
              (fun _ _ _ _ _ => pts_one (pt_cmpR op_lt (pv 5) (pe_callB (r := rLenS K) call_len_seq (by rfl) T.len PySem.boot_len (pa_cons (pv 0) pa_nil)) (nomark _))) (fun _ _ _ _ _ => pv 5))
          (pss_one (ps_setLc (i := 2) (own := [("length", 5)]) (g := gName 5) (tt := tOr (tTest (tOp rEq (tVar 3) (tC (.int 0)))) (tTest (tOp rEq (tVar 3) (tOp (rIxT K) (tVar 0) (tVar 5))))) (te := tOp (rI0 fun i j => .int (i + j)) (tVar 5) (tC (.int 1))) rfl scIsOf.nd rfl rfl (sw_true rfl rfl rfl (by decide +kernel)) (pi_list (pv 4)) (blkOk_by (N := ["word", "pattern", "lengths", "sign", "within", "length"]) (sc := defScope sIsOf) (by decide +kernel)) (fun _ _ _ _ _ => pg_name (i := 5) scIsOf.nd rfl (Or.inl rfl))
              (fun _ _ _ _ _ => pts_one (PW.pt (pw_or (pt_cmpR op_eq (pv 3) (pe_glob (v := .int 0) (by rfl) g0 ⟨_, rfl⟩) (nomark _)) (pw_or1 (pt_cmpR op_eq (pv 3) (pe_ix ix_tup (pv 0) (pv 5) (fun _ _ => rfl)) (nomark _))))))
              (fun _ _ _ _ _ => pe_op op_add (pv 5) pe_int))))))))
      (pss_one (ps_ret (pe_cmpR op_in_seq (pe_callB call_len_seq (by rfl) T.len PySem.boot_len (pa_cons (pv 0) pa_nil)) (pv 2) (by rfl))))), ?_⟩
    refine ⟨by show 1 ≤ sizeLine; decide, fun C hC => ?_⟩
    have s0 : Same H (upd H C (.lst [V.int 0])) := Same.new hC
    have hC0 : (upd H C (.lst [V.int 0])) C = some (.lst (nV [0])) := by rw [upd_same]; rfl
    generalize upd H C (.lst [V.int 0]) = H0 at s0 hC0 ⊢
    refine ⟨_, rfl, g, rfl, ⟨_, SqL.of (s0 _ _ hg)⟩, for_list (K := K) (a := g) (xs := nV p)
      (fun i σ Hi => ∃ v3 v4 C, σ = [some (.ref b), some (.ref g), some (.ref C), v3, v4, none] ∧ Same H Hi ∧ Hi C = some (.lst (nV ((p.take i).foldl (stepP v) [0]))) ∧ Lens v ((p.take i).foldl (stepP v) [0]))
      ⟨none, none, C, rfl, s0, hC0, lens_start v⟩ (fun i σ Hi _ ⟨_, _, _, _, s1, _⟩ => SqL.of (s1 _ _ hg)) ?_ ?_⟩
    · rintro i x σ Hi hi ⟨v3, v4, C, rfl, si, hCi, hLi⟩
      obtain ⟨z, hz, rfl⟩ := get_map hi
      have ef : (p.take (i + 1)).foldl (stepP v) [0] = stepP v ((p.take i).foldl (stepP v) [0]) z := by rw [take_more hz, List.foldl_append]; rfl
      have hLn := stepP_len hLi
      generalize hL : (p.take i).foldl (stepP v) [0] = L at hCi hLi ef hLn
      refine ⟨_, rfl, C, _, rfl, .inl (SqL.of hCi), rfl, _, rfl, ?_⟩
      rw [decI, List.length_map]
      by_cases c0 : L = []
      · refine ifT (decide_eq_true (by rw [c0]; rfl)) ?_
        have e : Rh03.fits p v = false := by
          rw [← fits_fold]
          have : p.foldl (stepP v) [0] = (p.drop i).foldl (stepP v) ((p.take i).foldl (stepP v) [0]) := by
            rw [← List.foldl_append, List.take_append_drop]
          rw [this, hL, c0, stepP_nil]; rfl
        rw [e] at k
        exact k Hi si
      · have hpos := pos_of_ne c0
        refine ifF (decide_eq_false (by omega)) ⟨_, rfl, rfl, _, rfl, ?_⟩
        rw [decI]
        obtain ⟨l0, Lr, eL0⟩ : ∃ l0 Lr, L = l0 :: Lr := by
          cases L with
          | nil => exact absurd rfl c0
          | cons a r => exact ⟨a, r, rfl⟩
        have hl0 : l0 ≤ v.length := hLi.le l0 (by rw [eL0]; exact List.mem_cons_self)
        by_cases c1 : z = 27
        · refine ifT (decide_eq_true (by omega)) ?_
          refine ⟨_, rfl, C, _, _, V.int ((l0 : Nat) : Int), rfl, rfl, SqL.of hCi, atI_nat (j := 0) (by rw [eL0]; rfl), _, rfl, b, _, rfl, .inr (SqT.of (si _ _ hb)), _, _, rfl, rfl, _, _, rfl, rfl, ?_, fun q hq => ?_⟩
          · rw [List.length_map, iw_len]
            refine ⟨by omega, by omega, by omega, by omega, ?_⟩
            have : (((v.length : Nat) : Int) + 1 - ((l0 : Nat) : Int)).toNat ≤ 9 := by omega
            exact Nat.le_trans this (by decide)
          · rw [List.length_map, iw_len]
            have e1 : ((v.length : Nat) : Int) + 1 = ((v.length + 1 : Nat) : Int) := by omega
            rw [e1, rgV_nat]
            refine ⟨_, _, q, rfl, Same.trans si (Same.new hq), ?_, ?_⟩
            · rw [upd_same, ef]
              unfold stepP
              rw [if_neg c0, if_pos c1, eL0]
              rfl
            · rw [ef]; exact hLi.step z
        · refine ifF (decide_eq_false (by omega)) ?_
          refine ⟨_, rfl, C, rfl, ⟨_, SqL.of hCi⟩, fun D hD => lc_list (K := K) (a := C) (xs := nV L)
            (fun m H' => Same Hi H' ∧ H' D = some (.lst (nV ((L.take m).filter fun l => decide (l < v.length))))) ⟨Same.new hD, upd_same⟩ (fun m H' _ h => SqL.of (h.1 _ _ hCi)) ?_ ?_⟩
          · rintro m x H' hm ⟨s1, h1⟩
            obtain ⟨y, hy, rfl⟩ := get_map hm
            have fm := filt_more (p := fun l => decide (l < v.length)) hy
            have fl := List.length_filter_le (fun l => decide (l < v.length)) (L.take m)
            rw [List.length_take] at fl
            refine ⟨rfl, _, rfl, _, rfl, b, _, rfl, .inr (SqT.of (s1 _ _ (si _ _ hb))), _, _, rfl, rfl, _, rfl, ?_⟩
            rw [List.length_map, iw_len]
            have ed : decide (((y : Nat) : Int) < ((v.length : Nat) : Int)) = decide (y < v.length) := decide_eq_decide.mpr (by omega)
            rw [ed]
            cases c2 : decide (y < v.length) with
            | true =>
              rw [if_pos c2] at fm
              refine ifT rfl ⟨_, rfl, _, h1, ?_, fun b o z => ?_, ?_⟩
              · rw [List.length_map, sizeLine_eq]; omega
              · rw [upd_ne (ne_of_none z hD)]; exact s1 _ _ z
              · rw [upd_same, fm]; simp [nV]
            | false =>
              rw [if_neg (by rw [c2]; exact Bool.false_ne_true), List.append_nil] at fm
              refine ifF rfl ⟨s1, ?_⟩
              rw [fm]; exact h1
          · rintro H1 ⟨s1, h1⟩
            have eL2 : (nV L).length = L.length := List.length_map _
            rw [eL2, List.take_length] at h1
            have fl := List.length_filter_le (fun l => decide (l < v.length)) L
            have sH1 := Same.trans si s1
            generalize hW : (L.filter fun l => decide (l < v.length)) = W at h1 fl
            refine ⟨_, rfl, D, rfl, ⟨_, SqL.of h1⟩, fun D2 hD2 => lc_list (K := K) (a := D) (xs := nV W)
              (fun m H' => Same H1 H' ∧ H' D2 = some (.lst (nV (((W.take m).filter (okS v z)).map (· + 1))))) ⟨Same.new hD2, upd_same⟩ (fun m H' _ h => SqL.of (h.1 _ _ h1)) ?_ ?_⟩
            · rintro m x H' hm ⟨s2, h2⟩
              obtain ⟨y, hy, rfl⟩ := get_map hm
              have hyW := List.mem_of_getElem? hy
              have hyl : y < v.length := by
                rw [← hW] at hyW
                exact of_decide_eq_true (List.mem_filter.mp hyW).2
              have fm := filt_more (p := okS v z) hy
              have fl2 := List.length_filter_le (okS v z) (W.take m)
              rw [List.length_take] at fl2
              have sH2 := Same.trans sH1 s2
              have yes : okS v z y = true → ∃ vv, (V.int ((y : Nat) : Int) = V.int vv) ∧ ∃ acc, H' D2 = some (.lst acc) ∧ acc.length < sizeLine ∧ (Same H1 (upd H' D2 (.lst (acc ++ [V.int (vv + 1)]))) ∧ (upd H' D2 (.lst (acc ++ [V.int (vv + 1)]))) D2 = some (.lst (nV (((W.take (m + 1)).filter (okS v z)).map (· + 1))))) := by
                intro c2
                rw [if_pos c2] at fm
                refine ⟨_, rfl, _, h2, ?_, fun b o z => ?_, ?_⟩
                · rw [List.length_map, List.length_map, sizeLine_eq]; omega
                · rw [upd_ne (ne_of_none z hD2)]; exact s2 _ _ z
                · rw [upd_same, fm]; simp [nV]
              have no : okS v z y = false → Same H1 H' ∧ H' D2 = some (.lst (nV (((W.take (m + 1)).filter (okS v z)).map (· + 1)))) := by
                intro c2
                rw [if_neg (by rw [c2]; exact Bool.false_ne_true), List.append_nil] at fm
                rw [fm]; exact ⟨s2, h2⟩
              refine ⟨rfl, _, rfl, rfl, _, rfl, ?_⟩
              rw [decI]
              by_cases cz : z = 0
              · have c2 : okS v z y = true := by unfold okS; rw [cz]; rfl
                obtain ⟨vv, e1, acc, e2⟩ := yes c2
                cases e1
                refine ifT (decide_eq_true (by omega)) (ifT rfl ⟨_, rfl, _, _, rfl, rfl, acc, e2⟩)
              · refine ifF (decide_eq_false (by omega)) ?_
                have hget : v[y]? = some v[y] := List.getElem?_eq_getElem hyl
                have hgD : v.getD y 0 = v[y] := by rw [List.getD_eq_getElem?_getD, hget]; rfl
                refine ⟨_, rfl, _, rfl, _, rfl, b, _, _, V.int ((v[y] : Nat) : Int), rfl, rfl, SqT.of (sH2 _ _ hb), atI_nat ?_, rfl, _, rfl, ?_⟩
                · show ((List.map _ v).map _)[y]? = _
                  rw [List.getElem?_map, List.getElem?_map, hget]; rfl
                · rw [decI]
                  have eo : okS v z y = decide (((z : Nat) : Int) = ((v[y] : Nat) : Int)) := by
                    unfold okS
                    rw [hgD]
                    have : (z == 0) = false := beq_eq_false_iff_ne.mpr cz
                    rw [this, Bool.false_or]
                    by_cases q : z = v[y]
                    · rw [decide_eq_true (by omega)]; exact beq_iff_eq.mpr q
                    · rw [decide_eq_false (by omega)]; exact beq_eq_false_iff_ne.mpr q
                  rw [← eo]
                  cases c2 : okS v z y with
                  | true =>
                    obtain ⟨vv, e1, acc, e2⟩ := yes c2
                    cases e1
                    exact ifT rfl ⟨_, rfl, _, _, rfl, rfl, acc, e2⟩
                  | false => exact ifF rfl (no c2)
            · rintro H2 ⟨s2, h2⟩
              have eL3 : (nV W).length = W.length := List.length_map _
              rw [eL3, List.take_length] at h2
              refine ⟨_, _, D2, rfl, Same.trans sH1 s2, ?_, ?_⟩
              · rw [ef]
                unfold stepP
                rw [if_neg c0, if_neg c1, hW]
                exact h2
              · rw [ef]; exact hLi.step z
    · rintro σ Hi ⟨v3, v4, C, rfl, si, hCi, hLi⟩
      have eL : (nV p).length = p.length := List.length_map _
      rw [eL, List.take_length] at hCi
      refine ⟨_, rfl, b, _, rfl, .inr (SqT.of (si _ _ hb)), _, rfl, C, _, rfl, .inl (SqL.of hCi), rfl, flat_nat _, ?_⟩
      rw [List.length_map, iw_len]
      show Q (V.bl (inV _ _)) Hi
      rw [inV_nat, fits_fold]
      exact k Hi si
end
end Ls
/-! LsE6 -/
namespace Ls
open PySem PySem.Spec PyProof.Rows L2
def PFits (u : List Nat) : Prop := ∃ n k p, u = n :: k :: p ∧ p.length ≤ 20 ∧ n ≤ 4294967295 ∧ k ≤ 4294967295
def hFits : Hn := fun d u => (d, if okP (u.drop 2) = false then [-1] else (((Rh03.matches_ d (u.getD 0 0) (u.drop 2)).length : Nat) : Int) :: Rh03.told ((Rh03.matches_ d (u.getD 0 0) (u.drop 2)).take (u.getD 1 0)))
theorem matches_range (d : List Word) (n : Nat) (p : List Nat) : Rh03.matches_ d n p = (List.range' n (d.length - n)).filter fun i => Rh03.fits p (d.getD i []) := by
  unfold Rh03.matches_
  by_cases h : n ≤ d.length
  · have e : List.range d.length = List.range' 0 n ++ List.range' n (d.length - n) := by
      rw [List.range_eq_range']
      have := List.range'_append_1 (s := 0) (m := n) (n := d.length - n)
      rw [Nat.zero_add] at this
      rw [this, Nat.add_sub_cancel' h]
    rw [e, List.filter_append]
    have e1 : (List.range' 0 n).filter (fun i => decide (n ≤ i) && Rh03.fits p (d.getD i [])) = [] := by
      rw [List.filter_eq_nil_iff]
      intro i hi
      rw [List.mem_range'_1] at hi
      rw [decide_eq_false (by omega)]
      simp
    rw [e1, List.nil_append]
    refine List.filter_congr fun i hi => ?_
    rw [List.mem_range'_1] at hi
    rw [decide_eq_true (by omega), Bool.true_and]
  · have e1 : d.length - n = 0 := by omega
    rw [e1]
    show _ = []
    rw [List.filter_eq_nil_iff]
    intro i hi
    rw [List.mem_range] at hi
    rw [decide_eq_false (by omega)]
    simp
theorem cutV_from (ks : List V) (n : Nat) : cutV ks (some (n : Int)) none = ks.drop n := by
  unfold cutV
  rw [HT.sIx_none, HT.sIx_nat]
  by_cases h : n ≤ ks.length
  · rw [Nat.min_eq_left h, List.take_of_length_le (by rw [List.length_drop]; exact Nat.le_refl _)]
  · rw [Nat.min_eq_right (by omega), Nat.sub_self, List.take_zero, List.drop_eq_nil_iff.mpr (by omega)]
theorem cutV_to (ks : List V) (n : Nat) : cutV ks none (some (n : Int)) = ks.take n := by
  unfold cutV
  rw [HT.sIx_none, HT.sIx_nat, List.drop_zero, Nat.sub_zero]
  by_cases h : n ≤ ks.length
  · rw [Nat.min_eq_left h]
  · rw [Nat.min_eq_right (by omega), List.take_of_length_le (Nat.le_refl _), List.take_of_length_le (by omega)]
section
variable {P : Program} {w : World} {K : PySem.W.Frag} {mg : Str → Option Value} {base : Heap}
theorem scTellFits : FnScope ["words", "given", "first", "most", "pattern", "found", "told", "number"] ["words", "given"] (defScope sTellFits) := ⟨rfl, rfl, rfl, by decide +kernel, rfl, by decide +kernel, by decide +kernel⟩
theorem ok_tell_fits {f : Addr} {fd : FuncData} (F : Fun K "tell_fits" "tell_fits" sTellFits f fd) (T : Names mg) (CP : Callee P w K mg base "is_pattern" 1 ["row"] spIsPat) (CO : Callee P w K mg base "is_of_pattern" 1 ["word", "pattern"] spIsOf) : FnOk P w K mg base CX0 2 f fd ["words", "given"] (spH PFits hFits) := by
  obtain ⟨fP, fdP, GP, mgP, kpP, bP⟩ := CP
  obtain ⟨fO, fdO, GO, mgO, kpO, bO⟩ := CO
  obtain ⟨t1, g1⟩ := T.m1
  refine F.ok scTellFits (fun vs H Q E h => ?_) (fun cdv A outer s H vs Q E hr h => ?_)
  · obtain ⟨l, g, d, u, rfl, _⟩ := h
    rfl
  · obtain ⟨l, g, d, u, rfl, hD, hG, hg, ⟨n, kk, p, rfl, hpl, hn, hkk⟩, k⟩ := h
    refine ⟨_, pss_cons (ps_set (i := 2) scTellFits.nd rfl (Or.inl rfl) (pe_ix ix_list (pv 1) pe_int (fun _ _ => rfl)))
      (pss_cons (ps_set (i := 3) scTellFits.nd rfl (Or.inl rfl) (pe_ix ix_list (pv 1) pe_int (fun _ _ => rfl)))
      (pss_cons (ps_set (i := 4) scTellFits.nd rfl (Or.inr rfl) (pe_slice sl_list (pv 1) (po_some pe_int) po_none))
      (pss_cons (ps_if (pt_not (pt_val (pe_call GP hr rfl mgP kpP bP .nil pass0 (pa_cons (pv 4) pa_nil)))) (pss_one (ps_ret (pe_lst (pa_cons (pe_glob (v := .int (-1)) (by rfl) g1 ⟨_, rfl⟩) pa_nil)))) pss_nil)
      (pss_cons (ps_setLc (i := 5) (own := [("number", 7)]) (g := gName 7) (tt := tTest (tCall spIsOf [] E0 (tCons (tOp (rIxL K) (tVar 0) (tVar 7)) (tCons (tVar 4) tNil)))) (te := tVar 7) rfl scTellFits.nd rfl rfl (sw_true rfl rfl rfl (by decide +kernel)) (pi_range2 (by rfl) T.range (pa_cons (pv 2) (pa_cons (pe_callB call_len_seq (by rfl) T.len PySem.boot_len (pa_cons (pv 0) pa_nil)) pa_nil))) (blkOk_by (N := ["words", "given", "first", "most", "pattern", "found", "told", "number"]) (sc := defScope sTellFits) (by decide +kernel)) (fun _ _ _ _ _ => pg_name (i := 7) scTellFits.nd rfl (Or.inl rfl))
        (fun _ _ _ _ _ => pts_one (pt_val (pe_call GO hr (by rfl) mgO kpO bO .nil pass0 (pa_cons (pe_ix ix_list (pv 0) (pv 7) (fun _ _ => rfl)) (pa_cons (pv 4) pa_nil)))))
        (fun _ _ _ _ _ => pv 7))
      (pss_cons (ps_set (i := 6) scTellFits.nd rfl (Or.inl rfl) (pe_slice sl_list (pv 5) po_none (po_some (pv 3))))
      (pss_one (ps_ret (pe_op op_cat (pe_lst (pa_cons (pe_callB call_len_seq (by rfl) T.len PySem.boot_len (pa_cons (pv 5) pa_nil)) (pa_cons (pe_callB call_len_seq (by rfl) T.len PySem.boot_len (pa_cons (pv 6) pa_nil)) pa_nil))) (pv 6))))))))), ?_⟩
    refine ⟨_, rfl, g, _, _, V.int ((n : Nat) : Int), rfl, rfl, SqL.of hg, atI_nat (j := 0) rfl, ?_⟩
    refine ⟨_, rfl, g, _, _, V.int ((kk : Nat) : Int), rfl, rfl, SqL.of hg, atI_nat (j := 1) rfl, ?_⟩
    refine ⟨_, rfl, _, rfl, ?_⟩
    dsimp only [tNoPart]
    refine ⟨g, _, rfl, SqL.of hg, fun q hq => ?_⟩
    have e2 : cutV (nV (n :: kk :: p)) (some 2) none = nV p := cutV_from _ 2
    have s1 : Same H (upd H q (.lst (cutV (nV (n :: kk :: p)) (some 2) none))) := Same.new hq
    have hq1 : (upd H q (.lst (cutV (nV (n :: kk :: p)) (some 2) none))) q = some (.lst (nV p)) := by rw [upd_same, e2]
    generalize upd H q (.lst (cutV (nV (n :: kk :: p)) (some 2) none)) = H1 at s1 hq1 ⊢
    refine ⟨_, rfl, q, p, rfl, hq1, by omega, fun H2 s2 => ⟨_, rfl, ?_⟩⟩
    have s12 := Same.trans s1 s2
    have hq2 := s2 _ _ hq1
    cases c1 : okP p with
    | false =>
      refine ifT rfl ⟨by show 1 ≤ sizeLine; decide, fun r hr0 => ?_⟩
      have e : hFits d (n :: kk :: p) = (d, [-1]) := by
        unfold hFits
        show (d, if okP p = false then _ else _) = _
        rw [if_pos c1]
      rw [e] at k
      exact k _ r (same_but (Same.trans s12 (Same.new hr0)) l) (hD.stay (Same.trans s12 (Same.new hr0))) (fresh_of s12 hr0) upd_same
    | true =>
      refine ifF rfl ?_
      obtain ⟨bs, hl, hp⟩ := hD.stay s12
      have hbl : bs.length = d.length := by rw [Paired.length hp, List.length_map]
      have hd := hG.len
      refine ⟨_, rfl, _, rfl, l, _, rfl, .inl (SqL.of hl), _, _, rfl, ?_, fun D hDn => ?_⟩
      · rw [List.length_map, hbl]
        refine ⟨by omega, by omega, by omega, by omega⟩
      · have en : ((((bs.map V.ref).length : Nat) : Int) - ((n : Nat) : Int)).toNat = d.length - n := by rw [List.length_map, hbl]; omega
        rw [en]
        refine lc_range (lo := ((n : Nat) : Int)) (n := d.length - n) (fun i H' => Same H2 H' ∧ H' D = some (.lst (nV ((List.range' n i).filter fun i => Rh03.fits p (d.getD i []))))) ⟨Same.new hDn, upd_same⟩ ?_ ?_
        · rintro i H' hi ⟨s3, h1⟩
          have hj : n + i < d.length := by omega
          have hv : d[n + i]? = some d[n + i] := List.getElem?_eq_getElem hj
          have hgD : d.getD (n + i) [] = d[n + i] := by rw [List.getD_eq_getElem?_getD, hv]; rfl
          obtain ⟨b, hb, hbk⟩ := paired_get_r hp (show (nk d)[n + i]? = some (iw d[n + i]) from nk_get.mpr hv)
          have hbv : (bs.map V.ref)[n + i]? = some (V.ref b) := by rw [List.getElem?_map, hb]; rfl
          have hv8 := (hG.fine _ (List.getElem_mem hj)).1
          have ei : ((n : Nat) : Int) + ((i : Nat) : Int) = ((n + i : Nat) : Int) := by omega
          have fm : (List.range' n (i + 1)).filter (fun i => Rh03.fits p (d.getD i [])) = (List.range' n i).filter (fun i => Rh03.fits p (d.getD i [])) ++ (if Rh03.fits p d[n + i] = true then [n + i] else []) := by
            rw [List.range'_1_concat, List.filter_append, List.filter_cons, List.filter_nil, hgD]
          have fl := List.length_filter_le (fun i => Rh03.fits p (d.getD i [])) (List.range' n i)
          rw [List.length_range'] at fl
          rw [ei]
          refine ⟨rfl, _, rfl, _, rfl, l, _, _, V.ref b, rfl, rfl, SqL.of (s3 _ _ hl), atI_nat hbv, _, rfl, b, q, d[n + i], p, rfl, s3 _ _ hbk, s3 _ _ hq2, hv8, fun H3 s4 => ⟨_, rfl, ?_⟩⟩
          cases c2 : Rh03.fits p d[n + i] with
          | true =>
            rw [if_pos c2] at fm
            refine ifT rfl ⟨_, rfl, _, s4 _ _ h1, ?_, fun b o z => ?_, ?_⟩
            · rw [List.length_map, sizeLine_eq]; omega
            · rw [upd_ne (ne_of_none z hDn)]; exact s4 _ _ (s3 _ _ z)
            · rw [upd_same, fm]; simp [nV]
          | false =>
            rw [if_neg (by rw [c2]; exact Bool.false_ne_true), List.append_nil] at fm
            refine ifF rfl ⟨Same.trans s3 s4, ?_⟩
            rw [fm]; exact s4 _ _ h1
        · rintro H3 ⟨s3, h1⟩
          rw [← matches_range] at h1
          have s13 := Same.trans s12 s3
          have hml : (Rh03.matches_ d n p).length ≤ 60 := by
            have := List.length_filter_le (fun i => decide (n ≤ i) && Rh03.fits p (d.getD i [])) (List.range d.length)
            rw [List.length_range] at this
            exact Nat.le_trans this hd
          have e : hFits d (n :: kk :: p) = (d, (((Rh03.matches_ d n p).length : Nat) : Int) :: Rh03.told ((Rh03.matches_ d n p).take kk)) := by
            unfold hFits
            show (d, if okP p = false then _ else _) = _
            rw [if_neg (by rw [c1]; decide)]
            rfl
          rw [e] at k
          generalize Rh03.matches_ d n p = M at h1 hml k
          refine ⟨_, rfl, ?_⟩
          dsimp only [tNoPart]
          refine ⟨_, rfl, _, rfl, D, _, rfl, SqL.of h1, fun r hr0 => ?_⟩
          have et : cutV (nV M) none (some ((kk : Nat) : Int)) = nV (M.take kk) := by
            rw [cutV_to]
            show (M.map _).take kk = (M.take kk).map _
            rw [List.map_take]
          rw [et]
          have s4 := Same.new (o := .lst (nV (M.take kk))) hr0
          have hDr := s4 _ _ h1
          have hr4 : (upd H3 r (.lst (nV (M.take kk)))) r = some (.lst (nV (M.take kk))) := upd_same
          have s14 := Same.trans s13 s4
          generalize upd H3 r (.lst (nV (M.take kk))) = H4 at s4 hDr hr4 s14 ⊢
          refine ⟨_, rfl, D, _, rfl, .inl (SqL.of hDr), _, rfl, r, _, rfl, .inl (SqL.of hr4), by show 2 ≤ sizeLine; decide, fun p1 hp1 => ?_⟩
          have s5 := Same.new (o := .lst [V.int (((nV M).length : Nat) : Int), V.int (((nV (M.take kk)).length : Nat) : Int)]) hp1
          refine ⟨_, rfl, p1, r, _, _, rfl, rfl, upd_same, s5 _ _ hr4, ?_, fun p3 hp3 => ?_⟩
          · have e9 : (nV (M.take kk)).length = min kk M.length := by rw [List.length_map, List.length_take]
            rw [e9, sizeLine_eq]
            show 2 + _ ≤ _
            omega
          · have s15 := Same.trans s14 s5
            refine k _ p3 (same_but (Same.trans s15 (Same.new hp3)) l) (hD.stay (Same.trans s15 (Same.new hp3))) (fresh_of s15 hp3) ?_
            rw [upd_same, List.length_map, List.length_map, nV_iw]
            rfl
end
end Ls
/-! LsE7 -/
namespace Ls
open PySem PySem.Spec PyProof.Rows L2
/-! ### the states that a row tells, as objects -/
def EdgeAt (H : Hp) (p : Addr) (e : Nat × Nat) : Prop := H p = some (.tup [.int ((e.1 : Nat) : Int), .int ((e.2 : Nat) : Int)])
def EdgesAt (H : Hp) (k : Addr) (es : List (Nat × Nat)) : Prop := ∃ ps : List Addr, H k = some (.lst (ps.map V.ref)) ∧ Paired (EdgeAt H) ps es
def NodeAt (S : Addr) (H : Hp) (t : Addr) (n : Rh03.Node) : Prop := ∃ k, k ≠ S ∧ H t = some (.tup [.bl n.ends, .ref k]) ∧ EdgesAt H k n.edges
def StatesAt (H : Hp) (S : Addr) (a : Rh03.Auto) : Prop := ∃ ts : List Addr, H S = some (.lst (ts.map V.ref)) ∧ Paired (NodeAt S H) ts a
/-- all but S stays -/
def ButS (S : Addr) (H H' : Hp) : Prop := ∀ b o, b ≠ S → H b = some o → H' b = some o
theorem NodeAt.but {S : Addr} {H H' : Hp} {t : Addr} {n : Rh03.Node} {xs : List V} (h : NodeAt S H t n) (hS : H S = some (.lst xs)) (b : ButS S H H') : NodeAt S H' t n := by
  obtain ⟨k, hk, h1, ps, h2, h3⟩ := h
  refine ⟨k, hk, b _ _ (ne_of h1 hS (by intro z; cases z)) h1, ps, b _ _ hk h2, Paired.mapP h3 fun p e z => b _ _ (ne_of z hS (by intro y; cases y)) z⟩
theorem ButS.of_same {S : Addr} {H H' : Hp} (s : Same H H') : ButS S H H' := fun b o _ e => s b o e
theorem StatesAt.stay {H H' : Hp} {S : Addr} {a : Rh03.Auto} (h : StatesAt H S a) (s : Same H H') : StatesAt H' S a := by
  obtain ⟨ts, h1, h2⟩ := h
  exact ⟨ts, s _ _ h1, Paired.mapP h2 fun t n z => z.but h1 (ButS.of_same s)⟩
abbrev sCutRow : Stmt := top 8
def spCutRow : Sp := fun vs H Q _ => ∃ (g : Addr) (u : List Nat), vs = [.ref g] ∧ H g = some (.lst (nV u)) ∧ u.length ≤ 2100 ∧
  (nodesA u = none → ∀ H' : Hp, Same H H' → Q .non H') ∧ (∀ a, nodesA u = some a → ∀ (H' : Hp) (S : Addr), Same H H' → H S = none → StatesAt H' S a → Q (.ref S) H')
theorem nodesA_len : ∀ (f : Nat) (u : List Nat) (a : Rh03.Auto), Rh03.nodes f u = some a → a.length ≤ u.length ∧ ∀ n ∈ a, n.edges.length ≤ u.length
  | _, [], a, h => by
    have : a = [] := by
      unfold Rh03.nodes at h
      exact (Option.some.inj h).symm
    subst this
    exact ⟨Nat.le_refl _, fun n hn => (nomatch hn)⟩
  | 0, _ :: _, a, h => by cases h
  | f + 1, x :: l, a, h => by
    unfold Rh03.nodes at h
    by_cases c : l.length < 2 * (x / 2)
    · rw [if_pos c] at h; cases h
    · rw [if_neg c] at h
      obtain ⟨r, hr, rfl⟩ := Option.map_eq_some_iff.mp h
      obtain ⟨i1, i2⟩ := nodesA_len f _ r hr
      rw [List.length_drop] at i1
      refine ⟨by rw [List.length_cons, List.length_cons]; omega, fun n hn => ?_⟩
      rcases List.mem_cons.mp hn with e | hn
      · rw [e, pairs_get (x / 2) l (by omega), List.length_map, List.length_range, List.length_cons]
        omega
      · have := i2 n hn
        rw [List.length_drop] at this
        rw [List.length_cons]; omega
theorem small_two {a b : Nat} (ha : a ≤ 5000) (hb : b ≤ 5000) : Builtin.Range.small ((a : Nat) : Int) ((b : Nat) : Int) 2 = true ∧ (∀ m, b = a + 2 * m → Builtin.Range.rangeSize ((a : Nat) : Int) ((b : Nat) : Int) 2 = ((m : Nat) : Int)) := by
  have e : Builtin.Range.rangeSize ((a : Nat) : Int) ((b : Nat) : Int) 2 = if ((a : Nat) : Int) < b then (((b : Nat) : Int) - a - 1) / 2 + 1 else 0 := by
    unfold Builtin.Range.rangeSize
    rw [if_pos (by decide)]
  constructor
  · unfold Builtin.Range.small
    rw [e]
    have fl : ∀ z : Int, -10000 ≤ z → z ≤ 10000 → Builtin.Range.rangeFitsLong z = true := fun z h1 h2 => by
      unfold Builtin.Range.rangeFitsLong
      rw [Bool.and_eq_true, decide_eq_true_eq, decide_eq_true_eq]
      omega
    have hz : (-10000 : Int) ≤ (if ((a : Nat) : Int) < b then (((b : Nat) : Int) - a - 1) / 2 + 1 else 0) ∧ (if ((a : Nat) : Int) < b then (((b : Nat) : Int) - a - 1) / 2 + 1 else 0) ≤ 10000 := by split <;> omega
    rw [fl _ (by omega) (by omega), fl _ (by omega) (by omega), fl 2 (by decide) (by decide), fl _ hz.1 hz.2, if_pos (show (2 : Int) > 0 by decide), fl _ (by omega) (by omega)]
    simp
  · intro m hm
    rw [e]
    split <;> omega
section
variable {P : Program} {w : World} {K : PySem.W.Frag} {mg : Str → Option Value} {base : Heap}
theorem scCutRow : FnScope ["row", "states", "place", "behind", "links", "k"] ["row"] (defScope sCutRow) := ⟨rfl, rfl, rfl, by decide +kernel, rfl, by decide +kernel, by decide +kernel⟩
theorem ok_cut_row {f : Addr} {fd : FuncData} (F : Fun K "cut_row" "cut_row" sCutRow f fd) (T : Names mg) : FnOk P w K mg base CX0 1 f fd ["row"] spCutRow := by
  refine F.ok scCutRow (fun vs H Q E h => ?_) (fun cdv A outer s H vs Q E hr h => ?_)
  · obtain ⟨g, u, rfl, _⟩ := h
    rfl
  · obtain ⟨g, u, rfl, hg, hul, kn, ks⟩ := h
    refine ⟨_, pss_cons (ps_set (i := 1) scCutRow.nd rfl (Or.inl rfl) (pe_lst pa_nil))
      (pss_cons (ps_set (i := 2) scCutRow.nd rfl (Or.inl rfl) pe_int)
      (pss_cons (ps_while PassesOwn.never (pt_cmpR op_lt (pv 2) (pe_callB call_len_seq (by rfl) T.len PySem.boot_len (pa_cons (pv 0) pa_nil)) (nomark _))
        (pss_cons (ps_set (i := 3) scCutRow.nd rfl (Or.inl rfl) (pe_op op_add (pe_op op_add (pv 2) pe_int) (pe_op op_mul (pe_op op_fdiv (pe_ix ix_list (pv 0) (pv 2) (fun _ _ => rfl)) pe_int) pe_int)))
        (pss_cons (ps_if (pt_cmpR op_gt (pv 3) (pe_callB call_len_seq (by rfl) T.len PySem.boot_len (pa_cons (pv 0) pa_nil)) (nomark _)) (pss_one (ps_ret pe_non)) pss_nil)
        (pss_cons (ps_setLc (i := 4) (own := [("k", 5)]) (g := gName 5) (tt := tYes) (te := tTup (tCons (tOp (rIxL K) (tVar 0) (tVar 5)) (tCons (tOp (rIxL K) (tVar 0) (tOp (rI0 fun i j => .int (i + j)) (tVar 5) (tC (.int 1)))) tNil))) rfl scCutRow.nd rfl rfl (sw_true rfl rfl rfl (by decide +kernel)) (pi_range3 (by rfl) T.range (pa_cons (pe_op op_add (pv 2) pe_int) (pa_cons (pv 3) (pa_cons pe_int pa_nil)))) (blkOk_by (N := ["row", "states", "place", "behind", "links", "k"]) (sc := defScope sCutRow) (by decide +kernel)) (fun _ _ _ _ _ => pg_name (i := 5) scCutRow.nd rfl (Or.inl rfl)) (fun _ _ _ _ _ => pts_nil)
          (fun _ _ _ _ _ => pe_tup (pa_cons (pe_ix ix_list (pv 0) (pv 5) (fun _ _ => rfl)) (pa_cons (pe_ix ix_list (pv 0) (pe_op op_add (pv 5) pe_int) (fun _ _ => rfl)) pa_nil))))
        (pss_cons (ps_expr (pe_bm PySem.F.plainAttrs_list PySem.F.slot_list_append PySem.F.type_list_append mt_append (pv 1) (pa_cons (pe_tup (pa_cons (pe_cmpR op_eq (pe_op op_mod (pe_ix ix_list (pv 0) (pv 2) (fun _ _ => rfl)) pe_int) pe_int (nomark _)) (pa_cons (pv 4) pa_nil))) pa_nil)))
        (pss_one (ps_set (i := 2) scCutRow.nd rfl (Or.inl rfl) (pv 3))))))))
      (pss_one (ps_ret (pv 1))))), ?_⟩
    refine ⟨Nat.zero_le _, fun S hS => ?_⟩
    have s0 : Same H (upd H S (.lst [])) := Same.new hS
    have hS0 : (upd H S (.lst [])) S = some (.lst []) := upd_same
    generalize upd H S (.lst []) = H0 at s0 hS0 ⊢
    refine ⟨fun m σ Hi => ∃ (pl : Nat) (v3 v4 : Option V) (ts : List Addr) (dn : Rh03.Auto), σ = [some (.ref g), some (.ref S), some (.int ((pl : Nat) : Int)), v3, v4, none] ∧ m = u.length - pl ∧ pl ≤ u.length ∧ Same H Hi ∧ Hi S = some (.lst (ts.map V.ref)) ∧ Paired (NodeAt S Hi) ts dn ∧ dn.length ≤ pl ∧ nodesA u = (nodesA (u.drop pl)).map (dn ++ ·),
      ⟨_, 0, none, none, [], [], rfl, rfl, Nat.zero_le _, s0, hS0, .nil, Nat.le_refl _, ?_⟩, ?_⟩
    · rw [List.drop_zero]
      cases nodesA u <;> rfl
    · rintro m σ Hi ⟨pl, v3, v4, ts, dn, rfl, rfl, hpl, si, hSi, hPi, hdn, hnod⟩
      have hgi := si _ _ hg
      have eL : (nV u).length = u.length := List.length_map _
      refine ⟨_, rfl, _, rfl, g, _, rfl, .inl (SqL.of hgi), _, _, rfl, rfl, _, rfl, ?_⟩
      rw [eL]
      by_cases hlt : pl < u.length
      · refine ifT (decide_eq_true (by omega)) ?_
        have hx : u[pl]? = some u[pl] := List.getElem?_eq_getElem hlt
        have hxV : (nV u)[pl]? = some (V.int ((u[pl] : Nat) : Int)) := by
          show (u.map _)[pl]? = _
          rw [List.getElem?_map, hx]; rfl
        have hdrop : u.drop pl = u[pl] :: u.drop (pl + 1) := List.drop_eq_getElem_cons hlt
        rw [hdrop, nodesA_cons] at hnod
        generalize hxe : u[pl] = x at hx hxV hnod
        refine ⟨fun σ' H' => ∃ m', m' < u.length - pl ∧ ∃ (pl : Nat) (v3 v4 : Option V) (ts : List Addr) (dn : Rh03.Auto), σ' = [some (.ref g), some (.ref S), some (.int ((pl : Nat) : Int)), v3, v4, none] ∧ m' = u.length - pl ∧ pl ≤ u.length ∧ Same H H' ∧ H' S = some (.lst (ts.map V.ref)) ∧ Paired (NodeAt S H') ts dn ∧ dn.length ≤ pl ∧ nodesA u = (nodesA (u.drop pl)).map (dn ++ ·), fun σ' H' h => h, ?_⟩
        refine ⟨_, rfl, _, _, rfl, rfl, _, rfl, _, rfl, g, _, _, _, rfl, rfl, SqL.of hgi, atI_nat hxV, _, _, rfl, rfl, ⟨by decide, by decide⟩, _, _, rfl, rfl, .inr ⟨by decide, by decide⟩, _, _, rfl, rfl, ?_⟩
        have eb : ((pl : Nat) : Int) + 1 + ((x : Nat) : Int) / 2 * 2 = ((pl + 1 + 2 * (x / 2) : Nat) : Int) := by omega
        dsimp only
        rw [eb]
        refine ⟨_, rfl, _, rfl, g, _, rfl, .inl (SqL.of hgi), _, _, rfl, rfl, _, rfl, ?_⟩
        rw [eL]
        rw [List.length_drop] at hnod
        by_cases hbig : u.length < pl + 1 + 2 * (x / 2)
        · refine ifT (decide_eq_true (by omega)) ?_
          rw [if_pos (by omega)] at hnod
          exact kn hnod Hi si
        · refine ifF (decide_eq_false (by omega)) ?_
          rw [if_neg (by omega)] at hnod
          have hsm := small_two (a := pl + 1) (b := pl + 1 + 2 * (x / 2)) (by omega) (by omega)
          have e1 : ((pl : Nat) : Int) + 1 = ((pl + 1 : Nat) : Int) := by omega
          have hgetD : ∀ j, pl + 1 + j < u.length → u[pl + 1 + j]? = some ((u.drop (pl + 1)).getD j 0) := fun j hj => by
            rw [List.getD_eq_getElem?_getD, List.getElem?_drop, List.getElem?_eq_getElem hj]; rfl
          have hV : ∀ j, pl + 1 + j < u.length → (nV u)[pl + 1 + j]? = some (V.int (((u.drop (pl + 1)).getD j 0 : Nat) : Int)) := fun j hj => by
            show (u.map _)[pl + 1 + j]? = _
            rw [List.getElem?_map, hgetD j hj]; rfl
          have epairs := pairs_get (x / 2) (u.drop (pl + 1)) (by rw [List.length_drop]; omega)
          generalize hle : (u.drop (pl + 1)) = l at hnod hV epairs
          refine ⟨_, rfl, _, _, rfl, rfl, _, rfl, _, _, _, x / 2, rfl, ⟨by decide, by decide, ?_, ?_⟩, fun D hD => lc_it (walk_rangeC (lo := ((pl : Nat) : Int) + 1) (c := 2) (n := x / 2)) (fun i H' => Same Hi H' ∧ ∃ ps : List Addr, H' D = some (.lst (ps.map V.ref)) ∧ Paired (EdgeAt H') ps ((List.range i).map fun i => (l.getD (2 * i) 0, l.getD (2 * i + 1) 0))) ⟨Same.new hD, [], upd_same, .nil⟩ (fun _ _ _ _ => trivial) ?_ ?_⟩
          · rw [e1]; exact hsm.1
          · rw [e1]; exact hsm.2 _ rfl
          · rintro i y H2 H3 hi ⟨s1, ps, h1, h2⟩ ⟨rfl, rfl⟩
            have hpsl : ps.length = i := by rw [Paired.length h2, List.length_map, List.length_range]
            have ek : ((pl : Nat) : Int) + 1 + ((i : Nat) : Int) * 2 = ((pl + 1 + 2 * i : Nat) : Int) := by omega
            have ek2 : ((pl + 1 + 2 * i : Nat) : Int) + 1 = ((pl + 1 + (2 * i + 1) : Nat) : Int) := by omega
            show gName 5 (V.int (((pl : Nat) : Int) + 1 + ((i : Nat) : Int) * 2)) _ H3 _
            rw [ek]
            refine ⟨rfl, _, rfl, _, rfl, g, _, _, _, rfl, rfl, SqL.of (s1 _ _ hgi), atI_nat (hV (2 * i) (by omega)), _, rfl, _, rfl, _, _, rfl, rfl, ?_⟩
            dsimp only
            rw [ek2]
            refine ⟨g, _, _, _, rfl, rfl, SqL.of (s1 _ _ hgi), atI_nat (hV (2 * i + 1) (by omega)), by show 2 ≤ sizeLine; decide, fun q hq => ?_⟩
            have s2 := Same.new (o := .tup [V.int ((l.getD (2 * i) 0 : Nat) : Int), V.int ((l.getD (2 * i + 1) 0 : Nat) : Int)]) hq
            have hqe : (upd H3 q (.tup [V.int ((l.getD (2 * i) 0 : Nat) : Int), V.int ((l.getD (2 * i + 1) 0 : Nat) : Int)])) q = some (.tup [V.int ((l.getD (2 * i) 0 : Nat) : Int), V.int ((l.getD (2 * i + 1) 0 : Nat) : Int)]) := upd_same
            have hD2 := s2 _ _ h1
            generalize upd H3 q (.tup [V.int ((l.getD (2 * i) 0 : Nat) : Int), V.int ((l.getD (2 * i + 1) 0 : Nat) : Int)]) = H4 at s2 hqe hD2 ⊢
            have st : TupsStay H4 (upd H4 D (.lst (ps.map V.ref ++ [V.ref q]))) := fun b ys z => by rw [upd_ne (ne_of z hD2 (by intro y; cases y))]; exact z
            refine ⟨_, hD2, by rw [List.length_map, hpsl, sizeLine_eq]; omega, fun b o z => ?_, ps ++ [q], by rw [upd_same, List.map_append]; rfl, ?_⟩
            · rw [upd_ne (ne_of_none z hD)]; exact s2 _ _ (s1 _ _ z)
            · rw [List.range_succ, List.map_append]
              exact Paired.snoc (Paired.mapP h2 fun b e z => st _ _ (s2 _ _ z)) (st _ _ hqe)
          · rintro H1 ⟨s1, ps, h1, h2⟩
            rw [← epairs] at h2
            have sH1 := Same.trans si s1
            have hS1 := s1 _ _ hSi
            have hDS : D ≠ S := fun z => by rw [z, hSi] at hD; cases hD
            refine ⟨_, rfl, .inl ⟨rfl, _, SqL.of hS1⟩, _, rfl, _, rfl, g, _, _, _, rfl, rfl, SqL.of (s1 _ _ hgi), atI_nat hxV, _, _, rfl, rfl, by show (0 : Int) < 2; decide, rfl, _, rfl, by show 2 ≤ sizeLine; decide, fun t ht => ?_⟩
            dsimp only
            rw [decI]
            have ee : decide (((x : Nat) : Int) % 2 = 1) = (x % 2 == 1) := by
              by_cases q : x % 2 = 1
              · rw [decide_eq_true (by omega)]; exact (beq_iff_eq.mpr q).symm
              · rw [decide_eq_false (by omega)]; exact (beq_eq_false_iff_ne.mpr q).symm
            rw [ee]
            have htl : ts.length = dn.length := Paired.length hPi
            have s2 := Same.new (o := .tup [V.bl (x % 2 == 1), V.ref D]) ht
            have hte : (upd H1 t (.tup [V.bl (x % 2 == 1), V.ref D])) t = some (.tup [V.bl (x % 2 == 1), V.ref D]) := upd_same
            generalize upd H1 t (.tup [V.bl (x % 2 == 1), V.ref D]) = H2 at s2 hte ⊢
            have hS2 := s2 _ _ hS1
            have bS : ButS S H2 (upd H2 S (.lst (ts.map V.ref ++ [V.ref t]))) := fun b o hb z => by rw [upd_ne hb]; exact z
            have node : NodeAt S H2 t ⟨x % 2 == 1, Rh03.pairs (l.take (2 * (x / 2)))⟩ := ⟨D, hDS, hte, ps, s2 _ _ h1, Paired.mapP h2 fun b e z => s2 _ _ z⟩
            refine ⟨S, _, _, rfl, rfl, hS2, by rw [List.length_map, sizeLine_eq]; omega, ?_⟩
            refine ⟨_, rfl, u.length - (pl + 1 + 2 * (x / 2)), by omega, pl + 1 + 2 * (x / 2), _, _, ts ++ [t], dn ++ [⟨x % 2 == 1, Rh03.pairs (l.take (2 * (x / 2)))⟩], rfl, rfl, by omega, fun b o z => ?_, by rw [upd_same, List.map_append]; rfl, ?_, by rw [List.length_append, List.length_singleton]; omega, ?_⟩
            · rw [upd_ne (ne_of_none z hS)]; exact s2 _ _ (sH1 _ _ z)
            · refine Paired.snoc (Paired.mapP hPi fun b n z => ?_) (node.but hS2 bS)
              exact (z.but hSi (ButS.of_same (Same.trans s1 s2))).but hS2 bS
            · rw [hnod, ← hle, List.drop_drop]
              cases nodesA (u.drop (pl + 1 + 2 * (x / 2))) with
              | none => rfl
              | some r => simp
      · refine ifF (decide_eq_false (by omega)) ⟨_, rfl, ?_⟩
        have e0 : u.drop pl = [] := List.drop_eq_nil_iff.mpr (by omega)
        rw [e0] at hnod
        have : nodesA u = some dn := by rw [hnod]; show some (dn ++ []) = some dn; rw [List.append_nil]
        exact ks dn this Hi S si hS ⟨ts, hSi, hPi⟩
end
end Ls
/-! LsE8 -/
namespace Ls
open PySem PySem.Spec PyProof.Rows L2
abbrev sCountFrom : Stmt := top 9
abbrev sCountEnds : Stmt := top 10
/-- how many from a state, if cs tells it of those one letter on -/
def fromN (cs : List Nat) (n : Rh03.Node) : Nat := Rh03.flag n.ends + Rh03.total (n.edges.map fun (e : Nat × Nat) => cs.getD e.2 0)
def spCountFrom : Sp := fun vs H Q _ => ∃ (S t c : Addr) (n : Rh03.Node) (cs : List Nat), vs = [.ref t, .ref c] ∧ NodeAt S H t n ∧ H c = some (.lst (nV cs)) ∧ n.edges.length ≤ 2100 ∧ ∀ H' : Hp, Same H H' → Q (.int ((fromN cs n : Nat) : Int)) H'
theorem sum_drop0 {α : Type} (p : α → Bool) (f : α → Nat) : ∀ l : List α, (∀ x ∈ l, p x = false → f x = 0) → ((l.filter p).map f).sum = (l.map f).sum
  | [], _ => rfl
  | x :: l, h => by
    have ih := sum_drop0 p f l fun y hy => h y (List.mem_cons_of_mem _ hy)
    rw [List.filter_cons]
    cases c : p x with
    | true => rw [if_pos rfl, List.map_cons, List.sum_cons, List.map_cons, List.sum_cons, ih]
    | false => rw [if_neg Bool.false_ne_true, List.map_cons, List.sum_cons, ih, h x List.mem_cons_self c, Nat.zero_add]
def inC (cs : List Nat) (e : Nat × Nat) : Bool := decide (e.2 < cs.length)
theorem fromN_filter (cs : List Nat) (n : Rh03.Node) : fromN cs n = Rh03.flag n.ends + ((n.edges.filter (inC cs)).map fun e => cs.getD e.2 0).sum := by
  unfold fromN
  rw [total_sum, sum_drop0]
  intro e _ h
  have : ¬ e.2 < cs.length := of_decide_eq_false h
  rw [List.getD_eq_getElem?_getD, List.getElem?_eq_none (by omega)]; rfl
/-- counts: n lists, the j-th how many rows of j letters or fewer -/
def CountsAt (H : Hp) (C : Addr) (a : Rh03.Auto) (n : Nat) : Prop := ∃ ls : List Addr, H C = some (.lst (ls.map V.ref)) ∧ ls.length = n ∧ C ∉ ls ∧ ∀ (j : Nat) (l : Addr), ls[j]? = some l → H l = some (.lst (nV (Rh03.layer a (j + 1))))
theorem CountsAt.stay {H H' : Hp} {C : Addr} {a : Rh03.Auto} {n : Nat} (h : CountsAt H C a n) (s : Same H H') : CountsAt H' C a n := by
  obtain ⟨ls, h1, h2, h3, h4⟩ := h
  exact ⟨ls, s _ _ h1, h2, h3, fun j l hl => s _ _ (h4 j l hl)⟩
def spCountEnds : Sp := fun vs H Q _ => ∃ (S : Addr) (a : Rh03.Auto), vs = [.ref S, .int 8] ∧ StatesAt H S a ∧ a.length ≤ 2100 ∧ (∀ n ∈ a, n.edges.length ≤ 2100) ∧ ∀ (H' : Hp) (C : Addr), Same H H' → H C = none → CountsAt H' C a 9 → Q (.ref C) H'
theorem layer_one (a : Rh03.Auto) : Rh03.layer a 1 = a.map (fromN []) := by
  show a.map _ = a.map _
  refine List.map_congr_left fun n _ => ?_
  unfold fromN
  congr 1
  have e : ∀ x : Nat, (Rh03.layer a 0).getD x 0 = 0 := fun x => layer_zero a x
  refine congrArg Rh03.total (List.map_congr_left fun e' _ => ?_)
  rw [e]; rfl
theorem layer_next (a : Rh03.Auto) (f : Nat) : Rh03.layer a (f + 1) = a.map (fromN (Rh03.layer a f)) := rfl
section
variable {P : Program} {w : World} {K : PySem.W.Frag} {mg : Str → Option Value} {base : Heap}
theorem scCountFrom : FnScope ["state", "counts", "own", "link"] ["state", "counts"] (defScope sCountFrom) := ⟨rfl, rfl, rfl, by decide +kernel, rfl, by decide +kernel, by decide +kernel⟩
theorem ok_count_from {f : Addr} {fd : FuncData} (F : Fun K "count_from" "count_from" sCountFrom f fd) (T : Names mg) : FnOk P w K mg base CX0 1 f fd ["state", "counts"] spCountFrom := by
  refine F.ok scCountFrom (fun vs H Q E h => ?_) (fun cdv A outer s H vs Q E hr h => ?_)
  · obtain ⟨S, t, c, n, cs, rfl, _⟩ := h
    rfl
  · obtain ⟨S, t, c, n, cs, rfl, ⟨ke, _, ht, ps, hk, hps⟩, hc, hel, k⟩ := h
    refine ⟨_, pss_cons (ps_set (i := 2) scCountFrom.nd rfl (Or.inl rfl) (pe_ifExp (pt_val (pe_ix ix_tup (pv 0) pe_int (fun _ _ => rfl))) pe_int pe_int))
      (pss_one (ps_ret (pe_op op_add (pv 2) (pe_callB (cr_sum rfl) (by rfl) T.sum (by decide +kernel) (pa_cons (pe_lc (own := [("link", 3)]) (g := gName 3) (tt := tTest (tOp (rI0 fun i j => .bl (decide (i < j))) (tOp (rIxT K) (tVar 3) (tC (.int 1))) (tCB (rLenS K) (tCons (tVar 1) tNil)))) (te := tOp (rIxL K) (tVar 1) (tOp (rIxT K) (tVar 3) (tC (.int 1)))) rfl scCountFrom.nd (pi_list (pe_ix ix_tup (pv 0) pe_int (fun _ _ => rfl))) (blkOk_by (N := ["state", "counts", "own", "link"]) (sc := defScope sCountFrom) (by decide +kernel)) (fun _ _ _ _ _ => pg_name (i := 3) scCountFrom.nd rfl (Or.inl rfl))
        (fun _ _ _ _ _ => pts_one (pt_cmpR op_lt (pe_ix ix_tup (pv 3) pe_int (fun _ _ => rfl)) (pe_callB (r := rLenS K) call_len_seq (by rfl) T.len PySem.boot_len (pa_cons (pv 1) pa_nil)) (nomark _)))
        (fun _ _ _ _ _ => pe_ix ix_list (pv 1) (pe_ix ix_tup (pv 3) pe_int (fun _ _ => rfl)) (fun _ _ => rfl))) pa_nil))))), ?_⟩
    have hpl : ps.length = n.edges.length := Paired.length hps
    have eC : (nV cs).length = cs.length := List.length_map _
    have rest : ∀ z : Int, z = ((Rh03.flag n.ends : Nat) : Int) → (tRet (tOp (rI0 fun i j => V.int (i + j)) (tVar 2) (tCB (rSum K) (tCons (tLc (iList K (tOp (rIxT K) (tVar 0) (tC (.int 1)))) (gName 3) (tTest (tOp (rI0 fun i j => .bl (decide (i < j))) (tOp (rIxT K) (tVar 3) (tC (.int 1))) (tCB (rLenS K) (tCons (tVar 1) tNil)))) (tOp (rIxL K) (tVar 1) (tOp (rIxT K) (tVar 3) (tC (.int 1)))) [3]) tNil))))
        { nx := fun _ H' => Q .non H', rt := Q } [some (.ref t), some (.ref c), some (.int z), none] H := by
      intro z hz
      refine ⟨_, rfl, _, rfl, t, _, _, V.ref ke, rfl, rfl, SqT.of ht, atI_nat (j := 1) rfl, ke, rfl, ⟨_, SqL.of hk⟩, fun D hD => lc_list (K := K) (a := ke) (xs := ps.map V.ref)
        (fun i H' => Same H H' ∧ H' D = some (.lst (nV (((n.edges.take i).filter (inC cs)).map fun e => cs.getD e.2 0)))) ⟨Same.new hD, upd_same⟩ (fun i H' _ h => SqL.of (h.1 _ _ hk)) ?_ ?_⟩
      · rintro i x H' hi ⟨s1, h1⟩
        obtain ⟨b, hb, rfl⟩ := get_map hi
        obtain ⟨e, he, hbe⟩ := paired_get hps hb
        have hbe : H b = some (.tup [.int ((e.1 : Nat) : Int), .int ((e.2 : Nat) : Int)]) := hbe
        have fm := filt_more (p := inC cs) he
        have fl := List.length_filter_le (inC cs) (n.edges.take i)
        rw [List.length_take] at fl
        refine ⟨rfl, _, rfl, b, _, _, V.int ((e.2 : Nat) : Int), rfl, rfl, SqT.of (s1 _ _ hbe), atI_nat (j := 1) rfl, _, rfl, c, _, rfl, .inl (SqL.of (s1 _ _ hc)), _, _, rfl, rfl, _, rfl, ?_⟩
        rw [eC]
        have ed : decide (((e.2 : Nat) : Int) < ((cs.length : Nat) : Int)) = inC cs e := decide_eq_decide.mpr (by omega)
        rw [ed]
        cases c2 : inC cs e with
        | true =>
          rw [if_pos c2] at fm
          have hlt : e.2 < cs.length := of_decide_eq_true c2
          have hg : (nV cs)[e.2]? = some (V.int ((cs.getD e.2 0 : Nat) : Int)) := by
            show (cs.map _)[e.2]? = _
            rw [List.getElem?_map, List.getElem?_eq_getElem hlt, List.getD_eq_getElem?_getD, List.getElem?_eq_getElem hlt]; rfl
          refine ifT rfl ⟨_, rfl, _, rfl, b, _, _, V.int ((e.2 : Nat) : Int), rfl, rfl, SqT.of (s1 _ _ hbe), atI_nat (j := 1) rfl, c, _, _, _, rfl, rfl, SqL.of (s1 _ _ hc), atI_nat hg, _, h1, ?_, fun b o z => ?_, ?_⟩
          · rw [List.length_map, List.length_map, sizeLine_eq]; omega
          · rw [upd_ne (ne_of_none z hD)]; exact s1 _ _ z
          · rw [upd_same, fm]; simp [nV]
        | false =>
          rw [if_neg (by rw [c2]; exact Bool.false_ne_true), List.append_nil] at fm
          refine ifF rfl ⟨s1, ?_⟩
          rw [fm]; exact h1
      · rintro H1 ⟨s1, h1⟩
        rw [List.length_map, hpl, List.take_length] at h1
        refine ⟨D, iw ((n.edges.filter (inC cs)).map fun e => cs.getD e.2 0), rfl, SqL.of (by rw [h1, nV_iw]), _, _, rfl, rfl, ?_⟩
        have e2 : (iw ((n.edges.filter (inC cs)).map fun e => cs.getD e.2 0)).sum = ((((n.edges.filter (inC cs)).map fun e => cs.getD e.2 0).sum : Nat) : Int) := isum_nat _
        have e3 : z + (iw ((n.edges.filter (inC cs)).map fun e => cs.getD e.2 0)).sum = ((fromN cs n : Nat) : Int) := by
          rw [e2, hz, fromN_filter]; omega
        show Q (V.int (z + _)) H1
        rw [e3]
        exact k H1 s1
    refine ⟨_, rfl, t, _, _, V.bl n.ends, rfl, rfl, SqT.of ht, atI_nat (j := 0) rfl, _, rfl, ?_⟩
    cases hc : n.ends with
    | true => exact ifT rfl (rest 1 (by rw [hc]; rfl))
    | false => exact ifF rfl (rest 0 (by rw [hc]; rfl))
theorem scCountEnds : FnScope ["states", "longest", "counts", "letters", "state"] ["states", "longest"] (defScope sCountEnds) := ⟨rfl, rfl, rfl, by decide +kernel, rfl, by decide +kernel, by decide +kernel⟩
theorem ok_count_ends {f : Addr} {fd : FuncData} (F : Fun K "count_ends" "count_ends" sCountEnds f fd) (T : Names mg) (CF : Callee P w K mg base "count_from" 1 ["state", "counts"] spCountFrom) : FnOk P w K mg base CX0 2 f fd ["states", "longest"] spCountEnds := by
  obtain ⟨fF, fdF, GF, mgF, kpF, bF⟩ := CF
  refine F.ok scCountEnds (fun vs H Q E h => ?_) (fun cdv A outer s H vs Q E hr h => ?_)
  · obtain ⟨S, a, rfl, _⟩ := h
    rfl
  · obtain ⟨S, a, rfl, hSt, hal, hel, k⟩ := h
    refine ⟨_, pss_cons (ps_set (i := 2) scCountEnds.nd rfl (Or.inr rfl) (pe_lst (pa_cons (pe_lc (own := [("state", 4)]) (g := gName 4) (tt := tYes) (te := tCall spCountFrom [] E0 (tCons (tVar 4) (tCons (tLst tNil) tNil))) rfl scCountEnds.nd (pi_list (pv 0)) (blkOk_by (N := ["states", "longest", "counts", "letters", "state"]) (sc := defScope sCountEnds) (by decide +kernel)) (fun _ _ _ _ _ => pg_name (i := 4) scCountEnds.nd rfl (Or.inl rfl)) (fun _ _ _ _ _ => pts_nil)
        (fun _ _ _ _ _ => pe_call GF hr (by rfl) mgF kpF bF .nil pass0 (pa_cons (pv 4) (pa_cons (pe_lst pa_nil) pa_nil)))) pa_nil)))
      (pss_cons (ps_for PassesOwn.never rfl (pi_range1 (by rfl) T.range (pa_cons (pv 1) pa_nil)) (pg_name (i := 3) scCountEnds.nd rfl (Or.inl rfl))
        (pss_one (ps_expr (pe_bm PySem.F.plainAttrs_list PySem.F.slot_list_append PySem.F.type_list_append mt_append (pv 2) (pa_cons (pe_lc (own := [("state", 4)]) (g := gName 4) (tt := tYes) (te := tCall spCountFrom [] E0 (tCons (tVar 4) (tCons (tOp (rIxL K) (tVar 2) (tUn (rU fun i => .int (-i)) (tC (.int 1)))) tNil))) rfl scCountEnds.nd (pi_list (pv 0)) (blkOk_by (N := ["states", "longest", "counts", "letters", "state"]) (sc := defScope sCountEnds) (by decide +kernel)) (fun _ _ _ _ _ => pg_name (i := 4) scCountEnds.nd rfl (Or.inl rfl)) (fun _ _ _ _ _ => pts_nil)
          (fun _ _ _ _ _ => pe_call GF hr (by rfl) mgF kpF bF .nil pass0 (pa_cons (pv 4) (pa_cons (pe_ix ix_list (pv 2) (pe_un un_neg pe_int) (fun _ _ => rfl)) pa_nil)))) pa_nil)))))
      (pss_one (ps_ret (pv 2)))), ?_⟩
    have hSt0 := hSt
    obtain ⟨ts, hS, hPt⟩ := hSt0
    have htl : ts.length = a.length := Paired.length hPt
    refine ⟨_, rfl, S, rfl, ⟨_, SqL.of hS⟩, fun D hD => lc_list (K := K) (a := S) (xs := ts.map V.ref)
        (fun i H' => Same H H' ∧ H' D = some (.lst (nV ((a.take i).map (fromN []))))) ⟨Same.new hD, upd_same⟩ (fun i H' _ h => SqL.of (h.1 _ _ hS)) ?_ ?_⟩
    · rintro i x H' hi ⟨s1, h1⟩
      obtain ⟨b, hb, rfl⟩ := get_map hi
      obtain ⟨n, hn, hbn⟩ := paired_get hPt hb
      refine ⟨rfl, _, rfl, Nat.zero_le _, fun q hq => ?_⟩
      have s2 := Same.new (o := .lst []) hq
      refine ⟨S, b, q, n, [], rfl, (hbn.but hS (ButS.of_same (Same.trans s1 s2))), upd_same, hel n (List.mem_of_getElem? hn), fun H3 s3 => ?_⟩
      refine ⟨_, s3 _ _ (s2 _ _ h1), ?_, fun b o z => ?_, ?_⟩
      · rw [List.length_map, List.length_map, List.length_take, sizeLine_eq]; omega
      · rw [upd_ne (ne_of_none z hD)]; exact s3 _ _ (s2 _ _ (s1 _ _ z))
      · rw [upd_same, take_more hn]; simp [nV]
    · rintro H1 ⟨s1, h1⟩
      rw [List.length_map, htl, List.take_length, ← layer_one] at h1
      refine ⟨by show 1 ≤ sizeLine; decide, fun C hC => ?_⟩
      have hCH : H C = none := fresh_of s1 hC
      have hDC : D ≠ C := fun z => by rw [← z, h1] at hC; cases hC
      have s2 := Same.new (o := .lst [V.ref D]) hC
      have hC0 : CountsAt (upd H1 C (.lst [V.ref D])) C a 1 := ⟨[D], upd_same, rfl, by simpa using fun z => hDC z.symm, fun j l hl => by
        match j, hl with
        | 0, hl =>
          cases hl
          exact s2 _ _ h1⟩
      have s12 := Same.trans s1 s2
      generalize upd H1 C (.lst [V.ref D]) = H2 at s2 hC0 s12 ⊢
      refine ⟨_, rfl, 8, rfl, by decide, by decide, for_range (lo := 0) (n := 8) (fun i σ Hi => ∃ v3, σ = [some (.ref S), some (.int 8), some (.ref C), v3, none] ∧ Same H Hi ∧ CountsAt Hi C a (i + 1)) ⟨none, rfl, s12, hC0⟩ ?_ ?_⟩
      · rintro i σ Hi hi ⟨v3, rfl, si, ls, hCi, hll, hno, hls⟩
        have hSi := hSt.stay si
        obtain ⟨ts2, hS2, hPt2⟩ := hSi
        have htl2 : ts2.length = a.length := Paired.length hPt2
        have hlast : ls[i]? = some (ls[i]'(by omega)) := List.getElem?_eq_getElem (by omega)
        generalize hle : (ls[i]'(by omega)) = ll at hlast
        have hll2 := hls i ll hlast
        refine ⟨_, rfl, .inl ⟨rfl, _, SqL.of hCi⟩, _, rfl, S, rfl, ⟨_, SqL.of hS2⟩, fun D2 hD2 => lc_list (K := K) (a := S) (xs := ts2.map V.ref)
          (fun m H' => Same Hi H' ∧ H' D2 = some (.lst (nV ((a.take m).map (fromN (Rh03.layer a (i + 1))))))) ⟨Same.new hD2, upd_same⟩ (fun m H' _ h => SqL.of (h.1 _ _ hS2)) ?_ ?_⟩
        · rintro m x H' hm ⟨s3, h3⟩
          obtain ⟨b, hb, rfl⟩ := get_map hm
          obtain ⟨n, hn, hbn⟩ := paired_get hPt2 hb
          refine ⟨rfl, _, rfl, _, rfl, _, rfl, C, _, _, V.ref ll, rfl, rfl, SqL.of (s3 _ _ hCi), ?_, ?_⟩
          · unfold atI ixN
            rw [List.length_map, hll, if_neg (by omega), if_pos (by omega)]
            show (ls.map V.ref)[(-1 + ((i + 1 : Nat) : Int)).toNat]? = _
            have e : (-1 + ((i + 1 : Nat) : Int)).toNat = i := by omega
            rw [e, List.getElem?_map, hlast]; rfl
          · refine ⟨S, b, ll, n, _, rfl, hbn.but hS2 (ButS.of_same s3), s3 _ _ hll2, hel n (List.mem_of_getElem? hn), fun H3 s4 => ?_⟩
            refine ⟨_, s4 _ _ h3, ?_, fun b o z => ?_, ?_⟩
            · rw [List.length_map, List.length_map, List.length_take, sizeLine_eq]; omega
            · rw [upd_ne (ne_of_none z hD2)]; exact s4 _ _ (s3 _ _ z)
            · rw [upd_same, take_more hn]; simp [nV]
        · rintro H3 ⟨s3, h3⟩
          rw [List.length_map, htl2, List.take_length, ← layer_next] at h3
          have hC3 := s3 _ _ hCi
          have hDC2 : D2 ≠ C := fun z => by rw [z, hCi] at hD2; cases hD2
          refine ⟨C, _, _, rfl, rfl, hC3, by rw [List.length_map, hll, sizeLine_eq]; omega, _, rfl, fun b o z => ?_, ls ++ [D2], by rw [upd_same, List.map_append]; rfl, by rw [List.length_append, hll]; rfl, ?_, fun j l hl => ?_⟩
          · rw [upd_ne (ne_of_none z hCH)]; exact s3 _ _ (si _ _ z)
          · intro z
            rcases List.mem_append.mp z with z | z
            · exact hno z
            · have e : C = D2 := by simpa using z
              exact hDC2 e.symm
          · by_cases hj : j < ls.length
            · rw [List.getElem?_append_left hj] at hl
              have hlC : l ≠ C := fun z => hno (by rw [← z]; exact List.mem_of_getElem? hl)
              rw [upd_ne hlC]
              exact s3 _ _ (hls j l hl)
            · have hj2 : j < (ls ++ [D2]).length := (List.getElem?_eq_some_iff.mp hl).1
              rw [List.length_append, List.length_singleton] at hj2
              have ej : j = i + 1 := by omega
              subst ej
              rw [List.getElem?_append_right (by omega), hll, Nat.sub_self] at hl
              cases hl
              rw [upd_ne hDC2]; exact h3
      · rintro σ Hi ⟨v3, rfl, si, hCi⟩
        exact ⟨_, rfl, k Hi C si hCH hCi⟩
end
end Ls
/-! LsE9 -/
namespace Ls
open PySem PySem.Spec PyProof.Rows L2
theorem total_zero {l : List Nat} (h : Rh03.total l = 0) : ∀ x ∈ l, x = 0 := by
  rw [total_sum] at h
  induction l with
  | nil => intro x hx; exact (nomatch hx)
  | cons y l ih =>
    rw [List.sum_cons] at h
    intro x hx
    rcases List.mem_cons.mp hx with e | hx
    · omega
    · exact ih (by omega) x hx
theorem spellAt_kids' {a : Rh03.Auto} {x : Item} {n : Rh03.Node} (hn : a[x.2]? = some n) (hl : x.1.length ≤ 8) : spellAt a x = (if n.ends = true then [x.1] else []) ++ (kidsAt a x).flatMap (spellAt a) := by
  by_cases hp : 0 < (Rh03.layer a (9 - x.1.length)).getD x.2 0
  · exact spellAt_kids hn hl hp
  · have h0 : (Rh03.layer a (9 - x.1.length)).getD x.2 0 = 0 := by omega
    have e1 : spellAt a x = [] := by
      unfold spellAt
      rw [spell_zero h0]; rfl
    have h9 : 9 - x.1.length = (8 - x.1.length) + 1 := by omega
    rw [h9, layer_succ, hn] at h0
    have h0 : Rh03.flag n.ends + Rh03.total (n.edges.map fun e => (Rh03.layer a (8 - x.1.length)).getD e.2 0) = 0 := h0
    have he : n.ends = false := by
      cases q : n.ends with
      | false => rfl
      | true => rw [q] at h0; have : Rh03.flag true = 1 := rfl; omega
    have hk : kidsAt a x = [] := by
      unfold kidsAt
      rw [hn]
      show (n.edges.filter (goOn a x)).map _ = []
      have : n.edges.filter (goOn a x) = [] := by
        rw [List.filter_eq_nil_iff]
        intro e he' hg
        have := total_zero (by omega : Rh03.total (n.edges.map fun e => (Rh03.layer a (8 - x.1.length)).getD e.2 0) = 0) _ (List.mem_map.mpr ⟨e, he', rfl⟩)
        unfold goOn at hg
        rw [this] at hg
        simp at hg
      rw [this]; rfl
    rw [e1, he, hk]; rfl
abbrev sRowsThat : Stmt := top 11
def ItemAt (H : Hp) (r : Addr) (x : Item) : Prop := ∃ q, H r = some (.tup [.ref q, .int ((x.2 : Nat) : Int)]) ∧ TupI H q (iw x.1)
theorem ItemAt.stay {H H' : Hp} {r : Addr} {x : Item} (h : ItemAt H r x) (t : TupsStay H H') : ItemAt H' r x := by
  obtain ⟨q, h1, h2⟩ := h
  exact ⟨q, t _ _ h1, t _ _ h2⟩
def spRowsThat : Sp := fun vs H Q _ => ∃ (S C : Addr) (a : Rh03.Auto), vs = [.ref S, .ref C] ∧ StatesAt H S a ∧ CountsAt H C a 9 ∧ a.length ≤ 2100 ∧ (∀ n ∈ a, n.edges.length ≤ 2100) ∧ (Rh03.layer a 9).getD 0 0 ≤ 60 ∧
  ∀ (H' : Hp) (p : Addr) (ws : List Word), Same H H' → DictAt H' p ws → ws.Perm (Rh03.spell a 9 0) → Q (.ref p) H'
theorem cat_word {K : PySem.W.Frag} {H : Hp} {a b : Addr} {p : Word} {x : Nat} {Q : VK} (ha : TupI H a (iw p)) (hb : TupI H b (iw [x])) (hl : p.length ≤ 60) (k : ∀ q H', Same H H' → TupI H' q (iw (p ++ [x])) → Q (.ref q) H') : rCatA K (.ref a) (.ref b) H Q := by
  have ep : iw (p ++ [x]) = iw p ++ iw [x] := by show List.map _ _ = _; rw [List.map_append]; rfl
  refine ⟨a, b, _, _, rfl, rfl, SqT.of ha, SqT.of hb, ?_, fun e => ?_, fun _ e => ?_, fun h1 h2 q hq => ?_⟩
  · rw [List.length_map, iw_len, sizeLine_eq]
    show p.length + 1 ≤ _
    omega
  · refine k b H (Same.refl H) ?_
    have : p = [] := by
      cases p with
      | nil => rfl
      | cons _ _ => cases e
    subst this
    exact hb
  · cases e
  · refine k q _ (Same.new hq) ?_
    show upd H q _ q = _
    rw [upd_same, ep, List.map_append]
/-- what the loop has at hand -/
structure Walked (H Hi : Hp) (F W : Addr) (a : Rh03.Auto) (ws : List Word) (its : List Item) : Prop where
  same : Same H Hi
  found : DictAt Hi F ws
  wait : ∃ rs : List Addr, Hi W = some (.lst (rs.map V.ref)) ∧ Paired (ItemAt Hi) rs its
def PosI (a : Rh03.Auto) (x : Item) : Prop := x.1.length ≤ 8 ∧ 0 < (Rh03.layer a (9 - x.1.length)).getD x.2 0
theorem pos_len {a : Rh03.Auto} : ∀ {its : List Item}, (∀ x ∈ its, PosI a x) → its.length ≤ (its.flatMap (spellAt a)).length
  | [], _ => Nat.zero_le _
  | x :: its, h => by
    have ih := pos_len (its := its) fun y hy => h y (List.mem_cons_of_mem _ hy)
    have hx := (h x List.mem_cons_self).2
    rw [List.flatMap_cons, List.length_append, List.length_cons]
    have : 0 < (spellAt a x).length := by
      unfold spellAt
      rw [List.length_map, spell_len]; exact hx
    omega
theorem useN {G : Prop} {N Inv : L2.St → Hp → Prop} (main : (∀ σ H, Inv σ H → N σ H) → G) (loop : ∀ σ H, Inv σ H → N σ H) : G := main loop
theorem ItemAt.pair {H H' : Hp} {rs : List Addr} {its : List Item} (h : Paired (ItemAt H) rs its) (t : TupsStay H H') : Paired (ItemAt H') rs its := Paired.mapP h fun _ _ z => z.stay t
section
variable {P : Program} {w : World} {K : PySem.W.Frag} {mg : Str → Option Value} {base : Heap}
theorem scRowsThat : FnScope ["states", "counts", "found", "waiting", "reached", "state", "left", "link"] ["states", "counts"] (defScope sRowsThat) := ⟨rfl, rfl, rfl, by decide +kernel, rfl, by decide +kernel, by decide +kernel⟩
theorem ok_rows_that {f : Addr} {fd : FuncData} (F : Fun K "rows_that_end" "rows_that_end" sRowsThat f fd) (T : Names mg) : FnOk P w K mg base CX0 1 f fd ["states", "counts"] spRowsThat := by
  refine F.ok scRowsThat (fun vs H Q E h => ?_) (fun cdv A outer s H vs Q E hr h => ?_)
  · obtain ⟨S, C, a, rfl, _⟩ := h
    rfl
  · obtain ⟨S, C, a, rfl, hSt, hCt, hal, hel, h60, k⟩ := h
    refine ⟨_, pss_cons (ps_set (i := 2) scRowsThat.nd rfl (Or.inl rfl) (pe_lst pa_nil))
      (pss_cons (ps_set (i := 3) scRowsThat.nd rfl (Or.inl rfl) (pe_lst pa_nil))
      (pss_cons (ps_if (pt_cmpR op_gt (pe_callB call_len_seq (by rfl) T.len PySem.boot_len (pa_cons (pv 0) pa_nil)) pe_int (nomark _))
        (pss_one (ps_expr (pe_bm PySem.F.plainAttrs_list PySem.F.slot_list_append PySem.F.type_list_append mt_append (pv 3) (pa_cons (pe_tup (pa_cons (pe_tup pa_nil) (pa_cons pe_int pa_nil))) pa_nil)))) pss_nil)
      (pss_cons (ps_while PassesOwn.never (pt_cmpR op_gt (pe_callB call_len_seq (by rfl) T.len PySem.boot_len (pa_cons (pv 3) pa_nil)) pe_int (nomark _))
        (pss_cons (ps_set (i := 4) scRowsThat.nd rfl (Or.inl rfl) (pe_bm0 PySem.F.plainAttrs_list PySem.F.slot_list_pop PySem.F.type_list_pop mt_pop (pv 3)))
        (pss_cons (ps_set (i := 5) scRowsThat.nd rfl (Or.inl rfl) (pe_ix ix_list (pv 0) (pe_ix ix_tup (pv 4) pe_int (fun _ _ => rfl)) (fun _ _ => rfl)))
        (pss_cons (ps_if (pt_val (pe_ix ix_tup (pv 5) pe_int (fun _ _ => rfl))) (pss_one (ps_expr (pe_bm PySem.F.plainAttrs_list PySem.F.slot_list_append PySem.F.type_list_append mt_append (pv 2) (pa_cons (pe_ix ix_tup (pv 4) pe_int (fun _ _ => rfl)) pa_nil)))) pss_nil)
        (pss_cons (ps_set (i := 6) scRowsThat.nd rfl (Or.inl rfl) (pe_op op_sub (pe_op op_sub (pe_callB call_len_seq (by rfl) T.len PySem.boot_len (pa_cons (pv 1) pa_nil)) pe_int) (pe_callB call_len_seq (by rfl) T.len PySem.boot_len (pa_cons (pe_ix ix_tup (pv 4) pe_int (fun _ _ => rfl)) pa_nil))))
        (pss_one (ps_for PassesOwn.never rfl (pi_list (pe_ix ix_tup (pv 5) pe_int (fun _ _ => rfl))) (pg_name (i := 7) scRowsThat.nd rfl (Or.inl rfl))
          (pss_one (ps_if (PW.pt (pw_and (pt_cmpR op_gt (pv 6) pe_int (nomark _)) (pw_and (pt_cmpR op_lt (pe_ix ix_tup (pv 7) pe_int (fun _ _ => rfl)) (pe_callB call_len_seq (by rfl) T.len PySem.boot_len (pa_cons (pv 0) pa_nil)) (nomark _)) (pw_and1 (pt_cmpR op_gt (pe_ix ix_list (pe_ix ix_list (pv 1) (pe_op op_sub (pv 6) pe_int) (fun _ _ => rfl)) (pe_ix ix_tup (pv 7) pe_int (fun _ _ => rfl)) (fun _ _ => rfl)) pe_int (nomark _))))))
            (pss_one (ps_expr (pe_bm PySem.F.plainAttrs_list PySem.F.slot_list_append PySem.F.type_list_append mt_append (pv 3) (pa_cons (pe_tup (pa_cons (pe_op op_catA (pe_ix ix_tup (pv 4) pe_int (fun _ _ => rfl)) (pe_tup (pa_cons (pe_ix ix_tup (pv 7) pe_int (fun _ _ => rfl)) pa_nil))) (pa_cons (pe_ix ix_tup (pv 7) pe_int (fun _ _ => rfl)) pa_nil))) pa_nil)))) pss_nil)))))))))
      (pss_one (ps_ret (pv 2)))))), ?_⟩
    refine ⟨Nat.zero_le _, fun Fa hF => ?_⟩
    refine ⟨Nat.zero_le _, fun W hW => ?_⟩
    have hWF : W ≠ Fa := fun z => by rw [z, upd_same] at hW; cases hW
    have hWH : H W = none := by rw [upd_ne hWF] at hW; exact hW
    have s0 : Same H (upd (upd H Fa (.lst [])) W (.lst [])) := Same.trans (Same.new hF) (Same.new hW)
    have hF0 : (upd (upd H Fa (.lst [])) W (.lst [])) Fa = some (.lst []) := by rw [upd_ne (Ne.symm hWF)]; exact upd_same
    have hW0 : (upd (upd H Fa (.lst [])) W (.lst [])) W = some (.lst []) := upd_same
    generalize upd (upd H Fa (.lst [])) W (.lst []) = H0 at s0 hF0 hW0 ⊢
    have hSt0 := hSt
    obtain ⟨ts, hS, hPt⟩ := hSt0
    have htl : ts.length = a.length := Paired.length hPt
    refine useN (N := ?N) (Inv := fun σ Hi => ∃ its : List Item, σ = [some (.ref S), some (.ref C), some (.ref Fa), some (.ref W), none, none, none, none] ∧ Walked H Hi Fa W a [] its ∧ (its.flatMap (spellAt a)).Perm (Rh03.spell a 9 0) ∧ ((its = [([], 0)] ∧ 0 < a.length) ∨ ∀ x ∈ its, PosI a x)) ?main ?loop
    case main =>
      intro L
      refine ⟨_, rfl, S, _, rfl, .inl (SqL.of (s0 _ _ hS)), _, _, rfl, rfl, _, rfl, ?_⟩
      rw [List.length_map, htl]
      by_cases c : 0 < a.length
      · refine ifT (decide_eq_true (by omega)) ⟨_, rfl, .inl ⟨rfl, _, SqL.of hW0⟩, Nat.zero_le _, fun q hq => ⟨by show 2 ≤ sizeLine; decide, fun r hr0 => ?_⟩⟩
        have s1 := Same.trans (Same.new (o := .tup []) hq) (Same.new (o := .tup [V.ref q, V.int 0]) hr0)
        have hq1 : (upd (upd H0 q (.tup [])) r (.tup [V.ref q, V.int 0])) q = some (.tup []) := Same.new hr0 _ _ upd_same
        have hr1 : (upd (upd H0 q (.tup [])) r (.tup [V.ref q, V.int 0])) r = some (.tup [V.ref q, V.int 0]) := upd_same
        generalize upd (upd H0 q (.tup [])) r (.tup [V.ref q, V.int 0]) = H1 at s1 hq1 hr1 ⊢
        have hW1 := s1 _ _ hW0
        have st : TupsStay H1 (upd H1 W (.lst ([] ++ [V.ref r]))) := fun b ys z => by rw [upd_ne (ne_of z hW1 (by intro y; cases y))]; exact z
        refine ⟨W, _, _, rfl, rfl, hW1, by show 0 < sizeLine; decide, ?_⟩
        dsimp only
        refine L _ _ ⟨[([], 0)], rfl, ⟨fun b o z => ?_, ⟨[], ?_, .nil⟩, [r], upd_same, .cons ⟨q, st _ _ hr1, st _ _ hq1⟩ .nil⟩, ?_, .inl ⟨rfl, c⟩⟩
        · rw [upd_ne (ne_of_none z hWH)]; exact s1 _ _ (s0 _ _ z)
        · rw [upd_ne (Ne.symm hWF)]; exact s1 _ _ hF0
        · have : ([([], 0)] : List Item).flatMap (spellAt a) = Rh03.spell a 9 0 := by
            show ((Rh03.spell a 9 0).map fun v => [] ++ v) ++ [] = _
            rw [List.append_nil]
            exact List.map_id _
          rw [this]
      · refine ifF (decide_eq_false (by omega)) ?_
        refine L _ _ ⟨[], rfl, ⟨s0, ⟨[], hF0, .nil⟩, [], hW0, .nil⟩, ?_, .inr fun x hx => (nomatch hx)⟩
        have e0 : a = [] := List.length_eq_zero_iff.mp (by omega)
        subst e0
        exact List.Perm.refl _
    case loop =>
      rintro σ H3 ⟨its0, rfl, hWk0, hpm0, hok0⟩
      refine ⟨fun m σ Hi => ∃ (v4 v5 v6 v7 : Option V) (ws : List Word) (its : List Item), σ = [some (.ref S), some (.ref C), some (.ref Fa), some (.ref W), v4, v5, v6, v7] ∧ m = (its.map (costAt a)).sum ∧ Walked H Hi Fa W a ws its ∧ (ws ++ its.flatMap (spellAt a)).Perm (Rh03.spell a 9 0) ∧ ((its = [([], 0)] ∧ 0 < a.length) ∨ ∀ x ∈ its, PosI a x),
        ⟨_, none, none, none, none, [], its0, rfl, rfl, hWk0, hpm0, hok0⟩, ?_⟩
      rintro m σ Hi ⟨v4, v5, v6, v7, ws, its, rfl, rfl, ⟨si, hFo, rs, hWi, hPi⟩, hpm, hok⟩
      have hrl : rs.length = its.length := Paired.length hPi
      refine ⟨_, rfl, W, _, rfl, .inl (SqL.of hWi), _, _, rfl, rfl, _, rfl, ?_⟩
      rw [List.length_map, hrl]
      rcases List.eq_nil_or_concat its with e0 | ⟨it', x, e0⟩
      · subst e0
        refine ifF (decide_eq_false (by decide)) ⟨_, rfl, ?_⟩
        rw [List.flatMap_nil, List.append_nil] at hpm
        exact k Hi Fa ws si hFo hpm
      · rw [List.concat_eq_append] at e0
        subst e0
        obtain ⟨rs', r, rfl⟩ : ∃ rs' r, rs = rs' ++ [r] := by
          rcases List.eq_nil_or_concat rs with z | ⟨a, b, z⟩
          · rw [z, List.length_append, List.length_singleton, List.length_nil] at hrl; omega
          · exact ⟨a, b, by rw [z, List.concat_eq_append]⟩
        obtain ⟨hp1, hp2⟩ := paired_snoc hPi
        have hx8 : x.1.length ≤ 8 := by
          rcases hok with ⟨e, _⟩ | h
          · have : x = ([], 0) := by
              have := congrArg List.getLast? e
              simpa using this
            rw [this]; exact Nat.zero_le _
          · exact (h x (by simp)).1
        have hxa : x.2 < a.length := by
          rcases hok with ⟨e, h⟩ | h
          · have : x = ([], 0) := by
              have := congrArg List.getLast? e
              simpa using this
            rw [this]; exact h
          · exact layer_in (h x (by simp)).2
        have hpos' : ∀ y ∈ it', PosI a y := by
          rcases hok with ⟨e, _⟩ | h
          · have : it' = [] := by
              have := congrArg List.length e
              rw [List.length_append] at this
              simp at this
              exact this
            rw [this]; exact fun y hy => (nomatch hy)
          · exact fun y hy => h y (List.mem_append_left _ hy)
        have hn : a[x.2]? = some a[x.2] := List.getElem?_eq_getElem hxa
        generalize hne : a[x.2] = n at hn
        have hnm : n ∈ a := List.mem_of_getElem? hn
        obtain ⟨t, htn, hnode⟩ := paired_get_r hPt hn
        have htv : (ts.map V.ref)[x.2]? = some (V.ref t) := by rw [List.getElem?_map, htn]; rfl
        refine ifT (decide_eq_true (by rw [List.length_append, List.length_singleton]; omega)) ?_
        refine ⟨fun σ' H' => ∃ m', m' < ((it' ++ [x]).map (costAt a)).sum ∧ ∃ (v4 v5 v6 v7 : Option V) (ws : List Word) (its : List Item), σ' = [some (.ref S), some (.ref C), some (.ref Fa), some (.ref W), v4, v5, v6, v7] ∧ m' = (its.map (costAt a)).sum ∧ Walked H H' Fa W a ws its ∧ (ws ++ its.flatMap (spellAt a)).Perm (Rh03.spell a 9 0) ∧ ((its = [([], 0)] ∧ 0 < a.length) ∨ ∀ x ∈ its, PosI a x), fun σ' H' h => h, ?_⟩
        have hlast : ((rs' ++ [r]).map V.ref)[((rs' ++ [r]).map V.ref).length - 1]? = some (V.ref r) := by
          rw [List.map_append, List.length_append]; simp
        refine ⟨_, rfl, .inl ⟨rfl, _, SqL.of hWi⟩, W, _, _, rfl, rfl, hWi, hlast, ?_⟩
        have edl : ((rs' ++ [r]).map V.ref).dropLast = rs'.map V.ref := by rw [List.map_append]; simp
        rw [edl]
        have stA : TupsStay Hi (upd Hi W (.lst (rs'.map V.ref))) := fun b ys e => by rw [upd_ne (ne_of e hWi (by intro z; cases z))]; exact e
        have sA : Same H (upd Hi W (.lst (rs'.map V.ref))) := fun b o e => by rw [upd_ne (ne_of_none e hWH)]; exact si _ _ e
        have wA : (upd Hi W (.lst (rs'.map V.ref))) W = some (.lst (rs'.map V.ref)) := upd_same
        have fA : DictAt (upd Hi W (.lst (rs'.map V.ref))) Fa ws := by
          obtain ⟨bs, h1, h2⟩ := hFo
          exact ⟨bs, by rw [upd_ne (Ne.symm hWF)]; exact h1, paired_stay h2 stA⟩
        have pA := ItemAt.pair hp1 stA
        have xA := hp2.stay stA
        generalize upd Hi W (.lst (rs'.map V.ref)) = HA at stA sA wA fA pA xA ⊢
        obtain ⟨q, hrq, hqw⟩ := xA
        obtain ⟨ke, hkS, htt, ps, hke, hps⟩ := hnode
        refine ⟨_, rfl, _, rfl, r, _, _, V.int ((x.2 : Nat) : Int), rfl, rfl, SqT.of hrq, atI_nat (j := 1) rfl, S, _, _, V.ref t, rfl, rfl, SqL.of (sA _ _ hS), atI_nat htv, ?_⟩
        refine ⟨_, rfl, t, _, _, V.bl n.ends, rfl, rfl, SqT.of (sA _ _ htt), atI_nat (j := 0) rfl, _, rfl, ?_⟩
        have hsl : (Rh03.spell a 9 0).length ≤ 60 := by rw [spell_len]; exact h60
        have hpl := hpm.length_eq
        rw [List.flatMap_append, List.length_append, List.length_append] at hpl
        have ksx := spellAt_kids' hn hx8
        have e1x : ([x] : List Item).flatMap (spellAt a) = spellAt a x := by show spellAt a x ++ [] = _; rw [List.append_nil]
        rw [e1x, ksx, List.length_append] at hpl
        refine useN (N := ?N2) (Inv := fun σ HB => ∃ ws' : List Word, ws' = ws ++ (if n.ends = true then [x.1] else []) ∧ σ = [some (.ref S), some (.ref C), some (.ref Fa), some (.ref W), some (.ref r), some (.ref t), v6, v7] ∧ Same H HB ∧ DictAt HB Fa ws' ∧ HB W = some (.lst (rs'.map V.ref)) ∧ Paired (ItemAt HB) rs' it' ∧ HB r = some (.tup [.ref q, .int ((x.2 : Nat) : Int)]) ∧ TupI HB q (iw x.1)) ?main2 ?loop2
        case main2 =>
          intro L2'
          cases hc : n.ends with
          | true =>
            refine ifT rfl ?_
            obtain ⟨bs, hb1, hb2⟩ := fA
            have hbl : bs.length = ws.length := by rw [Paired.length hb2, List.length_map]
            refine ⟨_, rfl, .inl ⟨rfl, _, SqL.of hb1⟩, _, rfl, r, _, _, V.ref q, rfl, rfl, SqT.of hrq, atI_nat (j := 0) rfl, Fa, _, _, rfl, rfl, hb1, by rw [List.length_map, sizeLine_eq]; omega, ?_⟩
            dsimp only
            have st : TupsStay HA (upd HA Fa (.lst (bs.map V.ref ++ [V.ref q]))) := fun b ys z => by rw [upd_ne (ne_of z hb1 (by intro y; cases y))]; exact z
            refine L2' _ _ ⟨_, rfl, rfl, fun b o z => ?_, ⟨bs ++ [q], by rw [upd_same, List.map_append]; rfl, ?_⟩, by rw [upd_ne hWF]; exact wA, ItemAt.pair pA st, st _ _ hrq, st _ _ hqw⟩
            · rw [upd_ne (ne_of_none z hF)]; exact sA _ _ z
            · rw [hc, if_pos rfl]
              have en : nk (ws ++ [x.1]) = nk ws ++ [iw x.1] := by
                show List.map iw _ = _
                rw [List.map_append]; rfl
              rw [en]
              exact Paired.snoc (paired_stay hb2 st) (st _ _ hqw)
          | false =>
            refine ifF rfl ?_
            refine L2' _ _ ⟨_, rfl, rfl, sA, ?_, wA, pA, hrq, hqw⟩
            rw [hc, if_neg Bool.false_ne_true, List.append_nil]
            exact fA
        case loop2 =>
          rintro σ HB ⟨ws', hws', rfl, sB, fB, wB, pB, hrB, hqB⟩
          obtain ⟨lc, hC, hlc, hCno, hlcs⟩ := hCt
          refine ⟨_, rfl, C, _, rfl, .inl (SqL.of (sB _ _ hC)), _, _, rfl, rfl, _, rfl, r, _, _, V.ref q, rfl, rfl, SqT.of hrB, atI_nat (j := 0) rfl, q, _, rfl, .inr (SqT.of hqB), _, _, rfl, rfl, ?_⟩
          dsimp only
          have eleft : (((lc.map V.ref).length : Nat) : Int) - 1 - ((((iw x.1).map V.int).length : Nat) : Int) = ((8 - x.1.length : Nat) : Int) := by
            rw [List.length_map, List.length_map, iw_len, hlc]; omega
          rw [eleft]
          have hpsl : ps.length = n.edges.length := Paired.length hps
          refine ⟨_, rfl, t, _, _, V.ref ke, rfl, rfl, SqT.of (sB _ _ htt), atI_nat (j := 1) rfl, ke, rfl, ⟨_, SqL.of (sB _ _ hke)⟩, for_list (K := K) (a := ke) (xs := ps.map V.ref)
            (fun j σ Hj => ∃ v7, σ = [some (.ref S), some (.ref C), some (.ref Fa), some (.ref W), some (.ref r), some (.ref t), some (.int ((8 - x.1.length : Nat) : Int)), v7] ∧ Same H Hj ∧ DictAt Hj Fa ws' ∧ (∃ rs2 : List Addr, Hj W = some (.lst (rs2.map V.ref)) ∧ Paired (ItemAt Hj) rs2 (it' ++ ((n.edges.take j).filter (goOn a x)).map fun e => (x.1 ++ [e.1], e.2))) ∧ Hj r = some (.tup [.ref q, .int ((x.2 : Nat) : Int)]) ∧ TupI Hj q (iw x.1))
            ⟨v7, rfl, sB, fB, ⟨rs', wB, by rw [List.take_zero]; show Paired _ _ (it' ++ []); rw [List.append_nil]; exact pB⟩, hrB, hqB⟩ (fun j σ Hj _ ⟨_, _, sj, _⟩ => SqL.of (sj _ _ hke)) ?_ ?_⟩
          · rintro j y σ Hj hj ⟨v7, rfl, sj, fj, ⟨rs2, wj, pj⟩, hrj, hqj⟩
            obtain ⟨b, hb, rfl⟩ := get_map hj
            obtain ⟨e, he, hbe⟩ := paired_get hps hb
            have hbe : H b = some (.tup [.int ((e.1 : Nat) : Int), .int ((e.2 : Nat) : Int)]) := hbe
            have fm := filt_more (p := goOn a x) he
            have hbj := sj _ _ hbe
            have skip : goOn a x e = false → ∃ v7, [some (V.ref S), some (V.ref C), some (V.ref Fa), some (V.ref W), some (V.ref r), some (V.ref t), some (V.int ((8 - x.1.length : Nat) : Int)), some (V.ref b)] = [some (V.ref S), some (V.ref C), some (V.ref Fa), some (V.ref W), some (V.ref r), some (V.ref t), some (V.int ((8 - x.1.length : Nat) : Int)), v7] ∧ Same H Hj ∧ DictAt Hj Fa ws' ∧ (∃ rs2 : List Addr, Hj W = some (.lst (rs2.map V.ref)) ∧ Paired (ItemAt Hj) rs2 (it' ++ ((n.edges.take (j + 1)).filter (goOn a x)).map fun e => (x.1 ++ [e.1], e.2))) ∧ Hj r = some (.tup [.ref q, .int ((x.2 : Nat) : Int)]) ∧ TupI Hj q (iw x.1) := by
              intro hg
              rw [if_neg (by rw [hg]; exact Bool.false_ne_true), List.append_nil] at fm
              rw [fm]
              exact ⟨_, rfl, sj, fj, ⟨rs2, wj, pj⟩, hrj, hqj⟩
            refine ⟨_, rfl, _, _, rfl, rfl, _, rfl, ?_⟩
            by_cases c1 : 0 < 8 - x.1.length
            · refine ifT (decide_eq_true (by omega)) ?_
              refine ⟨_, rfl, b, _, _, V.int ((e.2 : Nat) : Int), rfl, rfl, SqT.of hbj, atI_nat (j := 1) rfl, _, rfl, S, _, rfl, .inl (SqL.of (sj _ _ hS)), _, _, rfl, rfl, _, rfl, ?_⟩
              rw [List.length_map, htl]
              by_cases c2 : e.2 < a.length
              · refine ifT (decide_eq_true (by omega)) ?_
                have hli : (7 - x.1.length) < lc.length := by omega
                have hlj : lc[7 - x.1.length]? = some lc[7 - x.1.length] := List.getElem?_eq_getElem hli
                generalize lc[7 - x.1.length] = lj at hlj
                have hlo := hlcs _ lj hlj
                have e8 : 7 - x.1.length + 1 = 8 - x.1.length := by omega
                rw [e8] at hlo
                have hlv : (lc.map V.ref)[7 - x.1.length]? = some (V.ref lj) := by rw [List.getElem?_map, hlj]; rfl
                have hge : (nV (Rh03.layer a (8 - x.1.length)))[e.2]? = some (V.int (((Rh03.layer a (8 - x.1.length)).getD e.2 0 : Nat) : Int)) := by
                  show ((Rh03.layer a (8 - x.1.length)).map _)[e.2]? = _
                  have : e.2 < (Rh03.layer a (8 - x.1.length)).length := by rw [layer_len]; exact c2
                  rw [List.getElem?_map, List.getElem?_eq_getElem this, List.getD_eq_getElem?_getD, List.getElem?_eq_getElem this]; rfl
                have el1 : ((8 - x.1.length : Nat) : Int) - 1 = ((7 - x.1.length : Nat) : Int) := by omega
                refine ⟨_, rfl, _, rfl, _, _, rfl, rfl, C, _, _, V.ref lj, rfl, rfl, SqL.of (sj _ _ hC), by rw [el1]; exact atI_nat hlv, _, rfl, b, _, _, V.int ((e.2 : Nat) : Int), rfl, rfl, SqT.of hbj, atI_nat (j := 1) rfl, lj, _, _, _, rfl, rfl, SqL.of (sj _ _ hlo), atI_nat hge, _, _, rfl, rfl, _, rfl, ?_⟩
                by_cases c3 : 0 < (Rh03.layer a (8 - x.1.length)).getD e.2 0
                · refine ifT (decide_eq_true (by omega)) ?_
                  have hg : goOn a x e = true := by
                    unfold goOn
                    rw [decide_eq_true c1, decide_eq_true c2, decide_eq_true c3]; rfl
                  rw [if_pos hg] at fm
                  have hlen2 : rs2.length ≤ 60 := by
                    have h1 := Paired.length pj
                    rw [h1]
                    have hp : ∀ y ∈ it' ++ ((n.edges.take j).filter (goOn a x)).map (fun e => (x.1 ++ [e.1], e.2)), PosI a y := fun y hy => by
                      rcases List.mem_append.mp hy with hy | hy
                      · exact hpos' y hy
                      · have : y ∈ kidsAt a x := by
                          unfold kidsAt
                          rw [hn]
                          obtain ⟨e', he', rfl⟩ := List.mem_map.mp hy
                          have h3 := List.mem_filter.mp he'
                          exact List.mem_map.mpr ⟨e', List.mem_filter.mpr ⟨List.mem_of_mem_take h3.1, h3.2⟩, rfl⟩
                        have h4 := kid_ok this
                        exact ⟨h4.1, h4.2.1⟩
                    have h5 := pos_len hp
                    rw [List.flatMap_append, List.length_append, List.length_append] at h5
                    have h6 : ((((n.edges.take j).filter (goOn a x)).map fun e => (x.1 ++ [e.1], e.2)).flatMap (spellAt a)).length ≤ ((kidsAt a x).flatMap (spellAt a)).length := by
                      unfold kidsAt
                      rw [hn]
                      have hsub : (((n.edges.take j).filter (goOn a x)).map fun e => (x.1 ++ [e.1], e.2)).Sublist ((n.edges.filter (goOn a x)).map fun e => (x.1 ++ [e.1], e.2)) := ((List.take_sublist j n.edges).filter _).map _
                      have gen : ∀ {l m : List Item}, l.Sublist m → (l.flatMap (spellAt a)).length ≤ (m.flatMap (spellAt a)).length := by
                        intro l m h
                        induction h with
                        | slnil => exact Nat.le_refl _
                        | cons y _ ih => rw [List.flatMap_cons, List.length_append]; omega
                        | cons_cons y _ ih => rw [List.flatMap_cons, List.flatMap_cons, List.length_append, List.length_append]; omega
                      exact gen hsub
                    rw [List.length_append]
                    omega
                  refine ⟨_, rfl, .inl ⟨rfl, _, SqL.of wj⟩, _, rfl, r, _, _, V.ref q, rfl, rfl, SqT.of hrj, atI_nat (j := 0) rfl, _, rfl, b, _, _, V.int ((e.1 : Nat) : Int), rfl, rfl, SqT.of hbj, atI_nat (j := 0) rfl, by show 1 ≤ sizeLine; decide, fun z hz => ?_⟩
                  have s1 := Same.new (o := .tup [V.int ((e.1 : Nat) : Int)]) hz
                  have hz1 : TupI (upd Hj z (.tup [V.int ((e.1 : Nat) : Int)])) z (iw [e.1]) := upd_same
                  generalize upd Hj z (.tup [V.int ((e.1 : Nat) : Int)]) = H1 at s1 hz1 ⊢
                  refine cat_word (p := x.1) (x := e.1) (s1 _ _ hqj) hz1 (by omega) fun q2 H2 s2 hq2 => ?_
                  have s12 := Same.trans s1 s2
                  refine ⟨_, rfl, b, _, _, V.int ((e.2 : Nat) : Int), rfl, rfl, SqT.of (s12 _ _ hbj), atI_nat (j := 1) rfl, by show 2 ≤ sizeLine; decide, fun y hy => ?_⟩
                  have s3 := Same.new (o := .tup [V.ref q2, V.int ((e.2 : Nat) : Int)]) hy
                  have hy1 : (upd H2 y (.tup [V.ref q2, V.int ((e.2 : Nat) : Int)])) y = some (.tup [V.ref q2, V.int ((e.2 : Nat) : Int)]) := upd_same
                  have s13 := Same.trans s12 s3
                  generalize upd H2 y (.tup [V.ref q2, V.int ((e.2 : Nat) : Int)]) = H3' at s3 hy1 s13 ⊢
                  have w3 := s13 _ _ wj
                  have st : TupsStay H3' (upd H3' W (.lst (rs2.map V.ref ++ [V.ref y]))) := fun b ys z => by rw [upd_ne (ne_of z w3 (by intro y; cases y))]; exact z
                  have stj : TupsStay Hj (upd H3' W (.lst (rs2.map V.ref ++ [V.ref y]))) := fun b ys z => st _ _ (s13 _ _ z)
                  refine ⟨W, _, _, rfl, rfl, w3, by rw [List.length_map, sizeLine_eq]; omega, _, rfl, fun b o z => ?_, ?_, ⟨rs2 ++ [y], by rw [upd_same, List.map_append]; rfl, ?_⟩, stj _ _ hrj, stj _ _ hqj⟩
                  · rw [upd_ne (ne_of_none z hWH)]; exact s13 _ _ (sj _ _ z)
                  · obtain ⟨bs, h1, h2⟩ := fj
                    exact ⟨bs, by rw [upd_ne (Ne.symm hWF)]; exact s13 _ _ h1, paired_stay h2 stj⟩
                  · rw [fm, List.map_append, ← List.append_assoc]
                    exact Paired.snoc (ItemAt.pair pj stj) ⟨q2, st _ _ hy1, st _ _ (s3 _ _ hq2)⟩
                · refine ifF (decide_eq_false (by omega)) (skip ?_)
                  unfold goOn
                  rw [decide_eq_false c3]; simp
              · refine ifF (decide_eq_false (by omega)) (ifF rfl (skip ?_))
                unfold goOn
                rw [decide_eq_false c2]; simp
            · refine ifF (decide_eq_false (by omega)) (ifF rfl (skip ?_))
              unfold goOn
              rw [decide_eq_false c1]; rfl
          · rintro σ Hj ⟨v7, rfl, sj, fj, ⟨rs2, wj, pj⟩, hrj, hqj⟩
            rw [List.length_map, hpsl, List.take_length] at pj
            have ek : (n.edges.filter (goOn a x)).map (fun e => (x.1 ++ [e.1], e.2)) = kidsAt a x := by
              unfold kidsAt
              rw [hn]
            rw [ek] at pj
            refine ⟨_, ?_, _, _, _, v7, ws', it' ++ kidsAt a x, rfl, rfl, ⟨sj, fj, rs2, wj, pj⟩, ?_, .inr fun y hy => ?_⟩
            · have := cost_kids hn hx8
              rw [List.map_append, List.map_append, sum_app, sum_app]
              show _ < _ + (costAt a x + 0)
              omega
            · refine List.Perm.trans ?_ hpm
              rw [hws', List.flatMap_append, List.flatMap_append, e1x, ksx]
              rw [List.append_assoc]
              refine List.Perm.append_left _ ?_
              rw [← List.append_assoc, ← List.append_assoc]
              exact List.Perm.append_right _ List.perm_append_comm
            · rcases List.mem_append.mp hy with hy | hy
              · exact hpos' y hy
              · have h4 := kid_ok hy
                exact ⟨h4.1, h4.2.1⟩
end
end Ls
/-! LsEA -/
namespace Ls
open PySem PySem.Spec PyProof.Rows L2
theorem dpAll_ints {K : PySem.W.Frag} {H : Hp} : ∀ ns : List Int, DpAll K H (ns.map V.int) (ns.map PyData.int)
  | [] => .nil
  | n :: ns => .cons (.int n) (dpAll_ints ns)
theorem ne_ints {K : PySem.W.Frag} {H : Hp} {a b : Addr} {u v : List Nat} {Q : VK} (ha : H a = some (.lst (nV u))) (hb : H b = some (.lst (nV v))) (k : Q (.bl (!decide (u = v))) H) : rNeD K (.ref a) (.ref b) H Q := by
  refine ⟨.list ((iw u).map PyData.int), .list ((iw v).map PyData.int), .lst (SqL.of ha) (by rw [nV_iw]; exact dpAll_ints _), .lst (SqL.of hb) (by rw [nV_iw]; exact dpAll_ints _), PySem.W.ke_shaped_ints _, PySem.W.ke_shaped_ints _, ?_⟩
  have e : PyData.eqv (.list ((iw u).map PyData.int)) (.list ((iw v).map PyData.int)) = decide (u = v) := by
    rw [PyData.eqv, PySem.W.ked_eqvAll]
    exact decide_eq_decide.mpr ⟨iw_inj, fun h => by rw [h]⟩
  rw [e]; exact k
/-! ### lists of words and lists of tuples -/
theorem zip_of {H : Hp} : ∀ {bs : List Addr} {ks : NKey}, Paired (TupI H) bs ks → ∃ L : List (Addr × List Int), L.map (·.1) = bs ∧ L.map (·.2) = ks ∧ ∀ p ∈ L, TupI H p.1 p.2
  | [], _, .nil => ⟨[], rfl, rfl, fun p h => (nomatch h)⟩
  | _, _, .cons (a := b) (b := k) r t => by
    obtain ⟨L, h1, h2, h3⟩ := zip_of t
    refine ⟨(b, k) :: L, by rw [List.map_cons, h1], by rw [List.map_cons, h2], fun p hp => ?_⟩
    rcases List.mem_cons.mp hp with e | hp
    · rw [e]; exact r
    · exact h3 p hp
theorem pair_of {H : Hp} : ∀ {L : List (Addr × List Int)}, (∀ p ∈ L, TupI H p.1 p.2) → Paired (TupI H) (L.map (·.1)) (L.map (·.2))
  | [], _ => .nil
  | p :: L, h => .cons (h p List.mem_cons_self) (pair_of fun q hq => h q (List.mem_cons_of_mem _ hq))
theorem words_of : ∀ {ks : NKey}, (∀ k ∈ ks, ∃ w : Word, k = iw w) → ∃ ws : List Word, ks = nk ws
  | [], _ => ⟨[], rfl⟩
  | k :: ks, h => by
    obtain ⟨w, hw⟩ := h k List.mem_cons_self
    obtain ⟨ws, hws⟩ := words_of (ks := ks) fun q hq => h q (List.mem_cons_of_mem _ hq)
    exact ⟨w :: ws, by rw [hw, hws]; rfl⟩
theorem nk_mem {w : Word} {ws : List Word} : iw w ∈ nk ws ↔ w ∈ ws := by
  constructor
  · intro h
    obtain ⟨v, hv, e⟩ := List.mem_map.mp h
    rw [← iw_inj e]; exact hv
  · intro h; exact List.mem_map.mpr ⟨w, h, rfl⟩
theorem srt_of {ws : List Word} (h : (nk ws).Pairwise fun q r => HT.lexLt r q = false) (nd : (nk ws).Nodup) : Srt ws := by
  have h2 := List.pairwise_map.mp h
  have nd2 := List.pairwise_map.mp nd
  refine List.Pairwise.imp (fun {u v} z => ?_) (h2.and nd2)
  rw [lex_before] at z
  exact bf_total z.1 fun e => z.2 (by rw [e])
/-- a list that sorted has made of tuples that are words -/
theorem dict_sorted {H : Hp} {p : Addr} {L : List (Addr × List Int)} {ws : List Word} (hL : ∀ q ∈ L, TupI H q.1 q.2) (hk : ∀ k, k ∈ L.map (·.2) → ∃ w : Word, k = iw w) (nd : (L.map (·.2)).Nodup) (pw : L.Pairwise fun q r => HT.lexLt r.2 q.2 = false)
    (hp : H p = some (.lst (L.map fun q => V.ref q.1))) : ∃ ws : List Word, L.map (·.2) = nk ws ∧ Srt ws ∧ DictAt H p ws := by
  obtain ⟨ws, e⟩ := words_of hk
  have pr := pair_of hL
  rw [e] at pr
  refine ⟨ws, e, srt_of ?_ (by rw [← e]; exact nd), L.map (·.1), by rw [List.map_map]; exact hp, pr⟩
  rw [← e]
  exact List.pairwise_map.mpr pw
abbrev sReadRow : Stmt := top 46
def PRow (u : List Nat) : Prop := u.length ≤ 2100
def hUnpack : Hn := fun d u => if 2000 < u.length then (d, [-1]) else match Rh03.unpack u with
  | .inl e => (d, [e])
  | .inr l => (l, iw [l.length])
section
variable {P : Program} {w : World} {K : PySem.W.Frag} {mg : Str → Option Value} {base : Heap}
theorem scReadRow : FnScope ["words", "given", "states", "counts", "told", "row"] ["words", "given"] (defScope sReadRow) := ⟨rfl, rfl, rfl, by decide +kernel, rfl, by decide +kernel, by decide +kernel⟩
theorem ok_read_row {f : Addr} {fd : FuncData} (F : Fun K "read_row" "read_row" sReadRow f fd) (T : Names mg) (T2 : Names2 mg) (CC : Callee P w K mg base "cut_row" 1 ["row"] spCutRow) (CE : Callee P w K mg base "count_ends" 2 ["states", "longest"] spCountEnds) (CR : Callee P w K mg base "rows_that_end" 1 ["states", "counts"] spRowsThat) (CI : Callee P w K mg base "is_word" 1 ["row"] spIsWord) (CW : Callee P w K mg base "write_row" 3 ["words"] spRow) (CS : Callee P w K mg base "set_words" 1 ["words", "new"] spSetWords) : FnOk P w K mg base CX0 4 f fd ["words", "given"] (spH PRow hUnpack) := by
  obtain ⟨fC, fdC, GC, mgC, kpC, bC⟩ := CC
  obtain ⟨fE, fdE, GE, mgE, kpE, bE⟩ := CE
  obtain ⟨fR, fdR, GR, mgR, kpR, bR⟩ := CR
  obtain ⟨fI, fdI, GI, mgI, kpI, bI⟩ := CI
  obtain ⟨fW, fdW, GW, mgW, kpW, bW⟩ := CW
  obtain ⟨fS, fdS, GS, mgS, kpS, bS⟩ := CS
  obtain ⟨t1, g1⟩ := T.m1
  obtain ⟨t5, g5⟩ := T.m5
  obtain ⟨t8, g8⟩ := T.c8
  obtain ⟨t60, g60⟩ := T.c60
  obtain ⟨t7, g7⟩ := T2.m7
  obtain ⟨t2, g2⟩ := T2.r2000
  refine F.ok scReadRow (fun vs H Q E h => ?_) (fun cdv A outer s H vs Q E hr h => ?_)
  · obtain ⟨l, g, d, u, rfl, _⟩ := h
    rfl
  · obtain ⟨l, g, d, u, rfl, hD, hG, hg, hul, k⟩ := h
    have hr1 := hr.mono (show 1 ≤ 3 by decide)
    have hr2 := hr.mono (show 2 ≤ 3 by decide)
    have hu65 := hr65 hr
    have hu64 : _ + 64 < cLine := Nat.lt_of_succ_lt hu65
    refine ⟨_, pss_cons (ps_set (i := 2) scReadRow.nd rfl (Or.inl rfl) (pe_call GC hr1 rfl mgC kpC bC .nil pass0 (pa_cons (pv 1) pa_nil)))
      (pss_cons (ps_if (PW.pt (pw_or (pt_cmpR op_gt (pe_callB call_len_seq (by rfl) T.len PySem.boot_len (pa_cons (pv 1) pa_nil)) (pe_glob (v := .int 2000) (by rfl) g2 ⟨_, rfl⟩) (nomark _)) (pw_or1 (pt_cmpR op_isN (pv 2) pe_non (by rfl))))) (pss_one (ps_ret (pe_lst (pa_cons (pe_glob (v := .int (-1)) (by rfl) g1 ⟨_, rfl⟩) pa_nil)))) pss_nil)
      (pss_cons (ps_set (i := 3) scReadRow.nd rfl (Or.inl rfl) (pe_call GE hr2 rfl mgE kpE bE .nil pass0 (pa_cons (pv 2) (pa_cons (pe_glob (v := .int 8) (by rfl) g8 ⟨_, rfl⟩) pa_nil))))
      (pss_cons (ps_if (PW.pt (pw_and (pt_cmpR op_gt (pe_callB call_len_seq (by rfl) T.len PySem.boot_len (pa_cons (pv 2) pa_nil)) pe_int (nomark _)) (pw_and1 (pt_cmpR op_gt (pe_ix ix_list (pe_ix ix_list (pv 3) (pe_glob (v := .int 8) (by rfl) g8 ⟨_, rfl⟩) (fun _ _ => rfl)) pe_int (fun _ _ => rfl)) (pe_glob (v := .int 60) (by rfl) g60 ⟨_, rfl⟩) (nomark _))))) (pss_one (ps_ret (pe_lst (pa_cons (pe_glob (v := .int (-5)) (by rfl) g5 ⟨_, rfl⟩) pa_nil)))) pss_nil)
      (pss_cons (ps_set (i := 4) scReadRow.nd rfl (Or.inl rfl) (pe_callB (r := rSortG K P w) (cr_sortG rfl hu64) (by rfl) T.sorted (by decide +kernel) (pa_cons (pe_callTy (r := rSetG K P w) (cr_setG rfl hu64) (by rfl) T2.set (by decide +kernel) (pa_cons (pe_call GR hr1 rfl mgR kpR bR .nil pass0 (pa_cons (pv 2) (pa_cons (pv 3) pa_nil))) pa_nil)) pa_nil)))
      (pss_cons (ps_if (PW.pt (pw_or (pt_not (pt_val (pe_callB (cr_all rfl) (by rfl) T.all (by decide +kernel) (pa_cons (pe_lc (own := [("row", 5)]) (g := gName 5) (tt := tYes) (te := tCall spIsWord [] E0 (tCons (tVar 5) tNil)) rfl scReadRow.nd (pi_list (pv 4)) (blkOk_by (N := ["words", "given", "states", "counts", "told", "row"]) (sc := defScope sReadRow) (by decide +kernel)) (fun _ _ _ _ _ => pg_name (i := 5) scReadRow.nd rfl (Or.inl rfl)) (fun _ _ _ _ _ => pts_nil)
            (fun _ _ _ _ _ => pe_call GI hr1 (by rfl) mgI kpI bI .nil pass0 (pa_cons (pv 5) pa_nil))) pa_nil)))) (pw_or1 (pt_cmpR (op_neD hu64) (pe_call GW hr rfl mgW kpW bW .nil pass0 (pa_cons (pv 4) pa_nil)) (pv 1) (nomark _))))) (pss_one (ps_ret (pe_lst (pa_cons (pe_glob (v := .int (-7)) (by rfl) g7 ⟨_, rfl⟩) pa_nil)))) pss_nil)
      (pss_one (ps_ret (pe_call GS hr1 rfl mgS kpS bS .nil pass0 (pa_cons (pv 0) (pa_cons (pv 4) pa_nil)))))))))), ?_⟩
    have eL : (nV u).length = u.length := List.length_map _
    have leave : ∀ (H3 : Hp) (z : Int), Same H H3 → hUnpack d u = (d, [z]) → ∀ p, H3 p = none → Q (.ref p) (upd H3 p (.lst [V.int z])) := fun H3 z s3 e p hp => by
      rw [e] at k
      exact k _ p (same_but (Same.trans s3 (Same.new hp)) l) (hD.stay (Same.trans s3 (Same.new hp))) (fresh_of s3 hp) upd_same
    have un : Rh03.unpack u = match nodesA u with
      | none => .inl (-1)
      | some a => if 60 < (Rh03.layer a 9).getD 0 0 then .inl (-5) else
        if ((Rh03.spell a 9 0).foldl (fun l w => Rh03.put w l) []).all Rh03.isWord = true ∧ Rh03.pack (Rh03.auto ((Rh03.spell a 9 0).foldl (fun l w => Rh03.put w l) [])) = u then .inr ((Rh03.spell a 9 0).foldl (fun l w => Rh03.put w l) []) else .inl (-7) := rfl
    have big : 2000 < u.length → hUnpack d u = (d, [-1]) := fun c => by unfold hUnpack; rw [if_pos c]
    have small : ∀ e, ¬ 2000 < u.length → Rh03.unpack u = .inl e → hUnpack d u = (d, [e]) := fun e c h => by unfold hUnpack; rw [if_neg c, h]
    refine ⟨_, rfl, g, u, rfl, hg, hul, fun hnone H1 s1 => ?_, fun a ha H1 S s1 hS hSt => ?_⟩
    · rw [hnone] at un
      refine ⟨_, rfl, g, _, rfl, .inl (SqL.of (s1 _ _ hg)), _, _, rfl, rfl, _, rfl, ?_⟩
      rw [eL]
      by_cases c : (2000 : Int) < u.length
      · exact ifT (decide_eq_true c) (ifT rfl ⟨by show 1 ≤ sizeLine; decide, leave H1 (-1) s1 (big (by omega))⟩)
      · refine ifF (decide_eq_false c) ⟨_, rfl, rfl, _, rfl, ?_⟩
        exact ifT rfl ⟨by show 1 ≤ sizeLine; decide, leave H1 (-1) s1 (small _ (by omega) un)⟩
    · rw [ha] at un
      obtain ⟨hal, hel⟩ := nodesA_len _ _ _ ha
      refine ⟨_, rfl, g, _, rfl, .inl (SqL.of (s1 _ _ hg)), _, _, rfl, rfl, _, rfl, ?_⟩
      rw [eL]
      by_cases c : (2000 : Int) < u.length
      · exact ifT (decide_eq_true c) (ifT rfl ⟨by show 1 ≤ sizeLine; decide, leave H1 (-1) s1 (big (by omega))⟩)
      · have c0 : ¬ 2000 < u.length := by omega
        refine ifF (decide_eq_false c) ⟨_, rfl, rfl, _, rfl, ?_⟩
        refine ifF rfl ?_
        refine ⟨_, rfl, S, a, rfl, hSt, by omega, fun n hn => by have := hel n hn; omega, fun H2 C s2 hC hCt => ?_⟩
        have s12 := Same.trans s1 s2
        have hSt2 := hSt.stay s2
        obtain ⟨ts, hts, hPt⟩ := hSt2
        have htl : ts.length = a.length := Paired.length hPt
        refine useN (N := ?N) (Inv := fun σ Hx => σ = [some (.ref l), some (.ref g), some (.ref S), some (.ref C), none, none] ∧ Hx = H2 ∧ (Rh03.layer a 9).getD 0 0 ≤ 60) ?main ?loop
        case main =>
          intro L
          refine ⟨_, rfl, S, _, rfl, .inl (SqL.of hts), _, _, rfl, rfl, _, rfl, ?_⟩
          rw [List.length_map, htl]
          by_cases ca : 0 < a.length
          · refine ifT (decide_eq_true (by omega)) ?_
            obtain ⟨lc, hC1, hlc, hCno, hlcs⟩ := hCt
            have hl8 : lc[8]? = some (lc[8]'(by omega)) := List.getElem?_eq_getElem (by omega)
            generalize (lc[8]'(by omega)) = l8 at hl8
            have h9 := hlcs 8 l8 hl8
            have hlv : (lc.map V.ref)[8]? = some (V.ref l8) := by rw [List.getElem?_map, hl8]; rfl
            have hge : (nV (Rh03.layer a 9))[0]? = some (V.int (((Rh03.layer a 9).getD 0 0 : Nat) : Int)) := by
              show ((Rh03.layer a 9).map _)[0]? = _
              have : 0 < (Rh03.layer a 9).length := by rw [layer_len]; exact ca
              rw [List.getElem?_map, List.getElem?_eq_getElem this, List.getD_eq_getElem?_getD, List.getElem?_eq_getElem this]; rfl
            refine ⟨_, rfl, C, _, _, V.ref l8, rfl, rfl, SqL.of hC1, atI_nat (j := 8) hlv, l8, _, _, _, rfl, rfl, SqL.of h9, atI_nat (j := 0) hge, _, _, rfl, rfl, _, rfl, ?_⟩
            by_cases cl : 60 < (Rh03.layer a 9).getD 0 0
            · refine ifT (decide_eq_true (by omega)) ⟨by show 1 ≤ sizeLine; decide, leave H2 (-5) s12 (small _ c0 ?_)⟩
              rw [un]
              show (if _ then _ else _) = _
              rw [if_pos cl]
            · refine ifF (decide_eq_false (by omega)) ?_
              exact L _ _ ⟨rfl, rfl, by omega⟩
          · refine ifF (decide_eq_false (by omega)) (ifF rfl ?_)
            refine L _ _ ⟨rfl, rfl, ?_⟩
            have e0 : a = [] := List.length_eq_zero_iff.mp (by omega)
            rw [e0]
            exact Nat.zero_le _
        case loop =>
          rintro σ Hx ⟨rfl, rfl, h60⟩
          have un2 : Rh03.unpack u = if ((Rh03.spell a 9 0).foldl (fun l w => Rh03.put w l) []).all Rh03.isWord = true ∧ Rh03.pack (Rh03.auto ((Rh03.spell a 9 0).foldl (fun l w => Rh03.put w l) [])) = u then .inr ((Rh03.spell a 9 0).foldl (fun l w => Rh03.put w l) []) else .inl (-7) := by
            rw [un]
            show (if _ then _ else _) = _
            rw [if_neg (by omega)]
          refine ⟨_, rfl, _, rfl, S, C, a, rfl, ⟨ts, hts, hPt⟩, hCt, by omega, fun n hn => by have := hel n hn; omega, h60, fun H3 p3 ws s3 hW hpm => ?_⟩
          have hwl : ws.length ≤ 60 := by rw [hpm.length_eq, spell_len]; exact h60
          have hw8 : ∀ v ∈ ws, v.length ≤ 8 := fun v hv => by
            have := ((mem_spell a 9 0 v).mp (hpm.mem_iff.mp hv)).1
            omega
          obtain ⟨bs, hp3, hPb⟩ := hW
          obtain ⟨ks, hk1, hk2, hk3⟩ := zip_of hPb
          have hkl : ks.length = ws.length := by
            have := congrArg List.length hk2
            rw [List.length_map, List.length_map] at this
            exact this
          have ekr : ks.map (fun p => V.ref p.1) = bs.map V.ref := by rw [← hk1, List.map_map]; rfl
          refine ⟨p3, ks, rfl, SqL.of (by rw [ekr]; exact hp3), fun p hp => SqT.of (hk3 p hp), by omega, fun sa L hsa hL64 hsub hall => ?_⟩
          have s4 := Same.new (o := SetGO P w sa L) hsa
          have hLt : ∀ p ∈ L, TupI (upd H3 sa (SetGO P w sa L)) p.1 p.2 := fun p hp => s4 _ _ (hk3 p (hsub p hp))
          refine ⟨sa, L, rfl, upd_same, fun p hp => SqT.of (hLt p hp), fun L' p4 pm nd h120 pw hp4 => ?_⟩
          have s5 := Same.new (o := .lst (L'.map fun q => V.ref q.1)) hp4
          have hp4' : (upd (upd H3 sa (SetGO P w sa L)) p4 (.lst (L'.map fun q => V.ref q.1))) p4 = some (.lst (L'.map fun q => V.ref q.1)) := upd_same
          have hLt' : ∀ p ∈ L', TupI (upd (upd H3 sa (SetGO P w sa L)) p4 (.lst (L'.map fun q => V.ref q.1))) p.1 p.2 := fun p hp => s5 _ _ (hLt p (pm.mem_iff.mp hp))
          have s35 := Same.trans s4 s5
          have hp4H := fresh_of s3 (fresh_of s4 hp4)
          generalize upd (upd H3 sa (SetGO P w sa L)) p4 (.lst (L'.map fun q => V.ref q.1)) = H4 at s5 hp4' hLt' s35 ⊢
          have memL : ∀ kk, kk ∈ L'.map (·.2) ↔ kk ∈ nk ws := fun kk => by
            rw [(pm.map (·.2)).mem_iff, ← hk2]
            constructor
            · intro h
              obtain ⟨p, hp, rfl⟩ := List.mem_map.mp h
              exact List.mem_map.mpr ⟨p, hsub p hp, rfl⟩
            · intro h
              obtain ⟨p, hp, rfl⟩ := List.mem_map.mp h
              exact hall p hp
          obtain ⟨w2, e2, hsrt, hD2⟩ := dict_sorted (ws := ws) hLt' (fun kk hk => by
            obtain ⟨v, _, e⟩ := List.mem_map.mp ((memL kk).mp hk)
            exact ⟨v, e.symm⟩) nd pw hp4'
          have mem2 : ∀ v, v ∈ w2 ↔ v ∈ Rh03.spell a 9 0 := fun v => by
            rw [← nk_mem, ← e2, memL, nk_mem, hpm.mem_iff]
          have ew2 : w2 = (Rh03.spell a 9 0).foldl (fun l w => Rh03.put w l) [] := srt_ext hsrt (srt_puts Srt.nil) fun v => by
            rw [mem2, mem_puts]; simp
          rw [← ew2] at un2
          have hl2 : w2.length ≤ 60 := by
            have h1 := puts_le (Rh03.spell a 9 0) []
            rw [← ew2, spell_len] at h1
            simp only [List.length_nil] at h1
            omega
          have hv8 : ∀ v ∈ w2, v.length ≤ 8 := fun v hv => by
            have := ((mem_spell a 9 0 v).mp ((mem2 v).mp hv)).1
            omega
          have sH4 := Same.trans s12 (Same.trans s3 s35)
          have hgH4 := sH4 _ _ hg
          obtain ⟨cs, hc1, hc2⟩ := hD2
          have hcl : cs.length = w2.length := by rw [Paired.length hc2, List.length_map]
          refine ⟨_, rfl, p4, rfl, ⟨_, SqL.of hc1⟩, fun D hDn => lc_list (K := K) (a := p4) (xs := cs.map V.ref)
            (fun i H' => Same H4 H' ∧ H' D = some (.lst (((w2.take i).map Rh03.isWord).map V.bl))) ⟨Same.new hDn, upd_same⟩ (fun i H' _ h => SqL.of (h.1 _ _ hc1)) ?_ ?_⟩
          · rintro i x H' hi ⟨s6, h1⟩
            obtain ⟨b, hb, rfl⟩ := get_map hi
            obtain ⟨kk, hkk, hbk⟩ := paired_get hc2 hb
            obtain ⟨v, hv, rfl⟩ := get_map hkk
            refine ⟨rfl, _, rfl, b, v, rfl, s6 _ _ hbk, by have := hv8 v (List.mem_of_getElem? hv); omega, fun H5 s7 => ⟨_, s7 _ _ h1, ?_, fun b o z => ?_, ?_⟩⟩
            · rw [List.length_map, List.length_map, List.length_take, sizeLine_eq]; omega
            · rw [upd_ne (ne_of_none z hDn)]; exact s7 _ _ (s6 _ _ z)
            · rw [upd_same, take_more hv, List.map_append, List.map_append]; rfl
          · rintro H5 ⟨s6, h1⟩
            rw [List.length_map, hcl, List.take_length] at h1
            have sH5 := Same.trans sH4 s6
            refine ⟨D, w2.map Rh03.isWord, rfl, SqL.of h1, _, rfl, ?_⟩
            have ea : (w2.map Rh03.isWord).all id = w2.all Rh03.isWord := by rw [List.all_map]; rfl
            rw [ea]
            cases hall2 : w2.all Rh03.isWord with
            | false =>
              refine ifT rfl (ifT rfl ⟨by show 1 ≤ sizeLine; decide, leave H5 (-7) sH5 (small _ c0 ?_)⟩)
              rw [un2, if_neg (by rw [hall2]; exact fun z => absurd z.1 Bool.false_ne_true)]
            | true =>
              refine ifF rfl ?_
              have hfine : ∀ v ∈ w2, Fine v := fun v hv => fine_of (List.all_eq_true.mp hall2 v hv)
              have hD5 : DictAt H5 p4 w2 := ⟨cs, s6 _ _ hc1, paired_stay hc2 (Same.tups s6)⟩
              refine ⟨_, rfl, p4, w2, rfl, hD5, hl2, hfine, fun H6 r s7 hr0 hrow => ⟨_, rfl, ?_⟩⟩
              have sH6 := Same.trans sH5 s7
              refine ne_ints hrow (sH6 _ _ hg) ⟨_, rfl, ?_⟩
              by_cases ce : Rh03.pack (Rh03.auto w2) = u
              · refine ifF (by rw [decide_eq_true ce]; rfl) ?_
                have eh : hUnpack d u = (w2, iw [w2.length]) := by
                  unfold hUnpack
                  rw [if_neg c0, un2, if_pos ⟨hall2, ce⟩]
                rw [eh] at k
                have hlp : l ≠ p4 := fun z => by
                  obtain ⟨b0, hb0, _⟩ := hD.stay s12
                  rw [z, hp4H] at hb0; cases hb0
                refine ⟨_, rfl, _, rfl, l, p4, d, w2, rfl, hlp, hD.stay sH6, hD5.stay s7, hl2, fun H7 p hfr hD7 hpn hp7 => ?_⟩
                exact k H7 p (fun b o z hb => hfr b o (sH6 _ _ z) hb) hD7 (fresh_of sH6 hpn) hp7
              · refine ifT (by rw [decide_eq_false ce]; rfl) ⟨by show 1 ≤ sizeLine; decide, leave H6 (-7) sH6 (small _ c0 ?_)⟩
                rw [un2, if_neg fun z => ce z.2]
end
end Ls
/-! LsEB -/
namespace Ls
open PySem PySem.Spec PyProof.Rows L2
abbrev sJoinWay : Stmt := top 52
abbrev sJoinTwo : Stmt := top 54
def spJoinWay : Sp := fun vs H Q _ => ∃ (n : Nat) (a b : Addr) (d e : List Word), vs = [.int ((n : Nat) : Int), .ref a, .ref b] ∧ DictAt H a d ∧ DictAt H b e ∧ Good d ∧ Good e ∧ ∀ (H' : Hp) (p : Addr), Same H H' → H p = none → DictAt H' p (Rh03.joined n d e) → (Rh03.joined n d e).length ≤ 120 → Q (.ref p) H'
/-- sorted(set(a) op set(b)) -/
theorem join_read {K : PySem.W.Frag} {P : Program} {w : World} {H : Hp} {σ : L2.St} {a b : Addr} (hσ : σ[2]? = some (some (.ref b))) {d e : List Word} {c : List (List Int) → List (List Int) → List Int → Prop} {Q : VK} (da : DictAt H a d) (db : DictAt H b e) (gd : Good d) (ge : Good e)
    (hc : ∀ A A' B B' : List (List Int), (∀ k, k ∈ A ↔ k ∈ A') → (∀ k, k ∈ B ↔ k ∈ B') → ∀ k, c A B k ↔ c A' B' k)
    (kq : ∀ (H' : Hp) (p : Addr) (ws : List Word), Same H H' → H p = none → DictAt H' p ws → Srt ws → ws.length ≤ 120 → (∀ v, v ∈ ws ↔ c (nk d) (nk e) (iw v)) → Q (.ref p) H') :
    rSetG K P w [.ref a] H fun x H1 => tCB (rSetG K P w) (tCons (tVar 2) tNil) σ H1 fun y H2 => rSetOp K P w c x y H2 fun z H3 => rSortG K P w [z] H3 Q := by
  obtain ⟨bs, ha, hpa⟩ := da
  obtain ⟨cs, hb, hpb⟩ := db
  obtain ⟨ka, ka1, ka2, ka3⟩ := zip_of hpa
  obtain ⟨kb, kb1, kb2, kb3⟩ := zip_of hpb
  have la : ka.length = d.length := by
    have := congrArg List.length ka2
    rw [List.length_map, List.length_map] at this
    exact this
  have lb : kb.length = e.length := by
    have := congrArg List.length kb2
    rw [List.length_map, List.length_map] at this
    exact this
  have hd := gd.len
  have he := ge.len
  have ea : ka.map (fun p => V.ref p.1) = bs.map V.ref := by rw [← ka1, List.map_map]; rfl
  have eb : kb.map (fun p => V.ref p.1) = cs.map V.ref := by rw [← kb1, List.map_map]; rfl
  refine ⟨a, ka, rfl, SqL.of (by rw [ea]; exact ha), fun p hp => SqT.of (ka3 p hp), by omega, fun sa La hsa hLa subA allA => ?_⟩
  have s1 := Same.new (o := SetGO P w sa La) hsa
  have hsa1 : (upd H sa (SetGO P w sa La)) sa = some (SetGO P w sa La) := upd_same
  generalize upd H sa (SetGO P w sa La) = H1 at s1 hsa1 ⊢
  refine ⟨_, hσ, b, kb, rfl, SqL.of (by rw [eb]; exact s1 _ _ hb), fun p hp => SqT.of (s1 _ _ (kb3 p hp)), by omega, fun sb Lb hsb hLb subB allB => ?_⟩
  have s2 := Same.new (o := SetGO P w sb Lb) hsb
  have hsb2 : (upd H1 sb (SetGO P w sb Lb)) sb = some (SetGO P w sb Lb) := upd_same
  have s12 := Same.trans s1 s2
  have hne : sa ≠ sb := fun z => by rw [← z, hsa1] at hsb; cases hsb
  generalize upd H1 sb (SetGO P w sb Lb) = H2 at s2 hsb2 s12 ⊢
  refine ⟨sa, sb, La, Lb, rfl, rfl, hne, s2 _ _ hsa1, hsb2, fun p hp => SqT.of (s12 _ _ (ka3 p (subA p hp))), fun p hp => SqT.of (s12 _ _ (kb3 p (subB p hp))), by omega, fun p L' hp sub keys => ?_⟩
  have s3 := Same.new (o := SetGO P w p L') hp
  have hp3 : (upd H2 p (SetGO P w p L')) p = some (SetGO P w p L') := upd_same
  have s13 := Same.trans s12 s3
  generalize upd H2 p (SetGO P w p L') = H3 at s3 hp3 s13 ⊢
  have tup3 : ∀ q ∈ L', TupI H3 q.1 q.2 := fun q hq => by
    rcases sub q hq with z | z
    · exact s13 _ _ (ka3 q (subA q z))
    · exact s13 _ _ (kb3 q (subB q z))
  refine ⟨p, L', rfl, hp3, fun q hq => SqT.of (tup3 q hq), fun L2 q pm nd h120 pw hq => ?_⟩
  have s4 := Same.new (o := .lst (L2.map fun q => V.ref q.1)) hq
  have mA : ∀ k, k ∈ La.map (·.2) ↔ k ∈ nk d := fun k => by
    rw [← ka2]
    constructor
    · intro h
      obtain ⟨x, hx, rfl⟩ := List.mem_map.mp h
      exact List.mem_map.mpr ⟨x, subA x hx, rfl⟩
    · intro h
      obtain ⟨x, hx, rfl⟩ := List.mem_map.mp h
      exact allA x hx
  have mB : ∀ k, k ∈ Lb.map (·.2) ↔ k ∈ nk e := fun k => by
    rw [← kb2]
    constructor
    · intro h
      obtain ⟨x, hx, rfl⟩ := List.mem_map.mp h
      exact List.mem_map.mpr ⟨x, subB x hx, rfl⟩
    · intro h
      obtain ⟨x, hx, rfl⟩ := List.mem_map.mp h
      exact allB x hx
  have mem2 : ∀ k, k ∈ L2.map (·.2) ↔ c (nk d) (nk e) k := fun k => by
    rw [(pm.map (·.2)).mem_iff, keys]
    exact hc _ _ _ _ mA mB k
  obtain ⟨ws, e2, hsrt, hD⟩ := dict_sorted (ws := d) (fun x hx => s4 _ _ (tup3 x (pm.mem_iff.mp hx))) (fun kk hk => by
    rw [(pm.map (·.2)).mem_iff] at hk
    obtain ⟨x, hx, rfl⟩ := List.mem_map.mp hk
    rcases sub x hx with z | z
    · obtain ⟨v, _, e⟩ := List.mem_map.mp ((mA x.2).mp (List.mem_map.mpr ⟨x, z, rfl⟩))
      exact ⟨v, e.symm⟩
    · obtain ⟨v, _, e⟩ := List.mem_map.mp ((mB x.2).mp (List.mem_map.mpr ⟨x, z, rfl⟩))
      exact ⟨v, e.symm⟩) nd pw upd_same
  refine kq _ q ws (Same.trans s13 s4) (fresh_of s13 hq) hD hsrt ?_ fun v => ?_
  · have := congrArg List.length e2
    rw [List.length_map, List.length_map] at this
    omega
  · rw [← nk_mem, ← e2, mem2]
section
variable {P : Program} {w : World} {K : PySem.W.Frag} {mg : Str → Option Value} {base : Heap}
theorem scJoinWay : FnScope ["way", "one", "other"] ["way", "one", "other"] (defScope sJoinWay) := ⟨rfl, rfl, rfl, by decide +kernel, rfl, by decide +kernel, by decide +kernel⟩
theorem ok_join_way {f : Addr} {fd : FuncData} (F : Fun K "join_in_way" "join_in_way" sJoinWay f fd) (T : Names mg) (T2 : Names2 mg) : FnOk P w K mg base CX0 1 f fd ["way", "one", "other"] spJoinWay := by
  obtain ⟨t0, g0⟩ := T2.k0
  obtain ⟨t1, g1⟩ := T2.k1
  obtain ⟨t2, g2⟩ := T2.k2
  refine F.ok scJoinWay (fun vs H Q E h => ?_) (fun cdv A outer s H vs Q E hr h => ?_)
  · obtain ⟨n, a, b, d, e, rfl, _⟩ := h
    rfl
  · obtain ⟨n, a, b, d, e, rfl, da, db, gd, ge, k⟩ := h
    have hu65 := hr65 hr
    have hu64 : _ + 64 < cLine := Nat.lt_of_succ_lt hu65
    refine ⟨_, pss_cons (ps_if (pt_cmpR op_eq (pv 0) (pe_glob (v := .int 0) (by rfl) g0 ⟨_, rfl⟩) (nomark _)) (pss_one (ps_ret (pe_callB (r := rSortG K P w) (cr_sortG rfl hu64) (by rfl) T.sorted (by decide +kernel) (pa_cons (pe_op (r := rSetOp K P w cOr) (op_or hu64) (pe_callTy (r := rSetG K P w) (cr_setG rfl hu64) (by rfl) T2.set (by decide +kernel) (pa_cons (pv 1) pa_nil)) (pe_callTy (r := rSetG K P w) (cr_setG rfl hu64) (by rfl) T2.set (by decide +kernel) (pa_cons (pv 2) pa_nil))) pa_nil)))) pss_nil)
      (pss_cons (ps_if (pt_cmpR op_eq (pv 0) (pe_glob (v := .int 1) (by rfl) g1 ⟨_, rfl⟩) (nomark _)) (pss_one (ps_ret (pe_callB (r := rSortG K P w) (cr_sortG rfl hu64) (by rfl) T.sorted (by decide +kernel) (pa_cons (pe_op (r := rSetOp K P w cAnd) (op_and hu64) (pe_callTy (r := rSetG K P w) (cr_setG rfl hu64) (by rfl) T2.set (by decide +kernel) (pa_cons (pv 1) pa_nil)) (pe_callTy (r := rSetG K P w) (cr_setG rfl hu64) (by rfl) T2.set (by decide +kernel) (pa_cons (pv 2) pa_nil))) pa_nil)))) pss_nil)
      (pss_cons (ps_if (pt_cmpR op_eq (pv 0) (pe_glob (v := .int 2) (by rfl) g2 ⟨_, rfl⟩) (nomark _)) (pss_one (ps_ret (pe_callB (r := rSortG K P w) (cr_sortG rfl hu64) (by rfl) T.sorted (by decide +kernel) (pa_cons (pe_op (r := rSetOp K P w cSub) (op_sub' hu64) (pe_callTy (r := rSetG K P w) (cr_setG rfl hu64) (by rfl) T2.set (by decide +kernel) (pa_cons (pv 1) pa_nil)) (pe_callTy (r := rSetG K P w) (cr_setG rfl hu64) (by rfl) T2.set (by decide +kernel) (pa_cons (pv 2) pa_nil))) pa_nil)))) pss_nil)
      (pss_one (ps_ret (pe_callB (r := rSortG K P w) (cr_sortG rfl hu64) (by rfl) T.sorted (by decide +kernel) (pa_cons (pe_op (r := rSetOp K P w cXor) (op_xor hu64) (pe_callTy (r := rSetG K P w) (cr_setG rfl hu64) (by rfl) T2.set (by decide +kernel) (pa_cons (pv 1) pa_nil)) (pe_callTy (r := rSetG K P w) (cr_setG rfl hu64) (by rfl) T2.set (by decide +kernel) (pa_cons (pv 2) pa_nil))) pa_nil)))))), ?_⟩
    have fin : ∀ (c : List (List Int) → List (List Int) → List Int → Prop), (∀ A A' B B' : List (List Int), (∀ k, k ∈ A ↔ k ∈ A') → (∀ k, k ∈ B ↔ k ∈ B') → ∀ k, c A B k ↔ c A' B' k) → (∀ v : Word, c (nk d) (nk e) (iw v) ↔ v ∈ Rh03.joined n d e) →
        rSetG K P w [.ref a] H fun x H1 => tCB (rSetG K P w) (tCons (tVar 2) tNil) [some (.int ((n : Nat) : Int)), some (.ref a), some (.ref b)] H1 fun y H2 => rSetOp K P w c x y H2 fun z H3 => rSortG K P w [z] H3 Q := by
      intro c hc hj
      refine join_read rfl da db gd ge hc fun H' p ws s1 hp hD hs h120 hm => ?_
      have ew : ws = Rh03.joined n d e := srt_ext hs (joined_srt gd.srt ge.srt) fun v => by rw [hm, hj]
      rw [ew] at hD h120
      exact k H' p s1 hp hD h120
    refine ⟨_, rfl, rfl, _, rfl, ?_⟩
    rw [decI]
    by_cases c0 : n = 0
    · refine ifT (decide_eq_true (by omega)) ⟨_, rfl, ?_⟩
      subst c0
      refine fin cOr (fun A A' B B' h1 h2 k => by show (_ ∨ _) ↔ (_ ∨ _); rw [h1, h2]) fun v => ?_
      show (_ ∨ _) ↔ _
      rw [nk_mem, nk_mem, joined_mem]; exact Iff.rfl
    · refine ifF (decide_eq_false (by omega)) ⟨_, rfl, rfl, _, rfl, ?_⟩
      rw [decI]
      by_cases c1 : n = 1
      · refine ifT (decide_eq_true (by omega)) ⟨_, rfl, ?_⟩
        subst c1
        refine fin cAnd (fun A A' B B' h1 h2 k => by show (_ ∧ _) ↔ (_ ∧ _); rw [h1, h2]) fun v => ?_
        show (_ ∧ _) ↔ _
        rw [nk_mem, nk_mem, joined_mem]; exact Iff.rfl
      · refine ifF (decide_eq_false (by omega)) ⟨_, rfl, rfl, _, rfl, ?_⟩
        rw [decI]
        by_cases c2 : n = 2
        · refine ifT (decide_eq_true (by omega)) ⟨_, rfl, ?_⟩
          subst c2
          refine fin cSub (fun A A' B B' h1 h2 k => by show (_ ∧ ¬ _) ↔ (_ ∧ ¬ _); rw [h1, h2]) fun v => ?_
          show (_ ∧ ¬ _) ↔ _
          rw [nk_mem, nk_mem, joined_mem]; exact Iff.rfl
        · refine ifF (decide_eq_false (by omega)) ⟨_, rfl, ?_⟩
          obtain ⟨m, rfl⟩ : ∃ m, n = m + 3 := ⟨n - 3, by omega⟩
          refine fin cXor (fun A A' B B' h1 h2 k => by show ((_ ∧ ¬ _) ∨ (_ ∧ ¬ _)) ↔ ((_ ∧ ¬ _) ∨ (_ ∧ ¬ _)); rw [h1, h2]) fun v => ?_
          show ((_ ∧ ¬ _) ∨ (_ ∧ ¬ _)) ↔ _
          rw [nk_mem, nk_mem, joined_mem]; exact Iff.rfl
end
theorem DictsAt.stay {H H' : Hp} {D : Addr} {ls : List Addr} {s : Rh03.St} (h : DictsAt H D ls s) (q : Same H H') : DictsAt H' D ls s := ⟨q _ _ h.lst, h.len, h.nd, h.out, fun j l hl => (h.at_ j l hl).stay q⟩
/-- one of the four is another then -/
theorem DictsAt.set {H H' : Hp} {D lc : Addr} {ls : List Addr} {s s' : Rh03.St} {c : Nat} {x : List Word} (h : DictsAt H D ls s) (hc : ls[c]? = some lc) (fr : ∀ b o, H b = some o → b ≠ lc → H' b = some o) (hx : DictAt H' lc x)
    (hs : ∀ e, Rh03.get s' e = if e = c + 1 then x else Rh03.get s e) : DictsAt H' D ls s' := by
  have hlc := List.mem_of_getElem? hc
  obtain ⟨bs0, hl0, _⟩ := h.at_ c lc hc
  refine ⟨fr _ _ h.lst (fun e => h.out (e ▸ hlc)), h.len, h.nd, h.out, fun j l hl => ?_⟩
  rw [hs]
  by_cases e : j = c
  · subst e
    rw [hc] at hl
    cases hl
    rw [if_pos rfl]; exact hx
  · rw [if_neg (by omega)]
    obtain ⟨bs, h1, h2⟩ := h.at_ j l hl
    have hne : l ≠ lc := fun z => by
      rw [z] at hl
      have hj : j < ls.length := (List.getElem?_eq_some_iff.mp hl).1
      exact e ((List.getElem?_inj hj h.nd).mp (hl.trans hc.symm))
    exact ⟨bs, fr _ _ h1 hne, paired_stay h2 fun b ys z => fr _ _ z (ne_of z hl0 (by intro y; cases y))⟩
def spJoin : Sp := fun vs H Q _ => ∃ (D g : Addr) (ls : List Addr) (s : Rh03.St) (n a b c : Nat), vs = [.ref D, .ref g] ∧ DictsAt H D ls s ∧ GoodSt s ∧ H g = some (.lst (nV [n, a, b, c])) ∧
  ∀ (H' : Hp) (p : Addr), DictsAt H' D ls (Rh03.step s (.join n a b c)).1 → (∀ x o, H x = some o → x ∉ ls → H' x = some o) → H p = none → H' p = some (.lst ((Rh03.step s (.join n a b c)).2.map V.int)) → Q (.ref p) H'
section
variable {P : Program} {w : World} {K : PySem.W.Frag} {mg : Str → Option Value} {base : Heap}
theorem scJoinTwo : FnScope ["dictionaries", "given", "way", "chosen", "joined", "number"] ["dictionaries", "given"] (defScope sJoinTwo) := ⟨rfl, rfl, rfl, by decide +kernel, rfl, by decide +kernel, by decide +kernel⟩
theorem ok_join_two {f : Addr} {fd : FuncData} (F : Fun K "join_two" "join_two" sJoinTwo f fd) (T : Names mg) (T2 : Names2 mg) (CH : Callee P w K mg base "has_dictionary" 1 ["number"] spHasD) (CJ : Callee P w K mg base "join_in_way" 1 ["way", "one", "other"] spJoinWay) (CS : Callee P w K mg base "set_words" 1 ["words", "new"] spSetWords) : FnOk P w K mg base CX0 2 f fd ["dictionaries", "given"] spJoin := by
  obtain ⟨fH, fdH, GH, mgH, kpH, bH⟩ := CH
  obtain ⟨fJ, fdJ, GJ, mgJ, kpJ, bJ⟩ := CJ
  obtain ⟨fS, fdS, GS, mgS, kpS, bS⟩ := CS
  obtain ⟨t3, g3⟩ := T2.k3
  obtain ⟨t1, g1⟩ := T.m1
  obtain ⟨t5, g5⟩ := T.m5
  obtain ⟨t60, g60⟩ := T.c60
  refine F.ok scJoinTwo (fun vs H Q E h => ?_) (fun cdv A outer s H vs Q E hr h => ?_)
  · obtain ⟨D, g, ls, st, n, a, b, c, rfl, _⟩ := h
    rfl
  · obtain ⟨D, g, ls, st, n, a, b, c, rfl, hD, hGs, hg, k⟩ := h
    refine ⟨_, pss_cons (ps_set (i := 2) scJoinTwo.nd rfl (Or.inl rfl) (pe_ix ix_list (pv 1) pe_int (fun _ _ => rfl)))
      (pss_cons (ps_set (i := 3) scJoinTwo.nd rfl (Or.inl rfl) (pe_slice sl_list (pv 1) (po_some pe_int) po_none))
      (pss_cons (ps_if (PW.pt (pw_or (pt_cmpR op_gt (pv 2) (pe_glob (v := .int 3) (by rfl) g3 ⟨_, rfl⟩) (nomark _)) (pw_or1 (pt_not (pt_val (pe_callB (cr_all rfl) (by rfl) T.all (by decide +kernel) (pa_cons (pe_lc (own := [("number", 5)]) (g := gName 5) (tt := tYes) (te := tCall spHasD [] E0 (tCons (tVar 5) tNil)) rfl scJoinTwo.nd (pi_list (pv 3)) (blkOk_by (N := ["dictionaries", "given", "way", "chosen", "joined", "number"]) (sc := defScope sJoinTwo) (by decide +kernel)) (fun _ _ _ _ _ => pg_name (i := 5) scJoinTwo.nd rfl (Or.inl rfl)) (fun _ _ _ _ _ => pts_nil)
            (fun _ _ _ _ _ => pe_call GH hr (by rfl) mgH kpH bH .nil pass0 (pa_cons (pv 5) pa_nil))) pa_nil))))))) (pss_one (ps_ret (pe_lst (pa_cons (pe_glob (v := .int (-1)) (by rfl) g1 ⟨_, rfl⟩) pa_nil)))) pss_nil)
      (pss_cons (ps_set (i := 4) scJoinTwo.nd rfl (Or.inl rfl) (pe_call GJ hr rfl mgJ kpJ bJ .nil pass0 (pa_cons (pv 2) (pa_cons (pe_ix ix_list (pv 0) (pe_op op_sub (pe_ix ix_list (pv 3) pe_int (fun _ _ => rfl)) pe_int) (fun _ _ => rfl)) (pa_cons (pe_ix ix_list (pv 0) (pe_op op_sub (pe_ix ix_list (pv 3) pe_int (fun _ _ => rfl)) pe_int) (fun _ _ => rfl)) pa_nil)))))
      (pss_cons (ps_if (pt_cmpR op_gt (pe_callB call_len_seq (by rfl) T.len PySem.boot_len (pa_cons (pv 4) pa_nil)) (pe_glob (v := .int 60) (by rfl) g60 ⟨_, rfl⟩) (nomark _)) (pss_one (ps_ret (pe_lst (pa_cons (pe_glob (v := .int (-5)) (by rfl) g5 ⟨_, rfl⟩) pa_nil)))) pss_nil)
      (pss_one (ps_ret (pe_call GS hr rfl mgS kpS bS .nil pass0 (pa_cons (pe_ix ix_list (pv 0) (pe_op op_sub (pe_ix ix_list (pv 3) pe_int (fun _ _ => rfl)) pe_int) (fun _ _ => rfl)) (pa_cons (pv 4) pa_nil))))))))), ?_⟩
    have est : Rh03.step st (.join n a b c) = if 3 < n ∨ Rh03.isDict a = false ∨ Rh03.isDict b = false ∨ Rh03.isDict c = false then (st, [-1]) else
      if 60 < (Rh03.joined n (Rh03.get st a) (Rh03.get st b)).length then (st, [-5]) else (Rh03.keep st c (Rh03.joined n (Rh03.get st a) (Rh03.get st b)), iw [(Rh03.joined n (Rh03.get st a) (Rh03.get st b)).length]) := rfl
    have leave : ∀ (H3 : Hp) (z : Int), Same H H3 → Rh03.step st (.join n a b c) = (st, [z]) → ∀ p, H3 p = none → Q (.ref p) (upd H3 p (.lst [V.int z])) := fun H3 z s3 e p hp => by
      rw [e] at k
      exact k _ p (hD.stay (Same.trans s3 (Same.new hp))) (fun x o z _ => Same.new hp _ _ (s3 _ _ z)) (fresh_of s3 hp) upd_same
    refine ⟨_, rfl, g, _, _, V.int ((n : Nat) : Int), rfl, rfl, SqL.of hg, atI_nat (j := 0) rfl, ?_⟩
    refine ⟨_, rfl, _, rfl, ?_⟩
    dsimp only [tNoPart]
    refine ⟨g, _, rfl, SqL.of hg, fun q hq => ?_⟩
    have e2 : cutV (nV [n, a, b, c]) (some 1) none = nV [a, b, c] := cutV_from _ 1
    have s1 : Same H (upd H q (.lst (cutV (nV [n, a, b, c]) (some 1) none))) := Same.new hq
    have hq1 : (upd H q (.lst (cutV (nV [n, a, b, c]) (some 1) none))) q = some (.lst (nV [a, b, c])) := by rw [upd_same, e2]
    generalize upd H q (.lst (cutV (nV [n, a, b, c]) (some 1) none)) = H1 at s1 hq1 ⊢
    refine ⟨_, rfl, _, _, rfl, rfl, _, rfl, ?_⟩
    by_cases c0 : 3 < n
    · refine ifT (decide_eq_true (by omega)) (ifT rfl ⟨by show 1 ≤ sizeLine; decide, leave H1 (-1) s1 ?_⟩)
      rw [est, if_pos (.inl c0)]
    · refine ifF (decide_eq_false (by omega)) ?_
      refine ⟨_, rfl, q, rfl, ⟨_, SqL.of hq1⟩, fun E1 hE1 => lc_list (K := K) (a := q) (xs := nV [a, b, c])
        (fun i H' => Same H1 H' ∧ H' E1 = some (.lst ((([a, b, c].take i).map Rh03.isDict).map V.bl))) ⟨Same.new hE1, upd_same⟩ (fun i H' _ h => SqL.of (h.1 _ _ hq1)) ?_ ?_⟩
      · rintro i x H' hi ⟨s2, h1⟩
        obtain ⟨y, hy, rfl⟩ := get_map hi
        refine ⟨rfl, _, rfl, y, rfl, _, h1, ?_, fun b o z => ?_, ?_⟩
        · rw [List.length_map, List.length_map, List.length_take, sizeLine_eq]
          show min i 3 < _
          omega
        · rw [upd_ne (ne_of_none z hE1)]; exact s2 _ _ z
        · rw [upd_same, take_more hy, List.map_append, List.map_append]; rfl
      · rintro H2 ⟨s2, h1⟩
        have s12 := Same.trans s1 s2
        refine ⟨E1, [a, b, c].map Rh03.isDict, rfl, SqL.of h1, _, rfl, ?_⟩
        have hq2 := s2 _ _ hq1
        cases hall : ([a, b, c].map Rh03.isDict).all id with
        | false =>
          refine ifT rfl ⟨by show 1 ≤ sizeLine; decide, leave H2 (-1) s12 ?_⟩
          rw [est, if_pos]
          have : (Rh03.isDict a && (Rh03.isDict b && (Rh03.isDict c && true))) = false := hall
          cases ha : Rh03.isDict a with
          | false => exact .inr (.inl rfl)
          | true =>
            cases hb : Rh03.isDict b with
            | false => exact .inr (.inr (.inl rfl))
            | true =>
              cases hc : Rh03.isDict c with
              | false => exact .inr (.inr (.inr rfl))
              | true => rw [ha, hb, hc] at this; cases this
        | true =>
          refine ifF rfl ?_
          have hall' : (Rh03.isDict a && (Rh03.isDict b && (Rh03.isDict c && true))) = true := hall
          rw [Bool.and_eq_true, Bool.and_eq_true, Bool.and_eq_true] at hall'
          obtain ⟨ha, hb, hc, _⟩ := hall'
          have bd : ∀ z, Rh03.isDict z = true → 1 ≤ z ∧ z ≤ 4 := fun z hz => by
            unfold Rh03.isDict at hz
            rw [Bool.and_eq_true, decide_eq_true_eq, decide_eq_true_eq] at hz
            exact hz
          have ba := bd a ha
          have bb := bd b hb
          have bc := bd c hc
          have D2 := hD.stay s12
          have lget : ∀ z, 1 ≤ z ∧ z ≤ 4 → ∃ l, ls[z - 1]? = some l ∧ (ls.map V.ref)[z - 1]? = some (V.ref l) := fun z hz => by
            have : z - 1 < ls.length := by rw [hD.len]; omega
            exact ⟨ls[z - 1], List.getElem?_eq_getElem this, by rw [List.getElem?_map, List.getElem?_eq_getElem this]; rfl⟩
          obtain ⟨la, hla, hla2⟩ := lget a ba
          obtain ⟨lb, hlb, hlb2⟩ := lget b bb
          obtain ⟨lc, hlc, hlc2⟩ := lget c bc
          have da := D2.at_ _ _ hla
          have db := D2.at_ _ _ hlb
          have dc := D2.at_ _ _ hlc
          rw [show a - 1 + 1 = a by omega] at da
          rw [show b - 1 + 1 = b by omega] at db
          rw [show c - 1 + 1 = c by omega] at dc
          have ix : ∀ z : Nat, 1 ≤ z → ((z : Nat) : Int) - 1 = ((z - 1 : Nat) : Int) := fun z hz => by omega
          have est2 : Rh03.step st (.join n a b c) = if 60 < (Rh03.joined n (Rh03.get st a) (Rh03.get st b)).length then (st, [-5]) else (Rh03.keep st c (Rh03.joined n (Rh03.get st a) (Rh03.get st b)), iw [(Rh03.joined n (Rh03.get st a) (Rh03.get st b)).length]) := by
            rw [est, if_neg]
            rintro (z | z | z | z)
            · exact c0 z
            · rw [ha] at z; cases z
            · rw [hb] at z; cases z
            · rw [hc] at z; cases z
          refine ⟨_, rfl, _, rfl, _, rfl, q, _, _, V.int ((a : Nat) : Int), rfl, rfl, SqL.of hq2, atI_nat (j := 0) rfl, _, _, rfl, rfl, D, _, _, V.ref la, rfl, rfl, SqL.of D2.lst, by rw [ix a ba.1]; exact atI_nat hla2, _, rfl, _, rfl, q, _, _, V.int ((b : Nat) : Int), rfl, rfl, SqL.of hq2, atI_nat (j := 1) rfl, _, _, rfl, rfl, D, _, _, V.ref lb, rfl, rfl, SqL.of D2.lst, by rw [ix b bb.1]; exact atI_nat hlb2,
            n, la, lb, _, _, rfl, da, db, hGs a, hGs b, fun H3 p3 s3 hp3 hJ h120 => ?_⟩
          have s13 := Same.trans s12 s3
          generalize hjd : Rh03.joined n (Rh03.get st a) (Rh03.get st b) = J at hJ h120 est2
          obtain ⟨bs, hj1, hj2⟩ := hJ
          have hjl : bs.length = J.length := by rw [Paired.length hj2, List.length_map]
          refine ⟨_, rfl, p3, _, rfl, .inl (SqL.of hj1), _, _, rfl, rfl, _, rfl, ?_⟩
          rw [List.length_map, hjl]
          by_cases c6 : 60 < J.length
          · refine ifT (decide_eq_true (by omega)) ⟨by show 1 ≤ sizeLine; decide, leave H3 (-5) s13 ?_⟩
            rw [est2, if_pos c6]
          · refine ifF (decide_eq_false (by omega)) ?_
            rw [if_neg c6] at est2
            rw [est2] at k
            have D3 := hD.stay s13
            have hlp : lc ≠ p3 := fun z => by
              obtain ⟨b0, hb0, _⟩ := dc
              rw [z, hp3] at hb0; cases hb0
            refine ⟨_, rfl, _, rfl, q, _, _, V.int ((c : Nat) : Int), rfl, rfl, SqL.of (s3 _ _ hq2), atI_nat (j := 2) rfl, _, _, rfl, rfl, D, _, _, V.ref lc, rfl, rfl, SqL.of D3.lst, by rw [ix c bc.1]; exact atI_nat hlc2, _, rfl, lc, p3, _, J, rfl, hlp, dc.stay s3, ⟨bs, hj1, hj2⟩, by omega, fun H4 p hfr hD4 hpn hp4 => ?_⟩
            refine k H4 p (D3.set hlc hfr hD4 fun e => ?_) (fun x o z hx => hfr x o (s13 _ _ z) fun w => hx (by rw [w]; exact List.mem_of_getElem? hlc)) (fresh_of s13 hpn) hp4
            rw [get_keep, show c - 1 + 1 = c by omega]
end
end Ls
/-! LsEC -/
namespace Ls
open PySem PySem.Spec PyProof.Rows L2
/-! ### a dict of the module with ints for keys -/
structure KInts (K : PySem.W.Frag) (d : Addr) (es : Array DictEntry) (n : Nat) : Prop where
  at_ : K.lookup d = some ⟨.type "dict", none, .dict es n, #[]⟩
  keys : ∀ e ∈ es.toList, ∃ k t, e.key = .int k t ∧ e.hash = hashInt k
def rIxKI (K : PySem.W.Frag) : R2 := fun x y H Q => ∃ (d : Addr) (es : Array DictEntry) (n : Nat) (k : Int) (u0 : Value) (v0 : V), x = .ref d ∧ y = .int k ∧ KInts K d es n ∧ findBy Value.isInt es k = some u0 ∧ RelV v0 u0 ∧ Q v0 H
section
variable {X : Cx}
theorem ix_kint : IxR X (rIxKI X.K) := by
  intro value slice pins s σ H x y v u Q I rx ry h hs
  obtain ⟨d, es, n, k, u0, v0, rfl, rfl, D, hf, ru, q⟩ := h
  obtain rfl : v = Value.ref d := rx
  obtain ⟨t, rfl⟩ := ry
  have hm : s.heap.MapOf (intKind X.prog X.w) d (fun k => findBy Value.isInt es k) := ⟨_, es, n, I.kIn _ _ D.at_, ⟨rfl, rfl, rfl⟩, rfl, fun e he => by
    obtain ⟨k, t, e1, e2⟩ := D.keys e (Array.mem_toList_iff.mpr he)
    exact ⟨k, by rw [e1]; exact intKind_is X.prog X.w k t, e2⟩, fun _ => rfl⟩
  exact tail_any hm.typeIs slot_dict_getitem.lookup (wpAny_getItem_of (intKind_is X.prog X.w k t) hm hf ⟨v0, H, I.tok _, ru, q⟩) hs
end
theorem But.refl (r : Addr) (H : Hp) : But r H H := fun _ _ e _ => e
theorem But.trans {r : Addr} {A B D : Hp} (h : But r A B) (k : But r B D) : But r A D := fun b o e hb => k b o (h b o e hb) hb
theorem But.of {r : Addr} {A B : Hp} (s : Same A B) : But r A B := fun b o e _ => s b o e
theorem rd_ne {C r a b : Addr} {i : Nat} {H : Hp} {o : HO} (hR : RdAt C H r a i) (e : H b = some o) (ho : ∀ dx fs, o ≠ .ins C dx fs) : b ≠ r := fun z => by
  obtain ⟨dx, h⟩ := hR
  rw [z, h] at e
  exact ho _ _ (Option.some.inj e).symm
theorem Scr.but {K : PySem.W.Frag} {C r a : Addr} {i : Nat} {H H' : Hp} {ns : List Int} (h : Scr K H a ns) (hR : RdAt C H r a i) (b : But r H H') : Scr K H' a ns := h.stay fun x o u e => b _ _ e (rd_ne hR e fun _ _ z => by cases z)
theorem tups_but {C r a : Addr} {i : Nat} {H H' : Hp} (hR : RdAt C H r a i) (b : But r H H') : TupsStay H H' := fun x ys e => b _ _ e (rd_ne hR e fun _ _ z => by cases z)
theorem DictsAt.but {C r a : Addr} {i : Nat} {H H' : Hp} {D : Addr} {ls : List Addr} {s : Rh03.St} (h : DictsAt H D ls s) (hR : RdAt C H r a i) (b : But r H H') : DictsAt H' D ls s :=
  ⟨b _ _ h.lst (rd_ne hR h.lst fun _ _ z => by cases z), h.len, h.nd, h.out, fun j l hl => by
    obtain ⟨bs, h1, h2⟩ := h.at_ j l hl
    exact ⟨bs, b _ _ h1 (rd_ne hR h1 fun _ _ z => by cases z), paired_stay h2 (tups_but hR b)⟩⟩
theorem fresh_but {C r a : Addr} {i : Nat} {H H' : Hp} {p : Addr} (b : But r H H') (hR : RdAt C H' r a i) (hp : H' p = none) : H p = none := by
  cases e : H p with
  | none => rfl
  | some o =>
    by_cases z : p = r
    · obtain ⟨dx, h⟩ := hR
      rw [z, h] at hp; cases hp
    · rw [b _ _ e z] at hp; cases hp
theorem useG {G Inv : Prop} (main : (Inv → G) → G) (body : Inv → G) : G := main body
/-- what CALLS tells of a call's number -/
structure Entry (K : PySem.W.Frag) (es : Array DictEntry) (p : Int) (f : Addr) (m : Nat) (b : Bool) : Prop where
  ex : ∃ T, findBy Value.isInt es p = some (.ref T) ∧ ∀ H : Hp, SqT K H T [.ref f, .int ((m : Nat) : Int), .bl b]
/-- a handler -/
structure Handler (P : Program) (w : World) (K : PySem.W.Frag) (mg : Str → Option Value) (base : Heap) (f : Addr) (pre : List Nat → Prop) (hn : Hn) : Prop where
  ex : ∃ (kk : Nat) (fd : FuncData), kk ≤ 4 ∧ FnOk P w K mg base CX0 kk f fd ["words", "given"] (spH pre hn) ∧ PySem.W.keepIn K (.ref f) = true ∧ Binds K fd ["words", "given"] []
abbrev sAnswerOne : Stmt := top 58
/-- the whole table -/
structure Table (P : Program) (w : World) (K : PySem.W.Frag) (mg : Str → Option Value) (base : Heap) (dC : Addr) : Prop where
  gC : mg "CALLS" = some (.ref dC)
  ex : ∃ (es : Array DictEntry) (n : Nat) (f0 f1 f2 f3 f4 f5 f6 f7 f8 f9 f11 f12 f13 : Addr), KInts K dC es n ∧
    Entry K es 0 f0 0 true ∧ Entry K es 1 f1 0 true ∧ Entry K es 2 f2 0 true ∧ Entry K es 3 f3 1 false ∧ Entry K es 4 f4 0 true ∧ Entry K es 5 f5 0 false ∧ Entry K es 6 f6 0 false ∧ Entry K es 7 f7 0 true ∧ Entry K es 8 f8 0 true ∧ Entry K es 9 f9 0 true ∧ Entry K es 11 f11 2 true ∧ Entry K es 12 f12 0 true ∧ Entry K es 13 f13 0 true ∧
    Handler P w K mg base f0 P60 hAdd ∧ Handler P w K mg base f1 P60 hOut ∧ Handler P w K mg base f2 P60 hNumber ∧ Handler P w K mg base f3 P1 hWord ∧ Handler P w K mg base f4 P60 hBegins ∧ Handler P w K mg base f5 (fun _ => True) hSize ∧ Handler P w K mg base f6 (fun _ => True) hPack ∧ Handler P w K mg base f7 PRow hUnpack ∧
    Handler P w K mg base f8 P60 hState ∧ Handler P w K mg base f9 P60 hAfter ∧ Handler P w K mg base f11 PFits hFits ∧ Handler P w K mg base f12 P60 hWays ∧ Handler P w K mg base f13 P60 hHead
/-- one call of the table, as it lies in the list -/
structure Ask (ns : List Int) (i : Nat) (t : List Int) (p : Int) (dd : Nat) (xs : List Nat) (b : Bool) (u : List Nat) : Prop where
  lie : ns.drop i = p :: ((dd : Nat) : Int) :: (iwN xs ++ ((if b = true then ((u.length : Nat) : Int) :: iwN u else []) ++ t))
  row : b = false → u = []
/-- what is due of it -/
structure Due (s : Rh03.St) (c : List (List Int)) (dd : Nat) (hn : Hn) (arg : List Nat) : Prop where
  no : Rh03.isDict dd = false → due s c = (s, [-1])
  yes : Rh03.isDict dd = true → (due s c).2 = (hn (Rh03.get s dd) arg).2 ∧ ∀ e, Rh03.get (due s c).1 e = if e = dd then (hn (Rh03.get s dd) arg).1 else Rh03.get s e
theorem keep_same (s : Rh03.St) (dd e : Nat) : Rh03.get s e = if e = dd then Rh03.get s dd else Rh03.get s e := by
  by_cases h : e = dd
  · rw [if_pos h, h]
  · rw [if_neg h]
theorem due_read {s : Rh03.St} {c : List (List Int)} {dd : Nat} {hn : Hn} {arg : List Nat} {x : Rh03.Call} {r : List Int} (h : due s c = Rh03.step s x) (hs : Rh03.step s x = (s, if Rh03.isDict dd = false then [-1] else r)) (hh : hn (Rh03.get s dd) arg = (Rh03.get s dd, r)) : Due s c dd hn arg := by
  refine ⟨fun c0 => by rw [h, hs, if_pos c0], fun c0 => ?_⟩
  rw [h, hs, if_neg (by rw [c0]; decide), hh]
  exact ⟨rfl, fun e => keep_same s dd e⟩
theorem due_write {s : Rh03.St} {c : List (List Int)} {dd : Nat} {hn : Hn} {arg : List Nat} {x : Rh03.Call} (h : due s c = Rh03.step s x) (h0 : Rh03.isDict dd = false → Rh03.step s x = (s, [-1]))
    (h1 : Rh03.isDict dd = true → (∃ r, Rh03.step s x = (s, r) ∧ hn (Rh03.get s dd) arg = (Rh03.get s dd, r)) ∨ (∃ l r, Rh03.step s x = (Rh03.keep s dd l, r) ∧ hn (Rh03.get s dd) arg = (l, r))) : Due s c dd hn arg := by
  refine ⟨fun c0 => by rw [h, h0 c0], fun c0 => ?_⟩
  rcases h1 c0 with ⟨r, e1, e2⟩ | ⟨l, r, e1, e2⟩
  · rw [h, e1, e2]
    exact ⟨rfl, fun e => keep_same s dd e⟩
  · rw [h, e1, e2]
    exact ⟨rfl, fun e => get_keep s dd e l⟩
section
variable {P : Program} {w : World} {K : PySem.W.Frag} {mg : Str → Option Value} {base : Heap} {C : Addr}
theorem scAnswerOne : FnScope ["dictionaries", "reader", "number", "form", "dictionary", "given", "call"] ["dictionaries", "reader"] (defScope sAnswerOne) := ⟨rfl, rfl, rfl, by decide +kernel, rfl, by decide +kernel, by decide +kernel⟩
theorem ok_answer_one {f fO fM dC : Addr} {fd fdO fdM : FuncData} (F : Fun K "answer_one" "answer_one" sAnswerOne f fd) (N : Names mg) (N2 : Names2 mg) (TR : RTxt K mg C) (mO : Meth K C "take_one" fO) (GO : FnOk P w K mg base CX0 1 fO fdO ["self"] (spROne K C)) (bO : Binds K fdO ["self"] [])
    (mM : Meth K C "take_many" fM) (GM : FnOk P w K mg base CX0 1 fM fdM ["self", "many"] (spRMany K C)) (bM : Binds K fdM ["self", "many"] []) (CH : Callee P w K mg base "has_dictionary" 1 ["number"] spHasD) (CJ : Callee P w K mg base "join_two" 2 ["dictionaries", "given"] spJoin) (TB : Table P w K mg base dC) : FnOk P w K mg base CX0 5 f fd ["dictionaries", "reader"] (spCall K C) := by
  obtain ⟨fH, fdH, GH, mgH, kpH, bH⟩ := CH
  obtain ⟨fJ, fdJ, GJ, mgJ, kpJ, bJ⟩ := CJ
  obtain ⟨t10, g10⟩ := N2.j10
  obtain ⟨t1, g1⟩ := N.m1
  obtain ⟨gC, es, n, f0, f1, f2, f3, f4, f5, f6, f7, f8, f9, f11, f12, f13, KI, E0', E1', E2', E3', E4', E5', E6', E7', E8', E9', E11', E12', E13', H0', H1', H2', H3', H4', H5', H6', H7', H8', H9', H11', H12', H13'⟩ := TB
  refine F.ok scAnswerOne (fun vs H Q E h => ?_) (fun cdv A outer s0 H vs Q E hr h => ?_)
  · obtain ⟨D, r, a, ls, s, i, ns, c, t, rfl, _⟩ := h
    rfl
  · obtain ⟨D, r, a, ls, s, i, ns, c, t, rfl, hD, hGs, hR, hS, hln, hcall, hin, k⟩ := h
    have hr1 := hr.mono (show 1 ≤ 4 by decide)
    have hr2 := hr.mono (show 2 ≤ 4 by decide)
    refine useG (Inv := ∃ (p : Int) (f : Addr) (m : Nat) (b : Bool) (pre : List Nat → Prop) (hn : Hn) (dd : Nat) (xs u : List Nat), p ≠ 10 ∧ Entry K es p f m b ∧ Handler P w K mg base f pre hn ∧ xs.length = m ∧ Ask ns i t p dd xs b u ∧ pre (xs ++ u) ∧ Due s c dd hn (xs ++ u)) ?main ?body
    case main =>
      intro L
      have lie0 : ∀ {p : Int} {mm dd : Nat} {u : List Nat}, OneRow (ns.drop i) c t p mm dd u → Ask ns i t p dd [] true u := fun o => ⟨by rw [o.l_eq]; rfl, fun z => by cases z⟩
      rcases which hcall hin with ⟨p, hp, dd, u, o⟩ | ⟨dd, u, o⟩ | ⟨dd, m, hc, hl, b1, b2⟩ | ⟨p, hp, dd, hc, hl, b1⟩ | ⟨q, a1, a2, a3, hc, hl, b1, b2, b3, b4⟩ | ⟨dd, m, q, u, hc, hl, b1, b2, b3, b4, b5⟩
      · have o1 := o.len
        simp only [List.mem_cons, List.not_mem_nil, or_false] at hp
        rcases hp with rfl | rfl | rfl | rfl | rfl | rfl | rfl | rfl
        · refine L ⟨0, f0, 0, true, P60, hAdd, dd, [], u, by decide, E0', H0', rfl, lie0 o, o1, ?_⟩
          refine due_write (x := .add dd u) (by rw [o.c_eq]; exact due0 s o.hd o.hu) (fun z => ?_) fun z => ?_
          · show (if _ then _ else _) = _
            rw [if_pos (.inl z)]
          · show (∃ r, (if Rh03.isDict dd = false ∨ Rh03.isWord u = false then (s, [-1]) else if (Rh03.get s dd).contains u = true then (s, [-4]) else if 60 ≤ (Rh03.get s dd).length then (s, [-5]) else (Rh03.keep s dd (Rh03.put u (Rh03.get s dd)), iw [(Rh03.put u (Rh03.get s dd)).length])) = (s, r) ∧ hAdd (Rh03.get s dd) u = _) ∨ (∃ l r, (if Rh03.isDict dd = false ∨ Rh03.isWord u = false then (s, [-1]) else if (Rh03.get s dd).contains u = true then (s, [-4]) else if 60 ≤ (Rh03.get s dd).length then (s, [-5]) else (Rh03.keep s dd (Rh03.put u (Rh03.get s dd)), iw [(Rh03.put u (Rh03.get s dd)).length])) = (Rh03.keep s dd l, r) ∧ hAdd (Rh03.get s dd) u = (l, r))
            unfold hAdd
            cases c1 : Rh03.isWord u with
            | false => exact .inl ⟨[-1], by rw [if_pos (.inr rfl)], by rw [if_pos rfl]⟩
            | true =>
              have cn : ¬ (Rh03.isDict dd = false ∨ true = false) := by rw [z]; rintro (y | y) <;> cases y
              have ct : ¬ (true = false) := by decide
              by_cases c2 : (Rh03.get s dd).contains u = true
              · exact .inl ⟨[-4], by rw [if_neg cn, if_pos c2], by rw [if_neg ct, if_pos c2]⟩
              · by_cases c3 : 60 ≤ (Rh03.get s dd).length
                · exact .inl ⟨[-5], by rw [if_neg cn, if_neg c2, if_pos c3], by rw [if_neg ct, if_neg c2, if_pos c3]⟩
                · exact .inr ⟨_, _, by rw [if_neg cn, if_neg c2, if_neg c3], by rw [if_neg ct, if_neg c2, if_neg c3]⟩
        · refine L ⟨1, f1, 0, true, P60, hOut, dd, [], u, by decide, E1', H1', rfl, lie0 o, o1, ?_⟩
          refine due_write (x := .out dd u) (by rw [o.c_eq]; exact due1 s o.hd o.hu) (fun z => ?_) fun z => ?_
          · show (if _ then _ else _) = _
            rw [if_pos z]
          · show (∃ r, (if Rh03.isDict dd = false then (s, [-1]) else if (Rh03.get s dd).contains u = false then (s, [-3]) else (Rh03.keep s dd ((Rh03.get s dd).filter fun v => v != u), iw [((Rh03.get s dd).filter fun v => v != u).length])) = (s, r) ∧ hOut (Rh03.get s dd) u = _) ∨ (∃ l r, (if Rh03.isDict dd = false then (s, [-1]) else if (Rh03.get s dd).contains u = false then (s, [-3]) else (Rh03.keep s dd ((Rh03.get s dd).filter fun v => v != u), iw [((Rh03.get s dd).filter fun v => v != u).length])) = (Rh03.keep s dd l, r) ∧ hOut (Rh03.get s dd) u = (l, r))
            unfold hOut
            rw [if_neg (by rw [z]; decide)]
            by_cases c2 : (Rh03.get s dd).contains u = false
            · exact .inl ⟨[-3], by rw [if_pos c2], by rw [if_pos c2]⟩
            · exact .inr ⟨_, _, by rw [if_neg c2], by rw [if_neg c2]⟩
        · exact L ⟨2, f2, 0, true, P60, hNumber, dd, [], u, by decide, E2', H2', rfl, lie0 o, o1, due_read (x := .number dd u) (by rw [o.c_eq]; exact due2 s o.hd o.hu) rfl rfl⟩
        · exact L ⟨4, f4, 0, true, P60, hBegins, dd, [], u, by decide, E4', H4', rfl, lie0 o, o1, due_read (x := .begins dd u) (by rw [o.c_eq]; exact due4 s o.hd o.hu) rfl rfl⟩
        · refine L ⟨8, f8, 0, true, P60, hState, dd, [], u, by decide, E8', H8', rfl, lie0 o, o1, due_read (x := .state dd u) (by rw [o.c_eq]; exact due8 s o.hd o.hu) rfl ?_⟩
          unfold hState
          show (_, if Rh03.rests (Rh03.get s dd) u = [] then _ else _) = _
          rw [run_dict]
          by_cases e : Rh03.rests (Rh03.get s dd) u = []
          · rw [if_pos e, if_pos e]
          · rw [if_neg e, if_neg e]
            rfl
        · refine L ⟨9, f9, 0, true, P60, hAfter, dd, [], u, by decide, E9', H9', rfl, lie0 o, o1, due_read (x := .after dd u) (by rw [o.c_eq]; exact due9 s o.hd o.hu) rfl ?_⟩
          unfold hAfter
          show (_, if Rh03.rests (Rh03.get s dd) u = [] then _ else _) = _
          rw [run_dict]
          by_cases e : Rh03.rests (Rh03.get s dd) u = []
          · rw [if_pos e, if_pos e]
          · rw [if_neg e, if_neg e]
            have hne : Rh03.get s dd ≠ [] := fun z => e (by rw [z]; rfl)
            show _ = (_, ((Rh03.flag (Rh03.ends (Rh03.auto (Rh03.get s dd)) (Rh03.place (Rh03.states (Rh03.get s dd)) (Rh03.rests (Rh03.get s dd) u))) : Nat) : Int) :: _)
            rw [ends_auto (rests_in u (states_self hne) e)]
            rfl
        · refine L ⟨12, f12, 0, true, P60, hWays, dd, [], u, by decide, E12', H12', rfl, lie0 o, o1, ?_⟩
          refine due_write (x := .ways dd u) (by rw [o.c_eq]; exact due12 s o.hd o.hu) (fun z => ?_) fun z => .inl ?_
          · show (s, if _ then _ else _) = _
            rw [if_pos (.inl z)]
          · refine ⟨if 40 < u.length then [-1] else iw [Rh03.ways (Rh03.get s dd) u], ?_, rfl⟩
            show (s, if Rh03.isDict dd = false ∨ 40 < u.length then [-1] else iw [Rh03.ways (Rh03.get s dd) u]) = _
            by_cases e : 40 < u.length
            · rw [if_pos (.inr e), if_pos e]
            · rw [if_neg (by rw [z]; rintro (y | y); cases y; exact e y), if_neg e]
        · refine L ⟨13, f13, 0, true, P60, hHead, dd, [], u, by decide, E13', H13', rfl, lie0 o, o1, ?_⟩
          refine due_write (x := .head dd u) (by rw [o.c_eq]; exact due13 s o.hd o.hu) (fun z => ?_) fun z => .inl ?_
          · show (s, if _ then _ else _) = _
            rw [if_pos (.inl z)]
          · refine ⟨if 40 < u.length then [-1] else match Rh03.head (Rh03.get s dd) u with | none => [-3] | some v => iw [v.length], ?_, rfl⟩
            show (s, if Rh03.isDict dd = false ∨ 40 < u.length then [-1] else match Rh03.head (Rh03.get s dd) u with | none => [-3] | some v => iw [v.length]) = _
            by_cases e : 40 < u.length
            · rw [if_pos (.inr e), if_pos e]
            · rw [if_neg (by rw [z]; rintro (y | y); cases y; exact e y), if_neg e]
      · refine L ⟨7, f7, 0, true, PRow, hUnpack, dd, [], u, by decide, E7', H7', rfl, lie0 o, o.len, ?_⟩
        refine due_write (x := .unpack dd u) (by rw [o.c_eq]; exact due7 s o.hd o.hu) (fun z => ?_) fun z => ?_
        · show (if _ then _ else _) = _
          rw [if_pos (.inl z)]
        · show (∃ r, (if Rh03.isDict dd = false ∨ 2000 < u.length then (s, [-1]) else (match Rh03.unpack u with | .inl e => (s, [e]) | .inr l => (Rh03.keep s dd l, iw [l.length]))) = (s, r) ∧ hUnpack (Rh03.get s dd) u = _) ∨ (∃ l r, (if Rh03.isDict dd = false ∨ 2000 < u.length then (s, [-1]) else (match Rh03.unpack u with | .inl e => (s, [e]) | .inr l => (Rh03.keep s dd l, iw [l.length]))) = (Rh03.keep s dd l, r) ∧ hUnpack (Rh03.get s dd) u = (l, r))
          unfold hUnpack
          by_cases e : 2000 < u.length
          · exact .inl ⟨[-1], by rw [if_pos (.inr e)], by rw [if_pos e]⟩
          · have cn : ¬ (Rh03.isDict dd = false ∨ 2000 < u.length) := by rw [z]; rintro (y | y); cases y; exact e y
            rw [if_neg cn, if_neg e]
            cases hq : Rh03.unpack u with
            | inl e' => exact .inl ⟨_, rfl, rfl⟩
            | inr l => exact .inr ⟨_, _, rfl, rfl⟩
      · refine L ⟨3, f3, 1, false, P1, hWord, dd, [m], [], by decide, E3', H3', rfl, ⟨by rw [hl]; rfl, fun _ => rfl⟩, ⟨m, rfl⟩, ?_⟩
        refine due_read (x := .word dd m) (by rw [hc]; exact due3 s b1 b2) rfl ?_
        rfl
      · simp only [List.mem_cons, List.not_mem_nil, or_false] at hp
        rcases hp with rfl | rfl
        · exact L ⟨5, f5, 0, false, fun _ => True, hSize, dd, [], [], by decide, E5', H5', rfl, ⟨by rw [hl]; rfl, fun _ => rfl⟩, trivial, due_read (x := .size dd) (by rw [hc]; exact due5 s b1) rfl rfl⟩
        · exact L ⟨6, f6, 0, false, fun _ => True, hPack, dd, [], [], by decide, E6', H6', rfl, ⟨by rw [hl]; rfl, fun _ => rfl⟩, trivial, due_read (x := .pack dd) (by rw [hc]; exact due6 s b1) rfl rfl⟩
      · -- join
        obtain ⟨kk, fd', hkk, GF, kpF, bF⟩ := H0'
        refine ⟨_, pss_cons (ps_set (i := 2) scAnswerOne.nd rfl (Or.inl rfl) (pe_meth0 (pv 1) TR.cl mO GO hr1 bO .nil pass0))
        (pss_cons (ps_if (pt_cmpR op_eq (pv 2) (pe_glob (v := .int 10) (by rfl) g10 ⟨_, rfl⟩) (nomark _)) (pss_one (ps_ret (pe_call GJ hr2 rfl mgJ kpJ bJ .nil pass0 (pa_cons (pv 0) (pa_cons (pe_meth (pv 1) TR.cl mM GM hr1 bM .nil pass0 (pa_cons pe_int pa_nil)) pa_nil))))) pss_nil)
        (pss_cons (ps_set (i := 3) scAnswerOne.nd rfl (Or.inl rfl) (pe_ix ix_kint (pe_glob (v := .ref dC) (by rfl) gC rfl) (pv 2) (fun _ _ => rfl)))
        (pss_cons (ps_set (i := 4) scAnswerOne.nd rfl (Or.inl rfl) (pe_meth0 (pv 1) TR.cl mO GO hr1 bO .nil pass0))
        (pss_cons (ps_set (i := 5) scAnswerOne.nd rfl (Or.inl rfl) (pe_meth (pv 1) TR.cl mM GM hr1 bM .nil pass0 (pa_cons (pe_ix ix_tup (pv 3) pe_int (fun _ _ => rfl)) pa_nil)))
        (pss_cons (ps_if (pt_val (pe_ix ix_tup (pv 3) pe_int (fun _ _ => rfl))) (pss_one (ps_set (i := 5) scAnswerOne.nd rfl (Or.inl rfl) (pe_op op_cat (pv 5) (pe_meth (pv 1) TR.cl mM GM hr1 bM .nil pass0 (pa_cons (pe_meth0 (pv 1) TR.cl mO GO hr1 bO .nil pass0) pa_nil))))) pss_nil)
        (pss_cons (ps_if (pt_not (pt_val (pe_call GH hr1 rfl mgH kpH bH .nil pass0 (pa_cons (pv 4) pa_nil)))) (pss_one (ps_ret (pe_lst (pa_cons (pe_glob (v := .int (-1)) (by rfl) g1 ⟨_, rfl⟩) pa_nil)))) pss_nil)
        (pss_cons (ps_set (i := 6) scAnswerOne.nd rfl (Or.inl rfl) (pe_ix ix_tup (pv 3) pe_int (fun _ _ => rfl)))
        (pss_one (ps_ret (pe_callL (i := 6) (f := f0) GF (hr.mono hkk) rfl (Or.inl rfl) kpF bF .nil pass0 (pa_cons (pe_ix ix_list (pv 0) (pe_op op_sub (pv 4) pe_int) (fun _ _ => rfl)) (pa_cons (pv 5) pa_nil)))))))))))), ?_⟩
        have hget : ∀ j, ns[i + j]? = (ns.drop i)[j]? := fun j => by rw [List.getElem?_drop]
        have hp0 : ns[i]? = some 10 := by have := hget 0; rw [hl] at this; exact this
        have hil : i ≤ ns.length := Nat.le_of_lt (List.getElem?_eq_some_iff.mp hp0).1
        have hlen := congrArg List.length hl
        rw [List.length_drop] at hlen
        simp only [List.length_cons] at hlen
        have htk : (ns.drop (i + 1)).take 4 = iwN [q, a1, a2, a3] := by rw [← List.drop_drop, hl]; rfl
        obtain ⟨dx0, hx0⟩ := hR
        have hR0 : RdAt C H r a i := ⟨dx0, hx0⟩
        refine ⟨_, rfl, r, dx0, _, rfl, hx0, rF_no a i (by decide +kernel) (by decide +kernel), r, a, i, ns, 10, rfl, hR0, hS.sq, hp0, fun H1 R1 B1 _ => ?_⟩
        have S1 := hS.but hR0 B1
        refine ⟨_, rfl, rfl, _, rfl, ?_⟩
        rw [decI]
        refine ifT (decide_eq_true rfl) ?_
        obtain ⟨dx1, hx1⟩ := id R1
        refine ⟨_, rfl, _, rfl, r, dx1, _, rfl, hx1, rF_no a (i + 1) (by decide +kernel) (by decide +kernel), r, a, i + 1, 4, ns, rfl, R1, S1.sq, by omega, fun H2 g R2 B2 hgn hg => ?_⟩
        rw [htk] at hg
        have B02 := But.trans B1 B2
        have D2 := hD.but hR0 B02
        have ec := due10 s b1 b2 b3 b4
        rw [← hc] at ec
        rw [ec] at k
        refine ⟨D, g, ls, s, q, a1, a2, a3, rfl, D2, hGs, by rw [hg]; show some (HO.lst ((iw [q, a1, a2, a3]).map V.int)) = _; rw [nV_iw], fun H' p hD' hfr hpn hp' => ?_⟩
        refine k H' p ls hD' ?_ (fun x o z hx => hfr x o (B02 x o z fun w => hx (by rw [w]; simp)) fun w => hx (by simp [w])) (fun x hx => .inl hx) (fresh_but B02 R2 hpn) hp'
        have e9 : ns.length - t.length = i + 1 + 4 := by omega
        rw [e9]
        obtain ⟨dx2, hx2⟩ := R2
        refine ⟨dx2, hfr _ _ hx2 fun w => ?_⟩
        obtain ⟨j, hj⟩ := List.mem_iff_getElem?.mp w
        obtain ⟨bs0, hb0, _⟩ := D2.at_ _ _ hj
        rw [hx2] at hb0; cases hb0
      · refine L ⟨11, f11, 2, true, PFits, hFits, dd, [m, q], u, by decide, E11', H11', rfl, ⟨by rw [hl]; rfl, fun z => by cases z⟩, ⟨m, q, u, rfl, b5, b2, b3⟩, ?_⟩
        refine due_write (x := .fits dd m q u) (by rw [hc]; exact due11 s b1 b2 b3 b4) (fun z => ?_) fun z => .inl ?_
        · show (s, if _ then _ else _) = _
          rw [if_pos (.inl z)]
        · refine ⟨if okP u = false then [-1] else (((Rh03.matches_ (Rh03.get s dd) m u).length : Nat) : Int) :: Rh03.told ((Rh03.matches_ (Rh03.get s dd) m u).take q), ?_, rfl⟩
          show (s, if Rh03.isDict dd = false ∨ u.all (fun x => decide (x ≤ 27)) = false ∨ 10 < u.length then [-1] else (((Rh03.matches_ (Rh03.get s dd) m u).length : Nat) : Int) :: Rh03.told ((Rh03.matches_ (Rh03.get s dd) m u).take q)) = _
          cases e : okP u with
          | false =>
            rw [if_pos rfl, if_pos]
            unfold okP at e
            by_cases e1 : u.length ≤ 10
            · rw [decide_eq_true e1, Bool.true_and] at e
              exact .inr (.inl e)
            · exact .inr (.inr (by omega))
          | true =>
            unfold okP at e
            rw [Bool.and_eq_true, decide_eq_true_eq] at e
            rw [if_neg, if_neg (by decide)]
            rw [z]
            rintro (y | y | y)
            · cases y
            · rw [e.2] at y; cases y
            · omega
    case body =>
      rintro ⟨p, f', m, b, pre, hn, dd, xs, u, hp10, ⟨T, hT, hTs⟩, ⟨kk, fd', hkk, GF, kpF, bF⟩, hxl, hask, hpre, hdue⟩
      refine ⟨_, pss_cons (ps_set (i := 2) scAnswerOne.nd rfl (Or.inl rfl) (pe_meth0 (pv 1) TR.cl mO GO hr1 bO .nil pass0))
        (pss_cons (ps_if (pt_cmpR op_eq (pv 2) (pe_glob (v := .int 10) (by rfl) g10 ⟨_, rfl⟩) (nomark _)) (pss_one (ps_ret (pe_call GJ hr2 rfl mgJ kpJ bJ .nil pass0 (pa_cons (pv 0) (pa_cons (pe_meth (pv 1) TR.cl mM GM hr1 bM .nil pass0 (pa_cons pe_int pa_nil)) pa_nil))))) pss_nil)
        (pss_cons (ps_set (i := 3) scAnswerOne.nd rfl (Or.inl rfl) (pe_ix ix_kint (pe_glob (v := .ref dC) (by rfl) gC rfl) (pv 2) (fun _ _ => rfl)))
        (pss_cons (ps_set (i := 4) scAnswerOne.nd rfl (Or.inl rfl) (pe_meth0 (pv 1) TR.cl mO GO hr1 bO .nil pass0))
        (pss_cons (ps_set (i := 5) scAnswerOne.nd rfl (Or.inl rfl) (pe_meth (pv 1) TR.cl mM GM hr1 bM .nil pass0 (pa_cons (pe_ix ix_tup (pv 3) pe_int (fun _ _ => rfl)) pa_nil)))
        (pss_cons (ps_if (pt_val (pe_ix ix_tup (pv 3) pe_int (fun _ _ => rfl))) (pss_one (ps_set (i := 5) scAnswerOne.nd rfl (Or.inl rfl) (pe_op op_cat (pv 5) (pe_meth (pv 1) TR.cl mM GM hr1 bM .nil pass0 (pa_cons (pe_meth0 (pv 1) TR.cl mO GO hr1 bO .nil pass0) pa_nil))))) pss_nil)
        (pss_cons (ps_if (pt_not (pt_val (pe_call GH hr1 rfl mgH kpH bH .nil pass0 (pa_cons (pv 4) pa_nil)))) (pss_one (ps_ret (pe_lst (pa_cons (pe_glob (v := .int (-1)) (by rfl) g1 ⟨_, rfl⟩) pa_nil)))) pss_nil)
        (pss_cons (ps_set (i := 6) scAnswerOne.nd rfl (Or.inl rfl) (pe_ix ix_tup (pv 3) pe_int (fun _ _ => rfl)))
        (pss_one (ps_ret (pe_callL (i := 6) (f := f') GF (hr.mono hkk) rfl (Or.inl rfl) kpF bF .nil pass0 (pa_cons (pe_ix ix_list (pv 0) (pe_op op_sub (pv 4) pe_int) (fun _ _ => rfl)) (pa_cons (pv 5) pa_nil)))))))))))), ?_⟩
      obtain ⟨hlie, hrow⟩ := hask
      have hget : ∀ j, ns[i + j]? = (ns.drop i)[j]? := fun j => by rw [List.getElem?_drop]
      have hil : i ≤ ns.length := by
        rcases Nat.lt_or_ge ns.length i with z | z
        · have : ns.drop i = [] := List.drop_eq_nil_iff.mpr (by omega)
          rw [this] at hlie; cases hlie
        · exact z
      have hp0 : ns[i]? = some p := by have := hget 0; rw [hlie] at this; exact this
      have hd0 : ns[i + 1]? = some ((dd : Nat) : Int) := by have := hget 1; rw [hlie] at this; exact this
      have hdr2 : ns.drop (i + 2) = iwN xs ++ ((if b = true then ((u.length : Nat) : Int) :: iwN u else []) ++ t) := by rw [← List.drop_drop, hlie]; rfl
      have hxi : (iwN xs).length = m := by rw [List.length_map]; exact hxl
      have hlen2 : ns.length - (i + 2) = m + ((if b = true then ((u.length : Nat) : Int) :: iwN u else []).length + t.length) := by
        have := congrArg List.length hdr2
        rw [List.length_drop, List.length_append, List.length_append, hxi] at this
        exact this
      have hi2 : i + 2 ≤ ns.length := by
        have : i + 1 < ns.length := (List.getElem?_eq_some_iff.mp hd0).1
        omega
      have htk : (ns.drop (i + 2)).take m = iwN xs := by rw [hdr2, List.take_append_of_le_length (by omega), List.take_of_length_le (by omega)]
      obtain ⟨dx0, hx0⟩ := hR
      refine ⟨_, rfl, r, dx0, _, rfl, hx0, rF_no a i (by decide +kernel) (by decide +kernel), r, a, i, ns, p, rfl, ⟨dx0, hx0⟩, hS.sq, hp0, fun H1 R1 B1 _ => ?_⟩
      have hR0 : RdAt C H r a i := ⟨dx0, hx0⟩
      have S1 := hS.but hR0 B1
      refine ⟨_, rfl, rfl, _, rfl, ?_⟩
      rw [decI]
      refine ifF (decide_eq_false hp10) ?_
      refine ⟨_, rfl, dC, es, n, p, .ref T, .ref T, rfl, rfl, KI, hT, rfl, ?_⟩
      obtain ⟨dx1, hx1⟩ := id R1
      refine ⟨_, rfl, r, dx1, _, rfl, hx1, rF_no a (i + 1) (by decide +kernel) (by decide +kernel), r, a, i + 1, ns, _, rfl, R1, S1.sq, hd0, fun H2 R2 B2 _ => ?_⟩
      have S2 := S1.but R1 B2
      obtain ⟨dx2, hx2⟩ := id R2
      refine ⟨_, rfl, r, dx2, _, rfl, hx2, rF_no a (i + 1 + 1) (by decide +kernel) (by decide +kernel), _, rfl, T, _, _, V.int ((m : Nat) : Int), rfl, rfl, hTs H2, atI_nat (j := 1) rfl, r, a, i + 2, m, ns, rfl, R2, S2.sq, by omega, fun H3 g1' R3 B3 hg1n hg1 => ?_⟩
      rw [htk] at hg1
      have S3 := S2.but R2 B3
      have B03 := But.trans B1 (But.trans B2 B3)
      -- the rest, once all is read
      refine useN (N := ?N) (Inv := fun σ Hx => ∃ g : Addr, σ = [some (.ref D), some (.ref r), some (.int p), some (.ref T), some (.int ((dd : Nat) : Int)), some (.ref g), none] ∧ But r H Hx ∧ RdAt C Hx r a (ns.length - t.length) ∧ Hx g = some (.lst (nV (xs ++ u)))) ?main2 ?rest
      case main2 =>
        intro L
        refine ⟨_, rfl, T, _, _, V.bl b, rfl, rfl, hTs H3, atI_nat (j := 2) rfl, _, rfl, ?_⟩
        cases b with
        | false =>
          have hu0 := hrow rfl
          refine ifF rfl ?_
          refine L _ _ ⟨g1', rfl, B03, ?_, ?_⟩
          · have e9 : ns.length - t.length = i + 2 + m := by
              rw [if_neg (by decide), List.length_nil] at hlen2
              omega
            rw [e9]; exact R3
          · rw [hg1, hu0, List.append_nil]
            show some (HO.lst ((iw xs).map V.int)) = _
            rw [nV_iw]
        | true =>
          refine ifT rfl ?_
          rw [if_pos rfl] at hlen2 hdr2
          rw [List.length_cons, List.length_map] at hlen2
          have hdr3 : ns.drop (i + 2 + m) = ((u.length : Nat) : Int) :: (iwN u ++ t) := by
            rw [← List.drop_drop, hdr2, List.drop_append_of_le_length (by omega), List.drop_of_length_le (by omega)]; rfl
          have hul0 : ns[i + 2 + m]? = some ((u.length : Nat) : Int) := by
            have : ns[i + 2 + m + 0]? = (ns.drop (i + 2 + m))[0]? := by rw [List.getElem?_drop]
            rw [hdr3] at this; exact this
          have hdr4 : (ns.drop (i + 2 + m + 1)).take u.length = iwN u := by
            rw [← List.drop_drop, hdr3]
            show (iwN u ++ t).take u.length = _
            rw [List.take_append_of_le_length (by rw [List.length_map]; exact Nat.le_refl _), List.take_of_length_le (by rw [List.length_map]; exact Nat.le_refl _)]
          obtain ⟨dx3, hx3⟩ := id R3
          refine ⟨_, rfl, _, rfl, r, dx3, _, rfl, hx3, rF_no a (i + 2 + m) (by decide +kernel) (by decide +kernel), _, rfl, r, dx3, _, rfl, hx3, rF_no a (i + 2 + m) (by decide +kernel) (by decide +kernel), r, a, i + 2 + m, ns, _, rfl, R3, S3.sq, hul0, fun H4 R4 B4 _ => ?_⟩
          have S4 := S3.but R3 B4
          have hg1' : H4 g1' = some (.lst ((iwN xs).map V.int)) := B4 _ _ hg1 (rd_ne R3 hg1 fun _ _ z => by cases z)
          refine ⟨r, a, i + 2 + m + 1, u.length, ns, rfl, R4, S4.sq, by omega, fun H5 g2' R5 B5 hg2n hg2 => ?_⟩
          rw [hdr4] at hg2
          have hg15 : H5 g1' = some (.lst ((iwN xs).map V.int)) := B5 _ _ hg1' (rd_ne R4 hg1' fun _ _ z => by cases z)
          have hlx : (iwN xs).length + (iwN u).length ≤ 60000 := by rw [List.length_map, List.length_map]; omega
          have hz1 : ((iwN xs).map V.int).length = xs.length := by rw [List.length_map, List.length_map]
          have hz2 : ((iwN u).map V.int).length = u.length := by rw [List.length_map, List.length_map]
          refine ⟨g1', g2', _, _, rfl, rfl, hg15, hg2, by rw [hz1, hz2, sizeLine_eq]; omega, fun g3' hg3 => ?_⟩
          dsimp only
          refine L _ _ ⟨g3', rfl, But.trans B03 (But.trans B4 (But.trans B5 (But.of (Same.new hg3)))), ?_, ?_⟩
          · have e9 : ns.length - t.length = i + 2 + m + 1 + u.length := by omega
            rw [e9]
            obtain ⟨dx5, hx5⟩ := R5
            exact ⟨dx5, Same.new hg3 _ _ hx5⟩
          · rw [upd_same]
            show some (HO.lst ((iw xs).map V.int ++ (iw u).map V.int)) = _
            rw [← List.map_append, nV_iw]
            congr 3
            show _ = List.map _ _
            rw [List.map_append]; rfl
      case rest =>
        rintro σ Hx ⟨g, rfl, Bx, Rx, hgx⟩
        have Dx := hD.but hR0 Bx
        refine ⟨_, rfl, dd, rfl, _, rfl, ?_⟩
        have keepX : ∀ H', (∀ x o, Hx x = some o → x ∉ ls → H' x = some o) → Keep (D :: r :: ls) H H' := fun H' hf x o e hx => by
          have hxr : x ≠ r := fun z => hx (by rw [z]; simp)
          have hxl : x ∉ ls := fun z => hx (by simp [z])
          exact hf x o (Bx x o e hxr) hxl
        cases hdd : Rh03.isDict dd with
        | false =>
          refine ifT rfl ⟨by show 1 ≤ sizeLine; decide, fun q hq => ?_⟩
          have e := hdue.no hdd
          rw [e] at k
          have sq := Same.new (o := .lst [V.int (-1)]) hq
          refine k _ q ls (Dx.stay sq) ?_ (keepX _ fun x o z _ => sq _ _ z) (fun x hx => .inl hx) (fresh_but Bx Rx hq) upd_same
          obtain ⟨dxx, hxx⟩ := Rx
          exact ⟨dxx, sq _ _ hxx⟩
        | true =>
          refine ifF rfl ?_
          obtain ⟨e1, e2⟩ := hdue.yes hdd
          have bd : 1 ≤ dd ∧ dd ≤ 4 := by
            unfold Rh03.isDict at hdd
            rw [Bool.and_eq_true, decide_eq_true_eq, decide_eq_true_eq] at hdd
            exact hdd
          have hlt : dd - 1 < ls.length := by rw [hD.len]; omega
          have hl : ls[dd - 1]? = some ls[dd - 1] := List.getElem?_eq_getElem hlt
          generalize ls[dd - 1] = l at hl
          have hlv : (ls.map V.ref)[dd - 1]? = some (V.ref l) := by rw [List.getElem?_map, hl]; rfl
          have dl := Dx.at_ _ _ hl
          rw [show dd - 1 + 1 = dd by omega] at dl
          have ix : ((dd : Nat) : Int) - 1 = ((dd - 1 : Nat) : Int) := by omega
          refine ⟨_, rfl, T, _, _, V.ref f', rfl, rfl, hTs Hx, atI_nat (j := 0) rfl, ?_⟩
          refine ⟨rfl, _, rfl, _, rfl, _, _, rfl, rfl, D, _, _, V.ref l, rfl, rfl, SqL.of Dx.lst, by rw [ix]; exact atI_nat hlv, _, rfl, l, g, Rh03.get s dd, xs ++ u, rfl, dl, hGs dd, hgx, hpre, fun H' q hfr hD' hqn hq' => ?_⟩
          have hlm := List.mem_of_getElem? hl
          refine k H' q ls (Dx.set hl hfr hD' fun e => by rw [e2, show dd - 1 + 1 = dd by omega]) ?_ (keepX H' fun x o z hx => hfr x o z fun w => hx (by rw [w]; exact hlm)) (fun x hx => .inl hx) (fresh_but Bx Rx hqn) (by rw [e1]; exact hq')
          obtain ⟨dxx, hxx⟩ := Rx
          obtain ⟨bs0, hb0, _⟩ := dl
          exact ⟨dxx, hfr _ _ hxx (ne_of hxx hb0 (by intro z; cases z))⟩
end
end Ls
/-! LsEnd -/
namespace Ls
open PySem PySem.Spec PyProof.Rows L2
open PySem.W (Codec)
theorem entry_mk {K : PySem.W.Frag} {es : Array DictEntry} {p mi : Int} {T f : Addr} {m n : Nat} {t : Tok} {b : Bool} {od : Option Addr} {sl : Array (Option Value)} (l : K.lookup T = some ⟨.type "tuple", od, .seq #[.ref f, .int mi t, .bool b] n, sl⟩) (hm : mi = ((m : Nat) : Int)) (h : findBy Value.isInt es p = some (.ref T)) : Entry K es p f m b :=
  ⟨T, h, fun H => .inr ⟨_, _, _, l, rfl, rfl, by show 3 ≤ sizeLine; decide, .cons rfl (.cons ⟨_, by rw [hm]⟩ (.cons rfl .nil))⟩⟩
theorem all_mk {P : Program} {w : World} {K : PySem.W.Frag} {h : Heap} {mg : Str → Option Value} {fa C : Addr} {f_d0 f_d1 f_d2 f_d3 f_d4 f_d5 f_d6 f_d7 f_d8 f_d9 f_d10 f_d11 f_d12 f_d13 f_d14 f_d15 f_d16 f_d17 f_d18 f_d19 f_d20 f_d21 f_d22 f_d23 f_d24 f_d25 f_d26 f_d27 f_d28 f_d29 f_d30 f_d31 f_d32 f_d33 f_m0 f_m1 f_m2 f_m3 f_z : Addr} (X : K.In h) (G : h.Ns mainGlobals mg) (hfa : mg "answers" = some (.ref fa))
    {od_d0 an_d0 od_d1 an_d1 od_d2 an_d2 od_d3 an_d3 od_d4 an_d4 od_d5 an_d5 od_d6 an_d6 od_d7 an_d7 od_d8 an_d8 od_d9 an_d9 od_d10 an_d10 od_d11 an_d11 od_d12 an_d12 od_d13 an_d13 od_d14 an_d14 od_d15 an_d15 od_d16 an_d16 od_d17 an_d17 od_d18 an_d18 od_d19 an_d19 od_d20 an_d20 od_d21 an_d21 od_d22 an_d22 od_d23 an_d23 od_d24 an_d24 od_d25 an_d25 od_d26 an_d26 od_d27 an_d27 od_d28 an_d28 od_d29 an_d29 od_d30 an_d30 od_d31 an_d31 od_d32 an_d32 od_d33 an_d33 od_m0 an_m0 od_m1 an_m1 od_m2 an_m2 od_m3 an_m3 od_z an_z : Option Addr} {sl_d0 sl_d1 sl_d2 sl_d3 sl_d4 sl_d5 sl_d6 sl_d7 sl_d8 sl_d9 sl_d10 sl_d11 sl_d12 sl_d13 sl_d14 sl_d15 sl_d16 sl_d17 sl_d18 sl_d19 sl_d20 sl_d21 sl_d22 sl_d23 sl_d24 sl_d25 sl_d26 sl_d27 sl_d28 sl_d29 sl_d30 sl_d31 sl_d32 sl_d33 sl_m0 sl_m1 sl_m2 sl_m3 sl_z : Array (Option Value)} {oc_d0 kV_d0 dc_d0 pm_d0 cd_d0 ct_d0 oc_d1 kV_d1 dc_d1 pm_d1 cd_d1 ct_d1 oc_d2 kV_d2 dc_d2 pm_d2 cd_d2 ct_d2 oc_d3 kV_d3 dc_d3 pm_d3 cd_d3 ct_d3 oc_d4 kV_d4 dc_d4 pm_d4 cd_d4 ct_d4 oc_d5 kV_d5 dc_d5 pm_d5 cd_d5 ct_d5 oc_d6 kV_d6 dc_d6 pm_d6 cd_d6 ct_d6 oc_d7 kV_d7 dc_d7 pm_d7 cd_d7 ct_d7 oc_d8 kV_d8 dc_d8 pm_d8 cd_d8 ct_d8 oc_d9 kV_d9 dc_d9 pm_d9 cd_d9 ct_d9 oc_d10 kV_d10 dc_d10 pm_d10 cd_d10 ct_d10 oc_d11 kV_d11 dc_d11 pm_d11 cd_d11 ct_d11 oc_d12 kV_d12 dc_d12 pm_d12 cd_d12 ct_d12 oc_d13 kV_d13 dc_d13 pm_d13 cd_d13 ct_d13 oc_d14 kV_d14 dc_d14 pm_d14 cd_d14 ct_d14 oc_d15 kV_d15 dc_d15 pm_d15 cd_d15 ct_d15 oc_d16 kV_d16 dc_d16 pm_d16 cd_d16 ct_d16 oc_d17 kV_d17 dc_d17 pm_d17 cd_d17 ct_d17 oc_d18 kV_d18 dc_d18 pm_d18 cd_d18 ct_d18 oc_d19 kV_d19 dc_d19 pm_d19 cd_d19 ct_d19 oc_d20 kV_d20 dc_d20 pm_d20 cd_d20 ct_d20 oc_d21 kV_d21 dc_d21 pm_d21 cd_d21 ct_d21 oc_d22 kV_d22 dc_d22 pm_d22 cd_d22 ct_d22 oc_d23 kV_d23 dc_d23 pm_d23 cd_d23 ct_d23 oc_d24 kV_d24 dc_d24 pm_d24 cd_d24 ct_d24 oc_d25 kV_d25 dc_d25 pm_d25 cd_d25 ct_d25 oc_d26 kV_d26 dc_d26 pm_d26 cd_d26 ct_d26 oc_d27 kV_d27 dc_d27 pm_d27 cd_d27 ct_d27 oc_d28 kV_d28 dc_d28 pm_d28 cd_d28 ct_d28 oc_d29 kV_d29 dc_d29 pm_d29 cd_d29 ct_d29 oc_d30 kV_d30 dc_d30 pm_d30 cd_d30 ct_d30 oc_d31 kV_d31 dc_d31 pm_d31 cd_d31 ct_d31 oc_d32 kV_d32 dc_d32 pm_d32 cd_d32 ct_d32 oc_d33 kV_d33 dc_d33 pm_d33 cd_d33 ct_d33 oc_m0 kV_m0 dc_m0 pm_m0 cd_m0 ct_m0 oc_m1 kV_m1 dc_m1 pm_m1 cd_m1 ct_m1 oc_m2 kV_m2 dc_m2 pm_m2 cd_m2 ct_m2 oc_m3 kV_m3 dc_m3 pm_m3 cd_m3 ct_m3 oc_z kV_z dc_z pm_z cd_z ct_z : Value} {t_0 t_1 t_2 t_3 t_4 t_5 t_6 t_7 t_8 t_9 t_10 t_11 t_12 t_13 t_14 t_15 t_16 t_17 t_18 tk_0 tm_0 tk_1 tm_1 tk_2 tm_2 tk_3 tm_3 tk_4 tm_4 tk_5 tm_5 tk_6 tm_6 tk_7 tm_7 tk_8 tm_8 tk_9 tm_9 tk_11 tm_11 tk_12 tm_12 tk_13 tm_13 : Tok} {dC T_0 T_1 T_2 T_3 T_4 T_5 T_6 T_7 T_8 T_9 T_11 T_12 T_13 : Addr} {n_C n_0 n_1 n_2 n_3 n_4 n_5 n_6 n_7 n_8 n_9 n_11 n_12 n_13 : Nat} {od_T0 od_T1 od_T2 od_T3 od_T4 od_T5 od_T6 od_T7 od_T8 od_T9 od_T11 od_T12 od_T13 : Option Addr} {sl_T0 sl_T1 sl_T2 sl_T3 sl_T4 sl_T5 sl_T6 sl_T7 sl_T8 sl_T9 sl_T11 sl_T12 sl_T13 : Array (Option Value)}
    (a_d0 : PySem.W.nsIn K mainGlobals "is_pattern" = some (some (.ref f_d0))) (l_d0 : K.lookup f_d0 = some ⟨oc_d0, od_d0, .func (PySem.W.fnOf "is_pattern" "is_pattern" (defArgs sIsPat) (defBody sIsPat) (defScope sIsPat) .none kV_d0 dc_d0 pm_d0 an_d0 cd_d0 ct_d0), sl_d0⟩) (c_d0 : PySem.W.codeIn K cd_d0 "is_pattern" = true) (k_d0 : PySem.W.keepIn K (.ref f_d0) = true)
    (a_d1 : PySem.W.nsIn K mainGlobals "is_of_pattern" = some (some (.ref f_d1))) (l_d1 : K.lookup f_d1 = some ⟨oc_d1, od_d1, .func (PySem.W.fnOf "is_of_pattern" "is_of_pattern" (defArgs sIsOf) (defBody sIsOf) (defScope sIsOf) .none kV_d1 dc_d1 pm_d1 an_d1 cd_d1 ct_d1), sl_d1⟩) (c_d1 : PySem.W.codeIn K cd_d1 "is_of_pattern" = true) (k_d1 : PySem.W.keepIn K (.ref f_d1) = true)
    (a_d2 : PySem.W.nsIn K mainGlobals "count_cuts" = some (some (.ref f_d2))) (l_d2 : K.lookup f_d2 = some ⟨oc_d2, od_d2, .func (PySem.W.fnOf "count_cuts" "count_cuts" (defArgs sCuts) (defBody sCuts) (defScope sCuts) .none kV_d2 dc_d2 pm_d2 an_d2 cd_d2 ct_d2), sl_d2⟩) (c_d2 : PySem.W.codeIn K cd_d2 "count_cuts" = true) (k_d2 : PySem.W.keepIn K (.ref f_d2) = true)
    (a_d3 : PySem.W.nsIn K mainGlobals "cut_row" = some (some (.ref f_d3))) (l_d3 : K.lookup f_d3 = some ⟨oc_d3, od_d3, .func (PySem.W.fnOf "cut_row" "cut_row" (defArgs sCutRow) (defBody sCutRow) (defScope sCutRow) .none kV_d3 dc_d3 pm_d3 an_d3 cd_d3 ct_d3), sl_d3⟩) (c_d3 : PySem.W.codeIn K cd_d3 "cut_row" = true) (k_d3 : PySem.W.keepIn K (.ref f_d3) = true)
    (a_d4 : PySem.W.nsIn K mainGlobals "count_from" = some (some (.ref f_d4))) (l_d4 : K.lookup f_d4 = some ⟨oc_d4, od_d4, .func (PySem.W.fnOf "count_from" "count_from" (defArgs sCountFrom) (defBody sCountFrom) (defScope sCountFrom) .none kV_d4 dc_d4 pm_d4 an_d4 cd_d4 ct_d4), sl_d4⟩) (c_d4 : PySem.W.codeIn K cd_d4 "count_from" = true) (k_d4 : PySem.W.keepIn K (.ref f_d4) = true)
    (a_d5 : PySem.W.nsIn K mainGlobals "count_ends" = some (some (.ref f_d5))) (l_d5 : K.lookup f_d5 = some ⟨oc_d5, od_d5, .func (PySem.W.fnOf "count_ends" "count_ends" (defArgs sCountEnds) (defBody sCountEnds) (defScope sCountEnds) .none kV_d5 dc_d5 pm_d5 an_d5 cd_d5 ct_d5), sl_d5⟩) (c_d5 : PySem.W.codeIn K cd_d5 "count_ends" = true) (k_d5 : PySem.W.keepIn K (.ref f_d5) = true)
    (a_d6 : PySem.W.nsIn K mainGlobals "rows_that_end" = some (some (.ref f_d6))) (l_d6 : K.lookup f_d6 = some ⟨oc_d6, od_d6, .func (PySem.W.fnOf "rows_that_end" "rows_that_end" (defArgs sRowsThat) (defBody sRowsThat) (defScope sRowsThat) .none kV_d6 dc_d6 pm_d6 an_d6 cd_d6 ct_d6), sl_d6⟩) (c_d6 : PySem.W.codeIn K cd_d6 "rows_that_end" = true) (k_d6 : PySem.W.keepIn K (.ref f_d6) = true)
    (a_d7 : PySem.W.nsIn K mainGlobals "links_from" = some (some (.ref f_d7))) (l_d7 : K.lookup f_d7 = some ⟨oc_d7, od_d7, .func (PySem.W.fnOf "links_from" "links_from" (defArgs sLinks) (defBody sLinks) (defScope sLinks) .none kV_d7 dc_d7 pm_d7 an_d7 cd_d7 ct_d7), sl_d7⟩) (c_d7 : PySem.W.codeIn K cd_d7 "links_from" = true) (k_d7 : PySem.W.keepIn K (.ref f_d7) = true)
    (a_d8 : PySem.W.nsIn K mainGlobals "may_end" = some (some (.ref f_d8))) (l_d8 : K.lookup f_d8 = some ⟨oc_d8, od_d8, .func (PySem.W.fnOf "may_end" "may_end" (defArgs sMayEnd) (defBody sMayEnd) (defScope sMayEnd) .none kV_d8 dc_d8 pm_d8 an_d8 cd_d8 ct_d8), sl_d8⟩) (c_d8 : PySem.W.codeIn K cd_d8 "may_end" = true) (k_d8 : PySem.W.keepIn K (.ref f_d8) = true)
    (a_d9 : PySem.W.nsIn K mainGlobals "rests_behind" = some (some (.ref f_d9))) (l_d9 : K.lookup f_d9 = some ⟨oc_d9, od_d9, .func (PySem.W.fnOf "rests_behind" "rests_behind" (defArgs sRests) (defBody sRests) (defScope sRests) .none kV_d9 dc_d9 pm_d9 an_d9 cd_d9 ct_d9), sl_d9⟩) (c_d9 : PySem.W.codeIn K cd_d9 "rests_behind" = true) (k_d9 : PySem.W.keepIn K (.ref f_d9) = true)
    (a_d10 : PySem.W.nsIn K mainGlobals "number_states" = some (some (.ref f_d10))) (l_d10 : K.lookup f_d10 = some ⟨oc_d10, od_d10, .func (PySem.W.fnOf "number_states" "number_states" (defArgs sNumber) (defBody sNumber) (defScope sNumber) .none kV_d10 dc_d10 pm_d10 an_d10 cd_d10 ct_d10), sl_d10⟩) (c_d10 : PySem.W.codeIn K cd_d10 "number_states" = true) (k_d10 : PySem.W.keepIn K (.ref f_d10) = true)
    (a_d11 : PySem.W.nsIn K mainGlobals "count_links" = some (some (.ref f_d11))) (l_d11 : K.lookup f_d11 = some ⟨oc_d11, od_d11, .func (PySem.W.fnOf "count_links" "count_links" (defArgs sCount) (defBody sCount) (defScope sCount) .none kV_d11 dc_d11 pm_d11 an_d11 cd_d11 ct_d11), sl_d11⟩) (c_d11 : PySem.W.codeIn K cd_d11 "count_links" = true) (k_d11 : PySem.W.keepIn K (.ref f_d11) = true)
    (a_d12 : PySem.W.nsIn K mainGlobals "write_row" = some (some (.ref f_d12))) (l_d12 : K.lookup f_d12 = some ⟨oc_d12, od_d12, .func (PySem.W.fnOf "write_row" "write_row" (defArgs sRow) (defBody sRow) (defScope sRow) .none kV_d12 dc_d12 pm_d12 an_d12 cd_d12 ct_d12), sl_d12⟩) (c_d12 : PySem.W.codeIn K cd_d12 "write_row" = true) (k_d12 : PySem.W.keepIn K (.ref f_d12) = true)
    (a_d13 : PySem.W.nsIn K mainGlobals "is_word" = some (some (.ref f_d13))) (l_d13 : K.lookup f_d13 = some ⟨oc_d13, od_d13, .func (PySem.W.fnOf "is_word" "is_word" (defArgs sIsWord) (defBody sIsWord) (defScope sIsWord) .none kV_d13 dc_d13 pm_d13 an_d13 cd_d13 ct_d13), sl_d13⟩) (c_d13 : PySem.W.codeIn K cd_d13 "is_word" = true) (k_d13 : PySem.W.keepIn K (.ref f_d13) = true)
    (a_d14 : PySem.W.nsIn K mainGlobals "count_earlier" = some (some (.ref f_d14))) (l_d14 : K.lookup f_d14 = some ⟨oc_d14, od_d14, .func (PySem.W.fnOf "count_earlier" "count_earlier" (defArgs sEarlier) (defBody sEarlier) (defScope sEarlier) .none kV_d14 dc_d14 pm_d14 an_d14 cd_d14 ct_d14), sl_d14⟩) (c_d14 : PySem.W.codeIn K cd_d14 "count_earlier" = true) (k_d14 : PySem.W.keepIn K (.ref f_d14) = true)
    (a_d15 : PySem.W.nsIn K mainGlobals "count_beginning" = some (some (.ref f_d15))) (l_d15 : K.lookup f_d15 = some ⟨oc_d15, od_d15, .func (PySem.W.fnOf "count_beginning" "count_beginning" (defArgs sBegin) (defBody sBegin) (defScope sBegin) .none kV_d15 dc_d15 pm_d15 an_d15 cd_d15 ct_d15), sl_d15⟩) (c_d15 : PySem.W.codeIn K cd_d15 "count_beginning" = true) (k_d15 : PySem.W.keepIn K (.ref f_d15) = true)
    (a_d16 : PySem.W.nsIn K mainGlobals "put_in" = some (some (.ref f_d16))) (l_d16 : K.lookup f_d16 = some ⟨oc_d16, od_d16, .func (PySem.W.fnOf "put_in" "put_in" (defArgs sPutIn) (defBody sPutIn) (defScope sPutIn) .none kV_d16 dc_d16 pm_d16 an_d16 cd_d16 ct_d16), sl_d16⟩) (c_d16 : PySem.W.codeIn K cd_d16 "put_in" = true) (k_d16 : PySem.W.keepIn K (.ref f_d16) = true)
    (a_d17 : PySem.W.nsIn K mainGlobals "take_out" = some (some (.ref f_d17))) (l_d17 : K.lookup f_d17 = some ⟨oc_d17, od_d17, .func (PySem.W.fnOf "take_out" "take_out" (defArgs sTakeOut) (defBody sTakeOut) (defScope sTakeOut) .none kV_d17 dc_d17 pm_d17 an_d17 cd_d17 ct_d17), sl_d17⟩) (c_d17 : PySem.W.codeIn K cd_d17 "take_out" = true) (k_d17 : PySem.W.keepIn K (.ref f_d17) = true)
    (a_d18 : PySem.W.nsIn K mainGlobals "tell_number" = some (some (.ref f_d18))) (l_d18 : K.lookup f_d18 = some ⟨oc_d18, od_d18, .func (PySem.W.fnOf "tell_number" "tell_number" (defArgs sTellNumber) (defBody sTellNumber) (defScope sTellNumber) .none kV_d18 dc_d18 pm_d18 an_d18 cd_d18 ct_d18), sl_d18⟩) (c_d18 : PySem.W.codeIn K cd_d18 "tell_number" = true) (k_d18 : PySem.W.keepIn K (.ref f_d18) = true)
    (a_d19 : PySem.W.nsIn K mainGlobals "tell_word" = some (some (.ref f_d19))) (l_d19 : K.lookup f_d19 = some ⟨oc_d19, od_d19, .func (PySem.W.fnOf "tell_word" "tell_word" (defArgs sTellWord) (defBody sTellWord) (defScope sTellWord) .none kV_d19 dc_d19 pm_d19 an_d19 cd_d19 ct_d19), sl_d19⟩) (c_d19 : PySem.W.codeIn K cd_d19 "tell_word" = true) (k_d19 : PySem.W.keepIn K (.ref f_d19) = true)
    (a_d20 : PySem.W.nsIn K mainGlobals "tell_begins" = some (some (.ref f_d20))) (l_d20 : K.lookup f_d20 = some ⟨oc_d20, od_d20, .func (PySem.W.fnOf "tell_begins" "tell_begins" (defArgs sTellBegins) (defBody sTellBegins) (defScope sTellBegins) .none kV_d20 dc_d20 pm_d20 an_d20 cd_d20 ct_d20), sl_d20⟩) (c_d20 : PySem.W.codeIn K cd_d20 "tell_begins" = true) (k_d20 : PySem.W.keepIn K (.ref f_d20) = true)
    (a_d21 : PySem.W.nsIn K mainGlobals "tell_size" = some (some (.ref f_d21))) (l_d21 : K.lookup f_d21 = some ⟨oc_d21, od_d21, .func (PySem.W.fnOf "tell_size" "tell_size" (defArgs sTellSize) (defBody sTellSize) (defScope sTellSize) .none kV_d21 dc_d21 pm_d21 an_d21 cd_d21 ct_d21), sl_d21⟩) (c_d21 : PySem.W.codeIn K cd_d21 "tell_size" = true) (k_d21 : PySem.W.keepIn K (.ref f_d21) = true)
    (a_d22 : PySem.W.nsIn K mainGlobals "tell_row" = some (some (.ref f_d22))) (l_d22 : K.lookup f_d22 = some ⟨oc_d22, od_d22, .func (PySem.W.fnOf "tell_row" "tell_row" (defArgs sTellRow) (defBody sTellRow) (defScope sTellRow) .none kV_d22 dc_d22 pm_d22 an_d22 cd_d22 ct_d22), sl_d22⟩) (c_d22 : PySem.W.codeIn K cd_d22 "tell_row" = true) (k_d22 : PySem.W.keepIn K (.ref f_d22) = true)
    (a_d23 : PySem.W.nsIn K mainGlobals "set_words" = some (some (.ref f_d23))) (l_d23 : K.lookup f_d23 = some ⟨oc_d23, od_d23, .func (PySem.W.fnOf "set_words" "set_words" (defArgs sSetWords) (defBody sSetWords) (defScope sSetWords) .none kV_d23 dc_d23 pm_d23 an_d23 cd_d23 ct_d23), sl_d23⟩) (c_d23 : PySem.W.codeIn K cd_d23 "set_words" = true) (k_d23 : PySem.W.keepIn K (.ref f_d23) = true)
    (a_d24 : PySem.W.nsIn K mainGlobals "read_row" = some (some (.ref f_d24))) (l_d24 : K.lookup f_d24 = some ⟨oc_d24, od_d24, .func (PySem.W.fnOf "read_row" "read_row" (defArgs sReadRow) (defBody sReadRow) (defScope sReadRow) .none kV_d24 dc_d24 pm_d24 an_d24 cd_d24 ct_d24), sl_d24⟩) (c_d24 : PySem.W.codeIn K cd_d24 "read_row" = true) (k_d24 : PySem.W.keepIn K (.ref f_d24) = true)
    (a_d25 : PySem.W.nsIn K mainGlobals "tell_state" = some (some (.ref f_d25))) (l_d25 : K.lookup f_d25 = some ⟨oc_d25, od_d25, .func (PySem.W.fnOf "tell_state" "tell_state" (defArgs sTellState) (defBody sTellState) (defScope sTellState) .none kV_d25 dc_d25 pm_d25 an_d25 cd_d25 ct_d25), sl_d25⟩) (c_d25 : PySem.W.codeIn K cd_d25 "tell_state" = true) (k_d25 : PySem.W.keepIn K (.ref f_d25) = true)
    (a_d26 : PySem.W.nsIn K mainGlobals "tell_after" = some (some (.ref f_d26))) (l_d26 : K.lookup f_d26 = some ⟨oc_d26, od_d26, .func (PySem.W.fnOf "tell_after" "tell_after" (defArgs sTellAfter) (defBody sTellAfter) (defScope sTellAfter) .none kV_d26 dc_d26 pm_d26 an_d26 cd_d26 ct_d26), sl_d26⟩) (c_d26 : PySem.W.codeIn K cd_d26 "tell_after" = true) (k_d26 : PySem.W.keepIn K (.ref f_d26) = true)
    (a_d27 : PySem.W.nsIn K mainGlobals "tell_fits" = some (some (.ref f_d27))) (l_d27 : K.lookup f_d27 = some ⟨oc_d27, od_d27, .func (PySem.W.fnOf "tell_fits" "tell_fits" (defArgs sTellFits) (defBody sTellFits) (defScope sTellFits) .none kV_d27 dc_d27 pm_d27 an_d27 cd_d27 ct_d27), sl_d27⟩) (c_d27 : PySem.W.codeIn K cd_d27 "tell_fits" = true) (k_d27 : PySem.W.keepIn K (.ref f_d27) = true)
    (a_d28 : PySem.W.nsIn K mainGlobals "tell_ways" = some (some (.ref f_d28))) (l_d28 : K.lookup f_d28 = some ⟨oc_d28, od_d28, .func (PySem.W.fnOf "tell_ways" "tell_ways" (defArgs sTellWays) (defBody sTellWays) (defScope sTellWays) .none kV_d28 dc_d28 pm_d28 an_d28 cd_d28 ct_d28), sl_d28⟩) (c_d28 : PySem.W.codeIn K cd_d28 "tell_ways" = true) (k_d28 : PySem.W.keepIn K (.ref f_d28) = true)
    (a_d29 : PySem.W.nsIn K mainGlobals "tell_head" = some (some (.ref f_d29))) (l_d29 : K.lookup f_d29 = some ⟨oc_d29, od_d29, .func (PySem.W.fnOf "tell_head" "tell_head" (defArgs sTellHead) (defBody sTellHead) (defScope sTellHead) .none kV_d29 dc_d29 pm_d29 an_d29 cd_d29 ct_d29), sl_d29⟩) (c_d29 : PySem.W.codeIn K cd_d29 "tell_head" = true) (k_d29 : PySem.W.keepIn K (.ref f_d29) = true)
    (a_d30 : PySem.W.nsIn K mainGlobals "join_in_way" = some (some (.ref f_d30))) (l_d30 : K.lookup f_d30 = some ⟨oc_d30, od_d30, .func (PySem.W.fnOf "join_in_way" "join_in_way" (defArgs sJoinWay) (defBody sJoinWay) (defScope sJoinWay) .none kV_d30 dc_d30 pm_d30 an_d30 cd_d30 ct_d30), sl_d30⟩) (c_d30 : PySem.W.codeIn K cd_d30 "join_in_way" = true) (k_d30 : PySem.W.keepIn K (.ref f_d30) = true)
    (a_d31 : PySem.W.nsIn K mainGlobals "has_dictionary" = some (some (.ref f_d31))) (l_d31 : K.lookup f_d31 = some ⟨oc_d31, od_d31, .func (PySem.W.fnOf "has_dictionary" "has_dictionary" (defArgs sHasD) (defBody sHasD) (defScope sHasD) .none kV_d31 dc_d31 pm_d31 an_d31 cd_d31 ct_d31), sl_d31⟩) (c_d31 : PySem.W.codeIn K cd_d31 "has_dictionary" = true) (k_d31 : PySem.W.keepIn K (.ref f_d31) = true)
    (a_d32 : PySem.W.nsIn K mainGlobals "join_two" = some (some (.ref f_d32))) (l_d32 : K.lookup f_d32 = some ⟨oc_d32, od_d32, .func (PySem.W.fnOf "join_two" "join_two" (defArgs sJoinTwo) (defBody sJoinTwo) (defScope sJoinTwo) .none kV_d32 dc_d32 pm_d32 an_d32 cd_d32 ct_d32), sl_d32⟩) (c_d32 : PySem.W.codeIn K cd_d32 "join_two" = true) (k_d32 : PySem.W.keepIn K (.ref f_d32) = true)
    (a_d33 : PySem.W.nsIn K mainGlobals "answer_one" = some (some (.ref f_d33))) (l_d33 : K.lookup f_d33 = some ⟨oc_d33, od_d33, .func (PySem.W.fnOf "answer_one" "answer_one" (defArgs sAnswerOne) (defBody sAnswerOne) (defScope sAnswerOne) .none kV_d33 dc_d33 pm_d33 an_d33 cd_d33 ct_d33), sl_d33⟩) (c_d33 : PySem.W.codeIn K cd_d33 "answer_one" = true) (k_d33 : PySem.W.keepIn K (.ref f_d33) = true)
    (a_m0 : PySem.W.findIn K (.ref C) "__init__" = some (some (.ref f_m0))) (i_m0 : PySem.W.isFn K (.ref f_m0) = true) (l_m0 : K.lookup f_m0 = some ⟨oc_m0, od_m0, .func (PySem.W.fnOf "__init__" "Reader.__init__" (defArgs sInit) (defBody sInit) (defScope sInit) .none kV_m0 dc_m0 pm_m0 an_m0 cd_m0 ct_m0), sl_m0⟩) (c_m0 : PySem.W.codeIn K cd_m0 "Reader.__init__" = true) (k_m0 : PySem.W.keepIn K (.ref f_m0) = true)
    (a_m1 : PySem.W.findIn K (.ref C) "has_more" = some (some (.ref f_m1))) (i_m1 : PySem.W.isFn K (.ref f_m1) = true) (l_m1 : K.lookup f_m1 = some ⟨oc_m1, od_m1, .func (PySem.W.fnOf "has_more" "Reader.has_more" (defArgs sMore) (defBody sMore) (defScope sMore) .none kV_m1 dc_m1 pm_m1 an_m1 cd_m1 ct_m1), sl_m1⟩) (c_m1 : PySem.W.codeIn K cd_m1 "Reader.has_more" = true) (k_m1 : PySem.W.keepIn K (.ref f_m1) = true)
    (a_m2 : PySem.W.findIn K (.ref C) "take_one" = some (some (.ref f_m2))) (i_m2 : PySem.W.isFn K (.ref f_m2) = true) (l_m2 : K.lookup f_m2 = some ⟨oc_m2, od_m2, .func (PySem.W.fnOf "take_one" "Reader.take_one" (defArgs sOne) (defBody sOne) (defScope sOne) .none kV_m2 dc_m2 pm_m2 an_m2 cd_m2 ct_m2), sl_m2⟩) (c_m2 : PySem.W.codeIn K cd_m2 "Reader.take_one" = true) (k_m2 : PySem.W.keepIn K (.ref f_m2) = true)
    (a_m3 : PySem.W.findIn K (.ref C) "take_many" = some (some (.ref f_m3))) (i_m3 : PySem.W.isFn K (.ref f_m3) = true) (l_m3 : K.lookup f_m3 = some ⟨oc_m3, od_m3, .func (PySem.W.fnOf "take_many" "Reader.take_many" (defArgs sMany) (defBody sMany) (defScope sMany) .none kV_m3 dc_m3 pm_m3 an_m3 cd_m3 ct_m3), sl_m3⟩) (c_m3 : PySem.W.codeIn K cd_m3 "Reader.take_many" = true) (k_m3 : PySem.W.keepIn K (.ref f_m3) = true)
    (a_z : PySem.W.nsIn K mainGlobals "answers" = some (some (.ref f_z))) (l_z : K.lookup f_z = some ⟨oc_z, od_z, .func (PySem.W.fnOf "answers" "answers" (defArgs sAnswers) (defBody sAnswers) (defScope sAnswers) .none kV_z dc_z pm_z an_z cd_z ct_z), sl_z⟩) (c_z : PySem.W.codeIn K cd_z "answers" = true) (k_z : PySem.W.keepIn K (.ref f_z) = true)
    (aC : PySem.W.nsIn K mainGlobals "Reader" = some (some (.ref C))) (pg : PySem.W.plainGet K C Str.empty = true) (hd : PySem.W.hasDictIn K C = true) (po : PySem.W.plainOver K C = true) (sa : PySem.W.findIn K (.ref C) "__setattr__" = some (some (.builtin "object.__setattr__"))) (mk : PySem.W.makesIn K C = true) (kc : PySem.W.keepIn K (.ref C) = true) (nC : PySem.W.findIn K (.ref C) "calls" = some none) (nP : PySem.W.findIn K (.ref C) "place" = some none)
    (b_len : PySem.W.nsIn K mainGlobals "len" = some none)
    (b_all : PySem.W.nsIn K mainGlobals "all" = some none)
    (b_sum : PySem.W.nsIn K mainGlobals "sum" = some none)
    (b_sorted : PySem.W.nsIn K mainGlobals "sorted" = some none)
    (b_reversed : PySem.W.nsIn K mainGlobals "reversed" = some none)
    (b_tuple : PySem.W.nsIn K mainGlobals "tuple" = some none)
    (b_list : PySem.W.nsIn K mainGlobals "list" = some none)
    (b_range : PySem.W.nsIn K mainGlobals "range" = some none)
    (b_set : PySem.W.nsIn K mainGlobals "set" = some none)
    (b_max : PySem.W.nsIn K mainGlobals "max" = some none)
    (v_0 : PySem.W.nsIn K mainGlobals "DICTIONARIES" = some (some (.int (4) t_0)))
    (v_1 : PySem.W.nsIn K mainGlobals "MOST_WORDS" = some (some (.int (60) t_1)))
    (v_2 : PySem.W.nsIn K mainGlobals "MOST_LETTERS" = some (some (.int (8) t_2)))
    (v_3 : PySem.W.nsIn K mainGlobals "LAST_LETTER" = some (some (.int (26) t_3)))
    (v_4 : PySem.W.nsIn K mainGlobals "NOT_AS_TOLD" = some (some (.int (-1) t_4)))
    (v_5 : PySem.W.nsIn K mainGlobals "NOT_THERE" = some (some (.int (-3) t_5)))
    (v_6 : PySem.W.nsIn K mainGlobals "THERE_ALREADY" = some (some (.int (-4) t_6)))
    (v_7 : PySem.W.nsIn K mainGlobals "TOO_MANY" = some (some (.int (-5) t_7)))
    (v_8 : PySem.W.nsIn K mainGlobals "ANY_LETTER" = some (some (.int (0) t_8)))
    (v_9 : PySem.W.nsIn K mainGlobals "ANY_LETTERS" = some (some (.int (27) t_9)))
    (v_10 : PySem.W.nsIn K mainGlobals "MOST_IN_PATTERN" = some (some (.int (10) t_10)))
    (v_11 : PySem.W.nsIn K mainGlobals "MOST_IN_ROW" = some (some (.int (2000) t_11)))
    (v_12 : PySem.W.nsIn K mainGlobals "MOST_TO_CUT" = some (some (.int (40) t_12)))
    (v_13 : PySem.W.nsIn K mainGlobals "NO_SUCH_ROW" = some (some (.int (-7) t_13)))
    (v_14 : PySem.W.nsIn K mainGlobals "IN_EITHER" = some (some (.int (0) t_14)))
    (v_15 : PySem.W.nsIn K mainGlobals "IN_BOTH" = some (some (.int (1) t_15)))
    (v_16 : PySem.W.nsIn K mainGlobals "IN_FIRST_ALONE" = some (some (.int (2) t_16)))
    (v_17 : PySem.W.nsIn K mainGlobals "IN_ONE_ALONE" = some (some (.int (3) t_17)))
    (v_18 : PySem.W.nsIn K mainGlobals "JOIN" = some (some (.int (10) t_18)))
    (a_C : PySem.W.nsIn K mainGlobals "CALLS" = some (some (.ref dC))) (l_C : K.lookup dC = some ⟨.type "dict", none, .dict #[⟨0, .int 0 tk_0, .ref T_0⟩, ⟨1, .int 1 tk_1, .ref T_1⟩, ⟨2, .int 2 tk_2, .ref T_2⟩, ⟨3, .int 3 tk_3, .ref T_3⟩, ⟨4, .int 4 tk_4, .ref T_4⟩, ⟨5, .int 5 tk_5, .ref T_5⟩, ⟨6, .int 6 tk_6, .ref T_6⟩, ⟨7, .int 7 tk_7, .ref T_7⟩, ⟨8, .int 8 tk_8, .ref T_8⟩, ⟨9, .int 9 tk_9, .ref T_9⟩, ⟨11, .int 11 tk_11, .ref T_11⟩, ⟨12, .int 12 tk_12, .ref T_12⟩, ⟨13, .int 13 tk_13, .ref T_13⟩] n_C, #[]⟩)
    (l_T0 : K.lookup T_0 = some ⟨.type "tuple", od_T0, .seq #[.ref f_d16, .int 0 tm_0, .bool true] n_0, sl_T0⟩)
    (l_T1 : K.lookup T_1 = some ⟨.type "tuple", od_T1, .seq #[.ref f_d17, .int 0 tm_1, .bool true] n_1, sl_T1⟩)
    (l_T2 : K.lookup T_2 = some ⟨.type "tuple", od_T2, .seq #[.ref f_d18, .int 0 tm_2, .bool true] n_2, sl_T2⟩)
    (l_T3 : K.lookup T_3 = some ⟨.type "tuple", od_T3, .seq #[.ref f_d19, .int 1 tm_3, .bool false] n_3, sl_T3⟩)
    (l_T4 : K.lookup T_4 = some ⟨.type "tuple", od_T4, .seq #[.ref f_d20, .int 0 tm_4, .bool true] n_4, sl_T4⟩)
    (l_T5 : K.lookup T_5 = some ⟨.type "tuple", od_T5, .seq #[.ref f_d21, .int 0 tm_5, .bool false] n_5, sl_T5⟩)
    (l_T6 : K.lookup T_6 = some ⟨.type "tuple", od_T6, .seq #[.ref f_d22, .int 0 tm_6, .bool false] n_6, sl_T6⟩)
    (l_T7 : K.lookup T_7 = some ⟨.type "tuple", od_T7, .seq #[.ref f_d24, .int 0 tm_7, .bool true] n_7, sl_T7⟩)
    (l_T8 : K.lookup T_8 = some ⟨.type "tuple", od_T8, .seq #[.ref f_d25, .int 0 tm_8, .bool true] n_8, sl_T8⟩)
    (l_T9 : K.lookup T_9 = some ⟨.type "tuple", od_T9, .seq #[.ref f_d26, .int 0 tm_9, .bool true] n_9, sl_T9⟩)
    (l_T11 : K.lookup T_11 = some ⟨.type "tuple", od_T11, .seq #[.ref f_d27, .int 2 tm_11, .bool true] n_11, sl_T11⟩)
    (l_T12 : K.lookup T_12 = some ⟨.type "tuple", od_T12, .seq #[.ref f_d28, .int 0 tm_12, .bool true] n_12, sl_T12⟩)
    (l_T13 : K.lookup T_13 = some ⟨.type "tuple", od_T13, .seq #[.ref f_d29, .int 0 tm_13, .bool true] n_13, sl_T13⟩) :
    ∃ fd : FuncData, (∀ (s : Shared) (us : List Value), us.length = (["calls"] : List Str).length → BindsTo s fd ⟨us, []⟩ ((["calls"] : List Str).zip us)) ∧ ∀ base : Heap, K.In base → base.Ns mainGlobals mg → FnOk P w K mg base CX0 6 fa fd ["calls"] (spAnswers K) := by
  have e := hfa.symm.trans (PySem.W.mg_of X G a_z)
  cases e
  have N : Names mg := ⟨PySem.W.mg_none_of X G b_len, PySem.W.mg_none_of X G b_all, PySem.W.mg_none_of X G b_sum, PySem.W.mg_none_of X G b_sorted, PySem.W.mg_none_of X G b_reversed, PySem.W.mg_none_of X G b_tuple, PySem.W.mg_none_of X G b_list, PySem.W.mg_none_of X G b_range, ⟨_, PySem.W.mg_of X G v_0⟩, ⟨_, PySem.W.mg_of X G v_1⟩, ⟨_, PySem.W.mg_of X G v_2⟩, ⟨_, PySem.W.mg_of X G v_3⟩, ⟨_, PySem.W.mg_of X G v_4⟩, ⟨_, PySem.W.mg_of X G v_5⟩, ⟨_, PySem.W.mg_of X G v_6⟩, ⟨_, PySem.W.mg_of X G v_7⟩⟩
  have N2 : Names2 mg := ⟨PySem.W.mg_none_of X G b_set, PySem.W.mg_none_of X G b_max, ⟨_, PySem.W.mg_of X G v_8⟩, ⟨_, PySem.W.mg_of X G v_9⟩, ⟨_, PySem.W.mg_of X G v_10⟩, ⟨_, PySem.W.mg_of X G v_11⟩, ⟨_, PySem.W.mg_of X G v_12⟩, ⟨_, PySem.W.mg_of X G v_13⟩, ⟨_, PySem.W.mg_of X G v_14⟩, ⟨_, PySem.W.mg_of X G v_15⟩, ⟨_, PySem.W.mg_of X G v_16⟩, ⟨_, PySem.W.mg_of X G v_17⟩, ⟨_, PySem.W.mg_of X G v_18⟩⟩
  have TR : RTxt K mg C := ⟨⟨pg, hd, po, sa⟩, nC, nP, PySem.W.mg_of X G aC⟩
  have F0 := fun_mk (st := sIsPat) l_d0 c_d0 k_d0
  have b0 := F0.binds (ps := ["row"]) fun _ _ _ _ _ _ us hl => match us, hl with | [_], _ => rfl
  have F1 := fun_mk (st := sIsOf) l_d1 c_d1 k_d1
  have b1 := F1.binds (ps := ["word", "pattern"]) fun _ _ _ _ _ _ us hl => match us, hl with | [_, _], _ => rfl
  have F2 := fun_mk (st := sCuts) l_d2 c_d2 k_d2
  have b2 := F2.binds (ps := ["words", "row"]) fun _ _ _ _ _ _ us hl => match us, hl with | [_, _], _ => rfl
  have F3 := fun_mk (st := sCutRow) l_d3 c_d3 k_d3
  have b3 := F3.binds (ps := ["row"]) fun _ _ _ _ _ _ us hl => match us, hl with | [_], _ => rfl
  have F4 := fun_mk (st := sCountFrom) l_d4 c_d4 k_d4
  have b4 := F4.binds (ps := ["state", "counts"]) fun _ _ _ _ _ _ us hl => match us, hl with | [_, _], _ => rfl
  have F5 := fun_mk (st := sCountEnds) l_d5 c_d5 k_d5
  have b5 := F5.binds (ps := ["states", "longest"]) fun _ _ _ _ _ _ us hl => match us, hl with | [_, _], _ => rfl
  have F6 := fun_mk (st := sRowsThat) l_d6 c_d6 k_d6
  have b6 := F6.binds (ps := ["states", "counts"]) fun _ _ _ _ _ _ us hl => match us, hl with | [_, _], _ => rfl
  have F7 := fun_mk (st := sLinks) l_d7 c_d7 k_d7
  have b7 := F7.binds (ps := ["rests"]) fun _ _ _ _ _ _ us hl => match us, hl with | [_], _ => rfl
  have F8 := fun_mk (st := sMayEnd) l_d8 c_d8 k_d8
  have b8 := F8.binds (ps := ["rests"]) fun _ _ _ _ _ _ us hl => match us, hl with | [_], _ => rfl
  have F9 := fun_mk (st := sRests) l_d9 c_d9 k_d9
  have b9 := F9.binds (ps := ["words", "row"]) fun _ _ _ _ _ _ us hl => match us, hl with | [_, _], _ => rfl
  have F10 := fun_mk (st := sNumber) l_d10 c_d10 k_d10
  have b10 := F10.binds (ps := ["words"]) fun _ _ _ _ _ _ us hl => match us, hl with | [_], _ => rfl
  have F11 := fun_mk (st := sCount) l_d11 c_d11 k_d11
  have b11 := F11.binds (ps := ["numbers"]) fun _ _ _ _ _ _ us hl => match us, hl with | [_], _ => rfl
  have F12 := fun_mk (st := sRow) l_d12 c_d12 k_d12
  have b12 := F12.binds (ps := ["words"]) fun _ _ _ _ _ _ us hl => match us, hl with | [_], _ => rfl
  have F13 := fun_mk (st := sIsWord) l_d13 c_d13 k_d13
  have b13 := F13.binds (ps := ["row"]) fun _ _ _ _ _ _ us hl => match us, hl with | [_], _ => rfl
  have F14 := fun_mk (st := sEarlier) l_d14 c_d14 k_d14
  have b14 := F14.binds (ps := ["words", "row"]) fun _ _ _ _ _ _ us hl => match us, hl with | [_, _], _ => rfl
  have F15 := fun_mk (st := sBegin) l_d15 c_d15 k_d15
  have b15 := F15.binds (ps := ["words", "row"]) fun _ _ _ _ _ _ us hl => match us, hl with | [_, _], _ => rfl
  have F16 := fun_mk (st := sPutIn) l_d16 c_d16 k_d16
  have b16 := F16.binds (ps := ["words", "given"]) fun _ _ _ _ _ _ us hl => match us, hl with | [_, _], _ => rfl
  have F17 := fun_mk (st := sTakeOut) l_d17 c_d17 k_d17
  have b17 := F17.binds (ps := ["words", "given"]) fun _ _ _ _ _ _ us hl => match us, hl with | [_, _], _ => rfl
  have F18 := fun_mk (st := sTellNumber) l_d18 c_d18 k_d18
  have b18 := F18.binds (ps := ["words", "given"]) fun _ _ _ _ _ _ us hl => match us, hl with | [_, _], _ => rfl
  have F19 := fun_mk (st := sTellWord) l_d19 c_d19 k_d19
  have b19 := F19.binds (ps := ["words", "given"]) fun _ _ _ _ _ _ us hl => match us, hl with | [_, _], _ => rfl
  have F20 := fun_mk (st := sTellBegins) l_d20 c_d20 k_d20
  have b20 := F20.binds (ps := ["words", "given"]) fun _ _ _ _ _ _ us hl => match us, hl with | [_, _], _ => rfl
  have F21 := fun_mk (st := sTellSize) l_d21 c_d21 k_d21
  have b21 := F21.binds (ps := ["words", "given"]) fun _ _ _ _ _ _ us hl => match us, hl with | [_, _], _ => rfl
  have F22 := fun_mk (st := sTellRow) l_d22 c_d22 k_d22
  have b22 := F22.binds (ps := ["words", "given"]) fun _ _ _ _ _ _ us hl => match us, hl with | [_, _], _ => rfl
  have F23 := fun_mk (st := sSetWords) l_d23 c_d23 k_d23
  have b23 := F23.binds (ps := ["words", "new"]) fun _ _ _ _ _ _ us hl => match us, hl with | [_, _], _ => rfl
  have F24 := fun_mk (st := sReadRow) l_d24 c_d24 k_d24
  have b24 := F24.binds (ps := ["words", "given"]) fun _ _ _ _ _ _ us hl => match us, hl with | [_, _], _ => rfl
  have F25 := fun_mk (st := sTellState) l_d25 c_d25 k_d25
  have b25 := F25.binds (ps := ["words", "given"]) fun _ _ _ _ _ _ us hl => match us, hl with | [_, _], _ => rfl
  have F26 := fun_mk (st := sTellAfter) l_d26 c_d26 k_d26
  have b26 := F26.binds (ps := ["words", "given"]) fun _ _ _ _ _ _ us hl => match us, hl with | [_, _], _ => rfl
  have F27 := fun_mk (st := sTellFits) l_d27 c_d27 k_d27
  have b27 := F27.binds (ps := ["words", "given"]) fun _ _ _ _ _ _ us hl => match us, hl with | [_, _], _ => rfl
  have F28 := fun_mk (st := sTellWays) l_d28 c_d28 k_d28
  have b28 := F28.binds (ps := ["words", "given"]) fun _ _ _ _ _ _ us hl => match us, hl with | [_, _], _ => rfl
  have F29 := fun_mk (st := sTellHead) l_d29 c_d29 k_d29
  have b29 := F29.binds (ps := ["words", "given"]) fun _ _ _ _ _ _ us hl => match us, hl with | [_, _], _ => rfl
  have F30 := fun_mk (st := sJoinWay) l_d30 c_d30 k_d30
  have b30 := F30.binds (ps := ["way", "one", "other"]) fun _ _ _ _ _ _ us hl => match us, hl with | [_, _, _], _ => rfl
  have F31 := fun_mk (st := sHasD) l_d31 c_d31 k_d31
  have b31 := F31.binds (ps := ["number"]) fun _ _ _ _ _ _ us hl => match us, hl with | [_], _ => rfl
  have F32 := fun_mk (st := sJoinTwo) l_d32 c_d32 k_d32
  have b32 := F32.binds (ps := ["dictionaries", "given"]) fun _ _ _ _ _ _ us hl => match us, hl with | [_, _], _ => rfl
  have F33 := fun_mk (st := sAnswerOne) l_d33 c_d33 k_d33
  have b33 := F33.binds (ps := ["dictionaries", "reader"]) fun _ _ _ _ _ _ us hl => match us, hl with | [_, _], _ => rfl
  have FM0 := fun_mk (st := sInit) l_m0 c_m0 k_m0
  have bM0 := FM0.binds (ps := ["self", "calls"]) fun _ _ _ _ _ _ us hl => match us, hl with | [_, _], _ => rfl
  have FM1 := fun_mk (st := sMore) l_m1 c_m1 k_m1
  have bM1 := FM1.binds (ps := ["self"]) fun _ _ _ _ _ _ us hl => match us, hl with | [_], _ => rfl
  have FM2 := fun_mk (st := sOne) l_m2 c_m2 k_m2
  have bM2 := FM2.binds (ps := ["self"]) fun _ _ _ _ _ _ us hl => match us, hl with | [_], _ => rfl
  have FM3 := fun_mk (st := sMany) l_m3 c_m3 k_m3
  have bM3 := FM3.binds (ps := ["self", "many"]) fun _ _ _ _ _ _ us hl => match us, hl with | [_, _], _ => rfl
  have FZ := fun_mk (st := sAnswers) l_z c_z k_z
  refine ⟨PySem.W.fnOf "answers" "answers" (defArgs sAnswers) (defBody sAnswers) (defScope sAnswers) .none kV_z dc_z pm_z an_z cd_z ct_z, fun s us hu => match us, hu with | [_], _ => .of_eq rfl, fun base _ _ => ?_⟩
  have G_is_pattern : FnOk P w K mg base CX0 1 f_d0 _ ["row"] spIsPat := ok_is_pattern F0 N N2
  have C_is_pattern : Callee P w K mg base "is_pattern" 1 ["row"] spIsPat := ⟨_, _, G_is_pattern, PySem.W.mg_of X G a_d0, k_d0, b0⟩
  have G_is_of_pattern : FnOk P w K mg base CX0 1 f_d1 _ ["word", "pattern"] spIsOf := ok_is_of F1 N N2
  have C_is_of_pattern : Callee P w K mg base "is_of_pattern" 1 ["word", "pattern"] spIsOf := ⟨_, _, G_is_of_pattern, PySem.W.mg_of X G a_d1, k_d1, b1⟩
  have G_count_cuts : FnOk P w K mg base CX0 1 f_d2 _ ["words", "row"] spCuts := ok_cuts F2 N
  have C_count_cuts : Callee P w K mg base "count_cuts" 1 ["words", "row"] spCuts := ⟨_, _, G_count_cuts, PySem.W.mg_of X G a_d2, k_d2, b2⟩
  have G_cut_row : FnOk P w K mg base CX0 1 f_d3 _ ["row"] spCutRow := ok_cut_row F3 N
  have C_cut_row : Callee P w K mg base "cut_row" 1 ["row"] spCutRow := ⟨_, _, G_cut_row, PySem.W.mg_of X G a_d3, k_d3, b3⟩
  have G_count_from : FnOk P w K mg base CX0 1 f_d4 _ ["state", "counts"] spCountFrom := ok_count_from F4 N
  have C_count_from : Callee P w K mg base "count_from" 1 ["state", "counts"] spCountFrom := ⟨_, _, G_count_from, PySem.W.mg_of X G a_d4, k_d4, b4⟩
  have G_count_ends : FnOk P w K mg base CX0 2 f_d5 _ ["states", "longest"] spCountEnds := ok_count_ends F5 N C_count_from
  have C_count_ends : Callee P w K mg base "count_ends" 2 ["states", "longest"] spCountEnds := ⟨_, _, G_count_ends, PySem.W.mg_of X G a_d5, k_d5, b5⟩
  have G_rows_that_end : FnOk P w K mg base CX0 1 f_d6 _ ["states", "counts"] spRowsThat := ok_rows_that F6 N
  have C_rows_that_end : Callee P w K mg base "rows_that_end" 1 ["states", "counts"] spRowsThat := ⟨_, _, G_rows_that_end, PySem.W.mg_of X G a_d6, k_d6, b6⟩
  have G_links_from : FnOk P w K mg base CX0 1 f_d7 _ ["rests"] spLinks := ok_links F7 N
  have C_links_from : Callee P w K mg base "links_from" 1 ["rests"] spLinks := ⟨_, _, G_links_from, PySem.W.mg_of X G a_d7, k_d7, b7⟩
  have G_may_end : FnOk P w K mg base CX0 1 f_d8 _ ["rests"] spMayEnd := ok_may_end F8
  have C_may_end : Callee P w K mg base "may_end" 1 ["rests"] spMayEnd := ⟨_, _, G_may_end, PySem.W.mg_of X G a_d8, k_d8, b8⟩
  have G_rests_behind : FnOk P w K mg base CX0 1 f_d9 _ ["words", "row"] spRests := ok_rests F9 N
  have C_rests_behind : Callee P w K mg base "rests_behind" 1 ["words", "row"] spRests := ⟨_, _, G_rests_behind, PySem.W.mg_of X G a_d9, k_d9, b9⟩
  have G_number_states : FnOk P w K mg base CX0 2 f_d10 _ ["words"] (spNumber P w) := ok_number F10 N C_links_from
  have C_number_states : Callee P w K mg base "number_states" 2 ["words"] (spNumber P w) := ⟨_, _, G_number_states, PySem.W.mg_of X G a_d10, k_d10, b10⟩
  have G_count_links : FnOk P w K mg base CX0 2 f_d11 _ ["numbers"] (spCount P w) := ok_count F11 N C_links_from
  have C_count_links : Callee P w K mg base "count_links" 2 ["numbers"] (spCount P w) := ⟨_, _, G_count_links, PySem.W.mg_of X G a_d11, k_d11, b11⟩
  have G_write_row : FnOk P w K mg base CX0 3 f_d12 _ ["words"] spRow := ok_row F12 N C_number_states C_links_from C_may_end
  have C_write_row : Callee P w K mg base "write_row" 3 ["words"] spRow := ⟨_, _, G_write_row, PySem.W.mg_of X G a_d12, k_d12, b12⟩
  have G_is_word : FnOk P w K mg base CX0 1 f_d13 _ ["row"] spIsWord := ok_is_word F13 N
  have C_is_word : Callee P w K mg base "is_word" 1 ["row"] spIsWord := ⟨_, _, G_is_word, PySem.W.mg_of X G a_d13, k_d13, b13⟩
  have G_count_earlier : FnOk P w K mg base CX0 1 f_d14 _ ["words", "row"] spEarlier := ok_earlier F14 N
  have C_count_earlier : Callee P w K mg base "count_earlier" 1 ["words", "row"] spEarlier := ⟨_, _, G_count_earlier, PySem.W.mg_of X G a_d14, k_d14, b14⟩
  have G_count_beginning : FnOk P w K mg base CX0 1 f_d15 _ ["words", "row"] spBegin := ok_begin F15 N
  have C_count_beginning : Callee P w K mg base "count_beginning" 1 ["words", "row"] spBegin := ⟨_, _, G_count_beginning, PySem.W.mg_of X G a_d15, k_d15, b15⟩
  have G_put_in : FnOk P w K mg base CX0 2 f_d16 _ ["words", "given"] (spH P60 hAdd) := ok_put_in F16 N C_is_word C_count_earlier
  have C_put_in : Callee P w K mg base "put_in" 2 ["words", "given"] (spH P60 hAdd) := ⟨_, _, G_put_in, PySem.W.mg_of X G a_d16, k_d16, b16⟩
  have G_take_out : FnOk P w K mg base CX0 1 f_d17 _ ["words", "given"] (spH P60 hOut) := ok_take_out F17 N
  have C_take_out : Callee P w K mg base "take_out" 1 ["words", "given"] (spH P60 hOut) := ⟨_, _, G_take_out, PySem.W.mg_of X G a_d17, k_d17, b17⟩
  have G_tell_number : FnOk P w K mg base CX0 1 f_d18 _ ["words", "given"] (spH P60 hNumber) := ok_tell_number F18 N
  have C_tell_number : Callee P w K mg base "tell_number" 1 ["words", "given"] (spH P60 hNumber) := ⟨_, _, G_tell_number, PySem.W.mg_of X G a_d18, k_d18, b18⟩
  have G_tell_word : FnOk P w K mg base CX0 1 f_d19 _ ["words", "given"] (spH P1 hWord) := ok_tell_word F19 N
  have C_tell_word : Callee P w K mg base "tell_word" 1 ["words", "given"] (spH P1 hWord) := ⟨_, _, G_tell_word, PySem.W.mg_of X G a_d19, k_d19, b19⟩
  have G_tell_begins : FnOk P w K mg base CX0 2 f_d20 _ ["words", "given"] (spH P60 hBegins) := ok_tell_begins F20 N C_count_beginning C_count_earlier
  have C_tell_begins : Callee P w K mg base "tell_begins" 2 ["words", "given"] (spH P60 hBegins) := ⟨_, _, G_tell_begins, PySem.W.mg_of X G a_d20, k_d20, b20⟩
  have G_tell_size : FnOk P w K mg base CX0 3 f_d21 _ ["words", "given"] (spH (fun _ => True) hSize) := ok_tell_size F21 N C_number_states C_count_links
  have C_tell_size : Callee P w K mg base "tell_size" 3 ["words", "given"] (spH (fun _ => True) hSize) := ⟨_, _, G_tell_size, PySem.W.mg_of X G a_d21, k_d21, b21⟩
  have G_tell_row : FnOk P w K mg base CX0 4 f_d22 _ ["words", "given"] (spH (fun _ => True) hPack) := ok_tell_row F22 N C_write_row
  have C_tell_row : Callee P w K mg base "tell_row" 4 ["words", "given"] (spH (fun _ => True) hPack) := ⟨_, _, G_tell_row, PySem.W.mg_of X G a_d22, k_d22, b22⟩
  have G_set_words : FnOk P w K mg base CX0 1 f_d23 _ ["words", "new"] spSetWords := ok_set_words F23 N
  have C_set_words : Callee P w K mg base "set_words" 1 ["words", "new"] spSetWords := ⟨_, _, G_set_words, PySem.W.mg_of X G a_d23, k_d23, b23⟩
  have G_read_row : FnOk P w K mg base CX0 4 f_d24 _ ["words", "given"] (spH PRow hUnpack) := ok_read_row F24 N N2 C_cut_row C_count_ends C_rows_that_end C_is_word C_write_row C_set_words
  have C_read_row : Callee P w K mg base "read_row" 4 ["words", "given"] (spH PRow hUnpack) := ⟨_, _, G_read_row, PySem.W.mg_of X G a_d24, k_d24, b24⟩
  have G_tell_state : FnOk P w K mg base CX0 3 f_d25 _ ["words", "given"] (spH P60 hState) := ok_tell_state F25 N C_rests_behind C_number_states
  have C_tell_state : Callee P w K mg base "tell_state" 3 ["words", "given"] (spH P60 hState) := ⟨_, _, G_tell_state, PySem.W.mg_of X G a_d25, k_d25, b25⟩
  have G_tell_after : FnOk P w K mg base CX0 2 f_d26 _ ["words", "given"] (spH P60 hAfter) := ok_tell_after F26 N C_rests_behind C_links_from C_may_end
  have C_tell_after : Callee P w K mg base "tell_after" 2 ["words", "given"] (spH P60 hAfter) := ⟨_, _, G_tell_after, PySem.W.mg_of X G a_d26, k_d26, b26⟩
  have G_tell_fits : FnOk P w K mg base CX0 2 f_d27 _ ["words", "given"] (spH PFits hFits) := ok_tell_fits F27 N C_is_pattern C_is_of_pattern
  have C_tell_fits : Callee P w K mg base "tell_fits" 2 ["words", "given"] (spH PFits hFits) := ⟨_, _, G_tell_fits, PySem.W.mg_of X G a_d27, k_d27, b27⟩
  have G_tell_ways : FnOk P w K mg base CX0 2 f_d28 _ ["words", "given"] (spH P60 hWays) := ok_tell_ways F28 N N2 C_count_cuts
  have C_tell_ways : Callee P w K mg base "tell_ways" 2 ["words", "given"] (spH P60 hWays) := ⟨_, _, G_tell_ways, PySem.W.mg_of X G a_d28, k_d28, b28⟩
  have G_tell_head : FnOk P w K mg base CX0 1 f_d29 _ ["words", "given"] (spH P60 hHead) := ok_tell_head F29 N N2
  have C_tell_head : Callee P w K mg base "tell_head" 1 ["words", "given"] (spH P60 hHead) := ⟨_, _, G_tell_head, PySem.W.mg_of X G a_d29, k_d29, b29⟩
  have G_join_in_way : FnOk P w K mg base CX0 1 f_d30 _ ["way", "one", "other"] spJoinWay := ok_join_way F30 N N2
  have C_join_in_way : Callee P w K mg base "join_in_way" 1 ["way", "one", "other"] spJoinWay := ⟨_, _, G_join_in_way, PySem.W.mg_of X G a_d30, k_d30, b30⟩
  have G_has_dictionary : FnOk P w K mg base CX0 1 f_d31 _ ["number"] spHasD := ok_has_d F31 N
  have C_has_dictionary : Callee P w K mg base "has_dictionary" 1 ["number"] spHasD := ⟨_, _, G_has_dictionary, PySem.W.mg_of X G a_d31, k_d31, b31⟩
  have G_join_two : FnOk P w K mg base CX0 2 f_d32 _ ["dictionaries", "given"] spJoin := ok_join_two F32 N N2 C_has_dictionary C_join_in_way C_set_words
  have C_join_two : Callee P w K mg base "join_two" 2 ["dictionaries", "given"] spJoin := ⟨_, _, G_join_two, PySem.W.mg_of X G a_d32, k_d32, b32⟩
  have KI : KInts K dC #[⟨0, .int 0 tk_0, .ref T_0⟩, ⟨1, .int 1 tk_1, .ref T_1⟩, ⟨2, .int 2 tk_2, .ref T_2⟩, ⟨3, .int 3 tk_3, .ref T_3⟩, ⟨4, .int 4 tk_4, .ref T_4⟩, ⟨5, .int 5 tk_5, .ref T_5⟩, ⟨6, .int 6 tk_6, .ref T_6⟩, ⟨7, .int 7 tk_7, .ref T_7⟩, ⟨8, .int 8 tk_8, .ref T_8⟩, ⟨9, .int 9 tk_9, .ref T_9⟩, ⟨11, .int 11 tk_11, .ref T_11⟩, ⟨12, .int 12 tk_12, .ref T_12⟩, ⟨13, .int 13 tk_13, .ref T_13⟩] n_C := ⟨l_C, fun e he => by
    simp only [List.mem_cons, List.not_mem_nil, or_false] at he
    rcases he with rfl | rfl | rfl | rfl | rfl | rfl | rfl | rfl | rfl | rfl | rfl | rfl | rfl <;> exact ⟨_, _, rfl, by dsimp only; decide⟩⟩
  have E_0 : Entry K #[⟨0, .int 0 tk_0, .ref T_0⟩, ⟨1, .int 1 tk_1, .ref T_1⟩, ⟨2, .int 2 tk_2, .ref T_2⟩, ⟨3, .int 3 tk_3, .ref T_3⟩, ⟨4, .int 4 tk_4, .ref T_4⟩, ⟨5, .int 5 tk_5, .ref T_5⟩, ⟨6, .int 6 tk_6, .ref T_6⟩, ⟨7, .int 7 tk_7, .ref T_7⟩, ⟨8, .int 8 tk_8, .ref T_8⟩, ⟨9, .int 9 tk_9, .ref T_9⟩, ⟨11, .int 11 tk_11, .ref T_11⟩, ⟨12, .int 12 tk_12, .ref T_12⟩, ⟨13, .int 13 tk_13, .ref T_13⟩] 0 f_d16 0 true := entry_mk l_T0 rfl (by unfold findBy; rw [← Array.find?_toList]; rfl)
  have E_1 : Entry K #[⟨0, .int 0 tk_0, .ref T_0⟩, ⟨1, .int 1 tk_1, .ref T_1⟩, ⟨2, .int 2 tk_2, .ref T_2⟩, ⟨3, .int 3 tk_3, .ref T_3⟩, ⟨4, .int 4 tk_4, .ref T_4⟩, ⟨5, .int 5 tk_5, .ref T_5⟩, ⟨6, .int 6 tk_6, .ref T_6⟩, ⟨7, .int 7 tk_7, .ref T_7⟩, ⟨8, .int 8 tk_8, .ref T_8⟩, ⟨9, .int 9 tk_9, .ref T_9⟩, ⟨11, .int 11 tk_11, .ref T_11⟩, ⟨12, .int 12 tk_12, .ref T_12⟩, ⟨13, .int 13 tk_13, .ref T_13⟩] 1 f_d17 0 true := entry_mk l_T1 rfl (by unfold findBy; rw [← Array.find?_toList]; rfl)
  have E_2 : Entry K #[⟨0, .int 0 tk_0, .ref T_0⟩, ⟨1, .int 1 tk_1, .ref T_1⟩, ⟨2, .int 2 tk_2, .ref T_2⟩, ⟨3, .int 3 tk_3, .ref T_3⟩, ⟨4, .int 4 tk_4, .ref T_4⟩, ⟨5, .int 5 tk_5, .ref T_5⟩, ⟨6, .int 6 tk_6, .ref T_6⟩, ⟨7, .int 7 tk_7, .ref T_7⟩, ⟨8, .int 8 tk_8, .ref T_8⟩, ⟨9, .int 9 tk_9, .ref T_9⟩, ⟨11, .int 11 tk_11, .ref T_11⟩, ⟨12, .int 12 tk_12, .ref T_12⟩, ⟨13, .int 13 tk_13, .ref T_13⟩] 2 f_d18 0 true := entry_mk l_T2 rfl (by unfold findBy; rw [← Array.find?_toList]; rfl)
  have E_3 : Entry K #[⟨0, .int 0 tk_0, .ref T_0⟩, ⟨1, .int 1 tk_1, .ref T_1⟩, ⟨2, .int 2 tk_2, .ref T_2⟩, ⟨3, .int 3 tk_3, .ref T_3⟩, ⟨4, .int 4 tk_4, .ref T_4⟩, ⟨5, .int 5 tk_5, .ref T_5⟩, ⟨6, .int 6 tk_6, .ref T_6⟩, ⟨7, .int 7 tk_7, .ref T_7⟩, ⟨8, .int 8 tk_8, .ref T_8⟩, ⟨9, .int 9 tk_9, .ref T_9⟩, ⟨11, .int 11 tk_11, .ref T_11⟩, ⟨12, .int 12 tk_12, .ref T_12⟩, ⟨13, .int 13 tk_13, .ref T_13⟩] 3 f_d19 1 false := entry_mk l_T3 rfl (by unfold findBy; rw [← Array.find?_toList]; rfl)
  have E_4 : Entry K #[⟨0, .int 0 tk_0, .ref T_0⟩, ⟨1, .int 1 tk_1, .ref T_1⟩, ⟨2, .int 2 tk_2, .ref T_2⟩, ⟨3, .int 3 tk_3, .ref T_3⟩, ⟨4, .int 4 tk_4, .ref T_4⟩, ⟨5, .int 5 tk_5, .ref T_5⟩, ⟨6, .int 6 tk_6, .ref T_6⟩, ⟨7, .int 7 tk_7, .ref T_7⟩, ⟨8, .int 8 tk_8, .ref T_8⟩, ⟨9, .int 9 tk_9, .ref T_9⟩, ⟨11, .int 11 tk_11, .ref T_11⟩, ⟨12, .int 12 tk_12, .ref T_12⟩, ⟨13, .int 13 tk_13, .ref T_13⟩] 4 f_d20 0 true := entry_mk l_T4 rfl (by unfold findBy; rw [← Array.find?_toList]; rfl)
  have E_5 : Entry K #[⟨0, .int 0 tk_0, .ref T_0⟩, ⟨1, .int 1 tk_1, .ref T_1⟩, ⟨2, .int 2 tk_2, .ref T_2⟩, ⟨3, .int 3 tk_3, .ref T_3⟩, ⟨4, .int 4 tk_4, .ref T_4⟩, ⟨5, .int 5 tk_5, .ref T_5⟩, ⟨6, .int 6 tk_6, .ref T_6⟩, ⟨7, .int 7 tk_7, .ref T_7⟩, ⟨8, .int 8 tk_8, .ref T_8⟩, ⟨9, .int 9 tk_9, .ref T_9⟩, ⟨11, .int 11 tk_11, .ref T_11⟩, ⟨12, .int 12 tk_12, .ref T_12⟩, ⟨13, .int 13 tk_13, .ref T_13⟩] 5 f_d21 0 false := entry_mk l_T5 rfl (by unfold findBy; rw [← Array.find?_toList]; rfl)
  have E_6 : Entry K #[⟨0, .int 0 tk_0, .ref T_0⟩, ⟨1, .int 1 tk_1, .ref T_1⟩, ⟨2, .int 2 tk_2, .ref T_2⟩, ⟨3, .int 3 tk_3, .ref T_3⟩, ⟨4, .int 4 tk_4, .ref T_4⟩, ⟨5, .int 5 tk_5, .ref T_5⟩, ⟨6, .int 6 tk_6, .ref T_6⟩, ⟨7, .int 7 tk_7, .ref T_7⟩, ⟨8, .int 8 tk_8, .ref T_8⟩, ⟨9, .int 9 tk_9, .ref T_9⟩, ⟨11, .int 11 tk_11, .ref T_11⟩, ⟨12, .int 12 tk_12, .ref T_12⟩, ⟨13, .int 13 tk_13, .ref T_13⟩] 6 f_d22 0 false := entry_mk l_T6 rfl (by unfold findBy; rw [← Array.find?_toList]; rfl)
  have E_7 : Entry K #[⟨0, .int 0 tk_0, .ref T_0⟩, ⟨1, .int 1 tk_1, .ref T_1⟩, ⟨2, .int 2 tk_2, .ref T_2⟩, ⟨3, .int 3 tk_3, .ref T_3⟩, ⟨4, .int 4 tk_4, .ref T_4⟩, ⟨5, .int 5 tk_5, .ref T_5⟩, ⟨6, .int 6 tk_6, .ref T_6⟩, ⟨7, .int 7 tk_7, .ref T_7⟩, ⟨8, .int 8 tk_8, .ref T_8⟩, ⟨9, .int 9 tk_9, .ref T_9⟩, ⟨11, .int 11 tk_11, .ref T_11⟩, ⟨12, .int 12 tk_12, .ref T_12⟩, ⟨13, .int 13 tk_13, .ref T_13⟩] 7 f_d24 0 true := entry_mk l_T7 rfl (by unfold findBy; rw [← Array.find?_toList]; rfl)
  have E_8 : Entry K #[⟨0, .int 0 tk_0, .ref T_0⟩, ⟨1, .int 1 tk_1, .ref T_1⟩, ⟨2, .int 2 tk_2, .ref T_2⟩, ⟨3, .int 3 tk_3, .ref T_3⟩, ⟨4, .int 4 tk_4, .ref T_4⟩, ⟨5, .int 5 tk_5, .ref T_5⟩, ⟨6, .int 6 tk_6, .ref T_6⟩, ⟨7, .int 7 tk_7, .ref T_7⟩, ⟨8, .int 8 tk_8, .ref T_8⟩, ⟨9, .int 9 tk_9, .ref T_9⟩, ⟨11, .int 11 tk_11, .ref T_11⟩, ⟨12, .int 12 tk_12, .ref T_12⟩, ⟨13, .int 13 tk_13, .ref T_13⟩] 8 f_d25 0 true := entry_mk l_T8 rfl (by unfold findBy; rw [← Array.find?_toList]; rfl)
  have E_9 : Entry K #[⟨0, .int 0 tk_0, .ref T_0⟩, ⟨1, .int 1 tk_1, .ref T_1⟩, ⟨2, .int 2 tk_2, .ref T_2⟩, ⟨3, .int 3 tk_3, .ref T_3⟩, ⟨4, .int 4 tk_4, .ref T_4⟩, ⟨5, .int 5 tk_5, .ref T_5⟩, ⟨6, .int 6 tk_6, .ref T_6⟩, ⟨7, .int 7 tk_7, .ref T_7⟩, ⟨8, .int 8 tk_8, .ref T_8⟩, ⟨9, .int 9 tk_9, .ref T_9⟩, ⟨11, .int 11 tk_11, .ref T_11⟩, ⟨12, .int 12 tk_12, .ref T_12⟩, ⟨13, .int 13 tk_13, .ref T_13⟩] 9 f_d26 0 true := entry_mk l_T9 rfl (by unfold findBy; rw [← Array.find?_toList]; rfl)
  have E_11 : Entry K #[⟨0, .int 0 tk_0, .ref T_0⟩, ⟨1, .int 1 tk_1, .ref T_1⟩, ⟨2, .int 2 tk_2, .ref T_2⟩, ⟨3, .int 3 tk_3, .ref T_3⟩, ⟨4, .int 4 tk_4, .ref T_4⟩, ⟨5, .int 5 tk_5, .ref T_5⟩, ⟨6, .int 6 tk_6, .ref T_6⟩, ⟨7, .int 7 tk_7, .ref T_7⟩, ⟨8, .int 8 tk_8, .ref T_8⟩, ⟨9, .int 9 tk_9, .ref T_9⟩, ⟨11, .int 11 tk_11, .ref T_11⟩, ⟨12, .int 12 tk_12, .ref T_12⟩, ⟨13, .int 13 tk_13, .ref T_13⟩] 11 f_d27 2 true := entry_mk l_T11 rfl (by unfold findBy; rw [← Array.find?_toList]; rfl)
  have E_12 : Entry K #[⟨0, .int 0 tk_0, .ref T_0⟩, ⟨1, .int 1 tk_1, .ref T_1⟩, ⟨2, .int 2 tk_2, .ref T_2⟩, ⟨3, .int 3 tk_3, .ref T_3⟩, ⟨4, .int 4 tk_4, .ref T_4⟩, ⟨5, .int 5 tk_5, .ref T_5⟩, ⟨6, .int 6 tk_6, .ref T_6⟩, ⟨7, .int 7 tk_7, .ref T_7⟩, ⟨8, .int 8 tk_8, .ref T_8⟩, ⟨9, .int 9 tk_9, .ref T_9⟩, ⟨11, .int 11 tk_11, .ref T_11⟩, ⟨12, .int 12 tk_12, .ref T_12⟩, ⟨13, .int 13 tk_13, .ref T_13⟩] 12 f_d28 0 true := entry_mk l_T12 rfl (by unfold findBy; rw [← Array.find?_toList]; rfl)
  have E_13 : Entry K #[⟨0, .int 0 tk_0, .ref T_0⟩, ⟨1, .int 1 tk_1, .ref T_1⟩, ⟨2, .int 2 tk_2, .ref T_2⟩, ⟨3, .int 3 tk_3, .ref T_3⟩, ⟨4, .int 4 tk_4, .ref T_4⟩, ⟨5, .int 5 tk_5, .ref T_5⟩, ⟨6, .int 6 tk_6, .ref T_6⟩, ⟨7, .int 7 tk_7, .ref T_7⟩, ⟨8, .int 8 tk_8, .ref T_8⟩, ⟨9, .int 9 tk_9, .ref T_9⟩, ⟨11, .int 11 tk_11, .ref T_11⟩, ⟨12, .int 12 tk_12, .ref T_12⟩, ⟨13, .int 13 tk_13, .ref T_13⟩] 13 f_d29 0 true := entry_mk l_T13 rfl (by unfold findBy; rw [← Array.find?_toList]; rfl)
  have TB : Table P w K mg base dC := ⟨PySem.W.mg_of X G a_C, _, _, f_d16, f_d17, f_d18, f_d19, f_d20, f_d21, f_d22, f_d24, f_d25, f_d26, f_d27, f_d28, f_d29, KI, E_0, E_1, E_2, E_3, E_4, E_5, E_6, E_7, E_8, E_9, E_11, E_12, E_13, ⟨2, _, by decide, G_put_in, k_d16, b16⟩, ⟨1, _, by decide, G_take_out, k_d17, b17⟩, ⟨1, _, by decide, G_tell_number, k_d18, b18⟩, ⟨1, _, by decide, G_tell_word, k_d19, b19⟩, ⟨2, _, by decide, G_tell_begins, k_d20, b20⟩, ⟨3, _, by decide, G_tell_size, k_d21, b21⟩, ⟨4, _, by decide, G_tell_row, k_d22, b22⟩, ⟨4, _, by decide, G_read_row, k_d24, b24⟩, ⟨3, _, by decide, G_tell_state, k_d25, b25⟩, ⟨2, _, by decide, G_tell_after, k_d26, b26⟩, ⟨2, _, by decide, G_tell_fits, k_d27, b27⟩, ⟨2, _, by decide, G_tell_ways, k_d28, b28⟩, ⟨1, _, by decide, G_tell_head, k_d29, b29⟩⟩
  have G_answer_one : FnOk P w K mg base CX0 5 f_d33 _ ["dictionaries", "reader"] (spCall K C) := ok_answer_one F33 N N2 TR ⟨a_m2, i_m2, k_m2⟩ (ok_rone FM2 TR) bM2 ⟨a_m3, i_m3, k_m3⟩ (ok_rmany FM3 TR) bM3 C_has_dictionary C_join_two TB
  have C_answer_one : Callee P w K mg base "answer_one" 5 ["dictionaries", "reader"] (spCall K C) := ⟨_, _, G_answer_one, PySem.W.mg_of X G a_d33, k_d33, b33⟩
  exact ok_answers (k := 3) FZ TR N ⟨mk, a_m0, i_m0, kc⟩ (ok_rinit FM0 TR) bM0 ⟨a_m1, i_m1, k_m1⟩ (ok_rmore FM1 TR N) bM1 C_answer_one
end Ls
open PySem PySem.W PyProof.Rows
set_option maxRecDepth 100000 in
set_option maxHeartbeats 0 in
theorem PySem.Challenge.cw_leaststates_s01_answers_holds : PySem.Challenge.rw_leaststates_s01_answers.Holds := by
  w_on; k_headS; (case hw => exact ⟨[.list [.int 5, .int 1]], by decide +kernel, by decide +kernel⟩)
  k_fillS
  refine L2.walk_specK (r := PySem.Challenge.rw_leaststates_s01_answers) (k := 6) (CX := L2.CX0) (ps := ["calls"]) (sp := Ls.spAnswers) (by decide +kernel) rfl rfl ⟨rfl, by decide, by decide⟩ (fun w h Y => PySem.W.kIn_of Y) ?F ?S (fun _ _ _ _ z => z)
  case F =>
    intro w mg fa h Y KX G hmg
    refine' Ls.all_mk KX G hmg ?a_d0 ?l_d0 ?c_d0 ?k_d0 ?a_d1 ?l_d1 ?c_d1 ?k_d1 ?a_d2 ?l_d2 ?c_d2 ?k_d2 ?a_d3 ?l_d3 ?c_d3 ?k_d3 ?a_d4 ?l_d4 ?c_d4 ?k_d4 ?a_d5 ?l_d5 ?c_d5 ?k_d5 ?a_d6 ?l_d6 ?c_d6 ?k_d6 ?a_d7 ?l_d7 ?c_d7 ?k_d7 ?a_d8 ?l_d8 ?c_d8 ?k_d8 ?a_d9 ?l_d9 ?c_d9 ?k_d9 ?a_d10 ?l_d10 ?c_d10 ?k_d10 ?a_d11 ?l_d11 ?c_d11 ?k_d11 ?a_d12 ?l_d12 ?c_d12 ?k_d12 ?a_d13 ?l_d13 ?c_d13 ?k_d13 ?a_d14 ?l_d14 ?c_d14 ?k_d14 ?a_d15 ?l_d15 ?c_d15 ?k_d15 ?a_d16 ?l_d16 ?c_d16 ?k_d16 ?a_d17 ?l_d17 ?c_d17 ?k_d17 ?a_d18 ?l_d18 ?c_d18 ?k_d18 ?a_d19 ?l_d19 ?c_d19 ?k_d19 ?a_d20 ?l_d20 ?c_d20 ?k_d20 ?a_d21 ?l_d21 ?c_d21 ?k_d21 ?a_d22 ?l_d22 ?c_d22 ?k_d22 ?a_d23 ?l_d23 ?c_d23 ?k_d23 ?a_d24 ?l_d24 ?c_d24 ?k_d24 ?a_d25 ?l_d25 ?c_d25 ?k_d25 ?a_d26 ?l_d26 ?c_d26 ?k_d26 ?a_d27 ?l_d27 ?c_d27 ?k_d27 ?a_d28 ?l_d28 ?c_d28 ?k_d28 ?a_d29 ?l_d29 ?c_d29 ?k_d29 ?a_d30 ?l_d30 ?c_d30 ?k_d30 ?a_d31 ?l_d31 ?c_d31 ?k_d31 ?a_d32 ?l_d32 ?c_d32 ?k_d32 ?a_d33 ?l_d33 ?c_d33 ?k_d33 ?a_m0 ?i_m0 ?l_m0 ?c_m0 ?k_m0 ?a_m1 ?i_m1 ?l_m1 ?c_m1 ?k_m1 ?a_m2 ?i_m2 ?l_m2 ?c_m2 ?k_m2 ?a_m3 ?i_m3 ?l_m3 ?c_m3 ?k_m3 ?a_z ?l_z ?c_z ?k_z ?aC ?pg ?hd ?po ?sa ?mk ?kc ?nC ?nP ?b_len ?b_all ?b_sum ?b_sorted ?b_reversed ?b_tuple ?b_list ?b_range ?b_set ?b_max ?v_0 ?v_1 ?v_2 ?v_3 ?v_4 ?v_5 ?v_6 ?v_7 ?v_8 ?v_9 ?v_10 ?v_11 ?v_12 ?v_13 ?v_14 ?v_15 ?v_16 ?v_17 ?v_18 ?a_C ?l_C ?l_T0 ?l_T1 ?l_T2 ?l_T3 ?l_T4 ?l_T5 ?l_T6 ?l_T7 ?l_T8 ?l_T9 ?l_T11 ?l_T12 ?l_T13
    (case aC => k_is)
    (case a_d0 => k_is)
    (case l_d0 => k_is)
    (case c_d0 => k_is)
    (case k_d0 => k_is)
    (case a_d1 => k_is)
    (case l_d1 => k_is)
    (case c_d1 => k_is)
    (case k_d1 => k_is)
    (case a_d2 => k_is)
    (case l_d2 => k_is)
    (case c_d2 => k_is)
    (case k_d2 => k_is)
    (case a_d3 => k_is)
    (case l_d3 => k_is)
    (case c_d3 => k_is)
    (case k_d3 => k_is)
    (case a_d4 => k_is)
    (case l_d4 => k_is)
    (case c_d4 => k_is)
    (case k_d4 => k_is)
    (case a_d5 => k_is)
    (case l_d5 => k_is)
    (case c_d5 => k_is)
    (case k_d5 => k_is)
    (case a_d6 => k_is)
    (case l_d6 => k_is)
    (case c_d6 => k_is)
    (case k_d6 => k_is)
    (case a_d7 => k_is)
    (case l_d7 => k_is)
    (case c_d7 => k_is)
    (case k_d7 => k_is)
    (case a_d8 => k_is)
    (case l_d8 => k_is)
    (case c_d8 => k_is)
    (case k_d8 => k_is)
    (case a_d9 => k_is)
    (case l_d9 => k_is)
    (case c_d9 => k_is)
    (case k_d9 => k_is)
    (case a_d10 => k_is)
    (case l_d10 => k_is)
    (case c_d10 => k_is)
    (case k_d10 => k_is)
    (case a_d11 => k_is)
    (case l_d11 => k_is)
    (case c_d11 => k_is)
    (case k_d11 => k_is)
    (case a_d12 => k_is)
    (case l_d12 => k_is)
    (case c_d12 => k_is)
    (case k_d12 => k_is)
    (case a_d13 => k_is)
    (case l_d13 => k_is)
    (case c_d13 => k_is)
    (case k_d13 => k_is)
    (case a_d14 => k_is)
    (case l_d14 => k_is)
    (case c_d14 => k_is)
    (case k_d14 => k_is)
    (case a_d15 => k_is)
    (case l_d15 => k_is)
    (case c_d15 => k_is)
    (case k_d15 => k_is)
    (case a_d16 => k_is)
    (case l_d16 => k_is)
    (case c_d16 => k_is)
    (case k_d16 => k_is)
    (case a_d17 => k_is)
    (case l_d17 => k_is)
    (case c_d17 => k_is)
    (case k_d17 => k_is)
    (case a_d18 => k_is)
    (case l_d18 => k_is)
    (case c_d18 => k_is)
    (case k_d18 => k_is)
    (case a_d19 => k_is)
    (case l_d19 => k_is)
    (case c_d19 => k_is)
    (case k_d19 => k_is)
    (case a_d20 => k_is)
    (case l_d20 => k_is)
    (case c_d20 => k_is)
    (case k_d20 => k_is)
    (case a_d21 => k_is)
    (case l_d21 => k_is)
    (case c_d21 => k_is)
    (case k_d21 => k_is)
    (case a_d22 => k_is)
    (case l_d22 => k_is)
    (case c_d22 => k_is)
    (case k_d22 => k_is)
    (case a_d23 => k_is)
    (case l_d23 => k_is)
    (case c_d23 => k_is)
    (case k_d23 => k_is)
    (case a_d24 => k_is)
    (case l_d24 => k_is)
    (case c_d24 => k_is)
    (case k_d24 => k_is)
    (case a_d25 => k_is)
    (case l_d25 => k_is)
    (case c_d25 => k_is)
    (case k_d25 => k_is)
    (case a_d26 => k_is)
    (case l_d26 => k_is)
    (case c_d26 => k_is)
    (case k_d26 => k_is)
    (case a_d27 => k_is)
    (case l_d27 => k_is)
    (case c_d27 => k_is)
    (case k_d27 => k_is)
    (case a_d28 => k_is)
    (case l_d28 => k_is)
    (case c_d28 => k_is)
    (case k_d28 => k_is)
    (case a_d29 => k_is)
    (case l_d29 => k_is)
    (case c_d29 => k_is)
    (case k_d29 => k_is)
    (case a_d30 => k_is)
    (case l_d30 => k_is)
    (case c_d30 => k_is)
    (case k_d30 => k_is)
    (case a_d31 => k_is)
    (case l_d31 => k_is)
    (case c_d31 => k_is)
    (case k_d31 => k_is)
    (case a_d32 => k_is)
    (case l_d32 => k_is)
    (case c_d32 => k_is)
    (case k_d32 => k_is)
    (case a_d33 => k_is)
    (case l_d33 => k_is)
    (case c_d33 => k_is)
    (case k_d33 => k_is)
    (case a_m0 => k_is)
    (case i_m0 => k_is)
    (case l_m0 => k_is)
    (case c_m0 => k_is)
    (case k_m0 => k_is)
    (case a_m1 => k_is)
    (case i_m1 => k_is)
    (case l_m1 => k_is)
    (case c_m1 => k_is)
    (case k_m1 => k_is)
    (case a_m2 => k_is)
    (case i_m2 => k_is)
    (case l_m2 => k_is)
    (case c_m2 => k_is)
    (case k_m2 => k_is)
    (case a_m3 => k_is)
    (case i_m3 => k_is)
    (case l_m3 => k_is)
    (case c_m3 => k_is)
    (case k_m3 => k_is)
    (case a_z => k_is)
    (case l_z => k_is)
    (case c_z => k_is)
    (case k_z => k_is)
    (case pg => k_is)
    (case hd => k_is)
    (case po => k_is)
    (case sa => k_is)
    (case mk => k_is)
    (case kc => k_is)
    (case nC => k_is)
    (case nP => k_is)
    (case b_len => k_is)
    (case b_all => k_is)
    (case b_sum => k_is)
    (case b_sorted => k_is)
    (case b_reversed => k_is)
    (case b_tuple => k_is)
    (case b_list => k_is)
    (case b_range => k_is)
    (case b_set => k_is)
    (case b_max => k_is)
    (case v_0 => k_is)
    (case v_1 => k_is)
    (case v_2 => k_is)
    (case v_3 => k_is)
    (case v_4 => k_is)
    (case v_5 => k_is)
    (case v_6 => k_is)
    (case v_7 => k_is)
    (case v_8 => k_is)
    (case v_9 => k_is)
    (case v_10 => k_is)
    (case v_11 => k_is)
    (case v_12 => k_is)
    (case v_13 => k_is)
    (case v_14 => k_is)
    (case v_15 => k_is)
    (case v_16 => k_is)
    (case v_17 => k_is)
    (case v_18 => k_is)
    (case a_C => k_is)
    (case l_C => k_is)
    (case l_T0 => k_is)
    (case l_T1 => k_is)
    (case l_T2 => k_is)
    (case l_T3 => k_is)
    (case l_T4 => k_is)
    (case l_T5 => k_is)
    (case l_T6 => k_is)
    (case l_T7 => k_is)
    (case l_T8 => k_is)
    (case l_T9 => k_is)
    (case l_T11 => k_is)
    (case l_T12 => k_is)
    (case l_T13 => k_is)
  case S =>
    intro K H xs a hO hwi hask hx
    cases hx with
    | cons h1 h2 =>
      cases h2
      cases h1 with
      | lst hs ha =>
        have e := L2.ints_dw a.1 _ ha
        subst e
        have q : ((Codec.inLen 0 30000 a.1 && a.1.all (Codec.inInt 0 4294967295)) && true) = true := hwi
        rw [Bool.and_eq_true, Bool.and_eq_true] at q
        obtain ⟨cs, hA⟩ := Ls.asked_of (ns := a.1) hask
        exact ⟨_, a.1, cs, rfl, Ls.scr_of hO hs, (Codec.inNat_iff.mp q.1.1).2, hA, fun H' p hp => .lst (L2.SqL.of hp) (L2.dw_ints _)⟩
