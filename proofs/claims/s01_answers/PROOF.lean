import PyProof.Rows.All
import Wide.All
import OpenK.AllK
import Wide.FinOn
import KE.KSortKeySt
import HandS.ForMost
import HandS.ForSpec
import HandS.Lambda
import HandS.SortKw
import Open.SpecLaws
import KE.OsHead
import KE.OsGo
import KE.KDictZip
import KE.KItemsList
import KE.KStateDown
import KE.HD4
import HandS.HeadHook4
import HandS.More
import HandS.Walk
import PySem.Challenge.RW_labelrunners_s01_answers
section
set_option autoImplicit false
/-! Who can be served together: the mathematics alone (no Python). -/
namespace Mt
open Rp04

theorem perm_lift {α β : Type} (f : α → β) {l l' : List β} (h : l.Perm l') : ∀ ps : List α, ps.map f = l → ∃ ps' : List α, ps'.Perm ps ∧ ps'.map f = l' := by
  induction h with
  | nil => intro ps e; exact ⟨ps, List.Perm.refl _, e⟩
  | cons x h ih =>
    intro ps e
    cases ps with
    | nil => cases e
    | cons p ps =>
      rw [List.map_cons] at e
      injection e with e1 e2
      obtain ⟨qs, h1, h2⟩ := ih ps e2
      exact ⟨p :: qs, h1.cons p, by rw [List.map_cons, h2, e1]⟩
  | swap x y l =>
    intro ps e
    match ps, e with
    | p :: q :: ps, e =>
      simp only [List.map_cons, List.cons.injEq] at e
      obtain ⟨e1, e2, e3⟩ := e
      exact ⟨q :: p :: ps, List.Perm.swap p q ps, by simp [e1, e2, e3]⟩
  | trans h1 h2 ih1 ih2 =>
    intro ps e
    obtain ⟨qs, a1, a2⟩ := ih1 ps e
    obtain ⟨rs, b1, b2⟩ := ih2 qs a2
    exact ⟨rs, b1.trans a1, b2⟩

theorem nodup_le {α : Type} [DecidableEq α] : ∀ (l k : List α), l.Nodup → (∀ x ∈ l, x ∈ k) → l.length ≤ k.length
  | [], _, _, _ => Nat.zero_le _
  | a :: l, k, h, s => by
    have ha : a ∈ k := s a List.mem_cons_self
    have hn := List.nodup_cons.mp h
    have q := nodup_le l (k.erase a) hn.2 fun x hx => by
      have hne : x ≠ a := fun e => hn.1 (e ▸ hx)
      exact (List.mem_erase_of_ne hne).mpr (s x (List.mem_cons_of_mem _ hx))
    rw [List.length_erase_of_mem ha] at q
    have h0 : 0 < k.length := List.length_pos_of_mem ha
    rw [List.length_cons]
    omega

theorem filter_perm {α : Type} (p : α → Bool) : ∀ l : List α, l.Perm (l.filter p ++ l.filter fun x => !p x)
  | [] => List.Perm.refl _
  | a :: l => by
    have ih := filter_perm p l
    cases h : p a with
    | true =>
      rw [List.filter_cons_of_pos h, List.filter_cons_of_neg (by simp [h])]
      exact ih.cons a
    | false =>
      rw [List.filter_cons_of_neg (by simp [h]), List.filter_cons_of_pos (by simp [h])]
      exact (ih.cons a).trans List.perm_middle.symm

/-- these jobs, each by a machine of its own among ms -/
def Srv (js : List Job) (ms : List Machine) : Prop :=
  ∃ ps : List (Job × Machine), ps.map (·.1) = js ∧ (ps.map (·.2.id)).Nodup ∧ ∀ p ∈ ps, p.2 ∈ ms ∧ suits p.2 p.1 = true

theorem Srv.perm {js js' : List Job} {ms : List Machine} (h : Srv js ms) (e : js.Perm js') : Srv js' ms := by
  obtain ⟨ps, h1, h2, h3⟩ := h
  obtain ⟨qs, a1, a2⟩ := perm_lift (·.1) e ps h1
  exact ⟨qs, a2, (a1.map (fun p : Job × Machine => p.2.id)).nodup_iff.mpr h2, fun p hp => h3 p (a1.mem_iff.mp hp)⟩

theorem Srv.left {a b : List Job} {ms : List Machine} (h : Srv (a ++ b) ms) : Srv a ms := by
  obtain ⟨ps, h1, h2, h3⟩ := h
  refine ⟨ps.take a.length, ?_, ?_, fun p hp => h3 p (List.mem_of_mem_take hp)⟩
  · rw [List.map_take, h1, List.take_left']
    rfl
  · rw [List.map_take]
    exact h2.sublist (List.take_sublist _ _)

theorem Srv.nil (ms : List Machine) : Srv [] ms := ⟨[], rfl, List.nodup_nil, fun p hp => by cases hp⟩

theorem Srv.le {js : List Job} {ms : List Machine} (h : Srv js ms) : js.length ≤ ms.length := by
  obtain ⟨ps, h1, h2, h3⟩ := h
  have q := nodup_le (ps.map (·.2.id)) (ms.map (·.id)) h2 fun x hx => by
    obtain ⟨p, hp, e⟩ := List.mem_map.mp hx
    exact List.mem_map.mpr ⟨p.2, (h3 p hp).1, e⟩
  rw [List.length_map, List.length_map] at q
  rw [← h1, List.length_map]
  exact q

/-- the specification's search finds a way just where there is one -/
theorem place_some : ∀ (js : List Job) (ms : List Machine), (place js ms).isSome = true ↔ Srv js ms
  | [], ms => ⟨fun _ => Srv.nil ms, fun _ => rfl⟩
  | j :: r, ms => by
    constructor
    · intro h
      rw [place, List.findSome?_isSome_iff] at h
      obtain ⟨m, hm, h⟩ := h
      by_cases hs : suits m j = true
      · rw [if_pos hs, Option.isSome_map] at h
        obtain ⟨ps, h1, h2, h3⟩ := (place_some r _).mp h
        refine ⟨(j, m) :: ps, by rw [List.map_cons, h1], ?_, fun p hp => ?_⟩
        · rw [List.map_cons, List.nodup_cons]
          refine ⟨fun hx => ?_, h2⟩
          obtain ⟨p, hp, e⟩ := List.mem_map.mp hx
          have q := (List.mem_filter.mp (h3 p hp).1).2
          simp [e] at q
        · rcases List.mem_cons.mp hp with e | hp
          · subst e
            exact ⟨hm, hs⟩
          · exact ⟨(List.mem_filter.mp (h3 p hp).1).1, (h3 p hp).2⟩
      · rw [if_neg hs] at h
        cases h
    · rintro ⟨ps, h1, h2, h3⟩
      cases ps with
      | nil => cases h1
      | cons p ps =>
        rw [List.map_cons] at h1
        injection h1 with e1 e2
        rw [List.map_cons, List.nodup_cons] at h2
        obtain ⟨hm, hs⟩ := h3 p List.mem_cons_self
        rw [place, List.findSome?_isSome_iff]
        refine ⟨p.2, hm, ?_⟩
        rw [e1] at hs
        rw [if_pos hs, Option.isSome_map]
        refine (place_some r _).mpr ⟨ps, e2, h2.2, fun q hq => ?_⟩
        obtain ⟨a, b⟩ := h3 q (List.mem_cons_of_mem _ hq)
        refine ⟨List.mem_filter.mpr ⟨a, ?_⟩, b⟩
        have hne : q.2.id ≠ p.2.id := fun e => h2.1 (List.mem_map.mpr ⟨q, hq, e⟩)
        simp [hne]

theorem together_iff (js : List Job) (ms : List Machine) : together js ms = true ↔ Srv js ms := by
  unfold together
  rw [Bool.and_eq_true, decide_eq_true_iff, place_some]
  constructor
  · exact fun h => h.2.perm (List.reverse_perm js)
  · exact fun h => ⟨h.le, h.perm (List.reverse_perm js).symm⟩

/-! ### Who holds which machine, by the machine's number -/
abbrev Hs := List (Nat × Job)
def look (hs : Hs) (n : Nat) : Option Job := (hs.find? fun p => decide (p.1 = n)).map (·.2)
def put (hs : Hs) (n : Nat) (j : Job) : Hs :=
  if (hs.any fun p => decide (p.1 = n)) = true then hs.map (fun p => if p.1 = n then (p.1, j) else p) else hs ++ [(n, j)]

theorem look_nil (n : Nat) : look [] n = none := rfl
theorem look_cons (p : Nat × Job) (hs : Hs) (n : Nat) : look (p :: hs) n = if p.1 = n then some p.2 else look hs n := by
  unfold look
  rw [List.find?_cons]
  by_cases h : p.1 = n
  · simp [h]
  · simp [h]
theorem look_none {hs : Hs} {n : Nat} : look hs n = none ↔ n ∉ hs.map (·.1) := by
  unfold look
  rw [Option.map_eq_none_iff, List.find?_eq_none]
  simp only [decide_eq_true_eq, List.mem_map, not_exists, not_and]
theorem look_any (hs : Hs) (n : Nat) : (hs.any fun p => decide (p.1 = n)) = (look hs n).isSome := by
  unfold look
  rw [Option.isSome_map, Bool.eq_iff_iff, List.find?_isSome, List.any_eq_true]
theorem look_mem {hs : Hs} (nd : (hs.map (·.1)).Nodup) {p : Nat × Job} (h : p ∈ hs) : look hs p.1 = some p.2 := by
  induction hs with
  | nil => cases h
  | cons q hs ih =>
    rw [List.map_cons, List.nodup_cons] at nd
    rw [look_cons]
    rcases List.mem_cons.mp h with e | h
    · subst e
      rw [if_pos rfl]
    · have hne : q.1 ≠ p.1 := fun e => nd.1 (e ▸ List.mem_map.mpr ⟨p, h, rfl⟩)
      rw [if_neg hne]
      exact ih nd.2 h
theorem look_in {hs : Hs} {n : Nat} {j : Job} (h : look hs n = some j) : (n, j) ∈ hs := by
  unfold look at h
  obtain ⟨p, hp, e⟩ := Option.map_eq_some_iff.mp h
  have h1 := List.find?_some hp
  have h2 := List.mem_of_find?_eq_some hp
  have h1 : p.1 = n := of_decide_eq_true h1
  rw [← h1, ← e]
  exact h2

theorem put_new {hs : Hs} {n : Nat} (j : Job) (h : look hs n = none) : put hs n j = hs ++ [(n, j)] := by
  unfold put
  rw [look_any, h]
  exact if_neg (by decide)
theorem put_old {hs : Hs} {n : Nat} {i : Job} (j : Job) (h : look hs n = some i) : put hs n j = hs.map (fun p => if p.1 = n then (p.1, j) else p) := by
  unfold put
  rw [look_any, h]
  exact if_pos rfl
theorem put_keys_old {hs : Hs} {n : Nat} {i : Job} (j : Job) (h : look hs n = some i) : (put hs n j).map (·.1) = hs.map (·.1) := by
  rw [put_old j h, List.map_map]
  refine List.map_congr_left fun p _ => ?_
  show (if p.1 = n then (p.1, j) else p).1 = p.1
  split <;> rfl
theorem look_put (hs : Hs) (n k : Nat) (j : Job) : look (put hs n j) k = if k = n then some j else look hs k := by
  cases h : look hs n with
  | none =>
    rw [put_new j h]
    have q : ∀ l : Hs, look l n = none → look (l ++ [(n, j)]) k = if k = n then some j else look l k := by
      intro l
      induction l with
      | nil =>
        intro _
        rw [List.nil_append, look_cons]
        by_cases e : n = k
        · rw [if_pos e, if_pos e.symm]
        · rw [if_neg e, if_neg (fun z => e z.symm)]
      | cons p l ih =>
        intro hl
        rw [look_cons] at hl
        rw [List.cons_append, look_cons, look_cons]
        by_cases e : p.1 = n
        · rw [if_pos e] at hl
          cases hl
        · rw [if_neg e] at hl
          rw [ih hl]
          by_cases e2 : p.1 = k
          · have : ¬ k = n := fun z => e (e2.trans z)
            rw [if_pos e2, if_neg this, if_pos e2]
          · rw [if_neg e2, if_neg e2]
    exact q hs h
  | some i =>
    rw [put_old j h]
    have q : ∀ l : Hs, look (l.map (fun p => if p.1 = n then (p.1, j) else p)) k = (look l k).map fun x => if k = n then j else x := by
      intro l
      induction l with
      | nil => rfl
      | cons p l ih =>
        rw [List.map_cons, look_cons, look_cons, ih]
        by_cases e : p.1 = n
        · rw [if_pos e]
          by_cases e2 : p.1 = k
          · rw [if_pos e2, if_pos e2]
            simp [← e2, e]
          · rw [if_neg e2, if_neg e2]
        · rw [if_neg e]
          by_cases e2 : p.1 = k
          · rw [if_pos e2, if_pos e2]
            simp [← e2, e]
          · rw [if_neg e2, if_neg e2]
    rw [q]
    by_cases e : k = n
    · rw [if_pos e, e, h]
      simp
    · rw [if_neg e]
      cases look hs k <;> simp [e]

/-- each holds a machine of ms that suits it -/
structure Good (ms : List Machine) (hs : Hs) : Prop where
  nd : (hs.map (·.1)).Nodup
  ok : ∀ p ∈ hs, ∃ m ∈ ms, m.id = p.1 ∧ suits m p.2 = true

theorem Good.nil (ms : List Machine) : Good ms [] := ⟨List.nodup_nil, fun p hp => by cases hp⟩

theorem Good.srv {ms : List Machine} {hs : Hs} (g : Good ms hs) : Srv (hs.map (·.2)) ms := by
  have q : ∀ l : Hs, (l.map (·.1)).Nodup → (∀ p ∈ l, ∃ m ∈ ms, m.id = p.1 ∧ suits m p.2 = true) → ∃ ps : List (Job × Machine), ps.map (·.1) = l.map (·.2) ∧ ps.map (·.2.id) = l.map (·.1) ∧ ∀ p ∈ ps, p.2 ∈ ms ∧ suits p.2 p.1 = true := by
    intro l
    induction l with
    | nil => exact fun _ _ => ⟨[], rfl, rfl, fun p hp => by cases hp⟩
    | cons p l ih =>
      intro h1 h2
      rw [List.map_cons, List.nodup_cons] at h1
      obtain ⟨ps, a, b, c⟩ := ih h1.2 fun p hp => h2 p (List.mem_cons_of_mem _ hp)
      obtain ⟨m, hm, e, s⟩ := h2 p List.mem_cons_self
      refine ⟨(p.2, m) :: ps, by rw [List.map_cons, List.map_cons, a], by rw [List.map_cons, List.map_cons, b, e], fun x hx => ?_⟩
      rcases List.mem_cons.mp hx with z | hx
      · subst z
        exact ⟨hm, s⟩
      · exact c x hx
  obtain ⟨ps, a, b, c⟩ := q hs g.nd g.ok
  exact ⟨ps, a, by rw [b]; exact g.nd, c⟩

/-- a free machine is taken -/
theorem Good.take {ms : List Machine} {hs : Hs} (g : Good ms hs) {m : Machine} {j : Job} (hm : m ∈ ms) (hs' : suits m j = true) (h : look hs m.id = none) :
    Good ms (put hs m.id j) ∧ ((put hs m.id j).map (·.2)).Perm (j :: hs.map (·.2)) := by
  rw [put_new j h]
  refine ⟨⟨?_, fun p hp => ?_⟩, ?_⟩
  · rw [List.map_append, List.nodup_append]
    refine ⟨g.nd, by simp, fun a ha b hb => ?_⟩
    have e : b = m.id := by simpa using hb
    rw [e]
    exact fun z => look_none.mp h (z ▸ ha)
  · rcases List.mem_append.mp hp with hp | hp
    · exact g.ok p hp
    · have e : p = (m.id, j) := by simpa using hp
      subst e
      exact ⟨m, hm, rfl, hs'⟩
  · rw [List.map_append]
    exact List.perm_append_comm

theorem put_perm {hs : Hs} (nd : (hs.map (·.1)).Nodup) {n : Nat} {b : Job} (j : Job) (h : look hs n = some b) : (b :: (put hs n j).map (·.2)).Perm (j :: hs.map (·.2)) := by
  rw [put_old j h]
  have main : ∀ l : Hs, (l.map (·.1)).Nodup → look l n = some b → (b :: (l.map (fun p => if p.1 = n then (p.1, j) else p)).map (·.2)).Perm (j :: l.map (·.2)) := by
    intro l
    induction l with
    | nil => intro _ h; cases h
    | cons p l ih =>
      intro h1 h
      rw [List.map_cons, List.nodup_cons] at h1
      rw [look_cons] at h
      rw [List.map_cons, List.map_cons, List.map_cons]
      by_cases e : p.1 = n
      · rw [if_pos e] at h
        rw [if_pos e]
        have e2 : p.2 = b := Option.some.inj h
        have e3 : (l.map fun p => if p.1 = n then (p.1, j) else p) = l := by
          refine (List.map_congr_left (g := id) fun q hq => ?_).trans (List.map_id l)
          have : q.1 ≠ n := fun z => h1.1 (by rw [e, ← z]; exact List.mem_map.mpr ⟨q, hq, rfl⟩)
          rw [if_neg this]
          rfl
        rw [e3, e2]
        exact List.Perm.swap j b _
      · rw [if_neg e] at h
        rw [if_neg e]
        exact ((List.Perm.swap p.2 b _).trans ((ih h1.2 h).cons p.2)).trans (List.Perm.swap j p.2 _)
  exact main hs nd h

/-- the holder has moved on: its machine is taken over -/
theorem Good.over {ms : List Machine} {hs hs1 : Hs} {m : Machine} {j b : Job} (g : Good ms hs1) (hm : m ∈ ms) (hs' : suits m j = true) (hb : look hs1 m.id = some b) (p : (hs1.map (·.2)).Perm (b :: hs.map (·.2))) :
    Good ms (put hs1 m.id j) ∧ ((put hs1 m.id j).map (·.2)).Perm (j :: hs.map (·.2)) := by
  refine ⟨⟨by rw [put_keys_old j hb]; exact g.nd, fun q hq => ?_⟩, ?_⟩
  · rw [put_old j hb] at hq
    obtain ⟨x, hx, e⟩ := List.mem_map.mp hq
    by_cases z : x.1 = m.id
    · rw [if_pos z] at e
      subst e
      exact ⟨m, hm, z.symm, hs'⟩
    · rw [if_neg z] at e
      subst e
      exact g.ok x hx
  · have h1 := (put_perm g.nd j hb).trans (p.cons j)
    exact (h1.trans (List.Perm.swap b j _)).cons_inv

/-- what a search that failed has found: S are the numbers that were tried -/
structure Shut (ms : List Machine) (hs : Hs) (j : Job) (S0 S : List Nat) : Prop where
  nd : S.Nodup
  sub : ∀ n ∈ S0, n ∈ S
  ids : ∀ n ∈ S, ∃ m ∈ ms, m.id = n
  all : ∀ m ∈ ms, suits m j = true → m.id ∈ S
  cl : ∀ n ∈ S, n ∉ S0 → ∃ b, look hs n = some b ∧ ∀ m ∈ ms, suits m b = true → m.id ∈ S

/-- Hall: from the beginning, such a search shows that there is no way -/
theorem no_way {ms : List Machine} {hs : Hs} {j : Job} {S : List Nat} {js rest : List Job} (g : Good ms hs) (h : Shut ms hs j [] S) (p : js.Perm (j :: hs.map (·.2) ++ rest)) : ¬ Srv js ms := by
  intro s
  have s1 : Srv (j :: hs.map (·.2)) ms := (s.perm p).left
  have p2 : (hs.map (·.2)).Perm ((hs.filter fun p => S.contains p.1).map (·.2) ++ (hs.filter fun p => !S.contains p.1).map (·.2)) := by
    rw [← List.map_append]
    exact (filter_perm _ hs).map _
  have s2 : Srv (j :: (hs.filter fun p => S.contains p.1).map (·.2)) ms := (s1.perm (p2.cons j)).left
  obtain ⟨ps, h1, h2, h3⟩ := s2
  have l1 := nodup_le (ps.map (·.2.id)) S h2 fun x hx => by
    obtain ⟨q, hq, e⟩ := List.mem_map.mp hx
    obtain ⟨a, b⟩ := h3 q hq
    rw [← e]
    have hq1 : q.1 ∈ j :: (hs.filter fun p => S.contains p.1).map (·.2) := by rw [← h1]; exact List.mem_map.mpr ⟨q, hq, rfl⟩
    rcases List.mem_cons.mp hq1 with z | z
    · exact h.all _ a (z ▸ b)
    · obtain ⟨r, hr, er⟩ := List.mem_map.mp z
      obtain ⟨hr1, hr2⟩ := List.mem_filter.mp hr
      have hr3 : r.1 ∈ S := by simpa using hr2
      obtain ⟨c, hc, hcl⟩ := h.cl _ hr3 (by simp)
      rw [look_mem g.nd hr1] at hc
      have ec : r.2 = c := Option.some.inj hc
      exact hcl _ a (by rw [← ec, er]; exact b)
  have l2 := nodup_le S ((hs.filter fun p => S.contains p.1).map (·.1)) h.nd fun n hn => by
    obtain ⟨b, hb, _⟩ := h.cl n hn (by simp)
    exact List.mem_map.mpr ⟨(n, b), List.mem_filter.mpr ⟨look_in hb, by simpa using hn⟩, rfl⟩
  have e : ps.length = (hs.filter fun p => S.contains p.1).length + 1 := by
    have := congrArg List.length h1
    simpa using this
  rw [List.length_map] at l1 l2
  omega

/-! ### The search by one machine after another, as it goes -/
/-- within a search for j that began with S0 tried: the first i machines are done with, S are tried now -/
structure Upto (ms : List Machine) (hs : Hs) (j : Job) (S0 : List Nat) (i : Nat) (S : List Nat) : Prop where
  nd : S.Nodup
  sub : ∀ n ∈ S0, n ∈ S
  ids : ∀ n ∈ S, ∃ m ∈ ms, m.id = n
  all : ∀ m ∈ ms.take i, suits m j = true → m.id ∈ S
  cl : ∀ n ∈ S, n ∉ S0 → ∃ b, look hs n = some b ∧ ∀ m ∈ ms, suits m b = true → m.id ∈ S

theorem Upto.start {ms : List Machine} {hs : Hs} {j : Job} {S0 : List Nat} (h1 : S0.Nodup) (h2 : ∀ n ∈ S0, ∃ m ∈ ms, m.id = n) : Upto ms hs j S0 0 S0 :=
  ⟨h1, fun _ h => h, h2, fun m hm => (by cases hm), fun n h h' => absurd h h'⟩
theorem mem_take_succ {α : Type} {l : List α} {i : Nat} {x m : α} (h : l[i]? = some x) (hm : m ∈ l.take (i + 1)) : m ∈ l.take i ∨ m = x := by
  rw [List.take_add_one, h] at hm
  rcases List.mem_append.mp hm with q | q
  · exact .inl q
  · exact .inr (by simpa using q)
/-- the machine was tried already, or doesn't suit -/
theorem Upto.pass {ms : List Machine} {hs : Hs} {j : Job} {S0 S : List Nat} {i : Nat} {m : Machine} (u : Upto ms hs j S0 i S) (hi : ms[i]? = some m) (h : m.id ∈ S ∨ suits m j = false) : Upto ms hs j S0 (i + 1) S := by
  refine ⟨u.nd, u.sub, u.ids, fun x hx hs => ?_, u.cl⟩
  rcases mem_take_succ hi hx with z | z
  · exact u.all x z hs
  · subst z
    rcases h with h | h
    · exact h
    · rw [h] at hs
      cases hs
theorem mem_of_ix {α : Type} {l : List α} {i : Nat} {x : α} (h : l[i]? = some x) : x ∈ l := List.mem_of_getElem? h
/-- a machine is tried: its number is put down -/
theorem Upto.tried {ms : List Machine} {hs : Hs} {j : Job} {S0 S : List Nat} {i : Nat} {m : Machine} (u : Upto ms hs j S0 i S) (hi : ms[i]? = some m) (h : m.id ∉ S) :
    (S ++ [m.id]).Nodup ∧ ∀ n ∈ S ++ [m.id], ∃ x ∈ ms, x.id = n := by
  refine ⟨?_, fun n hn => ?_⟩
  · rw [List.nodup_append]
    refine ⟨u.nd, by simp, fun a ha b hb => ?_⟩
    have e : b = m.id := by simpa using hb
    rw [e]
    exact fun z => h (z ▸ ha)
  · rcases List.mem_append.mp hn with z | z
    · exact u.ids n z
    · exact ⟨m, mem_of_ix hi, by simpa using Eq.symm (show n = m.id by simpa using z)⟩
/-- its holder finds no other one -/
theorem Upto.shut {ms : List Machine} {hs : Hs} {j b : Job} {S0 S S' : List Nat} {i : Nat} {m : Machine} (u : Upto ms hs j S0 i S) (hi : ms[i]? = some m) (hb : look hs m.id = some b) (h : Shut ms hs b (S ++ [m.id]) S') : Upto ms hs j S0 (i + 1) S' := by
  have up : ∀ n ∈ S, n ∈ S' := fun n hn => h.sub n (List.mem_append.mpr (.inl hn))
  have um : m.id ∈ S' := h.sub _ (List.mem_append.mpr (.inr (by simp)))
  refine ⟨h.nd, fun n hn => up n (u.sub n hn), h.ids, fun x hx hs => ?_, fun n hn h0 => ?_⟩
  · rcases mem_take_succ hi hx with z | z
    · exact up _ (u.all x z hs)
    · rw [z]
      exact um
  · by_cases z : n ∈ S
    · obtain ⟨c, h1, h2⟩ := u.cl n z h0
      exact ⟨c, h1, fun x hx hs => up _ (h2 x hx hs)⟩
    · by_cases z2 : n = m.id
      · subst z2
        exact ⟨b, hb, h.all⟩
      · exact h.cl n hn (by simp [z, z2])
theorem Upto.all_done {ms : List Machine} {hs : Hs} {j : Job} {S0 S : List Nat} (u : Upto ms hs j S0 ms.length S) : Shut ms hs j S0 S :=
  ⟨u.nd, u.sub, u.ids, fun m hm hs => u.all m (by rw [List.take_length]; exact hm) hs, u.cl⟩
theorem tried_le {ms : List Machine} {S : List Nat} (h1 : S.Nodup) (h2 : ∀ n ∈ S, ∃ m ∈ ms, m.id = n) : S.length ≤ ms.length := by
  have q := nodup_le S (ms.map (·.id)) h1 fun n hn => by
    obtain ⟨m, hm, e⟩ := h2 n hn
    exact List.mem_map.mpr ⟨m, hm, e⟩
  rw [List.length_map] at q
  exact q

/-! ### The choice -/
theorem choose_go {ms : List Machine} {l r : List Job} {j : Job} (h : Srv (l ++ [j]) ms) : choose ms l (j :: r) = choose ms (l ++ [j]) r := by
  rw [choose, if_pos ((together_iff _ _).mpr h)]
theorem choose_skip {ms : List Machine} {l r : List Job} {j : Job} (h : ¬ Srv (l ++ [j]) ms) : choose ms l (j :: r) = choose ms l r := by
  rw [choose, if_neg fun z => h ((together_iff _ _).mp z)]
theorem choose_srv {ms : List Machine} : ∀ (q l : List Job), Srv l ms → Srv (choose ms l q) ms
  | [], l, h => h
  | j :: r, l, h => by
    by_cases z : Srv (l ++ [j]) ms
    · rw [choose_go z]
      exact choose_srv r _ z
    · rw [choose_skip z]
      exact choose_srv r _ h
theorem chosen_srv (h : House) : Srv h.chosen h.free := choose_srv _ _ (Srv.nil _)

/-! ### The places -/
def less (ms : List Machine) (m : Machine) : List Machine := ms.filter fun n => n.id != m.id
/-- the machine that the first one gets -/
def low (j : Job) (r : List Job) (ms : List Machine) : Option Machine := ms.find? fun m => suits m j && (place r (less ms m)).isSome
theorem findSome_find {α β : Type} (p : α → Bool) (f : α → Option β) (h1 : ∀ x, p x = true → (f x).isSome = true) (h2 : ∀ x, p x = false → f x = none) : ∀ l : List α, l.findSome? f = (l.find? p).bind f
  | [] => rfl
  | a :: l => by
    rw [List.findSome?_cons, List.find?_cons]
    cases h : p a with
    | true =>
      obtain ⟨y, hy⟩ := Option.isSome_iff_exists.mp (h1 a h)
      rw [hy]
      exact hy.symm
    | false =>
      rw [h2 a h]
      exact findSome_find p f h1 h2 l
theorem place_low (j : Job) (r : List Job) (ms : List Machine) : place (j :: r) ms = (low j r ms).bind fun m => (place r (less ms m)).map fun l => (j, m) :: l := by
  rw [place]
  have e := findSome_find (fun m => suits m j && (place r (less ms m)).isSome) (fun m => if suits m j = true then (place r (less ms m)).map (fun l => (j, m) :: l) else none)
    (fun m h => by
      rw [Bool.and_eq_true] at h
      rw [if_pos h.1, Option.isSome_map]
      exact h.2)
    (fun m h => by
      by_cases z : suits m j = true
      · rw [if_pos z]
        rw [z, Bool.true_and] at h
        cases q : place r (less ms m) with
        | none => rfl
        | some l =>
          rw [q] at h
          cases h
      · rw [if_neg z]) ms
  unfold less at e
  rw [e]
  unfold low less
  cases q : ms.find? (fun m => suits m j && (place r (List.filter (fun n => n.id != m.id) ms)).isSome) with
  | none => rfl
  | some m =>
    have hq := List.find?_some q
    rw [Bool.and_eq_true] at hq
    show (if suits m j = true then _ else _) = _
    rw [if_pos hq.1]
    rfl
theorem low_some {j : Job} {r : List Job} {ms : List Machine} (h : Srv (j :: r) ms) : ∃ m, low j r ms = some m := by
  have q := (place_some (j :: r) ms).mpr h
  rw [place_low] at q
  cases e : low j r ms with
  | none =>
    rw [e] at q
    cases q
  | some m => exact ⟨m, rfl⟩
theorem low_spec {j : Job} {r : List Job} {ms : List Machine} {m : Machine} (h : low j r ms = some m) : m ∈ ms ∧ suits m j = true ∧ Srv r (less ms m) := by
  have h1 := List.find?_some h
  rw [Bool.and_eq_true] at h1
  exact ⟨List.mem_of_find?_eq_some h, h1.1, (place_some _ _).mp h1.2⟩
/-- the first i jobs of js have got the machines ps, ms are left -/
structure Placing (js : List Job) (ms0 : List Machine) (i : Nat) (ps : List Machine) (ms : List Machine) : Prop where
  len : ps.length = i
  le : i ≤ js.length
  srv : Srv (js.drop i) ms
  sub : ∀ m ∈ ms, m ∈ ms0
  psub : ∀ m ∈ ps, m ∈ ms0
  eq : place js ms0 = (place (js.drop i) ms).map fun l => (js.take i).zip ps ++ l
theorem Placing.start {js : List Job} {ms : List Machine} (h : Srv js ms) : Placing js ms 0 [] ms :=
  ⟨rfl, Nat.zero_le _, h, fun _ h => h, fun m h => (by cases h), by
    rw [List.drop_zero, List.take_zero]
    show _ = (place js ms).map fun l => [] ++ l
    simp⟩
theorem Placing.turn {js : List Job} {ms0 ms : List Machine} {i : Nat} {ps : List Machine} {j : Job} {m : Machine} (P : Placing js ms0 i ps ms) (hj : js[i]? = some j) (hm : low j (js.drop (i + 1)) ms = some m) : Placing js ms0 (i + 1) (ps ++ [m]) (less ms m) := by
  obtain ⟨h1, h2, h3⟩ := low_spec hm
  have hi : i < js.length := (List.getElem?_eq_some_iff.mp hj).1
  have ed : js.drop i = j :: js.drop (i + 1) := by
    rw [List.drop_eq_getElem_cons hi]
    congr 1
    exact (List.getElem?_eq_some_iff.mp hj).2
  refine ⟨by rw [List.length_append, P.len]; rfl, hi, h3, fun x hx => P.sub x (List.mem_filter.mp hx).1, fun x hx => ?_, ?_⟩
  · rcases List.mem_append.mp hx with z | z
    · exact P.psub x z
    · have e : x = m := by simpa using z
      rw [e]
      exact P.sub m h1
  · rw [P.eq, ed, place_low, hm]
    show Option.map _ (Option.map _ _) = _
    rw [Option.map_map]
    congr 1
    funext l
    show (js.take i).zip ps ++ (j, m) :: l = (js.take (i + 1)).zip (ps ++ [m]) ++ l
    have e2 : js.take (i + 1) = js.take i ++ [j] := by rw [List.take_add_one, hj]; rfl
    rw [e2, List.zip_append (by rw [List.length_take, P.len]; omega)]
    simp
theorem Placing.done {js : List Job} {ms0 ms : List Machine} {ps : List Machine} (P : Placing js ms0 js.length ps ms) : place js ms0 = some (js.zip ps) := by
  rw [P.eq, List.drop_length, List.take_length]
  show Option.map _ (some []) = _
  simp
end Mt
end
section
set_option autoImplicit false
/-! The queue's order; rivals: the mathematics alone. -/
namespace Mt
open Rp04

/-! ### The order -/
theorem before_iff (h : House) (i j : Job) : h.before i j = true ↔ (h.urgent j < h.urgent i ∨ (h.urgent i = h.urgent j ∧ i.turn < j.turn)) := by
  unfold House.before
  rw [Bool.or_eq_true, Bool.and_eq_true, decide_eq_true_iff, decide_eq_true_iff, beq_iff_eq]
theorem before_trans {h : House} {i j k : Job} (a : h.before i j = true) (b : h.before j k = true) : h.before i k = true := by
  rw [before_iff] at *
  omega
theorem before_total (h : House) {i j : Job} (hn : i.turn ≠ j.turn) : h.before i j = true ∨ h.before j i = true := by
  rw [before_iff, before_iff]
  omega
theorem before_asymm {h : House} {i j : Job} (a : h.before i j = true) : ¬ h.before j i = true := by
  rw [before_iff] at *
  omega
theorem insert_perm (f : Job → Job → Bool) (j : Job) : ∀ l : List Job, (insert f j l).Perm (j :: l)
  | [] => List.Perm.refl _
  | i :: r => by
    rw [Rp04.insert]
    split
    · exact ((insert_perm f j r).cons i).trans (List.Perm.swap j i r)
    · exact List.Perm.refl _
theorem sort_perm (f : Job → Job → Bool) : ∀ l : List Job, (sort f l).Perm l
  | [] => List.Perm.refl _
  | j :: l => (insert_perm f j (sort f l)).trans ((sort_perm f l).cons j)
theorem insert_sorted (h : House) (j : Job) : ∀ l : List Job, l.Pairwise (fun a b => h.before a b = true) → (∀ i ∈ l, i.turn ≠ j.turn) → (insert h.before j l).Pairwise (fun a b => h.before a b = true)
  | [], _, _ => by
    rw [Rp04.insert]
    exact List.pairwise_singleton _ _
  | i :: r, hp, hn => by
    rw [List.pairwise_cons] at hp
    rw [Rp04.insert]
    split
    · rename_i hb
      rw [List.pairwise_cons]
      refine ⟨fun x hx => ?_, insert_sorted h j r hp.2 fun x hx => hn x (List.mem_cons_of_mem _ hx)⟩
      rcases List.mem_cons.mp ((insert_perm _ j r).mem_iff.mp hx) with e | e
      · rw [e]; exact hb
      · exact hp.1 x e
    · rename_i hb
      have hji : h.before j i = true := (before_total h (hn i List.mem_cons_self)).resolve_left hb
      rw [List.pairwise_cons]
      refine ⟨fun x hx => ?_, List.pairwise_cons.mpr hp⟩
      rcases List.mem_cons.mp hx with e | e
      · rw [e]; exact hji
      · exact before_trans hji (hp.1 x e)
theorem sort_sorted (h : House) : ∀ l : List Job, l.Pairwise (fun a b => a.turn < b.turn) → (sort h.before l).Pairwise (fun a b => h.before a b = true)
  | [], _ => List.Pairwise.nil
  | j :: l, hp => by
    rw [List.pairwise_cons] at hp
    refine insert_sorted h j _ (sort_sorted h l hp.2) fun i hi => ?_
    have := hp.1 i ((sort_perm _ l).mem_iff.mp hi)
    omega
theorem sorted_unique {R : Job → Job → Prop} (as : ∀ {i j}, R i j → ¬ R j i) : ∀ (l k : List Job), l.Perm k → l.Pairwise R → k.Pairwise R → l = k
  | [], k, hp, _, _ => (List.nil_perm.mp hp).symm
  | a :: l, [], hp, _, _ => (List.cons_ne_nil _ _ (List.perm_nil.mp hp)).elim
  | a :: l, b :: k, hp, h1, h2 => by
    rw [List.pairwise_cons] at h1 h2
    have e : a = b := by
      rcases List.mem_cons.mp (hp.mem_iff.mp List.mem_cons_self) with z | z
      · exact z
      · rcases List.mem_cons.mp (hp.mem_iff.mpr List.mem_cons_self) with y | y
        · exact y.symm
        · exact absurd (h1.1 b y) (as (h2.1 a z))
    subst e
    rw [sorted_unique as l k hp.cons_inv h1.2 h2.2]
/-- stable, by falling urgency: that is the queue's order -/
theorem stable_sorted (h : House) {w : List Job} (ht : w.Pairwise (fun a b => a.turn < b.turn)) : ∀ l : List Job, l.Pairwise (fun a b => h.urgent b ≤ h.urgent a) → (∀ c, (l.filter fun j => h.urgent j == c).Pairwise (fun a b => a.turn < b.turn)) → l.Pairwise (fun a b => h.before a b = true)
  | [], _, _ => List.Pairwise.nil
  | a :: l, h1, h2 => by
    rw [List.pairwise_cons] at h1
    rw [List.pairwise_cons]
    refine ⟨fun b hb => ?_, stable_sorted h ht l h1.2 fun c => (h2 c).sublist ((List.sublist_cons_self a l).filter _)⟩
    rw [before_iff]
    have le := h1.1 b hb
    by_cases e : h.urgent a = h.urgent b
    · refine .inr ⟨e, ?_⟩
      have q := h2 (h.urgent a)
      rw [List.filter_cons_of_pos (by simp), List.pairwise_cons] at q
      exact q.1 b (List.mem_filter.mpr ⟨hb, by simp [e]⟩)
    · exact .inl (by omega)
theorem queue_of {h : House} {w l : List Job} (ht : w.Pairwise (fun a b => a.turn < b.turn)) (hp : l.Perm w) (h1 : l.Pairwise (fun a b => h.urgent b ≤ h.urgent a)) (h2 : ∀ c, (l.filter fun j => h.urgent j == c) = w.filter fun j => h.urgent j == c) : l = sort h.before w := by
  refine sorted_unique (R := fun a b => h.before a b = true) before_asymm _ _ (hp.trans (sort_perm _ w).symm) (stable_sorted h ht l h1 fun c => ?_) (sort_sorted h w ht)
  rw [h2 c]
  exact ht.filter _

/-! ### Rivals -/
/-- a chosen job, placed where j0 could be; or where one of these could be -/
inductive Riv (p : List (Job × Machine)) (j0 : Job) : Job → Prop
  | base {x : Job × Machine} : x ∈ p → suits x.2 j0 = true → Riv p j0 x.1
  | more {x : Job × Machine} {y : Job} : Riv p j0 y → x ∈ p → suits x.2 y = true → Riv p j0 x.1
def fresh (p : List (Job × Machine)) (ms : List Machine) (js : List Job) : List (Job × Machine) := p.filter fun x => (reach ms js).contains x.2 && !js.contains x.1
theorem mem_fresh {p : List (Job × Machine)} {ms : List Machine} (hp : ∀ x ∈ p, x.2 ∈ ms) {js : List Job} {x : Job × Machine} : x ∈ fresh p ms js ↔ x ∈ p ∧ (∃ y ∈ js, suits x.2 y = true) ∧ x.1 ∉ js := by
  unfold fresh reach
  rw [List.mem_filter, Bool.and_eq_true, Bool.not_eq_true', List.contains_eq_mem, List.contains_eq_mem, decide_eq_true_iff, decide_eq_false_iff_not, List.mem_filter, List.any_eq_true]
  constructor
  · rintro ⟨h1, ⟨_, h2⟩, h3⟩
    exact ⟨h1, h2, h3⟩
  · rintro ⟨h1, h2, h3⟩
    exact ⟨h1, ⟨hp x h1, h2⟩, h3⟩
theorem chain_succ (p : List (Job × Machine)) (ms : List Machine) (n : Nat) (js : List Job) : chain p ms (n + 1) js = chain p ms n (js ++ (fresh p ms js).map fun x => x.1) := rfl
theorem chain_sub (p : List (Job × Machine)) (ms : List Machine) : ∀ (n : Nat) (js : List Job) (x : Job), x ∈ js → x ∈ chain p ms n js
  | 0, _, _, h => h
  | n + 1, js, x, h => by
    rw [chain_succ]
    exact chain_sub p ms n _ x (List.mem_append.mpr (.inl h))
theorem chain_sound {p : List (Job × Machine)} {ms : List Machine} (hp : ∀ x ∈ p, x.2 ∈ ms) {j0 : Job} : ∀ (n : Nat) (js : List Job), (∀ x ∈ js, x = j0 ∨ Riv p j0 x) → ∀ x ∈ chain p ms n js, x = j0 ∨ Riv p j0 x
  | 0, _, h, x, hx => h x hx
  | n + 1, js, h, x, hx => by
    rw [chain_succ] at hx
    refine chain_sound hp n _ (fun y hy => ?_) x hx
    rcases List.mem_append.mp hy with z | z
    · exact h y z
    · obtain ⟨w, hw, e⟩ := List.mem_map.mp z
      obtain ⟨h1, ⟨u, hu, hs⟩, _⟩ := (mem_fresh hp).mp hw
      subst e
      rcases h u hu with e | e
      · exact .inr (.base h1 (e ▸ hs))
      · exact .inr (.more e h1 hs)
/-- nothing is left to add -/
def Closed (p : List (Job × Machine)) (js : List Job) : Prop := ∀ x ∈ p, (∃ y ∈ js, suits x.2 y = true) → x.1 ∈ js
def outside (p : List (Job × Machine)) (js : List Job) : Nat := (p.filter fun x => !js.contains x.1).length
theorem chain_fix {p : List (Job × Machine)} {ms : List Machine} (hp : ∀ x ∈ p, x.2 ∈ ms) {js : List Job} (h : Closed p js) : ∀ n, chain p ms n js = js
  | 0 => rfl
  | n + 1 => by
    have e : fresh p ms js = [] := by
      cases q : fresh p ms js with
      | nil => rfl
      | cons x r =>
        obtain ⟨h1, h2, h3⟩ := (mem_fresh hp).mp (show x ∈ fresh p ms js by rw [q]; exact List.mem_cons_self)
        exact absurd (h x h1 h2) h3
    rw [chain_succ, e, List.map_nil, List.append_nil]
    exact chain_fix hp h n
theorem filter_lt {α : Type} {p q : α → Bool} : ∀ {l : List α}, (∀ x, q x = true → p x = true) → (∃ x ∈ l, p x = true ∧ q x = false) → (l.filter q).length < (l.filter p).length
  | [], _, ⟨x, hx, _⟩ => by cases hx
  | a :: l, h, ⟨x, hx, h1, h2⟩ => by
    have le : (l.filter q).length ≤ (l.filter p).length := by
      have z : l.filter q = (l.filter p).filter q := by
        rw [List.filter_filter]
        refine (List.filter_congr fun y _ => ?_)
        cases e : q y with
        | false => simp
        | true => simp [h y e]
      rw [z]
      exact List.length_filter_le _ _
    rcases List.mem_cons.mp hx with e | hx
    · subst e
      rw [List.filter_cons_of_pos h1, List.filter_cons_of_neg (by simp [h2]), List.length_cons]
      omega
    · have ih := filter_lt (l := l) h ⟨x, hx, h1, h2⟩
      cases ea : q a with
      | true =>
        rw [List.filter_cons_of_pos ea, List.filter_cons_of_pos (h a ea), List.length_cons, List.length_cons]
        omega
      | false =>
        rw [List.filter_cons_of_neg (by simp [ea])]
        cases eb : p a with
        | true =>
          rw [List.filter_cons_of_pos eb, List.length_cons]
          omega
        | false =>
          rw [List.filter_cons_of_neg (by simp [eb])]
          exact ih
theorem chain_closed {p : List (Job × Machine)} {ms : List Machine} (hp : ∀ x ∈ p, x.2 ∈ ms) : ∀ (n : Nat) (js : List Job), outside p js < n → Closed p (chain p ms n js)
  | 0, _, h => by omega
  | n + 1, js, h => by
    cases q : fresh p ms js with
    | nil =>
      have cl : Closed p js := fun x hx hy => by
        by_cases z : x.1 ∈ js
        · exact z
        · have := (mem_fresh hp).mpr ⟨hx, hy, z⟩
          rw [q] at this
          cases this
      rw [chain_fix hp cl]
      exact cl
    | cons x r =>
      rw [chain_succ]
      have mx : x ∈ fresh p ms js := by rw [q]; exact List.mem_cons_self
      refine chain_closed hp n _ (Nat.lt_of_lt_of_le (filter_lt (fun y hy => ?_) ⟨x, ((mem_fresh hp).mp mx).1, ?_, ?_⟩) (Nat.le_of_lt_succ h))
      · rw [Bool.not_eq_true', List.contains_eq_mem, decide_eq_false_iff_not] at *
        exact fun z => hy (List.mem_append.mpr (.inl z))
      · rw [Bool.not_eq_true', List.contains_eq_mem, decide_eq_false_iff_not]
        exact ((mem_fresh hp).mp mx).2.2
      · rw [Bool.not_eq_false', List.contains_eq_mem, decide_eq_true_iff]
        exact List.mem_append.mpr (.inr (List.mem_map.mpr ⟨x, mx, rfl⟩))
theorem closed_riv {p : List (Job × Machine)} {js : List Job} {j0 : Job} (h : Closed p js) (h0 : j0 ∈ js) {x : Job} (r : Riv p j0 x) : x ∈ js := by
  induction r with
  | base h1 h2 => exact h _ h1 ⟨j0, h0, h2⟩
  | more _ h1 h2 ih => exact h _ h1 ⟨_, ih, h2⟩
theorem chain_iff {p : List (Job × Machine)} {ms : List Machine} (hp : ∀ x ∈ p, x.2 ∈ ms) (hl : p.length ≤ ms.length) (j0 x : Job) : x ∈ chain p ms (ms.length + 1) [j0] ↔ x = j0 ∨ Riv p j0 x := by
  constructor
  · exact chain_sound hp _ _ (fun y hy => .inl (List.mem_singleton.mp hy)) x
  · rintro (e | r)
    · rw [e]; exact chain_sub _ _ _ _ _ (List.mem_singleton.mpr rfl)
    · refine closed_riv (chain_closed hp _ _ ?_) (chain_sub _ _ _ _ _ (List.mem_singleton.mpr rfl)) r
      exact Nat.lt_succ_of_le (Nat.le_trans (List.length_filter_le _ _) hl)
/-! ### What is placed -/
theorem place_is : ∀ {js : List Job} {ms : List Machine} {l : List (Job × Machine)}, place js ms = some l → l.map (·.1) = js ∧ (l.map (·.2.id)).Nodup ∧ ∀ x ∈ l, x.2 ∈ ms ∧ suits x.2 x.1 = true
  | [], ms, l, h => by
    rw [place] at h
    cases h
    exact ⟨rfl, List.nodup_nil, fun x hx => by cases hx⟩
  | j :: r, ms, l, h => by
    rw [place_low] at h
    cases e : low j r ms with
    | none => rw [e] at h; cases h
    | some m =>
      rw [e] at h
      obtain ⟨k, hk, hl⟩ := Option.map_eq_some_iff.mp (show (place r (less ms m)).map (fun l => (j, m) :: l) = some l from h)
      obtain ⟨h1, h2, h3⟩ := place_is hk
      obtain ⟨g1, g2, g3⟩ := low_spec e
      subst hl
      refine ⟨by rw [List.map_cons, h1], ?_, fun x hx => ?_⟩
      · rw [List.map_cons, List.nodup_cons]
        refine ⟨fun z => ?_, h2⟩
        obtain ⟨x, hx, ex⟩ := List.mem_map.mp z
        have q := (List.mem_filter.mp (h3 x hx).1).2
        simp [ex] at q
      · rcases List.mem_cons.mp hx with z | z
        · subst z; exact ⟨g1, g2⟩
        · exact ⟨(List.mem_filter.mp (h3 x z).1).1, (h3 x z).2⟩
theorem placed_some (h : House) : place h.chosen h.free = some h.placed := by
  have q := (place_some h.chosen h.free).mpr (chosen_srv h)
  unfold House.placed
  cases e : place h.chosen h.free with
  | none => rw [e] at q; cases q
  | some l => rfl
theorem placed_is (h : House) : h.placed.map (·.1) = h.chosen ∧ (h.placed.map (·.2.id)).Nodup ∧ ∀ x ∈ h.placed, x.2 ∈ h.free ∧ suits x.2 x.1 = true := place_is (placed_some h)
theorem rivals_mem (h : House) (j i : Job) (hj : j ∉ h.chosen) : i ∈ h.rivals j ↔ i ∈ h.chosen ∧ Riv h.placed j i := by
  obtain ⟨h1, h2, h3⟩ := placed_is h
  have hl : h.placed.length ≤ h.free.length := by
    have q := (chosen_srv h).le
    rw [← h1, List.length_map] at q
    exact q
  show i ∈ h.chosen.filter (fun i => (chain h.placed h.free (h.free.length + 1) [j]).contains i) ↔ _
  rw [List.mem_filter, List.contains_eq_mem, decide_eq_true_iff, chain_iff (fun x hx => (h3 x hx).1) hl]
  constructor
  · rintro ⟨a, e | r⟩
    · exact absurd (e ▸ a) hj
    · exact ⟨a, r⟩
  · rintro ⟨a, r⟩
    exact ⟨a, .inr r⟩
theorem choose_mem {ms : List Machine} : ∀ (q l : List Job) (x : Job), x ∈ choose ms l q → x ∈ l ∨ x ∈ q
  | [], l, x, h => .inl h
  | j :: r, l, x, h => by
    by_cases z : Srv (l ++ [j]) ms
    · rw [choose_go z] at h
      rcases choose_mem r _ x h with y | y
      · rcases List.mem_append.mp y with y | y
        · exact .inl y
        · exact .inr (by rw [List.mem_singleton.mp y]; exact List.mem_cons_self)
      · exact .inr (List.mem_cons_of_mem _ y)
    · rw [choose_skip z] at h
      exact (choose_mem r l x h).imp id (List.mem_cons_of_mem _)
theorem chosen_mem {h : House} {x : Job} (hx : x ∈ h.chosen) : x ∈ h.jobs ∧ x.on = none := by
  have q := (choose_mem h.queue [] x hx).resolve_left (by simp)
  have m := List.mem_filter.mp ((sort_perm _ _).mem_iff.mp q)
  refine ⟨m.1, ?_⟩
  have z := m.2
  cases e : x.on with
  | none => rfl
  | some y => rw [e] at z; cases z
end Mt
end
section
set_option autoImplicit false
/-! What holds of every house that is reached: the mathematics alone. -/
namespace Mt
open Rp04
/-- all but what tidy sees to -/
structure WF0 (h : House) : Prop where
  lease : 1 ≤ h.lease ∧ h.lease ≤ 1000000
  age : 1 ≤ h.age ∧ h.age ≤ 1000000
  now : h.now ≤ 1000000
  ms : h.machines.Pairwise (fun a b => a.id < b.id)
  mlen : h.machines.length ≤ 7
  heard : ∀ m ∈ h.machines, m.heard ≤ h.now
  ids : (h.jobs.map (·.id)).Nodup
  turn : h.jobs.Pairwise (fun a b => a.turn < b.turn)
  turns : ∀ j ∈ h.jobs, j.turn < h.turns
  jlen : h.jobs.length ≤ 14
  came : ∀ j ∈ h.jobs, j.came ≤ h.now
  tries : ∀ j ∈ h.jobs, 1 ≤ j.tries
  all : h.jobs.length + h.ended.length ≤ 40
  on : ∀ j ∈ h.jobs, ∀ x, j.on = some x → (∃ m ∈ h.machines, m.id = x.1) ∧ x.2 < h.leases
  one : ∀ i ∈ h.jobs, ∀ j ∈ h.jobs, ∀ x y, i.on = some x → j.on = some y → (x.1 = y.1 ∨ x.2 = y.2) → i.id = j.id
def Runs (h : House) (m : Machine) : Prop := ∃ j ∈ h.jobs, j.on.map (fun x => x.1) = some m.id
structure WF (h : House) : Prop extends WF0 h where
  left : ∀ m ∈ h.machines, m.leaving = true → Runs h m
theorem runs_iff (h : House) (m : Machine) : (h.jobs.any fun j => (j.on.map fun x => x.1) == some m.id) = true ↔ Runs h m := by
  rw [List.any_eq_true]
  constructor
  · rintro ⟨j, hj, e⟩
    exact ⟨j, hj, by simpa using e⟩
  · rintro ⟨j, hj, e⟩
    exact ⟨j, hj, by simpa using e⟩
theorem on_map {o : Option (Nat × Nat)} {n : Nat} (h : o.map (fun x => x.1) = some n) : ∃ k, o = some (n, k) := by
  cases o with
  | none => cases h
  | some x =>
    have e : x.1 = n := Option.some.inj h
    exact ⟨x.2, by rw [← e]⟩
theorem tidy_wf {h : House} (w : WF0 h) : WF h.tidy := by
  have sub : ∀ m, m ∈ h.tidy.machines ↔ m ∈ h.machines ∧ (m.leaving = false ∨ Runs h m) := fun m => by
    show m ∈ h.machines.filter _ ↔ _
    rw [List.mem_filter, Bool.or_eq_true, Bool.not_eq_true', runs_iff]
  refine ⟨⟨w.lease, w.age, w.now, w.ms.filter _, Nat.le_trans (List.length_filter_le _ _) w.mlen, fun m hm => w.heard m ((sub m).mp hm).1, w.ids, w.turn, w.turns, w.jlen, w.came, w.tries, w.all, fun j hj x e => ?_, w.one⟩, fun m hm hl => ?_⟩
  · obtain ⟨⟨m, hm, em⟩, hk⟩ := w.on j hj x e
    exact ⟨⟨m, (sub m).mpr ⟨hm, .inr ⟨j, hj, by rw [e, em]; rfl⟩⟩, em⟩, hk⟩
  · rcases ((sub m).mp hm).2 with z | z
    · rw [z] at hl; cases hl
    · exact z
theorem WF.id_inj {h : House} (w : WF0 h) {i j : Job} (hi : i ∈ h.jobs) (hj : j ∈ h.jobs) (e : i.id = j.id) : i = j := by
  have nd := w.ids
  generalize h.jobs = l at nd hi hj
  induction l with
  | nil => cases hi
  | cons a l ih =>
    rw [List.map_cons, List.nodup_cons] at nd
    rcases List.mem_cons.mp hi with p | p <;> rcases List.mem_cons.mp hj with q | q
    · rw [p, q]
    · exact absurd (List.mem_map.mpr ⟨j, q, by rw [← e, p]⟩) nd.1
    · exact absurd (List.mem_map.mpr ⟨i, p, by rw [e, q]⟩) nd.1
    · exact ih nd.2 p q
theorem WF.m_inj {h : House} (w : WF0 h) {i j : Machine} (hi : i ∈ h.machines) (hj : j ∈ h.machines) (e : i.id = j.id) : i = j := by
  have nd := w.ms
  generalize h.machines = l at nd hi hj
  induction l with
  | nil => cases hi
  | cons a l ih =>
    rw [List.pairwise_cons] at nd
    rcases List.mem_cons.mp hi with p | p <;> rcases List.mem_cons.mp hj with q | q
    · rw [p, q]
    · have := nd.1 j q; rw [p] at e; omega
    · have := nd.1 i p; rw [q] at e; omega
    · exact ih nd.2 p q
/-- jobs are changed in place: number, turn, coming and so on stay -/
theorem map_wf {h : House} (w : WF0 h) (f : Job → Job) (leases : Nat) (fid : ∀ j, (f j).id = j.id) (ft : ∀ j, (f j).turn = j.turn) (fc : ∀ j, (f j).came = j.came) (fr : ∀ j ∈ h.jobs, 1 ≤ (f j).tries)
    (fo : ∀ j ∈ h.jobs, ∀ x, (f j).on = some x → (∃ m ∈ h.machines, m.id = x.1) ∧ x.2 < leases)
    (fu : ∀ i ∈ h.jobs, ∀ j ∈ h.jobs, ∀ x y, (f i).on = some x → (f j).on = some y → (x.1 = y.1 ∨ x.2 = y.2) → i.id = j.id) : WF0 { h with jobs := h.jobs.map f, leases := leases } := by
  have mem : ∀ j, j ∈ h.jobs.map f → ∃ i ∈ h.jobs, f i = j := fun j hj => List.mem_map.mp hj
  refine ⟨w.lease, w.age, w.now, w.ms, w.mlen, w.heard, ?_, ?_, fun j hj => ?_, ?_, fun j hj => ?_, fun j hj => ?_, ?_, fun j hj x e => ?_, fun i hi j hj x y e1 e2 e3 => ?_⟩
  · show ((h.jobs.map f).map (·.id)).Nodup
    have e : (h.jobs.map f).map (·.id) = h.jobs.map (·.id) := by
      rw [List.map_map]
      exact List.map_congr_left fun j _ => fid j
    rw [e]
    exact w.ids
  · show (h.jobs.map f).Pairwise _
    rw [List.pairwise_map]
    exact w.turn.imp fun z => by rw [ft, ft]; exact z
  · obtain ⟨i, hi, e⟩ := mem j hj
    rw [← e, ft]
    exact w.turns i hi
  · show (h.jobs.map f).length ≤ 14
    rw [List.length_map]
    exact w.jlen
  · obtain ⟨i, hi, e⟩ := mem j hj
    rw [← e, fc]
    exact w.came i hi
  · obtain ⟨i, hi, e⟩ := mem j hj
    rw [← e]
    exact fr i hi
  · show (h.jobs.map f).length + h.ended.length ≤ 40
    rw [List.length_map]
    exact w.all
  · obtain ⟨i, hi, ei⟩ := mem j hj
    rw [← ei] at e
    exact fo i hi x e
  · obtain ⟨i', hi', ei⟩ := mem i hi
    obtain ⟨j', hj', ej⟩ := mem j hj
    rw [← ei] at e1
    rw [← ej] at e2
    rw [← ei, ← ej, fid, fid]
    exact fu i' hi' j' hj' x y e1 e2 e3
/-- a job is over -/
theorem over_wf {h : House} (w : WF0 h) {j : Job} (hj : j ∈ h.jobs) (how : Nat) : WF0 (h.over j.id how) := by
  have sub : ∀ i, i ∈ (h.over j.id how).jobs → i ∈ h.jobs := fun i hi => (List.mem_filter.mp hi).1
  have lt : (h.jobs.filter fun i => i.id != j.id).length < h.jobs.length := by
    have := filter_lt (l := h.jobs) (p := fun _ => true) (q := fun i : Job => i.id != j.id) (fun _ _ => rfl) ⟨j, hj, rfl, by simp⟩
    rw [List.filter_eq_self.mpr (fun _ _ => rfl)] at this
    exact this
  refine ⟨w.lease, w.age, w.now, w.ms, w.mlen, w.heard, ?_, w.turn.filter _, fun i hi => w.turns i (sub i hi), Nat.le_trans (List.length_filter_le _ _) w.jlen, fun i hi => w.came i (sub i hi), fun i hi => w.tries i (sub i hi), ?_, fun i hi => w.on i (sub i hi), fun i hi k hk => w.one i (sub i hi) k (sub k hk)⟩
  · show ((h.jobs.filter _).map (·.id)).Nodup
    exact w.ids.sublist (List.filter_sublist.map _)
  · show (h.jobs.filter _).length + (h.ended ++ [(j.id, how)]).length ≤ 40
    rw [List.length_append, List.length_singleton]
    have := w.all
    omega
theorem change_map (id : Nat) (f : Job → Job) (l : List Job) : change id f l = l.map fun j => if j.id = id then f j else j := rfl
/-! ### machines -/
theorem put_perm_m (m : Machine) : ∀ l : List Machine, (putMachine m l).Perm (m :: l)
  | [] => List.Perm.refl _
  | n :: r => by
    rw [putMachine]
    split
    · exact List.Perm.refl _
    · exact ((put_perm_m m r).cons n).trans (List.Perm.swap m n r)
theorem put_sorted (m : Machine) : ∀ l : List Machine, l.Pairwise (fun a b => a.id < b.id) → (∀ n ∈ l, n.id ≠ m.id) → (putMachine m l).Pairwise (fun a b => a.id < b.id)
  | [], _, _ => by
    rw [putMachine]
    exact List.pairwise_singleton _ _
  | n :: r, hp, hn => by
    have hp' := hp
    rw [List.pairwise_cons] at hp
    rw [putMachine]
    split
    · rename_i hlt
      rw [List.pairwise_cons]
      refine ⟨fun x hx => ?_, hp'⟩
      rcases List.mem_cons.mp hx with e | e
      · rw [e]; exact hlt
      · have := hp.1 x e; omega
    · rename_i hlt
      rw [List.pairwise_cons]
      refine ⟨fun x hx => ?_, put_sorted m r hp.2 fun y hy => hn y (List.mem_cons_of_mem _ hy)⟩
      rcases List.mem_cons.mp ((put_perm_m m r).mem_iff.mp hx) with e | e
      · have := hn n List.mem_cons_self
        rw [e]; omega
      · exact hp.1 x e
theorem any_id (h : House) (i : Nat) : (h.machines.any fun m => m.id == i) = true ↔ ∃ m ∈ h.machines, m.id = i := by
  rw [List.any_eq_true]
  simp only [beq_iff_eq]
theorem machine_wf {h : House} (w : WF h) {i l : Nat} (hn : ¬ (h.machines.any fun m => m.id == i) = true) (hl : ¬ h.machines.length = 7) : WF { h with machines := putMachine ⟨i, l, h.now, false⟩ h.machines } := by
  have pm := put_perm_m ⟨i, l, h.now, false⟩ h.machines
  have hn' : ∀ n ∈ h.machines, n.id ≠ i := fun n hm e => hn ((any_id h i).mpr ⟨n, hm, e⟩)
  have up : ∀ n, n ∈ h.machines → n ∈ putMachine ⟨i, l, h.now, false⟩ h.machines := fun n hm => pm.mem_iff.mpr (List.mem_cons_of_mem _ hm)
  refine ⟨⟨w.lease, w.age, w.now, put_sorted _ _ w.ms hn', ?_, fun m hm => ?_, w.ids, w.turn, w.turns, w.jlen, w.came, w.tries, w.all, fun j hj x e => ?_, w.one⟩, fun m hm hl => ?_⟩
  · show (putMachine _ _).length ≤ 7
    rw [pm.length_eq, List.length_cons]
    have := w.mlen
    omega
  · rcases List.mem_cons.mp (pm.mem_iff.mp hm) with e | e
    · rw [e]; exact Nat.le_refl _
    · exact w.heard m e
  · obtain ⟨⟨m, hm, em⟩, hk⟩ := w.on j hj x e
    exact ⟨⟨m, up m hm, em⟩, hk⟩
  · rcases List.mem_cons.mp (pm.mem_iff.mp hm) with e | e
    · rw [e] at hl; cases hl
    · exact w.left m e hl
/-- machines are changed in place -/
theorem mmap_wf {h : House} (w : WF0 h) (f : Machine → Machine) (fid : ∀ m, (f m).id = m.id) (fh : ∀ m ∈ h.machines, (f m).heard ≤ h.now) : WF0 { h with machines := h.machines.map f } := by
  refine ⟨w.lease, w.age, w.now, ?_, ?_, fun m hm => ?_, w.ids, w.turn, w.turns, w.jlen, w.came, w.tries, w.all, fun j hj x e => ?_, w.one⟩
  · show (h.machines.map f).Pairwise _
    rw [List.pairwise_map]
    exact w.ms.imp fun z => by rw [fid, fid]; exact z
  · show (h.machines.map f).length ≤ 7
    rw [List.length_map]
    exact w.mlen
  · obtain ⟨n, hn, e⟩ := List.mem_map.mp hm
    rw [← e]
    exact fh n hn
  · obtain ⟨⟨m, hm, em⟩, hk⟩ := w.on j hj x e
    exact ⟨⟨f m, List.mem_map.mpr ⟨m, hm, rfl⟩, by rw [fid]; exact em⟩, hk⟩
/-! ### jobs -/
theorem known_iff (h : House) (i : Nat) : h.known i = true ↔ ((∃ j ∈ h.jobs, j.id = i) ∨ ∃ x ∈ h.ended, x.1 = i) := by
  unfold House.known House.jobOf
  rw [Bool.or_eq_true, List.find?_isSome, List.any_eq_true]
  simp only [beq_iff_eq]
theorem job_wf {h : House} (w : WF h) {i l u t : Nat} (ht : 1 ≤ t) (hk : ¬ h.known i = true) (hl : ¬ (h.jobs.length = 14 ∨ 40 ≤ h.jobs.length + h.ended.length)) : WF { h with turns := h.turns + 1, jobs := h.jobs ++ [⟨i, l, u, h.now, h.turns, t, 0, none⟩] } := by
  have cs : ∀ j, j ∈ h.jobs ++ [(⟨i, l, u, h.now, h.turns, t, 0, none⟩ : Job)] → j ∈ h.jobs ∨ j = ⟨i, l, u, h.now, h.turns, t, 0, none⟩ := fun j hj => (List.mem_append.mp hj).imp id fun z => List.mem_singleton.mp z
  have old : ∀ j, j ∈ h.jobs ++ [(⟨i, l, u, h.now, h.turns, t, 0, none⟩ : Job)] → ∀ x, j.on = some x → j ∈ h.jobs := fun j hj x e => by
    rcases cs j hj with z | z
    · exact z
    · rw [z] at e; cases e
  have jl := w.jlen
  have al := w.all
  refine ⟨⟨w.lease, w.age, w.now, w.ms, w.mlen, w.heard, ?_, ?_, fun j hj => ?_, ?_, fun j hj => ?_, fun j hj => ?_, ?_, fun j hj x e => w.on j (old j hj x e) x e, fun a ha b hb x y e1 e2 e3 => w.one a (old a ha x e1) b (old b hb y e2) x y e1 e2 e3⟩, fun m hm hl => ?_⟩
  · show ((h.jobs ++ [(⟨i, l, u, h.now, h.turns, t, 0, none⟩ : Job)]).map (·.id)).Nodup
    rw [List.map_append, List.nodup_append]
    refine ⟨w.ids, by simp, fun a ha b hb => ?_⟩
    have eb : b = i := by simpa using hb
    obtain ⟨j, hj, e⟩ := List.mem_map.mp ha
    exact fun z => hk ((known_iff h i).mpr (.inl ⟨j, hj, by rw [e, z, eb]⟩))
  · show (h.jobs ++ [_]).Pairwise _
    rw [List.pairwise_append]
    refine ⟨w.turn, List.pairwise_singleton _ _, fun a ha b hb => ?_⟩
    rw [List.mem_singleton.mp hb]
    exact w.turns a ha
  · show j.turn < h.turns + 1
    rcases cs j hj with z | z
    · have := w.turns j z; omega
    · rw [z]; exact Nat.lt_succ_self _
  · show (h.jobs ++ [_]).length ≤ 14
    rw [List.length_append, List.length_singleton]
    omega
  · rcases cs j hj with z | z
    · exact w.came j z
    · rw [z]; exact Nat.le_refl _
  · rcases cs j hj with z | z
    · exact w.tries j z
    · rw [z]; exact ht
  · show (h.jobs ++ [_]).length + h.ended.length ≤ 40
    rw [List.length_append, List.length_singleton]
    omega
  · obtain ⟨j, hj, e⟩ := w.left m hm hl
    exact ⟨j, List.mem_append.mpr (.inl hj), e⟩
/-! ### serve -/
theorem starts_len : ∀ (k : Nat) (l : List (Job × Machine)), (starts k l).length = l.length
  | _, [] => rfl
  | k, x :: r => by rw [starts, List.length_cons, List.length_cons, starts_len (k + 1) r]
theorem starts_at : ∀ (k : Nat) (l : List (Job × Machine)) (x : Nat × Nat × Nat), x ∈ starts k l → ∃ (i : Nat) (p : Job × Machine), l[i]? = some p ∧ x = (p.1.id, p.2.id, k + i)
  | _, [], x, h => by cases h
  | k, p :: r, x, h => by
    rw [starts] at h
    rcases List.mem_cons.mp h with e | h
    · exact ⟨0, p, rfl, e⟩
    · obtain ⟨i, q, h1, h2⟩ := starts_at (k + 1) r x h
      exact ⟨i + 1, q, by simpa using h1, by rw [h2]; congr 2; omega⟩
theorem setOn_id (l : List (Nat × Nat × Nat)) (j : Job) : (setOn l j).id = j.id ∧ (setOn l j).turn = j.turn ∧ (setOn l j).came = j.came ∧ (setOn l j).tries = j.tries ∧ (setOn l j).labels = j.labels ∧ (setOn l j).urgency = j.urgency ∧ (setOn l j).lost = j.lost := by
  unfold setOn
  split <;> exact ⟨rfl, rfl, rfl, rfl, rfl, rfl, rfl⟩
theorem setOn_on {l : List (Nat × Nat × Nat)} {j : Job} {y : Nat × Nat} (h : (setOn l j).on = some y) : (∃ x ∈ l, x.1 = j.id ∧ x.2 = y) ∨ j.on = some y := by
  unfold setOn at h
  split at h
  · rename_i x e
    have h1 := List.find?_some e
    exact .inl ⟨x, List.mem_of_find?_eq_some e, by simpa using h1, Option.some.inj h⟩
  · exact .inr h
theorem free_iff (h : House) (m : Machine) : m ∈ h.free ↔ m ∈ h.machines ∧ m.leaving = false ∧ ¬ Runs h m := by
  unfold House.free
  rw [List.mem_filter, Bool.and_eq_true, Bool.not_eq_true', Bool.not_eq_true', ← runs_iff, Bool.not_eq_true]
theorem nodup_ixm {l : List (Job × Machine)} (nd : (l.map (·.2.id)).Nodup) {i k : Nat} {p q : Job × Machine} (h1 : l[i]? = some p) (h2 : l[k]? = some q) (e : p.2.id = q.2.id) : i = k := by
  have a : (l.map (·.2.id))[i]? = some p.2.id := by rw [List.getElem?_map, h1]; rfl
  have b : (l.map (·.2.id))[k]? = some p.2.id := by rw [List.getElem?_map, h2, e]; rfl
  obtain ⟨g1, g2⟩ := List.getElem?_eq_some_iff.mp a
  obtain ⟨g3, g4⟩ := List.getElem?_eq_some_iff.mp b
  exact (List.getElem_inj nd).mp (g2.trans g4.symm)
theorem serve_wf {h : House} (w : WF h) : WF { h with leases := h.leases + (starts h.leases h.placed).length, jobs := h.jobs.map (setOn (starts h.leases h.placed)) } := by
  obtain ⟨p1, p2, p3⟩ := placed_is h
  have cls : ∀ j ∈ h.jobs, ∀ y, (setOn (starts h.leases h.placed) j).on = some y → (∃ (i : Nat) (p : Job × Machine), h.placed[i]? = some p ∧ p.1.id = j.id ∧ y = (p.2.id, h.leases + i)) ∨ j.on = some y := fun j hj y e => by
    rcases setOn_on e with ⟨x, hx, h1, h2⟩ | z
    · obtain ⟨i, p, g1, g2⟩ := starts_at _ _ x hx
      rw [g2] at h1 h2
      exact .inl ⟨i, p, g1, h1, h2.symm⟩
    · exact .inr z
  have fr : ∀ (i : Nat) (p : Job × Machine), h.placed[i]? = some p → p.2 ∈ h.free := fun i p e => (p3 p (List.mem_of_getElem? e)).1
  have w0 : WF0 { h with jobs := h.jobs.map (setOn (starts h.leases h.placed)), leases := h.leases + (starts h.leases h.placed).length } := by
    refine map_wf w.toWF0 _ _ (fun j => (setOn_id _ j).1) (fun j => (setOn_id _ j).2.1) (fun j => (setOn_id _ j).2.2.1) (fun j hj => by rw [(setOn_id _ j).2.2.2.1]; exact w.tries j hj) (fun j hj y e => ?_) (fun a ha b hb x y e1 e2 e3 => ?_)
    · rcases cls j hj y e with ⟨i, p, g1, g2, g3⟩ | z
      · rw [g3]
        refine ⟨⟨p.2, ((free_iff h p.2).mp (fr i p g1)).1, rfl⟩, ?_⟩
        have := (List.getElem?_eq_some_iff.mp g1).1
        show h.leases + i < _
        rw [starts_len]
        omega
      · obtain ⟨g1, g2⟩ := w.on j hj y z
        exact ⟨g1, by omega⟩
    · rcases cls a ha x e1 with ⟨i, p, g1, g2, g3⟩ | z1 <;> rcases cls b hb y e2 with ⟨k, q, f1, f2, f3⟩ | z2
      · have e : i = k := by
          rw [g3, f3] at e3
          rcases e3 with e3 | e3
          · exact nodup_ixm p2 g1 f1 e3
          · have e3 : h.leases + i = h.leases + k := e3
            omega
        subst e
        rw [g1] at f1
        cases f1
        rw [← g2, ← f2]
      · exfalso
        obtain ⟨⟨m, hm, em⟩, hk⟩ := w.on b hb y z2
        rw [g3] at e3
        rcases e3 with e3 | e3
        · have e3 : p.2.id = y.1 := e3
          exact ((free_iff h p.2).mp (fr i p g1)).2.2 ⟨b, hb, by rw [z2, e3]; rfl⟩
        · have e3 : h.leases + i = y.2 := e3
          omega
      · exfalso
        obtain ⟨⟨m, hm, em⟩, hk⟩ := w.on a ha x z1
        rw [f3] at e3
        rcases e3 with e3 | e3
        · have e3 : x.1 = q.2.id := e3
          exact ((free_iff h q.2).mp (fr k q f1)).2.2 ⟨a, ha, by rw [z1]; exact congrArg some e3⟩
        · have e3 : x.2 = h.leases + k := e3
          omega
      · exact w.one a ha b hb x y z1 z2 e3
  refine ⟨w0, fun m hm hl => ?_⟩
  obtain ⟨j, hj, e⟩ := w.left m hm hl
  refine ⟨setOn (starts h.leases h.placed) j, List.mem_map.mpr ⟨j, hj, rfl⟩, ?_⟩
  have nc : ∀ x ∈ starts h.leases h.placed, ¬ x.1 = j.id := fun x hx z => by
    obtain ⟨i, p, g1, g2⟩ := starts_at _ _ x hx
    rw [g2] at z
    have mp : p.1 ∈ h.chosen := by rw [← p1]; exact List.mem_map.mpr ⟨p, List.mem_of_getElem? g1, rfl⟩
    obtain ⟨c1, c2⟩ := chosen_mem mp
    have ej := WF.id_inj w.toWF0 c1 hj z
    rw [← ej, c2] at e
    cases e
  have es : setOn (starts h.leases h.placed) j = j := by
    unfold setOn
    have : (starts h.leases h.placed).find? (fun x => x.1 == j.id) = none := by
      rw [List.find?_eq_none]
      intro x hx
      simpa using nc x hx
    rw [this]
  rw [es]
  exact e
/-! ### tick -/
def gone (h : House) (n : Nat) : List Machine := h.machines.filter fun m => decide (h.lease < h.now + n - m.heard)
def onGone (h : House) (n : Nat) (j : Job) : Bool := match j.on with
  | some x => (gone h n).any fun m => m.id == x.1
  | none => false
def ticked (h : House) (n : Nat) : House := { h with now := h.now + n, machines := h.machines.filter fun m => !(gone h n).contains m, jobs := h.jobs.map fun j => if onGone h n j = true then { j with on := none, lost := j.lost + 1 } else j }
theorem tick_wf {h : House} (w : WF h) {n : Nat} (hn : ¬ (n = 0 ∨ FAR < h.now + n)) : WF (ticked h n) := by
  have hF : FAR = 1000000 := rfl
  have w1 : WF0 { h with now := h.now + n } := ⟨w.lease, w.age, by show h.now + n ≤ 1000000; omega, w.ms, w.mlen, fun m hm => Nat.le_trans (w.heard m hm) (Nat.le_add_right _ _), w.ids, w.turn, w.turns, w.jlen, fun j hj => Nat.le_trans (w.came j hj) (Nat.le_add_right _ _), w.tries, w.all, w.on, w.one⟩
  have cls : ∀ j x, (if onGone h n j = true then { j with on := none, lost := j.lost + 1 } else j : Job).on = some x → onGone h n j = false ∧ j.on = some x := fun j x e => by
    by_cases z : onGone h n j = true
    · rw [if_pos z] at e; cases e
    · rw [if_neg z] at e; exact ⟨by simpa using z, e⟩
  have w2 : WF0 { h with now := h.now + n, jobs := h.jobs.map fun j => if onGone h n j = true then { j with on := none, lost := j.lost + 1 } else j } := by
    refine map_wf w1 _ h.leases (fun j => ?_) (fun j => ?_) (fun j => ?_) (fun j hj => ?_) (fun j hj x e => w.on j hj x (cls j x e).2) fun a ha b hb x y e1 e2 e3 => w.one a ha b hb x y (cls a x e1).2 (cls b y e2).2 e3
    all_goals (try split)
    all_goals first
      | rfl
      | exact w.tries j hj
  have keep : ∀ j ∈ h.jobs, ∀ x, onGone h n j = false → j.on = some x → ∃ m ∈ h.machines, m.id = x.1 ∧ (gone h n).contains m = false := fun j hj x e1 e2 => by
    obtain ⟨⟨m, hm, em⟩, _⟩ := w.on j hj x e2
    refine ⟨m, hm, em, ?_⟩
    rw [List.contains_eq_mem, decide_eq_false_iff_not]
    intro z
    unfold onGone at e1
    rw [e2] at e1
    have : ((gone h n).any fun m => m.id == x.1) = true := List.any_eq_true.mpr ⟨m, z, by simpa using em⟩
    have e1 : ((gone h n).any fun m => m.id == x.1) = false := e1
    rw [this] at e1
    cases e1
  refine ⟨⟨w2.lease, w2.age, w2.now, w2.ms.filter _, Nat.le_trans (List.length_filter_le _ _) w2.mlen, fun m hm => w2.heard m (List.mem_filter.mp hm).1, w2.ids, w2.turn, w2.turns, w2.jlen, w2.came, w2.tries, w2.all, fun j hj x e => ?_, w2.one⟩, fun m hm hl => ?_⟩
  · refine ⟨?_, (w2.on j hj x e).2⟩
    obtain ⟨i, hi, ei⟩ := List.mem_map.mp hj
    rw [← ei] at e
    obtain ⟨g1, g2⟩ := cls i x e
    obtain ⟨m, hm, em, hg⟩ := keep i hi x g1 g2
    exact ⟨m, List.mem_filter.mpr ⟨hm, by rw [hg]; rfl⟩, em⟩
  · obtain ⟨hm1, hm2⟩ := List.mem_filter.mp hm
    obtain ⟨j, hj, e⟩ := w.left m hm1 hl
    obtain ⟨k, ek⟩ := on_map e
    refine ⟨_, List.mem_map.mpr ⟨j, hj, rfl⟩, ?_⟩
    have ng : onGone h n j = false := by
      unfold onGone
      rw [ek]
      refine Bool.eq_false_iff.mpr fun z => ?_
      obtain ⟨m', hm', em'⟩ := List.any_eq_true.mp z
      have em' : m'.id = m.id := by simpa using em'
      have mm : m' = m := WF.m_inj w.toWF0 (List.mem_filter.mp hm').1 hm1 em'
      rw [mm] at hm'
      rw [Bool.not_eq_true', List.contains_eq_mem, decide_eq_false_iff_not] at hm2
      exact hm2 hm'
    rw [if_neg (by rw [ng]; decide)]
    exact e
/-! ### all calls -/
theorem leaseOf_mem {h : House} {k : Nat} {j : Job} (e : h.leaseOf k = some j) : j ∈ h.jobs ∧ ∃ m, j.on = some (m, k) := by
  unfold House.leaseOf at e
  have h1 := List.find?_some e
  refine ⟨List.mem_of_find?_eq_some e, ?_⟩
  have h1 : (j.on.map fun x => x.2) = some k := by simpa using h1
  cases q : j.on with
  | none => rw [q] at h1; cases h1
  | some x =>
    rw [q] at h1
    have ek : x.2 = k := Option.some.inj h1
    exact ⟨x.1, by rw [← ek]⟩
theorem jobOf_mem {h : House} {i : Nat} {j : Job} (e : h.jobOf i = some j) : j ∈ h.jobs ∧ j.id = i := by
  unfold House.jobOf at e
  have h1 := List.find?_some e
  exact ⟨List.mem_of_find?_eq_some e, by simpa using h1⟩
theorem new_wf {k a : Nat} (hk : 1 ≤ k ∧ k ≤ 1000000) (ha : 1 ≤ a ∧ a ≤ 1000000) : WF ⟨k, a, 0, 0, 0, [], [], []⟩ :=
  ⟨⟨hk, ha, Nat.zero_le _, .nil, Nat.zero_le _, fun m hm => (by cases hm), .nil, .nil, fun j hj => (by cases hj), Nat.zero_le _, fun j hj => (by cases hj), fun j hj => (by cases hj), Nat.zero_le _, fun j hj => (by cases hj), fun j hj => (by cases hj)⟩, fun m hm => (by cases hm)⟩
theorem init_wf : WF init := new_wf ⟨by decide, by decide⟩ ⟨by decide, by decide⟩
theorem step_wf {h : House} (w : WF h) (c : Call) : WF (step h c).1 := by
  have hF : FAR = 1000000 := rfl
  cases c with
  | begins k a =>
    rw [step]
    split
    · exact w
    · exact new_wf (by omega) (by omega)
  | machine i l =>
    rw [step]
    split
    · exact w
    · split
      · exact w
      · split
        · exact w
        · exact machine_wf w (by assumption) (by assumption)
  | job i l u t =>
    rw [step]
    split
    · exact w
    · split
      · exact w
      · split
        · exact w
        · exact job_wf w (by omega) (by assumption) (by assumption)
  | serve => exact serve_wf w
  | beat i =>
    rw [step]
    split
    · exact w
    · refine ⟨mmap_wf w.toWF0 _ (fun m => by split <;> rfl) (fun m hm => ?_), fun m hm hl => ?_⟩
      · split
        · exact Nat.le_refl _
        · exact w.heard m hm
      · obtain ⟨n, hn, e⟩ := List.mem_map.mp hm
        have e1 : n.id = m.id ∧ n.leaving = m.leaving := by
          rw [← e]
          split <;> exact ⟨rfl, rfl⟩
        obtain ⟨j, hj, ej⟩ := w.left n hn (by rw [e1.2]; exact hl)
        exact ⟨j, hj, by rw [← e1.1]; exact ej⟩
  | result k q =>
    rw [step]
    cases e : h.leaseOf k with
    | none => exact w
    | some j =>
      obtain ⟨hj, m, hm⟩ := leaseOf_mem e
      dsimp only
      split
      · exact tidy_wf (over_wf w.toWF0 hj 1)
      · split
        · exact tidy_wf (over_wf w.toWF0 hj 0)
        · rename_i ht
          have t1 := w.tries j hj
          refine tidy_wf (map_wf w.toWF0 _ h.leases (fun i => ?_) (fun i => ?_) (fun i => ?_) (fun i hi => ?_) (fun i hi x ex => ?_) (fun a ha b hb x y e1 e2 e3 => ?_))
          · split <;> rfl
          · split <;> rfl
          · split <;> rfl
          · split
            · rename_i z
              have := WF.id_inj w.toWF0 hi hj z
              rw [this]
              show 1 ≤ j.tries - 1
              omega
            · exact w.tries i hi
          · split at ex
            · cases ex
            · exact w.on i hi x ex
          · split at e1
            · cases e1
            · split at e2
              · cases e2
              · exact w.one a ha b hb x y e1 e2 e3
  | tick n =>
    rw [step]
    split
    · exact w
    · exact tick_wf w (by assumption)
  | drain i =>
    rw [step]
    cases e : h.machines.find? fun m => m.id == i with
    | none => exact w
    | some m =>
      dsimp only
      split
      · exact w
      · refine tidy_wf (mmap_wf w.toWF0 _ (fun m => by split <;> rfl) (fun m hm => ?_))
        split <;> exact w.heard m hm
  | cancel i =>
    rw [step]
    cases e : h.jobOf i with
    | none => exact w
    | some j =>
      obtain ⟨hj, ej⟩ := jobOf_mem e
      rw [← ej]
      exact tidy_wf (over_wf w.toWF0 hj 2)
  | why i =>
    rw [step]
    cases e : h.jobOf i with
    | none => exact w
    | some j => exact w
  | queue => exact w
  | machines => exact w
  | ends => exact w
end Mt
end
section
set_option linter.all false
/-! What the calls do to a house, in the program's steps: the mathematics alone. -/
namespace Lr
open Rp04 Mt
def reJob (j j' : Job) (l : List Job) : List Job := l.map fun i => if i.id = j.id then j' else i
def reMach (m m' : Machine) (l : List Machine) : List Machine := l.map fun i => if i.id = m.id then m' else i
/-- a job runs on m -/
def busyB (h : House) (m : Machine) : Bool := h.jobs.any fun j => (j.on.map fun x => x.1) == some m.id
theorem busy_iff (h : House) (m : Machine) : busyB h m = true ↔ Runs h m := runs_iff h m
/-- what holds of the jobs that are over -/
structure WE (h : House) : Prop where
  nd : (h.ended.map (·.1)).Nodup
  apart : ∀ j ∈ h.jobs, ∀ x ∈ h.ended, x.1 ≠ j.id
/-- j's run is stopped: on m, which is gone if it was leaving -/
def stopped (h : House) (j : Job) (m : Machine) : House := { h with jobs := reJob j { j with on := none } h.jobs, machines := if m.leaving = true then h.machines.filter (fun n => n.id != m.id) else h.machines }
theorem any_run (js : List Job) (n : Nat) : (js.any fun j => (j.on.map fun x => x.1) == some n) = true ↔ ∃ j ∈ js, j.on.map (fun x => x.1) = some n := by
  rw [List.any_eq_true]
  constructor
  · rintro ⟨j, hj, e⟩; exact ⟨j, hj, beq_iff_eq.mp e⟩
  · rintro ⟨j, hj, e⟩; exact ⟨j, hj, beq_iff_eq.mpr e⟩
/-- those that nobody runs on go, once j doesn't run any more -/
theorem tidy_stop {h : House} (W : WF h) {j : Job} {m : Machine} {k : Nat} (hj : j ∈ h.jobs) (ho : j.on = some (m.id, k)) (hm : m ∈ h.machines) {js : List Job} (hs : ∀ n : Nat, (∃ i ∈ js, i.on.map (fun x => x.1) = some n) ↔ ∃ i ∈ h.jobs, i.id ≠ j.id ∧ i.on.map (fun x => x.1) = some n) :
    (h.machines.filter fun n => !n.leaving || js.any fun i => (i.on.map fun x => x.1) == some n.id) = if m.leaving = true then h.machines.filter (fun n => n.id != m.id) else h.machines := by
  have one : ∀ i ∈ h.jobs, i.on.map (fun x => x.1) = some m.id → i.id = j.id := fun i hi e => by
    obtain ⟨k', e'⟩ := on_map e
    exact W.one i hi j hj _ _ e' ho (.inl rfl)
  have key : ∀ n ∈ h.machines, (!n.leaving || js.any fun i => (i.on.map fun x => x.1) == some n.id) = !(m.leaving && n.id == m.id) := fun n hn => by
    by_cases c : n.id = m.id
    · have en : n = m := WF.m_inj W.toWF0 hn hm c
      subst en
      have z : (js.any fun i => (i.on.map fun x => x.1) == some n.id) = false := by
        rw [Bool.eq_false_iff]
        intro y
        obtain ⟨i, hi, ne, e⟩ := (hs n.id).mp ((any_run js n.id).mp y)
        exact ne (one i hi e)
      rw [z]
      simp
    · have c2 : (n.id == m.id) = false := beq_eq_false_iff_ne.mpr c
      rw [c2, Bool.and_false, Bool.not_false]
      cases e : n.leaving with
      | false => rfl
      | true =>
        obtain ⟨i, hi, ei⟩ := W.left n hn e
        have z : (js.any fun i => (i.on.map fun x => x.1) == some n.id) = true := (any_run js n.id).mpr ((hs n.id).mpr ⟨i, hi, fun q => c ?_, ei⟩)
        · rw [z]; rfl
        · rw [WF.id_inj W.toWF0 hi hj q, ho] at ei
          exact (Option.some.inj ei).symm
  rw [List.filter_congr key]
  cases e : m.leaving with
  | false => simp
  | true =>
    rw [if_pos rfl]
    exact List.filter_congr fun n _ => by rw [Bool.true_and]; rfl
theorem reJob_on {h : House} (W : WF0 h) {j j' : Job} (hj : j ∈ h.jobs) (e : j'.on = none) (n : Nat) : (∃ i ∈ reJob j j' h.jobs, i.on.map (fun x => x.1) = some n) ↔ ∃ i ∈ h.jobs, i.id ≠ j.id ∧ i.on.map (fun x => x.1) = some n := by
  constructor
  · rintro ⟨i, hi, ei⟩
    obtain ⟨l, hl, el⟩ := List.mem_map.mp hi
    by_cases c : l.id = j.id
    · rw [if_pos c] at el; rw [← el, e] at ei; cases ei
    · rw [if_neg c] at el; subst el; exact ⟨l, hl, c, ei⟩
  · rintro ⟨i, hi, ne, ei⟩
    exact ⟨i, List.mem_map.mpr ⟨i, hi, if_neg ne⟩, ei⟩
theorem filt_on {h : House} {j : Job} (n : Nat) : (∃ i ∈ h.jobs.filter (fun i => i.id != j.id), i.on.map (fun x => x.1) = some n) ↔ ∃ i ∈ h.jobs, i.id ≠ j.id ∧ i.on.map (fun x => x.1) = some n := by
  constructor
  · rintro ⟨i, hi, ei⟩
    obtain ⟨a, b⟩ := List.mem_filter.mp hi
    exact ⟨i, a, bne_iff_ne.mp b, ei⟩
  · rintro ⟨i, hi, ne, ei⟩
    exact ⟨i, List.mem_filter.mpr ⟨hi, bne_iff_ne.mpr ne⟩, ei⟩
theorem reJob_filter (j j' : Job) (e : j'.id = j.id) (l : List Job) : (reJob j j' l).filter (fun i => i.id != j.id) = l.filter fun i => i.id != j.id := by
  induction l with
  | nil => rfl
  | cons a l ih =>
    show (((if a.id = j.id then j' else a) :: reJob j j' l).filter fun i => i.id != j.id) = _
    by_cases c : a.id = j.id
    · rw [if_pos c, List.filter_cons_of_neg (by simp [e]), List.filter_cons_of_neg (by simp [c]), ih]
    · rw [if_neg c, List.filter_cons_of_pos (by simp [c]), List.filter_cons_of_pos (by simp [c]), ih]
theorem over_stop {h : House} (W : WF h) {j : Job} {m : Machine} {k how : Nat} (hj : j ∈ h.jobs) (ho : j.on = some (m.id, k)) (hm : m ∈ h.machines) : (stopped h j m).over j.id how = (h.over j.id how).tidy := by
  have t := tidy_stop W hj ho hm (js := h.jobs.filter fun i => i.id != j.id) filt_on
  unfold stopped House.over House.tidy
  dsimp only
  rw [t, reJob_filter j { j with on := none } rfl]
theorem again_stop {h : House} (W : WF h) {j : Job} {m : Machine} {k : Nat} (hj : j ∈ h.jobs) (ho : j.on = some (m.id, k)) (hm : m ∈ h.machines) :
    { stopped h j m with jobs := reJob j { j with on := none, tries := j.tries - 1 } (reJob j { j with on := none } h.jobs) } = ({ h with jobs := change j.id (fun i => { i with tries := i.tries - 1, on := none }) h.jobs } : House).tidy := by
  have e1 : reJob j { j with on := none, tries := j.tries - 1 } (reJob j { j with on := none } h.jobs) = reJob j { j with on := none, tries := j.tries - 1 } h.jobs := by
    unfold reJob
    rw [List.map_map]
    refine List.map_congr_left fun i _ => ?_
    show (if (if i.id = j.id then { j with on := none } else i : Job).id = j.id then _ else _) = _
    by_cases c : i.id = j.id
    · rw [if_pos c, if_pos c, if_pos (show ({ j with on := none } : Job).id = j.id from rfl)]
    · simp only [if_neg c]
  have e2 : change j.id (fun i => { i with tries := i.tries - 1, on := none }) h.jobs = reJob j { j with on := none, tries := j.tries - 1 } h.jobs := by
    unfold change reJob
    refine List.map_congr_left fun i hi => ?_
    by_cases c : i.id = j.id
    · rw [if_pos c, if_pos c, WF.id_inj W.toWF0 hi hj c]
    · rw [if_neg c, if_neg c]
  have t := tidy_stop W hj ho hm (js := reJob j { j with on := none, tries := j.tries - 1 } h.jobs) (reJob_on W.toWF0 hj rfl)
  rw [e1, e2]
  unfold stopped House.tidy
  dsimp only
  rw [t]
/-- a job that waits takes no machine with it -/
theorem over_wait {h : House} (W : WF h) {j : Job} {how : Nat} (hj : j ∈ h.jobs) (ho : j.on = none) : h.over j.id how = (h.over j.id how).tidy := by
  have t : (h.machines.filter fun n => !n.leaving || (h.jobs.filter fun i => i.id != j.id).any fun i => (i.on.map fun x => x.1) == some n.id) = h.machines := by
    rw [List.filter_eq_self]
    intro n hn
    cases e : n.leaving with
    | false => rfl
    | true =>
      obtain ⟨i, hi, ei⟩ := W.left n hn e
      have z := (any_run (h.jobs.filter fun i => i.id != j.id) n.id).mpr ((filt_on n.id).mpr ⟨i, hi, fun q => ?_, ei⟩)
      · rw [z]; rfl
      · rw [WF.id_inj W.toWF0 hi hj q, ho] at ei
        cases ei
  unfold House.over House.tidy
  dsimp only
  rw [t]
/-! ### drain -/
theorem drain_busy {h : House} (W : WF h) {m : Machine} (hm : m ∈ h.machines) (hb : busyB h m = true) :
    ({ h with machines := h.machines.map fun n => if n.id = m.id then { n with leaving := true } else n } : House).tidy = { h with machines := reMach m { m with leaving := true } h.machines } := by
  have e : (h.machines.map fun n => if n.id = m.id then { n with leaving := true } else n) = reMach m { m with leaving := true } h.machines := by
    unfold reMach
    refine List.map_congr_left fun n hn => ?_
    by_cases c : n.id = m.id
    · rw [if_pos c, if_pos c, WF.m_inj W.toWF0 hn hm c]
    · rw [if_neg c, if_neg c]
  rw [e]
  unfold House.tidy
  dsimp only
  have t : (reMach m { m with leaving := true } h.machines).filter (fun n => !n.leaving || h.jobs.any fun j => (j.on.map fun x => x.1) == some n.id) = reMach m { m with leaving := true } h.machines := by
    rw [List.filter_eq_self]
    intro n hn
    obtain ⟨l, hl, el⟩ := List.mem_map.mp hn
    by_cases c : l.id = m.id
    · rw [if_pos c] at el
      have z : (h.jobs.any fun j => (j.on.map fun x => x.1) == some n.id) = true := by rw [← el]; exact hb
      rw [z, Bool.or_true]
    · rw [if_neg c] at el
      subst el
      cases e2 : l.leaving with
      | false => rfl
      | true =>
        have z : (h.jobs.any fun j => (j.on.map fun x => x.1) == some l.id) = true := (runs_iff h l).mpr (W.left l hl e2)
        rw [z]; rfl
  rw [t]
theorem drain_free {h : House} (W : WF h) {m : Machine} (hm : m ∈ h.machines) (hb : busyB h m = false) :
    ({ h with machines := h.machines.map fun n => if n.id = m.id then { n with leaving := true } else n } : House).tidy = { h with machines := h.machines.filter fun n => n.id != m.id } := by
  unfold House.tidy
  dsimp only
  have t : ∀ l : List Machine, (∀ n ∈ l, n ∈ h.machines) → (l.map fun n => if n.id = m.id then { n with leaving := true } else n).filter (fun n => !n.leaving || h.jobs.any fun j => (j.on.map fun x => x.1) == some n.id) = l.filter fun n => n.id != m.id := by
    intro l
    induction l with
    | nil => intro _; rfl
    | cons a l ih =>
      intro hl
      have ih' := ih fun n hn => hl n (List.mem_cons_of_mem _ hn)
      have ha := hl a List.mem_cons_self
      rw [List.map_cons]
      by_cases c : a.id = m.id
      · rw [if_pos c, List.filter_cons_of_neg, List.filter_cons_of_neg (by simp [c]), ih']
        have z : (h.jobs.any fun j => (j.on.map fun x => x.1) == some a.id) = false := by rw [c]; exact hb
        show ¬ ((!true || h.jobs.any fun j => (j.on.map fun x => x.1) == some a.id) = true)
        rw [z]; simp
      · rw [if_neg c, List.filter_cons_of_pos, List.filter_cons_of_pos (by simp [c]), ih']
        cases e2 : a.leaving with
        | false => rfl
        | true =>
          have z : (h.jobs.any fun j => (j.on.map fun x => x.1) == some a.id) = true := (runs_iff h a).mpr (W.left a ha e2)
          rw [z]; rfl
  rw [t h.machines fun _ z => z]
/-! ### what holds of the jobs that are over -/
theorem over_we {h : House} (w : WE h) (nd : (h.jobs.map (·.id)).Nodup) {j : Job} (hj : j ∈ h.jobs) (how : Nat) : WE (h.over j.id how) := by
  refine ⟨?_, fun i hi x hx => ?_⟩
  · show ((h.ended ++ [(j.id, how)]).map (·.1)).Nodup
    rw [List.map_append]
    refine List.nodup_append.mpr ⟨w.nd, by simp, fun a ha b hb => ?_⟩
    obtain ⟨x, hx, ex⟩ := List.mem_map.mp ha
    have eb : b = j.id := by simpa using hb
    rw [← ex, eb]
    exact w.apart j hj x hx
  · have hi' : i ∈ h.jobs.filter fun i => i.id != j.id := hi
    obtain ⟨a, b⟩ := List.mem_filter.mp hi'
    rcases List.mem_append.mp (show x ∈ h.ended ++ [(j.id, how)] from hx) with z | z
    · exact w.apart i a x z
    · rw [List.mem_singleton.mp z]
      exact fun q => (bne_iff_ne.mp b) q.symm
theorem tidy_we {h : House} (w : WE h) : WE h.tidy := ⟨w.nd, w.apart⟩
theorem map_we {h : House} (w : WE h) (f : Job → Job) (fid : ∀ j, (f j).id = j.id) {h' : House} (e1 : h'.jobs = h.jobs.map f) (e2 : h'.ended = h.ended) : WE h' := by
  refine ⟨by rw [e2]; exact w.nd, fun i hi x hx => ?_⟩
  rw [e1] at hi
  rw [e2] at hx
  obtain ⟨j, hj, ej⟩ := List.mem_map.mp hi
  rw [← ej, fid]
  exact w.apart j hj x hx
theorem step_we {h : House} (W : WF h) (w : WE h) (c : Call) : WE (step h c).1 := by
  cases c with
  | begins k a =>
    show WE (if _ then _ else _ : House × Ans).1
    split
    · exact w
    · exact ⟨List.nodup_nil, nofun⟩
  | machine i l =>
    show WE (if _ then _ else _ : House × Ans).1
    split
    · exact w
    · split
      · exact w
      · split
        · exact w
        · exact ⟨w.nd, w.apart⟩
  | job i l u t =>
    show WE (if _ then _ else _ : House × Ans).1
    split
    · exact w
    · split
      · exact w
      · rename_i hk
        split
        · exact w
        · refine ⟨w.nd, fun j hj x hx => ?_⟩
          rcases List.mem_append.mp (show j ∈ h.jobs ++ [_] from hj) with z | z
          · exact w.apart j z x hx
          · rw [List.mem_singleton.mp z]
            exact fun q => hk ((known_iff h i).mpr (.inr ⟨x, hx, q⟩))
  | serve => exact map_we w _ (fun j => (setOn_id _ j).1) rfl rfl
  | beat i =>
    show WE (if _ then _ else _ : House × Ans).1
    split
    · exact w
    · exact ⟨w.nd, w.apart⟩
  | result k q =>
    show WE (match h.leaseOf k with | none => (h, ok (-5)) | some j => _ : House × Ans).1
    cases e : h.leaseOf k with
    | none => exact w
    | some j =>
      obtain ⟨hj, _⟩ := leaseOf_mem e
      show WE (if _ then _ else _ : House × Ans).1
      split
      · exact tidy_we (over_we w W.ids hj 1)
      · split
        · exact tidy_we (over_we w W.ids hj 0)
        · refine tidy_we (map_we w (fun i => if i.id = j.id then _ else i) (fun i => ?_) rfl rfl)
          split <;> rfl
  | tick n =>
    show WE (if _ then _ else _ : House × Ans).1
    split
    · exact w
    · refine map_we w _ (fun i => ?_) rfl rfl
      split <;> rfl
  | drain i =>
    show WE (match h.machines.find? (fun m => m.id == i) with | none => (h, ok (-2)) | some m => _ : House × Ans).1
    cases e : h.machines.find? (fun m => m.id == i) with
    | none => exact w
    | some m =>
      show WE (if _ then _ else _ : House × Ans).1
      split
      · exact w
      · exact tidy_we ⟨w.nd, w.apart⟩
  | cancel i =>
    show WE (match h.jobOf i with | none => (h, ok (-2)) | some j => _ : House × Ans).1
    cases e : h.jobOf i with
    | none => exact w
    | some j =>
      obtain ⟨hj, ej⟩ := jobOf_mem e
      rw [← ej]
      exact tidy_we (over_we w W.ids hj 2)
  | why i =>
    show WE (match h.jobOf i with | none => (h, ok (-2)) | some j => _ : House × Ans).1
    cases e : h.jobOf i with
    | none => exact w
    | some j => exact w
  | queue => exact w
  | machines => exact w
  | ends => exact w
theorem init_we : WE init := ⟨List.nodup_nil, nofun⟩
end Lr
end
section
set_option linter.all false
/-! The rivals, step by step: the mathematics alone. -/
namespace Lr
open Rp04 Mt
/-- those found by n steps, with their machines -/
def rivS (ps : List (Job × Machine)) (j : Job) : Nat → List (Job × Machine)
  | 0 => []
  | n + 1 => ps.filter fun x => (j :: (rivS ps j n).map (·.1)).any fun y => suits x.2 y
theorem rivS_sub {ps : List (Job × Machine)} {j : Job} : ∀ {n : Nat} {x : Job × Machine}, x ∈ rivS ps j n → x ∈ ps
  | 0, _, h => by cases h
  | _ + 1, _, h => (List.mem_filter.mp h).1
theorem rivS_mem {ps : List (Job × Machine)} {j : Job} {n : Nat} {x : Job × Machine} : x ∈ rivS ps j (n + 1) ↔ x ∈ ps ∧ ∃ y, (y = j ∨ ∃ z ∈ rivS ps j n, z.1 = y) ∧ suits x.2 y = true := by
  show x ∈ (ps.filter fun x => (j :: (rivS ps j n).map (·.1)).any fun y => suits x.2 y) ↔ _
  rw [List.mem_filter, List.any_eq_true]
  refine and_congr_right fun _ => ?_
  constructor
  · rintro ⟨y, hy, e⟩
    refine ⟨y, ?_, e⟩
    rcases List.mem_cons.mp hy with z | z
    · exact .inl z
    · obtain ⟨a, b, c⟩ := List.mem_map.mp z
      exact .inr ⟨a, b, c⟩
  · rintro ⟨y, hy, e⟩
    refine ⟨y, ?_, e⟩
    rcases hy with z | ⟨a, b, c⟩
    · rw [z]; exact List.mem_cons_self
    · exact List.mem_cons_of_mem _ (List.mem_map.mpr ⟨a, b, c⟩)
theorem rivS_riv {ps : List (Job × Machine)} {j : Job} : ∀ {n : Nat} {x : Job × Machine}, x ∈ rivS ps j n → Riv ps j x.1
  | 0, _, h => by cases h
  | n + 1, x, h => by
    obtain ⟨hx, y, hy, e⟩ := rivS_mem.mp h
    rcases hy with z | ⟨a, b, c⟩
    · rw [z] at e; exact .base hx e
    · rw [← c] at e; exact .more (rivS_riv b) hx e
theorem rivS_mono {ps : List (Job × Machine)} {j : Job} (hs : ∀ x ∈ ps, suits x.2 x.1 = true) {n : Nat} {x : Job × Machine} (h : x ∈ rivS ps j n) : x ∈ rivS ps j (n + 1) :=
  rivS_mem.mpr ⟨rivS_sub h, x.1, .inr ⟨x, h, rfl⟩, hs x (rivS_sub h)⟩
theorem filt_eq {α : Type} {p q : α → Bool} : ∀ {l : List α}, (∀ x ∈ l, q x = true → p x = true) → ((l.filter q).length < (l.filter p).length ∨ l.filter q = l.filter p)
  | [], _ => .inr rfl
  | a :: l, h => by
    have ih := filt_eq (l := l) fun x hx => h x (List.mem_cons_of_mem _ hx)
    have ha := h a List.mem_cons_self
    cases c : q a with
    | true =>
      rw [List.filter_cons_of_pos c, List.filter_cons_of_pos (ha c), List.length_cons, List.length_cons]
      rcases ih with z | z
      · exact .inl (by omega)
      · exact .inr (by rw [z])
    | false =>
      have cn : ¬ q a = true := by rw [c]; decide
      rw [List.filter_cons_of_neg cn]
      cases d : p a with
      | true =>
        rw [List.filter_cons_of_pos d, List.length_cons]
        refine .inl ?_
        rcases ih with z | z
        · omega
        · rw [z]; omega
      | false =>
        rw [List.filter_cons_of_neg (by rw [d]; decide)]
        exact ih
theorem rivS_grow {ps : List (Job × Machine)} {j : Job} (hs : ∀ x ∈ ps, suits x.2 x.1 = true) (n : Nat) : (rivS ps j n).length < (rivS ps j (n + 1)).length ∨ rivS ps j n = rivS ps j (n + 1) := by
  cases n with
  | zero =>
    cases e : rivS ps j 1 with
    | nil => exact .inr rfl
    | cons a l => exact .inl (by show 0 < _; rw [List.length_cons]; omega)
  | succ n =>
    refine filt_eq fun x hx h => ?_
    have z : x ∈ rivS ps j (n + 1) := List.mem_filter.mpr ⟨hx, h⟩
    exact (List.mem_filter.mp (rivS_mono hs z)).2
theorem rivS_next {ps : List (Job × Machine)} {j : Job} {n : Nat} (e : rivS ps j n = rivS ps j (n + 1)) : rivS ps j (n + 1) = rivS ps j (n + 2) := by
  show (ps.filter fun x => (j :: (rivS ps j n).map (·.1)).any fun y => suits x.2 y) = ps.filter fun x => (j :: (rivS ps j (n + 1)).map (·.1)).any fun y => suits x.2 y
  rw [e]
theorem rivS_fix {ps : List (Job × Machine)} {j : Job} (hs : ∀ x ∈ ps, suits x.2 x.1 = true) : ∀ n, n ≤ (rivS ps j n).length ∨ rivS ps j n = rivS ps j (n + 1)
  | 0 => .inl (Nat.zero_le _)
  | n + 1 => by
    rcases rivS_grow hs n (j := j) with z | z
    · rcases rivS_fix (j := j) hs n with y | y
      · exact .inl (by omega)
      · rw [← y] at z; omega
    · exact .inr (rivS_next z)
theorem rivS_end {ps : List (Job × Machine)} {j : Job} (hs : ∀ x ∈ ps, suits x.2 x.1 = true) : rivS ps j ps.length = rivS ps j (ps.length + 1) := by
  rcases rivS_fix hs ps.length (j := j) with z | z
  · rcases rivS_grow hs ps.length (j := j) with y | y
    · have l : (rivS ps j (ps.length + 1)).length ≤ ps.length := List.length_filter_le _ _
      omega
    · exact y
  · exact z
theorem rivS_closed {ps : List (Job × Machine)} {j : Job} (hs : ∀ x ∈ ps, suits x.2 x.1 = true) {y : Job} (r : Riv ps j y) : ∃ x ∈ rivS ps j ps.length, x.1 = y := by
  induction r with
  | base hx e => exact ⟨_, by rw [rivS_end hs]; exact rivS_mem.mpr ⟨hx, j, .inl rfl, e⟩, rfl⟩
  | more _ hx e ih =>
    obtain ⟨z, hz, ez⟩ := ih
    exact ⟨_, by rw [rivS_end hs]; exact rivS_mem.mpr ⟨hx, _, .inr ⟨z, hz, ez⟩, e⟩, rfl⟩
theorem fst_inj : ∀ {ps : List (Job × Machine)}, (ps.map (·.1)).Nodup → ∀ x ∈ ps, ∀ y ∈ ps, x.1 = y.1 → x = y
  | [], _, x, hx, _, _, _ => by cases hx
  | a :: ps, nd, x, hx, y, hy, e => by
    have nd' := List.nodup_cons.mp nd
    rcases List.mem_cons.mp hx with z | z
    · rcases List.mem_cons.mp hy with w | w
      · rw [z, w]
      · exact absurd (List.mem_map.mpr ⟨y, w, by rw [← e, z]⟩) nd'.1
    · rcases List.mem_cons.mp hy with w | w
      · exact absurd (List.mem_map.mpr ⟨x, z, by rw [e, w]⟩) nd'.1
      · exact fst_inj nd'.2 x z y w e
/-- what the program finds are the rivals -/
theorem rivals_are {h : House} (nd : (h.chosen.map (·.id)).Nodup) {j : Job} (hj : j ∉ h.chosen) : (rivS h.placed j h.placed.length).map (·.1) = h.rivals j := by
  have P := placed_is h
  have hs : ∀ x ∈ h.placed, suits x.2 x.1 = true := fun x hx => (P.2.2 x hx).2
  have ndc : (h.placed.map (·.1)).Nodup := by
    rw [P.1]
    have z : h.chosen.Pairwise (fun a b => a.id ≠ b.id) := List.pairwise_map.mp nd
    exact z.imp fun {a b} n e => n (by rw [e])
  have er : h.rivals j = h.chosen.filter fun i => decide (i ∈ h.rivals j) := by
    have z : ∀ i ∈ h.chosen, (chain h.placed h.free (h.free.length + 1) [j]).contains i = decide (i ∈ h.rivals j) := fun i hi => by
      rw [Bool.eq_iff_iff, decide_eq_true_iff]
      constructor
      · exact fun q => List.mem_filter.mpr ⟨hi, q⟩
      · exact fun q => (List.mem_filter.mp q).2
    exact List.filter_congr z
  rw [er, ← P.1, List.filter_map]
  refine congrArg (List.map fun x : Job × Machine => x.1) ?_
  rw [rivS_end hs]
  show (h.placed.filter fun x => (j :: (rivS h.placed j h.placed.length).map (·.1)).any fun y => suits x.2 y) = _
  refine List.filter_congr fun x hx => ?_
  rw [Bool.eq_iff_iff]
  show _ ↔ decide (x.1 ∈ h.rivals j) = true
  rw [decide_eq_true_iff, rivals_mem h j x.1 hj]
  constructor
  · intro z
    have m : x ∈ rivS h.placed j (h.placed.length + 1) := List.mem_filter.mpr ⟨hx, z⟩
    exact ⟨by rw [← P.1]; exact List.mem_map.mpr ⟨x, hx, rfl⟩, rivS_riv m⟩
  · rintro ⟨_, r⟩
    obtain ⟨y, hy, ey⟩ := rivS_closed hs r
    have exy := fst_inj ndc y (rivS_sub hy) x hx ey
    rw [exy, rivS_end hs] at hy
    exact (List.mem_filter.mp hy).2
end Lr
end
section
set_option autoImplicit false
/-! What is handed in, call by call: the mathematics alone. -/
namespace Fl
open Rp04
/-- a call as it stands in the list -/
def enc : Call → List Int
  | .begins k a => [0, (k : Int), (a : Int)]
  | .machine i l => [1, (i : Int), (l : Int)]
  | .job i l u t => [2, (i : Int), (l : Int), (u : Int), (t : Int)]
  | .serve => [3]
  | .beat i => [4, (i : Int)]
  | .result k q => [5, (k : Int), (q : Int)]
  | .tick n => [6, (n : Int)]
  | .drain i => [7, (i : Int)]
  | .cancel i => [8, (i : Int)]
  | .why i => [9, (i : Int)]
  | .queue => [10]
  | .machines => [11]
  | .ends => [12]
def encs (cs : List Call) : List Int := cs.flatMap enc
/-- what is given back from a house on -/
def run : House → List Call → List Int
  | _, [] => []
  | h, c :: r => ((Rp04Neutral.out (step h c).2).length : Int) :: Rp04Neutral.out (step h c).2 ++ run (step h c).1 r
theorem w32 {z : Int} (h : Rp04Neutral.whole32 z = true) : ((z.toNat : Nat) : Int) = z := by
  unfold Rp04Neutral.whole32 at h
  rw [Bool.and_eq_true, decide_eq_true_iff, decide_eq_true_iff] at h
  omega
theorem shape_cases {p : Int} {n k : Nat} (h : PyRp04.shape p = some (n, k)) : k = 0 ∧
    ((p = 0 ∧ n = 2) ∨ (p = 1 ∧ n = 2) ∨ (p = 2 ∧ n = 4) ∨ (p = 3 ∧ n = 0) ∨ (p = 4 ∧ n = 1) ∨ (p = 5 ∧ n = 2) ∨ (p = 6 ∧ n = 1) ∨ (p = 7 ∧ n = 1) ∨ (p = 8 ∧ n = 1) ∨ (p = 9 ∧ n = 1) ∨ (p = 10 ∧ n = 0) ∨ (p = 11 ∧ n = 0) ∨ (p = 12 ∧ n = 0)) := by
  unfold PyRp04.shape at h
  by_cases h0 : p = 0
  · rw [if_pos h0] at h; cases h; exact ⟨rfl, by omega⟩
  rw [if_neg h0] at h
  by_cases h1 : p = 1
  · rw [if_pos h1] at h; cases h; exact ⟨rfl, by omega⟩
  rw [if_neg h1] at h
  by_cases h2 : p = 2
  · rw [if_pos h2] at h; cases h; exact ⟨rfl, by omega⟩
  rw [if_neg h2] at h
  by_cases h3 : p = 3
  · rw [if_pos h3] at h; cases h; exact ⟨rfl, by omega⟩
  rw [if_neg h3] at h
  by_cases h4 : p = 4
  · rw [if_pos h4] at h; cases h; exact ⟨rfl, by omega⟩
  rw [if_neg h4] at h
  by_cases h5 : p = 5
  · rw [if_pos h5] at h; cases h; exact ⟨rfl, by omega⟩
  rw [if_neg h5] at h
  by_cases h6 : p = 6
  · rw [if_pos h6] at h; cases h; exact ⟨rfl, by omega⟩
  rw [if_neg h6] at h
  by_cases h7 : p = 7
  · rw [if_pos h7] at h; cases h; exact ⟨rfl, by omega⟩
  rw [if_neg h7] at h
  by_cases h8 : p = 8
  · rw [if_pos h8] at h; cases h; exact ⟨rfl, by omega⟩
  rw [if_neg h8] at h
  by_cases h9 : p = 9
  · rw [if_pos h9] at h; cases h; exact ⟨rfl, by omega⟩
  rw [if_neg h9] at h
  by_cases h10 : p = 10
  · rw [if_pos h10] at h; cases h; exact ⟨rfl, by omega⟩
  rw [if_neg h10] at h
  by_cases h11 : p = 11
  · rw [if_pos h11] at h; cases h; exact ⟨rfl, by omega⟩
  rw [if_neg h11] at h
  by_cases h12 : p = 12
  · rw [if_pos h12] at h; cases h; exact ⟨rfl, by omega⟩
  rw [if_neg h12] at h
  cases h
theorem split1 {p : Int} {r : List Int} {c : List (List Int)} {t : List Int} (h : PyFlat.call PyRp04.shape (p :: r) = some (c, t)) : ∃ n, PyRp04.shape p = some (n, 0) ∧ n ≤ r.length ∧ c = [p :: r.take n] ∧ t = r.drop n := by
  unfold PyFlat.call at h
  dsimp only at h
  cases e : PyRp04.shape p with
  | none => rw [e] at h; cases h
  | some nk =>
    obtain ⟨n, k⟩ := nk
    obtain ⟨rfl, _⟩ := shape_cases e
    rw [e] at h
    dsimp only at h
    split at h
    · cases h
    · rename_i hn
      simp only [PyFlat.rows, Option.some.injEq, Prod.mk.injEq] at h
      exact ⟨n, rfl, by omega, h.1.symm, h.2.symm⟩
theorem call_of {p : Int} {r : List Int} {c : List (List Int)} {t : List Int} (h : PyFlat.call PyRp04.shape (p :: r) = some (c, t)) (ha : Rp04Neutral.asked1 (PyRp04.whole c) = true) :
    ∃ x : Call, Rp04Neutral.callOf (PyRp04.whole c) = some x ∧ p :: r = enc x ++ t := by
  obtain ⟨n, hs, hn, rfl, rfl⟩ := split1 h
  obtain ⟨_, hc⟩ := shape_cases hs
  rcases hc with ⟨rfl, rfl⟩ | ⟨rfl, rfl⟩ | ⟨rfl, rfl⟩ | ⟨rfl, rfl⟩ | ⟨rfl, rfl⟩ | ⟨rfl, rfl⟩ | ⟨rfl, rfl⟩ | ⟨rfl, rfl⟩ | ⟨rfl, rfl⟩ | ⟨rfl, rfl⟩ | ⟨rfl, rfl⟩ | ⟨rfl, rfl⟩ | ⟨rfl, rfl⟩
  · match r, hn, ha with
    | x :: y :: r, _, ha =>
      have ha : (Rp04Neutral.whole32 x && Rp04Neutral.whole32 y) = true := ha
      rw [Bool.and_eq_true] at ha
      refine ⟨.begins x.toNat y.toNat, rfl, ?_⟩
      show _ = [0, ((x.toNat : Nat) : Int), ((y.toNat : Nat) : Int)] ++ r
      rw [w32 ha.1, w32 ha.2]
      rfl
  · match r, hn, ha with
    | x :: y :: r, _, ha =>
      have ha : (Rp04Neutral.whole32 x && Rp04Neutral.whole32 y) = true := ha
      rw [Bool.and_eq_true] at ha
      refine ⟨.machine x.toNat y.toNat, rfl, ?_⟩
      show _ = [1, ((x.toNat : Nat) : Int), ((y.toNat : Nat) : Int)] ++ r
      rw [w32 ha.1, w32 ha.2]
      rfl
  · match r, hn, ha with
    | x :: y :: z :: u :: r, _, ha =>
      have ha : (Rp04Neutral.whole32 x && (Rp04Neutral.whole32 y && (Rp04Neutral.whole32 z && Rp04Neutral.whole32 u))) = true := ha
      rw [Bool.and_eq_true, Bool.and_eq_true, Bool.and_eq_true] at ha
      refine ⟨.job x.toNat y.toNat z.toNat u.toNat, rfl, ?_⟩
      show _ = [2, ((x.toNat : Nat) : Int), ((y.toNat : Nat) : Int), ((z.toNat : Nat) : Int), ((u.toNat : Nat) : Int)] ++ r
      rw [w32 ha.1, w32 ha.2.1, w32 ha.2.2.1, w32 ha.2.2.2]
      rfl
  · exact ⟨.serve, rfl, rfl⟩
  · match r, hn, ha with
    | x :: r, _, ha =>
      refine ⟨.beat x.toNat, rfl, ?_⟩
      show _ = [4, ((x.toNat : Nat) : Int)] ++ r
      rw [w32 ha]
      rfl
  · match r, hn, ha with
    | x :: y :: r, _, ha =>
      have ha : (Rp04Neutral.whole32 x && Rp04Neutral.whole32 y) = true := ha
      rw [Bool.and_eq_true] at ha
      refine ⟨.result x.toNat y.toNat, rfl, ?_⟩
      show _ = [5, ((x.toNat : Nat) : Int), ((y.toNat : Nat) : Int)] ++ r
      rw [w32 ha.1, w32 ha.2]
      rfl
  · match r, hn, ha with
    | x :: r, _, ha =>
      refine ⟨.tick x.toNat, rfl, ?_⟩
      show _ = [6, ((x.toNat : Nat) : Int)] ++ r
      rw [w32 ha]
      rfl
  · match r, hn, ha with
    | x :: r, _, ha =>
      refine ⟨.drain x.toNat, rfl, ?_⟩
      show _ = [7, ((x.toNat : Nat) : Int)] ++ r
      rw [w32 ha]
      rfl
  · match r, hn, ha with
    | x :: r, _, ha =>
      refine ⟨.cancel x.toNat, rfl, ?_⟩
      show _ = [8, ((x.toNat : Nat) : Int)] ++ r
      rw [w32 ha]
      rfl
  · match r, hn, ha with
    | x :: r, _, ha =>
      refine ⟨.why x.toNat, rfl, ?_⟩
      show _ = [9, ((x.toNat : Nat) : Int)] ++ r
      rw [w32 ha]
      rfl
  · exact ⟨.queue, rfl, rfl⟩
  · exact ⟨.machines, rfl, rfl⟩
  · exact ⟨.ends, rfl, rfl⟩
theorem calls_of : ∀ (f : Nat) (l : List Int) (raw : List (List (List Int))), PyFlat.calls PyRp04.shape f l = some raw → ((raw.map PyRp04.whole).all Rp04Neutral.asked1) = true →
    ∃ cs : List Call, l = encs cs ∧ cs.length = raw.length ∧ ∀ h : House, PyFlat.told (PyFlat.played Rp04Neutral.step h (raw.map PyRp04.whole)) = run h cs
  | f, [], raw, h, _ => by
    have e : raw = [] := by
      cases f <;> (rw [PyFlat.calls] at h; exact (Option.some.inj h).symm)
    subst e
    exact ⟨[], rfl, rfl, fun _ => rfl⟩
  | 0, p :: r, raw, h, _ => by
    rw [PyFlat.calls] at h
    cases h
  | f + 1, p :: r, raw, h, ha => by
    rw [PyFlat.calls] at h
    cases e : PyFlat.call PyRp04.shape (p :: r) with
    | none => rw [e] at h; cases h
    | some ct =>
      obtain ⟨c, t⟩ := ct
      rw [e] at h
      dsimp only at h
      cases e2 : PyFlat.calls PyRp04.shape f t with
      | none => rw [e2] at h; cases h
      | some cs' =>
        rw [e2] at h
        obtain rfl : c :: cs' = raw := Option.some.inj h
        rw [List.map_cons, List.all_cons, Bool.and_eq_true] at ha
        obtain ⟨x, hx, hp⟩ := call_of e ha.1
        obtain ⟨cs, h1, h2, h3⟩ := calls_of f t cs' e2 ha.2
        refine ⟨x :: cs, ?_, by rw [List.length_cons, List.length_cons, h2], fun h => ?_⟩
        · rw [hp, h1]
          rfl
        · have es : Rp04Neutral.step h (PyRp04.whole c) = ((step h x).1, Rp04Neutral.out (step h x).2) := by
            unfold Rp04Neutral.step
            rw [hx]
          rw [List.map_cons, PyFlat.played, es]
          show ((Rp04Neutral.out (step h x).2).length : Int) :: Rp04Neutral.out (step h x).2 ++ PyFlat.told (PyFlat.played Rp04Neutral.step (step h x).1 (cs'.map PyRp04.whole)) = _
          rw [h3]
          rfl
theorem flat {l : List Int} (h : PyRp04.answers_asked l = true) : ∃ cs : List Call, l = encs cs ∧ cs.length ≤ 60 ∧ PyRp04.answers l = run init cs := by
  unfold PyRp04.answers_asked at h
  cases e : PyFlat.calls PyRp04.shape l.length l with
  | none => rw [e] at h; cases h
  | some raw =>
    rw [e] at h
    dsimp only at h
    simp only [Bool.and_eq_true] at h
    obtain ⟨⟨⟨⟨_, h1⟩, _⟩, h3⟩, _⟩ := h
    unfold Rp04Neutral.asked at h3
    rw [Bool.and_eq_true] at h3
    obtain ⟨cs, g1, g2, g3⟩ := calls_of _ _ _ e h3.1
    refine ⟨cs, g1, ?_, ?_⟩
    · have h1 : decide (raw.length ≤ 60) = true := h1
      rw [g2]
      exact of_decide_eq_true h1
    · unfold PyRp04.answers PyRp04.calls
      rw [e]
      exact g3 init
end Fl
end
section
set_option linter.all false
/-! How long an answer is: the mathematics alone. -/
namespace Lr
open Rp04 Mt
theorem flat_len' {α β : Type} (f : α → List β) (k : Nat) (hf : ∀ x, (f x).length = k) : ∀ l : List α, (l.flatMap f).length = l.length * k
  | [] => by simp
  | x :: l => by rw [List.flatMap_cons, List.length_append, hf, flat_len' f k hf l, List.length_cons, Nat.add_mul, Nat.one_mul, Nat.add_comm]
theorem out_len (v : Int) (l : List Nat) : (Rp04Neutral.out ⟨v, l⟩).length = l.length + 1 := by
  unfold Rp04Neutral.out
  rw [List.length_cons, List.length_map]
theorem ok_len (v : Int) : (Rp04Neutral.out (ok v)).length = 1 := rfl
theorem placed_len {h : House} (W : WF0 h) : h.placed.length ≤ 7 := by
  have z : h.placed.length = h.chosen.length := by rw [← (placed_is h).1, List.length_map]
  rw [z]
  exact Nat.le_trans (Srv.le (chosen_srv h)) (Nat.le_trans (List.length_filter_le _ _) W.mlen)
theorem ans_len {h : House} (W : WF h) (c : Call) : (Rp04Neutral.out (step h c).2).length ≤ 100 := by
  have one : ∀ v, (Rp04Neutral.out (ok v)).length ≤ 100 := fun v => by rw [ok_len]; omega
  have j14 := W.jlen
  have m7 := W.mlen
  have a40 := W.all
  cases c with
  | begins k a =>
    show (Rp04Neutral.out (if _ then _ else _ : House × Ans).2).length ≤ 100
    split <;> exact one _
  | machine i l =>
    show (Rp04Neutral.out (if _ then _ else _ : House × Ans).2).length ≤ 100
    split
    · exact one _
    · split
      · exact one _
      · split <;> exact one _
  | job i l u t =>
    show (Rp04Neutral.out (if _ then _ else _ : House × Ans).2).length ≤ 100
    split
    · exact one _
    · split
      · exact one _
      · split <;> exact one _
  | serve =>
    have p7 := placed_len W.toWF0
    show (Rp04Neutral.out ⟨_, (starts h.leases h.placed).flatMap fun x => [x.1, x.2.1, x.2.2]⟩).length ≤ 100
    rw [out_len, flat_len' _ 3 (fun _ => rfl), starts_len]
    omega
  | beat i =>
    show (Rp04Neutral.out (if _ then _ else _ : House × Ans).2).length ≤ 100
    split <;> exact one _
  | result k q =>
    show (Rp04Neutral.out (match h.leaseOf k with | none => (h, ok (-5)) | some j => _ : House × Ans).2).length ≤ 100
    cases e : h.leaseOf k with
    | none => exact one _
    | some j =>
      show (Rp04Neutral.out (if _ then _ else _ : House × Ans).2).length ≤ 100
      split
      · exact one _
      · split <;> exact one _
  | tick n =>
    show (Rp04Neutral.out (if _ then _ else _ : House × Ans).2).length ≤ 100
    split
    · exact one _
    · show (Rp04Neutral.out ⟨_, _ ++ _⟩).length ≤ 100
      rw [out_len, List.length_append, List.length_map, List.length_map]
      have l1 : (h.machines.filter fun m => decide (h.lease < h.now + n - m.heard)).length ≤ h.machines.length := List.length_filter_le _ _
      refine Nat.le_trans (Nat.succ_le_succ (Nat.add_le_add l1 (List.length_filter_le _ _))) ?_
      omega
  | drain i =>
    show (Rp04Neutral.out (match h.machines.find? (fun m => m.id == i) with | none => (h, ok (-2)) | some m => _ : House × Ans).2).length ≤ 100
    cases e : h.machines.find? (fun m => m.id == i) with
    | none => exact one _
    | some m =>
      show (Rp04Neutral.out (if _ then _ else _ : House × Ans).2).length ≤ 100
      split <;> exact one _
  | cancel i =>
    show (Rp04Neutral.out (match h.jobOf i with | none => (h, ok (-2)) | some j => _ : House × Ans).2).length ≤ 100
    cases e : h.jobOf i with
    | none => exact one _
    | some j => exact one _
  | why i =>
    show (Rp04Neutral.out (match h.jobOf i with | none => (h, ok (-2)) | some j => _ : House × Ans).2).length ≤ 100
    cases e : h.jobOf i with
    | none => exact one _
    | some j =>
      show (Rp04Neutral.out (match j.on with | some x => ⟨2, [x.1, x.2]⟩ | none => _ : Ans)).length ≤ 100
      cases j.on with
      | some x => exact (by decide : 3 ≤ 100)
      | none =>
        show (Rp04Neutral.out (match h.placed.find? (fun x => x.1.id == i) with | some x => ⟨1, [x.2.id]⟩ | none => _ : Ans)).length ≤ 100
        cases h.placed.find? (fun x => x.1.id == i) with
        | some x => exact (by decide : 2 ≤ 100)
        | none =>
          show (Rp04Neutral.out ⟨0, _ :: (h.rivals j).map fun x => x.id⟩).length ≤ 100
          rw [out_len, List.length_cons, List.length_map]
          have r : (h.rivals j).length ≤ h.chosen.length := List.length_filter_le _ _
          have c7 : h.chosen.length ≤ 7 := Nat.le_trans (Srv.le (chosen_srv h)) (Nat.le_trans (List.length_filter_le _ _) m7)
          omega
  | queue =>
    show (Rp04Neutral.out ⟨_, h.queue.flatMap fun j => [j.id, h.urgent j, j.tries, j.lost]⟩).length ≤ 100
    rw [out_len, flat_len' _ 4 (fun _ => rfl)]
    have p : h.queue.Perm (h.jobs.filter fun j => j.on.isNone) := sort_perm _ _
    have l := p.length_eq
    have l2 : (h.jobs.filter fun j => j.on.isNone).length ≤ h.jobs.length := List.length_filter_le _ _
    omega
  | machines =>
    show (Rp04Neutral.out ⟨_, h.machines.flatMap fun m => [m.id, m.labels, h.now - m.heard, _]⟩).length ≤ 100
    rw [out_len, flat_len' _ 4 (fun _ => rfl)]
    omega
  | ends =>
    show (Rp04Neutral.out ⟨_, h.ended.flatMap fun x => [x.1, x.2]⟩).length ≤ 100
    rw [out_len, flat_len' _ 2 (fun _ => rfl)]
    omega
end Lr
end
section
set_option Elab.async false
set_option linter.all false
set_option maxRecDepth 100000
set_option maxHeartbeats 4000000
/-! sorted(xs, key=lambda x: ..) over a list of objects: one rule of the hand layer. -/
namespace Lr
open PySem PySem.Spec PyProof.Rows L2

/-- bs are as, by rising keys, those of one key in their old order -/
def SrtBy (kf : Addr → Int) (as bs : List Addr) : Prop :=
  bs.Perm as ∧ bs.Pairwise (fun a b => kf a ≤ kf b) ∧ ∀ c, bs.filter (fun a => kf a == c) = as.filter (fun a => kf a == c)
def keyed (kf : Addr → Int) (a : Addr) : Int × Value := (kf a, Value.ref a)
def backA : Value → Addr
  | .ref a => a
  | _ => 0
theorem zip_keyed (kf : Addr → Int) : ∀ as : List Addr, (as.map kf).zip (as.map Value.ref) = as.map (keyed kf)
  | [] => rfl
  | a :: as => by
    show (kf a, Value.ref a) :: (as.map kf).zip (as.map Value.ref) = keyed kf a :: as.map (keyed kf)
    rw [zip_keyed kf as]
    rfl
theorem filter_keyed (kf : Addr → Int) (c : Int) : ∀ as : List Addr, (as.map (keyed kf)).filter (fun p => p.1 == c) = (as.filter fun a => kf a == c).map (keyed kf)
  | [] => rfl
  | a :: as => by
    rw [List.map_cons, List.filter_cons, List.filter_cons, filter_keyed kf c as]
    show (if (kf a == c) = true then _ else _) = _
    by_cases h : (kf a == c) = true
    · rw [if_pos h, if_pos h]; rfl
    · rw [if_neg h, if_neg h]
theorem keyed_inj (kf : Addr → Int) : ∀ as bs : List Addr, as.map (keyed kf) = bs.map (keyed kf) → as = bs
  | [], [], _ => rfl
  | [], _ :: _, h => by cases h
  | _ :: _, [], h => by cases h
  | a :: as, b :: bs, h => by
    rw [List.map_cons, List.map_cons] at h
    injection h with h1 h2
    have e : a = b := by
      injection h1 with _ z
      injection z
    rw [e, keyed_inj kf as bs h2]
theorem srt_of {kf : Addr → Int} {as : List Addr} {out : List Value} (h : KskOutSt false (as.map kf) (as.map Value.ref) out) : ∃ bs, SrtBy kf as bs ∧ out = bs.map Value.ref := by
  obtain ⟨ps, hp, ho, hs, hf⟩ := h
  rw [zip_keyed] at hp
  have e : ps = (ps.map fun p => backA p.2).map (keyed kf) := by
    rw [List.map_map]
    refine (List.map_id ps).symm.trans (List.map_congr_left fun p m => ?_)
    obtain ⟨a, _, z⟩ := List.mem_map.mp (hp.mem_iff.mp m)
    subst z
    rfl
  generalize (ps.map fun p => backA p.2) = bs at e
  subst e
  refine ⟨bs, ⟨?_, ?_, fun c => ?_⟩, ?_⟩
  · have q := hp.map (fun p : Int × Value => backA p.2)
    rw [List.map_map, List.map_map] at q
    have i : ∀ l : List Addr, l.map ((fun p : Int × Value => backA p.2) ∘ keyed kf) = l := fun l => List.map_id l
    rw [i, i] at q
    exact q
  · rw [List.pairwise_map] at hs
    exact hs.imp fun h => h
  · have q := hf c
    rw [zip_keyed, filter_keyed, filter_keyed] at q
    exact keyed_inj kf _ _ q
  · rw [ho, List.map_map]
    rfl

/-- what is not tracked and no frame stays -/
def KeepU (X : Cx) (H : Hp) (s s' : Shared) : Prop := ∀ b o, s.heap.get? b = some o → H b = none → b ∉ frs X.stack → s'.heap.get? b = some o
theorem KeepU.trans {X : Cx} {H : Hp} {s s1 s2 : Shared} (a : KeepU X H s s1) (b : KeepU X H s1 s2) : KeepU X H s s2 := fun c o e n f => b c o (a c o e n f) n f
/-- the key of each item: asked within sorted, wherever the state has come to -/
def KeyTurn (X : Cx) (pins : List (Addr × Obj)) (σ : L2.St) (H : Hp) (s0 : Shared) (f : Value) (kf : Addr → Int) (as : List Addr) : Prop :=
  ∀ (s1 : Shared) (x : Addr), x ∈ as → Inv X pins σ H s1 → KeepU X H s0 s1 →
    wpAny (model X.prog X.w) X.A.in1.in1 (call f [.ref x]) (fun r s2 => (∃ t, r = .int (kf x) t) ∧ Inv X pins σ H s2 ∧ KeepU X H s1 s2) (fun _ _ => False) s1
theorem ns_one {h : Heap} {L : Addr} {m m' : Str → Option Value} (a : h.Ns L m) (b : h.Ns L m') : m = m' := by
  obtain ⟨o, es, ep, h1, h2, _, h3⟩ := a
  obtain ⟨o', es', ep', g1, g2, _, g3⟩ := b
  rw [h1] at g1
  cases g1
  rw [h2] at g2
  cases g2
  funext x
  rw [← h3 x, ← g3 x]
section
variable {X : Cx} {pins : List (Addr × Obj)} {σ : L2.St} {H : Hp} {s0 s : Shared}
theorem frs_lt (I : Inv X pins σ H s0) {b : Addr} (hb : b ∈ frs X.stack) : b < s0.heap.objs.size := by
  rcases List.mem_cons.mp (I.stkSub _ hb) with e | e
  · rw [e]; exact I.lt
  · exact Nat.lt_of_not_le fun z => I.nofs z e
/-- an object that came behind s0 and is ours alone has changed -/
theorem own_turned {k : Addr} {h' : Heap} {t' : Nat} (I0 : Inv X pins σ H s0) (I : Inv X pins σ H s) (hk : s0.heap.objs.size ≤ k) (kp : ∀ b o, b ≠ k → s.heap.get? b = some o → h'.get? b = some o) :
    Inv X pins σ H { s with heap := h', toks := t' } := by
  refine I.turned kp (I0.hok.fresh hk) ?_ (.inr (Nat.le_trans I0.sz hk)) ?_ ?_
  · exact Nat.ne_of_gt (Nat.lt_of_lt_of_le I0.lt hk)
  · intro x c e
    obtain ⟨v, o, ho, _⟩ := I0.cell x c e
    exact Nat.ne_of_lt (Nat.lt_of_lt_of_le (Heap.lt_size ho) hk)
  · intro p hp
    exact Nat.ne_of_lt (Nat.lt_of_lt_of_le (Heap.lt_size (I0.pin p hp).1) hk)
theorem keepU_own {k : Addr} {h' : Heap} {t' : Nat} (K0 : KeepU X H s0 s) (hk : s0.heap.objs.size ≤ k) (kp : ∀ b o, b ≠ k → s.heap.get? b = some o → h'.get? b = some o) :
    KeepU X H s0 { s with heap := h', toks := t' } := fun b o e n f => kp b o (Nat.ne_of_lt (Nat.lt_of_lt_of_le (Heap.lt_size e) hk)) (K0 b o e n f)

/-- the end of the sort: the keys stand in kS, the list at a is empty -/
theorem key_end {A : Around} {E : Value → Shared → Prop} {P : PySem.Fin → Shared → Prop} {kf : Addr → Int} {as : List Addr} {kS a : Addr} {kA : Array Value} {e e1 : Nat}
    (I0 : Inv X pins σ H s0) (I : Inv X pins σ H s) (hk : s0.heap.objs.size ≤ kS) (ha : s0.heap.objs.size ≤ a) (hka : kS ≠ a) (ok : s.heap.get? kS = some (seqObj "list" kA e)) (oa : s.heap.get? a = some (seqObj "list" #[] e1))
    (hi : IntsAre kA.toList (as.map kf)) (hz : as.length ≤ sizeLine)
    (q : ∀ (bs : List Addr) (s' : Shared), SrtBy kf as bs → Inv X pins σ (upd H a (.lst (bs.map V.ref))) s' → P (.done (.ret .none)) s') :
    wpAny (model X.prog X.w) A (ksk_end a false (as.map Value.ref).toArray e1 (.ref kS) kA) P E s := by
  obtain ⟨m, F⟩ := I.fr
  have nL : ∀ b, s0.heap.objs.size ≤ b → b ≠ X.env.locals := fun b z => Nat.ne_of_gt (Nat.lt_of_lt_of_le I0.lt z)
  have nB : ∀ b, s0.heap.objs.size ≤ b → X.base.get? b = none := fun b z =>
    Heap.get?_none_of_le (Nat.le_trans (Nat.le_trans I0.ok.bsz I0.sz) z)
  let news := (allNews X.base s.heap X.env.locals).filter fun p => decide (p.1 ≠ kS) && decide (p.1 ≠ a)
  have mn : ∀ p, p ∈ news ↔ (p ∈ allNews X.base s.heap X.env.locals ∧ p.1 ≠ kS ∧ p.1 ≠ a) := fun p => by
    rw [List.mem_filter, Bool.and_eq_true, decide_eq_true_iff, decide_eq_true_iff]
  have N : News X.base X.env.locals s.heap (news ++ [(kS, seqObj "list" kA e), (a, seqObj "list" #[] e1)]) := fun p hp => by
    rcases List.mem_append.mp hp with hp | hp
    · exact news_all p ((mn p).mp hp).1
    · rcases List.mem_cons.mp hp with z | hp
      · subst z; exact ⟨ok, nL _ hk, nB _ hk⟩
      · obtain rfl := List.mem_singleton.mp hp
        exact ⟨oa, nL _ ha, nB _ ha⟩
  refine ksk_end_St (kz := as.map kf) F N hka (fun p hp => ((mn p).mp hp).2.1) (fun p hp => ((mn p).mp hp).2.2) hi (by rw [List.length_map, List.length_map]) (by rw [List.length_map]; exact hz) fun h' tk out c F' N' ko => ?_
  obtain ⟨bs, hb, eo⟩ := srt_of ko
  have kept : ∀ b o, b ≠ X.env.locals → b ≠ kS → b ≠ a → s.heap.get? b = some o → h'.get? b = some o := fun b o h1 h2 h3 z => by
    cases r : X.base.get? b with
    | some u =>
      have y := I.bk b u r
      rw [z] at y
      cases y
      exact F'.keep b _ r
    | none => exact (N' (b, o) (List.mem_cons_of_mem _ ((mn _).mpr ⟨mem_allNews h1 r z, h2, h3⟩))).1
  have oa' : h'.get? a = some (seqObj "list" out c) := (N' (a, seqObj "list" out c) List.mem_cons_self).1
  have nA : H a = none := I0.hok.fresh ha
  have nK : H kS = none := I0.hok.fresh hk
  have sm : ∀ b u, H b = some u → b ≠ a := fun b u z => ne_of_none z nA
  have sk : ∀ b u, H b = some u → b ≠ kS := fun b u z => ne_of_none z nK
  have sL : ∀ b u, H b = some u → b ≠ X.env.locals := fun b u z => ne_of_none z I.free
  have hlen : bs.length ≤ sizeLine := by rw [hb.1.length_eq]; exact hz
  refine q bs _ hb (I.step (g' := s.gens) (d' := s.drawn) (ch := [kS, a]) (fun b hc => ?_) (fun b o h1 _ h3 z _ => ?_) (fun b o h1 _ h3 z _ => ?_) (fun b o h3 z n => ?_) (fun b o h3 z => ?_)
    (fun b xs z => by rw [upd_ne (sm b _ z)]; exact z) (fun b o u z => by rw [upd_ne (sm b _ z)]; exact z) (fun b ps z => ⟨#[], by rw [upd_ne (sm b _ z), z]; simp⟩) (fun m' hm => ?_) (fun b u z => ?_) I.bare)
  · have hb' : s0.heap.objs.size ≤ b := by
      rcases List.mem_cons.mp hc with y | y
      · rw [y]; exact hk
      · rw [List.mem_singleton.mp y]; exact ha
    refine ⟨.inr (Nat.le_trans I0.sz hb'), nL b hb', fun x c' y => ?_, fun p hp => Nat.ne_of_lt (Nat.lt_of_lt_of_le (Heap.lt_size (I0.pin p hp).1) hb')⟩
    obtain ⟨v, o, ho, _⟩ := I0.cell x c' y
    exact Nat.ne_of_lt (Nat.lt_of_lt_of_le (Heap.lt_size ho) hb')
  · exact kept b o h1 (fun y => h3 (by simp [y])) (fun y => h3 (by simp [y])) z
  · exact ⟨o.slots, kept b o h1 (fun y => h3 (by simp [y])) (fun y => h3 (by simp [y])) z⟩
  · rw [upd_ne fun y => h3 (by simp [y])]; exact n
  · by_cases h1 : b = X.env.locals
    · obtain ⟨o', _, _, g, _⟩ := F'.ns
      exact ⟨o', by rw [h1]; exact g⟩
    · exact ⟨o, kept b o h1 (fun y => h3 (by simp [y])) (fun y => h3 (by simp [y])) z⟩
  · rw [ns_one hm F.ns]; exact F'.ns
  · by_cases y : b = a
    · subst y
      rw [upd_same] at z
      cases z
      refine ⟨by rw [List.length_map]; exact hlen, bs.map Value.ref, c, ?_, ?_⟩
      · have all : ∀ l : List Addr, Vals (l.map V.ref) (l.map Value.ref) := by
          intro l
          induction l with
          | nil => exact .nil
          | cons x l ih => exact .cons rfl ih
        exact all bs
      · rw [← eo, Array.toArray_toList]
        exact oa'
    · rw [upd_ne y] at z
      refine (I.hok b u z).stay (fun d v hd g => kept d v ?_ ?_ ?_ g) (fun d g => by rw [upd_ne (sm d _ g)]; exact g) fun d xs g => by rw [upd_ne (sm d _ g)]; exact g
      all_goals
        rcases hd with w | w
        · rw [w]; first | exact sL b u z | exact sk b u z | exact sm b u z
        · first | exact sL d _ w | exact sk d _ w | exact sm d _ w
theorem fresh_at {b : Addr} {o : Obj} (K : KeepU X H s0 s) (z : s0.heap.get? b = some o) {k : Addr} (hk : s0.heap.objs.size ≤ k) : b ≠ k :=
  Nat.ne_of_lt (Nat.lt_of_lt_of_le (Heap.lt_size z) hk)
theorem not_frame (I0 : Inv X pins σ H s0) {k : Addr} (hk : s0.heap.objs.size ≤ k) : k ∉ frs X.stack := fun z => Nat.lt_irrefl _ (Nat.lt_of_lt_of_le (frs_lt I0 z) hk)
theorem ints_snoc {n : Int} {t : Tok} {kA : Array Value} {ns : List Int} (h : IntsAre kA.toList ns) : IntsAre (kA.push (Value.int n t)).toList (ns ++ [n]) := by
  have ea : (kA.push (Value.int n t)).toList = kA.toList ++ [Value.int n t] := by simp
  rw [ea]; exact ksk_snoc h
/-- the keys are asked one by one, then the sort -/
theorem key_rest {E : Value → Shared → Prop} {P : PySem.Fin → Shared → Prop} {kf : Addr → Int} {as : List Addr} {kS a : Addr} {e1 : Nat} {f : Value}
    (I0 : Inv X pins σ H s0) (I : Inv X pins σ H s) (K0 : KeepU X H s0 s) (hk : s0.heap.objs.size ≤ kS) (ha : s0.heap.objs.size ≤ a) (hka : kS ≠ a) (ok : s.heap.get? kS = some (seqObj "list" #[] 0)) (oa : s.heap.get? a = some (seqObj "list" #[] e1))
    (hz : as.length ≤ sizeLine) (T : KeyTurn X pins σ H s0 f kf as)
    (q : ∀ (bs : List Addr) (s' : Shared), SrtBy kf as bs → Inv X pins σ (upd H a (.lst (bs.map V.ref))) s' → P (.done (.ret .none)) s') :
    wpAny (model X.prog X.w) X.A.in1.in1 (ksk_rest a f false (as.map Value.ref).toArray e1 (.ref kS)) P E s := by
  have hz2 : as.length + 1 ≤ sizeLine + 1 := Nat.succ_le_succ hz
  unfold ksk_rest
  refine wpAny_bind (wpAny_rule ?_)
  rw [List.forIn_toArray]
  refine wpAny_bind (ksk_fold (fun i s' => Inv X pins σ H s' ∧ KeepU X H s0 s' ∧ (∃ kA e, s'.heap.get? kS = some (seqObj "list" kA e) ∧ IntsAre kA.toList ((as.map kf).take i)) ∧ s'.heap.get? a = some (seqObj "list" #[] e1)) (as.map Value.ref) 0 s
    ⟨I, K0, ⟨#[], 0, ok, .nil⟩, oa⟩ ?turn ?last)
  case turn =>
    rintro j x s1 hx ⟨I1, K1, ⟨kA, e, ok1, hi⟩, oa1⟩
    rw [Nat.zero_add] at hi ⊢
    rw [List.getElem?_map] at hx
    cases hj : as[j]? with
    | none => rw [hj] at hx; cases hx
    | some y =>
      rw [hj] at hx
      obtain rfl : Value.ref y = x := Option.some.inj hx
      have my : y ∈ as := List.mem_of_getElem? hj
      have hjl : j < as.length := (List.getElem?_eq_some_iff.mp hj).1
      have hs : kA.size = j := by
        have z := hi.length
        rw [Array.length_toList, List.length_take, List.length_map] at z
        omega
      refine wpAny_bind (wpAny_attempt (wpAny_mono (T s1 y my I1 K1) (fun r s2 hr => ?_) fun _ _ hF => hF.elim))
      obtain ⟨⟨t, rfl⟩, I2, K2⟩ := hr
      have ok2 := K2 _ _ ok1 (I0.hok.fresh hk) (not_frame I0 hk)
      have oa2 := K2 _ _ oa1 (I0.hok.fresh ha) (not_frame I0 ha)
      have sb := Heap.SameBut.update s2.heap kS (Obj.mapSeq (·.push (.int (kf y) t)))
      have kp : ∀ b o, b ≠ kS → s2.heap.get? b = some o → (s2.heap.update kS (Obj.mapSeq (·.push (.int (kf y) t)))).get? b = some o := fun b o hb z => (sb.2 b hb).trans z
      refine wpAny_bind (listUpdate_at ok2 rfl (wpAny_pure ⟨rfl, own_turned (t' := s2.toks) I0 I2 hk kp, keepU_own (t' := s2.toks) (K1.trans K2) hk kp, ⟨_, _, get?_update_seq ok2 (·.push (.int (kf y) t)), ?_⟩, kp _ _ hka.symm oa2⟩) (by omega) ?_)
      · have et : (as.map kf).take (j + 1) = (as.map kf).take j ++ [kf y] := by rw [List.take_add_one, List.getElem?_map, hj]; rfl
        rw [et]; exact ints_snoc hi
      · rw [Array.size_push]; omega
  case last =>
    rintro s1 ⟨I1, K1, ⟨kA, e, ok1, hi⟩, oa1⟩
    rw [Nat.zero_add, List.length_map, ← List.length_map (f := kf), List.take_length] at hi
    refine wpAny_bind (listItems_at ok1 rfl (key_end I0 I1 hk ha hka ok1 oa1 hi hz q))
/-- sorted by a key, the list's own sort within -/
theorem sorted_key_run {Q : VK} {kf : Addr → Int} {as : List Addr} {l fa : Addr} (I : Inv X pins σ H s) (hl : SqL X.K H l (as.map V.ref)) (T : KeyTurn X pins σ H s (.ref fa) kf as)
    (q : ∀ (bs : List Addr) (p : Addr), SrtBy kf as bs → H p = none → Q (.ref p) (upd H p (.lst (bs.map V.ref)))) :
    wpAny (model X.prog X.w) X.A (call (.builtin "sorted") [.ref l] [(Str.ofString "key", .ref fa)]) (EP X pins σ Q) X.xe s := by
  obtain ⟨its, rv, hL, hz⟩ := I.list hl
  have ei : its = as.map Value.ref := by
    have all : ∀ (l : List Addr) (us : List Value), Vals (l.map V.ref) us → us = l.map Value.ref := by
      intro l
      induction l with
      | nil => intro us r; cases r; rfl
      | cons x l ih =>
        intro us r
        cases r with
        | cons r1 r2 => rw [List.map_cons, ← ih _ r2]; exact congrArg (· :: _) r1
    exact all as its rv
  subst ei
  rw [List.length_map] at hz
  have hz' : (as.map Value.ref).length ≤ sizeLine := by rw [List.length_map]; exact hz
  refine call_function_entry_kw kind_sorted plain_sorted entry_sorted (ksk_s1 _ _) ?_
  unfold Builtin.«sorted»
  refine wpAny_bind (m := checkCount "sorted" 1 1 _) (wpAny_pure (wpAny_bind (collect_list hL.isList (wpAny_bind (wpAny_newList ?_ hz')) hz')))
  have s1 : ((s.heap.push (seqObj "list" #[] 0)).update s.heap.objs.size (Obj.mapSeq (· ++ (as.map Value.ref).toArray))).objs.size = s.heap.objs.size + 1 := by rw [Heap.size_update, size_push']
  generalize hh1 : (s.heap.push (seqObj "list" #[] 0)).update s.heap.objs.size (Obj.mapSeq (· ++ (as.map Value.ref).toArray)) = h1 at s1
  have k1 : ∀ b o, s.heap.get? b = some o → h1.get? b = some o := fun b o z => by
    rw [← hh1, Heap.get?_update_ne _ _ _ _ (Nat.ne_of_lt (Heap.lt_size z))]
    exact Heap.get?_push_of_some _ z
  show wpAny _ _ _ _ _ { s with heap := h1.push (seqObj "list" (as.map Value.ref).toArray 0) }
  have o2 : (h1.push (seqObj "list" (as.map Value.ref).toArray 0)).get? (s.heap.objs.size + 1) = some (seqObj "list" (as.map Value.ref).toArray 0) := by rw [← s1]; exact Heap.get?_push_size _ rfl
  rw [s1]
  generalize hh2 : h1.push (seqObj "list" (as.map Value.ref).toArray 0) = h2 at o2
  have s2 : h2.objs.size = s.heap.objs.size + 2 := by rw [← hh2, size_push', s1]
  have k2 : ∀ b o, s.heap.get? b = some o → h2.get? b = some o := fun b o z => by rw [← hh2]; exact Heap.get?_push_of_some _ (k1 b o z)
  refine wpAny_bind (wpAny_holding (wpAny_call_entry_kw slot_list_sort ⟨_, o2, rfl⟩ entry_list_sort ?body (ksk_l1 _ _)))
  rw [ksk_t1]
  unfold ksk_tree
  refine wpAny_bind (listItems_at o2 rfl (wpAny_bind (listUpdate_at o2 rfl ?_ (by rw [List.size_toArray]; exact hz') (Nat.zero_le _))))
  obtain ⟨e1, o3⟩ : ∃ e1, (h2.update (s.heap.objs.size + 1) (Obj.mapSeq fun _ => (#[] : Array Value))).get? (s.heap.objs.size + 1) = some (seqObj "list" #[] e1) := ⟨_, get?_update_seq o2 fun _ => #[]⟩
  have s3 : (h2.update (s.heap.objs.size + 1) (Obj.mapSeq fun _ => (#[] : Array Value))).objs.size = s.heap.objs.size + 2 := by rw [Heap.size_update, s2]
  have k3 : ∀ b o, s.heap.get? b = some o → (h2.update (s.heap.objs.size + 1) (Obj.mapSeq fun _ => (#[] : Array Value))).get? b = some o := fun b o z => by
    rw [Heap.get?_update_ne _ _ _ _ (Nat.ne_of_lt (Nat.lt_succ_of_lt (Heap.lt_size z)))]
    exact k2 b o z
  generalize h2.update (s.heap.objs.size + 1) (Obj.mapSeq fun _ => (#[] : Array Value)) = h3 at o3 s3 k3
  refine wpAny_bind (seqEpoch_at o3 rfl (wpAny_bind (wpAny_newTuple (wpAny_bind (wpAny_newList (wpAny_holding ?_) (Nat.zero_le _))) (by show (as.map Value.ref).length ≤ _; exact hz'))))
  have kk : (h3.push (seqObj "tuple" (as.map Value.ref).toArray 0)).objs.size = s.heap.objs.size + 3 := by rw [size_push', s3]
  have k4 : ∀ b o, s.heap.get? b = some o → ((h3.push (seqObj "tuple" (as.map Value.ref).toArray 0)).push (seqObj "list" #[] 0)).get? b = some o := fun b o z =>
    Heap.get?_push_of_some _ (Heap.get?_push_of_some _ (k3 b o z))
  refine key_rest (s := { s with heap := (h3.push (seqObj "tuple" (as.map Value.ref).toArray 0)).push (seqObj "list" #[] 0) }) (kS := (h3.push (seqObj "tuple" (as.map Value.ref).toArray 0)).objs.size) (a := s.heap.objs.size + 1) I (I.kept (t' := s.toks) k4) (fun b o z _ _ => k4 b o z)
    (by rw [kk]; omega) (by omega) (Nat.ne_of_gt (by rw [kk]; omega)) (Heap.get?_push_size _ rfl) (Heap.get?_push_of_some _ (Heap.get?_push_of_some _ o3)) hz T fun bs s' hb I' => ⟨_, rfl, ?_⟩
  exact wpAny_pure ⟨_, rfl, .ref _, _, I', rfl, q bs _ hb (I.hok.fresh (Nat.le_succ _))⟩
end
end Lr
end
section
set_option Elab.async false
set_option linter.all false
set_option maxRecDepth 100000
set_option maxHeartbeats 4000000
/-! A lambda of one parameter, made and called by sorted within one expression. -/
namespace Lr
open PySem PySem.Spec PyProof.Rows L2 LamX
/-- the names of a lambda with the one parameter x -/
structure LamS1 (sc scope : Scope) (x : Str) : Prop where
  kind : scope.kind = .function
  co : scope.isCoroutine = false
  gen : scope.isGenerator = false
  loc : ∀ y ∈ scope.names, y.2 = .local → y.1 = x
  noc : ∀ y ∈ scope.names, y.2 ≠ .cell
  par : scope.names.lookup x = some .local
  free : ∀ y ∈ scope.names, y.2 = .free → sc.names.lookup y.1 = some .cell ∨ sc.names.lookup y.1 = some .free
def lam1B (sc scope : Scope) (x : Str) : Bool :=
  (decide (scope.kind = .function) && !scope.isCoroutine && !scope.isGenerator && decide (scope.names.lookup x = some .local)) &&
    scope.names.all fun y => (!decide (y.2 = .local) || decide (y.1 = x)) && !decide (y.2 = .cell) && (!decide (y.2 = .free) || (decide (sc.names.lookup y.1 = some .cell) || decide (sc.names.lookup y.1 = some .free)))
theorem lam1_by {sc scope : Scope} {x : Str} (h : lam1B sc scope x = true) : LamS1 sc scope x := by
  unfold lam1B at h
  simp only [Bool.and_eq_true, Bool.or_eq_true, Bool.not_eq_true', decide_eq_true_eq, decide_eq_false_iff_not, List.all_eq_true] at h
  obtain ⟨⟨⟨⟨h1, h2⟩, h3⟩, h4⟩, h5⟩ := h
  refine ⟨h1, h2, h3, fun y hy e => ?_, fun y hy => (h5 y hy).1.2, h4, fun y hy e => ?_⟩
  · rcases (h5 y hy).1.1 with z | z
    · exact absurd e z
    · exact z
  · rcases (h5 y hy).2 with z | z
    · exact absurd e z
    · exact z
theorem LamS1.has {X : Cx} {scope : Scope} {x : Str} (L : LamS1 X.env.scope scope x) (ok : X.Ok) (y : Str × NameKind) (hy : y ∈ scope.names) (e : y.2 = .free) : ∃ c, X.env.cells.lookup y.1 = some c :=
  (L.free y hy e).elim (fun k => ok.has _ (.inl k)) fun k => ok.has _ (.inr k)
section
variable {X : Cx} {pins : List (Addr × Obj)} {σ : L2.St} {H : Hp} {s : Shared}
theorem clo_cell {scope : Scope} {x : Str} (I : Inv X pins σ H s) (L : LamS1 X.env.scope scope x) {y : Str} {c : Addr} (e : (cloFrom X.env.cells scope.names []).lookup y = some c) : X.env.cells.lookup y = some c := by
  rcases cloFrom_mem (PySem.mem_of_lookup e) with hm | ⟨g1, g2⟩
  · cases hm
  · obtain ⟨c1, hc⟩ := L.has I.ok (y, .free) g1 rfl
    have hc' : X.env.cells.lookup y = some c1 := hc
    rw [hc'] at g2
    rw [hc', g2]
    rfl
theorem clo_look {scope : Scope} {y : Str} (hl : scope.names.lookup y = some .free) : ∃ c, (cloFrom X.env.cells scope.names []).lookup y = some c :=
  L2.mem_lookup (cloFrom_has (cells := X.env.cells) (acc := []) (PySem.mem_of_lookup hl))
/-- the body's context, entered at s with the parameter bound -/
theorem lam_in {A : Around} {outer : List Env} {E : XK} {scope : Scope} {f c' : Addr} {h1 : Heap} {tk : Nat} {x : Str} {i : Nat} {v : V} {u : Value} (I : Inv X pins σ H s) (L : LamS1 X.env.scope scope x) (e0 : Env0 X.prog X.w X.K X.mg X.base A outer s H) (hd : A.handled = none)
    (nd : X.N.Nodup) (hi : X.N[i]? = some x) (r : RelV v u) (hns : h1.Ns s.heap.objs.size fun y => ([(x, u)] : List (Str × Value)).reverse.lookup y) (kp : ∀ b o, s.heap.get? b = some o → h1.get? b = some o) :
    Inv (lamCx X A outer s H E scope f c') [] (σ.set i (some v)) H { s with heap := h1, toks := tk } where
  ok := {
    mod := e0.mod
    kind := L.kind
    glob := rfl
    blt := rfl
    above := Nat.le_refl _
    inj := fun y z c a b => I.ok.inj y z c (clo_cell I L a) (clo_cell I L b)
    has := fun y hy => by
      have hy : scope.names.lookup y = some .cell ∨ scope.names.lookup y = some .free := hy
      rcases hy with g | g
      · exact absurd rfl (L.noc _ (PySem.mem_of_lookup g))
      · exact clo_look g
    cab := fun y c z _ => Bool.noConfusion (show false = true from z)
    hd := fun _ => hd
    frames := Around.frames_deeper e0.frames
    stk := .inr ⟨rfl, rfl⟩
    exf := fun b z => nomatch (show b ∈ ([] : List Addr) from z)
    bs := e0.bs
    bsz := e0.bsz
    noex := fun b _ _ z => nomatch (show b ∈ ([] : List Addr) from z)
    exfs := fun b z => nomatch (show b ∈ ([] : List Addr) from z)
    funs := e0.funs
    frf := e0.frf }
  os := rfl
  bare := e0.bare
  base := Un.kept kp
  loc := by
    refine ⟨_, hns, fun j y w a b vis => ?_⟩
    have a : X.N[j]? = some y := a
    have vis : Vis scope y := vis
    rcases vis with g | g | g
    · have ey : y = x := L.loc _ (PySem.mem_of_lookup g) rfl
      have ej : j = i := nodup_ix nd a (by rw [ey]; exact hi)
      have hl : i < σ.length := by rw [I.len]; exact (List.getElem?_eq_some_iff.mp hi).1
      rw [ej, List.getElem?_set_self hl] at b
      obtain rfl : v = w := Option.some.inj (Option.some.inj b)
      exact ⟨u, r, .inl ⟨g, by rw [ey]; simp⟩⟩
    · exact absurd rfl (L.noc _ (PySem.mem_of_lookup g))
    · have hne : j ≠ i := fun z => by
        rw [z] at a
        have ey : y = x := Option.some.inj (a.symm.trans hi)
        rw [ey, L.par] at g
        cases g
      rw [List.getElem?_set_ne hne.symm] at b
      obtain ⟨m, _, hl⟩ := I.loc
      have fr := L.free _ (PySem.mem_of_lookup g) rfl
      obtain ⟨w', r', q⟩ := hl j y w a b (fr.elim (fun k => .inr (.inl k)) fun k => .inr (.inr k))
      obtain ⟨c2, g2⟩ := clo_look (X := X) g
      have c1 := clo_cell I L g2
      refine ⟨w', r', .inr ⟨.inr g, c2, g2, ?_⟩⟩
      rcases q with ⟨k, _⟩ | ⟨_, c3, e3, z⟩
      · have k : X.env.scope.names.lookup y = some .local := k
        have fr' : X.env.scope.names.lookup y = some .cell ∨ X.env.scope.names.lookup y = some .free := fr
        rw [k] at fr'
        rcases fr' with z | z <;> cases z
      · rw [c1] at e3
        cases e3
        obtain ⟨o, ho, hd'⟩ := z
        exact ⟨o, kp _ _ ho, hd'⟩
  cell := fun y c e => by
    obtain ⟨w, o, ho, g⟩ := I.cell y c (clo_cell I L e)
    exact ⟨w, o, kp _ _ ho, g⟩
  free := e0.hok.fresh (Nat.le_refl _)
  freeC := fun y c e => I.freeC y c (clo_cell I L e)
  pin := fun p hp => nomatch (show p ∈ ([] : List (Addr × Obj)) from hp)
  hok := e0.hok.kept kp
  len := by
    rw [List.length_set]
    exact I.len
/-- the lambda called, within sorted: its key -/
theorem lam_key {scope : Scope} {f c' : Addr} {pm ctv : Value} {params : Arguments} {body : Expr} {k i : Nat} {x : Str} {v : V} {u : Value} {n : Int} {tb : TE} (I : Inv X pins σ H s) (L : LamS1 X.env.scope scope x)
    (hf : s.heap.get? f = some (PySem.W.kla_obj "<lambda>" (X.env.qual ++ "<lambda>") params body scope (cloFrom X.env.cells scope.names []) pm c' ctv)) (hc : H c' = some (CodeO c' (X.env.qual ++ "<lambda>")))
    (hbind : bindArgs (PySem.W.kla_fn "<lambda>" (X.env.qual ++ "<lambda>") params body scope (cloFrom X.env.cells scope.names []) pm (.ref c') ctv) ⟨[u], []⟩ = pure [(x, u)])
    (nd : X.N.Nodup) (hi : X.N[i]? = some x) (r : RelV v u) (hr : Room (k + 3) X.A)
    (hbody : ∀ (A : Around) (outer : List Env) (s : Shared) (H : Hp), Room k (A.deeper (lamEnv X scope s.heap.objs.size f c')) → PE (lamCx X A outer s H (fun _ _ _ => False) scope f c') body tb)
    (ht : tb (σ.set i (some v)) H fun z H' => z = .int n ∧ H' = H) :
    wpAny (model X.prog X.w) X.A.in1.in1 (call (.ref f) [u]) (fun z s2 => (∃ t, z = .int n t) ∧ Inv X pins σ H s2 ∧ KeepU X H s s2) (fun _ _ => False) s := by
  obtain ⟨⟨oc, vs, t, hoc, hdc, hvc⟩, _, _⟩ := I.hok c' _ hc
  have hr2 : Room (k + 1) X.A.in1.in1 := hr.in1.in1
  have e0 : Env0 X.prog X.w X.K X.mg X.base X.A.in1.in1 X.stack s H := I.env0.in1.in1
  have rc : codeAny (model X.prog X.w) X.A.in1.in1 (.call (.ref f) ⟨[u], []⟩) (CR (L2.CX X.prog X.w) X.stack X.prog X.w H s (fun z H' => z = .int n ∧ H' = H) fun _ _ _ => False) s := by
    refine PySem.W.kla_callFunE hr2.depth hf rfl L.co L.gen rfl ⟨c', oc, vs, t, rfl, hoc, hdc, hvc⟩ ?_
    rw [hbind]
    refine wpAny_pure (wpAny_newFunctionEnv L.noc (fun y hy => ?_) (fun h1 hns hsb => ⟨I.nolimit.fresh _ hsb, ?_⟩) L.kind)
    · obtain rfl := List.mem_singleton.mp hy
      exact L.par
    · have kp : ∀ b o, s.heap.get? b = some o → h1.get? b = some o := fun b o e => hsb.extBut b o (Nat.ne_of_lt (Heap.lt_size e)) (Heap.get?_push_of_some _ e)
      have J := lam_in (E := fun _ _ _ => False) (f := f) (c' := c') (tk := s.toks + ([(x, u)] : List (Str × Value)).length) I L e0 hr2.hd nd hi r hns kp
      refine PySem.W.kla_codeExpr (wpAny_mono ((hbody _ _ s H (hr2.deeper _)).run [] _ _ H _ J ht) (fun w s' hq => ?_) fun e s' hq => hq)
      obtain ⟨w', H', J', rv, q⟩ := hq
      exact ⟨w', H', J'.os, J'.bare, J'.base, J'.hok, rv, q⟩
  refine wpAny_call (codeAny_mono rc fun z s' hq => ?_)
  cases z with
  | error e =>
    obtain ⟨_, _, _, _, _, _, _, _, _, _, _, _, _, _, _, _, z⟩ := hq
  | ok fl =>
    cases fl with
    | ret w =>
      have un : Un (frs X.stack) [] H H s.heap s'.heap := by
        obtain ⟨v', H', _, _, un, _, _, _, eH⟩ := hq
        rw [eH] at un
        exact un
      obtain ⟨v', H', I', rv, ev, eH⟩ := I.after hq
      subst ev
      rw [eH] at I'
      exact ⟨rv, I', fun b o e n' nf => un.keep b o e n' nf (by simp)⟩
    | next => exact False.elim hq
    | brk => exact False.elim hq
    | cont => exact False.elim hq
end
/-- what sorted(e, key=lambda x: body) asks: T, the tables of code objects; tb: the body's reading -/
def tSortLam (K : PySem.W.Frag) (T : List (Addr × Str)) (i : Nat) (te tb : TE) : TE := fun σ H Q => te σ H fun v H1 => ∃ (l : Addr) (as : List Addr), v = .ref l ∧ SqL K H1 l (as.map V.ref) ∧ Tabs T H1 ∧
  ∀ H2, ExtN H1 H2 → Tabs T H2 → ∃ kf : Addr → Int, (∀ a ∈ as, tb (σ.set i (some (.ref a))) H2 fun z H' => z = .int (kf a) ∧ H' = H2) ∧
    ∀ (bs : List Addr) (p : Addr), SrtBy kf as bs → H2 p = none → Q (.ref p) (upd H2 p (.lst (bs.map V.ref)))
def oneV (R : V → Hp → Prop) : List V → Hp → Prop
  | [v], H => R v H
  | _, _ => False
theorem SqL.extN {K : PySem.W.Frag} {H H' : Hp} {a : Addr} {xs : List V} (h : SqL K H a xs) (e : ExtN H H') : SqL K H' a xs := by
  rcases h with (h | ⟨o, h⟩) | h
  · exact .inl (.inl (e _ _ h fun _ z => by cases z))
  · exact .inl (.inr ⟨o, e _ _ h fun _ z => by cases z⟩)
  · exact .inr h
theorem pe_sortLam {X : Cx} {T : List (Addr × Str)} {c P : Addr} {k i : Nat} {x : Str} {e : Expr} {te tb : TE} {params : Arguments} {body : Expr} {scope : Scope} {p lpos kpos pos : Pos} (hg : Gl X "sorted") (hm : X.mg "sorted" = none) (he : PA X [e] (tCons te tNil))
    (TB : TabB X.base X.mg c P) (hcode : X.env.code = .ref c) (hmT : (P, X.env.qual ++ "<lambda>") ∈ T) (hu : ∀ p ∈ T, p.1 = P → p.2 = X.env.qual ++ "<lambda>") (hr : Room (k + 3) X.A) (L : LamS1 X.env.scope scope x) (hdef : defaultsOf params X.env = ([], []))
    (hbind : ∀ (q : Str) (cl : List (Str × Addr)) (pm cv ctv u : Value), bindArgs (PySem.W.kla_fn "<lambda>" q params body scope cl pm cv ctv) ⟨[u], []⟩ = pure [(x, u)]) (nd : X.N.Nodup) (hi : X.N[i]? = some x)
    (hbody : ∀ (A : Around) (outer : List Env) (s : Shared) (H : Hp) (f c' : Addr), Room k (A.deeper (lamEnv X scope s.heap.objs.size f c')) → PE (lamCx X A outer s H (fun _ _ _ => False) scope f c') body tb)
    (he1 : backTo pos (starEach (e :: []) X.env) = (false, eval e X.env) :: backTo pos (starEach [] X.env) := by rfl) (hpl : (backTo pos (starEach (e :: []) X.env)).any (·.1) = false := by rfl) :
    PE X (.Call (.Name "sorted" p) [e] [⟨some "key", .Lambda params body scope lpos, kpos⟩] pos) (tSortLam X.K T i te tb) := by
  refine ⟨fun pins s σ H Q I h => ?_⟩
  refine wpAny_Call_Name_kw (ld_blt I hg hm (u := .builtin "sorted") (by decide +kernel) ?_ (by decide))
  refine PyProof.Rows.callWith_kw (thn (he.run pos pins s σ H (oneV fun v H1 => ∃ (l : Addr) (as : List Addr), v = .ref l ∧ SqL X.K H1 l (as.map V.ref) ∧ Tabs T H1 ∧
      ∀ H2, ExtN H1 H2 → Tabs T H2 → ∃ kf : Addr → Int, (∀ a ∈ as, tb (σ.set i (some (.ref a))) H2 fun z H' => z = .int (kf a) ∧ H' = H2) ∧
        ∀ (bs : List Addr) (p : Addr), SrtBy kf as bs → H2 p = none → Q (.ref p) (upd H2 p (.lst (bs.map V.ref)))) I h) fun us s1 hq => ?_) he1 hpl (by rfl) (by rfl)
  obtain ⟨vs, H1, I1, r1, q1⟩ := hq
  match vs, q1, r1 with
  | [v], q1, r1 =>
    obtain ⟨l, as, rfl, hl, hT, q⟩ := q1
    cases r1 with
    | cons r0 rn =>
      cases rn
      obtain rfl : _ = Value.ref l := r0
      show wpAny _ _ (evalAll ((do let v ← eval (.Lambda params body scope lpos) X.env; standAt pos; pure v) :: [])) _ _ s1
      refine wpAny_evalAll_cons (wpAny_bind (lam_make2 I1 TB hcode hmT hu hT hdef (fun y hy e => L.has I1.ok y hy e) fun f c' pm ctv H2 s2 I2 eN T2 hf hfn hfr hco => ?_))
      refine wpAny_bind (wpAny_standAt (wpAny_pure (wpAny_evalAll_nil ?_)))
      obtain ⟨kf, hk, hq⟩ := q H2 eN T2
      refine sorted_key_run I2 (SqL.extN hl eN) (fun s3 y my I3 K3 => ?_) hq
      exact lam_key I3 L (K3 _ _ hf hfn hfr) hco (hbind _ _ _ _ _ _) nd hi (show RelV (.ref y) (Value.ref y) from rfl) hr (fun A outer s H hr' => hbody A outer s H f c' hr') (hk y my)
end Lr
end
section
set_option Elab.async false
set_option linter.all false
set_option maxRecDepth 100000
set_option maxHeartbeats 4000000
/-! The end of a specification's row where the program makes lambdas: the tables of their code objects are tracked, too. -/
namespace Lr
open PySem PySem.Spec PyProof.Rows L2 LamX
open PySem.W (Codec OpenSpec WData WellAll ReadsW)
/-- ahead of the call: what stands in H, with the tables besides -/
def withT (H : Hp) (ts : List Addr) : Hp := fun b => if b ∈ ts then some (.tbl #[]) else H b
theorem withT_in {H : Hp} {ts : List Addr} {b : Addr} (h : b ∈ ts) : withT H ts b = some (.tbl #[]) := if_pos h
theorem withT_out {H : Hp} {ts : List Addr} {b : Addr} (h : b ∉ ts) : withT H ts b = H b := if_neg h
theorem spec_callT {P : Program} {w : World} {K : PySem.W.Frag} {mg mb : Str → Option Value} {CX : CXT} {k : Nat} {fa : Addr} {fd : FuncData} {cs : List (Addr × Addr)} {ps : List Str} {sp : Sp} {s1 : Shared} {vals : List Value} {ds : List WData} {R : PySem.W.WRecords} {cl : Str → Option Addr} {d0 : WData}
    (KX : K.In s1.heap) (hns : s1.heap.Ns mainGlobals mg) (hb : s1.heap.Ns builtinsNs mb) (hbb : ∀ x : Str, x ≠ "__name__" → mb x = bootBuiltins x) (hlim : s1.heap.NoLimit) (hg : s1.gens = #[])
    (hT : ∀ p ∈ cs, s1.heap.get? p.2 = some { cls := .none, data := .fields #[] }) (nT : ∀ p ∈ cs, K.lookup p.2 = none) (C : ∀ p ∈ cs, PySem.W.CodeHd s1.heap p.1 p.2)
    (hbm : ∃ (bm : Addr) (ob : Obj), mg "__builtins__" = some (.ref bm) ∧ bm ≠ builtinsNs ∧ s1.heap.get? bm = some ob ∧ ob.cls = .type "module" ∧ ob.dict = some builtinsNs ∧ ob.data = .plain)
    (hwl : WellAll w.params s1.heap vals ds) (hpl : plWs ds = true) (hwt : ∀ d ∈ ds, d.weight ≤ 1048576) (hr : Room k callerA)
    (F : ∀ base : Heap, K.In base → base.Ns mainGlobals mg → (∀ p ∈ cs, TabB base mg p.1 p.2) → FnOk P w K mg base CX k fa fd ps sp) (hbind : ∀ (s : Shared) (us : List Value), us.length = ps.length → BindsTo s fd ⟨us, []⟩ (ps.zip us)) (hlen : ds.length = ps.length)
    (hsp : ∀ (H0 H : Hp) (xs : List V), (∀ b o, H0 b = some o → H b = some o) → (∀ p ∈ cs, H p.2 = some (.tbl #[])) → DwAll K H0 xs ds → sp xs H (fun v H' => Dw K H' v d0) fun _ _ _ => False)
    (hCX : ∀ H e s', CX [] H s1 (fun _ _ _ => False) e s' → False) :
    codeAny (model P w) callerA (.call (.ref fa) ⟨vals, []⟩) (fun r s' => ∃ u as, r = .ok (.ret u) ∧ ReadsW R cl s'.heap u d0 as ∧ OldK s1.heap s'.heap ∧ s'.os = s1.os ∧ AllBare s'.gens) s1 := by
  obtain ⟨A, ho, ar⟩ := area_all ds vals hwl hpl hwt
  have hS := dw_all KX ar ds vals hwl hpl ho
  have hV := vals_toV ho
  have isT : ∀ b, b ∈ cs.map (·.2) → s1.heap.get? b = some { cls := .none, data := .fields #[] } := fun b z => by
    obtain ⟨p, hp, e⟩ := List.mem_map.mp z
    rw [← e]; exact hT p hp
  have memT : ∀ p ∈ cs, p.2 ∈ cs.map (·.2) := fun p hp => List.mem_map.mpr ⟨p, hp, rfl⟩
  -- what the arguments track: sequences alone
  have seqA : ∀ b u, argH K s1.heap A b = some u → K.lookup b = none ∧ (∃ ob v, u = .frz ob v) ∧ ∃ o, s1.heap.get? b = some o ∧ ∃ vs n, o.data = .seq vs n := fun b u q => by
    obtain ⟨h1, vs, _, _, ⟨e, e2⟩ | ⟨e, e2⟩⟩ := argH_is ar q
    · exact ⟨h1, ⟨_, _, e2⟩, _, e, _, _, rfl⟩
    · exact ⟨h1, ⟨_, _, e2⟩, _, e, _, _, rfl⟩
  have okA : HOk P w (argH K s1.heap A) s1.heap := argH_ok ar
  generalize argH K s1.heap A = H0 at hS seqA okA
  have nT0 : ∀ b, b ∈ cs.map (·.2) → H0 b = none := fun b z => by
    cases q : H0 b with
    | none => rfl
    | some u =>
      obtain ⟨_, _, o, e, vs, n, d⟩ := seqA b u q
      rw [isT b z] at e
      cases e
      cases d
  have ext : ∀ b o, H0 b = some o → withT H0 (cs.map (·.2)) b = some o := fun b o e => by
    rw [withT_out fun z => by rw [nT0 b z] at e; cases e]; exact e
  have hHT : ∀ p ∈ cs, withT H0 (cs.map (·.2)) p.2 = some (.tbl #[]) := fun p hp => withT_in (memT p hp)
  have kind : ∀ b u, withT H0 (cs.map (·.2)) b = some u → (b ∈ cs.map (·.2) ∧ u = .tbl #[]) ∨ (b ∉ cs.map (·.2) ∧ H0 b = some u) := fun b u e => by
    by_cases z : b ∈ cs.map (·.2)
    · rw [withT_in z] at e
      exact .inl ⟨z, (Option.some.inj e).symm⟩
    · rw [withT_out z] at e
      exact .inr ⟨z, e⟩
  have hok : HOk P w (withT H0 (cs.map (·.2))) s1.heap := fun b u e => by
    rcases kind b u e with ⟨z, rfl⟩ | ⟨_, z⟩
    · exact isT b z
    · exact (okA b u z).stay (fun _ _ _ g => g) (fun c g => ext c _ g) fun c xs g => ext c _ g
  have spec := hsp H0 _ _ ext hHT hS
  generalize hH : withT H0 (cs.map (·.2)) = H at hHT kind hok spec
  have base_of : ∀ {b : Addr} {o : Obj}, s1.heap.get? b = some o → H b = none → (hidT s1.heap H).get? b = some o := fun e n => hidT_get e n
  have noD : ∀ {b : Addr} {o : Obj}, s1.heap.get? b = some o → (∀ vs n, o.data ≠ .seq vs n) → o.data ≠ .fields #[] → H b = none := fun {b o} e g1 g2 => by
    cases q : H b with
    | none => rfl
    | some u =>
      rcases kind b u q with ⟨z, _⟩ | ⟨_, z⟩
      · rw [isT b z] at e
        cases e
        exact (g2 rfl).elim
      · obtain ⟨_, _, o', e', vs, n, d⟩ := seqA b u z
        rw [e] at e'
        cases e'
        exact (g1 vs n d).elim
  have nsK : ∀ {b : Addr} {m : Str → Option Value}, s1.heap.Ns b m → (hidT s1.heap H).Ns b m := fun {b m} ⟨o, es, ep, e, d, r⟩ =>
    ⟨o, es, ep, base_of e (noD e (fun vs n z => by rw [d] at z; cases z) fun z => by rw [d] at z; cases z), d, r⟩
  have hKb : K.In (hidT s1.heap H) := fun b o e => base_of (KX b o e) (by
    cases q : H b with
    | none => rfl
    | some u =>
      rcases kind b u q with ⟨z, _⟩ | ⟨_, z⟩
      · obtain ⟨p, hp, ep⟩ := List.mem_map.mp z
        rw [← ep, nT p hp] at e
        cases e
      · rw [(seqA b u z).1] at e
        cases e)
  have hM : L2.Mod K mg (hidT s1.heap H) := ⟨hKb, nsK hns, ⟨mb, nsK hb, hbb⟩, let ⟨mc, g1, g2⟩ := hlim; ⟨mc, nsK g1, g2⟩⟩
  have TB : ∀ p ∈ cs, TabB (hidT s1.heap H) mg p.1 p.2 := fun p hp => by
    have hTp := hT p hp
    refine ⟨?_, ?_, fun z => ?_⟩
    · obtain ⟨o, us, file, tf, flags, tg, inF, text, tt, e1, r1, r2, r3, r4, r5, r6, r7, r8, hne⟩ := C p hp
      refine ⟨o, us, file, tf, flags, tg, inF, text, tt, base_of e1 (noD e1 (fun vs n z => by rw [r2] at z; cases z) fun z => ?_), r1, r2, r3, r4, r5, r6, r7, r8, hne⟩
      rw [r2] at z
      cases z
      simp at r3
    · obtain ⟨bm, ob, b1, b2, b3, b4, b5, b6⟩ := hbm
      have nG : bm ≠ mainGlobals := fun q => by
        obtain ⟨o, es, ep, e, hd, _⟩ := hns
        rw [q, e] at b3
        cases b3
        rw [hd] at b6
        cases b6
      have nP : bm ≠ p.2 := fun q => by
        rw [q, hTp] at b3
        cases b3
        cases b6
      exact ⟨bm, ob, b1, b2, nG, nP, base_of b3 (noD b3 (fun vs n z => by rw [b6] at z; cases z) fun z => by rw [b6] at z; cases z), b4, b5, b6⟩
    · obtain ⟨o, es, ep, e, hd, _⟩ := hns
      rw [z, hTp] at e
      cases e
      cases hd
  have e0 : Env0 P w K mg (hidT s1.heap H) callerA [] s1 H :=
    ⟨rfl, hM, fun b o e => of_hidT e, Nat.le_of_eq (hidT_size _ _), trivial, (fun b z => nomatch (show b ∈ ([] : List Addr) from z)), hok, .of_eq hg⟩
  have hl : vals.length = ps.length := by rw [wellAll_len hwl]; exact hlen
  refine codeAny_mono ((F _ hKb (nsK hns) TB).run callerA [] s1 H ⟨vals, []⟩ vals (vals.map toV) _ _ hr e0 (hbind s1 vals hl) hV spec) fun r s' x => ?_
  cases r with
  | error e => exact (hCX H e s' x).elim
  | ok fl =>
    cases fl with
    | next => exact False.elim x
    | brk => exact False.elim x
    | cont => exact False.elim x
    | ret u =>
      obtain ⟨v, H', os, bare, un, hok', r', q⟩ := x
      have key : ∀ b o, b ∉ cs.map (·.2) → s1.heap.get? b = some o → s'.heap.get? b = some o := fun b o nb e => by
        cases q2 : H b with
        | none => exact un.keep b o e q2 (fun z => nomatch (show b ∈ ([] : List Addr) from z)) (by simp)
        | some u2 =>
          rcases kind b u2 q2 with ⟨z, _⟩ | ⟨_, z⟩
          · exact absurd z nb
          · obtain ⟨_, ⟨ob, v2, rfl⟩, _⟩ := seqA b u2 z
            obtain ⟨g1, _⟩ := hok b _ q2
            obtain ⟨g2, _⟩ := hok' b _ (un.frzs b ob _ q2)
            rw [e] at g1
            cases g1
            exact g2
      have grown : ∀ p ∈ cs, ∃ more : Array Value, s'.heap.get? p.2 = some { cls := .none, data := .fields more } := fun p hp => by
        obtain ⟨more, z⟩ := un.tbls p.2 #[] (hHT p hp)
        exact ⟨_, hok' p.2 _ z⟩
      have KX' : K.In s'.heap := fun b o e => key b o (fun z => by
        obtain ⟨p, hp, ep⟩ := List.mem_map.mp z
        rw [← ep, nT p hp] at e
        cases e) (KX b o e)
      obtain ⟨as, hrd⟩ := Dw.reads (R := R) (cl := cl) hok' KX' d0 v u q r'
      refine ⟨u, as, rfl, hrd, ⟨fun b o e => ?_, fun b o e => ?_⟩, os, bare⟩
      · by_cases z : b ∈ cs.map (·.2)
        · obtain ⟨p, hp, ep⟩ := List.mem_map.mp z
          obtain ⟨more, hm⟩ := grown p hp
          rw [← ep] at e ⊢
          rw [hT p hp] at e
          cases e
          exact .inr (.inl ⟨((C p hp).tab (hT p hp)).isCodeTable, rfl, #[], more, rfl, by rw [Array.empty_append]; exact hm⟩)
        · exact .inl (key b o z e)
      · by_cases z : b ∈ cs.map (·.2)
        · obtain ⟨p, hp, ep⟩ := List.mem_map.mp z
          obtain ⟨more, hm⟩ := grown p hp
          rw [← ep]
          exact ⟨_, hm⟩
        · exact ⟨o, key b o z e⟩
/-- the promise of the row's def at the head's heap h, with the tables cs -/
def SpecAt (r : OpenSpec) (w : World) (K : PySem.W.Frag) (CX : CXT) (k : Nat) (ps : List Str) (mg : Str → Option Value) (fa : Addr) (h : Heap) : Prop :=
  ∃ (fd : FuncData) (cs : List (Addr × Addr)) (sp : Sp), (∀ p ∈ cs, h.get? p.2 = some { cls := .none, data := .fields #[] }) ∧ (∀ p ∈ cs, K.lookup p.2 = none) ∧ (∀ p ∈ cs, PySem.W.CodeHd h p.1 p.2) ∧
    (∀ (s : Shared) (us : List Value), us.length = ps.length → BindsTo s fd ⟨us, []⟩ (ps.zip us)) ∧
    (∀ (H0 H : Hp) (xs : List V) (a : Codec.denoteAll r.args), (∀ b o, H0 b = some o → H b = some o) → (∀ p ∈ cs, H p.2 = some (.tbl #[])) → Codec.withinAll r.args a = true → Codec.app r.args r.asked a = true → DwAll K H0 xs (Codec.encAll r.args a) →
      sp xs H (fun v H' => Dw K H' v (r.ret.enc (Codec.app r.args r.f a))) fun _ _ _ => False) ∧
    ∀ base : Heap, K.In base → base.Ns mainGlobals mg → (∀ p ∈ cs, TabB base mg p.1 p.2) → FnOk r.prog w K mg base CX k fa fd ps sp
theorem walk_specT {r : OpenSpec} {k : Nat} {q : Program} {loose : List Str} {XP : (Str → Option Value) → Heap → Prop} {YP : World → Heap → Prop} {d : DefRec} {CX : CXT} {ps : List Str}
    (hwell : r.wellSaid = true) (hdf : d.params.defaults = []) (hlen : r.args.length = ps.length) (hr : Room k callerA)
    (F : ∀ (w : World) (mg : Str → Option Value) (fa : Addr) (h : Heap), YP w h → h.Ns mainGlobals mg → mg d.name = some (.ref fa) → ∃ K : PySem.W.Frag, K.In h ∧ SpecAt r w K CX k ps mg fa h)
    (hCX : ∀ (H : Hp) (s : Shared) (e : Value) (s' : Shared), CX [] H s (fun _ _ _ => False) e s' → False) :
    PySem.W.WalkOS q loose XP YP r d [] (fun f vs => PySem.call f vs) := by
  intro w s0 s1 mg mb G Y fa o pm cd doc dV kV ho hd hcd hD hmg hg args vals as hpre hlay hrd hwl hlo
  obtain ⟨a, e1, e2⟩ := PySem.W.os_pre_some hpre
  obtain ⟨e3, hwi⟩ := Codec.encAll_of_decAll r.args args a e1
  subst e3
  obtain ⟨K, KX, fd, cs, sp, hT, nT, C, hb, hsp, hF⟩ := F w mg fa _ Y G.T.g hmg
  refine PySem.W.enter_call (codeAny_mono (spec_callT (R := []) (cl := classAt s0.heap) (d0 := r.ret.enc (Codec.app r.args r.f a)) KX G.T.g G.T.b G.T.builtins G.T.nolimit hg hT nT C G.T.bmain hwl (pl_encAll _ _) (layable_weight hlay) hr hF hb
    (by rw [encAll_len]; exact hlen) (fun H0 H xs g1 g2 g3 => hsp H0 H xs a g1 g2 hwi e2 g3) fun H e s' => hCX H s1 e s') fun r' s' hq => ?_)
  obtain ⟨u, as', rfl, g1, g2, g3, g4⟩ := hq
  exact ⟨.inl ⟨u, _, as', rfl, fun _ => rfl, g1, (OpenSpec.post_iff hwell hwi _ _).mpr rfl, fun z => Bool.noConfusion (show false = true from z)⟩, g2, g3, g4⟩
end Lr
end
section
set_option Elab.async false
set_option linter.all false
set_option maxRecDepth 100000
set_option maxHeartbeats 4000000
/-! list(zip(xs, ys)) of two lists: a new list of new pairs. -/
namespace Lr
open PySem PySem.Spec PyProof.Rows L2
theorem zip_nolen : typeLookup (.type "zip") "__len__" = pure none := by rw [typeLookup_type, builtinLookup_eq_fast]; kernel_rfl
theorem zip_nohint : typeLookup (.type "zip") "__length_hint__" = pure none := by rw [typeLookup_type, builtinLookup_eq_fast]; kernel_rfl
/-- a zip over two lists, i pairs drawn; S: a place apart, the last pair T still held by someone -/
structure ZAt (h : Heap) (z TI TO i1 i2 l1 l2 S : Addr) (xs ys : Array Value) (i : Nat) : Prop where
  ti : IsPair h TI (.ref i1) (.ref i2)
  a1 : h.IsListIter i1 l1 i
  a2 : h.IsListIter i2 l2 i
  b1 : h.IsList l1 xs
  b2 : h.IsList l2 ys
  z_ : (IsZip h z TI TO .none ∧ ∃ a b, IsPair h TO a b) ∨ ∃ T f oT, IsZipHeld h z TI TO T f ∧ h.get? T = some oT ∧ T ≠ z ∧ T ≠ i1 ∧ T ≠ i2 ∧ T ≠ S
/-- apart from S -/
structure ZOff (z TI TO i1 i2 l1 l2 S : Addr) : Prop where
  z_ : z < S
  ti : TI < S
  to_ : TO < S
  i1_ : i1 < S
  i2_ : i2 < S
  l1_ : l1 < S
  l2_ : l2 < S
theorem ZAt.keep {h h' : Heap} {z TI TO i1 i2 l1 l2 S : Addr} {xs ys : Array Value} {i : Nat} (x : ZAt h z TI TO i1 i2 l1 l2 S xs ys i) (D : ZOff z TI TO i1 i2 l1 l2 S) (k : ∀ b o, b ≠ S → h.get? b = some o → h'.get? b = some o) : ZAt h' z TI TO i1 i2 l1 l2 S xs ys i := by
  refine ⟨k _ _ (Nat.ne_of_lt D.ti) x.ti, x.a1.at fun o e => k _ o (Nat.ne_of_lt D.i1_) e, x.a2.at fun o e => k _ o (Nat.ne_of_lt D.i2_) e, x.b1.at fun o e => k _ o (Nat.ne_of_lt D.l1_) e, x.b2.at fun o e => k _ o (Nat.ne_of_lt D.l2_) e, ?_⟩
  rcases x.z_ with ⟨g, a, b, g2⟩ | ⟨T, f, oT, g, g2, r1, r2, r3, r4⟩
  · exact .inl ⟨k _ _ (Nat.ne_of_lt D.z_) g, a, b, k _ _ (Nat.ne_of_lt D.to_) g2⟩
  · exact .inr ⟨T, f, oT, k _ _ (Nat.ne_of_lt D.z_) g, k _ _ r4 g2, r1, r2, r3, r4⟩
theorem zoff (I a b B : Nat) (hB : B = I + 5) (h1 : a < I) (h2 : b < I) : ZOff (I + 4) (I + 2) (I + 3) I (I + 1) a b B := by
  subst hB
  exact ⟨Nat.add_lt_add_left (by decide) I, Nat.add_lt_add_left (by decide) I, Nat.add_lt_add_left (by decide) I, Nat.lt_add_of_pos_right (by decide), Nat.add_lt_add_left (by decide) I, Nat.lt_of_lt_of_le h1 (Nat.le_add_right _ _), Nat.lt_of_lt_of_le h2 (Nat.le_add_right _ _)⟩
theorem apart5 (I c : Nat) (h : c < I) : c ≠ I + 4 ∧ c ≠ I + 3 ∧ c ≠ I ∧ c ≠ I + 1 := ⟨by omega, by omega, by omega, by omega⟩
/-- the pairs made so far, behind S -/
structure ZPairs (S : Addr) (xs ys : Array Value) (h : Heap) (as : List Addr) : Prop where
  up : as.Pairwise (· < ·)
  above : ∀ a ∈ as, S < a
  two : ∀ (j : Nat) (a : Addr), as[j]? = some a → ∃ x y, xs[j]? = some x ∧ ys[j]? = some y ∧ IsPair h a x y
section
variable {prog : Program} {w : World} {A : Around} {E : Value → Shared → Prop} {s : Shared} {z TI TO i1 i2 l1 l2 S : Addr} {xs ys : Array Value}
theorem zat_item {i : Nat} {x y : Value} {Q : Option Value → Shared → Prop} (D : ZipApart z TI TO i1 i2 l1 l2) (st : ZAt s.heap z TI TO i1 i2 l1 l2 S xs ys i) (hS : S < s.heap.objs.size) (hx : xs[i]? = some x) (hy : ys[i]? = some y)
    (hQ : ∀ h', ZAt h' z TI TO i1 i2 l1 l2 S xs ys (i + 1) → IsPair h' s.heap.objs.size x y → h'.objs.size = s.heap.objs.size + 1 → (∀ c o, c ≠ z → c ≠ TO → c ≠ i1 → c ≠ i2 → s.heap.get? c = some o → h'.get? c = some o) → Q (some (.ref s.heap.objs.size)) { s with heap := h' }) :
    wpAny (model prog w) A (pyNext (.ref z)) Q E s := by
  have lt : ∀ {c o}, s.heap.get? c = some o → s.heap.objs.size ≠ c := fun e => Nat.ne_of_gt (Heap.lt_size e)
  have n1 : s.heap.objs.size ≠ i1 := let ⟨_, e, _⟩ := st.a1; lt e
  have n2 : s.heap.objs.size ≠ i2 := let ⟨_, e, _⟩ := st.a2; lt e
  rcases st.z_ with ⟨g, a, b, g2⟩ | ⟨T, f, oT, g, g2, r1, r2, r3, r4⟩
  · refine wpAny_pyNext_zip_item D g st.ti g2 st.a1 st.a2 st.b1 st.b2 hx hy fun h' q1 q2 q3 q4 q5 q6 hk => ?_
    exact hQ h' ⟨hk _ _ D.TIz D.TITO D.TIi1 D.TIi2 st.ti, q3, q4, st.b1.at fun o e => hk _ o D.l1z D.l1TO D.l1i1 D.l1i2 e, st.b2.at fun o e => hk _ o D.l2z D.l2TO D.l2i1 D.l2i2 e, .inr ⟨_, false, _, q1, q5, lt g, n1, n2, Nat.ne_of_gt hS⟩⟩ q5 q6 hk
  · refine wpAny_pyNext_zip_item_held D g g2 st.ti st.a1 st.a2 st.b1 st.b2 hx hy fun h' q1 q3 q4 q5 q6 hk => ?_
    exact hQ h' ⟨hk _ _ D.TIz D.TIi1 D.TIi2 st.ti, q3, q4, st.b1.at fun o e => hk _ o D.l1z D.l1i1 D.l1i2 e, st.b2.at fun o e => hk _ o D.l2z D.l2i1 D.l2i2 e, .inr ⟨T, true, oT, q1, hk _ _ r1 r2 r3 g2, r1, r2, r3, r4⟩⟩ q5 q6 fun c o c1 _ c3 c4 e => hk c o c1 c3 c4 e
theorem zat_end {i : Nat} {Q : Option Value → Shared → Prop} (hh : A.handled = none) (D : ZipApart z TI TO i1 i2 l1 l2) (st : ZAt s.heap z TI TO i1 i2 l1 l2 S xs ys i) (hx : xs[i]? = none)
    (hQ : ∀ h', (∀ c o, c ≠ z → c ≠ TO → c ≠ i1 → c ≠ i2 → s.heap.get? c = some o → h'.get? c = some o) → Q none { s with heap := h' }) : wpAny (model prog w) A (pyNext (.ref z)) Q E s := by
  rcases st.z_ with ⟨g, a, b, g2⟩ | ⟨T, f, oT, g, g2, r1, r2, r3, r4⟩
  · exact wpAny_pyNext_zip_end hh D g st.ti g2 st.a1 st.a2 st.b1 st.b2 (.inl hx) hQ
  · exact wpAny_pyNext_zip_end_held hh D g g2 st.ti st.a1 st.a2 st.b1 st.b2 (.inl hx) fun h' hk => hQ h' fun c o c1 _ c3 c4 e => hk c o c1 c3 c4 e
end
section
variable {prog : Program} {w : World} {A : Around} {s : Shared} {R : Result → Shared → Prop} {z TI TO i1 i2 l1 l2 S : Addr} {xs ys : Array Value}
theorem zl_loop (hh : A.handled = none) (D : ZipApart z TI TO i1 i2 l1 l2) (O : ZOff z TI TO i1 i2 l1 l2 S) (hl : xs.size = ys.size) (hn : xs.size ≤ sizeLine) (res : Value) {h0 : Heap}
    (hR : ∀ h' tk acc c as, (∀ b o, b ≠ S → b ≠ z → b ≠ TO → b ≠ i1 → b ≠ i2 → h0.get? b = some o → h'.get? b = some o) → h'.get? S = some { cls := .type "list", dict := none, data := .seq acc c, slots := #[] } → as.length = xs.size → ZPairs S xs ys h' as →
      acc.toList = as.map Value.ref → R (.ok (.ret res)) { s with heap := h', toks := tk }) :
    ∀ (k i : Nat) (h : Heap) (tk c : Nat) (acc : Array Value) (as : List Addr), xs.size - i = k → i ≤ xs.size → ZAt h z TI TO i1 i2 l1 l2 S xs ys i → (∀ b o, b ≠ S → b ≠ z → b ≠ TO → b ≠ i1 → b ≠ i2 → h0.get? b = some o → h.get? b = some o) →
      h.get? S = some { cls := .type "list", dict := none, data := .seq acc c, slots := #[] } → acc.toList = as.map Value.ref → as.length = i → ZPairs S xs ys h as →
      codeAny (model prog w) A (.builtin "list.extend.loop" ⟨[.ref S, .ref z, res], []⟩) R { s with heap := h, toks := tk } := by
  have sz : S ≠ z := Nat.ne_of_gt O.z_
  have sto : S ≠ TO := Nat.ne_of_gt O.to_
  have s1 : S ≠ i1 := Nat.ne_of_gt O.i1_
  have s2 : S ≠ i2 := Nat.ne_of_gt O.i2_
  have far : ∀ a, S < a → a ≠ z ∧ a ≠ TO ∧ a ≠ i1 ∧ a ≠ i2 := fun a h => ⟨Nat.ne_of_gt (Nat.lt_trans O.z_ h), Nat.ne_of_gt (Nat.lt_trans O.to_ h), Nat.ne_of_gt (Nat.lt_trans O.i1_ h), Nat.ne_of_gt (Nat.lt_trans O.i2_ h)⟩
  intro k
  induction k with
  | zero =>
    intro i h tk c acc as hk hi st kp hS hacc hal G
    refine codeAny_builtin PySem.F.entry_extend_loop ?_
    rw [Around.under_plainId PySem.F.plain_extend_loop _]
    show wpAny _ A.in1 (pyNext (.ref z) >>= _) _ _ _
    refine wpAny_bind (zat_end (s := { s with heap := h, toks := tk }) (A := A.in1) hh D st (Array.getElem?_eq_none (by omega)) fun h' he => ?_)
    refine wpAny_pure (hR h' tk acc c as (fun b o g0 g1 g2 g3 g4 e => he b o g1 g2 g3 g4 (kp b o g0 g1 g2 g3 g4 e)) (he S _ sz sto s1 s2 hS) (by omega) ⟨G.up, G.above, fun j a hj => ?_⟩ hacc)
    obtain ⟨x, y, e1, e2, e3⟩ := G.two j a hj
    obtain ⟨f1, f2, f3, f4⟩ := far a (G.above a (List.mem_of_getElem? hj))
    exact ⟨x, y, e1, e2, he a _ f1 f2 f3 f4 e3⟩
  | succ k ih =>
    intro i h tk c acc as hk hi st kp hS hacc hal G
    have hlt : i < xs.size := by omega
    have hlt2 : i < ys.size := by omega
    have hsz : acc.size = i := by rw [← Array.length_toList, hacc, List.length_map, hal]
    have hSl : S < h.objs.size := Heap.lt_size hS
    refine codeAny_builtin PySem.F.entry_extend_loop ?_
    rw [Around.under_plainId PySem.F.plain_extend_loop _]
    show wpAny _ A.in1 (pyNext (.ref z) >>= _) _ _ _
    refine wpAny_bind (zat_item (s := { s with heap := h, toks := tk }) D st hSl (Array.getElem?_eq_getElem hlt) (Array.getElem?_eq_getElem hlt2) fun h' st' hp hz hkp => ?_)
    dsimp only at hp hz hkp ⊢
    have hS' := hkp S _ sz sto s1 s2 hS
    have up : ∀ b o, b ≠ S → h'.get? b = some o → (h'.update S (Obj.mapSeq (·.push (Value.ref h.objs.size)))).get? b = some o := fun b o hb e => (Heap.get?_update_other _ _ (Ne.symm hb)).trans e
    show wpAny _ A.in1 (updateSeq S (·.push (Value.ref h.objs.size)) >>= _) _ _ _
    refine wpAny_bind (wpAny_updateSeq hS' rfl (wpAny_pure ⟨plainId_quiet PySem.F.plain_extend_loop _, ih (i + 1) _ tk _ (acc.push (Value.ref h.objs.size)) (as ++ [h.objs.size]) (by omega) hlt (st'.keep O up)
      (fun b o g0 g1 g2 g3 g4 e => up b o g0 (hkp b o g1 g2 g3 g4 (kp b o g0 g1 g2 g3 g4 e))) (Heap.get?_update_self _ hS' rfl) (by rw [Array.toList_push, hacc, List.map_append]; rfl) (by rw [List.length_append, hal]; rfl) ⟨?_, ?_, ?_⟩⟩) (by rw [hsz]; omega) (by show (acc.push (Value.ref h.objs.size)).size ≤ sizeLine + 1; rw [Array.size_push, hsz]; omega))
    · refine List.pairwise_append.mpr ⟨G.up, List.pairwise_singleton _ _, fun a ha b hb => ?_⟩
      obtain rfl := List.mem_singleton.mp hb
      obtain ⟨j, hj⟩ := List.mem_iff_getElem?.mp ha
      obtain ⟨_, _, _, _, e⟩ := G.two j a hj
      exact Heap.lt_size e
    · intro a ha
      rcases List.mem_append.mp ha with ha | ha
      · exact G.above a ha
      · obtain rfl := List.mem_singleton.mp ha; exact hSl
    · intro j b hj
      by_cases h1 : j < as.length
      · rw [List.getElem?_append_left h1] at hj
        obtain ⟨x', y', e1, e2, e3⟩ := G.two j b hj
        have hb := G.above b (List.mem_of_getElem? hj)
        obtain ⟨f1, f2, f3, f4⟩ := far b hb
        exact ⟨x', y', e1, e2, up b _ (Nat.ne_of_gt hb) (hkp b _ f1 f2 f3 f4 e3)⟩
      · rw [List.getElem?_append_right (by omega)] at hj
        have h2 : j = as.length := by
          by_cases q : j - as.length = 0
          · omega
          · rw [List.getElem?_eq_none (by rw [List.length_singleton]; omega)] at hj; cases hj
        subst h2
        have hb : h.objs.size = b := by simpa using hj
        subst hb
        exact ⟨_, _, by rw [hal]; exact Array.getElem?_eq_getElem hlt, by rw [hal]; exact Array.getElem?_eq_getElem hlt2, up _ _ (Nat.ne_of_gt hSl) hp⟩
theorem zl_extend (hh : A.handled = none) (D : ZipApart z TI TO i1 i2 l1 l2) (O : ZOff z TI TO i1 i2 l1 l2 S) (hl : xs.size = ys.size) (hn : xs.size ≤ sizeLine) (res : Value) (c0 : Nat) (st : ZAt s.heap z TI TO i1 i2 l1 l2 S xs ys 0) (hz : IsZip s.heap z TI TO .none) (hS : s.heap.get? S = some { cls := .type "list", data := .seq #[] c0 })
    (hR : ∀ h' tk acc c as, (∀ b o, b ≠ S → b ≠ z → b ≠ TO → b ≠ i1 → b ≠ i2 → s.heap.get? b = some o → h'.get? b = some o) → h'.get? S = some { cls := .type "list", dict := none, data := .seq acc c, slots := #[] } → as.length = xs.size → ZPairs S xs ys h' as →
      acc.toList = as.map Value.ref → R (.ok (.ret res)) { s with heap := h', toks := tk }) :
    wpAny (model prog w) A.in1 (Builtin.List.listExtendWith (.ref S) (.ref z) res)
      (fun fin s' => match fin with | .done f => R (.ok f) s' | .again c' => c'.quiet = true ∧ codeAny (model prog w) A c' R s') (fun e s' => R (.error e) s') s := by
  have hT : s.TypeIs (.ref z) "zip" := ⟨_, hz, rfl⟩
  unfold Builtin.List.listExtendWith
  refine wpAny_bind (wpAny_typeOf hT ?_)
  have e1 : Builtin.List.listSameRef (.ref S) (.ref z) = false := by simp [Builtin.List.listSameRef, Nat.ne_of_gt O.z_]
  have e2 : (Value.type "zip" == Value.type "list") = false := by decide
  have e3 : (Value.type "zip" == Value.type "tuple") = false := by decide
  simp only [e1, e2, e3, Bool.or_false, Bool.false_eq_true, if_false]
  refine wpAny_bind (wpAny_pyIter_zip hz (wpAny_bind (wpAny_holding ?_)))
  unfold Builtin.List.listLengthHint
  refine wpAny_bind (wpAny_specialOf hT zip_nolen ?_)
  show wpAny _ A.in1 (specialOf (Value.ref z) (Str.ofString "__length_hint__") >>= _) _ _ _
  refine wpAny_bind (wpAny_specialOf hT zip_nohint (wpAny_pure ?_))
  show wpAny _ A.in1 (rule "list.extend.makes-room" >>= fun _ => Builtin.List.listTouch (.ref S) >>= fun _ => again (.builtin "list.extend.loop" ⟨[.ref S, .ref z, res], []⟩)) _ _ _
  refine wpAny_bind (wpAny_rule (wpAny_bind ?_))
  show wpAny _ A.in1 (updateSeq S (·.push .none) >>= fun _ => updateSeq S (·.pop)) _ _ _
  refine wpAny_bind (wpAny_updateSeq hS rfl ?_)
  have hS2 := Heap.get?_update_self (Obj.mapSeq (·.push Value.none)) hS rfl
  refine wpAny_updateSeq (hz := by seq_fits) hS2 rfl ?_
  have hS3 := Heap.get?_update_self (Obj.mapSeq (·.pop)) hS2 rfl
  have oth : ∀ b o, b ≠ S → s.heap.get? b = some o → ((s.heap.update S (Obj.mapSeq (·.push Value.none))).update S (Obj.mapSeq (·.pop))).get? b = some o := fun b o hb e => (Heap.get?_update_other _ _ (Ne.symm hb)).trans ((Heap.get?_update_other _ _ (Ne.symm hb)).trans e)
  exact wpAny_pure ⟨plainId_quiet PySem.F.plain_extend_loop _, zl_loop (s := s) (h0 := s.heap) hh D O hl hn res hR xs.size 0 _ _ _ #[] [] (Nat.sub_zero _) (Nat.zero_le _) (st.keep O oth) (fun b o g0 _ _ _ _ e => oth b o g0 e) hS3 rfl rfl
    ⟨List.Pairwise.nil, (fun _ ha => nomatch ha), (fun j a hj => by simp at hj)⟩⟩
theorem zl_init (hh : A.handled = none) (D : ZipApart z TI TO i1 i2 l1 l2) (O : ZOff z TI TO i1 i2 l1 l2 S) (hl : xs.size = ys.size) (hn : xs.size ≤ sizeLine) (st : ZAt s.heap z TI TO i1 i2 l1 l2 S xs ys 0) (hz : IsZip s.heap z TI TO .none) (hS : s.heap.get? S = some { cls := .type "list", data := .seq #[] })
    (hR : ∀ h' tk acc c as, (∀ b o, b ≠ S → b ≠ z → b ≠ TO → b ≠ i1 → b ≠ i2 → s.heap.get? b = some o → h'.get? b = some o) → h'.get? S = some { cls := .type "list", dict := none, data := .seq acc c, slots := #[] } → as.length = xs.size → ZPairs S xs ys h' as →
      acc.toList = as.map Value.ref → R (.ok (.ret .none)) { s with heap := h', toks := tk }) :
    wpAny (model prog w) A.in1 (Builtin.«list.__init__» ⟨[.ref S, .ref z], []⟩)
      (fun fin s' => match fin with | .done f => R (.ok f) s' | .again c' => c'.quiet = true ∧ codeAny (model prog w) A c' R s') (fun e s' => R (.error e) s') s := by
  show wpAny _ _ (do let old ← Builtin.List.listItems (.ref S); Builtin.List.listUpdate (.ref S) (fun _ => #[]); letGo old.toList.reverse; Builtin.List.listExtendWith (.ref S) (.ref z) .none) _ _ s
  refine wpAny_bind ?_
  unfold Builtin.List.listItems
  refine wpAny_bind (wpAny_seqItems hS rfl (wpAny_pure ?_))
  show wpAny _ _ (updateSeq S (fun _ => #[]) >>= fun _ => letGo (#[] : Array Value).toList.reverse >>= fun _ => Builtin.List.listExtendWith (.ref S) (.ref z) .none) _ _ s
  refine wpAny_bind (wpAny_updateSeq hS rfl ?_)
  have hS2 := Heap.get?_update_self (Obj.mapSeq (fun _ => (#[] : Array Value))) hS rfl
  have oth : ∀ b o, b ≠ S → s.heap.get? b = some o → (s.heap.update S (Obj.mapSeq (fun _ => (#[] : Array Value)))).get? b = some o := fun b o hb e => (Heap.get?_update_other _ _ (Ne.symm hb)).trans e
  refine wpAny_bind (wpAny_letGo ?_)
  exact zl_extend (s := { s with heap := s.heap.update S (Obj.mapSeq (fun _ => (#[] : Array Value))) }) hh D O hl hn .none _ (st.keep O oth) (oth _ _ (Nat.ne_of_lt O.z_) hz) hS2 fun h' tk acc c as hk => hR h' tk acc c as fun b o g0 g1 g2 g3 g4 e => hk b o g0 g1 g2 g3 g4 (oth b o g0 e)
theorem zl_call {E : Value → Shared → Prop} {Q : Value → Shared → Prop} (hh : A.handled = none) (D : ZipApart z TI TO i1 i2 l1 l2) (O : ZOff z TI TO i1 i2 l1 l2 s.heap.objs.size) (hl : xs.size = ys.size) (hn : xs.size ≤ sizeLine) (st : ZAt s.heap z TI TO i1 i2 l1 l2 s.heap.objs.size xs ys 0) (hz : IsZip s.heap z TI TO .none)
    (hQ : ∀ h' tk acc c as, (∀ b o, b ≠ z → b ≠ TO → b ≠ i1 → b ≠ i2 → s.heap.get? b = some o → h'.get? b = some o) → h'.get? s.heap.objs.size = some { cls := .type "list", dict := none, data := .seq acc c, slots := #[] } → as.length = xs.size → ZPairs s.heap.objs.size xs ys h' as →
      acc.toList = as.map Value.ref → Q (.ref s.heap.objs.size) { s with heap := h', toks := tk }) :
    wpAny (model prog w) A (call (.type "list") [.ref z]) Q E s := by
  refine callType_codes (Q₁ := fun obj q => obj = .ref s.heap.objs.size ∧ q = { s with heap := s.heap.push { cls := .type "list", data := .seq #[] } }) PySem.F.called_list (PySem.F.typeCall_list_1 _) PySem.F.entry_list_init (code_list_new _ ⟨rfl, rfl⟩) fun obj q hq => ?_
  obtain ⟨rfl, rfl⟩ := hq
  have hS : (s.heap.push { cls := .type "list", data := .seq #[] }).get? s.heap.objs.size = some { cls := .type "list", data := .seq #[] } := Heap.get?_push_size _ rfl
  have pu : ∀ b o, s.heap.get? b = some o → (s.heap.push { cls := .type "list", data := .seq #[] }).get? b = some o := fun b o e => Heap.get?_push_of_some _ e
  refine ⟨⟨_, hS, rfl⟩, PySem.F.args_list_init_2 _ _, zl_init (A := A.in1) hh D O hl hn (st.keep O fun b o _ e => pu b o e) (pu _ _ hz) hS fun h' tk acc c as hk hS' hl' G hacc => ?_⟩
  exact ⟨rfl, hQ h' tk acc c as (fun b o g1 g2 g3 g4 e => hk b o (Nat.ne_of_lt (Heap.lt_size e)) g1 g2 g3 g4 (pu b o e)) hS' hl' G hacc⟩
end
/-! ### the rule -/
/-- the pairs tracked at their addresses -/
def putP : Hp → List Addr → List (V × V) → Hp
  | H, a :: as, p :: ps => putP (upd H a (.tup [p.1, p.2])) as ps
  | H, _, _ => H
theorem putP_off {b : Addr} : ∀ (as : List Addr) (ps : List (V × V)) (H : Hp), b ∉ as → putP H as ps b = H b
  | [], _, _, _ => rfl
  | _ :: _, [], _, _ => rfl
  | a :: as, p :: ps, H, h => by
    show putP (upd H a (.tup [p.1, p.2])) as ps b = H b
    rw [putP_off as ps _ (fun q => h (List.mem_cons_of_mem _ q)), upd_ne (fun q => h (by rw [q]; exact List.mem_cons_self))]
theorem putP_at : ∀ (as : List Addr) (ps : List (V × V)) (H : Hp), as.Nodup → ∀ (i : Nat) (a : Addr) (p : V × V), as[i]? = some a → ps[i]? = some p → putP H as ps a = some (.tup [p.1, p.2])
  | [], _, _, _, _, _, _, h, _ => by simp at h
  | _ :: _, [], _, _, _, _, _, _, h => by simp at h
  | a :: as, p :: ps, H, nd, 0, b, q, h1, h2 => by
    have nd' := List.nodup_cons.mp nd
    obtain rfl : a = b := by simpa using h1
    obtain rfl : p = q := by simpa using h2
    show putP (upd H a (.tup [p.1, p.2])) as ps a = _
    rw [putP_off as ps _ nd'.1, upd_same]
  | a :: as, p :: ps, H, nd, i + 1, b, q, h1, h2 => putP_at as ps (upd H a (.tup [p.1, p.2])) (List.nodup_cons.mp nd).2 i b q (by simpa using h1) (by simpa using h2)
theorem refs_vals : ∀ as : List Addr, Vals (as.map V.ref) (as.map Value.ref)
  | [] => .nil
  | _ :: as => .cons rfl (refs_vals as)
theorem vals_at {xs : List V} {us : List Value} (h : Vals xs us) : ∀ {i : Nat} {u : Value}, us[i]? = some u → ∃ x, xs[i]? = some x ∧ RelV x u := by
  induction h with
  | nil => intro i u e; simp at e
  | cons r _ ih =>
    intro i u e
    cases i with
    | zero =>
      obtain rfl := Option.some.inj e
      exact ⟨_, rfl, r⟩
    | succ i => exact ih e
theorem zip_get {α β : Type} : ∀ {xs : List α} {ys : List β} {i : Nat} {x : α} {y : β}, xs[i]? = some x → ys[i]? = some y → (xs.zip ys)[i]? = some (x, y)
  | [], _, _, _, _, h, _ => by simp at h
  | _ :: _, [], _, _, _, _, h => by simp at h
  | a :: xs, b :: ys, 0, x, y, h1, h2 => by simp at h1 h2; simp [h1, h2]
  | a :: xs, b :: ys, i + 1, x, y, h1, h2 => by
    have := zip_get (xs := xs) (ys := ys) (i := i) (x := x) (y := y) (by simpa using h1) (by simpa using h2)
    simpa using this
def tListZip (K : PySem.W.Frag) (ta : TA) : TE := fun σ H Q => ta σ H fun vs H1 => ∃ (a b : Addr) (xs ys : List V), vs = [.ref a, .ref b] ∧ SqL K H1 a xs ∧ SqL K H1 b ys ∧ xs.length = ys.length ∧
  ∀ (H' : Hp) (p : Addr) (ts : List Addr), (∀ b o, H1 b = some o → H' b = some o) → H1 p = none → (∀ t ∈ ts, H1 t = none) → H' p = some (.lst (ts.map V.ref)) → ts.length = xs.length →
    (∀ (i : Nat) (t : Addr), ts[i]? = some t → ∃ x y, xs[i]? = some x ∧ ys[i]? = some y ∧ H' t = some (.tup [x, y])) → Q (.ref p) H'
theorem pe_listZip {X : Cx} {e e2 : Expr} {ta : TA} {p p2 pos pos2 : Pos} (hc : X.calm = true) (hg : Gl X "list") (hm : X.mg "list" = none) (hg2 : Gl X "zip") (hm2 : X.mg "zip" = none) (ha : PA X [e, e2] ta)
    (hs : starEach [e, e2] X.env = (false, eval e X.env) :: starEach [e2] X.env := by rfl) (hpl : (backTo pos2 (starEach [e2] X.env)).any (·.1) = false := by rfl)
    (na : starEach [.Call (.Name "zip" p2) [e, e2] [] pos2] X.env = (false, eval (.Call (.Name "zip" p2) [e, e2] [] pos2) X.env) :: starEach [] X.env := by rfl) :
    PE X (.Call (.Name "list" p) [.Call (.Name "zip" p2) [e, e2] [] pos2] [] pos) (tListZip X.K ta) := by
  refine ⟨fun pins s σ H Q I h => ?_⟩
  refine Call_ (ld_blt I hg hm boot_list (PyProof.Rows.callWith_type1 (args_cons ?_ na) na))
  refine Call_ (ld_blt I hg2 hm2 PyProof.Rows.boot_zip (PyProof.Rows.callWith_type1 (thn (ha.run pos2 pins s σ H _ I h) fun us s1 ⟨vs, H1, I1, r1, q1⟩ => ?_) hs hpl))
  obtain ⟨a, b, xs, ys, ex, hqx, hqy, hlen, q⟩ := q1
  subst ex
  cases r1 with
  | cons r rr =>
    cases rr with
    | cons r' rr =>
      cases rr
      cases r
      cases r'
      obtain ⟨its, rv, pl1, hz1⟩ := I1.list hqx
      obtain ⟨its2, rv2, pl2, hz2⟩ := I1.list hqy
      have la : a < s1.heap.objs.size := pl1.lt
      have lb : b < s1.heap.objs.size := pl2.lt
      refine call_zip_2 pl1.isList pl2.isList fun h' gz gTI gTO g1 g2 gsz gk => args_nil ?_
      have I2 : Inv X pins σ H1 { s1 with heap := h' } := I1.kept (t' := s1.toks) gk
      have L1 : its.length = xs.length := rv.length.symm
      have L2 : its2.length = ys.length := rv2.length.symm
      refine zl_call (s := { s1 with heap := h' }) (xs := its.toArray) (ys := its2.toArray) (I1.ok.hd hc) (PySem.W.ktu_apart s1.heap.objs.size a b la lb)
        (zoff s1.heap.objs.size a b _ gsz la lb)
        (by rw [List.size_toArray, List.size_toArray]; omega) (by rw [List.size_toArray]; omega) ⟨gTI, g1, g2, pl1.isList.at fun o e => gk _ o e, pl2.isList.at fun o e => gk _ o e, .inl ⟨gz, _, _, gTO⟩⟩ gz fun h2 tk acc c as hk hS hl G hacc => ?_
      dsimp only at hk hS G ⊢
      generalize hB : h'.objs.size = B at hS G
      have low : ∀ b o, s1.heap.get? b = some o → h2.get? b = some o := fun b o e => by
        obtain ⟨z1, z2, z3, z4⟩ := apart5 s1.heap.objs.size b (Heap.lt_size e)
        exact hk b o z1 z2 z3 z4 (gk b o e)
      have sB : s1.heap.objs.size ≤ B := by rw [← hB, gsz]; exact Nat.le_add_right _ _
      have ltB : ∀ b o, s1.heap.get? b = some o → b < B := fun b o e => Nat.lt_of_lt_of_le (Heap.lt_size e) sB
      have nd : as.Nodup := G.up.imp fun {a b} h => Nat.ne_of_lt h
      have newB : H1 B = none := I1.hok.fresh sB
      have new : ∀ t ∈ as, H1 t = none := fun t ht => I1.hok.fresh (Nat.le_trans sB (Nat.le_of_lt (G.above t ht)))
      have nB : B ∉ as := fun z => Nat.lt_irrefl _ (G.above B z)
      have off : ∀ b, b ∉ as → b ≠ B → putP (upd H1 B (.lst (as.map V.ref))) as (xs.zip ys) b = H1 b := fun b h1 h2 => by rw [putP_off as _ _ h1, upd_ne h2]
      have atB : putP (upd H1 B (.lst (as.map V.ref))) as (xs.zip ys) B = some (.lst (as.map V.ref)) := by rw [putP_off as _ _ nB, upd_same]
      have kp : ∀ b u, H1 b = some u → putP (upd H1 B (.lst (as.map V.ref))) as (xs.zip ys) b = some u := fun b u e => by
        rw [off b (fun z => by rw [new b z] at e; cases e) (fun z => by rw [z, newB] at e; cases e)]
        exact e
      have tw : ∀ (i : Nat) (t : Addr), as[i]? = some t → ∃ x y u v, xs[i]? = some x ∧ ys[i]? = some y ∧ RelV x u ∧ RelV y v ∧ IsPair h2 t u v ∧ putP (upd H1 B (.lst (as.map V.ref))) as (xs.zip ys) t = some (.tup [x, y]) := fun i t ht => by
        obtain ⟨u, v, f1, f2, f3⟩ := G.two i t ht
        obtain ⟨x, x1, x2⟩ := vals_at rv (i := i) (u := u) (by simpa using f1)
        obtain ⟨y, y1, y2⟩ := vals_at rv2 (i := i) (u := v) (by simpa using f2)
        exact ⟨x, y, u, v, x1, y1, x2, y2, f3, putP_at as _ _ nd i t (x, y) ht (zip_get x1 y1)⟩
      refine ⟨.ref B, putP (upd H1 B (.lst (as.map V.ref))) as (xs.zip ys), ?_, rfl, q _ B as kp newB new atB (by rw [hl, List.size_toArray]; exact L1) fun i t ht => ?_⟩
      · refine I1.call' (ch := []) rfl ⟨fun b o e _ _ _ => low b o e, fun b o e _ _ _ => ⟨o.slots, low b o e⟩, fun b o e n _ => ?_, fun b o e _ => ⟨o, low b o e⟩, fun b xs e => kp b _ e, fun b o u e => kp b _ e, fun b ps e => ⟨#[], by rw [kp b _ e]; simp⟩⟩ (fun b u e => ?_) I1.bare fun b z => by simp at z
        · have lt := ltB b o e
          rw [off b (fun z => Nat.lt_irrefl _ (Nat.lt_trans lt (G.above b z))) (Nat.ne_of_lt lt)]
          exact n
        · by_cases hb : b ∈ as
          · obtain ⟨i, hi⟩ := List.mem_iff_getElem?.mp hb
            obtain ⟨x, y, u1, v1, _, _, x2, y2, f3, f4⟩ := tw i b hi
            rw [f4] at e
            cases e
            exact ⟨by show 2 ≤ sizeLine; decide, [u1, v1], .cons x2 (.cons y2 .nil), ⟨_, f3, rfl, _, rfl⟩⟩
          · by_cases hb2 : b = B
            · subst hb2
              rw [atB] at e
              cases e
              refine ⟨by rw [List.length_map, hl, List.size_toArray]; omega, acc.toList, c, by rw [hacc]; exact refs_vals as, ?_⟩
              rw [Array.toArray_toList]
              exact hS
            · rw [off b hb hb2] at e
              exact (I1.hok b u e).stay (fun d v _ y => low d v y) (fun d y => kp d _ y) fun d xs y => kp d _ y
      · obtain ⟨x, y, _, _, x1, y1, _, _, _, f4⟩ := tw i t ht
        exact ⟨x, y, x1, y1, f4⟩
end Lr
end
section
set_option Elab.async false
set_option linter.all false
set_option maxRecDepth 100000
set_option maxHeartbeats 4000000
/-! Written by gen.py from the linked text. -/
namespace Lr
open PySem L2
def top (i : Nat) : Stmt := PySem.Challenge.pw_labelrunners_s01_answers.main.body.getD i (.Pass ⟨0, 0, 0, 0⟩)
abbrev s_suits : Stmt := top 1
abbrev s_suits_one_of : Stmt := top 2
abbrev s_finds_machine : Stmt := top 3
abbrev s_can_be_served_together : Stmt := top 4
abbrev s_choose : Stmt := top 5
abbrev s_without : Stmt := top 6
abbrev s_lowest_machine : Stmt := top 7
abbrev s_place : Stmt := top 8
abbrev s_find_rivals : Stmt := top 9
abbrev s_is_from_one_to_most : Stmt := top 37
abbrev s_Machine_init : Stmt := inClass (top 38) 0
abbrev s_Job_init : Stmt := inClass (top 39) 0
abbrev s_Job_runs : Stmt := inClass (top 39) 1
abbrev s_Job_run : Stmt := inClass (top 39) 2
abbrev s_Job_wait_again : Stmt := inClass (top 39) 3
abbrev s_House_init : Stmt := inClass (top 40) 0
abbrev s_House_make_new : Stmt := inClass (top 40) 1
abbrev s_House_begin : Stmt := inClass (top 40) 2
abbrev s_House_add_machine : Stmt := inClass (top 40) 3
abbrev s_House_add_job : Stmt := inClass (top 40) 4
abbrev s_House_is_job_number_taken : Stmt := inClass (top 40) 5
abbrev s_House_job_here : Stmt := inClass (top 40) 6
abbrev s_House_is_full_of_jobs : Stmt := inClass (top 40) 7
abbrev s_House_serve : Stmt := inClass (top 40) 8
abbrev s_House_placed_jobs : Stmt := inClass (top 40) 9
abbrev s_House_free_machines : Stmt := inClass (top 40) 10
abbrev s_House_machines_by_number : Stmt := inClass (top 40) 11
abbrev s_House_is_busy : Stmt := inClass (top 40) 12
abbrev s_House_queue : Stmt := inClass (top 40) 13
abbrev s_House_urgency_now : Stmt := inClass (top 40) 14
abbrev s_House_beat : Stmt := inClass (top 40) 15
abbrev s_House_take_result : Stmt := inClass (top 40) 16
abbrev s_House_job_by_lease : Stmt := inClass (top 40) 17
abbrev s_House_stop_job : Stmt := inClass (top 40) 18
abbrev s_House_end_job : Stmt := inClass (top 40) 19
abbrev s_House_tick : Stmt := inClass (top 40) 20
abbrev s_House_is_lost : Stmt := inClass (top 40) 21
abbrev s_House_minutes_since_heard : Stmt := inClass (top 40) 22
abbrev s_House_drain : Stmt := inClass (top 40) 23
abbrev s_House_cancel : Stmt := inClass (top 40) 24
abbrev s_House_why : Stmt := inClass (top 40) 25
abbrev s_House_tell_queue : Stmt := inClass (top 40) 26
abbrev s_House_tell_machines : Stmt := inClass (top 40) 27
abbrev s_House_state_of : Stmt := inClass (top 40) 28
abbrev s_House_tell_ends : Stmt := inClass (top 40) 29
abbrev s_answer_call : Stmt := top 41
abbrev s_answers : Stmt := top 42
def d_suits : He.DefD := ⟨("suits", none), "suits", "suits", defArgs s_suits, defBody s_suits, defScope s_suits, [], []⟩
def d_suits_one_of : He.DefD := ⟨("suits_one_of", none), "suits_one_of", "suits_one_of", defArgs s_suits_one_of, defBody s_suits_one_of, defScope s_suits_one_of, [], []⟩
def d_finds_machine : He.DefD := ⟨("finds_machine", none), "finds_machine", "finds_machine", defArgs s_finds_machine, defBody s_finds_machine, defScope s_finds_machine, [], []⟩
def d_can_be_served_together : He.DefD := ⟨("can_be_served_together", none), "can_be_served_together", "can_be_served_together", defArgs s_can_be_served_together, defBody s_can_be_served_together, defScope s_can_be_served_together, [], []⟩
def d_choose : He.DefD := ⟨("choose", none), "choose", "choose", defArgs s_choose, defBody s_choose, defScope s_choose, [], []⟩
def d_without : He.DefD := ⟨("without", none), "without", "without", defArgs s_without, defBody s_without, defScope s_without, [], []⟩
def d_lowest_machine : He.DefD := ⟨("lowest_machine", none), "lowest_machine", "lowest_machine", defArgs s_lowest_machine, defBody s_lowest_machine, defScope s_lowest_machine, [], []⟩
def d_place : He.DefD := ⟨("place", none), "place", "place", defArgs s_place, defBody s_place, defScope s_place, [], []⟩
def d_find_rivals : He.DefD := ⟨("find_rivals", none), "find_rivals", "find_rivals", defArgs s_find_rivals, defBody s_find_rivals, defScope s_find_rivals, [], []⟩
def d_is_from_one_to_most : He.DefD := ⟨("is_from_one_to_most", none), "is_from_one_to_most", "is_from_one_to_most", defArgs s_is_from_one_to_most, defBody s_is_from_one_to_most, defScope s_is_from_one_to_most, [], []⟩
def d_Machine_init : He.DefD := ⟨("Machine", some "__init__"), "__init__", "Machine.__init__", defArgs s_Machine_init, defBody s_Machine_init, defScope s_Machine_init, [], []⟩
def d_Job_init : He.DefD := ⟨("Job", some "__init__"), "__init__", "Job.__init__", defArgs s_Job_init, defBody s_Job_init, defScope s_Job_init, [], []⟩
def d_Job_runs : He.DefD := ⟨("Job", some "runs"), "runs", "Job.runs", defArgs s_Job_runs, defBody s_Job_runs, defScope s_Job_runs, [], []⟩
def d_Job_run : He.DefD := ⟨("Job", some "run"), "run", "Job.run", defArgs s_Job_run, defBody s_Job_run, defScope s_Job_run, [], []⟩
def d_Job_wait_again : He.DefD := ⟨("Job", some "wait_again"), "wait_again", "Job.wait_again", defArgs s_Job_wait_again, defBody s_Job_wait_again, defScope s_Job_wait_again, [], []⟩
def d_House_init : He.DefD := ⟨("House", some "__init__"), "__init__", "House.__init__", defArgs s_House_init, defBody s_House_init, defScope s_House_init, [], []⟩
def d_House_make_new : He.DefD := ⟨("House", some "make_new"), "make_new", "House.make_new", defArgs s_House_make_new, defBody s_House_make_new, defScope s_House_make_new, [], []⟩
def d_House_begin : He.DefD := ⟨("House", some "begin"), "begin", "House.begin", defArgs s_House_begin, defBody s_House_begin, defScope s_House_begin, [], []⟩
def d_House_add_machine : He.DefD := ⟨("House", some "add_machine"), "add_machine", "House.add_machine", defArgs s_House_add_machine, defBody s_House_add_machine, defScope s_House_add_machine, [], []⟩
def d_House_add_job : He.DefD := ⟨("House", some "add_job"), "add_job", "House.add_job", defArgs s_House_add_job, defBody s_House_add_job, defScope s_House_add_job, [], []⟩
def d_House_is_job_number_taken : He.DefD := ⟨("House", some "is_job_number_taken"), "is_job_number_taken", "House.is_job_number_taken", defArgs s_House_is_job_number_taken, defBody s_House_is_job_number_taken, defScope s_House_is_job_number_taken, [], []⟩
def d_House_job_here : He.DefD := ⟨("House", some "job_here"), "job_here", "House.job_here", defArgs s_House_job_here, defBody s_House_job_here, defScope s_House_job_here, [], []⟩
def d_House_is_full_of_jobs : He.DefD := ⟨("House", some "is_full_of_jobs"), "is_full_of_jobs", "House.is_full_of_jobs", defArgs s_House_is_full_of_jobs, defBody s_House_is_full_of_jobs, defScope s_House_is_full_of_jobs, [], []⟩
def d_House_serve : He.DefD := ⟨("House", some "serve"), "serve", "House.serve", defArgs s_House_serve, defBody s_House_serve, defScope s_House_serve, [], []⟩
def d_House_placed_jobs : He.DefD := ⟨("House", some "placed_jobs"), "placed_jobs", "House.placed_jobs", defArgs s_House_placed_jobs, defBody s_House_placed_jobs, defScope s_House_placed_jobs, [], []⟩
def d_House_free_machines : He.DefD := ⟨("House", some "free_machines"), "free_machines", "House.free_machines", defArgs s_House_free_machines, defBody s_House_free_machines, defScope s_House_free_machines, [], []⟩
def d_House_machines_by_number : He.DefD := ⟨("House", some "machines_by_number"), "machines_by_number", "House.machines_by_number", defArgs s_House_machines_by_number, defBody s_House_machines_by_number, defScope s_House_machines_by_number, [], []⟩
def d_House_is_busy : He.DefD := ⟨("House", some "is_busy"), "is_busy", "House.is_busy", defArgs s_House_is_busy, defBody s_House_is_busy, defScope s_House_is_busy, [], []⟩
def d_House_queue : He.DefD := ⟨("House", some "queue"), "queue", "House.queue", defArgs s_House_queue, defBody s_House_queue, defScope s_House_queue, [], []⟩
def d_House_urgency_now : He.DefD := ⟨("House", some "urgency_now"), "urgency_now", "House.urgency_now", defArgs s_House_urgency_now, defBody s_House_urgency_now, defScope s_House_urgency_now, [], []⟩
def d_House_beat : He.DefD := ⟨("House", some "beat"), "beat", "House.beat", defArgs s_House_beat, defBody s_House_beat, defScope s_House_beat, [], []⟩
def d_House_take_result : He.DefD := ⟨("House", some "take_result"), "take_result", "House.take_result", defArgs s_House_take_result, defBody s_House_take_result, defScope s_House_take_result, [], []⟩
def d_House_job_by_lease : He.DefD := ⟨("House", some "job_by_lease"), "job_by_lease", "House.job_by_lease", defArgs s_House_job_by_lease, defBody s_House_job_by_lease, defScope s_House_job_by_lease, [], []⟩
def d_House_stop_job : He.DefD := ⟨("House", some "stop_job"), "stop_job", "House.stop_job", defArgs s_House_stop_job, defBody s_House_stop_job, defScope s_House_stop_job, [], []⟩
def d_House_end_job : He.DefD := ⟨("House", some "end_job"), "end_job", "House.end_job", defArgs s_House_end_job, defBody s_House_end_job, defScope s_House_end_job, [], []⟩
def d_House_tick : He.DefD := ⟨("House", some "tick"), "tick", "House.tick", defArgs s_House_tick, defBody s_House_tick, defScope s_House_tick, [], []⟩
def d_House_is_lost : He.DefD := ⟨("House", some "is_lost"), "is_lost", "House.is_lost", defArgs s_House_is_lost, defBody s_House_is_lost, defScope s_House_is_lost, [], []⟩
def d_House_minutes_since_heard : He.DefD := ⟨("House", some "minutes_since_heard"), "minutes_since_heard", "House.minutes_since_heard", defArgs s_House_minutes_since_heard, defBody s_House_minutes_since_heard, defScope s_House_minutes_since_heard, [], []⟩
def d_House_drain : He.DefD := ⟨("House", some "drain"), "drain", "House.drain", defArgs s_House_drain, defBody s_House_drain, defScope s_House_drain, [], []⟩
def d_House_cancel : He.DefD := ⟨("House", some "cancel"), "cancel", "House.cancel", defArgs s_House_cancel, defBody s_House_cancel, defScope s_House_cancel, [], []⟩
def d_House_why : He.DefD := ⟨("House", some "why"), "why", "House.why", defArgs s_House_why, defBody s_House_why, defScope s_House_why, [], []⟩
def d_House_tell_queue : He.DefD := ⟨("House", some "tell_queue"), "tell_queue", "House.tell_queue", defArgs s_House_tell_queue, defBody s_House_tell_queue, defScope s_House_tell_queue, [], []⟩
def d_House_tell_machines : He.DefD := ⟨("House", some "tell_machines"), "tell_machines", "House.tell_machines", defArgs s_House_tell_machines, defBody s_House_tell_machines, defScope s_House_tell_machines, [], []⟩
def d_House_state_of : He.DefD := ⟨("House", some "state_of"), "state_of", "House.state_of", defArgs s_House_state_of, defBody s_House_state_of, defScope s_House_state_of, [], []⟩
def d_House_tell_ends : He.DefD := ⟨("House", some "tell_ends"), "tell_ends", "House.tell_ends", defArgs s_House_tell_ends, defBody s_House_tell_ends, defScope s_House_tell_ends, [], []⟩
def d_answer_call : He.DefD := ⟨("answer_call", none), "answer_call", "answer_call", defArgs s_answer_call, defBody s_answer_call, defScope s_answer_call, [], []⟩
def d_answers : He.DefD := ⟨("answers", none), "answers", "answers", defArgs s_answers, defBody s_answers, defScope s_answers, [], []⟩
def allDefs : List He.DefD := [d_suits, d_suits_one_of, d_finds_machine, d_can_be_served_together, d_choose, d_without, d_lowest_machine, d_place, d_find_rivals, d_is_from_one_to_most, d_Machine_init, d_Job_init, d_Job_runs, d_Job_run, d_Job_wait_again, d_House_init, d_House_make_new, d_House_begin, d_House_add_machine, d_House_add_job, d_House_is_job_number_taken, d_House_job_here, d_House_is_full_of_jobs, d_House_serve, d_House_placed_jobs, d_House_free_machines, d_House_machines_by_number, d_House_is_busy, d_House_queue, d_House_urgency_now, d_House_beat, d_House_take_result, d_House_job_by_lease, d_House_stop_job, d_House_end_job, d_House_tick, d_House_is_lost, d_House_minutes_since_heard, d_House_drain, d_House_cancel, d_House_why, d_House_tell_queue, d_House_tell_machines, d_House_state_of, d_House_tell_ends, d_answer_call, d_answers]
def allFacts : List He.Fa := [
  .glo "suits",
  .glo "suits_one_of",
  .glo "finds_machine",
  .glo "can_be_served_together",
  .glo "choose",
  .glo "without",
  .glo "lowest_machine",
  .glo "place",
  .glo "find_rivals",
  .glo "is_from_one_to_most",
  .glo "answer_call",
  .glo "answers",
  .glo "Machine",
  .cls "Machine",
  .mkr "Machine",
  .noat "Machine" "number",
  .noat "Machine" "labels",
  .noat "Machine" "heard",
  .noat "Machine" "leaving",
  .glo "Job",
  .cls "Job",
  .mkr "Job",
  .noat "Job" "number",
  .noat "Job" "labels",
  .noat "Job" "urgency",
  .noat "Job" "tries",
  .noat "Job" "came",
  .noat "Job" "times_lost",
  .noat "Job" "runs_on",
  .noat "Job" "lease",
  .meth "Job" "runs",
  .meth "Job" "run",
  .meth "Job" "wait_again",
  .glo "House",
  .cls "House",
  .mkr "House",
  .noat "House" "lease_minutes",
  .noat "House" "age",
  .noat "House" "now",
  .noat "House" "machines",
  .noat "House" "jobs",
  .noat "House" "over",
  .noat "House" "next_lease",
  .meth "House" "make_new",
  .meth "House" "begin",
  .meth "House" "add_machine",
  .meth "House" "add_job",
  .meth "House" "is_job_number_taken",
  .meth "House" "job_here",
  .meth "House" "is_full_of_jobs",
  .meth "House" "serve",
  .meth "House" "placed_jobs",
  .meth "House" "free_machines",
  .meth "House" "machines_by_number",
  .meth "House" "is_busy",
  .meth "House" "queue",
  .meth "House" "urgency_now",
  .meth "House" "beat",
  .meth "House" "take_result",
  .meth "House" "job_by_lease",
  .meth "House" "stop_job",
  .meth "House" "end_job",
  .meth "House" "tick",
  .meth "House" "is_lost",
  .meth "House" "minutes_since_heard",
  .meth "House" "drain",
  .meth "House" "cancel",
  .meth "House" "why",
  .meth "House" "tell_queue",
  .meth "House" "tell_machines",
  .meth "House" "state_of",
  .meth "House" "tell_ends",
  .int "FIRST_LEASE_MINUTES" 5,
  .int "FIRST_AGE" 10,
  .int "MOST" 1000000,
  .int "LABEL_SETS" 65536,
  .int "MOST_MACHINES" 7,
  .int "MOST_JOBS_HERE" 14,
  .int "MOST_JOBS_IN_ALL" 40,
  .int "BEGINS" 0,
  .int "MACHINE" 1,
  .int "JOB" 2,
  .int "SERVE" 3,
  .int "BEAT" 4,
  .int "RESULT" 5,
  .int "TICK" 6,
  .int "DRAIN" 7,
  .int "CANCEL" 8,
  .int "WHY" 9,
  .int "QUEUE" 10,
  .int "MACHINES" 11,
  .int "FAILED" 0,
  .int "PASSED" 1,
  .int "CALLED_OFF" 2,
  .int "FREE" 0,
  .int "BUSY" 1,
  .int "LEAVING" 2,
  .free "len",
  .free "sorted",
  .free "zip",
  .free "range",
  .free "any",
  .free "list",
  .glo "SIZES"]
def makers : List He.Defn := [("House", some "queue")]
def more (K : PySem.W.Frag) : Bool := He.tupB K "SIZES" [.int 2, .int 2, .int 4, .int 0, .int 1, .int 2, .int 1, .int 1, .int 1, .int 1, .int 0, .int 0, .int 0]
abbrev theRow : PySem.W.OpenSpec := PySem.Challenge.rw_labelrunners_s01_answers
abbrev hk : PySem.W.Hook := He.hookX 6 allFacts allDefs [] makers more
def ob (s : PySem.W.SharedT) : He.AlX := He.obsX 6 allFacts allDefs [] makers more (HeadRun.getT s)
theorem ob_eq (s : PySem.W.SharedT) : ob s = hk.obs s.abs := He.obsX_eq (HeadRun.getT_eq s)
def others : List PySem.Str := [("suits" : PySem.Str), ("suits_one_of" : PySem.Str), ("finds_machine" : PySem.Str), ("can_be_served_together" : PySem.Str), ("choose" : PySem.Str), ("without" : PySem.Str), ("lowest_machine" : PySem.Str), ("place" : PySem.Str), ("find_rivals" : PySem.Str), ("FIRST_LEASE_MINUTES" : PySem.Str), ("FIRST_AGE" : PySem.Str), ("MOST" : PySem.Str), ("LABEL_SETS" : PySem.Str), ("MOST_MACHINES" : PySem.Str), ("MOST_JOBS_HERE" : PySem.Str), ("MOST_JOBS_IN_ALL" : PySem.Str), ("BEGINS" : PySem.Str), ("MACHINE" : PySem.Str), ("JOB" : PySem.Str), ("SERVE" : PySem.Str), ("BEAT" : PySem.Str), ("RESULT" : PySem.Str), ("TICK" : PySem.Str), ("DRAIN" : PySem.Str), ("CANCEL" : PySem.Str), ("WHY" : PySem.Str), ("QUEUE" : PySem.Str), ("MACHINES" : PySem.Str), ("SIZES" : PySem.Str), ("FAILED" : PySem.Str), ("PASSED" : PySem.Str), ("CALLED_OFF" : PySem.Str), ("FREE" : PySem.Str), ("BUSY" : PySem.Str), ("LEAVING" : PySem.Str), ("is_from_one_to_most" : PySem.Str), ("Machine" : PySem.Str), ("Job" : PySem.Str), ("House" : PySem.Str), ("answer_call" : PySem.Str)]
abbrev theView : Program := PySem.W.view theRow.prog [42]
/-- what the top has left, by names -/
structure Ctx (K : PySem.W.Frag) (mg : Str → Option Value) : Prop where
  at_ : ∃ h : Heap, K.In h ∧ h.Ns mainGlobals mg
  c : He.SaysD allFacts allDefs K
  more : more K = true
section
variable {K : PySem.W.Frag} {mg : Str → Option Value}
theorem Ctx.g_suits (T : Ctx K mg) : mg "suits" = some (.ref (He.ga K "suits")) := let ⟨_, X, G⟩ := T.at_; He.glo_ok X G (T.c.fact 0 (f := .glo "suits") rfl)
theorem Ctx.g_suits_one_of (T : Ctx K mg) : mg "suits_one_of" = some (.ref (He.ga K "suits_one_of")) := let ⟨_, X, G⟩ := T.at_; He.glo_ok X G (T.c.fact 1 (f := .glo "suits_one_of") rfl)
theorem Ctx.g_finds_machine (T : Ctx K mg) : mg "finds_machine" = some (.ref (He.ga K "finds_machine")) := let ⟨_, X, G⟩ := T.at_; He.glo_ok X G (T.c.fact 2 (f := .glo "finds_machine") rfl)
theorem Ctx.g_can_be_served_together (T : Ctx K mg) : mg "can_be_served_together" = some (.ref (He.ga K "can_be_served_together")) := let ⟨_, X, G⟩ := T.at_; He.glo_ok X G (T.c.fact 3 (f := .glo "can_be_served_together") rfl)
theorem Ctx.g_choose (T : Ctx K mg) : mg "choose" = some (.ref (He.ga K "choose")) := let ⟨_, X, G⟩ := T.at_; He.glo_ok X G (T.c.fact 4 (f := .glo "choose") rfl)
theorem Ctx.g_without (T : Ctx K mg) : mg "without" = some (.ref (He.ga K "without")) := let ⟨_, X, G⟩ := T.at_; He.glo_ok X G (T.c.fact 5 (f := .glo "without") rfl)
theorem Ctx.g_lowest_machine (T : Ctx K mg) : mg "lowest_machine" = some (.ref (He.ga K "lowest_machine")) := let ⟨_, X, G⟩ := T.at_; He.glo_ok X G (T.c.fact 6 (f := .glo "lowest_machine") rfl)
theorem Ctx.g_place (T : Ctx K mg) : mg "place" = some (.ref (He.ga K "place")) := let ⟨_, X, G⟩ := T.at_; He.glo_ok X G (T.c.fact 7 (f := .glo "place") rfl)
theorem Ctx.g_find_rivals (T : Ctx K mg) : mg "find_rivals" = some (.ref (He.ga K "find_rivals")) := let ⟨_, X, G⟩ := T.at_; He.glo_ok X G (T.c.fact 8 (f := .glo "find_rivals") rfl)
theorem Ctx.g_is_from_one_to_most (T : Ctx K mg) : mg "is_from_one_to_most" = some (.ref (He.ga K "is_from_one_to_most")) := let ⟨_, X, G⟩ := T.at_; He.glo_ok X G (T.c.fact 9 (f := .glo "is_from_one_to_most") rfl)
theorem Ctx.g_answer_call (T : Ctx K mg) : mg "answer_call" = some (.ref (He.ga K "answer_call")) := let ⟨_, X, G⟩ := T.at_; He.glo_ok X G (T.c.fact 10 (f := .glo "answer_call") rfl)
theorem Ctx.g_answers (T : Ctx K mg) : mg "answers" = some (.ref (He.ga K "answers")) := let ⟨_, X, G⟩ := T.at_; He.glo_ok X G (T.c.fact 11 (f := .glo "answers") rfl)
theorem Ctx.g_Machine (T : Ctx K mg) : mg "Machine" = some (.ref (He.ga K "Machine")) := let ⟨_, X, G⟩ := T.at_; He.glo_ok X G (T.c.fact 12 (f := .glo "Machine") rfl)
theorem Ctx.c_Machine (T : Ctx K mg) : Cls K (He.ga K "Machine") := He.cls_ok (T.c.fact 13 (f := .cls "Machine") rfl)
theorem Ctx.k_Machine (T : Ctx K mg) : Mk K (He.ga K "Machine") (He.ma K (He.ga K "Machine") "__init__") := He.mkr_ok (T.c.fact 14 (f := .mkr "Machine") rfl)
theorem Ctx.n_Machine_number (T : Ctx K mg) : NoAttr K (He.ga K "Machine") "number" := He.noat_ok (T.c.fact 15 (f := .noat "Machine" "number") rfl)
theorem Ctx.n_Machine_labels (T : Ctx K mg) : NoAttr K (He.ga K "Machine") "labels" := He.noat_ok (T.c.fact 16 (f := .noat "Machine" "labels") rfl)
theorem Ctx.n_Machine_heard (T : Ctx K mg) : NoAttr K (He.ga K "Machine") "heard" := He.noat_ok (T.c.fact 17 (f := .noat "Machine" "heard") rfl)
theorem Ctx.n_Machine_leaving (T : Ctx K mg) : NoAttr K (He.ga K "Machine") "leaving" := He.noat_ok (T.c.fact 18 (f := .noat "Machine" "leaving") rfl)
theorem Ctx.g_Job (T : Ctx K mg) : mg "Job" = some (.ref (He.ga K "Job")) := let ⟨_, X, G⟩ := T.at_; He.glo_ok X G (T.c.fact 19 (f := .glo "Job") rfl)
theorem Ctx.c_Job (T : Ctx K mg) : Cls K (He.ga K "Job") := He.cls_ok (T.c.fact 20 (f := .cls "Job") rfl)
theorem Ctx.k_Job (T : Ctx K mg) : Mk K (He.ga K "Job") (He.ma K (He.ga K "Job") "__init__") := He.mkr_ok (T.c.fact 21 (f := .mkr "Job") rfl)
theorem Ctx.n_Job_number (T : Ctx K mg) : NoAttr K (He.ga K "Job") "number" := He.noat_ok (T.c.fact 22 (f := .noat "Job" "number") rfl)
theorem Ctx.n_Job_labels (T : Ctx K mg) : NoAttr K (He.ga K "Job") "labels" := He.noat_ok (T.c.fact 23 (f := .noat "Job" "labels") rfl)
theorem Ctx.n_Job_urgency (T : Ctx K mg) : NoAttr K (He.ga K "Job") "urgency" := He.noat_ok (T.c.fact 24 (f := .noat "Job" "urgency") rfl)
theorem Ctx.n_Job_tries (T : Ctx K mg) : NoAttr K (He.ga K "Job") "tries" := He.noat_ok (T.c.fact 25 (f := .noat "Job" "tries") rfl)
theorem Ctx.n_Job_came (T : Ctx K mg) : NoAttr K (He.ga K "Job") "came" := He.noat_ok (T.c.fact 26 (f := .noat "Job" "came") rfl)
theorem Ctx.n_Job_times_lost (T : Ctx K mg) : NoAttr K (He.ga K "Job") "times_lost" := He.noat_ok (T.c.fact 27 (f := .noat "Job" "times_lost") rfl)
theorem Ctx.n_Job_runs_on (T : Ctx K mg) : NoAttr K (He.ga K "Job") "runs_on" := He.noat_ok (T.c.fact 28 (f := .noat "Job" "runs_on") rfl)
theorem Ctx.n_Job_lease (T : Ctx K mg) : NoAttr K (He.ga K "Job") "lease" := He.noat_ok (T.c.fact 29 (f := .noat "Job" "lease") rfl)
theorem Ctx.m_Job_runs (T : Ctx K mg) : Meth K (He.ga K "Job") "runs" (He.ma K (He.ga K "Job") "runs") := He.meth_ok (T.c.fact 30 (f := .meth "Job" "runs") rfl)
theorem Ctx.m_Job_run (T : Ctx K mg) : Meth K (He.ga K "Job") "run" (He.ma K (He.ga K "Job") "run") := He.meth_ok (T.c.fact 31 (f := .meth "Job" "run") rfl)
theorem Ctx.m_Job_wait_again (T : Ctx K mg) : Meth K (He.ga K "Job") "wait_again" (He.ma K (He.ga K "Job") "wait_again") := He.meth_ok (T.c.fact 32 (f := .meth "Job" "wait_again") rfl)
theorem Ctx.g_House (T : Ctx K mg) : mg "House" = some (.ref (He.ga K "House")) := let ⟨_, X, G⟩ := T.at_; He.glo_ok X G (T.c.fact 33 (f := .glo "House") rfl)
theorem Ctx.c_House (T : Ctx K mg) : Cls K (He.ga K "House") := He.cls_ok (T.c.fact 34 (f := .cls "House") rfl)
theorem Ctx.k_House (T : Ctx K mg) : Mk K (He.ga K "House") (He.ma K (He.ga K "House") "__init__") := He.mkr_ok (T.c.fact 35 (f := .mkr "House") rfl)
theorem Ctx.n_House_lease_minutes (T : Ctx K mg) : NoAttr K (He.ga K "House") "lease_minutes" := He.noat_ok (T.c.fact 36 (f := .noat "House" "lease_minutes") rfl)
theorem Ctx.n_House_age (T : Ctx K mg) : NoAttr K (He.ga K "House") "age" := He.noat_ok (T.c.fact 37 (f := .noat "House" "age") rfl)
theorem Ctx.n_House_now (T : Ctx K mg) : NoAttr K (He.ga K "House") "now" := He.noat_ok (T.c.fact 38 (f := .noat "House" "now") rfl)
theorem Ctx.n_House_machines (T : Ctx K mg) : NoAttr K (He.ga K "House") "machines" := He.noat_ok (T.c.fact 39 (f := .noat "House" "machines") rfl)
theorem Ctx.n_House_jobs (T : Ctx K mg) : NoAttr K (He.ga K "House") "jobs" := He.noat_ok (T.c.fact 40 (f := .noat "House" "jobs") rfl)
theorem Ctx.n_House_over (T : Ctx K mg) : NoAttr K (He.ga K "House") "over" := He.noat_ok (T.c.fact 41 (f := .noat "House" "over") rfl)
theorem Ctx.n_House_next_lease (T : Ctx K mg) : NoAttr K (He.ga K "House") "next_lease" := He.noat_ok (T.c.fact 42 (f := .noat "House" "next_lease") rfl)
theorem Ctx.m_House_make_new (T : Ctx K mg) : Meth K (He.ga K "House") "make_new" (He.ma K (He.ga K "House") "make_new") := He.meth_ok (T.c.fact 43 (f := .meth "House" "make_new") rfl)
theorem Ctx.m_House_begin (T : Ctx K mg) : Meth K (He.ga K "House") "begin" (He.ma K (He.ga K "House") "begin") := He.meth_ok (T.c.fact 44 (f := .meth "House" "begin") rfl)
theorem Ctx.m_House_add_machine (T : Ctx K mg) : Meth K (He.ga K "House") "add_machine" (He.ma K (He.ga K "House") "add_machine") := He.meth_ok (T.c.fact 45 (f := .meth "House" "add_machine") rfl)
theorem Ctx.m_House_add_job (T : Ctx K mg) : Meth K (He.ga K "House") "add_job" (He.ma K (He.ga K "House") "add_job") := He.meth_ok (T.c.fact 46 (f := .meth "House" "add_job") rfl)
theorem Ctx.m_House_is_job_number_taken (T : Ctx K mg) : Meth K (He.ga K "House") "is_job_number_taken" (He.ma K (He.ga K "House") "is_job_number_taken") := He.meth_ok (T.c.fact 47 (f := .meth "House" "is_job_number_taken") rfl)
theorem Ctx.m_House_job_here (T : Ctx K mg) : Meth K (He.ga K "House") "job_here" (He.ma K (He.ga K "House") "job_here") := He.meth_ok (T.c.fact 48 (f := .meth "House" "job_here") rfl)
theorem Ctx.m_House_is_full_of_jobs (T : Ctx K mg) : Meth K (He.ga K "House") "is_full_of_jobs" (He.ma K (He.ga K "House") "is_full_of_jobs") := He.meth_ok (T.c.fact 49 (f := .meth "House" "is_full_of_jobs") rfl)
theorem Ctx.m_House_serve (T : Ctx K mg) : Meth K (He.ga K "House") "serve" (He.ma K (He.ga K "House") "serve") := He.meth_ok (T.c.fact 50 (f := .meth "House" "serve") rfl)
theorem Ctx.m_House_placed_jobs (T : Ctx K mg) : Meth K (He.ga K "House") "placed_jobs" (He.ma K (He.ga K "House") "placed_jobs") := He.meth_ok (T.c.fact 51 (f := .meth "House" "placed_jobs") rfl)
theorem Ctx.m_House_free_machines (T : Ctx K mg) : Meth K (He.ga K "House") "free_machines" (He.ma K (He.ga K "House") "free_machines") := He.meth_ok (T.c.fact 52 (f := .meth "House" "free_machines") rfl)
theorem Ctx.m_House_machines_by_number (T : Ctx K mg) : Meth K (He.ga K "House") "machines_by_number" (He.ma K (He.ga K "House") "machines_by_number") := He.meth_ok (T.c.fact 53 (f := .meth "House" "machines_by_number") rfl)
theorem Ctx.m_House_is_busy (T : Ctx K mg) : Meth K (He.ga K "House") "is_busy" (He.ma K (He.ga K "House") "is_busy") := He.meth_ok (T.c.fact 54 (f := .meth "House" "is_busy") rfl)
theorem Ctx.m_House_queue (T : Ctx K mg) : Meth K (He.ga K "House") "queue" (He.ma K (He.ga K "House") "queue") := He.meth_ok (T.c.fact 55 (f := .meth "House" "queue") rfl)
theorem Ctx.m_House_urgency_now (T : Ctx K mg) : Meth K (He.ga K "House") "urgency_now" (He.ma K (He.ga K "House") "urgency_now") := He.meth_ok (T.c.fact 56 (f := .meth "House" "urgency_now") rfl)
theorem Ctx.m_House_beat (T : Ctx K mg) : Meth K (He.ga K "House") "beat" (He.ma K (He.ga K "House") "beat") := He.meth_ok (T.c.fact 57 (f := .meth "House" "beat") rfl)
theorem Ctx.m_House_take_result (T : Ctx K mg) : Meth K (He.ga K "House") "take_result" (He.ma K (He.ga K "House") "take_result") := He.meth_ok (T.c.fact 58 (f := .meth "House" "take_result") rfl)
theorem Ctx.m_House_job_by_lease (T : Ctx K mg) : Meth K (He.ga K "House") "job_by_lease" (He.ma K (He.ga K "House") "job_by_lease") := He.meth_ok (T.c.fact 59 (f := .meth "House" "job_by_lease") rfl)
theorem Ctx.m_House_stop_job (T : Ctx K mg) : Meth K (He.ga K "House") "stop_job" (He.ma K (He.ga K "House") "stop_job") := He.meth_ok (T.c.fact 60 (f := .meth "House" "stop_job") rfl)
theorem Ctx.m_House_end_job (T : Ctx K mg) : Meth K (He.ga K "House") "end_job" (He.ma K (He.ga K "House") "end_job") := He.meth_ok (T.c.fact 61 (f := .meth "House" "end_job") rfl)
theorem Ctx.m_House_tick (T : Ctx K mg) : Meth K (He.ga K "House") "tick" (He.ma K (He.ga K "House") "tick") := He.meth_ok (T.c.fact 62 (f := .meth "House" "tick") rfl)
theorem Ctx.m_House_is_lost (T : Ctx K mg) : Meth K (He.ga K "House") "is_lost" (He.ma K (He.ga K "House") "is_lost") := He.meth_ok (T.c.fact 63 (f := .meth "House" "is_lost") rfl)
theorem Ctx.m_House_minutes_since_heard (T : Ctx K mg) : Meth K (He.ga K "House") "minutes_since_heard" (He.ma K (He.ga K "House") "minutes_since_heard") := He.meth_ok (T.c.fact 64 (f := .meth "House" "minutes_since_heard") rfl)
theorem Ctx.m_House_drain (T : Ctx K mg) : Meth K (He.ga K "House") "drain" (He.ma K (He.ga K "House") "drain") := He.meth_ok (T.c.fact 65 (f := .meth "House" "drain") rfl)
theorem Ctx.m_House_cancel (T : Ctx K mg) : Meth K (He.ga K "House") "cancel" (He.ma K (He.ga K "House") "cancel") := He.meth_ok (T.c.fact 66 (f := .meth "House" "cancel") rfl)
theorem Ctx.m_House_why (T : Ctx K mg) : Meth K (He.ga K "House") "why" (He.ma K (He.ga K "House") "why") := He.meth_ok (T.c.fact 67 (f := .meth "House" "why") rfl)
theorem Ctx.m_House_tell_queue (T : Ctx K mg) : Meth K (He.ga K "House") "tell_queue" (He.ma K (He.ga K "House") "tell_queue") := He.meth_ok (T.c.fact 68 (f := .meth "House" "tell_queue") rfl)
theorem Ctx.m_House_tell_machines (T : Ctx K mg) : Meth K (He.ga K "House") "tell_machines" (He.ma K (He.ga K "House") "tell_machines") := He.meth_ok (T.c.fact 69 (f := .meth "House" "tell_machines") rfl)
theorem Ctx.m_House_state_of (T : Ctx K mg) : Meth K (He.ga K "House") "state_of" (He.ma K (He.ga K "House") "state_of") := He.meth_ok (T.c.fact 70 (f := .meth "House" "state_of") rfl)
theorem Ctx.m_House_tell_ends (T : Ctx K mg) : Meth K (He.ga K "House") "tell_ends" (He.ma K (He.ga K "House") "tell_ends") := He.meth_ok (T.c.fact 71 (f := .meth "House" "tell_ends") rfl)
theorem Ctx.i_FIRST_LEASE_MINUTES (T : Ctx K mg) : ∃ t, mg "FIRST_LEASE_MINUTES" = some (.int 5 t) := let ⟨_, X, G⟩ := T.at_; He.int_ok X G (T.c.fact 72 (f := .int "FIRST_LEASE_MINUTES" 5) rfl)
theorem Ctx.i_FIRST_AGE (T : Ctx K mg) : ∃ t, mg "FIRST_AGE" = some (.int 10 t) := let ⟨_, X, G⟩ := T.at_; He.int_ok X G (T.c.fact 73 (f := .int "FIRST_AGE" 10) rfl)
theorem Ctx.i_MOST (T : Ctx K mg) : ∃ t, mg "MOST" = some (.int 1000000 t) := let ⟨_, X, G⟩ := T.at_; He.int_ok X G (T.c.fact 74 (f := .int "MOST" 1000000) rfl)
theorem Ctx.i_LABEL_SETS (T : Ctx K mg) : ∃ t, mg "LABEL_SETS" = some (.int 65536 t) := let ⟨_, X, G⟩ := T.at_; He.int_ok X G (T.c.fact 75 (f := .int "LABEL_SETS" 65536) rfl)
theorem Ctx.i_MOST_MACHINES (T : Ctx K mg) : ∃ t, mg "MOST_MACHINES" = some (.int 7 t) := let ⟨_, X, G⟩ := T.at_; He.int_ok X G (T.c.fact 76 (f := .int "MOST_MACHINES" 7) rfl)
theorem Ctx.i_MOST_JOBS_HERE (T : Ctx K mg) : ∃ t, mg "MOST_JOBS_HERE" = some (.int 14 t) := let ⟨_, X, G⟩ := T.at_; He.int_ok X G (T.c.fact 77 (f := .int "MOST_JOBS_HERE" 14) rfl)
theorem Ctx.i_MOST_JOBS_IN_ALL (T : Ctx K mg) : ∃ t, mg "MOST_JOBS_IN_ALL" = some (.int 40 t) := let ⟨_, X, G⟩ := T.at_; He.int_ok X G (T.c.fact 78 (f := .int "MOST_JOBS_IN_ALL" 40) rfl)
theorem Ctx.i_BEGINS (T : Ctx K mg) : ∃ t, mg "BEGINS" = some (.int 0 t) := let ⟨_, X, G⟩ := T.at_; He.int_ok X G (T.c.fact 79 (f := .int "BEGINS" 0) rfl)
theorem Ctx.i_MACHINE (T : Ctx K mg) : ∃ t, mg "MACHINE" = some (.int 1 t) := let ⟨_, X, G⟩ := T.at_; He.int_ok X G (T.c.fact 80 (f := .int "MACHINE" 1) rfl)
theorem Ctx.i_JOB (T : Ctx K mg) : ∃ t, mg "JOB" = some (.int 2 t) := let ⟨_, X, G⟩ := T.at_; He.int_ok X G (T.c.fact 81 (f := .int "JOB" 2) rfl)
theorem Ctx.i_SERVE (T : Ctx K mg) : ∃ t, mg "SERVE" = some (.int 3 t) := let ⟨_, X, G⟩ := T.at_; He.int_ok X G (T.c.fact 82 (f := .int "SERVE" 3) rfl)
theorem Ctx.i_BEAT (T : Ctx K mg) : ∃ t, mg "BEAT" = some (.int 4 t) := let ⟨_, X, G⟩ := T.at_; He.int_ok X G (T.c.fact 83 (f := .int "BEAT" 4) rfl)
theorem Ctx.i_RESULT (T : Ctx K mg) : ∃ t, mg "RESULT" = some (.int 5 t) := let ⟨_, X, G⟩ := T.at_; He.int_ok X G (T.c.fact 84 (f := .int "RESULT" 5) rfl)
theorem Ctx.i_TICK (T : Ctx K mg) : ∃ t, mg "TICK" = some (.int 6 t) := let ⟨_, X, G⟩ := T.at_; He.int_ok X G (T.c.fact 85 (f := .int "TICK" 6) rfl)
theorem Ctx.i_DRAIN (T : Ctx K mg) : ∃ t, mg "DRAIN" = some (.int 7 t) := let ⟨_, X, G⟩ := T.at_; He.int_ok X G (T.c.fact 86 (f := .int "DRAIN" 7) rfl)
theorem Ctx.i_CANCEL (T : Ctx K mg) : ∃ t, mg "CANCEL" = some (.int 8 t) := let ⟨_, X, G⟩ := T.at_; He.int_ok X G (T.c.fact 87 (f := .int "CANCEL" 8) rfl)
theorem Ctx.i_WHY (T : Ctx K mg) : ∃ t, mg "WHY" = some (.int 9 t) := let ⟨_, X, G⟩ := T.at_; He.int_ok X G (T.c.fact 88 (f := .int "WHY" 9) rfl)
theorem Ctx.i_QUEUE (T : Ctx K mg) : ∃ t, mg "QUEUE" = some (.int 10 t) := let ⟨_, X, G⟩ := T.at_; He.int_ok X G (T.c.fact 89 (f := .int "QUEUE" 10) rfl)
theorem Ctx.i_MACHINES (T : Ctx K mg) : ∃ t, mg "MACHINES" = some (.int 11 t) := let ⟨_, X, G⟩ := T.at_; He.int_ok X G (T.c.fact 90 (f := .int "MACHINES" 11) rfl)
theorem Ctx.i_FAILED (T : Ctx K mg) : ∃ t, mg "FAILED" = some (.int 0 t) := let ⟨_, X, G⟩ := T.at_; He.int_ok X G (T.c.fact 91 (f := .int "FAILED" 0) rfl)
theorem Ctx.i_PASSED (T : Ctx K mg) : ∃ t, mg "PASSED" = some (.int 1 t) := let ⟨_, X, G⟩ := T.at_; He.int_ok X G (T.c.fact 92 (f := .int "PASSED" 1) rfl)
theorem Ctx.i_CALLED_OFF (T : Ctx K mg) : ∃ t, mg "CALLED_OFF" = some (.int 2 t) := let ⟨_, X, G⟩ := T.at_; He.int_ok X G (T.c.fact 93 (f := .int "CALLED_OFF" 2) rfl)
theorem Ctx.i_FREE (T : Ctx K mg) : ∃ t, mg "FREE" = some (.int 0 t) := let ⟨_, X, G⟩ := T.at_; He.int_ok X G (T.c.fact 94 (f := .int "FREE" 0) rfl)
theorem Ctx.i_BUSY (T : Ctx K mg) : ∃ t, mg "BUSY" = some (.int 1 t) := let ⟨_, X, G⟩ := T.at_; He.int_ok X G (T.c.fact 95 (f := .int "BUSY" 1) rfl)
theorem Ctx.i_LEAVING (T : Ctx K mg) : ∃ t, mg "LEAVING" = some (.int 2 t) := let ⟨_, X, G⟩ := T.at_; He.int_ok X G (T.c.fact 96 (f := .int "LEAVING" 2) rfl)
theorem Ctx.z_len (T : Ctx K mg) : mg "len" = none := let ⟨_, X, G⟩ := T.at_; He.free_ok X G (T.c.fact 97 (f := .free "len") rfl)
theorem Ctx.z_sorted (T : Ctx K mg) : mg "sorted" = none := let ⟨_, X, G⟩ := T.at_; He.free_ok X G (T.c.fact 98 (f := .free "sorted") rfl)
theorem Ctx.z_zip (T : Ctx K mg) : mg "zip" = none := let ⟨_, X, G⟩ := T.at_; He.free_ok X G (T.c.fact 99 (f := .free "zip") rfl)
theorem Ctx.z_range (T : Ctx K mg) : mg "range" = none := let ⟨_, X, G⟩ := T.at_; He.free_ok X G (T.c.fact 100 (f := .free "range") rfl)
theorem Ctx.z_any (T : Ctx K mg) : mg "any" = none := let ⟨_, X, G⟩ := T.at_; He.free_ok X G (T.c.fact 101 (f := .free "any") rfl)
theorem Ctx.z_list (T : Ctx K mg) : mg "list" = none := let ⟨_, X, G⟩ := T.at_; He.free_ok X G (T.c.fact 102 (f := .free "list") rfl)
theorem Ctx.g_SIZES (T : Ctx K mg) : mg "SIZES" = some (.ref (He.ga K "SIZES")) := let ⟨_, X, G⟩ := T.at_; He.glo_ok X G (T.c.fact 103 (f := .glo "SIZES") rfl)
/-- the def d stands at f -/
abbrev FnD (K : PySem.W.Frag) (d : He.DefD) (f : Addr) (fd : FuncData) : Prop := FunD K d.name d.qual d.params d.body d.scope [] [] f fd
/-- the def d keeps the promise sp, by at most k calls one in another -/
def Keeps (P : Program) (w : World) (K : PySem.W.Frag) (mg : Str → Option Value) (base : Heap) (k : Nat) (f : Addr) (ps : List Str) (sp : Sp) : Prop :=
  ∃ fd : FuncData, FnOk P w K mg base CX0 k f fd ps sp ∧ PySem.W.keepIn K (.ref f) = true ∧ Binds K fd ps []
theorem Ctx.f_suits (T : Ctx K mg) : ∃ fd, FnD K d_suits (He.ga K "suits") fd := T.c.def_ 0 (d := d_suits) rfl
theorem b_suits {f : Addr} {fd : FuncData} (F : FnD K d_suits f fd) : Binds K fd ["machine", "job"] [] := F.bindsN fun _ _ _ _ _ _ us hl => match us, hl with | [_, _], _ => rfl
theorem Ctx.f_suits_one_of (T : Ctx K mg) : ∃ fd, FnD K d_suits_one_of (He.ga K "suits_one_of") fd := T.c.def_ 1 (d := d_suits_one_of) rfl
theorem b_suits_one_of {f : Addr} {fd : FuncData} (F : FnD K d_suits_one_of f fd) : Binds K fd ["machine", "jobs"] [] := F.bindsN fun _ _ _ _ _ _ us hl => match us, hl with | [_, _], _ => rfl
theorem Ctx.f_finds_machine (T : Ctx K mg) : ∃ fd, FnD K d_finds_machine (He.ga K "finds_machine") fd := T.c.def_ 2 (d := d_finds_machine) rfl
theorem b_finds_machine {f : Addr} {fd : FuncData} (F : FnD K d_finds_machine f fd) : Binds K fd ["job", "machines", "holders", "tried"] [] := F.bindsN fun _ _ _ _ _ _ us hl => match us, hl with | [_, _, _, _], _ => rfl
theorem Ctx.f_can_be_served_together (T : Ctx K mg) : ∃ fd, FnD K d_can_be_served_together (He.ga K "can_be_served_together") fd := T.c.def_ 3 (d := d_can_be_served_together) rfl
theorem b_can_be_served_together {f : Addr} {fd : FuncData} (F : FnD K d_can_be_served_together f fd) : Binds K fd ["jobs", "machines"] [] := F.bindsN fun _ _ _ _ _ _ us hl => match us, hl with | [_, _], _ => rfl
theorem Ctx.f_choose (T : Ctx K mg) : ∃ fd, FnD K d_choose (He.ga K "choose") fd := T.c.def_ 4 (d := d_choose) rfl
theorem b_choose {f : Addr} {fd : FuncData} (F : FnD K d_choose f fd) : Binds K fd ["queue", "machines"] [] := F.bindsN fun _ _ _ _ _ _ us hl => match us, hl with | [_, _], _ => rfl
theorem Ctx.f_without (T : Ctx K mg) : ∃ fd, FnD K d_without (He.ga K "without") fd := T.c.def_ 5 (d := d_without) rfl
theorem b_without {f : Addr} {fd : FuncData} (F : FnD K d_without f fd) : Binds K fd ["machines", "taken"] [] := F.bindsN fun _ _ _ _ _ _ us hl => match us, hl with | [_, _], _ => rfl
theorem Ctx.f_lowest_machine (T : Ctx K mg) : ∃ fd, FnD K d_lowest_machine (He.ga K "lowest_machine") fd := T.c.def_ 6 (d := d_lowest_machine) rfl
theorem b_lowest_machine {f : Addr} {fd : FuncData} (F : FnD K d_lowest_machine f fd) : Binds K fd ["job", "later_jobs", "machines"] [] := F.bindsN fun _ _ _ _ _ _ us hl => match us, hl with | [_, _, _], _ => rfl
theorem Ctx.f_place (T : Ctx K mg) : ∃ fd, FnD K d_place (He.ga K "place") fd := T.c.def_ 7 (d := d_place) rfl
theorem b_place {f : Addr} {fd : FuncData} (F : FnD K d_place f fd) : Binds K fd ["chosen", "machines"] [] := F.bindsN fun _ _ _ _ _ _ us hl => match us, hl with | [_, _], _ => rfl
theorem Ctx.f_find_rivals (T : Ctx K mg) : ∃ fd, FnD K d_find_rivals (He.ga K "find_rivals") fd := T.c.def_ 8 (d := d_find_rivals) rfl
theorem b_find_rivals {f : Addr} {fd : FuncData} (F : FnD K d_find_rivals f fd) : Binds K fd ["job", "placed"] [] := F.bindsN fun _ _ _ _ _ _ us hl => match us, hl with | [_, _], _ => rfl
theorem Ctx.f_is_from_one_to_most (T : Ctx K mg) : ∃ fd, FnD K d_is_from_one_to_most (He.ga K "is_from_one_to_most") fd := T.c.def_ 9 (d := d_is_from_one_to_most) rfl
theorem b_is_from_one_to_most {f : Addr} {fd : FuncData} (F : FnD K d_is_from_one_to_most f fd) : Binds K fd ["number"] [] := F.bindsN fun _ _ _ _ _ _ us hl => match us, hl with | [_], _ => rfl
theorem Ctx.f_Machine_init (T : Ctx K mg) : ∃ fd, FnD K d_Machine_init (He.ma K (He.ga K "Machine") "__init__") fd := T.c.def_ 10 (d := d_Machine_init) rfl
theorem b_Machine_init {f : Addr} {fd : FuncData} (F : FnD K d_Machine_init f fd) : Binds K fd ["self", "number", "labels", "heard"] [] := F.bindsN fun _ _ _ _ _ _ us hl => match us, hl with | [_, _, _, _], _ => rfl
theorem Ctx.f_Job_init (T : Ctx K mg) : ∃ fd, FnD K d_Job_init (He.ma K (He.ga K "Job") "__init__") fd := T.c.def_ 11 (d := d_Job_init) rfl
theorem b_Job_init {f : Addr} {fd : FuncData} (F : FnD K d_Job_init f fd) : Binds K fd ["self", "number", "labels", "urgency", "tries", "came"] [] := F.bindsN fun _ _ _ _ _ _ us hl => match us, hl with | [_, _, _, _, _, _], _ => rfl
theorem Ctx.f_Job_runs (T : Ctx K mg) : ∃ fd, FnD K d_Job_runs (He.ma K (He.ga K "Job") "runs") fd := T.c.def_ 12 (d := d_Job_runs) rfl
theorem b_Job_runs {f : Addr} {fd : FuncData} (F : FnD K d_Job_runs f fd) : Binds K fd ["self"] [] := F.bindsN fun _ _ _ _ _ _ us hl => match us, hl with | [_], _ => rfl
theorem Ctx.f_Job_run (T : Ctx K mg) : ∃ fd, FnD K d_Job_run (He.ma K (He.ga K "Job") "run") fd := T.c.def_ 13 (d := d_Job_run) rfl
theorem b_Job_run {f : Addr} {fd : FuncData} (F : FnD K d_Job_run f fd) : Binds K fd ["self", "machine", "lease"] [] := F.bindsN fun _ _ _ _ _ _ us hl => match us, hl with | [_, _, _], _ => rfl
theorem Ctx.f_Job_wait_again (T : Ctx K mg) : ∃ fd, FnD K d_Job_wait_again (He.ma K (He.ga K "Job") "wait_again") fd := T.c.def_ 14 (d := d_Job_wait_again) rfl
theorem b_Job_wait_again {f : Addr} {fd : FuncData} (F : FnD K d_Job_wait_again f fd) : Binds K fd ["self"] [] := F.bindsN fun _ _ _ _ _ _ us hl => match us, hl with | [_], _ => rfl
theorem Ctx.f_House_init (T : Ctx K mg) : ∃ fd, FnD K d_House_init (He.ma K (He.ga K "House") "__init__") fd := T.c.def_ 15 (d := d_House_init) rfl
theorem b_House_init {f : Addr} {fd : FuncData} (F : FnD K d_House_init f fd) : Binds K fd ["self"] [] := F.bindsN fun _ _ _ _ _ _ us hl => match us, hl with | [_], _ => rfl
theorem Ctx.f_House_make_new (T : Ctx K mg) : ∃ fd, FnD K d_House_make_new (He.ma K (He.ga K "House") "make_new") fd := T.c.def_ 16 (d := d_House_make_new) rfl
theorem b_House_make_new {f : Addr} {fd : FuncData} (F : FnD K d_House_make_new f fd) : Binds K fd ["self", "lease_minutes", "age"] [] := F.bindsN fun _ _ _ _ _ _ us hl => match us, hl with | [_, _, _], _ => rfl
theorem Ctx.f_House_begin (T : Ctx K mg) : ∃ fd, FnD K d_House_begin (He.ma K (He.ga K "House") "begin") fd := T.c.def_ 17 (d := d_House_begin) rfl
theorem b_House_begin {f : Addr} {fd : FuncData} (F : FnD K d_House_begin f fd) : Binds K fd ["self", "lease_minutes", "age"] [] := F.bindsN fun _ _ _ _ _ _ us hl => match us, hl with | [_, _, _], _ => rfl
theorem Ctx.f_House_add_machine (T : Ctx K mg) : ∃ fd, FnD K d_House_add_machine (He.ma K (He.ga K "House") "add_machine") fd := T.c.def_ 18 (d := d_House_add_machine) rfl
theorem b_House_add_machine {f : Addr} {fd : FuncData} (F : FnD K d_House_add_machine f fd) : Binds K fd ["self", "number", "labels"] [] := F.bindsN fun _ _ _ _ _ _ us hl => match us, hl with | [_, _, _], _ => rfl
theorem Ctx.f_House_add_job (T : Ctx K mg) : ∃ fd, FnD K d_House_add_job (He.ma K (He.ga K "House") "add_job") fd := T.c.def_ 19 (d := d_House_add_job) rfl
theorem b_House_add_job {f : Addr} {fd : FuncData} (F : FnD K d_House_add_job f fd) : Binds K fd ["self", "number", "labels", "urgency", "tries"] [] := F.bindsN fun _ _ _ _ _ _ us hl => match us, hl with | [_, _, _, _, _], _ => rfl
theorem Ctx.f_House_is_job_number_taken (T : Ctx K mg) : ∃ fd, FnD K d_House_is_job_number_taken (He.ma K (He.ga K "House") "is_job_number_taken") fd := T.c.def_ 20 (d := d_House_is_job_number_taken) rfl
theorem b_House_is_job_number_taken {f : Addr} {fd : FuncData} (F : FnD K d_House_is_job_number_taken f fd) : Binds K fd ["self", "number"] [] := F.bindsN fun _ _ _ _ _ _ us hl => match us, hl with | [_, _], _ => rfl
theorem Ctx.f_House_job_here (T : Ctx K mg) : ∃ fd, FnD K d_House_job_here (He.ma K (He.ga K "House") "job_here") fd := T.c.def_ 21 (d := d_House_job_here) rfl
theorem b_House_job_here {f : Addr} {fd : FuncData} (F : FnD K d_House_job_here f fd) : Binds K fd ["self", "number"] [] := F.bindsN fun _ _ _ _ _ _ us hl => match us, hl with | [_, _], _ => rfl
theorem Ctx.f_House_is_full_of_jobs (T : Ctx K mg) : ∃ fd, FnD K d_House_is_full_of_jobs (He.ma K (He.ga K "House") "is_full_of_jobs") fd := T.c.def_ 22 (d := d_House_is_full_of_jobs) rfl
theorem b_House_is_full_of_jobs {f : Addr} {fd : FuncData} (F : FnD K d_House_is_full_of_jobs f fd) : Binds K fd ["self"] [] := F.bindsN fun _ _ _ _ _ _ us hl => match us, hl with | [_], _ => rfl
theorem Ctx.f_House_serve (T : Ctx K mg) : ∃ fd, FnD K d_House_serve (He.ma K (He.ga K "House") "serve") fd := T.c.def_ 23 (d := d_House_serve) rfl
theorem b_House_serve {f : Addr} {fd : FuncData} (F : FnD K d_House_serve f fd) : Binds K fd ["self"] [] := F.bindsN fun _ _ _ _ _ _ us hl => match us, hl with | [_], _ => rfl
theorem Ctx.f_House_placed_jobs (T : Ctx K mg) : ∃ fd, FnD K d_House_placed_jobs (He.ma K (He.ga K "House") "placed_jobs") fd := T.c.def_ 24 (d := d_House_placed_jobs) rfl
theorem b_House_placed_jobs {f : Addr} {fd : FuncData} (F : FnD K d_House_placed_jobs f fd) : Binds K fd ["self"] [] := F.bindsN fun _ _ _ _ _ _ us hl => match us, hl with | [_], _ => rfl
theorem Ctx.f_House_free_machines (T : Ctx K mg) : ∃ fd, FnD K d_House_free_machines (He.ma K (He.ga K "House") "free_machines") fd := T.c.def_ 25 (d := d_House_free_machines) rfl
theorem b_House_free_machines {f : Addr} {fd : FuncData} (F : FnD K d_House_free_machines f fd) : Binds K fd ["self"] [] := F.bindsN fun _ _ _ _ _ _ us hl => match us, hl with | [_], _ => rfl
theorem Ctx.f_House_machines_by_number (T : Ctx K mg) : ∃ fd, FnD K d_House_machines_by_number (He.ma K (He.ga K "House") "machines_by_number") fd := T.c.def_ 26 (d := d_House_machines_by_number) rfl
theorem b_House_machines_by_number {f : Addr} {fd : FuncData} (F : FnD K d_House_machines_by_number f fd) : Binds K fd ["self"] [] := F.bindsN fun _ _ _ _ _ _ us hl => match us, hl with | [_], _ => rfl
theorem Ctx.f_House_is_busy (T : Ctx K mg) : ∃ fd, FnD K d_House_is_busy (He.ma K (He.ga K "House") "is_busy") fd := T.c.def_ 27 (d := d_House_is_busy) rfl
theorem b_House_is_busy {f : Addr} {fd : FuncData} (F : FnD K d_House_is_busy f fd) : Binds K fd ["self", "machine"] [] := F.bindsN fun _ _ _ _ _ _ us hl => match us, hl with | [_, _], _ => rfl
theorem Ctx.f_House_queue (T : Ctx K mg) : ∃ fd, FnD K d_House_queue (He.ma K (He.ga K "House") "queue") fd := T.c.def_ 28 (d := d_House_queue) rfl
theorem b_House_queue {f : Addr} {fd : FuncData} (F : FnD K d_House_queue f fd) : Binds K fd ["self"] [] := F.bindsN fun _ _ _ _ _ _ us hl => match us, hl with | [_], _ => rfl
theorem Ctx.f_House_urgency_now (T : Ctx K mg) : ∃ fd, FnD K d_House_urgency_now (He.ma K (He.ga K "House") "urgency_now") fd := T.c.def_ 29 (d := d_House_urgency_now) rfl
theorem b_House_urgency_now {f : Addr} {fd : FuncData} (F : FnD K d_House_urgency_now f fd) : Binds K fd ["self", "job"] [] := F.bindsN fun _ _ _ _ _ _ us hl => match us, hl with | [_, _], _ => rfl
theorem Ctx.f_House_beat (T : Ctx K mg) : ∃ fd, FnD K d_House_beat (He.ma K (He.ga K "House") "beat") fd := T.c.def_ 30 (d := d_House_beat) rfl
theorem b_House_beat {f : Addr} {fd : FuncData} (F : FnD K d_House_beat f fd) : Binds K fd ["self", "number"] [] := F.bindsN fun _ _ _ _ _ _ us hl => match us, hl with | [_, _], _ => rfl
theorem Ctx.f_House_take_result (T : Ctx K mg) : ∃ fd, FnD K d_House_take_result (He.ma K (He.ga K "House") "take_result") fd := T.c.def_ 31 (d := d_House_take_result) rfl
theorem b_House_take_result {f : Addr} {fd : FuncData} (F : FnD K d_House_take_result f fd) : Binds K fd ["self", "lease", "passed"] [] := F.bindsN fun _ _ _ _ _ _ us hl => match us, hl with | [_, _, _], _ => rfl
theorem Ctx.f_House_job_by_lease (T : Ctx K mg) : ∃ fd, FnD K d_House_job_by_lease (He.ma K (He.ga K "House") "job_by_lease") fd := T.c.def_ 32 (d := d_House_job_by_lease) rfl
theorem b_House_job_by_lease {f : Addr} {fd : FuncData} (F : FnD K d_House_job_by_lease f fd) : Binds K fd ["self", "lease"] [] := F.bindsN fun _ _ _ _ _ _ us hl => match us, hl with | [_, _], _ => rfl
theorem Ctx.f_House_stop_job (T : Ctx K mg) : ∃ fd, FnD K d_House_stop_job (He.ma K (He.ga K "House") "stop_job") fd := T.c.def_ 33 (d := d_House_stop_job) rfl
theorem b_House_stop_job {f : Addr} {fd : FuncData} (F : FnD K d_House_stop_job f fd) : Binds K fd ["self", "job"] [] := F.bindsN fun _ _ _ _ _ _ us hl => match us, hl with | [_, _], _ => rfl
theorem Ctx.f_House_end_job (T : Ctx K mg) : ∃ fd, FnD K d_House_end_job (He.ma K (He.ga K "House") "end_job") fd := T.c.def_ 34 (d := d_House_end_job) rfl
theorem b_House_end_job {f : Addr} {fd : FuncData} (F : FnD K d_House_end_job f fd) : Binds K fd ["self", "ended", "how"] [] := F.bindsN fun _ _ _ _ _ _ us hl => match us, hl with | [_, _, _], _ => rfl
theorem Ctx.f_House_tick (T : Ctx K mg) : ∃ fd, FnD K d_House_tick (He.ma K (He.ga K "House") "tick") fd := T.c.def_ 35 (d := d_House_tick) rfl
theorem b_House_tick {f : Addr} {fd : FuncData} (F : FnD K d_House_tick f fd) : Binds K fd ["self", "minutes"] [] := F.bindsN fun _ _ _ _ _ _ us hl => match us, hl with | [_, _], _ => rfl
theorem Ctx.f_House_is_lost (T : Ctx K mg) : ∃ fd, FnD K d_House_is_lost (He.ma K (He.ga K "House") "is_lost") fd := T.c.def_ 36 (d := d_House_is_lost) rfl
theorem b_House_is_lost {f : Addr} {fd : FuncData} (F : FnD K d_House_is_lost f fd) : Binds K fd ["self", "machine"] [] := F.bindsN fun _ _ _ _ _ _ us hl => match us, hl with | [_, _], _ => rfl
theorem Ctx.f_House_minutes_since_heard (T : Ctx K mg) : ∃ fd, FnD K d_House_minutes_since_heard (He.ma K (He.ga K "House") "minutes_since_heard") fd := T.c.def_ 37 (d := d_House_minutes_since_heard) rfl
theorem b_House_minutes_since_heard {f : Addr} {fd : FuncData} (F : FnD K d_House_minutes_since_heard f fd) : Binds K fd ["self", "machine"] [] := F.bindsN fun _ _ _ _ _ _ us hl => match us, hl with | [_, _], _ => rfl
theorem Ctx.f_House_drain (T : Ctx K mg) : ∃ fd, FnD K d_House_drain (He.ma K (He.ga K "House") "drain") fd := T.c.def_ 38 (d := d_House_drain) rfl
theorem b_House_drain {f : Addr} {fd : FuncData} (F : FnD K d_House_drain f fd) : Binds K fd ["self", "number"] [] := F.bindsN fun _ _ _ _ _ _ us hl => match us, hl with | [_, _], _ => rfl
theorem Ctx.f_House_cancel (T : Ctx K mg) : ∃ fd, FnD K d_House_cancel (He.ma K (He.ga K "House") "cancel") fd := T.c.def_ 39 (d := d_House_cancel) rfl
theorem b_House_cancel {f : Addr} {fd : FuncData} (F : FnD K d_House_cancel f fd) : Binds K fd ["self", "number"] [] := F.bindsN fun _ _ _ _ _ _ us hl => match us, hl with | [_, _], _ => rfl
theorem Ctx.f_House_why (T : Ctx K mg) : ∃ fd, FnD K d_House_why (He.ma K (He.ga K "House") "why") fd := T.c.def_ 40 (d := d_House_why) rfl
theorem b_House_why {f : Addr} {fd : FuncData} (F : FnD K d_House_why f fd) : Binds K fd ["self", "number"] [] := F.bindsN fun _ _ _ _ _ _ us hl => match us, hl with | [_, _], _ => rfl
theorem Ctx.f_House_tell_queue (T : Ctx K mg) : ∃ fd, FnD K d_House_tell_queue (He.ma K (He.ga K "House") "tell_queue") fd := T.c.def_ 41 (d := d_House_tell_queue) rfl
theorem b_House_tell_queue {f : Addr} {fd : FuncData} (F : FnD K d_House_tell_queue f fd) : Binds K fd ["self"] [] := F.bindsN fun _ _ _ _ _ _ us hl => match us, hl with | [_], _ => rfl
theorem Ctx.f_House_tell_machines (T : Ctx K mg) : ∃ fd, FnD K d_House_tell_machines (He.ma K (He.ga K "House") "tell_machines") fd := T.c.def_ 42 (d := d_House_tell_machines) rfl
theorem b_House_tell_machines {f : Addr} {fd : FuncData} (F : FnD K d_House_tell_machines f fd) : Binds K fd ["self"] [] := F.bindsN fun _ _ _ _ _ _ us hl => match us, hl with | [_], _ => rfl
theorem Ctx.f_House_state_of (T : Ctx K mg) : ∃ fd, FnD K d_House_state_of (He.ma K (He.ga K "House") "state_of") fd := T.c.def_ 43 (d := d_House_state_of) rfl
theorem b_House_state_of {f : Addr} {fd : FuncData} (F : FnD K d_House_state_of f fd) : Binds K fd ["self", "machine"] [] := F.bindsN fun _ _ _ _ _ _ us hl => match us, hl with | [_, _], _ => rfl
theorem Ctx.f_House_tell_ends (T : Ctx K mg) : ∃ fd, FnD K d_House_tell_ends (He.ma K (He.ga K "House") "tell_ends") fd := T.c.def_ 44 (d := d_House_tell_ends) rfl
theorem b_House_tell_ends {f : Addr} {fd : FuncData} (F : FnD K d_House_tell_ends f fd) : Binds K fd ["self"] [] := F.bindsN fun _ _ _ _ _ _ us hl => match us, hl with | [_], _ => rfl
theorem Ctx.f_answer_call (T : Ctx K mg) : ∃ fd, FnD K d_answer_call (He.ga K "answer_call") fd := T.c.def_ 45 (d := d_answer_call) rfl
theorem b_answer_call {f : Addr} {fd : FuncData} (F : FnD K d_answer_call f fd) : Binds K fd ["house", "call", "numbers"] [] := F.bindsN fun _ _ _ _ _ _ us hl => match us, hl with | [_, _, _], _ => rfl
theorem Ctx.f_answers (T : Ctx K mg) : ∃ fd, FnD K d_answers (He.ga K "answers") fd := T.c.def_ 46 (d := d_answers) rfl
theorem b_answers {f : Addr} {fd : FuncData} (F : FnD K d_answers f fd) : Binds K fd ["calls"] [] := F.bindsN fun _ _ _ _ _ _ us hl => match us, hl with | [_], _ => rfl
end
end Lr
end
section
set_option Elab.async false
set_option linter.all false
set_option maxRecDepth 100000
set_option maxHeartbeats 4000000
namespace Lr
open PySem L2
open Rp04 (Machine Job)
abbrev CM (K : PySem.W.Frag) : Addr := He.ga K "Machine"
abbrev CJ (K : PySem.W.Frag) : Addr := He.ga K "Job"
/-- at a stands a machine of which number and labels are m's -/
def MachA (K : PySem.W.Frag) (H : Hp) (a : Addr) (m : Machine) : Prop :=
  ∃ dx fs, H a = some (.ins (CM K) dx fs) ∧ fs.lookup ("number" : Str) = some (.int (m.id : Int)) ∧ fs.lookup ("labels" : Str) = some (.int (m.labels : Int))
/-- at a stands a job that asks j's labels -/
def JobA (K : PySem.W.Frag) (H : Hp) (a : Addr) (j : Job) : Prop :=
  ∃ dx fs, H a = some (.ins (CJ K) dx fs) ∧ fs.lookup ("labels" : Str) = some (.int (j.labels : Int))
theorem MachA.same {K : PySem.W.Frag} {H H' : Hp} {a : Addr} {m : Machine} (h : MachA K H a m) (s : ∀ dx fs, H a = some (.ins (CM K) dx fs) → H' a = some (.ins (CM K) dx fs)) : MachA K H' a m := by
  obtain ⟨dx, fs, h1, h2⟩ := h
  exact ⟨dx, fs, s _ _ h1, h2⟩
theorem JobA.same {K : PySem.W.Frag} {H H' : Hp} {a : Addr} {j : Job} (h : JobA K H a j) (s : ∀ dx fs, H a = some (.ins (CJ K) dx fs) → H' a = some (.ins (CJ K) dx fs)) : JobA K H' a j := by
  obtain ⟨dx, fs, h1, h2⟩ := h
  exact ⟨dx, fs, s _ _ h1, h2⟩
theorem land_suits (m : Machine) (j : Job) : decide (Builtin.bitAnd (j.labels : Int) (m.labels : Int) = (j.labels : Int)) = Rp04.suits m j := by
  have e : Builtin.bitAnd (j.labels : Int) (m.labels : Int) = ((j.labels &&& m.labels : Nat) : Int) := rfl
  unfold Rp04.suits
  rw [e, Bool.eq_iff_iff, decide_eq_true_iff, beq_iff_eq]
  show _ ↔ m.labels &&& j.labels = j.labels
  rw [Nat.and_comm m.labels j.labels]
  omega
section
variable {P : Program} {w : World} {K : PySem.W.Frag} {mg : Str → Option Value} {base : Heap}
/-! ### suits -/
def spSuits (K : PySem.W.Frag) : Sp := fun vs H Q _ => ∃ (a b : Addr) (m : Machine) (j : Job), vs = [.ref a, .ref b] ∧ MachA K H a m ∧ JobA K H b j ∧ Q (.bl (Rp04.suits m j)) H
theorem sc_suits : FnScope ["machine", "job"] ["machine", "job"] (defScope s_suits) := ⟨rfl, rfl, rfl, by decide +kernel, rfl, by decide +kernel, by decide +kernel⟩
theorem ok_suits (T : Ctx K mg) : Keeps P w K mg base 1 (He.ga K "suits") ["machine", "job"] (spSuits K) := by
  obtain ⟨fd, F⟩ := T.f_suits
  refine ⟨fd, F.ok sc_suits (fun vs H Q E h => ?_) (fun cdv A outer s H vs Q E hr h => ?_), F.kp, b_suits F⟩
  · obtain ⟨a, b, m, j, rfl, _⟩ := h
    rfl
  · obtain ⟨a, b, m, j, rfl, ⟨dm, fm, h1, h2, h3⟩, ⟨dj, fj, g1, g2⟩, q⟩ := h
    refine ⟨_, PSs.nox (pss_one (ps_ret (pe_cmpR op_eq (pe_op op_and (pe_fld (pv 1) rfl) (pe_fld (pv 0) rfl)) (pe_fld (pv 1) rfl) (nomark _)))), ?_⟩
    refine ⟨_, rfl, b, CJ K, dj, _, _, rfl, g1, T.c_Job, T.n_Job_labels, g2, _, rfl, a, CM K, dm, _, _, rfl, h1, T.c_Machine, T.n_Machine_labels, h3, _, _, rfl, rfl, _, rfl, b, CJ K, dj, _, _, rfl, g1, T.c_Job, T.n_Job_labels, g2, rfl, ?_⟩
    have e : decide (V.int (Builtin.bitAnd (j.labels : Int) (m.labels : Int)) = V.int (j.labels : Int)) = Rp04.suits m j := by
      rw [← land_suits]
      by_cases z : Builtin.bitAnd (j.labels : Int) (m.labels : Int) = (j.labels : Int)
      · rw [decide_eq_true z, decide_eq_true (congrArg V.int z)]
      · rw [decide_eq_false z, decide_eq_false (fun y => z (V.int.inj y))]
    rw [e]
    exact q
end
end Lr
end
section
set_option Elab.async false
set_option linter.all false
set_option maxRecDepth 100000
set_option maxHeartbeats 4000000
namespace Lr
open PySem L2 Mt
open Rp04 (Machine Job)
abbrev rj (aj : Nat → Addr) (j : Job) : V := V.ref (aj j.id)
abbrev rm (am : Nat → Addr) (m : Machine) : V := V.ref (am m.id)
def encH (aj : Nat → Addr) (hs : Hs) : List (Key × V) := hs.map fun p => (Sum.inl (p.1 : Int), rj aj p.2)
def encT (tr : List Nat) : List (Key × V) := tr.map fun (n : Nat) => (Sum.inl (n : Int), V.bl true)
theorem inl_nat {a b : Nat} : (Sum.inl (a : Int) : Key) = Sum.inl (b : Int) ↔ a = b := by
  constructor
  · intro h
    have e : (a : Int) = (b : Int) := Sum.inl.inj h
    omega
  · intro h
    rw [h]
theorem valV_encH (aj : Nat → Addr) (n : Nat) : ∀ hs : Hs, valV (encH aj hs) (Sum.inl (n : Int)) = (look hs n).map (rj aj)
  | [] => rfl
  | p :: hs => by
    show valV ((Sum.inl (p.1 : Int), rj aj p.2) :: encH aj hs) (Sum.inl (n : Int)) = _
    rw [look_cons]
    by_cases e : p.1 = n
    · rw [valV_pos (inl_nat.mpr e), if_pos e]
      rfl
    · rw [valV_neg (fun z => e (inl_nat.mp z)), if_neg e, valV_encH aj n hs]
theorem any_encH (aj : Nat → Addr) (hs : Hs) (n : Nat) : ((encH aj hs).any fun kv => decide (kv.1 = Sum.inl (n : Int))) = (hs.any fun p => decide (p.1 = n)) := by
  rw [valV_any, valV_encH, look_any, Option.isSome_map]
theorem putK_encH (aj : Nat → Addr) (hs : Hs) (n : Nat) (j : Job) : putK (encH aj hs) (Sum.inl (n : Int)) (rj aj j) = encH aj (put hs n j) := by
  unfold putK put
  rw [any_encH]
  by_cases h : (hs.any fun p => decide (p.1 = n)) = true
  · rw [if_pos h, if_pos h]
    unfold encH
    rw [List.map_map, List.map_map]
    refine List.map_congr_left fun p _ => ?_
    show (if (Sum.inl (p.1 : Int) : Key) = Sum.inl (n : Int) then _ else _) = ((Sum.inl (((if p.1 = n then (p.1, j) else p).1 : Nat) : Int) : Key), rj aj (if p.1 = n then (p.1, j) else p).2)
    by_cases e : p.1 = n
    · rw [if_pos (inl_nat.mpr e), if_pos e]
    · rw [if_neg (fun z => e (inl_nat.mp z)), if_neg e]
  · rw [if_neg h, if_neg h]
    unfold encH
    rw [List.map_append]
    rfl
theorem valV_encT (n : Nat) : ∀ tr : List Nat, (valV (encT tr) (Sum.inl (n : Int))).isSome = decide (n ∈ tr)
  | [] => by simp [encT, valV_nil]
  | m :: tr => by
    show (valV ((Sum.inl (m : Int), V.bl true) :: encT tr) (Sum.inl (n : Int))).isSome = _
    by_cases e : m = n
    · rw [valV_pos (inl_nat.mpr e)]
      simp [e]
    · rw [valV_neg (fun z => e (inl_nat.mp z)), valV_encT n tr]
      have : ¬ n = m := fun z => e z.symm
      simp [this]
theorem putK_encT {tr : List Nat} {n : Nat} (h : n ∉ tr) : putK (encT tr) (Sum.inl (n : Int)) (V.bl true) = encT (tr ++ [n]) := by
  have e : valV (encT tr) (Sum.inl (n : Int)) = none := by
    have q := valV_encT n tr
    rw [decide_eq_false h] at q
    cases z : valV (encT tr) (Sum.inl (n : Int)) with
    | none => rfl
    | some v => rw [z] at q; cases q
  rw [putK_new _ e]
  unfold encT
  rw [List.map_append]
  rfl
theorem Good.len {ms : List Machine} {hs : Hs} (g : Good ms hs) : hs.length ≤ ms.length := by
  have q := tried_le g.nd fun n hn => by
    obtain ⟨p, hp, e⟩ := List.mem_map.mp hn
    obtain ⟨m, hm, e2, _⟩ := g.ok p hp
    exact ⟨m, hm, e2.trans e⟩
  rw [List.length_map] at q
  exact q
/-- what a search looks at: the machines ms (their list at ml), the job j, who holds which, what was tried -/
structure Look (K : PySem.W.Frag) (H : Hp) (am aj : Nat → Addr) (ms : List Machine) (ml hd td : Addr) (j : Job) (hs : Hs) (tr : List Nat) : Prop where
  lst : H ml = some (.lst (ms.map (rm am)))
  mach : ∀ m ∈ ms, MachA K H (am m.id) m
  job : JobA K H (aj j.id) j
  jobs : ∀ p ∈ hs, JobA K H (aj p.2.id) p.2
  dh : H hd = some (.dK (encH aj hs))
  dt : H td = some (.dK (encT tr))
  ne : hd ≠ td
  few : ms.length ≤ 1000
  good : Good ms hs
  nd : tr.Nodup
  ids : ∀ n ∈ tr, ∃ m ∈ ms, m.id = n
/-- all but the two dicts is as it was -/
def Kept2 (H H' : Hp) (hd td : Addr) : Prop := ∀ b o, H b = some o → b ≠ hd → b ≠ td → H' b = some o
theorem Kept2.trans {H H1 H2 : Hp} {hd td : Addr} (a : Kept2 H H1 hd td) (b : Kept2 H1 H2 hd td) : Kept2 H H2 hd td := fun c o e h1 h2 => b c o (a c o e h1 h2) h1 h2
/-- machines, jobs and their list are no dicts -/
theorem Look.go {K : PySem.W.Frag} {H H' : Hp} {am aj : Nat → Addr} {ms : List Machine} {ml hd td : Addr} {j i : Job} {hs hs' : Hs} {tr tr' : List Nat} (L : Look K H am aj ms ml hd td j hs tr) (k : Kept2 H H' hd td) (h1 : H' hd = some (.dK (encH aj hs'))) (h2 : H' td = some (.dK (encT tr')))
    (g : Good ms hs') (nd : tr'.Nodup) (ids : ∀ n ∈ tr', ∃ m ∈ ms, m.id = n) (hi : i = j ∨ i ∈ hs.map (·.2)) (hj : ∀ p ∈ hs', p.2 = j ∨ p.2 ∈ hs.map (·.2)) : Look K H' am aj ms ml hd td i hs' tr' := by
  have up : ∀ a C dx fs, H a = some (.ins C dx fs) → H' a = some (.ins C dx fs) := fun a C dx fs e =>
    k a _ e (ne_of e L.dh (by intro z; cases z)) (ne_of e L.dt (by intro z; cases z))
  have jb : ∀ x : Job, x = j ∨ x ∈ hs.map (·.2) → JobA K H' (aj x.id) x := fun x hx => by
    rcases hx with e | e
    · rw [e]; exact L.job.same fun dx fs z => up _ _ dx fs z
    · obtain ⟨p, hp, e2⟩ := List.mem_map.mp e
      rw [← e2]; exact (L.jobs p hp).same fun dx fs z => up _ _ dx fs z
  exact ⟨k _ _ L.lst (ne_of L.lst L.dh (by intro z; cases z)) (ne_of L.lst L.dt (by intro z; cases z)), fun m hm => (L.mach m hm).same fun dx fs z => up _ _ dx fs z, jb i hi, fun p hp => jb p.2 (hj p hp), h1, h2, L.ne, L.few, g, nd, ids⟩
def spFind (K : PySem.W.Frag) (n : Nat) : Sp := fun vs H Q _ => ∃ (am aj : Nat → Addr) (ms : List Machine) (ml hd td : Addr) (j : Job) (hs : Hs) (tr : List Nat), vs = [rj aj j, .ref ml, .ref hd, .ref td] ∧ Look K H am aj ms ml hd td j hs tr ∧ ms.length < tr.length + n ∧
  (∀ (H' : Hp) (hs' : Hs) (tr' : List Nat), Kept2 H H' hd td → H' hd = some (.dK (encH aj hs')) → H' td = some (.dK (encT tr')) → Good ms hs' → (hs'.map (·.2)).Perm (j :: hs.map (·.2)) → (∀ x ∈ tr, look hs' x = look hs x) → Q (.bl true) H') ∧
  (∀ (H' : Hp) (tr' : List Nat), Kept2 H H' hd td → H' hd = some (.dK (encH aj hs)) → H' td = some (.dK (encT tr')) → Shut ms hs j tr tr' → Q (.bl false) H')
section
variable {P : Program} {w : World} {K : PySem.W.Frag} {mg : Str → Option Value} {base : Heap}
abbrev psFind : List Str := ["job", "machines", "holders", "tried"]
theorem sc_find : FnScope ["job", "machines", "holders", "tried", "machine", "holder"] psFind (defScope s_finds_machine) := ⟨rfl, rfl, rfl, by decide +kernel, rfl, by decide +kernel, by decide +kernel⟩
theorem ok_find (T : Ctx K mg) (n : Nat) (Gs : Keeps P w K mg base 1 (He.ga K "suits") ["machine", "job"] (spSuits K)) (Gn : Keeps P w K mg base (n + 1) (He.ga K "finds_machine") psFind (spFind K n)) :
    Keeps P w K mg base (n + 2) (He.ga K "finds_machine") psFind (spFind K (n + 1)) := by
  obtain ⟨fd, F⟩ := T.f_finds_machine
  obtain ⟨fds, Fs, ks, bs⟩ := Gs
  obtain ⟨fdn, Fn, kn, bn⟩ := Gn
  refine ⟨fd, F.ok sc_find (fun vs H Q E h => ?_) (fun cdv A outer s H vs Q E hr h => ?_), F.kp, b_finds_machine F⟩
  · obtain ⟨am, aj, ms, ml, hd, td, j, hs, tr, rfl, _⟩ := h
    rfl
  · obtain ⟨am, aj, ms, ml, hd, td, j, hs, tr, rfl, L, hn, yes, no⟩ := h
    have hu := hu_of hr
    have hr1 : Room 1 _ := hr.mono (by omega)
    refine ⟨_, PSs.nox (pss_cons
      (ps_for PassesOwn.never rfl (pi_list (pv 1)) (pg_name (i := 4) sc_find.nd rfl (Or.inl rfl))
        (pss_cons (ps_if (PW.pt (pw_or (pt_cmp (pc_din hu (pe_fld (pv 4) rfl) (pv 3))) (pw_or1 (pt_not (pt_val (pe_call Fs hr1 rfl T.g_suits ks bs .nil pass0 (pa_cons (pv 4) (pa_cons (pv 0) pa_nil)))))))) (pss_one ps_continue) pss_nil)
        (pss_cons (ps_dput hu (pv 3) (pe_fld (pv 4) rfl) pe_bl rfl)
        (pss_cons (ps_set (i := 5) sc_find.nd rfl (Or.inl rfl) (pe_dget1 hu (pv 2) (pe_fld (pv 4) rfl) ⟨rfl, rfl, rfl, rfl⟩))
        (pss_one (ps_if (PW.pt (pw_or (pt_cmpR op_isN (pv 5) pe_non (nomark _)) (pw_or1 (pt_val (pe_call Fn hr rfl T.g_finds_machine kn bn .nil pass0 (pa_cons (pv 5) (pa_cons (pv 1) (pa_cons (pv 2) (pa_cons (pv 3) pa_nil)))))))))
          (pss_cons (ps_dput hu (pv 2) (pe_fld (pv 4) rfl) (pv 0) rfl) (pss_one (ps_ret pe_bl))) pss_nil))))))
      (pss_one (ps_ret pe_bl))), ?_⟩
    have cut : ∀ {i : Nat} {y : V}, (ms.map (rm am))[i]? = some y → ∃ m, ms[i]? = some m ∧ y = rm am m := fun {i y} hi => by
      rw [List.getElem?_map] at hi
      cases e : ms[i]? with
      | none => rw [e] at hi; cases hi
      | some m => rw [e] at hi; exact ⟨m, rfl, (Option.some.inj hi).symm⟩
    refine ⟨_, rfl, ml, rfl, ⟨_, SqL.of L.lst⟩, for_list (K := K) (a := ml) (xs := ms.map (rm am))
      (fun i σ H' => ∃ (v4 v5 : Option V) (tr' : List Nat), σ = [some (rj aj j), some (.ref ml), some (.ref hd), some (.ref td), v4, v5] ∧ Kept2 H H' hd td ∧ H' hd = some (.dK (encH aj hs)) ∧ H' td = some (.dK (encT tr')) ∧ Upto ms hs j tr i tr')
      ⟨none, none, tr, rfl, fun _ _ e _ _ => e, L.dh, L.dt, Upto.start L.nd L.ids⟩
      (fun i σ H' _ ⟨_, _, _, _, k1, _, _, _⟩ => SqL.of (k1 _ _ L.lst (ne_of L.lst L.dh (by intro z; cases z)) (ne_of L.lst L.dt (by intro z; cases z)))) ?_ ?_⟩
    · rintro i y σ H1 hi ⟨v4, v5, tr1, rfl, k1, h1, t1, U⟩
      obtain ⟨m, hm, rfl⟩ := cut hi
      have mm : m ∈ ms := List.mem_of_getElem? hm
      have L1 : Look K H1 am aj ms ml hd td j hs tr1 := L.go k1 h1 t1 L.good U.nd U.ids (.inl rfl) fun p hp => .inr (List.mem_map.mpr ⟨p, hp, rfl⟩)
      obtain ⟨dm, fm, m1, m2, m3⟩ := id (L1.mach m mm)
      -- if machine.number in tried or not suits(machine, job): continue
      refine ⟨_, rfl, am m.id, CM K, dm, _, _, rfl, m1, T.c_Machine, T.n_Machine_number, m2, _, rfl, td, _, rfl, DGet.k (k := Sum.inl (m.id : Int)) t1, _, rfl, ?_⟩
      refine ite2 (fun c => ?_) (fun c => ?_)
      · rw [valV_encT] at c
        refine iteT ?_
        exact ⟨_, _, tr1, rfl, k1, h1, t1, U.pass hm (.inl (of_decide_eq_true c))⟩
      · rw [valV_encT] at c
        have nin : m.id ∉ tr1 := fun z => c (decide_eq_true z)
        refine ⟨_, rfl, _, rfl, am m.id, aj j.id, m, j, rfl, L1.mach m mm, L1.job, _, rfl, ?_⟩
        cases es : Rp04.suits m j with
        | false =>
          refine iteT ?_
          exact ⟨_, _, tr1, rfl, k1, h1, t1, U.pass hm (.inr es)⟩
        | true =>
          refine iteF ?_
          obtain ⟨nd2, ids2⟩ := U.tried hm nin
          have le2 := tried_le nd2 ids2
          rw [List.length_append, List.length_singleton] at le2
          -- tried[machine.number] = True; holder = holders.get(machine.number)
          have hl1 : (encT tr1).length < sizeLine := small1000 (by unfold encT; rw [List.length_map]; have := L.few; omega)
          refine ⟨_, rfl, _, rfl, am m.id, CM K, dm, _, _, rfl, m1, T.c_Machine, T.n_Machine_number, m2, td, _, rfl, DPut.k (k := Sum.inl (m.id : Int)) t1 hl1, ?_⟩
          rw [putK_encT nin]
          have k2 : Kept2 H (upd H1 td (.dK (encT (tr1 ++ [m.id])))) hd td := fun b o e g1 g2 => by rw [upd_ne g2]; exact k1 b o e g1 g2
          have h2 : (upd H1 td (.dK (encT (tr1 ++ [m.id])))) hd = some (.dK (encH aj hs)) := by rw [upd_ne L.ne]; exact h1
          have t2 : (upd H1 td (.dK (encT (tr1 ++ [m.id])))) td = some (.dK (encT (tr1 ++ [m.id]))) := upd_same
          generalize upd H1 td (.dK (encT (tr1 ++ [m.id]))) = H2 at k2 h2 t2
          have L2' : ∀ i : Job, i = j ∨ i ∈ hs.map (·.2) → Look K H2 am aj ms ml hd td i hs (tr1 ++ [m.id]) := fun i hi' => L.go k2 h2 t2 L.good nd2 ids2 hi' fun p hp => .inr (List.mem_map.mpr ⟨p, hp, rfl⟩)
          obtain ⟨dn, fn, n1, n2, n3⟩ := id ((L2' j (.inl rfl)).mach m mm)
          refine ⟨_, rfl, hd, rfl, .inl ⟨_, .inl h2⟩, _, rfl, am m.id, CM K, dn, _, _, rfl, n1, T.c_Machine, T.n_Machine_number, n2, _, DGet.k (k := Sum.inl (m.id : Int)) h2, ?_⟩
          rw [valV_encH]
          have intr : ∀ x ∈ tr, x ≠ m.id := fun x hx z => nin (U.sub _ (z ▸ hx))
          -- holders[machine.number] = job; return True
          have fin : ∀ (H3 : Hp) (hs3 : Hs) (tr3 : List Nat), Kept2 H H3 hd td → H3 hd = some (.dK (encH aj hs3)) → H3 td = some (.dK (encT tr3)) → hs3.length ≤ ms.length → Good ms (put hs3 m.id j) →
              ((put hs3 m.id j).map (·.2)).Perm (j :: hs.map (·.2)) → (∀ x ∈ tr, look hs3 x = look hs x) → (encH aj hs3).length < sizeLine ∧ Q (.bl true) (upd H3 hd (.dK (putK (encH aj hs3) (Sum.inl (m.id : Int)) (rj aj j)))) := fun H3 hs3 tr3 k3 h3 t3 l3 g3 p3 e3 => by
            refine ⟨small1000 (by unfold encH; rw [List.length_map]; have := L.few; omega), ?_⟩
            rw [putK_encH]
            exact yes _ (put hs3 m.id j) tr3 (fun b o e g1 g2 => by rw [upd_ne g1]; exact k3 b o e g1 g2) upd_same (by rw [upd_ne L.ne.symm]; exact t3) g3 p3 fun x hx => by rw [look_put, if_neg (intr x hx)]; exact e3 x hx
          cases hb : look hs m.id with
          | none =>
            refine ⟨_, rfl, rfl, _, rfl, ?_⟩
            refine iteT (iteT ?_)
            obtain ⟨g3, p3⟩ := L.good.take mm es hb
            obtain ⟨l3, q3⟩ := fin H2 hs _ k2 h2 t2 (Good.len L.good) g3 p3 fun _ _ => rfl
            exact ⟨_, rfl, _, rfl, _, rfl, am m.id, CM K, dn, _, _, rfl, n1, T.c_Machine, T.n_Machine_number, n2, hd, _, rfl, DPut.k (k := Sum.inl (m.id : Int)) h2 l3, q3⟩
          | some b =>
            refine ⟨_, rfl, rfl, _, rfl, ?_⟩
            refine iteF ?_
            have mb : b ∈ hs.map (·.2) := List.mem_map.mpr ⟨_, look_in hb, rfl⟩
            -- the holder looks for another one
            refine ⟨_, rfl, _, rfl, _, rfl, _, rfl, am, aj, ms, ml, hd, td, b, hs, tr1 ++ [m.id], rfl, L2' b (.inr mb), ?_, fun H3 hs3 tr3 k3 h3 t3 g3 p3 e3 => ⟨_, rfl, ?_⟩, fun H3 tr3 k3 h3 t3 S3 => ⟨_, rfl, ?_⟩⟩
            · rw [List.length_append, List.length_singleton]
              have q := nodup_le tr tr1 L.nd U.sub
              omega
            · refine iteT ?_
              have eb : look hs3 m.id = some b := (e3 m.id (by simp)).trans hb
              obtain ⟨g4, p4⟩ := Good.over (hs := hs) g3 mm es eb p3
              have k4 := k2.trans k3
              obtain ⟨l3, q3⟩ := fin H3 hs3 tr3 k4 h3 t3 (Good.len g3) g4 p4 fun x hx => e3 x (List.mem_append.mpr (.inl (U.sub x hx)))
              obtain ⟨dk, fk, o1, o2, o3⟩ := (L.mach m mm).same fun dx fs z => k4 _ _ z (ne_of z L.dh (by intro z; cases z)) (ne_of z L.dt (by intro z; cases z))
              exact ⟨_, rfl, _, rfl, _, rfl, am m.id, CM K, dk, _, _, rfl, o1, T.c_Machine, T.n_Machine_number, o2, hd, _, rfl, DPut.k (k := Sum.inl (m.id : Int)) h3 l3, q3⟩
            · refine iteF ?_
              exact ⟨_, _, tr3, rfl, k2.trans k3, h3, t3, U.shut hm hb S3⟩
    · rintro σ H1 ⟨v4, v5, tr1, rfl, k1, h1, t1, U⟩
      rw [List.length_map] at U
      exact no H1 tr1 k1 h1 t1 U.all_done
/-- nothing can be asked where all machines and more were tried -/
theorem find_none (T : Ctx K mg) : Keeps P w K mg base 1 (He.ga K "finds_machine") psFind (spFind K 0) := by
  obtain ⟨fd, F⟩ := T.f_finds_machine
  have none_ : ∀ vs H Q E, ¬ spFind K 0 vs H Q E := fun vs H Q E h => by
    obtain ⟨am, aj, ms, ml, hd, td, j, hs, tr, _, L, hn, _⟩ := h
    have := tried_le L.nd L.ids
    omega
  exact ⟨fd, ⟨fun vs H Q E h => absurd h (none_ vs H Q E), fun A outer s H args us vs Q E _ _ _ _ h => absurd h (none_ vs H Q E)⟩, F.kp, b_finds_machine F⟩
theorem ok_finds (T : Ctx K mg) : ∀ n : Nat, Keeps P w K mg base (n + 1) (He.ga K "finds_machine") psFind (spFind K n)
  | 0 => find_none T
  | n + 1 => ok_find T n (ok_suits T) (ok_finds T n)
end
end Lr
end
section
set_option Elab.async false
set_option linter.all false
set_option maxRecDepth 100000
set_option maxHeartbeats 4000000
namespace Lr
open PySem L2 Mt
open Rp04 (Machine Job)
/-- the machines ms: their list at ml -/
structure MsAt (K : PySem.W.Frag) (H : Hp) (am : Nat → Addr) (ml : Addr) (ms : List Machine) : Prop where
  lst : H ml = some (.lst (ms.map (rm am)))
  mach : ∀ m ∈ ms, MachA K H (am m.id) m
  few : ms.length ≤ 7
/-- the jobs js: their list at jl -/
structure JsAt (K : PySem.W.Frag) (H : Hp) (aj : Nat → Addr) (jl : Addr) (js : List Job) : Prop where
  lst : H jl = some (.lst (js.map (rj aj)))
  job : ∀ j ∈ js, JobA K H (aj j.id) j
  few : js.length ≤ 100
theorem MsAt.same {K : PySem.W.Frag} {H H' : Hp} {am : Nat → Addr} {ml : Addr} {ms : List Machine} (h : MsAt K H am ml ms) (s : Same H H') : MsAt K H' am ml ms :=
  ⟨s _ _ h.lst, fun m hm => (h.mach m hm).same fun _ _ z => s _ _ z, h.few⟩
theorem JsAt.same {K : PySem.W.Frag} {H H' : Hp} {aj : Nat → Addr} {jl : Addr} {js : List Job} (h : JsAt K H aj jl js) (s : Same H H') : JsAt K H' aj jl js :=
  ⟨s _ _ h.lst, fun j hj => (h.job j hj).same fun _ _ z => s _ _ z, h.few⟩
theorem same_new {H : Hp} {p : Addr} (h : H p = none) (o : HO) : Same H (upd H p o) := fun b u q => by rw [upd_ne (ne_of_none q h)]; exact q
theorem cut_map {α : Type} {f : α → V} {l : List α} {i : Nat} {y : V} (hi : (l.map f)[i]? = some y) : ∃ x, l[i]? = some x ∧ y = f x := by
  rw [List.getElem?_map] at hi
  cases e : l[i]? with
  | none => rw [e] at hi; cases hi
  | some x => rw [e] at hi; exact ⟨x, rfl, (Option.some.inj hi).symm⟩
theorem split_at {α : Type} {l : List α} {i : Nat} {x : α} (h : l[i]? = some x) : l = l.take i ++ x :: l.drop (i + 1) := by
  have hi : i < l.length := (List.getElem?_eq_some_iff.mp h).1
  have e : l[i] = x := (List.getElem?_eq_some_iff.mp h).2
  rw [← e, ← List.drop_eq_getElem_cons hi, List.take_append_drop]
def spCan (K : PySem.W.Frag) : Sp := fun vs H Q _ => ∃ (am aj : Nat → Addr) (ml jl : Addr) (ms : List Machine) (js : List Job), vs = [.ref jl, .ref ml] ∧ MsAt K H am ml ms ∧ JsAt K H aj jl js ∧
  ∀ (b : Bool) (H' : Hp), (b = true ↔ Srv js ms) → Same H H' → Q (.bl b) H'
section
variable {P : Program} {w : World} {K : PySem.W.Frag} {mg : Str → Option Value} {base : Heap}
theorem sc_can : FnScope ["jobs", "machines", "holders", "job"] ["jobs", "machines"] (defScope s_can_be_served_together) := ⟨rfl, rfl, rfl, by decide +kernel, rfl, by decide +kernel, by decide +kernel⟩
theorem ok_can (T : Ctx K mg) : Keeps P w K mg base 10 (He.ga K "can_be_served_together") ["jobs", "machines"] (spCan K) := by
  obtain ⟨fd, F⟩ := T.f_can_be_served_together
  obtain ⟨fdf, Ff, kf, bf⟩ := ok_finds (P := P) (w := w) (base := base) T 8
  refine ⟨fd, F.ok sc_can (fun vs H Q E h => ?_) (fun cdv A outer s H vs Q E hr h => ?_), F.kp, b_can_be_served_together F⟩
  · obtain ⟨am, aj, ml, jl, ms, js, rfl, _⟩ := h
    rfl
  · obtain ⟨am, aj, ml, jl, ms, js, rfl, hM, hJ, q⟩ := h
    refine ⟨_, PSs.nox (pss_cons (ps_set (i := 2) sc_can.nd rfl (Or.inl rfl) pe_dnewK)
      (pss_cons (ps_for PassesOwn.never rfl (pi_list (pv 0)) (pg_name (i := 3) sc_can.nd rfl (Or.inl rfl))
        (pss_one (ps_if (pt_not (pt_val (pe_call Ff hr rfl T.g_finds_machine kf bf .nil pass0 (pa_cons (pv 3) (pa_cons (pv 1) (pa_cons (pv 2) (pa_cons pe_dnewK pa_nil))))))) (pss_one (ps_ret pe_bl)) pss_nil)))
      (pss_one (ps_ret pe_bl)))), ?_⟩
    intro hd nd
    have s0 := same_new nd (.dK [])
    refine ⟨_, rfl, jl, rfl, ⟨_, SqL.of (s0 _ _ hJ.lst)⟩, for_list (K := K) (a := jl) (xs := js.map (rj aj))
      (fun i σ H' => ∃ (v3 : Option V) (hs : Hs), σ = [some (.ref jl), some (.ref ml), some (.ref hd), v3] ∧ Same H H' ∧ H' hd = some (.dK (encH aj hs)) ∧ Good ms hs ∧ (hs.map (·.2)).Perm (js.take i))
      ⟨none, [], rfl, s0, upd_same, Good.nil ms, List.Perm.refl _⟩ (fun i σ H' _ ⟨_, _, _, s1, _⟩ => SqL.of (s1 _ _ hJ.lst)) ?_ ?_⟩
    · rintro i y σ H1 hi ⟨v3, hs, rfl, s1, h1, g1, p1⟩
      obtain ⟨j, hj, rfl⟩ := cut_map hi
      have mj : j ∈ js := List.mem_of_getElem? hj
      have mh : ∀ p ∈ hs, p.2 ∈ js := fun p hp => List.mem_of_mem_take (p1.mem_iff.mp (List.mem_map.mpr ⟨p, hp, rfl⟩))
      refine ⟨_, rfl, _, rfl, _, rfl, fun td ntd => ?_⟩
      have s2 := s1.trans (same_new ntd (.dK []))
      have nht : hd ≠ td := ne_of_none h1 ntd
      have lk : Look K (upd H1 td (.dK [])) am aj ms ml hd td j hs [] := ⟨s2 _ _ hM.lst, fun m hm => (hM.mach m hm).same fun _ _ z => s2 _ _ z, (hJ.job j mj).same fun _ _ z => s2 _ _ z, fun p hp => (hJ.job _ (mh p hp)).same fun _ _ z => s2 _ _ z,
        by rw [upd_ne nht]; exact h1, upd_same, nht, Nat.le_trans hM.few (by decide), g1, List.nodup_nil, fun n hn => by cases hn⟩
      have keep : ∀ H3, Kept2 (upd H1 td (.dK [])) H3 hd td → Same H H3 := fun H3 k b o e => k b o (s2 b o e) (ne_of_none e nd) (ne_of_none e (s1.free ntd))
      refine ⟨am, aj, ms, ml, hd, td, j, hs, [], rfl, lk, ?_, fun H3 hs3 tr3 k3 h3 t3 g3 p3 e3 => ⟨_, rfl, ?_⟩, fun H3 tr3 k3 h3 t3 S3 => ⟨_, rfl, ?_⟩⟩
      · have := hM.few
        rw [List.length_nil]
        omega
      · refine iteF ?_
        refine ⟨_, hs3, rfl, keep H3 k3, h3, g3, ?_⟩
        have et : js.take (i + 1) = js.take i ++ [j] := by rw [List.take_add_one, hj]; rfl
        rw [et]
        exact (p3.trans (p1.cons j)).trans (List.perm_append_comm (l₁ := [j]))
      · refine iteT ?_
        refine q false H3 ⟨fun z => (by cases z), fun z => absurd z (no_way g1 S3 (rest := js.drop (i + 1)) ?_)⟩ (keep H3 k3)
        have e := split_at hj
        have e2 : js.Perm (j :: js.take i ++ js.drop (i + 1)) := by
          have e3 : js.Perm (js.take i ++ j :: js.drop (i + 1)) := by rw [← e]
          exact e3.trans List.perm_middle
        exact e2.trans ((p1.symm.cons j).append_right _)
    · rintro σ H1 ⟨v3, hs, rfl, s1, h1, g1, p1⟩
      rw [List.length_map, List.take_length] at p1
      exact q true H1 ⟨fun _ => g1.srv.perm p1, fun _ => rfl⟩ s1
end
end Lr
end
section
set_option Elab.async false
set_option linter.all false
set_option maxRecDepth 100000
set_option maxHeartbeats 4000000
namespace Lr
open PySem L2 Mt
open Rp04 (Machine Job)
theorem small100 {n : Nat} (h : n ≤ 200) : n ≤ sizeLine := Nat.le_trans h (by decide)
def spChoose (K : PySem.W.Frag) : Sp := fun vs H Q _ => ∃ (am aj : Nat → Addr) (ml ql : Addr) (ms : List Machine) (qs : List Job), vs = [.ref ql, .ref ml] ∧ MsAt K H am ml ms ∧ JsAt K H aj ql qs ∧
  ∀ (p : Addr) (H' : Hp), Same H H' → H p = none → H' p = some (.lst ((Rp04.choose ms [] qs).map (rj aj))) → Q (.ref p) H'
def spWithout (K : PySem.W.Frag) : Sp := fun vs H Q _ => ∃ (am : Nat → Addr) (ml : Addr) (ms : List Machine) (m : Machine), vs = [.ref ml, rm am m] ∧ MsAt K H am ml ms ∧ MachA K H (am m.id) m ∧
  ∀ (p : Addr) (H' : Hp), Same H H' → H p = none → H' p = some (.lst ((less ms m).map (rm am))) → Q (.ref p) H'
def mv (am : Nat → Addr) : Option Machine → V
  | some m => rm am m
  | none => .non
def spLowest (K : PySem.W.Frag) : Sp := fun vs H Q _ => ∃ (am aj : Nat → Addr) (ml jl : Addr) (ms : List Machine) (j : Job) (js : List Job), vs = [rj aj j, .ref jl, .ref ml] ∧ MsAt K H am ml ms ∧ JsAt K H aj jl js ∧ JobA K H (aj j.id) j ∧
  ∀ H' : Hp, Same H H' → Q (mv am (low j js ms)) H'
def spPlace (K : PySem.W.Frag) : Sp := fun vs H Q _ => ∃ (am aj : Nat → Addr) (ml jl : Addr) (ms : List Machine) (js : List Job), vs = [.ref jl, .ref ml] ∧ MsAt K H am ml ms ∧ JsAt K H aj jl js ∧ Srv js ms ∧
  ∀ (p : Addr) (H' : Hp) (ps : List Machine), Same H H' → H p = none → Rp04.place js ms = some (js.zip ps) → ps.length = js.length → (∀ m ∈ ps, m ∈ ms) → H' p = some (.lst (ps.map (rm am))) → Q (.ref p) H'
section
variable {P : Program} {w : World} {K : PySem.W.Frag} {mg : Str → Option Value} {base : Heap}
theorem sc_choose : FnScope ["queue", "machines", "chosen", "job"] ["queue", "machines"] (defScope s_choose) := ⟨rfl, rfl, rfl, by decide +kernel, rfl, by decide +kernel, by decide +kernel⟩
theorem ok_choose (T : Ctx K mg) : Keeps P w K mg base 11 (He.ga K "choose") ["queue", "machines"] (spChoose K) := by
  obtain ⟨fd, F⟩ := T.f_choose
  obtain ⟨fdc, Fc, kc, bc⟩ := ok_can (P := P) (w := w) (base := base) T
  refine ⟨fd, F.ok sc_choose (fun vs H Q E h => ?_) (fun cdv A outer s H vs Q E hr h => ?_), F.kp, b_choose F⟩
  · obtain ⟨am, aj, ml, jl, ms, js, rfl, _⟩ := h
    rfl
  · obtain ⟨am, aj, ml, ql, ms, qs, rfl, hM, hJ, q⟩ := h
    refine ⟨_, PSs.nox (pss_cons (ps_set (i := 2) sc_choose.nd rfl (Or.inl rfl) (pe_lst pa_nil))
      (pss_cons (ps_for PassesOwn.never rfl (pi_list (pv 0)) (pg_name (i := 3) sc_choose.nd rfl (Or.inl rfl))
        (pss_one (ps_if (pt_val (pe_call Fc hr rfl T.g_can_be_served_together kc bc .nil pass0 (pa_cons (pe_op op_cat (pv 2) (pe_lst (pa_cons (pv 3) pa_nil))) (pa_cons (pv 1) pa_nil))))
          (pss_one (ps_expr (pe_bm PySem.F.plainAttrs_list PySem.F.slot_list_append PySem.F.type_list_append mt_append (pv 2) (pa_cons (pv 3) pa_nil)))) pss_nil)))
      (pss_one (ps_ret (pv 2))))), ?_⟩
    refine ⟨Nat.zero_le _, fun c nc => ?_⟩
    have s0 := same_new nc (.lst [])
    refine ⟨_, rfl, ql, rfl, ⟨_, SqL.of (s0 _ _ hJ.lst)⟩, for_list (K := K) (a := ql) (xs := qs.map (rj aj))
      (fun i σ H' => ∃ (v3 : Option V) (l : List Job), σ = [some (.ref ql), some (.ref ml), some (.ref c), v3] ∧ Same H H' ∧ H' c = some (.lst (l.map (rj aj))) ∧ l.length ≤ i ∧ (∀ x ∈ l, x ∈ qs) ∧ Rp04.choose ms [] qs = Rp04.choose ms l (qs.drop i))
      ⟨none, [], rfl, s0, upd_same, Nat.le_refl _, fun x hx => (by cases hx), rfl⟩ (fun i σ H' _ ⟨_, _, _, s1, _⟩ => SqL.of (s1 _ _ hJ.lst)) ?_ ?_⟩
    · rintro i y σ H1 hi ⟨v3, l, rfl, s1, h1, hl, hm, he⟩
      obtain ⟨j, hj, rfl⟩ := cut_map hi
      have mj : j ∈ qs := List.mem_of_getElem? hj
      have hil : i < qs.length := (List.getElem?_eq_some_iff.mp hj).1
      have ed : qs.drop i = j :: qs.drop (i + 1) := by
        rw [List.drop_eq_getElem_cons hil, (List.getElem?_eq_some_iff.mp hj).2]
      have l100 := hJ.few
      rw [ed] at he
      -- chosen + [job]
      refine ⟨_, rfl, _, rfl, (by show 1 ≤ sizeLine; decide), fun a na => ?_⟩
      have s2 := same_new na (.lst [rj aj j])
      refine ⟨c, a, _, _, rfl, rfl, s2 _ _ h1, upd_same, small100 (by rw [List.length_map, List.length_singleton]; omega), fun t nt => ?_⟩
      have s3 := (s1.trans s2).trans (same_new nt (.lst (l.map (rj aj) ++ [rj aj j])))
      have s4 : Same H1 _ := s2.trans (same_new nt (.lst (l.map (rj aj) ++ [rj aj j])))
      refine ⟨_, rfl, am, aj, ml, t, ms, l ++ [j], rfl, hM.same s3, ⟨?_, fun x hx => ?_, ?_⟩, fun b H5 hb s5 => ⟨_, rfl, ?_⟩⟩
      · rw [upd_same, List.map_append]
        rfl
      · have mx : x ∈ qs := by
          rcases List.mem_append.mp hx with z | z
          · exact hm x z
          · rw [List.mem_singleton.mp z]; exact mj
        exact (hJ.job x mx).same fun _ _ z => s3 _ _ z
      · rw [List.length_append, List.length_singleton]
        omega
      · have h5 : H5 c = some (.lst (l.map (rj aj))) := s5 _ _ (s4 _ _ h1)
        cases b with
        | false =>
          refine iteF ?_
          exact ⟨_, l, rfl, s3.trans s5, h5, Nat.le_succ_of_le hl, hm, he.trans (choose_skip fun z => by have := hb.mpr z; cases this)⟩
        | true =>
          refine iteT ?_
          refine ⟨_, rfl, .inl ⟨rfl, _, SqL.of h5⟩, _, rfl, c, _, _, rfl, rfl, h5, small1000 (by rw [List.length_map]; omega), ?_⟩
          refine ⟨_, l ++ [j], rfl, fun b o e => by rw [upd_ne (ne_of_none e nc)]; exact s5 _ _ (s3 _ _ e), ?_, ?_, fun x hx => ?_, he.trans (choose_go (hb.mp rfl))⟩
          · rw [upd_same, List.map_append]
            rfl
          · rw [List.length_append, List.length_singleton]
            omega
          · rcases List.mem_append.mp hx with z | z
            · exact hm x z
            · rw [List.mem_singleton.mp z]; exact mj
    · rintro σ H1 ⟨v3, l, rfl, s1, h1, hl, hm, he⟩
      rw [List.length_map, List.drop_length] at he
      refine ⟨_, rfl, ?_⟩
      exact q c H1 s1 nc (by rw [he]; exact h1)
theorem sc_without : FnScope ["machines", "taken", "machine"] ["machines", "taken"] (defScope s_without) := ⟨rfl, rfl, rfl, by decide +kernel, rfl, by decide +kernel, by decide +kernel⟩
theorem ok_without (T : Ctx K mg) : Keeps P w K mg base 1 (He.ga K "without") ["machines", "taken"] (spWithout K) := by
  obtain ⟨fd, F⟩ := T.f_without
  refine ⟨fd, F.ok sc_without (fun vs H Q E h => ?_) (fun cdv A outer s H vs Q E hr h => ?_), F.kp, b_without F⟩
  · obtain ⟨am, ml, ms, m, rfl, _⟩ := h
    rfl
  · obtain ⟨am, ml, ms, m, rfl, hM, hm, q⟩ := h
    refine ⟨_, PSs.nox (pss_one (ps_ret (pe_lc (own := [("machine", 2)]) (g := gName 2) (tt := tTest (tOp rNe (tFld K (tVar 2) "number") (tFld K (tVar 1) "number"))) rfl sc_without.nd (pi_list (pv 0)) (blkOk_by (N := ["machines", "taken", "machine"]) (sc := defScope s_without) (by decide +kernel))
      (fun _ _ _ _ _ => pg_name (i := 2) sc_without.nd rfl (Or.inl rfl)) (fun _ _ _ _ _ => pts_one (pt_cmpR op_ne (pe_fld (pv 2) rfl) (pe_fld (pv 1) rfl) (nomark _))) (fun _ _ _ _ _ => pv 2)))), ?_⟩
    refine ⟨_, rfl, ml, rfl, ⟨_, SqL.of hM.lst⟩, fun D nD => ?_⟩
    have s0 := same_new nD (.lst [])
    obtain ⟨dt, ft, t1, t2, t3⟩ := id hm
    refine lc_list (xs := ms.map (rm am)) (fun i H' => Same H H' ∧ H' D = some (.lst (((ms.take i).filter fun n => n.id != m.id).map (rm am)))) ⟨s0, upd_same⟩ (fun i H' _ ⟨s1, _⟩ => SqL.of (s1 _ _ hM.lst)) ?_ ?_
    · rintro i y H1 hi ⟨s1, h1⟩
      obtain ⟨n, hn, rfl⟩ := cut_map hi
      obtain ⟨dn, fn, n1, n2, n3⟩ := id (hM.mach n (List.mem_of_getElem? hn))
      have et : ms.take (i + 1) = ms.take i ++ [n] := by rw [List.take_add_one, hn]; rfl
      have hlen : (ms.take i).length ≤ 7 := by
        have := hM.few
        rw [List.length_take]
        omega
      refine ⟨rfl, _, rfl, am n.id, CM K, dn, _, _, rfl, s1 _ _ n1, T.c_Machine, T.n_Machine_number, n2, _, rfl, am m.id, CM K, dt, _, _, rfl, s1 _ _ t1, T.c_Machine, T.n_Machine_number, t2, rfl, _, rfl, ?_⟩
      by_cases e : n.id = m.id
      · have c : (!decide (V.int (n.id : Int) = V.int (m.id : Int))) = false := by rw [e]; simp
        rw [c]
        refine iteF ⟨s1, ?_⟩
        rw [et, List.filter_append, List.filter_cons_of_neg (by simp [e]), List.filter_nil, List.append_nil]
        exact h1
      · have c : (!decide (V.int (n.id : Int) = V.int (m.id : Int))) = true := by
          rw [decide_eq_false fun z => e (by have := V.int.inj z; omega)]
          rfl
        rw [c]
        refine iteT ⟨_, rfl, _, h1, ?_, fun b o z => ?_, ?_⟩
        · refine small1000 ?_
          rw [List.length_map]
          exact Nat.le_trans (List.length_filter_le _ _) (Nat.le_trans hlen (by decide))
        · rw [upd_ne (ne_of_none z nD)]
          exact s1 b o z
        · rw [upd_same, et, List.filter_append, List.filter_cons_of_pos (by simp [e]), List.filter_nil, List.map_append]
          rfl
    · rintro H1 ⟨s1, h1⟩
      rw [List.length_map, List.take_length] at h1
      exact q D H1 s1 nD h1
end
end Lr
end
section
set_option Elab.async false
set_option linter.all false
set_option maxRecDepth 100000
set_option maxHeartbeats 4000000
namespace Lr
open PySem L2 Mt
open Rp04 (Machine Job)
theorem find_split {α : Type} (p : α → Bool) : ∀ (l : List α) (i : Nat) (x : α), l[i]? = some x → (∀ y ∈ l.take i, p y = false) → p x = true → l.find? p = some x
  | [], _, _, h, _, _ => by simp at h
  | a :: l, 0, x, h, _, hx => by
    have e : a = x := by simpa using h
    subst e
    rw [List.find?_cons, hx]
  | a :: l, i + 1, x, h, hn, hx => by
    rw [List.find?_cons, hn a (by simp)]
    exact find_split p l i x (by simpa using h) (fun y hy => hn y (by simp [hy])) hx
theorem less_few {ms : List Machine} {m : Machine} : (less ms m).length ≤ ms.length := List.length_filter_le _ _
theorem cut_from (xs : List V) (k : Nat) (h : k ≤ xs.length) : cutV xs (some (k : Int)) none = xs.drop k := by
  unfold cutV
  have e1 : HT.sIx xs.length 0 (some (k : Int)) = k := by
    rw [HT.sIx_nat]
    omega
  have e2 : HT.sIx xs.length xs.length none = xs.length := rfl
  rw [e1, e2, List.take_of_length_le (by rw [List.length_drop]; omega)]
section
variable {P : Program} {w : World} {K : PySem.W.Frag} {mg : Str → Option Value} {base : Heap}
theorem sc_lowest : FnScope ["job", "later_jobs", "machines", "machine"] ["job", "later_jobs", "machines"] (defScope s_lowest_machine) := ⟨rfl, rfl, rfl, by decide +kernel, rfl, by decide +kernel, by decide +kernel⟩
theorem ok_lowest (T : Ctx K mg) : Keeps P w K mg base 11 (He.ga K "lowest_machine") ["job", "later_jobs", "machines"] (spLowest K) := by
  obtain ⟨fd, F⟩ := T.f_lowest_machine
  obtain ⟨fds, Fs, ks, bs⟩ := ok_suits (P := P) (w := w) (base := base) T
  obtain ⟨fdc, Fc, kc, bc⟩ := ok_can (P := P) (w := w) (base := base) T
  obtain ⟨fdw, Fw, kw, bw⟩ := ok_without (P := P) (w := w) (base := base) T
  refine ⟨fd, F.ok sc_lowest (fun vs H Q E h => ?_) (fun cdv A outer s H vs Q E hr h => ?_), F.kp, b_lowest_machine F⟩
  · obtain ⟨am, aj, ml, jl, ms, j, js, rfl, _⟩ := h
    rfl
  · obtain ⟨am, aj, ml, jl, ms, j, js, rfl, hM, hJ, hj, q⟩ := h
    have hr1 : Room 1 _ := hr.mono (by decide)
    refine ⟨_, PSs.nox (pss_cons (ps_for PassesOwn.never rfl (pi_list (pv 2)) (pg_name (i := 3) sc_lowest.nd rfl (Or.inl rfl))
        (pss_one (ps_if (PW.pt (pw_and (pt_val (pe_call Fs hr1 rfl T.g_suits ks bs .nil pass0 (pa_cons (pv 3) (pa_cons (pv 0) pa_nil)))) (pw_and1 (pt_val (pe_call Fc hr rfl T.g_can_be_served_together kc bc .nil pass0
          (pa_cons (pv 1) (pa_cons (pe_call Fw hr1 rfl T.g_without kw bw .nil pass0 (pa_cons (pv 2) (pa_cons (pv 3) pa_nil))) pa_nil))))))) (pss_one (ps_ret (pv 3))) pss_nil)))
      (pss_one (ps_ret pe_non))), ?_⟩
    refine ⟨_, rfl, ml, rfl, ⟨_, SqL.of hM.lst⟩, for_list (K := K) (a := ml) (xs := ms.map (rm am))
      (fun i σ H' => ∃ v3 : Option V, σ = [some (rj aj j), some (.ref jl), some (.ref ml), v3] ∧ Same H H' ∧ ∀ m ∈ ms.take i, (Rp04.suits m j && (Rp04.place js (less ms m)).isSome) = false)
      ⟨none, rfl, Same.refl H, fun m hm => (by cases hm)⟩ (fun i σ H' _ ⟨_, _, s1, _⟩ => SqL.of (s1 _ _ hM.lst)) ?_ ?_⟩
    · rintro i y σ H1 hi ⟨v3, rfl, s1, hn⟩
      obtain ⟨m, hm, rfl⟩ := cut_map hi
      have mm : m ∈ ms := List.mem_of_getElem? hm
      have more_ : (Rp04.suits m j && (Rp04.place js (less ms m)).isSome) = false → ∀ x ∈ ms.take (i + 1), (Rp04.suits x j && (Rp04.place js (less ms x)).isSome) = false := fun z x hx => by
        rcases mem_take_succ hm hx with y | y
        · exact hn x y
        · rw [y]; exact z
      refine ⟨_, rfl, _, rfl, am m.id, aj j.id, m, j, rfl, (hM.mach m mm).same fun _ _ z => s1 _ _ z, hj.same fun _ _ z => s1 _ _ z, _, rfl, ?_⟩
      cases es : Rp04.suits m j with
      | false =>
        refine iteF (iteF ?_)
        exact ⟨_, rfl, s1, more_ (by rw [es]; rfl)⟩
      | true =>
        refine iteT ?_
        refine ⟨_, rfl, _, rfl, _, rfl, am, ml, ms, m, rfl, hM.same s1, (hM.mach m mm).same fun _ _ z => s1 _ _ z, fun p H2 s2 np h2 => ?_⟩
        refine ⟨am, aj, p, jl, less ms m, js, rfl, ⟨h2, fun x hx => (hM.mach x (List.mem_filter.mp hx).1).same fun _ _ z => s2 _ _ (s1 _ _ z), Nat.le_trans less_few hM.few⟩, hJ.same (s1.trans s2), fun b H3 hb s3 => ⟨_, rfl, ?_⟩⟩
        have eb : (Rp04.place js (less ms m)).isSome = b := by
          have z := (place_some js (less ms m)).trans hb.symm
          cases b <;> cases y : (Rp04.place js (less ms m)).isSome
          · rfl
          · rw [y] at z; exact absurd (z.mp rfl) (by decide)
          · rw [y] at z; exact absurd (z.mpr rfl) (by decide)
          · rfl
        cases b with
        | false =>
          refine iteF ?_
          exact ⟨_, rfl, (s1.trans s2).trans s3, more_ (by rw [eb, Bool.and_false])⟩
        | true =>
          refine iteT ⟨_, rfl, ?_⟩
          have el : low j js ms = some m := find_split _ ms i m hm hn (by rw [es, eb]; rfl)
          have z := q H3 ((s1.trans s2).trans s3)
          rw [el] at z
          exact z
    · rintro σ H1 ⟨v3, rfl, s1, hn⟩
      rw [List.length_map, List.take_length] at hn
      have el : low j js ms = none := by
        unfold low
        rw [List.find?_eq_none]
        intro x hx z
        rw [hn x hx] at z
        cases z
      have z := q H1 s1
      rw [el] at z
      exact z
theorem sc_place : FnScope ["chosen", "machines", "left", "placed", "k", "machine"] ["chosen", "machines"] (defScope s_place) := ⟨rfl, rfl, rfl, by decide +kernel, rfl, by decide +kernel, by decide +kernel⟩
theorem ok_place (T : Ctx K mg) : Keeps P w K mg base 12 (He.ga K "place") ["chosen", "machines"] (spPlace K) := by
  obtain ⟨fd, F⟩ := T.f_place
  obtain ⟨fdl, Fl, kl, bl⟩ := ok_lowest (P := P) (w := w) (base := base) T
  obtain ⟨fdw, Fw, kw, bw⟩ := ok_without (P := P) (w := w) (base := base) T
  refine ⟨fd, F.ok sc_place (fun vs H Q E h => ?_) (fun cdv A outer s H vs Q E hr h => ?_), F.kp, b_place F⟩
  · obtain ⟨am, aj, ml, jl, ms, js, rfl, _⟩ := h
    rfl
  · obtain ⟨am, aj, ml, jl, ms, js, rfl, hM, hJ, hS, q⟩ := h
    have hr1 : Room 1 _ := hr.mono (by decide)
    have nd := sc_place.nd
    refine ⟨_, PSs.nox (pss_cons (ps_set (i := 2) nd rfl (Or.inl rfl) (pv 1)) (pss_cons (ps_set (i := 3) nd rfl (Or.inl rfl) (pe_lst pa_nil))
      (pss_cons (ps_for PassesOwn.never rfl (pi_range1 rfl T.z_range (pa_cons (pe_callB call_len_seq (by rfl) T.z_len PySem.boot_len (pa_cons (pv 0) pa_nil)) pa_nil)) (pg_name (i := 4) nd rfl (Or.inl rfl))
        (pss_cons (ps_set (i := 5) nd rfl (Or.inl rfl) (pe_call Fl hr rfl T.g_lowest_machine kl bl .nil pass0 (pa_cons (pe_ix ix_list (pv 0) (pv 4) (fun _ _ => rfl)) (pa_cons (pe_slice sl_list (pv 0) (po_some (pe_op op_add (pv 4) pe_int)) po_none) (pa_cons (pv 2) pa_nil)))))
        (pss_cons (ps_expr (pe_bm PySem.F.plainAttrs_list PySem.F.slot_list_append PySem.F.type_list_append mt_append (pv 3) (pa_cons (pv 5) pa_nil)))
        (pss_one (ps_set (i := 2) nd rfl (Or.inl rfl) (pe_call Fw hr1 rfl T.g_without kw bw .nil pass0 (pa_cons (pv 2) (pa_cons (pv 5) pa_nil))))))))
      (pss_one (ps_ret (pv 3)))))), ?_⟩
    refine ⟨_, rfl, Nat.zero_le _, fun c nc => ?_⟩
    have s0 := same_new nc (.lst [])
    refine ⟨_, rfl, jl, _, rfl, .inl (SqL.of (s0 _ _ hJ.lst)), ?_⟩
    have hlen : (((js.map (rj aj)).length : Nat) : Int) = (js.length : Int) := by rw [List.length_map]
    have l100 := hJ.few
    refine ⟨_, rfl, (by rw [hlen]; omega), (by rw [hlen]; omega), for_range (lo := 0)
      (fun i σ H' => ∃ (v4 v5 : Option V) (lf : Addr) (ps left : List Machine), σ = [some (.ref jl), some (.ref ml), some (.ref lf), some (.ref c), v4, v5] ∧ Same H H' ∧ lf ≠ c ∧ H' c = some (.lst (ps.map (rm am))) ∧ MsAt K H' am lf left ∧ Placing js ms i ps left)
      ⟨none, none, ml, [], ms, rfl, s0, ne_of_none hM.lst nc, upd_same, hM.same s0, Placing.start hS⟩ ?_ ?_⟩
    · rintro i σ H1 hi ⟨v4, v5, lf, ps, left, rfl, s1, nlc, h1, hL, hP⟩
      rw [hlen, Int.toNat_natCast] at hi
      obtain ⟨j, hj⟩ : ∃ j, js[i]? = some j := ⟨_, List.getElem?_eq_getElem hi⟩
      have mj : j ∈ js := List.mem_of_getElem? hj
      refine ⟨_, rfl, _, rfl, jl, _, _, _, rfl, rfl, SqL.of (s1 _ _ hJ.lst), at_of (j := i) (v := rj aj j) (by omega) (by rw [List.getElem?_map, hj]; rfl), ?_⟩
      refine ⟨_, rfl, _, rfl, _, _, rfl, rfl, _, rfl, jl, _, rfl, SqL.of (s1 _ _ hJ.lst), fun a na => ?_⟩
      have ec : cutV (js.map (rj aj)) (some (0 + (i : Int) + 1)) none = (js.drop (i + 1)).map (rj aj) := by
        have e1 : (0 + (i : Int) + 1) = ((i + 1 : Nat) : Int) := by omega
        rw [e1, cut_from _ _ (by rw [List.length_map]; omega), List.map_drop]
      rw [ec]
      have s2 := same_new na (.lst ((js.drop (i + 1)).map (rj aj)))
      refine ⟨_, rfl, am, aj, lf, a, left, j, js.drop (i + 1), rfl, hL.same s2, ⟨upd_same, fun x hx => (hJ.job x (List.mem_of_mem_drop hx)).same fun _ _ z => s2 _ _ (s1 _ _ z), by rw [List.length_drop]; omega⟩, (hJ.job j mj).same fun _ _ z => s2 _ _ (s1 _ _ z), fun H3 s3 => ?_⟩
      have ed : js.drop i = j :: js.drop (i + 1) := by
        rw [List.drop_eq_getElem_cons hi, (List.getElem?_eq_some_iff.mp hj).2]
      have hsv := hP.srv
      rw [ed] at hsv
      obtain ⟨m, em⟩ := low_some hsv
      obtain ⟨m1, m2, m3⟩ := low_spec em
      rw [em]
      have s13 := s2.trans s3
      have h3 := s13 _ _ h1
      have hplen := hP.len
      -- placed.append(machine)
      refine ⟨_, rfl, .inl ⟨rfl, _, SqL.of h3⟩, _, rfl, c, _, _, rfl, rfl, h3, small1000 (by rw [List.length_map]; omega), ?_⟩
      have L3 := hL.same s13
      have kp : ∀ b o, H3 b = some o → b ≠ c → (upd H3 c (.lst (ps.map (rm am) ++ [mv am (some m)]))) b = some o := fun b o e hb => by rw [upd_ne hb]; exact e
      have L4 : MsAt K (upd H3 c (.lst (ps.map (rm am) ++ [mv am (some m)]))) am lf left := ⟨kp _ _ L3.lst nlc, fun x hx => (L3.mach x hx).same fun _ _ z => kp _ _ z (ne_of z h3 (by intro y; cases y)), L3.few⟩
      -- left = without(left, machine)
      refine ⟨_, rfl, _, rfl, am, lf, left, m, rfl, L4, L4.mach m m1, fun p H5 s5 np h5 => ?_⟩
      have npc : p ≠ c := fun z => by rw [z, upd_same] at np; cases np
      refine ⟨_, _, p, ps ++ [m], less left m, rfl, fun b o e => s5 _ _ (kp _ _ (s13 _ _ (s1 _ _ e)) (ne_of_none e nc)), npc, ?_, ⟨h5, fun x hx => (L4.mach x (List.mem_filter.mp hx).1).same fun _ _ z => s5 _ _ z, Nat.le_trans less_few L4.few⟩, hP.turn hj em⟩
      rw [s5 _ _ upd_same, List.map_append]
      rfl
    · rintro σ H1 ⟨v4, v5, lf, ps, left, rfl, s1, nlc, h1, hL, hP⟩
      rw [hlen, Int.toNat_natCast] at hP
      refine ⟨_, rfl, ?_⟩
      exact q c H1 ps s1 nc hP.done hP.len hP.psub h1
end
end Lr
end
section
set_option Elab.async false
set_option linter.all false
set_option maxRecDepth 100000
set_option maxHeartbeats 4000000
namespace Lr
open PySem L2 Mt LamX
open Rp04 (Machine Job House)
abbrev CH (K : PySem.W.Frag) : Addr := He.ga K "House"
def onM : Option (Nat × Nat) → V
  | some x => .int (x.1 : Int)
  | none => .non
def onL : Option (Nat × Nat) → V
  | some x => .int (x.2 : Int)
  | none => .non
/-- the attributes of a job, of a machine, of the house -/
def jf (j : Job) : List (Str × V) := [("number", .int (j.id : Int)), ("labels", .int (j.labels : Int)), ("urgency", .int (j.urgency : Int)), ("tries", .int (j.tries : Int)), ("came", .int (j.came : Int)), ("times_lost", .int (j.lost : Int)), ("runs_on", onM j.on), ("lease", onL j.on)]
def mf (m : Machine) : List (Str × V) := [("number", .int (m.id : Int)), ("labels", .int (m.labels : Int)), ("heard", .int (m.heard : Int)), ("leaving", .bl m.leaving)]
def hf (h : House) (dm dj dn : Addr) : List (Str × V) := [("lease_minutes", .int (h.lease : Int)), ("age", .int (h.age : Int)), ("now", .int (h.now : Int)), ("machines", .ref dm), ("jobs", .ref dj), ("over", .ref dn), ("next_lease", .int (h.leases : Int))]
def JobAt (K : PySem.W.Frag) (H : Hp) (a : Addr) (j : Job) : Prop := ∃ dx, H a = some (.ins (CJ K) dx (jf j))
def MachAt (K : PySem.W.Frag) (H : Hp) (a : Addr) (m : Machine) : Prop := ∃ dx, H a = some (.ins (CM K) dx (mf m))
def lamQ : Str := "House.queue.<locals>.<lambda>"
def tabQ (K : PySem.W.Frag) : List (Addr × Str) := [((He.cT K ("House", some "queue")).2, lamQ)]
/-- how each came to be over, as the dict holds it -/
def ovK (l : List (Nat × Nat)) : List (Key × V) := l.map fun x => (Sum.inl (x.1 : Int), V.int (x.2 : Int))
structure HouseAt (K : PySem.W.Frag) (H : Hp) (p dm dj dn : Addr) (am aj : Nat → Addr) (h : House) : Prop where
  ob : ∃ dx, H p = some (.ins (CH K) dx (hf h dm dj dn))
  dict : ∃ ks : List Machine, ks.Perm h.machines ∧ H dm = some (.dK (ks.map fun m => (Sum.inl (m.id : Int), rm am m)))
  jobs : H dj = some (.lst (h.jobs.map (rj aj)))
  over : H dn = some (.dK (ovK h.ended))
  mach : ∀ m ∈ h.machines, MachAt K H (am m.id) m
  job : ∀ j ∈ h.jobs, JobAt K H (aj j.id) j
  ami : ∀ m ∈ h.machines, ∀ n ∈ h.machines, am m.id = am n.id → m.id = n.id
  aji : ∀ i ∈ h.jobs, ∀ j ∈ h.jobs, aj i.id = aj j.id → i.id = j.id
  tabs : Tabs (tabQ K) H
  dnm : dn ≠ dm
theorem HouseAt.ext {K : PySem.W.Frag} {H H' : Hp} {p dm dj dn : Addr} {am aj : Nat → Addr} {h : House} (A : HouseAt K H p dm dj dn am aj h) (e : ExtN H H') (t : Tabs (tabQ K) H') : HouseAt K H' p dm dj dn am aj h :=
  ⟨let ⟨dx, z⟩ := A.ob; ⟨dx, e _ _ z nofun⟩, let ⟨ks, z1, z2⟩ := A.dict; ⟨ks, z1, e _ _ z2 nofun⟩, e _ _ A.jobs nofun, e _ _ A.over nofun, fun m hm => let ⟨dx, z⟩ := A.mach m hm; ⟨dx, e _ _ z nofun⟩, fun j hj => let ⟨dx, z⟩ := A.job j hj; ⟨dx, e _ _ z nofun⟩, A.ami, A.aji, t, A.dnm⟩
theorem HouseAt.same {K : PySem.W.Frag} {H H' : Hp} {p dm dj dn : Addr} {am aj : Nat → Addr} {h : House} (A : HouseAt K H p dm dj dn am aj h) (s : Same H H') : HouseAt K H' p dm dj dn am aj h := A.ext (fun b o e _ => s b o e) (A.tabs.ext s)
def spUrg (K : PySem.W.Frag) : Sp := fun vs H Q _ => ∃ (p a dx dm dj dn : Addr) (h : House) (j : Job), vs = [.ref p, .ref a] ∧ H p = some (.ins (CH K) dx (hf h dm dj dn)) ∧ JobAt K H a j ∧ j.came ≤ h.now ∧ (1 ≤ h.age ∧ h.age ≤ 1000000) ∧ Q (.int (h.urgent j : Nat)) H
section
variable {P : Program} {w : World} {K : PySem.W.Frag} {mg : Str → Option Value} {base : Heap}
theorem sc_urg : FnScope ["self", "job"] ["self", "job"] (defScope s_House_urgency_now) := ⟨rfl, rfl, rfl, by decide +kernel, rfl, by decide +kernel, by decide +kernel⟩
theorem ok_urg (T : Ctx K mg) : Keeps P w K mg base 1 (He.ma K (He.ga K "House") "urgency_now") ["self", "job"] (spUrg K) := by
  obtain ⟨fd, F⟩ := T.f_House_urgency_now
  refine ⟨fd, F.ok sc_urg (fun vs H Q E h => ?_) (fun cdv A outer s H vs Q E hr h => ?_), F.kp, b_House_urgency_now F⟩
  · obtain ⟨p, a, dx, dm, dj, dn, h, j, rfl, _⟩ := h
    rfl
  · obtain ⟨p, a, dx, dm, dj, dn, h, j, rfl, h1, ⟨da, h2⟩, hc, ha, q⟩ := h
    refine ⟨_, PSs.nox (pss_one (ps_ret (pe_op op_add (pe_fld (pv 1) rfl) (pe_op op_fdivN (pe_op op_sub (pe_fld (pv 0) rfl) (pe_fld (pv 1) rfl)) (pe_fld (pv 0) rfl))))), ?_⟩
    refine ⟨_, rfl, a, CJ K, da, _, _, rfl, h2, T.c_Job, T.n_Job_urgency, rfl, _, rfl, p, CH K, dx, _, _, rfl, h1, T.c_House, T.n_House_now, rfl, _, rfl, a, CJ K, da, _, _, rfl, h2, T.c_Job, T.n_Job_came, rfl, _, _, rfl, rfl,
      _, rfl, p, CH K, dx, _, _, rfl, h1, T.c_House, T.n_House_age, rfl, _, _, rfl, rfl, ⟨by omega, by omega⟩, _, _, rfl, rfl, ?_⟩
    have e : (j.urgency : Int) + ((h.now : Int) - (j.came : Int)).fdiv (h.age : Int) = ((h.urgent j : Nat) : Int) := by
      rw [Int.fdiv_eq_ediv_of_nonneg _ (by omega)]
      unfold House.urgent
      have e1 : (h.now : Int) - (j.came : Int) = ((h.now - j.came : Nat) : Int) := by omega
      rw [e1]
      omega
    show Q (V.int ((j.urgency : Int) + ((h.now : Int) - (j.came : Int)).fdiv (h.age : Int))) H
    rw [e]
    exact q
def spRuns (K : PySem.W.Frag) : Sp := fun vs H Q _ => ∃ (a : Addr) (j : Job), vs = [.ref a] ∧ JobAt K H a j ∧ Q (.bl j.on.isSome) H
theorem sc_runs : FnScope ["self"] ["self"] (defScope s_Job_runs) := ⟨rfl, rfl, rfl, by decide +kernel, rfl, by decide +kernel, by decide +kernel⟩
theorem onL_non (o : Option (Nat × Nat)) : (!decide (onL o = V.non)) = o.isSome := by
  cases o <;> rfl
theorem ok_runs (T : Ctx K mg) : Keeps P w K mg base 1 (He.ma K (He.ga K "Job") "runs") ["self"] (spRuns K) := by
  obtain ⟨fd, F⟩ := T.f_Job_runs
  refine ⟨fd, F.ok sc_runs (fun vs H Q E h => ?_) (fun cdv A outer s H vs Q E hr h => ?_), F.kp, b_Job_runs F⟩
  · obtain ⟨a, j, rfl, _⟩ := h
    rfl
  · obtain ⟨a, j, rfl, ⟨da, h2⟩, q⟩ := h
    refine ⟨_, PSs.nox (pss_one (ps_ret (pe_cmpR op_notN (pe_fld (pv 0) rfl) pe_non (nomark _)))), ?_⟩
    refine ⟨_, rfl, a, CJ K, da, _, _, rfl, h2, T.c_Job, T.n_Job_lease, rfl, rfl, ?_⟩
    rw [onL_non]
    exact q
/-! ### queue -/
/-- nothing but tables may have stood there -/
def NewN (H : Hp) (l : Addr) : Prop := ∀ b o, H b = some o → (∀ ps, o ≠ .tbl ps) → b ≠ l
theorem ExtN.of_same {H H' : Hp} (s : Same H H') : ExtN H H' := fun b o e _ => s b o e
def keyF (aj : Nat → Addr) (h : House) (wt : List Job) (a : Addr) : Int := match wt.find? fun j => decide (aj j.id = a) with
  | some j => -((h.urgent j : Nat) : Int)
  | none => 0
theorem keyF_at {aj : Nat → Addr} {h : House} {wt : List Job} (inj : ∀ i ∈ wt, ∀ j ∈ wt, aj i.id = aj j.id → i = j) {j : Job} (hj : j ∈ wt) : keyF aj h wt (aj j.id) = -((h.urgent j : Nat) : Int) := by
  unfold keyF
  cases e : wt.find? fun i => decide (aj i.id = aj j.id) with
  | none =>
    rw [List.find?_eq_none] at e
    exact absurd (decide_eq_true rfl) (e j hj)
  | some i =>
    have h1 := List.find?_some e
    have ei : i = j := inj i (List.mem_of_find?_eq_some e) j hj (of_decide_eq_true h1)
    rw [ei]
theorem map_inj_on {aj : Nat → Addr} : ∀ {l k : List Job}, (∀ i ∈ l, ∀ j ∈ k, aj i.id = aj j.id → i = j) → l.map (fun j => aj j.id) = k.map (fun j => aj j.id) → l = k
  | [], [], _, _ => rfl
  | [], _ :: _, _, h => by cases h
  | _ :: _, [], _, h => by cases h
  | a :: l, b :: k, hi, h => by
    rw [List.map_cons, List.map_cons] at h
    injection h with h1 h2
    rw [hi a List.mem_cons_self b List.mem_cons_self h1, map_inj_on (fun i mi j mj => hi i (List.mem_cons_of_mem _ mi) j (List.mem_cons_of_mem _ mj)) h2]
/-- what sorted hands over is the queue -/
theorem srt_queue {aj : Nat → Addr} {h : House} {wt : List Job} {bs : List Addr} (inj : ∀ i ∈ wt, ∀ j ∈ wt, aj i.id = aj j.id → i = j) (ht : wt.Pairwise fun a b => a.turn < b.turn) (hs : SrtBy (keyF aj h wt) (wt.map fun j => aj j.id) bs) : bs = (Rp04.sort h.before wt).map fun j => aj j.id := by
  obtain ⟨h1, h2, h3⟩ := hs
  obtain ⟨l, hl, el⟩ := perm_lift (fun j : Job => aj j.id) h1.symm wt rfl
  subst el
  have ml : ∀ j ∈ l, j ∈ wt := fun j hj => hl.mem_iff.mp hj
  have ke : ∀ j ∈ l, keyF aj h wt (aj j.id) = -((h.urgent j : Nat) : Int) := fun j hj => keyF_at inj (ml j hj)
  rw [List.pairwise_map] at h2
  rw [queue_of (h := h) ht hl ?_ fun c => ?_]
  · refine h2.imp_of_mem fun {a b} ha hb z => ?_
    rw [ke a ha, ke b hb] at z
    omega
  · have z := h3 (-(c : Int))
    rw [List.filter_map, List.filter_map] at z
    have e1 : l.filter ((fun a => keyF aj h wt a == -(c : Int)) ∘ fun j => aj j.id) = l.filter fun j => h.urgent j == c := List.filter_congr fun j hj => by
      show (keyF aj h wt (aj j.id) == -(c : Int)) = _
      rw [ke j hj, Bool.eq_iff_iff, beq_iff_eq, beq_iff_eq]
      omega
    have e2 : wt.filter ((fun a => keyF aj h wt a == -(c : Int)) ∘ fun j => aj j.id) = wt.filter fun j => h.urgent j == c := List.filter_congr fun j hj => by
      show (keyF aj h wt (aj j.id) == -(c : Int)) = _
      rw [keyF_at inj hj, Bool.eq_iff_iff, beq_iff_eq, beq_iff_eq]
      omega
    rw [e1, e2] at z
    exact map_inj_on (fun i hi j hj => inj i (ml i (List.mem_filter.mp hi).1) j (List.mem_filter.mp hj).1) z
def spQueue (K : PySem.W.Frag) : Sp := fun vs H Q _ => ∃ (p dm dj dn : Addr) (am aj : Nat → Addr) (h : House), vs = [.ref p] ∧ HouseAt K H p dm dj dn am aj h ∧ WF h ∧
  ∀ (l : Addr) (H' : Hp), ExtN H H' → Tabs (tabQ K) H' → H' l = some (.lst (h.queue.map (rj aj))) → NewN H l → Q (.ref l) H'
theorem sc_queue : FnScope ["self", "waiting", "job"] ["self"] (defScope s_House_queue) := ⟨rfl, rfl, rfl, by decide +kernel, rfl, by decide +kernel, by decide +kernel⟩
theorem ok_queue (T : Ctx K mg) (TB : TabB base mg (He.cT K ("House", some "queue")).1 (He.cT K ("House", some "queue")).2) : Keeps P w K mg base 5 (He.ma K (He.ga K "House") "queue") ["self"] (spQueue K) := by
  obtain ⟨fd, F⟩ := T.f_House_queue
  obtain ⟨fdu, Fu, ku, bu⟩ := ok_urg (P := P) (w := w) (base := base) T
  obtain ⟨fdr, Fr, kr, br⟩ := ok_runs (P := P) (w := w) (base := base) T
  have FF := F
  obtain ⟨oc, od, dV, kV, doc, pm, an, cdv, ct, osl, rfl, lk, hcd, _, _⟩ := F.ex
  obtain ⟨c, rfl⟩ := He.codeIn_ref hcd
  have hcc : He.codeOf K ("House", some "queue") = c := He.codeOf_eq (p := ("House", some "queue")) lk rfl
  refine ⟨_, fn_of (k := 4) lk hcd sc_queue (fun vs H Q E h => ?_) (fun A outer s H vs Q E hr h => ?_), FF.kp, b_House_queue FF⟩
  · obtain ⟨p, dm, dj, dn, am, aj, h, rfl, _⟩ := h
    rfl
  · obtain ⟨p, dm, dj, dn, am, aj, h, rfl, A0, W, q⟩ := h
    have hr1 : Room 1 _ := hr.mono (by decide)
    refine ⟨_, PSs.nox (pss_cons (ps_setLc (i := 1) (own := [("job", 2)]) (g := gName 2) (tt := tNot (tB (tMeth (CJ K) "runs" (spRuns K) [] E0 (tVar 2) tNil))) rfl sc_queue.nd rfl rfl (sw_true rfl rfl rfl (by decide +kernel)) (pi_list (pe_fld (pv 0) rfl))
        (blkOk_by (N := ["self", "waiting", "job"]) (sc := defScope s_House_queue) (by decide +kernel)) (fun _ _ _ _ _ => pg_name (i := 2) sc_queue.nd rfl (Or.inl rfl)) (fun _ _ _ _ _ => pts_one (pt_not (pt_val (pe_meth0 (pv 2) T.c_Job T.m_Job_runs Fr hr1 br .nil pass0)))) (fun _ _ _ _ _ => pv 2))
      (pss_one (ps_ret (pe_sortLam (T := tabQ K) (c := (He.cT K ("House", some "queue")).1) (P := (He.cT K ("House", some "queue")).2) (k := 1) (i := 2) (x := "job") rfl T.z_sorted (pa_cons (pv 1) pa_nil) TB (by show Value.ref c = Value.ref _; rw [← hcc]; rfl) (by exact List.mem_singleton.mpr rfl)
        (fun p hp _ => by rw [List.mem_singleton.mp hp]; rfl) hr (lam1_by (sc := defScope s_House_queue) (by decide +kernel)) rfl (fun _ _ _ _ _ _ => rfl) sc_queue.nd rfl
        (fun A outer s H f c' hr' => pe_un un_neg (pe_meth (pv 0) T.c_House T.m_House_urgency_now Fu hr' bu .nil pass0 (pa_cons (pv 2) pa_nil))))))), ?_⟩
    obtain ⟨dx, h1⟩ := A0.ob
    have j14 := W.jlen
    refine ⟨_, rfl, p, CH K, dx, _, _, rfl, h1, T.c_House, T.n_House_jobs, rfl, dj, rfl, ⟨_, SqL.of A0.jobs⟩, fun D nD => ?_⟩
    have s0 := same_new nD (.lst [])
    refine lc_list (xs := h.jobs.map (rj aj)) (fun i H' => Same H H' ∧ H' D = some (.lst (((h.jobs.take i).filter fun j => j.on.isNone).map (rj aj)))) ⟨s0, upd_same⟩ (fun i H' _ ⟨s1, _⟩ => SqL.of (s1 _ _ A0.jobs)) ?_ ?_
    · rintro i y H1 hi ⟨s1, g1⟩
      obtain ⟨j, hj, rfl⟩ := cut_map hi
      obtain ⟨da, ja⟩ := A0.job j (List.mem_of_getElem? hj)
      have et : h.jobs.take (i + 1) = h.jobs.take i ++ [j] := by rw [List.take_add_one, hj]; rfl
      refine ⟨rfl, _, rfl, aj j.id, da, _, rfl, s1 _ _ ja, rfl, aj j.id, j, rfl, ⟨da, s1 _ _ ja⟩, _, rfl, ?_⟩
      cases eo : j.on with
      | none =>
        refine iteT ⟨_, rfl, _, g1, ?_, fun b o z => ?_, ?_⟩
        · refine small1000 ?_
          rw [List.length_map]
          refine Nat.le_trans (List.length_filter_le _ _) ?_
          rw [List.length_take]
          omega
        · rw [upd_ne (ne_of_none z nD)]
          exact s1 b o z
        · rw [upd_same, et, List.filter_append, List.filter_cons_of_pos (by rw [eo]; rfl), List.filter_nil, List.map_append]
          rfl
      | some x =>
        refine iteF ⟨s1, ?_⟩
        rw [et, List.filter_append, List.filter_cons_of_neg (by rw [eo]; simp), List.filter_nil, List.append_nil]
        exact g1
    · rintro H1 ⟨s1, g1⟩
      rw [List.length_map, List.take_length] at g1
      have wm : ∀ j ∈ h.jobs.filter (fun j => j.on.isNone), j ∈ h.jobs := fun j hj => (List.mem_filter.mp hj).1
      have inj : ∀ i ∈ h.jobs.filter (fun j => j.on.isNone), ∀ j ∈ h.jobs.filter (fun j => j.on.isNone), aj i.id = aj j.id → i = j := fun i hi j hj e => WF.id_inj W.toWF0 (wm i hi) (wm j hj) (A0.aji i (wm i hi) j (wm j hj) e)
      generalize hw : h.jobs.filter (fun j => j.on.isNone) = wt at g1 wm inj
      refine ⟨_, rfl, D, wt.map fun j => aj j.id, rfl, SqL.of (by rw [List.map_map]; exact g1), A0.tabs.ext s1, fun H2 e2 t2 => ⟨keyF aj h wt, fun a ha => ?_, fun bs l hs nl => ?_⟩⟩
      · obtain ⟨j, hj, rfl⟩ := List.mem_map.mp ha
        obtain ⟨da, ja⟩ := A0.job j (wm j hj)
        refine ⟨_, rfl, p, dx, _, rfl, e2 _ _ (s1 _ _ h1) (by intro _ z; cases z), rfl, _, rfl, p, aj j.id, dx, dm, dj, dn, h, j, rfl, e2 _ _ (s1 _ _ h1) (by intro _ z; cases z), ⟨da, e2 _ _ (s1 _ _ ja) (by intro _ z; cases z)⟩, W.came j (wm j hj), W.age, _, rfl, ?_, rfl⟩
        rw [keyF_at inj hj]
      · have tw : wt.Pairwise fun a b => a.turn < b.turn := by rw [← hw]; exact W.turn.filter _
        have eb := srt_queue inj tw hs
        have eq : bs.map V.ref = h.queue.map (rj aj) := by
          rw [eb, List.map_map]
          unfold House.queue
          rw [hw]
          rfl
        rw [eq]
        have x1 : ExtN H (upd H2 l (.lst (h.queue.map (rj aj)))) := fun b o z n => by
          have z2 := e2 b o (s1 b o z) n
          rw [upd_ne (ne_of_none z2 nl)]
          exact z2
        exact q l _ x1 (t2.ext (same_new nl _)) upd_same fun b o z n => ne_of_none (e2 b o (s1 b o z) n) nl
end
end Lr
end
section
set_option Elab.async false
set_option linter.all false
set_option maxRecDepth 100000
set_option maxHeartbeats 4000000
namespace Lr
open PySem L2 Mt LamX
open Rp04 (Machine Job House)
theorem MachAt.a {K : PySem.W.Frag} {H : Hp} {a : Addr} {m : Machine} (h : MachAt K H a m) : MachA K H a m := let ⟨dx, z⟩ := h; ⟨dx, _, z, rfl, rfl⟩
theorem JobAt.a {K : PySem.W.Frag} {H : Hp} {a : Addr} {j : Job} (h : JobAt K H a j) : JobA K H a j := let ⟨dx, z⟩ := h; ⟨dx, _, z, rfl⟩
theorem rI {i : Int} {t : Tok} : RelV (V.int i) (Value.int i t) := ⟨t, rfl⟩
theorem dec_nat (a b : Nat) : decide (V.int (a : Int) = V.int (b : Int)) = (a == b) := by
  by_cases h : a = b
  · subst h; simp
  · rw [decide_eq_false fun z => h (by have := V.int.inj z; omega)]
    exact (beq_eq_false_iff_ne.mpr h).symm
theorem dec_onL (o : Option (Nat × Nat)) (k : Nat) : decide (onL o = V.int (k : Int)) = ((o.map fun x => x.2) == some k) := by
  cases o with
  | none => rfl
  | some x =>
    show decide (V.int (x.2 : Int) = V.int (k : Int)) = (some x.2 == some k)
    rw [dec_nat]; rfl
theorem scal_onL (o : Option (Nat × Nat)) (k : Int) : scal (onL o) (V.int k) = true := by cases o <;> rfl
def jv (aj : Nat → Addr) : Option Job → V
  | some j => rj aj j
  | none => .non
/-! ### the promises of what reads alone -/
def spHere (K : PySem.W.Frag) : Sp := fun vs H Q _ => ∃ (p dm dj dn : Addr) (am aj : Nat → Addr) (h : House) (i : Nat), vs = [.ref p, .int (i : Int)] ∧ HouseAt K H p dm dj dn am aj h ∧ Q (jv aj (h.jobOf i)) H
def spByLease (K : PySem.W.Frag) : Sp := fun vs H Q _ => ∃ (p dm dj dn : Addr) (am aj : Nat → Addr) (h : House) (i : Nat), vs = [.ref p, .int (i : Int)] ∧ HouseAt K H p dm dj dn am aj h ∧ Q (jv aj (h.leaseOf i)) H
def spTaken (K : PySem.W.Frag) : Sp := fun vs H Q _ => ∃ (p dm dj dn : Addr) (am aj : Nat → Addr) (h : House) (i : Nat), vs = [.ref p, .int (i : Int)] ∧ HouseAt K H p dm dj dn am aj h ∧ Q (.bl (h.known i)) H
def spFull (K : PySem.W.Frag) : Sp := fun vs H Q _ => ∃ (p dm dj dn : Addr) (am aj : Nat → Addr) (h : House), vs = [.ref p] ∧ HouseAt K H p dm dj dn am aj h ∧ Q (.bl (decide (h.jobs.length = 14 ∨ h.jobs.length + h.ended.length = 40))) H
def spMost : Sp := fun vs H Q _ => ∃ n : Nat, vs = [.int (n : Int)] ∧ Q (.bl (decide (1 ≤ n ∧ n ≤ 1000000))) H
def spSince (K : PySem.W.Frag) : Sp := fun vs H Q _ => ∃ (p a dx dm dj dn : Addr) (h : House) (m : Machine), vs = [.ref p, .ref a] ∧ H p = some (.ins (CH K) dx (hf h dm dj dn)) ∧ MachAt K H a m ∧ m.heard ≤ h.now ∧ Q (.int ((h.now - m.heard : Nat) : Int)) H
def spLost (K : PySem.W.Frag) : Sp := fun vs H Q _ => ∃ (p a dx dm dj dn : Addr) (h : House) (m : Machine), vs = [.ref p, .ref a] ∧ H p = some (.ins (CH K) dx (hf h dm dj dn)) ∧ MachAt K H a m ∧ m.heard ≤ h.now ∧ Q (.bl (decide (h.lease < h.now - m.heard))) H
section
variable {P : Program} {w : World} {K : PySem.W.Frag} {mg : Str → Option Value} {base : Heap}
theorem sc_here : FnScope ["self", "number", "job"] ["self", "number"] (defScope s_House_job_here) := ⟨rfl, rfl, rfl, by decide +kernel, rfl, by decide +kernel, by decide +kernel⟩
theorem ok_here (T : Ctx K mg) : Keeps P w K mg base 1 (He.ma K (He.ga K "House") "job_here") ["self", "number"] (spHere K) := by
  obtain ⟨fd, F⟩ := T.f_House_job_here
  refine ⟨fd, F.ok sc_here (fun vs H Q E h => ?_) (fun cdv A outer s H vs Q E hr h => ?_), F.kp, b_House_job_here F⟩
  · obtain ⟨p, dm, dj, dn, am, aj, h, i, rfl, _⟩ := h
    rfl
  · obtain ⟨p, dm, dj, dn, am, aj, h, n, rfl, A0, q⟩ := h
    have nd := sc_here.nd
    refine ⟨_, PSs.nox (pss_cons (ps_for PassesOwn.never rfl (pi_list (pe_fld (pv 0) rfl)) (pg_name (i := 2) nd rfl (Or.inl rfl))
        (pss_one (ps_if (pt_cmpR op_eq (pe_fld (pv 2) rfl) (pv 1) (nomark _)) (pss_one (ps_ret (pv 2))) pss_nil)))
      (pss_one (ps_ret pe_non))), ?_⟩
    obtain ⟨dx, h1⟩ := A0.ob
    refine ⟨_, rfl, p, CH K, dx, _, _, rfl, h1, T.c_House, T.n_House_jobs, rfl, dj, rfl, ⟨_, SqL.of A0.jobs⟩, for_list (K := K) (a := dj) (xs := h.jobs.map (rj aj))
      (fun i σ H' => ∃ v2 : Option V, σ = [some (.ref p), some (.int (n : Int)), v2] ∧ H' = H ∧ ∀ j ∈ h.jobs.take i, (j.id == n) = false) ⟨none, rfl, rfl, fun j hj => (by cases hj)⟩ (fun i σ H' _ ⟨_, _, e, _⟩ => by rw [e]; exact SqL.of A0.jobs) ?_ ?_⟩
    · rintro i y σ H1 hi ⟨v2, rfl, rfl, hn⟩
      obtain ⟨j, hj, rfl⟩ := cut_map hi
      obtain ⟨da, ja⟩ := A0.job j (List.mem_of_getElem? hj)
      refine ⟨_, rfl, aj j.id, CJ K, da, _, _, rfl, ja, T.c_Job, T.n_Job_number, rfl, _, rfl, rfl, _, rfl, ?_⟩
      rw [dec_nat]
      refine ite2 (fun c => ?_) fun c => ?_
      · have e : h.jobOf n = some j := find_split _ _ i j hj hn c
        rw [e] at q
        exact ⟨_, rfl, q⟩
      · refine ⟨_, rfl, rfl, fun x hx => ?_⟩
        rcases mem_take_succ hj hx with z | z
        · exact hn x z
        · rw [z]; exact Bool.eq_false_iff.mpr c
    · rintro σ H1 ⟨v2, rfl, rfl, hn⟩
      rw [List.length_map, List.take_length] at hn
      have e : h.jobOf n = none := List.find?_eq_none.mpr fun x hx z => by rw [hn x hx] at z; cases z
      rw [e] at q
      exact q
theorem sc_byl : FnScope ["self", "lease", "job"] ["self", "lease"] (defScope s_House_job_by_lease) := ⟨rfl, rfl, rfl, by decide +kernel, rfl, by decide +kernel, by decide +kernel⟩
theorem ok_byl (T : Ctx K mg) : Keeps P w K mg base 1 (He.ma K (He.ga K "House") "job_by_lease") ["self", "lease"] (spByLease K) := by
  obtain ⟨fd, F⟩ := T.f_House_job_by_lease
  refine ⟨fd, F.ok sc_byl (fun vs H Q E h => ?_) (fun cdv A outer s H vs Q E hr h => ?_), F.kp, b_House_job_by_lease F⟩
  · obtain ⟨p, dm, dj, dn, am, aj, h, i, rfl, _⟩ := h
    rfl
  · obtain ⟨p, dm, dj, dn, am, aj, h, n, rfl, A0, q⟩ := h
    have nd := sc_byl.nd
    refine ⟨_, PSs.nox (pss_cons (ps_for PassesOwn.never rfl (pi_list (pe_fld (pv 0) rfl)) (pg_name (i := 2) nd rfl (Or.inl rfl))
        (pss_one (ps_if (pt_cmpR op_eq (pe_fld (pv 2) rfl) (pv 1) (nomark _)) (pss_one (ps_ret (pv 2))) pss_nil)))
      (pss_one (ps_ret pe_non))), ?_⟩
    obtain ⟨dx, h1⟩ := A0.ob
    refine ⟨_, rfl, p, CH K, dx, _, _, rfl, h1, T.c_House, T.n_House_jobs, rfl, dj, rfl, ⟨_, SqL.of A0.jobs⟩, for_list (K := K) (a := dj) (xs := h.jobs.map (rj aj))
      (fun i σ H' => ∃ v2 : Option V, σ = [some (.ref p), some (.int (n : Int)), v2] ∧ H' = H ∧ ∀ j ∈ h.jobs.take i, ((j.on.map fun x => x.2) == some n) = false) ⟨none, rfl, rfl, fun j hj => (by cases hj)⟩ (fun i σ H' _ ⟨_, _, e, _⟩ => by rw [e]; exact SqL.of A0.jobs) ?_ ?_⟩
    · rintro i y σ H1 hi ⟨v2, rfl, rfl, hn⟩
      obtain ⟨j, hj, rfl⟩ := cut_map hi
      obtain ⟨da, ja⟩ := A0.job j (List.mem_of_getElem? hj)
      refine ⟨_, rfl, aj j.id, CJ K, da, _, _, rfl, ja, T.c_Job, T.n_Job_lease, rfl, _, rfl, scal_onL _ _, _, rfl, ?_⟩
      rw [dec_onL]
      refine ite2 (fun c => ?_) fun c => ?_
      · have e : h.leaseOf n = some j := find_split _ _ i j hj hn c
        rw [e] at q
        exact ⟨_, rfl, q⟩
      · refine ⟨_, rfl, rfl, fun x hx => ?_⟩
        rcases mem_take_succ hj hx with z | z
        · exact hn x z
        · rw [z]; exact Bool.eq_false_iff.mpr c
    · rintro σ H1 ⟨v2, rfl, rfl, hn⟩
      rw [List.length_map, List.take_length] at hn
      have e : h.leaseOf n = none := List.find?_eq_none.mpr fun x hx z => by rw [hn x hx] at z; cases z
      rw [e] at q
      exact q
theorem valV_ovK (n : Nat) : ∀ l : List (Nat × Nat), (valV (ovK l) (Sum.inl (n : Int))).isSome = l.any fun x => x.1 == n
  | [] => rfl
  | x :: l => by
    show (valV ((Sum.inl (x.1 : Int), V.int (x.2 : Int)) :: ovK l) (Sum.inl (n : Int))).isSome = (x.1 == n || l.any fun x => x.1 == n)
    by_cases e : x.1 = n
    · rw [valV_pos (inl_nat.mpr e), beq_iff_eq.mpr e]; rfl
    · rw [valV_neg (fun z => e (inl_nat.mp z)), valV_ovK n l, beq_eq_false_iff_ne.mpr e]; rfl
theorem jv_non (aj : Nat → Addr) (o : Option Job) : (!decide (jv aj o = V.non)) = o.isSome := by
  cases o with
  | none => rfl
  | some j => rw [decide_eq_false (by intro z; cases z)]; rfl
theorem sc_taken : FnScope ["self", "number"] ["self", "number"] (defScope s_House_is_job_number_taken) := ⟨rfl, rfl, rfl, by decide +kernel, rfl, by decide +kernel, by decide +kernel⟩
theorem ok_taken (T : Ctx K mg) : Keeps P w K mg base 2 (He.ma K (He.ga K "House") "is_job_number_taken") ["self", "number"] (spTaken K) := by
  obtain ⟨fd, F⟩ := T.f_House_is_job_number_taken
  obtain ⟨fd1, F1, k1, b1⟩ := ok_here (P := P) (w := w) (base := base) T
  refine ⟨fd, F.ok sc_taken (fun vs H Q E h => ?_) (fun cdv A outer s H vs Q E hr h => ?_), F.kp, b_House_is_job_number_taken F⟩
  · obtain ⟨p, dm, dj, dn, am, aj, h, i, rfl, _⟩ := h
    rfl
  · obtain ⟨p, dm, dj, dn, am, aj, h, n, rfl, A0, q⟩ := h
    have hu := hu_of hr
    refine ⟨_, PSs.nox (pss_one (ps_ret (pe_or (pe_cmp (pc_din hu (pv 1) (pe_fld (pv 0) rfl))) (pe_one (pe_cmpR op_notN (pe_meth (pv 0) T.c_House T.m_House_job_here F1 hr b1 .nil pass0 (pa_cons (pv 1) pa_nil)) pe_non (nomark _)))))), ?_⟩
    obtain ⟨dx, h1⟩ := A0.ob
    have e : h.known n = ((valV (ovK h.ended) (Sum.inl (n : Int))).isSome || (h.jobOf n).isSome) := by
      rw [valV_ovK, Bool.or_comm]; rfl
    rw [e] at q
    refine ⟨_, rfl, _, rfl, p, CH K, dx, _, _, rfl, h1, T.c_House, T.n_House_over, rfl, dn, _, rfl, DGet.k (k := Sum.inl (n : Int)) A0.over, _, rfl, ?_⟩
    cases c : (valV (ovK h.ended) (Sum.inl (n : Int))).isSome with
    | true =>
      rw [c] at q
      exact iteT q
    | false =>
      rw [c] at q
      refine iteF ⟨_, rfl, p, dx, _, rfl, h1, rfl, _, rfl, p, dm, dj, dn, am, aj, h, n, rfl, A0, rfl, ?_⟩
      rw [jv_non]
      exact q
theorem sc_full : FnScope ["self", "here"] ["self"] (defScope s_House_is_full_of_jobs) := ⟨rfl, rfl, rfl, by decide +kernel, rfl, by decide +kernel, by decide +kernel⟩
theorem dec_nat' (a b : Nat) : decide (V.int (a : Int) = V.int (b : Int)) = decide (a = b) := by
  rw [dec_nat]; rfl
theorem ok_full (T : Ctx K mg) : Keeps P w K mg base 1 (He.ma K (He.ga K "House") "is_full_of_jobs") ["self"] (spFull K) := by
  obtain ⟨fd, F⟩ := T.f_House_is_full_of_jobs
  obtain ⟨t1, m1⟩ := T.i_MOST_JOBS_HERE
  obtain ⟨t2, m2⟩ := T.i_MOST_JOBS_IN_ALL
  refine ⟨fd, F.ok sc_full (fun vs H Q E h => ?_) (fun cdv A outer s H vs Q E hr h => ?_), F.kp, b_House_is_full_of_jobs F⟩
  · obtain ⟨p, dm, dj, dn, am, aj, h, rfl, _⟩ := h
    rfl
  · obtain ⟨p, dm, dj, dn, am, aj, h, rfl, A0, q⟩ := h
    have nd := sc_full.nd
    refine ⟨_, PSs.nox (pss_cons (ps_set (i := 1) nd rfl (Or.inl rfl) (pe_callB call_len_seq (by rfl) T.z_len PySem.boot_len (pa_cons (pe_fld (pv 0) rfl) pa_nil)))
      (pss_one (ps_ret (pe_or (pe_cmpR op_eq (pv 1) (pe_glob rfl m1 rI) (nomark _)) (pe_one (pe_cmpR op_eq (pe_op op_add (pv 1) (pe_callB call_lenD (by rfl) T.z_len PySem.boot_len (pa_cons (pe_fld (pv 0) rfl) pa_nil))) (pe_glob rfl m2 rI) (nomark _))))))), ?_⟩
    obtain ⟨dx, h1⟩ := A0.ob
    refine ⟨_, rfl, p, CH K, dx, _, _, rfl, h1, T.c_House, T.n_House_jobs, rfl, dj, _, rfl, .inl (SqL.of A0.jobs), ?_⟩
    have el : (((h.jobs.map (rj aj)).length : Nat) : Int) = (h.jobs.length : Int) := by rw [List.length_map]
    rw [el]
    refine ⟨_, rfl, rfl, _, rfl, ?_⟩
    have e1 : decide (V.int (h.jobs.length : Int) = V.int 14) = decide (h.jobs.length = 14) := dec_nat' h.jobs.length 14
    rw [e1]
    by_cases c : h.jobs.length = 14
    · rw [decide_eq_true (Or.inl c)] at q
      rw [decide_eq_true c]
      exact iteT q
    · rw [decide_eq_false c]
      refine iteF ⟨_, rfl, _, rfl, p, CH K, dx, _, _, rfl, h1, T.c_House, T.n_House_over, rfl, dn, _, rfl, A0.over, _, _, rfl, rfl, rfl, ?_⟩
      have e2 : decide (V.int ((h.jobs.length : Int) + ((ovK h.ended).length : Nat)) = V.int 40) = decide (h.jobs.length = 14 ∨ h.jobs.length + h.ended.length = 40) := by
        have e3 : (h.jobs.length : Int) + ((ovK h.ended).length : Nat) = ((h.jobs.length + h.ended.length : Nat) : Int) := by unfold ovK; rw [List.length_map]; omega
        rw [e3]
        refine (dec_nat' _ 40).trans ?_
        rw [decide_eq_decide]
        exact ⟨Or.inr, fun z => z.resolve_left c⟩
      rw [e2]
      exact q
theorem sc_most : FnScope ["number"] ["number"] (defScope s_is_from_one_to_most) := ⟨rfl, rfl, rfl, by decide +kernel, rfl, by decide +kernel, by decide +kernel⟩
theorem ok_most (T : Ctx K mg) : Keeps P w K mg base 1 (He.ga K "is_from_one_to_most") ["number"] spMost := by
  obtain ⟨fd, F⟩ := T.f_is_from_one_to_most
  obtain ⟨t1, m1⟩ := T.i_MOST
  refine ⟨fd, F.ok sc_most (fun vs H Q E h => ?_) (fun cdv A outer s H vs Q E hr h => ?_), F.kp, b_is_from_one_to_most F⟩
  · obtain ⟨n, rfl, _⟩ := h
    rfl
  · obtain ⟨n, rfl, q⟩ := h
    refine ⟨_, PSs.nox (pss_one (ps_ret (pe_chain op_le op_le pe_int (pv 0) (pe_glob rfl m1 rI)))), ?_⟩
    refine ⟨_, rfl, _, _, rfl, rfl, _, rfl, ?_⟩
    by_cases c : 1 ≤ n
    · rw [decide_eq_true (show (1 : Int) ≤ (n : Int) by omega)]
      refine iteT ⟨_, _, rfl, rfl, ?_⟩
      have e : decide ((n : Int) ≤ 1000000) = decide (1 ≤ n ∧ n ≤ 1000000) := by
        rw [decide_eq_decide]
        exact ⟨fun z => ⟨c, by omega⟩, fun z => by omega⟩
      rw [← e] at q
      exact q
    · rw [decide_eq_false (show ¬ (1 : Int) ≤ (n : Int) by omega)]
      rw [decide_eq_false fun z => c z.1] at q
      exact iteF q
theorem sc_since : FnScope ["self", "machine"] ["self", "machine"] (defScope s_House_minutes_since_heard) := ⟨rfl, rfl, rfl, by decide +kernel, rfl, by decide +kernel, by decide +kernel⟩
theorem ok_since (T : Ctx K mg) : Keeps P w K mg base 1 (He.ma K (He.ga K "House") "minutes_since_heard") ["self", "machine"] (spSince K) := by
  obtain ⟨fd, F⟩ := T.f_House_minutes_since_heard
  refine ⟨fd, F.ok sc_since (fun vs H Q E h => ?_) (fun cdv A outer s H vs Q E hr h => ?_), F.kp, b_House_minutes_since_heard F⟩
  · obtain ⟨p, a, dx, dm, dj, dn, h, m, rfl, _⟩ := h
    rfl
  · obtain ⟨p, a, dx, dm, dj, dn, h, m, rfl, h1, ⟨da, h2⟩, hc, q⟩ := h
    refine ⟨_, PSs.nox (pss_one (ps_ret (pe_op op_sub (pe_fld (pv 0) rfl) (pe_fld (pv 1) rfl)))), ?_⟩
    refine ⟨_, rfl, p, CH K, dx, _, _, rfl, h1, T.c_House, T.n_House_now, rfl, _, rfl, a, CM K, da, _, _, rfl, h2, T.c_Machine, T.n_Machine_heard, rfl, _, _, rfl, rfl, ?_⟩
    have e : (h.now : Int) - (m.heard : Int) = ((h.now - m.heard : Nat) : Int) := by omega
    show Q (V.int ((h.now : Int) - (m.heard : Int))) H
    rw [e]
    exact q
theorem sc_lost : FnScope ["self", "machine"] ["self", "machine"] (defScope s_House_is_lost) := ⟨rfl, rfl, rfl, by decide +kernel, rfl, by decide +kernel, by decide +kernel⟩
theorem ok_lost (T : Ctx K mg) : Keeps P w K mg base 2 (He.ma K (He.ga K "House") "is_lost") ["self", "machine"] (spLost K) := by
  obtain ⟨fd, F⟩ := T.f_House_is_lost
  obtain ⟨fd1, F1, k1, b1⟩ := ok_since (P := P) (w := w) (base := base) T
  refine ⟨fd, F.ok sc_lost (fun vs H Q E h => ?_) (fun cdv A outer s H vs Q E hr h => ?_), F.kp, b_House_is_lost F⟩
  · obtain ⟨p, a, dx, dm, dj, dn, h, m, rfl, _⟩ := h
    rfl
  · obtain ⟨p, a, dx, dm, dj, dn, h, m, rfl, h1, h2, hc, q⟩ := h
    refine ⟨_, PSs.nox (pss_one (ps_ret (pe_cmpR op_gt (pe_meth (pv 0) T.c_House T.m_House_minutes_since_heard F1 hr b1 .nil pass0 (pa_cons (pv 1) pa_nil)) (pe_fld (pv 0) rfl) (nomark _)))), ?_⟩
    refine ⟨_, rfl, p, dx, _, rfl, h1, rfl, _, rfl, p, a, dx, dm, dj, dn, h, m, rfl, h1, h2, hc, _, rfl, p, CH K, dx, _, _, rfl, h1, T.c_House, T.n_House_lease_minutes, rfl, _, _, rfl, rfl, ?_⟩
    have e : decide ((h.lease : Int) < ((h.now - m.heard : Nat) : Int)) = decide (h.lease < h.now - m.heard) := by
      rw [decide_eq_decide]; omega
    rw [← e] at q
    exact q
end
end Lr
end
section
set_option Elab.async false
set_option linter.all false
set_option maxRecDepth 100000
set_option maxHeartbeats 4000000
namespace Lr
open PySem L2 Mt LamX
open Rp04 (Machine Job House)
theorem free_is {h : House} (W : WF h) : h.free = h.machines.filter fun m => !busyB h m := by
  unfold House.free
  refine List.filter_congr fun m hm => ?_
  show (!m.leaving && !busyB h m) = !busyB h m
  cases e : m.leaving with
  | false => rfl
  | true =>
    rw [(busy_iff h m).mpr (W.left m hm e)]
    rfl
def spBusy (K : PySem.W.Frag) : Sp := fun vs H Q _ => ∃ (p a dm dj dn : Addr) (am aj : Nat → Addr) (h : House) (m : Machine), vs = [.ref p, .ref a] ∧ HouseAt K H p dm dj dn am aj h ∧ h.jobs.length ≤ 14 ∧ MachAt K H a m ∧ ∀ H' : Hp, Same H H' → Q (.bl (busyB h m)) H'
def spByNum (K : PySem.W.Frag) : Sp := fun vs H Q _ => ∃ (p dm dj dn : Addr) (am aj : Nat → Addr) (h : House), vs = [.ref p] ∧ HouseAt K H p dm dj dn am aj h ∧ WF0 h ∧ ∀ (l : Addr) (H' : Hp), Same H H' → H l = none → H' l = some (.lst (h.machines.map (rm am))) → Q (.ref l) H'
def spFree (K : PySem.W.Frag) : Sp := fun vs H Q _ => ∃ (p dm dj dn : Addr) (am aj : Nat → Addr) (h : House), vs = [.ref p] ∧ HouseAt K H p dm dj dn am aj h ∧ WF h ∧ ∀ (l : Addr) (H' : Hp), Same H H' → H l = none → H' l = some (.lst (h.free.map (rm am))) → Q (.ref l) H'
def stateN (h : House) (m : Machine) : Nat := if m.leaving = true then 2 else if busyB h m = true then 1 else 0
def spState (K : PySem.W.Frag) : Sp := fun vs H Q _ => ∃ (p a dm dj dn : Addr) (am aj : Nat → Addr) (h : House) (m : Machine), vs = [.ref p, .ref a] ∧ HouseAt K H p dm dj dn am aj h ∧ h.jobs.length ≤ 14 ∧ MachAt K H a m ∧ ∀ H' : Hp, Same H H' → Q (.int (stateN h m : Nat)) H'
def spPlaced (K : PySem.W.Frag) : Sp := fun vs H Q _ => ∃ (p dm dj dn : Addr) (am aj : Nat → Addr) (h : House), vs = [.ref p] ∧ HouseAt K H p dm dj dn am aj h ∧ WF h ∧
  ∀ (l : Addr) (ts : List Addr) (H' : Hp), ExtN H H' → Tabs (tabQ K) H' → NewN H l → H' l = some (.lst (ts.map V.ref)) → ts.length = h.placed.length →
    (∀ (i : Nat) (t : Addr), ts[i]? = some t → ∃ x, h.placed[i]? = some x ∧ H' t = some (.tup [rj aj x.1, rm am x.2])) → Q (.ref l) H'
theorem onM_flat (o : Option (Nat × Nat)) : flatV (onM o) = true := by cases o <;> rfl
theorem in_onM (n : Nat) (js : List Job) : inV (.int (n : Int)) (js.map fun j => onM j.on) = js.any fun j => (j.on.map fun x => x.1) == some n := by
  unfold inV
  rw [List.any_map]
  refine congrArg (fun f => js.any f) (funext fun j => ?_)
  show eqV (onM j.on) (.int (n : Int)) = _
  cases j.on with
  | none => rfl
  | some x =>
    show ((x.1 : Int) == (n : Int)) = (some x.1 == some n)
    by_cases e : x.1 = n
    · rw [e]; simp
    · rw [beq_eq_false_iff_ne.mpr (show (x.1 : Int) ≠ (n : Int) by omega), beq_eq_false_iff_ne.mpr (fun z => e (Option.some.inj z))]
section
variable {P : Program} {w : World} {K : PySem.W.Frag} {mg : Str → Option Value} {base : Heap}
theorem sc_busy : FnScope ["self", "machine", "job"] ["self", "machine"] (defScope s_House_is_busy) := ⟨rfl, rfl, rfl, by decide +kernel, rfl, by decide +kernel, by decide +kernel⟩
theorem ok_busy (T : Ctx K mg) : Keeps P w K mg base 1 (He.ma K (He.ga K "House") "is_busy") ["self", "machine"] (spBusy K) := by
  obtain ⟨fd, F⟩ := T.f_House_is_busy
  refine ⟨fd, F.ok sc_busy (fun vs H Q E h => ?_) (fun cdv A outer s H vs Q E hr h => ?_), F.kp, b_House_is_busy F⟩
  · obtain ⟨p, a, dm, dj, dn, am, aj, h, m, rfl, _⟩ := h
    rfl
  · obtain ⟨p, a, dm, dj, dn, am, aj, h, m, rfl, A0, hl, ⟨da, ha⟩, q⟩ := h
    refine ⟨_, PSs.nox (pss_one (ps_ret (pe_cmpR op_in_seq (pe_fld (pv 1) rfl) (pe_lc (own := [("job", 2)]) (g := gName 2) (tt := tYes) (te := tFld K (tVar 2) "runs_on") rfl sc_busy.nd (pi_list (pe_fld (pv 0) rfl)) (blkOk_by (N := ["self", "machine", "job"]) (sc := defScope s_House_is_busy) (by decide +kernel))
      (fun _ _ _ _ _ => pg_name (i := 2) sc_busy.nd rfl (Or.inl rfl)) (fun _ _ _ _ _ => pts_nil) (fun _ _ _ _ _ => pe_fld (pv 2) rfl)) (by rfl)))), ?_⟩
    obtain ⟨dx, h1⟩ := A0.ob
    refine ⟨_, rfl, a, CM K, da, _, _, rfl, ha, T.c_Machine, T.n_Machine_number, rfl, _, rfl, p, CH K, dx, _, _, rfl, h1, T.c_House, T.n_House_jobs, rfl, dj, rfl, ⟨_, SqL.of A0.jobs⟩, fun D nD => ?_⟩
    have s0 := same_new nD (.lst [])
    refine lc_list (xs := h.jobs.map (rj aj)) (fun i H' => Same H H' ∧ H' D = some (.lst ((h.jobs.take i).map fun j => onM j.on))) ⟨s0, upd_same⟩ (fun i H' _ ⟨s1, _⟩ => SqL.of (s1 _ _ A0.jobs)) ?_ ?_
    · rintro i y H1 hi ⟨s1, g1⟩
      obtain ⟨j, hj, rfl⟩ := cut_map hi
      obtain ⟨dj', ja⟩ := A0.job j (List.mem_of_getElem? hj)
      have et : h.jobs.take (i + 1) = h.jobs.take i ++ [j] := by rw [List.take_add_one, hj]; rfl
      refine ⟨rfl, _, rfl, aj j.id, CJ K, dj', _, _, rfl, s1 _ _ ja, T.c_Job, T.n_Job_runs_on, rfl, _, g1, small1000 (by rw [List.length_map, List.length_take]; omega), fun b o z => ?_, ?_⟩
      · rw [upd_ne (ne_of_none z nD)]
        exact s1 b o z
      · rw [upd_same, et, List.map_append]
        rfl
    · rintro H1 ⟨s1, g1⟩
      rw [List.length_map, List.take_length] at g1
      refine ⟨D, _, rfl, .inl (SqL.of g1), rfl, ?_, ?_⟩
      · rw [List.all_map, List.all_eq_true]
        exact fun j _ => onM_flat j.on
      · have e : (if false = true then !inV (.int (m.id : Int)) (h.jobs.map fun j => onM j.on) else inV (.int (m.id : Int)) (h.jobs.map fun j => onM j.on)) = busyB h m := by
          rw [if_neg Bool.false_ne_true, in_onM]; rfl
        have z := q H1 s1
        rw [← e] at z
        exact z
/-! ### the machines by number -/
/-- the dict's entries -/
def mkK (am : Nat → Addr) (ks : List Machine) : List (Key × V) := ks.map fun m => (Sum.inl (m.id : Int), rm am m)
theorem valV_mkK {am : Nat → Addr} : ∀ {ks : List Machine} {m : Machine}, (∀ a ∈ ks, ∀ b ∈ ks, a.id = b.id → a = b) → m ∈ ks → valV (mkK am ks) (Sum.inl (m.id : Int)) = some (rm am m)
  | [], m, _, hm => by cases hm
  | k :: ks, m, inj, hm => by
    show valV ((Sum.inl (k.id : Int), rm am k) :: mkK am ks) (Sum.inl (m.id : Int)) = _
    by_cases e : k.id = m.id
    · rw [valV_pos (inl_nat.mpr e), inj k List.mem_cons_self m hm e]
    · rw [valV_neg (fun z => e (inl_nat.mp z))]
      rcases List.mem_cons.mp hm with z | z
      · exact absurd (by rw [z]) e
      · exact valV_mkK (fun a ha b hb => inj a (List.mem_cons_of_mem _ ha) b (List.mem_cons_of_mem _ hb)) z
theorem valV_mkK_none {am : Nat → Addr} {n : Nat} : ∀ {ks : List Machine}, (∀ m ∈ ks, m.id ≠ n) → valV (mkK am ks) (Sum.inl (n : Int)) = none
  | [], _ => rfl
  | k :: ks, h => by
    show valV ((Sum.inl (k.id : Int), rm am k) :: mkK am ks) (Sum.inl (n : Int)) = _
    rw [valV_neg (fun z => h k List.mem_cons_self (inl_nat.mp z))]
    exact valV_mkK_none fun m hm => h m (List.mem_cons_of_mem _ hm)
/-- whole numbers that rise, as those of a rising list -/
theorem rise_eq : ∀ {l k : List Int}, l.Perm k → l.Pairwise (· ≤ ·) → k.Pairwise (· < ·) → l = k
  | l, [], p, _, _ => p.eq_nil
  | [], b :: k, p, _, _ => absurd p.symm (by simp)
  | a :: l, b :: k, p, h1, h2 => by
    have e : a = b := by
      have m1 : a ∈ b :: k := p.mem_iff.mp List.mem_cons_self
      have m2 : b ∈ a :: l := p.mem_iff.mpr List.mem_cons_self
      rcases List.mem_cons.mp m1 with z | z
      · exact z
      · rcases List.mem_cons.mp m2 with y | y
        · exact y.symm
        · have q1 := (List.pairwise_cons.mp h2).1 a z
          have q2 := (List.pairwise_cons.mp h1).1 b y
          omega
    subst e
    rw [rise_eq ((List.perm_cons a).mp p) (List.pairwise_cons.mp h1).2 (List.pairwise_cons.mp h2).2]
theorem sc_bynum : FnScope ["self", "number"] ["self"] (defScope s_House_machines_by_number) := ⟨rfl, rfl, rfl, by decide +kernel, rfl, by decide +kernel, by decide +kernel⟩
theorem ok_bynum (T : Ctx K mg) : Keeps P w K mg base 1 (He.ma K (He.ga K "House") "machines_by_number") ["self"] (spByNum K) := by
  obtain ⟨fd, F⟩ := T.f_House_machines_by_number
  refine ⟨fd, F.ok sc_bynum (fun vs H Q E h => ?_) (fun cdv A outer s H vs Q E hr h => ?_), F.kp, b_House_machines_by_number F⟩
  · obtain ⟨p, dm, dj, dn, am, aj, h, rfl, _⟩ := h
    rfl
  · obtain ⟨p, dm, dj, dn, am, aj, h, rfl, A0, W, q⟩ := h
    have hu := hu_of hr
    refine ⟨_, PSs.nox (pss_one (ps_ret (pe_lc (own := [("number", 1)]) (g := gName 1) (tt := tYes) (te := tDGet (tFld K (tVar 0) "machines") (tVar 1)) rfl sc_bynum.nd (pi_list (pe_callB (call_sortedDI rfl) (by rfl) T.z_sorted (by decide +kernel) (pa_cons (pe_fld (pv 0) rfl) pa_nil)))
      (blkOk_by (N := ["self", "number"]) (sc := defScope s_House_machines_by_number) (by decide +kernel)) (fun _ _ _ _ _ => pg_name (i := 1) sc_bynum.nd rfl (Or.inl rfl)) (fun _ _ _ _ _ => pts_nil) (fun _ _ _ _ _ => pe_dget hu (pe_fld (pv 0) rfl) (pv 1) (fun _ _ => rfl))))), ?_⟩
    obtain ⟨dx, h1⟩ := A0.ob
    obtain ⟨ks, kp, hd⟩ := A0.dict
    have m7 := W.mlen
    have ek : (mkK am ks).map (·.1) = (ks.map fun m => (m.id : Int)).map Sum.inl := by unfold mkK; rw [List.map_map, List.map_map]; rfl
    refine ⟨_, rfl, p, CH K, dx, _, _, rfl, h1, T.c_House, T.n_House_machines, rfl, dm, mkK am ks, ks.map fun m => (m.id : Int), rfl, .inl hd, ek, (by rw [List.length_map, kp.length_eq]; omega), fun ys t pm rs nt => ?_⟩
    have ey : ys = h.machines.map fun m => (m.id : Int) := rise_eq (pm.trans (kp.map _)) rs (by rw [List.pairwise_map]; exact W.ms.imp fun {a b} z => by omega)
    subst ey
    have s0 := same_new nt (.lst ((h.machines.map fun m => (m.id : Int)).map V.int))
    have t0 : upd H t (.lst ((h.machines.map fun m => (m.id : Int)).map V.int)) t = some (.lst (h.machines.map fun m => V.int (m.id : Int))) := by rw [upd_same, List.map_map]; rfl
    generalize upd H t (.lst ((h.machines.map fun m => (m.id : Int)).map V.int)) = H0 at s0 t0
    refine ⟨t, rfl, ⟨_, SqL.of t0⟩, fun D nD => ?_⟩
    have inj : ∀ a ∈ ks, ∀ b ∈ ks, a.id = b.id → a = b := fun a ha b hb e => WF.m_inj W (kp.mem_iff.mp ha) (kp.mem_iff.mp hb) e
    refine lc_list (xs := h.machines.map fun m => V.int (m.id : Int)) (fun i H' => Same H0 H' ∧ H' D = some (.lst ((h.machines.take i).map (rm am)))) ⟨same_new nD (.lst []), upd_same⟩ (fun i H' _ ⟨s1, _⟩ => SqL.of (s1 _ _ t0)) ?_ ?_
    · rintro i y H1 hi ⟨s1, g1⟩
      obtain ⟨m, hm, rfl⟩ := cut_map hi
      have mm : m ∈ ks := kp.mem_iff.mpr (List.mem_of_getElem? hm)
      have et : h.machines.take (i + 1) = h.machines.take i ++ [m] := by rw [List.take_add_one, hm]; rfl
      have hv := DGet.k (H := H1) (k := Sum.inl (m.id : Int)) (s1 _ _ (s0 _ _ hd))
      rw [show (ks.map fun m => ((Sum.inl (m.id : Int) : Key), rm am m)) = mkK am ks from rfl, valV_mkK inj mm] at hv
      refine ⟨rfl, _, rfl, p, CH K, dx, _, _, rfl, s1 _ _ (s0 _ _ h1), T.c_House, T.n_House_machines, rfl, _, rfl, dm, _, rfl, hv, _, g1, small1000 (by rw [List.length_map, List.length_take]; omega), fun b o z => ?_, ?_⟩
      · rw [upd_ne (ne_of_none z nD)]
        exact s1 b o z
      · rw [upd_same, et, List.map_append]
        rfl
    · rintro H1 ⟨s1, g1⟩
      rw [List.length_map, List.take_length] at g1
      exact q D H1 (s0.trans s1) (s0.free nD) g1
theorem sc_free : FnScope ["self", "machine"] ["self"] (defScope s_House_free_machines) := ⟨rfl, rfl, rfl, by decide +kernel, rfl, by decide +kernel, by decide +kernel⟩
theorem ok_free (T : Ctx K mg) : Keeps P w K mg base 2 (He.ma K (He.ga K "House") "free_machines") ["self"] (spFree K) := by
  obtain ⟨fd, F⟩ := T.f_House_free_machines
  obtain ⟨fd1, F1, k1, b1⟩ := ok_bynum (P := P) (w := w) (base := base) T
  obtain ⟨fd2, F2, k2, b2⟩ := ok_busy (P := P) (w := w) (base := base) T
  refine ⟨fd, F.ok sc_free (fun vs H Q E h => ?_) (fun cdv A outer s H vs Q E hr h => ?_), F.kp, b_House_free_machines F⟩
  · obtain ⟨p, dm, dj, dn, am, aj, h, rfl, _⟩ := h
    rfl
  · obtain ⟨p, dm, dj, dn, am, aj, h, rfl, A0, W, q⟩ := h
    refine ⟨_, PSs.nox (pss_one (ps_ret (pe_lc (own := [("machine", 1)]) (g := gName 1) (tt := tNot (tB (tMeth (CH K) "is_busy" (spBusy K) [] E0 (tVar 0) (tCons (tVar 1) tNil)))) (te := tVar 1) rfl sc_free.nd (pi_list (pe_meth0 (pv 0) T.c_House T.m_House_machines_by_number F1 hr b1 .nil pass0))
      (blkOk_by (N := ["self", "machine"]) (sc := defScope s_House_free_machines) (by decide +kernel)) (fun _ _ _ _ _ => pg_name (i := 1) sc_free.nd rfl (Or.inl rfl))
      (fun _ _ _ _ _ => pts_one (pt_not (pt_val (pe_meth (pv 0) T.c_House T.m_House_is_busy F2 hr b2 .nil pass0 (pa_cons (pv 1) pa_nil))))) (fun _ _ _ _ _ => pv 1)))), ?_⟩
    obtain ⟨dx, h1⟩ := A0.ob
    have m7 := W.mlen
    rw [free_is W] at q
    refine ⟨_, rfl, p, dx, _, rfl, h1, rfl, p, dm, dj, dn, am, aj, h, rfl, A0, W.toWF0, fun t H0 s0 nt t0 => ?_⟩
    refine ⟨t, rfl, ⟨_, SqL.of t0⟩, fun D nD => ?_⟩
    refine lc_list (xs := h.machines.map (rm am)) (fun i H' => Same H0 H' ∧ H' D = some (.lst (((h.machines.take i).filter fun m => !busyB h m).map (rm am)))) ⟨same_new nD (.lst []), upd_same⟩ (fun i H' _ ⟨s1, _⟩ => SqL.of (s1 _ _ t0)) ?_ ?_
    · rintro i y H1 hi ⟨s1, g1⟩
      obtain ⟨m, hm, rfl⟩ := cut_map hi
      have mm := List.mem_of_getElem? hm
      have et : h.machines.take (i + 1) = h.machines.take i ++ [m] := by rw [List.take_add_one, hm]; rfl
      have A1 := A0.same (s0.trans s1)
      obtain ⟨dx1, h11⟩ := A1.ob
      refine ⟨rfl, _, rfl, p, dx1, _, rfl, h11, rfl, _, rfl, p, am m.id, dm, dj, dn, am, aj, h, m, rfl, A1, W.jlen, A1.mach m mm, fun H2 s2 => ⟨_, rfl, ?_⟩⟩
      have g2 := s2 _ _ g1
      cases c : busyB h m with
      | true =>
        refine iteF ⟨s1.trans s2, ?_⟩
        rw [et, List.filter_append, List.filter_cons_of_neg (by rw [c]; simp), List.filter_nil, List.append_nil]
        exact g2
      | false =>
        refine iteT ⟨_, rfl, _, g2, ?_, fun b o z => ?_, ?_⟩
        · refine small1000 ?_
          rw [List.length_map]
          refine Nat.le_trans (List.length_filter_le _ _) ?_
          rw [List.length_take]
          omega
        · rw [upd_ne (ne_of_none z nD)]
          exact s2 _ _ (s1 b o z)
        · rw [upd_same, et, List.filter_append, List.filter_cons_of_pos (by rw [c]; rfl), List.filter_nil, List.map_append]
          rfl
    · rintro H1 ⟨s1, g1⟩
      rw [List.length_map, List.take_length] at g1
      exact q D H1 (s0.trans s1) (s0.free nD) g1
theorem sc_state : FnScope ["self", "machine"] ["self", "machine"] (defScope s_House_state_of) := ⟨rfl, rfl, rfl, by decide +kernel, rfl, by decide +kernel, by decide +kernel⟩
theorem ok_state (T : Ctx K mg) : Keeps P w K mg base 2 (He.ma K (He.ga K "House") "state_of") ["self", "machine"] (spState K) := by
  obtain ⟨fd, F⟩ := T.f_House_state_of
  obtain ⟨fd2, F2, k2, b2⟩ := ok_busy (P := P) (w := w) (base := base) T
  obtain ⟨t1, m1⟩ := T.i_LEAVING
  obtain ⟨t2, m2⟩ := T.i_BUSY
  obtain ⟨t3, m3⟩ := T.i_FREE
  refine ⟨fd, F.ok sc_state (fun vs H Q E h => ?_) (fun cdv A outer s H vs Q E hr h => ?_), F.kp, b_House_state_of F⟩
  · obtain ⟨p, a, dm, dj, dn, am, aj, h, m, rfl, _⟩ := h
    rfl
  · obtain ⟨p, a, dm, dj, dn, am, aj, h, m, rfl, A0, hl, ⟨da, ha⟩, q⟩ := h
    refine ⟨_, PSs.nox (pss_cons (ps_if (pt_val (pe_fld (pv 1) rfl)) (pss_one (ps_ret (pe_glob rfl m1 rI))) pss_nil)
      (pss_one (ps_ret (pe_ifExp (pt_val (pe_meth (pv 0) T.c_House T.m_House_is_busy F2 hr b2 .nil pass0 (pa_cons (pv 1) pa_nil))) (pe_glob rfl m2 rI) (pe_glob rfl m3 rI))))), ?_⟩
    obtain ⟨dx, h1⟩ := A0.ob
    refine ⟨_, rfl, a, CM K, da, _, _, rfl, ha, T.c_Machine, T.n_Machine_leaving, rfl, _, rfl, ?_⟩
    cases c : m.leaving with
    | true =>
      have e : stateN h m = 2 := by unfold stateN; rw [c]; rfl
      rw [e] at q
      exact iteT (q H (Same.refl H))
    | false =>
      refine iteF ⟨_, rfl, p, dx, _, rfl, h1, rfl, _, rfl, p, a, dm, dj, dn, am, aj, h, m, rfl, A0, hl, ⟨da, ha⟩, fun H2 s2 => ⟨_, rfl, ?_⟩⟩
      cases c2 : busyB h m with
      | true =>
        have e : stateN h m = 1 := by unfold stateN; rw [c, c2]; rfl
        rw [e] at q
        exact iteT (q H2 s2)
      | false =>
        have e : stateN h m = 0 := by unfold stateN; rw [c, c2]; rfl
        rw [e] at q
        exact iteF (q H2 s2)
end
end Lr
end
section
set_option Elab.async false
set_option linter.all false
set_option maxRecDepth 100000
set_option maxHeartbeats 4000000
namespace Lr
open PySem L2 Mt LamX
open Rp04 (Machine Job House Ans Call)
/-! ### how the house's heap changes -/
theorem tabs_upd {T : List (Addr × Str)} {H : Hp} {x : Addr} {o o' : HO} (t : Tabs T H) (hx : H x = some o) (n1 : ∀ ps, o ≠ .tbl ps) (n2 : ∀ φ, o ≠ .ext φ) : Tabs T (upd H x o') := fun q hq => by
  obtain ⟨ps, h1, h2, h3⟩ := t q hq
  have k : ∀ b u, H b = some u → u ≠ o → upd H x o' b = some u := fun b u e d => by rw [upd_ne (ne_of e hx d)]; exact e
  refine ⟨ps, k _ _ h1 (fun z => n1 ps z.symm), h2, fun pos cv hc => ?_⟩
  obtain ⟨c, e1, e2⟩ := h3 pos cv hc
  exact ⟨c, e1, k _ _ e2 (fun z => n2 _ z.symm)⟩
def insLen : HO → Nat
  | .ins _ _ fs => fs.length
  | _ => 0
theorem hf_jf {C C' dx dx' a b c : Addr} {h : House} {j : Job} : HO.ins C dx (hf h a b c) ≠ HO.ins C' dx' (jf j) := fun z => absurd (show (7 : Nat) = 8 from congrArg insLen z) (by decide)
theorem hf_mf {C C' dx dx' a b c : Addr} {h : House} {m : Machine} : HO.ins C dx (hf h a b c) ≠ HO.ins C' dx' (mf m) := fun z => absurd (show (7 : Nat) = 4 from congrArg insLen z) (by decide)
theorem jf_mf {C C' dx dx' : Addr} {j : Job} {m : Machine} : HO.ins C dx (jf j) ≠ HO.ins C' dx' (mf m) := fun z => absurd (show (8 : Nat) = 4 from congrArg insLen z) (by decide)
theorem reJob_map {aj : Nat → Addr} {j j' : Job} (e : j'.id = j.id) (l : List Job) : (reJob j j' l).map (rj aj) = l.map (rj aj) := by
  unfold reJob
  rw [List.map_map]
  refine List.map_congr_left fun i _ => ?_
  show V.ref (aj (if i.id = j.id then j' else i).id) = V.ref (aj i.id)
  split
  · rename_i z; rw [e, z]
  · rfl
theorem reMach_map {am : Nat → Addr} {m m' : Machine} (e : m'.id = m.id) (l : List Machine) : mkK am (reMach m m' l) = mkK am l := by
  unfold reMach mkK
  rw [List.map_map]
  refine List.map_congr_left fun i _ => ?_
  show ((Sum.inl ((if i.id = m.id then m' else i).id : Int) : Key), V.ref (am (if i.id = m.id then m' else i).id)) = (Sum.inl (i.id : Int), V.ref (am i.id))
  split
  · rename_i z; rw [e, z]
  · rfl
theorem mem_reJob {j j' i : Job} {l : List Job} (h : i ∈ reJob j j' l) : i = j' ∨ (i ∈ l ∧ i.id ≠ j.id) := by
  obtain ⟨k, hk, e⟩ := List.mem_map.mp h
  by_cases z : k.id = j.id
  · rw [if_pos z] at e; exact .inl e.symm
  · rw [if_neg z] at e; rw [← e]; exact .inr ⟨hk, z⟩
theorem mem_reMach {j j' i : Machine} {l : List Machine} (h : i ∈ reMach j j' l) : i = j' ∨ (i ∈ l ∧ i.id ≠ j.id) := by
  obtain ⟨k, hk, e⟩ := List.mem_map.mp h
  by_cases z : k.id = j.id
  · rw [if_pos z] at e; exact .inl e.symm
  · rw [if_neg z] at e; rw [← e]; exact .inr ⟨hk, z⟩
section
variable {K : PySem.W.Frag} {H : Hp} {p dm dj dn : Addr} {am aj : Nat → Addr} {h : House}
theorem HouseAt.setJob (A : HouseAt K H p dm dj dn am aj h) {j j' : Job} {dx : Addr} (hj : j ∈ h.jobs) (e : H (aj j.id) = some (.ins (CJ K) dx (jf j))) (ej : j'.id = j.id) :
    HouseAt K (upd H (aj j.id) (.ins (CJ K) dx (jf j'))) p dm dj dn am aj { h with jobs := reJob j j' h.jobs } := by
  have k : ∀ b u, H b = some u → u ≠ .ins (CJ K) dx (jf j) → upd H (aj j.id) (.ins (CJ K) dx (jf j')) b = some u := fun b u z d => by rw [upd_ne (ne_of z e d)]; exact z
  have ids : ∀ i ∈ reJob j j' h.jobs, ∃ i' ∈ h.jobs, i.id = i'.id := fun i hi => by
    rcases mem_reJob hi with z | z
    · exact ⟨j, hj, by rw [z, ej]⟩
    · exact ⟨i, z.1, rfl⟩
  refine ⟨?_, ?_, ?_, ?_, fun m hm => ?_, fun i hi => ?_, A.ami, fun i hi l hl q => ?_, tabs_upd A.tabs e nofun nofun, A.dnm⟩
  · obtain ⟨d, z⟩ := A.ob
    exact ⟨d, k _ _ z hf_jf⟩
  · obtain ⟨ks, z1, z2⟩ := A.dict
    exact ⟨ks, z1, k _ _ z2 nofun⟩
  · show upd H (aj j.id) (.ins (CJ K) dx (jf j')) dj = some (.lst ((reJob j j' h.jobs).map (rj aj)))
    rw [reJob_map ej]
    exact k _ _ A.jobs nofun
  · exact k _ _ A.over nofun
  · obtain ⟨d, z⟩ := A.mach m hm
    exact ⟨d, k _ _ z fun y => jf_mf y.symm⟩
  · rcases mem_reJob hi with z | ⟨z1, z2⟩
    · rw [z, ej]
      exact ⟨dx, upd_same⟩
    · obtain ⟨d, z⟩ := A.job i z1
      refine ⟨d, ?_⟩
      rw [upd_ne fun y => z2 (A.aji i z1 j hj y)]
      exact z
  · obtain ⟨i', a1, a2⟩ := ids i hi
    obtain ⟨l', b1, b2⟩ := ids l hl
    rw [a2, b2] at q ⊢
    exact A.aji i' a1 l' b1 q
theorem HouseAt.setMach (A : HouseAt K H p dm dj dn am aj h) {m m' : Machine} {dx : Addr} (hm : m ∈ h.machines) (e : H (am m.id) = some (.ins (CM K) dx (mf m))) (em : m'.id = m.id) :
    HouseAt K (upd H (am m.id) (.ins (CM K) dx (mf m'))) p dm dj dn am aj { h with machines := reMach m m' h.machines } := by
  have k : ∀ b u, H b = some u → u ≠ .ins (CM K) dx (mf m) → upd H (am m.id) (.ins (CM K) dx (mf m')) b = some u := fun b u z d => by rw [upd_ne (ne_of z e d)]; exact z
  have ids : ∀ i ∈ reMach m m' h.machines, ∃ i' ∈ h.machines, i.id = i'.id := fun i hi => by
    rcases mem_reMach hi with z | z
    · exact ⟨m, hm, by rw [z, em]⟩
    · exact ⟨i, z.1, rfl⟩
  refine ⟨?_, ?_, k _ _ A.jobs nofun, k _ _ A.over nofun, fun i hi => ?_, fun i hi => ?_, fun i hi l hl q => ?_, A.aji, tabs_upd A.tabs e nofun nofun, A.dnm⟩
  · obtain ⟨d, z⟩ := A.ob
    exact ⟨d, k _ _ z hf_mf⟩
  · obtain ⟨ks, z1, z2⟩ := A.dict
    refine ⟨reMach m m' ks, z1.map _, ?_⟩
    show upd H (am m.id) (.ins (CM K) dx (mf m')) dm = some (.dK (mkK am (reMach m m' ks)))
    rw [reMach_map em]
    exact k _ _ z2 nofun
  · rcases mem_reMach hi with z | ⟨z1, z2⟩
    · rw [z, em]
      exact ⟨dx, upd_same⟩
    · obtain ⟨d, z⟩ := A.mach i z1
      refine ⟨d, ?_⟩
      rw [upd_ne fun y => z2 (A.ami i z1 m hm y)]
      exact z
  · obtain ⟨d, z⟩ := A.job i hi
    exact ⟨d, k _ _ z jf_mf⟩
  · obtain ⟨i', a1, a2⟩ := ids i hi
    obtain ⟨l', b1, b2⟩ := ids l hl
    rw [a2, b2] at q ⊢
    exact A.ami i' a1 l' b1 q
/-- the house's own attributes, and where its lists stand, told anew -/
theorem HouseAt.setHouse (A : HouseAt K H p dm dj dn am aj h) {dx dj' : Addr} {h' : House} (e : H p = some (.ins (CH K) dx (hf h dm dj dn))) (e1 : h'.machines = h.machines) (e2 : ∀ j ∈ h'.jobs, j ∈ h.jobs) (e3 : h'.ended = h.ended) (e4 : H dj' = some (.lst (h'.jobs.map (rj aj)))) :
    HouseAt K (upd H p (.ins (CH K) dx (hf h' dm dj' dn))) p dm dj' dn am aj h' := by
  have k : ∀ b u, H b = some u → u ≠ .ins (CH K) dx (hf h dm dj dn) → upd H p (.ins (CH K) dx (hf h' dm dj' dn)) b = some u := fun b u z d => by rw [upd_ne (ne_of z e d)]; exact z
  refine ⟨⟨dx, upd_same⟩, ?_, k _ _ e4 nofun, ?_, fun m hm => ?_, fun j hj => ?_, ?_, fun i hi j hj => A.aji i (e2 i hi) j (e2 j hj), tabs_upd A.tabs e nofun nofun, A.dnm⟩
  · obtain ⟨ks, z1, z2⟩ := A.dict
    exact ⟨ks, by rw [e1]; exact z1, k _ _ z2 nofun⟩
  · rw [e3]; exact k _ _ A.over nofun
  · rw [e1] at hm
    obtain ⟨d, z⟩ := A.mach m hm
    exact ⟨d, k _ _ z fun y => hf_mf y.symm⟩
  · obtain ⟨d, z⟩ := A.job j (e2 j hj)
    exact ⟨d, k _ _ z fun y => hf_jf y.symm⟩
  · rw [e1]; exact A.ami
theorem drop_mkK (n : Nat) (ks : List Machine) : dropK (mkK am ks) (Sum.inl (n : Int)) = mkK am (ks.filter fun m => m.id != n) := by
  induction ks with
  | nil => rfl
  | cons m ks ih =>
    show dropK ((Sum.inl (m.id : Int), rm am m) :: mkK am ks) (Sum.inl (n : Int)) = _
    by_cases e : m.id = n
    · rw [dropK_pos (inl_nat.mpr e), ih, List.filter_cons_of_neg (by simp [e])]
    · rw [dropK_neg (fun z => e (inl_nat.mp z)), ih, List.filter_cons_of_pos (by simp [e])]
      rfl
theorem HouseAt.pop (A : HouseAt K H p dm dj dn am aj h) {ks : List Machine} (kp : ks.Perm h.machines) (hd : H dm = some (.dK (mkK am ks))) (n : Nat) :
    HouseAt K (upd H dm (.dK (dropK (mkK am ks) (Sum.inl (n : Int))))) p dm dj dn am aj { h with machines := h.machines.filter fun m => m.id != n } := by
  have k : ∀ b u, H b = some u → u ≠ .dK (mkK am ks) → upd H dm (.dK (dropK (mkK am ks) (Sum.inl (n : Int)))) b = some u := fun b u z d => by rw [upd_ne (ne_of z hd d)]; exact z
  have sub : ∀ m ∈ h.machines.filter (fun m => m.id != n), m ∈ h.machines := fun m hm => (List.mem_filter.mp hm).1
  refine ⟨?_, ⟨ks.filter fun m => m.id != n, kp.filter _, by rw [upd_same, drop_mkK]; rfl⟩, k _ _ A.jobs nofun, ?_, fun m hm => ?_, fun j hj => ?_, fun a ha b hb => A.ami a (sub a ha) b (sub b hb), A.aji, tabs_upd A.tabs hd nofun nofun, A.dnm⟩
  · obtain ⟨d, z⟩ := A.ob
    exact ⟨d, k _ _ z nofun⟩
  · rw [upd_ne A.dnm]
    exact A.over
  · obtain ⟨d, z⟩ := A.mach m (sub m hm)
    exact ⟨d, k _ _ z nofun⟩
  · obtain ⟨d, z⟩ := A.job j hj
    exact ⟨d, k _ _ z nofun⟩
theorem put_ovK {l : List (Nat × Nat)} {n how : Nat} (hn : ∀ x ∈ l, x.1 ≠ n) : putK (ovK l) (Sum.inl (n : Int)) (.int (how : Int)) = ovK (l ++ [(n, how)]) := by
  have e : valV (ovK l) (Sum.inl (n : Int)) = none := by
    have z := valV_ovK n l
    have y : (l.any fun x => x.1 == n) = false := by
      rw [List.any_eq_false]
      intro x hx q
      exact hn x hx (beq_iff_eq.mp q)
    rw [y] at z
    cases q : valV (ovK l) (Sum.inl (n : Int)) with
    | none => rfl
    | some v => rw [q] at z; cases z
  rw [putK_new _ e]
  unfold ovK
  rw [List.map_append]
  rfl
theorem HouseAt.putOver (A : HouseAt K H p dm dj dn am aj h) {n how : Nat} (hn : ∀ x ∈ h.ended, x.1 ≠ n) :
    HouseAt K (upd H dn (.dK (putK (ovK h.ended) (Sum.inl (n : Int)) (.int (how : Int))))) p dm dj dn am aj { h with ended := h.ended ++ [(n, how)] } := by
  rw [put_ovK hn]
  have k : ∀ b u, H b = some u → u ≠ .dK (ovK h.ended) → upd H dn (.dK (ovK (h.ended ++ [(n, how)]))) b = some u := fun b u z d => by rw [upd_ne (ne_of z A.over d)]; exact z
  refine ⟨?_, ?_, k _ _ A.jobs nofun, upd_same, fun m hm => ?_, fun j hj => ?_, A.ami, A.aji, tabs_upd A.tabs A.over nofun nofun, A.dnm⟩
  · obtain ⟨d, z⟩ := A.ob
    exact ⟨d, k _ _ z nofun⟩
  · obtain ⟨ks, z1, z2⟩ := A.dict
    exact ⟨ks, z1, by rw [upd_ne A.dnm.symm]; exact z2⟩
  · obtain ⟨d, z⟩ := A.mach m hm
    exact ⟨d, k _ _ z nofun⟩
  · obtain ⟨d, z⟩ := A.job j hj
    exact ⟨d, k _ _ z nofun⟩
def at_ (am : Nat → Addr) (i : Nat) (x : Addr) : Nat → Addr := fun n => if n = i then x else am n
theorem at_i {i : Nat} {x : Addr} : at_ am i x i = x := if_pos rfl
theorem at_o {i n : Nat} {x : Addr} (h : n ≠ i) : at_ am i x n = am n := if_neg h
theorem put_mkK {ks : List Machine} {m : Machine} {x : Addr} (hn : ∀ k ∈ ks, k.id ≠ m.id) : putK (mkK am ks) (Sum.inl (m.id : Int)) (.ref x) = mkK (at_ am m.id x) (ks ++ [m]) := by
  rw [putK_new _ (valV_mkK_none hn)]
  unfold mkK
  rw [List.map_append]
  have e : (ks.map fun k => ((Sum.inl (k.id : Int) : Key), rm (at_ am m.id x) k)) = ks.map fun k => (Sum.inl (k.id : Int), rm am k) := List.map_congr_left fun k hk => by
    show (_, V.ref (at_ am m.id x k.id)) = (_, V.ref (am k.id))
    rw [at_o (hn k hk)]
  rw [e]
  show _ = _ ++ [((Sum.inl (m.id : Int) : Key), V.ref (at_ am m.id x m.id))]
  rw [at_i]
/-- a machine that stands at x by now is put among the others -/
theorem HouseAt.addMach (A : HouseAt K H p dm dj dn am aj h) {ks : List Machine} (kp : ks.Perm h.machines) (hd : H dm = some (.dK (mkK am ks))) {m : Machine} {x : Addr} (hx : MachAt K H x m) (new : ∀ k ∈ h.machines, am k.id ≠ x) (hn : ∀ k ∈ h.machines, k.id ≠ m.id) {ms : List Machine} (hms : ms.Perm (m :: h.machines)) :
    HouseAt K (upd H dm (.dK (putK (mkK am ks) (Sum.inl (m.id : Int)) (.ref x)))) p dm dj dn (at_ am m.id x) aj { h with machines := ms } := by
  have k : ∀ b u o, H b = some u → u ≠ .dK (mkK am ks) → upd H dm o b = some u := fun b u o z d => by rw [upd_ne (ne_of z hd d)]; exact z
  have cs : ∀ i ∈ ms, i = m ∨ i ∈ h.machines := fun i hi => List.mem_cons.mp (hms.mem_iff.mp hi)
  refine ⟨?_, ⟨ks ++ [m], (List.perm_append_singleton m ks).trans ((kp.cons m).trans hms.symm), ?_⟩, k _ _ _ A.jobs nofun, by rw [upd_ne A.dnm]; exact A.over, fun i hi => ?_, fun j hj => ?_, fun i hi l hl q => ?_, A.aji, tabs_upd A.tabs hd nofun nofun, A.dnm⟩
  · obtain ⟨d, z⟩ := A.ob
    exact ⟨d, k _ _ _ z nofun⟩
  · rw [upd_same, put_mkK fun a ha => hn a (kp.mem_iff.mp ha)]
    rfl
  · rcases cs i hi with z | z
    · rw [z, at_i]
      obtain ⟨d, y⟩ := hx
      exact ⟨d, k _ _ _ y nofun⟩
    · rw [at_o (hn i z)]
      obtain ⟨d, y⟩ := A.mach i z
      exact ⟨d, k _ _ _ y nofun⟩
  · obtain ⟨d, z⟩ := A.job j hj
    exact ⟨d, k _ _ _ z nofun⟩
  · rcases cs i hi with z | z
    · rcases cs l hl with y | y
      · rw [z, y]
      · rw [z, at_i, at_o (hn l y)] at q
        exact absurd q.symm (new l y)
    · rcases cs l hl with y | y
      · rw [y, at_i, at_o (hn i z)] at q
        exact absurd q (new i z)
      · rw [at_o (hn i z), at_o (hn l y)] at q
        exact A.ami i z l y q
/-- a job that stands at x by now is put behind the others -/
theorem HouseAt.addJob (A : HouseAt K H p dm dj dn am aj h) {j : Job} {x : Addr} (hx : JobAt K H x j) (new : ∀ i ∈ h.jobs, aj i.id ≠ x) (hn : ∀ i ∈ h.jobs, i.id ≠ j.id) {t : Nat} :
    HouseAt K (upd H dj (.lst (h.jobs.map (rj aj) ++ [.ref x]))) p dm dj dn am (at_ aj j.id x) { h with jobs := h.jobs ++ [j], turns := t } := by
  have k : ∀ b u o, H b = some u → u ≠ .lst (h.jobs.map (rj aj)) → upd H dj o b = some u := fun b u o z d => by rw [upd_ne (ne_of z A.jobs d)]; exact z
  have cs : ∀ i ∈ h.jobs ++ [j], i = j ∨ i ∈ h.jobs := fun i hi => (List.mem_append.mp hi).elim .inr fun z => .inl (List.mem_singleton.mp z)
  refine ⟨?_, ?_, ?_, k _ _ _ A.over nofun, fun m hm => ?_, fun i hi => ?_, A.ami, fun i hi l hl q => ?_, tabs_upd A.tabs A.jobs nofun nofun, A.dnm⟩
  · obtain ⟨d, z⟩ := A.ob
    exact ⟨d, k _ _ _ z nofun⟩
  · obtain ⟨ks, z1, z2⟩ := A.dict
    exact ⟨ks, z1, k _ _ _ z2 nofun⟩
  · rw [upd_same]
    show _ = some (HO.lst ((h.jobs ++ [j]).map (rj (at_ aj j.id x))))
    rw [List.map_append]
    have e : h.jobs.map (rj (at_ aj j.id x)) = h.jobs.map (rj aj) := List.map_congr_left fun i hi => by
      show V.ref (at_ aj j.id x i.id) = V.ref (aj i.id)
      rw [at_o (hn i hi)]
    rw [e]
    show _ = some (HO.lst (_ ++ [V.ref (at_ aj j.id x j.id)]))
    rw [at_i]
  · obtain ⟨d, z⟩ := A.mach m hm
    exact ⟨d, k _ _ _ z nofun⟩
  · rcases cs i hi with z | z
    · rw [z, at_i]
      obtain ⟨d, y⟩ := hx
      exact ⟨d, k _ _ _ y nofun⟩
    · rw [at_o (hn i z)]
      obtain ⟨d, y⟩ := A.job i z
      exact ⟨d, k _ _ _ y nofun⟩
  · rcases cs i hi with z | z
    · rcases cs l hl with y | y
      · rw [z, y]
      · rw [z, at_i, at_o (hn l y)] at q
        exact absurd q.symm (new l y)
    · rcases cs l hl with y | y
      · rw [y, at_i, at_o (hn i z)] at q
        exact absurd q (new i z)
      · rw [at_o (hn i z), at_o (hn l y)] at q
        exact A.aji i z l y q
end
/-! ### what a call leaves -/
def ansL (a : Ans) : List V := (Rp04Neutral.out a).map V.int
structure Done (K : PySem.W.Frag) (H H' : Hp) (p dj l : Addr) (r : House × Ans) : Prop where
  at_ : ∃ (dm' dj' dn' : Addr) (am' aj' : Nat → Addr), HouseAt K H' p dm' dj' dn' am' aj' r.1 ∧ (dj' = dj ∨ NewN H dj')
  ans : H' l = some (.lst (ansL r.2))
  new : NewN H l
  keep : ∀ b xs, H b = some (.lst xs) → b ≠ dj → H' b = some (.lst xs)
  frz : ∀ b o u, H b = some (.frz o u) → H' b = some (.frz o u)
/-- what else stands in the heap: all that was there is there; lists but the jobs' own, and what is locked, are as they were -/
structure Eff (H H' : Hp) (dj : Addr) : Prop where
  live : ∀ b o, H b = some o → (∀ ps, o ≠ .tbl ps) → ∃ o', H' b = some o' ∧ ∀ ps, o' ≠ .tbl ps
  keep : ∀ b xs, H b = some (.lst xs) → b ≠ dj → H' b = some (.lst xs)
  frz : ∀ b o u, H b = some (.frz o u) → H' b = some (.frz o u)
theorem Eff.ext {H H' : Hp} {dj : Addr} (e : ExtN H H') : Eff H H' dj := ⟨fun b o z n => ⟨o, e b o z n, n⟩, fun b xs z _ => e _ _ z nofun, fun b o u z => e _ _ z nofun⟩
theorem Eff.same {H H' : Hp} {dj : Addr} (s : Same H H') : Eff H H' dj := Eff.ext fun b o e _ => s b o e
theorem Eff.trans {H H1 H2 : Hp} {dj : Addr} (e : Eff H H1 dj) (s : Eff H1 H2 dj) : Eff H H2 dj :=
  ⟨fun b o z y => let ⟨o', q, n⟩ := e.live b o z y; s.live b o' q n, fun b xs z n => s.keep _ _ (e.keep b xs z n) n, fun b o u z => s.frz _ _ _ (e.frz b o u z)⟩
theorem Eff.go {H H1 H2 : Hp} {dj : Addr} (e : Eff H H1 dj) (s : Same H1 H2) : Eff H H2 dj := e.trans (Eff.same s)
theorem Eff.then_ {H H1 H2 : Hp} {dj : Addr} (e : Eff H H1 dj) (s : ExtN H1 H2) : Eff H H2 dj := e.trans (Eff.ext s)
theorem Eff.upd {H H1 : Hp} {dj x : Addr} {o o' : HO} (e : Eff H H1 dj) (hx : H1 x = some o) (n1 : ∀ xs, o = .lst xs → x = dj) (n2 : ∀ ob u, o ≠ .frz ob u) (n3 : ∀ ps, o' ≠ .tbl ps) : Eff H (L2.upd H1 x o') dj := ⟨fun b u z n => by
  obtain ⟨u', y, n'⟩ := e.live b u z n
  by_cases c : b = x
  · rw [c]; exact ⟨_, upd_same, n3⟩
  · exact ⟨u', by rw [upd_ne c]; exact y, n'⟩, fun b xs z n => by
    have y := e.keep b xs z n
    rw [upd_ne fun c => n (by rw [c]; exact n1 xs (by rw [c, hx] at y; exact Option.some.inj y))]; exact y, fun b ob u z => by rw [upd_ne (ne_of (e.frz b ob u z) hx fun q => n2 _ _ q.symm)]; exact e.frz b ob u z⟩
theorem Eff.ins {H H1 : Hp} {dj x C dx C' dx' : Addr} {fs fs' : List (Str × V)} (e : Eff H H1 dj) (hx : H1 x = some (.ins C dx fs)) : Eff H (L2.upd H1 x (.ins C' dx' fs')) dj := Eff.upd e hx (fun _ z => by cases z) (fun _ _ z => by cases z) (fun _ z => by cases z)
theorem Eff.dK {H H1 : Hp} {dj x : Addr} {kvs kvs' : List (Key × V)} (e : Eff H H1 dj) (hx : H1 x = some (.dK kvs)) : Eff H (L2.upd H1 x (.dK kvs')) dj := Eff.upd e hx (fun _ z => by cases z) (fun _ _ z => by cases z) (fun _ z => by cases z)
theorem Eff.updj {H H1 : Hp} {dj : Addr} {xs xs' : List V} (e : Eff H H1 dj) (hx : H1 dj = some (.lst xs)) : Eff H (L2.upd H1 dj (.lst xs')) dj := Eff.upd e hx (fun _ _ => rfl) (fun _ _ z => by cases z) (fun _ z => by cases z)
theorem Eff.refl {H : Hp} {dj : Addr} : Eff H H dj := Eff.same (Same.refl H)
theorem NewN.of {H : Hp} {l : Addr} (h : H l = none) : NewN H l := fun b o e _ => ne_of_none e h
theorem Eff.new {H H' : Hp} {dj l : Addr} (e : Eff H H' dj) (n : NewN H' l) : NewN H l := fun b o z y => let ⟨_, q, n'⟩ := e.live b o z y; n b _ q n'
theorem Done.of {K : PySem.W.Frag} {H H' : Hp} {p dm' dj dj' dn' l : Addr} {am' aj' : Nat → Addr} {h' : House} {a : Ans} (e : Eff H H' dj) (nl : H' l = none) (A : HouseAt K H' p dm' dj' dn' am' aj' h') (hd : dj' = dj ∨ NewN H dj') : Done K H (L2.upd H' l (.lst (ansL a))) p dj l (h', a) :=
  ⟨⟨dm', dj', dn', am', aj', A.same (same_new nl _), hd⟩, upd_same, e.new (NewN.of nl), fun b xs z n => same_new nl _ _ _ (e.keep b xs z n), fun b o u z => same_new nl _ _ _ (e.frz b o u z)⟩
def spDo (K : PySem.W.Frag) (c : Call) (av : List V) : Sp := fun vs H Q _ => ∃ (p dm dj dn : Addr) (am aj : Nat → Addr) (h : House), vs = .ref p :: av ∧ HouseAt K H p dm dj dn am aj h ∧ WF h ∧ WE h ∧ ∀ (l : Addr) (H' : Hp), Done K H H' p dj l (Rp04.step h c) → Q (.ref l) H'
theorem NewN.back {H H' : Hp} {l : Addr} (h : NewN H' l) (e : ExtN H H') : NewN H l := fun b o z n => h b o (e b o z n) n
/-- a call that reads alone -/
theorem Done.read {K : PySem.W.Frag} {H H' : Hp} {p dm dj dn l : Addr} {am aj : Nat → Addr} {h : House} {a : Ans} (A : HouseAt K H p dm dj dn am aj h) (e : ExtN H H') (t : Tabs (tabQ K) H') (n : NewN H l) (g : H' l = some (.lst (ansL a))) : Done K H H' p dj l (h, a) :=
  ⟨⟨dm, dj, dn, am, aj, A.ext e t, .inl rfl⟩, g, n, fun b xs z _ => e _ _ z nofun, fun b o u z => e _ _ z nofun⟩
/-- a refusal -/
theorem Done.no {K : PySem.W.Frag} {H : Hp} {p dm dj dn l : Addr} {am aj : Nat → Addr} {h : House} {n : Int} (A : HouseAt K H p dm dj dn am aj h) (nl : H l = none) : Done K H (upd H l (.lst [.int n])) p dj l (h, Rp04.ok n) :=
  Done.read A (ExtN.of_same (same_new nl _)) (A.tabs.ext (same_new nl _)) (NewN.of nl) upd_same
end Lr
end
section
set_option Elab.async false
set_option linter.all false
set_option maxRecDepth 100000
set_option maxHeartbeats 4000000
namespace Lr
open PySem L2 Mt LamX
open Rp04 (Machine Job House Ans Call)
def spMInit (K : PySem.W.Frag) : Sp := fun vs H Q _ => ∃ (x dx : Addr) (i l t : Nat), vs = [.ref x, .int (i : Int), .int (l : Int), .int (t : Int)] ∧ H x = some (.ins (CM K) dx []) ∧ Q .non (upd H x (.ins (CM K) dx (mf ⟨i, l, t, false⟩)))
def spJInit (K : PySem.W.Frag) : Sp := fun vs H Q _ => ∃ (x dx : Addr) (i l u t c n : Nat), vs = [.ref x, .int (i : Int), .int (l : Int), .int (u : Int), .int (t : Int), .int (c : Int)] ∧ H x = some (.ins (CJ K) dx []) ∧ Q .non (upd H x (.ins (CJ K) dx (jf ⟨i, l, u, c, n, t, 0, none⟩)))
def spWait (K : PySem.W.Frag) : Sp := fun vs H Q _ => ∃ (a dx : Addr) (j : Job), vs = [.ref a] ∧ H a = some (.ins (CJ K) dx (jf j)) ∧ Q .non (upd H a (.ins (CJ K) dx (jf { j with on := none })))
def spRun (K : PySem.W.Frag) : Sp := fun vs H Q _ => ∃ (a b dx : Addr) (j : Job) (m : Machine) (k : Nat), vs = [.ref a, .ref b, .int (k : Int)] ∧ H a = some (.ins (CJ K) dx (jf j)) ∧ MachAt K H b m ∧ Q .non (upd H a (.ins (CJ K) dx (jf { j with on := some (m.id, k) })))
/-- the house told anew -/
def newH (k a : Nat) : House := ⟨k, a, 0, 0, 0, [], [], []⟩
def Anew (K : PySem.W.Frag) (H : Hp) (p dx : Addr) (k a : Nat) (Q : VK) : Prop := ∀ (dm dj dn : Addr) (H' : Hp), (∀ b o, H b = some o → b ≠ p → H' b = some o) → H dm = none → H dj = none → H dn = none → dn ≠ dm →
  H' p = some (.ins (CH K) dx (hf (newH k a) dm dj dn)) → H' dm = some (.dK []) → H' dj = some (.lst []) → H' dn = some (.dK []) → Q .non H'
def spMake (K : PySem.W.Frag) : Sp := fun vs H Q _ => ∃ (p dx : Addr) (fs : List (Str × V)) (k a : Nat), vs = [.ref p, .int (k : Int), .int (a : Int)] ∧ H p = some (.ins (CH K) dx fs) ∧ (fs = [] ∨ ∃ (h : House) (dm dj dn : Addr), fs = hf h dm dj dn) ∧ Anew K H p dx k a Q
def spHInit (K : PySem.W.Frag) : Sp := fun vs H Q _ => ∃ (p dx : Addr), vs = [.ref p] ∧ H p = some (.ins (CH K) dx []) ∧ Anew K H p dx 5 10 Q
theorem lt0 : (0 : Nat) < 1000 := by decide
theorem lt1 : (1 : Nat) < 1000 := by decide
theorem lt2 : (2 : Nat) < 1000 := by decide
theorem lt3 : (3 : Nat) < 1000 := by decide
theorem lt4 : (4 : Nat) < 1000 := by decide
theorem lt5 : (5 : Nat) < 1000 := by decide
theorem lt6 : (6 : Nat) < 1000 := by decide
theorem lt7 : (7 : Nat) < 1000 := by decide
theorem lt8 : (8 : Nat) < 1000 := by decide
section
variable {P : Program} {w : World} {K : PySem.W.Frag} {mg : Str → Option Value} {base : Heap}
theorem sc_minit : FnScope ["self", "number", "labels", "heard"] ["self", "number", "labels", "heard"] (defScope s_Machine_init) := ⟨rfl, rfl, rfl, by decide +kernel, rfl, by decide +kernel, by decide +kernel⟩
theorem ok_minit (T : Ctx K mg) : Keeps P w K mg base 1 (He.ma K (He.ga K "Machine") "__init__") ["self", "number", "labels", "heard"] (spMInit K) := by
  obtain ⟨fd, F⟩ := T.f_Machine_init
  refine ⟨fd, F.ok sc_minit (fun vs H Q E h => ?_) (fun cdv A outer s H vs Q E hr h => ?_), F.kp, b_Machine_init F⟩
  · obtain ⟨x, dx, i, l, t, rfl, _⟩ := h
    rfl
  · obtain ⟨x, dx, i, l, t, rfl, hx, q⟩ := h
    refine ⟨_, PSs.nox (pss_cons (ps_fld (pv 0) (pv 1) rfl) (pss_cons (ps_fld (pv 0) (pv 2) rfl) (pss_cons (ps_fld (pv 0) (pv 3) rfl) (pss_one (ps_fld (pv 0) pe_bl rfl))))), ?_⟩
    refine ⟨_, rfl, _, rfl, x, CM K, dx, _, rfl, hx, T.c_Machine, T.n_Machine_number, lt0, ?_⟩
    refine ⟨_, rfl, _, rfl, x, CM K, dx, _, rfl, upd_same, T.c_Machine, T.n_Machine_labels, lt1, ?_⟩
    refine ⟨_, rfl, _, rfl, x, CM K, dx, _, rfl, upd_same, T.c_Machine, T.n_Machine_heard, lt2, ?_⟩
    refine ⟨_, rfl, x, CM K, dx, _, rfl, upd_same, T.c_Machine, T.n_Machine_leaving, lt3, ?_⟩
    show Q V.non (upd (upd (upd (upd H x _) x _) x _) x (.ins (CM K) dx (mf ⟨i, l, t, false⟩)))
    rw [upd_upd, upd_upd, upd_upd]
    exact q
theorem sc_jinit : FnScope ["self", "number", "labels", "urgency", "tries", "came"] ["self", "number", "labels", "urgency", "tries", "came"] (defScope s_Job_init) := ⟨rfl, rfl, rfl, by decide +kernel, rfl, by decide +kernel, by decide +kernel⟩
theorem ok_jinit (T : Ctx K mg) : Keeps P w K mg base 1 (He.ma K (He.ga K "Job") "__init__") ["self", "number", "labels", "urgency", "tries", "came"] (spJInit K) := by
  obtain ⟨fd, F⟩ := T.f_Job_init
  refine ⟨fd, F.ok sc_jinit (fun vs H Q E h => ?_) (fun cdv A outer s H vs Q E hr h => ?_), F.kp, b_Job_init F⟩
  · obtain ⟨x, dx, i, l, u, t, c, n, rfl, _⟩ := h
    rfl
  · obtain ⟨x, dx, i, l, u, t, c, n, rfl, hx, q⟩ := h
    refine ⟨_, PSs.nox (pss_cons (ps_fld (pv 0) (pv 1) rfl) (pss_cons (ps_fld (pv 0) (pv 2) rfl) (pss_cons (ps_fld (pv 0) (pv 3) rfl) (pss_cons (ps_fld (pv 0) (pv 4) rfl) (pss_cons (ps_fld (pv 0) (pv 5) rfl) (pss_cons (ps_fld (pv 0) pe_int rfl) (pss_cons (ps_fld (pv 0) pe_non rfl) (pss_one (ps_fld (pv 0) pe_non rfl))))))))), ?_⟩
    refine ⟨_, rfl, _, rfl, x, CJ K, dx, _, rfl, hx, T.c_Job, T.n_Job_number, lt0, ?_⟩
    refine ⟨_, rfl, _, rfl, x, CJ K, dx, _, rfl, upd_same, T.c_Job, T.n_Job_labels, lt1, ?_⟩
    refine ⟨_, rfl, _, rfl, x, CJ K, dx, _, rfl, upd_same, T.c_Job, T.n_Job_urgency, lt2, ?_⟩
    refine ⟨_, rfl, _, rfl, x, CJ K, dx, _, rfl, upd_same, T.c_Job, T.n_Job_tries, lt3, ?_⟩
    refine ⟨_, rfl, _, rfl, x, CJ K, dx, _, rfl, upd_same, T.c_Job, T.n_Job_came, lt4, ?_⟩
    refine ⟨_, rfl, x, CJ K, dx, _, rfl, upd_same, T.c_Job, T.n_Job_times_lost, lt5, ?_⟩
    refine ⟨_, rfl, x, CJ K, dx, _, rfl, upd_same, T.c_Job, T.n_Job_runs_on, lt6, ?_⟩
    refine ⟨_, rfl, x, CJ K, dx, _, rfl, upd_same, T.c_Job, T.n_Job_lease, lt7, ?_⟩
    show Q V.non (upd (upd (upd (upd (upd (upd (upd (upd H x _) x _) x _) x _) x _) x _) x _) x (.ins (CJ K) dx (jf ⟨i, l, u, c, n, t, 0, none⟩)))
    rw [upd_upd, upd_upd, upd_upd, upd_upd, upd_upd, upd_upd, upd_upd]
    exact q
theorem sc_wait : FnScope ["self"] ["self"] (defScope s_Job_wait_again) := ⟨rfl, rfl, rfl, by decide +kernel, rfl, by decide +kernel, by decide +kernel⟩
theorem ok_wait (T : Ctx K mg) : Keeps P w K mg base 1 (He.ma K (He.ga K "Job") "wait_again") ["self"] (spWait K) := by
  obtain ⟨fd, F⟩ := T.f_Job_wait_again
  refine ⟨fd, F.ok sc_wait (fun vs H Q E h => ?_) (fun cdv A outer s H vs Q E hr h => ?_), F.kp, b_Job_wait_again F⟩
  · obtain ⟨x, dx, j, rfl, _⟩ := h
    rfl
  · obtain ⟨x, dx, j, rfl, hx, q⟩ := h
    refine ⟨_, PSs.nox (pss_cons (ps_fld (pv 0) pe_non rfl) (pss_one (ps_fld (pv 0) pe_non rfl))), ?_⟩
    refine ⟨_, rfl, x, CJ K, dx, _, rfl, hx, T.c_Job, T.n_Job_runs_on, lt8, ?_⟩
    refine ⟨_, rfl, x, CJ K, dx, _, rfl, upd_same, T.c_Job, T.n_Job_lease, lt8, ?_⟩
    show Q V.non (upd (upd H x _) x (.ins (CJ K) dx (jf { j with on := none })))
    rw [upd_upd]
    exact q
theorem sc_run : FnScope ["self", "machine", "lease"] ["self", "machine", "lease"] (defScope s_Job_run) := ⟨rfl, rfl, rfl, by decide +kernel, rfl, by decide +kernel, by decide +kernel⟩
theorem ok_run (T : Ctx K mg) : Keeps P w K mg base 1 (He.ma K (He.ga K "Job") "run") ["self", "machine", "lease"] (spRun K) := by
  obtain ⟨fd, F⟩ := T.f_Job_run
  refine ⟨fd, F.ok sc_run (fun vs H Q E h => ?_) (fun cdv A outer s H vs Q E hr h => ?_), F.kp, b_Job_run F⟩
  · obtain ⟨x, b, dx, j, m, k, rfl, _⟩ := h
    rfl
  · obtain ⟨x, b, dx, j, m, k, rfl, hx, ⟨db, hb⟩, q⟩ := h
    refine ⟨_, PSs.nox (pss_cons (ps_fld (pv 0) (pe_fld (pv 1) rfl) rfl) (pss_one (ps_fld (pv 0) (pv 2) rfl))), ?_⟩
    refine ⟨_, rfl, b, CM K, db, _, _, rfl, hb, T.c_Machine, T.n_Machine_number, rfl, _, rfl, x, CJ K, dx, _, rfl, hx, T.c_Job, T.n_Job_runs_on, lt8, ?_⟩
    refine ⟨_, rfl, _, rfl, x, CJ K, dx, _, rfl, upd_same, T.c_Job, T.n_Job_lease, lt8, ?_⟩
    show Q V.non (upd (upd H x _) x (.ins (CJ K) dx (jf { j with on := some (m.id, k) })))
    rw [upd_upd]
    exact q
theorem sc_make : FnScope ["self", "lease_minutes", "age"] ["self", "lease_minutes", "age"] (defScope s_House_make_new) := ⟨rfl, rfl, rfl, by decide +kernel, rfl, by decide +kernel, by decide +kernel⟩
theorem ok_make (T : Ctx K mg) : Keeps P w K mg base 1 (He.ma K (He.ga K "House") "make_new") ["self", "lease_minutes", "age"] (spMake K) := by
  obtain ⟨fd, F⟩ := T.f_House_make_new
  refine ⟨fd, F.ok sc_make (fun vs H Q E h => ?_) (fun cdv A outer s H vs Q E hr h => ?_), F.kp, b_House_make_new F⟩
  · obtain ⟨p, dx, fs, k, a, rfl, _⟩ := h
    rfl
  · obtain ⟨p, dx, fs, k, a, rfl, h1, hfs, q⟩ := h
    refine ⟨_, PSs.nox (pss_cons (ps_fld (pv 0) (pv 1) rfl) (pss_cons (ps_fld (pv 0) (pv 2) rfl) (pss_cons (ps_fld (pv 0) pe_int rfl) (pss_cons (ps_fld (pv 0) pe_dnewK rfl) (pss_cons (ps_fld (pv 0) (pe_lst pa_nil) rfl) (pss_cons (ps_fld (pv 0) pe_dnewK rfl) (pss_one (ps_fld (pv 0) pe_int rfl)))))))), ?_⟩
    have fin : ∀ (dm dj dn : Addr) (o1 o2 o3 o4 o5 o6 : HO), upd (upd (upd H p o1) p o2) p o3 dm = none → upd (upd (upd (upd (upd H p o1) p o2) p o3) dm (.dK [])) p o4 dj = none → upd (upd (upd (upd (upd (upd (upd H p o1) p o2) p o3) dm (.dK [])) p o4) dj (.lst [])) p o5 dn = none →
        Q .non (upd (upd (upd (upd (upd (upd (upd (upd (upd (upd H p o1) p o2) p o3) dm (.dK [])) p o4) dj (.lst [])) p o5) dn (.dK [])) p o6) p (.ins (CH K) dx (hf (newH k a) dm dj dn))) := fun dm dj dn o1 o2 o3 o4 o5 o6 nm nj nn => by
      have pm : dm ≠ p := fun z => by rw [z, upd_same] at nm; cases nm
      have pj : dj ≠ p := fun z => by rw [z, upd_same] at nj; cases nj
      have pn : dn ≠ p := fun z => by rw [z, upd_same] at nn; cases nn
      rw [upd_ne pm, upd_ne pm, upd_ne pm] at nm
      rw [upd_ne pj] at nj
      have mj : dj ≠ dm := fun z => by rw [z, upd_same] at nj; cases nj
      rw [upd_ne mj, upd_ne pj, upd_ne pj, upd_ne pj] at nj
      rw [upd_ne pn] at nn
      have jn : dn ≠ dj := fun z => by rw [z, upd_same] at nn; cases nn
      rw [upd_ne jn, upd_ne pn] at nn
      have mn : dn ≠ dm := fun z => by rw [z, upd_same] at nn; cases nn
      rw [upd_ne mn, upd_ne pn, upd_ne pn, upd_ne pn] at nn
      refine q dm dj dn _ (fun b o e hb => ?_) nm nj nn mn upd_same ?_ ?_ ?_
      · rw [upd_ne hb, upd_ne hb, upd_ne (ne_of_none e nn), upd_ne hb, upd_ne (ne_of_none e nj), upd_ne hb, upd_ne (ne_of_none e nm), upd_ne hb, upd_ne hb, upd_ne hb]
        exact e
      · rw [upd_ne pm, upd_ne pm, upd_ne mn.symm, upd_ne pm, upd_ne mj.symm, upd_ne pm, upd_same]
      · rw [upd_ne pj, upd_ne pj, upd_ne jn.symm, upd_ne pj, upd_same]
      · rw [upd_ne pn, upd_ne pn, upd_same]
    rcases hfs with rfl | ⟨h0, dm0, dj0, dn0, rfl⟩
    · refine ⟨_, rfl, _, rfl, p, CH K, dx, _, rfl, h1, T.c_House, T.n_House_lease_minutes, lt0, ?_⟩
      refine ⟨_, rfl, _, rfl, p, CH K, dx, _, rfl, upd_same, T.c_House, T.n_House_age, lt1, ?_⟩
      refine ⟨_, rfl, p, CH K, dx, _, rfl, upd_same, T.c_House, T.n_House_now, lt2, ?_⟩
      intro dm nm
      refine ⟨_, rfl, p, CH K, dx, _, rfl, (upd_ne (ne_of_none upd_same nm)).trans upd_same, T.c_House, T.n_House_machines, lt3, Nat.zero_le _, fun dj nj => ?_⟩
      refine ⟨_, rfl, p, CH K, dx, _, rfl, (upd_ne (ne_of_none upd_same nj)).trans upd_same, T.c_House, T.n_House_jobs, lt4, ?_⟩
      intro dn nn
      refine ⟨_, rfl, p, CH K, dx, _, rfl, (upd_ne (ne_of_none upd_same nn)).trans upd_same, T.c_House, T.n_House_over, lt5, ?_⟩
      refine ⟨_, rfl, p, CH K, dx, _, rfl, upd_same, T.c_House, T.n_House_next_lease, lt6, ?_⟩
      exact fin dm dj dn _ _ _ _ _ _ nm nj nn
    · refine ⟨_, rfl, _, rfl, p, CH K, dx, _, rfl, h1, T.c_House, T.n_House_lease_minutes, lt7, ?_⟩
      refine ⟨_, rfl, _, rfl, p, CH K, dx, _, rfl, upd_same, T.c_House, T.n_House_age, lt7, ?_⟩
      refine ⟨_, rfl, p, CH K, dx, _, rfl, upd_same, T.c_House, T.n_House_now, lt7, ?_⟩
      intro dm nm
      refine ⟨_, rfl, p, CH K, dx, _, rfl, (upd_ne (ne_of_none upd_same nm)).trans upd_same, T.c_House, T.n_House_machines, lt7, Nat.zero_le _, fun dj nj => ?_⟩
      refine ⟨_, rfl, p, CH K, dx, _, rfl, (upd_ne (ne_of_none upd_same nj)).trans upd_same, T.c_House, T.n_House_jobs, lt7, ?_⟩
      intro dn nn
      refine ⟨_, rfl, p, CH K, dx, _, rfl, (upd_ne (ne_of_none upd_same nn)).trans upd_same, T.c_House, T.n_House_over, lt7, ?_⟩
      refine ⟨_, rfl, p, CH K, dx, _, rfl, upd_same, T.c_House, T.n_House_next_lease, lt7, ?_⟩
      exact fin dm dj dn _ _ _ _ _ _ nm nj nn
theorem sc_hinit : FnScope ["self"] ["self"] (defScope s_House_init) := ⟨rfl, rfl, rfl, by decide +kernel, rfl, by decide +kernel, by decide +kernel⟩
theorem ok_hinit (T : Ctx K mg) : Keeps P w K mg base 2 (He.ma K (He.ga K "House") "__init__") ["self"] (spHInit K) := by
  obtain ⟨fd, F⟩ := T.f_House_init
  obtain ⟨fd1, F1, k1, b1⟩ := ok_make (P := P) (w := w) (base := base) T
  obtain ⟨t1, m1⟩ := T.i_FIRST_LEASE_MINUTES
  obtain ⟨t2, m2⟩ := T.i_FIRST_AGE
  refine ⟨fd, F.ok sc_hinit (fun vs H Q E h => ?_) (fun cdv A outer s H vs Q E hr h => ?_), F.kp, b_House_init F⟩
  · obtain ⟨p, dx, rfl, _⟩ := h
    rfl
  · obtain ⟨p, dx, rfl, h1, q⟩ := h
    refine ⟨_, PSs.nox (pss_one (ps_expr (pe_meth (pv 0) T.c_House T.m_House_make_new F1 hr b1 .nil pass0 (pa_cons (pe_glob rfl m1 rI) (pa_cons (pe_glob rfl m2 rI) pa_nil))))), ?_⟩
    exact ⟨_, rfl, p, dx, _, rfl, h1, rfl, p, dx, [], 5, 10, rfl, h1, .inl rfl, fun dm dj dn H' a1 a2 a3 a4 a5 a6 a7 a8 a9 => q dm dj dn H' a1 a2 a3 a4 a5 a6 a7 a8 a9⟩
theorem HouseAt.anew {H H' : Hp} {p dx dm dj dn : Addr} {k a : Nat} (t : Tabs (tabQ K) H') (a5 : dn ≠ dm) (a6 : H' p = some (.ins (CH K) dx (hf (newH k a) dm dj dn))) (a7 : H' dm = some (.dK [])) (a8 : H' dj = some (.lst [])) (a9 : H' dn = some (.dK [])) (am aj : Nat → Addr) : HouseAt K H' p dm dj dn am aj (newH k a) :=
  ⟨⟨dx, a6⟩, ⟨[], .nil, a7⟩, a8, a9, nofun, nofun, nofun, nofun, t, a5⟩
theorem tabs_but {T : List (Addr × Str)} {H H' : Hp} {x : Addr} {o : HO} (t : Tabs T H) (hx : H x = some o) (n1 : ∀ ps, o ≠ .tbl ps) (n2 : ∀ φ, o ≠ .ext φ) (k : ∀ b u, H b = some u → b ≠ x → H' b = some u) : Tabs T H' := fun q hq => by
  obtain ⟨ps, h1, h2, h3⟩ := t q hq
  refine ⟨ps, k _ _ h1 (ne_of h1 hx fun z => n1 ps z.symm), h2, fun pos cv hc => ?_⟩
  obtain ⟨c, e1, e2⟩ := h3 pos cv hc
  exact ⟨c, e1, k _ _ e2 (ne_of e2 hx fun z => n2 _ z.symm)⟩
def spBegin (K : PySem.W.Frag) : Sp := fun vs H Q E => ∃ k a : Nat, spDo K (.begins k a) [.int (k : Int), .int (a : Int)] vs H Q E
theorem sc_begin : FnScope ["self", "lease_minutes", "age"] ["self", "lease_minutes", "age"] (defScope s_House_begin) := ⟨rfl, rfl, rfl, by decide +kernel, rfl, by decide +kernel, by decide +kernel⟩
theorem ok_begin (T : Ctx K mg) : Keeps P w K mg base 2 (He.ma K (He.ga K "House") "begin") ["self", "lease_minutes", "age"] (spBegin K) := by
  obtain ⟨fd, F⟩ := T.f_House_begin
  obtain ⟨fd1, F1, k1, b1⟩ := ok_make (P := P) (w := w) (base := base) T
  obtain ⟨fd2, F2, k2, b2⟩ := ok_most (P := P) (w := w) (base := base) T
  refine ⟨fd, F.ok sc_begin (fun vs H Q E h => ?_) (fun cdv A outer s H vs Q E hr h => ?_), F.kp, b_House_begin F⟩
  · obtain ⟨k, a, p, dm, dj, dn, am, aj, h, rfl, _⟩ := h
    rfl
  · obtain ⟨k, a, p, dm, dj, dn, am, aj, h, rfl, A0, W, WE0, q⟩ := h
    refine ⟨_, PSs.nox (pss_cons (ps_if (PW.pt (pw_or (pt_not (pt_val (pe_call F2 hr rfl T.g_is_from_one_to_most k2 b2 .nil pass0 (pa_cons (pv 1) pa_nil)))) (pw_or1 (pt_not (pt_val (pe_call F2 hr rfl T.g_is_from_one_to_most k2 b2 .nil pass0 (pa_cons (pv 2) pa_nil)))))))
        (pss_one (ps_ret (pe_lst (pa_cons (pe_un un_neg pe_int) pa_nil)))) pss_nil)
      (pss_cons (ps_expr (pe_meth (pv 0) T.c_House T.m_House_make_new F1 hr b1 .nil pass0 (pa_cons (pv 1) (pa_cons (pv 2) pa_nil)))) (pss_one (ps_ret (pe_lst (pa_cons pe_int pa_nil)))))), ?_⟩
    obtain ⟨dx, h1⟩ := A0.ob
    have bad : ¬ ((1 ≤ k ∧ k ≤ 1000000) ∧ (1 ≤ a ∧ a ≤ 1000000)) → Rp04.step h (.begins k a) = (h, Rp04.ok (-1)) := fun z => if_pos (by
      show k = 0 ∨ 1000000 < k ∨ a = 0 ∨ 1000000 < a
      omega)
    have no : ¬ ((1 ≤ k ∧ k ≤ 1000000) ∧ (1 ≤ a ∧ a ≤ 1000000)) → ∀ l, H l = none → Q (.ref l) (upd H l (.lst [.int (-1)])) := fun z l nl => q l _ (by rw [bad z]; exact Done.no A0 nl)
    refine ⟨_, rfl, k, rfl, _, rfl, ?_⟩
    by_cases c1 : 1 ≤ k ∧ k ≤ 1000000
    · rw [decide_eq_true c1]
      refine iteF ⟨_, rfl, a, rfl, _, rfl, ?_⟩
      by_cases c2 : 1 ≤ a ∧ a ≤ 1000000
      · rw [decide_eq_true c2]
        refine iteF ⟨_, rfl, p, dx, _, rfl, h1, rfl, _, rfl, _, rfl, p, dx, _, k, a, rfl, h1, .inr ⟨h, dm, dj, dn, rfl⟩, fun dm' dj' dn' H' a1 a2 a3 a4 a5 a6 a7 a8 a9 => ?_⟩
        refine ⟨(by show 1 ≤ sizeLine; decide), fun l nl => q l _ ?_⟩
        have e : Rp04.step h (.begins k a) = (newH k a, Rp04.ok 0) := if_neg (by
          show ¬ (k = 0 ∨ 1000000 < k ∨ a = 0 ∨ 1000000 < a)
          omega)
        rw [e]
        have s1 := same_new nl (.lst [.int 0])
        have t1 : Tabs (tabQ K) H' := tabs_but A0.tabs h1 nofun nofun a1
        refine ⟨⟨dm', dj', dn', am, aj, (HouseAt.anew (H := H) t1 a5 a6 a7 a8 a9 am aj).same s1, .inr (NewN.of a3)⟩, upd_same, fun b o z n => ?_, fun b xs z _ => s1 _ _ (a1 _ _ z (ne_of z h1 nofun)), fun b o u z => s1 _ _ (a1 _ _ z (ne_of z h1 nofun))⟩
        by_cases hb : b = p
        · rw [hb]; exact ne_of_none a6 nl
        · exact ne_of_none (a1 b o z hb) nl
      · rw [decide_eq_false c2]
        exact iteT ⟨_, rfl, (by show 1 ≤ sizeLine; decide), fun l nl => no (fun z => c2 z.2) l nl⟩
    · rw [decide_eq_false c1]
      exact iteT (iteT ⟨_, rfl, (by show 1 ≤ sizeLine; decide), fun l nl => no (fun z => c1 z.1) l nl⟩)
end
end Lr
end
section
set_option Elab.async false
set_option linter.all false
set_option maxRecDepth 100000
set_option maxHeartbeats 4000000
namespace Lr
open PySem L2 Mt LamX
open Rp04 (Machine Job House Ans Call)
theorem has_mkK {am : Nat → Addr} (n : Nat) : ∀ ks : List Machine, (valV (mkK am ks) (Sum.inl (n : Int))).isSome = ks.any fun m => m.id == n
  | [] => rfl
  | x :: l => by
    show (valV ((Sum.inl (x.id : Int), rm am x) :: mkK am l) (Sum.inl (n : Int))).isSome = (x.id == n || l.any fun x => x.id == n)
    by_cases e : x.id = n
    · rw [valV_pos (inl_nat.mpr e), beq_iff_eq.mpr e]; rfl
    · rw [valV_neg (fun z => e (inl_nat.mp z)), has_mkK n l, beq_eq_false_iff_ne.mpr e]; rfl
theorem any_perm {α : Type} {l k : List α} (p : l.Perm k) (f : α → Bool) : l.any f = k.any f := by
  rw [Bool.eq_iff_iff, List.any_eq_true, List.any_eq_true]
  exact ⟨fun ⟨x, a, b⟩ => ⟨x, p.mem_iff.mp a, b⟩, fun ⟨x, a, b⟩ => ⟨x, p.mem_iff.mpr a, b⟩⟩
theorem not_any {h : House} {i : Nat} (c : ¬ (h.machines.any fun m => m.id == i) = true) : ∀ k ∈ h.machines, k.id ≠ i := fun k hk e => c (List.any_eq_true.mpr ⟨k, hk, beq_iff_eq.mpr e⟩)
/-- an instance was made and filled -/
theorem same_made {H : Hp} {x dy C : Addr} {o : HO} (nx : H x = none) (ny : H dy = none) : Same H (upd (upd (upd H dy (.own x)) x (.ins C dy [])) x o) := fun b u e => by
  rw [upd_ne (ne_of_none e nx), upd_ne (ne_of_none e nx), upd_ne (ne_of_none e ny)]; exact e
def spAddM (K : PySem.W.Frag) : Sp := fun vs H Q E => ∃ i l : Nat, spDo K (.machine i l) [.int (i : Int), .int (l : Int)] vs H Q E
def spAddJ (K : PySem.W.Frag) : Sp := fun vs H Q E => ∃ i l u t : Nat, spDo K (.job i l u t) [.int (i : Int), .int (l : Int), .int (u : Int), .int (t : Int)] vs H Q E
def spBeat (K : PySem.W.Frag) : Sp := fun vs H Q E => ∃ i : Nat, spDo K (.beat i) [.int (i : Int)] vs H Q E
section
variable {P : Program} {w : World} {K : PySem.W.Frag} {mg : Str → Option Value} {base : Heap}
theorem one_line : 1 ≤ sizeLine := by decide
theorem sc_addm : FnScope ["self", "number", "labels"] ["self", "number", "labels"] (defScope s_House_add_machine) := ⟨rfl, rfl, rfl, by decide +kernel, rfl, by decide +kernel, by decide +kernel⟩
theorem ok_addm (T : Ctx K mg) : Keeps P w K mg base 3 (He.ma K (He.ga K "House") "add_machine") ["self", "number", "labels"] (spAddM K) := by
  obtain ⟨fd, F⟩ := T.f_House_add_machine
  obtain ⟨fd1, F1, k1, b1⟩ := ok_minit (P := P) (w := w) (base := base) T
  obtain ⟨t1, m1⟩ := T.i_LABEL_SETS
  obtain ⟨t2, m2⟩ := T.i_MOST_MACHINES
  refine ⟨fd, F.ok sc_addm (fun vs H Q E h => ?_) (fun cdv A outer s H vs Q E hr h => ?_), F.kp, b_House_add_machine F⟩
  · obtain ⟨i, l, p, dm, dj, dn, am, aj, h, rfl, _⟩ := h
    rfl
  · obtain ⟨i, l, p, dm, dj, dn, am, aj, h, rfl, A0, W, WE0, q⟩ := h
    have hu := hu_of hr
    refine ⟨_, PSs.nox (pss_cons (ps_if (pt_cmpR op_ge (pv 2) (pe_glob rfl m1 rI) (nomark _)) (pss_one (ps_ret (pe_lst (pa_cons (pe_un un_neg pe_int) pa_nil)))) pss_nil)
      (pss_cons (ps_if (pt_cmp (pc_din hu (pv 1) (pe_fld (pv 0) rfl))) (pss_one (ps_ret (pe_lst (pa_cons (pe_un un_neg pe_int) pa_nil)))) pss_nil)
      (pss_cons (ps_if (pt_cmpR op_eq (pe_callB call_lenD (by rfl) T.z_len PySem.boot_len (pa_cons (pe_fld (pv 0) rfl) pa_nil)) (pe_glob rfl m2 rI) (nomark _)) (pss_one (ps_ret (pe_lst (pa_cons (pe_un un_neg pe_int) pa_nil)))) pss_nil)
      (pss_cons (ps_dput hu (pe_fld (pv 0) rfl) (pv 1) (pe_make T.k_Machine F1 hr rfl T.g_Machine b1 .nil pass0 (pa_cons (pv 1) (pa_cons (pv 2) (pa_cons (pe_fld (pv 0) rfl) pa_nil)))) rfl)
      (pss_one (ps_ret (pe_lst (pa_cons (pe_callB call_lenD (by rfl) T.z_len PySem.boot_len (pa_cons (pe_fld (pv 0) rfl) pa_nil)) pa_nil)))))))), ?_⟩
    obtain ⟨dx, h1⟩ := A0.ob
    obtain ⟨ks, kp, hd⟩ := A0.dict
    have no : ∀ n, Rp04.step h (.machine i l) = (h, Rp04.ok n) → ∀ l, H l = none → Q (.ref l) (upd H l (.lst [.int n])) := fun n e l nl => q l _ (by rw [e]; exact Done.no A0 nl)
    refine ⟨_, rfl, _, _, rfl, rfl, _, rfl, ?_⟩
    refine ite2 (fun c => ?_) fun c => ?_
    · have c1 : (l : Int) ≥ 65536 := of_decide_eq_true c
      exact ⟨_, rfl, one_line, no (-1) (if_pos (show 65536 ≤ l by omega))⟩
    have c1 : ¬ 65536 ≤ l := fun z => c (decide_eq_true (show (l : Int) ≥ 65536 by omega))
    refine ⟨_, rfl, _, rfl, p, CH K, dx, _, _, rfl, h1, T.c_House, T.n_House_machines, rfl, dm, _, rfl, DGet.k (k := Sum.inl (i : Int)) hd, _, rfl, ?_⟩
    have ea : (valV (mkK am ks) (Sum.inl (i : Int))).isSome = h.machines.any fun m => m.id == i := (has_mkK i ks).trans (any_perm kp _)
    refine ite2 (fun c => ?_) fun c => ?_
    · have c2 : (h.machines.any fun m => m.id == i) = true := ea ▸ c
      exact ⟨_, rfl, one_line, no (-4) ((if_neg c1).trans (if_pos c2))⟩
    have c2 : ¬ (h.machines.any fun m => m.id == i) = true := fun z => c (ea.trans z)
    refine ⟨_, rfl, p, CH K, dx, _, _, rfl, h1, T.c_House, T.n_House_machines, rfl, dm, _, rfl, hd, rfl, _, rfl, ?_⟩
    have el : ((mkK am ks).length : Nat) = h.machines.length := by unfold mkK; rw [List.length_map, kp.length_eq]
    refine ite2 (fun c => ?_) fun c => ?_
    · have c3 : h.machines.length = 7 := by
        have z : V.int (((mkK am ks).length : Nat) : Int) = V.int 7 := of_decide_eq_true c
        have := V.int.inj z
        omega
      exact ⟨_, rfl, one_line, no (-7) ((if_neg c1).trans ((if_neg c2).trans (if_pos c3)))⟩
    have c3 : ¬ h.machines.length = 7 := fun z => c (decide_eq_true (show V.int (((mkK am ks).length : Nat) : Int) = V.int 7 by rw [el, z]; rfl))
    have es : Rp04.step h (.machine i l) = ({ h with machines := Rp04.putMachine ⟨i, l, h.now, false⟩ h.machines }, Rp04.ok (h.machines.length + 1 : Nat)) := (if_neg c1).trans ((if_neg c2).trans (if_neg c3))
    refine ⟨_, rfl, _, rfl, _, rfl, p, CH K, dx, _, _, rfl, h1, T.c_House, T.n_House_now, rfl, fun x dy nx ny nxy => ⟨x, dy, i, l, h.now, rfl, upd_same, rfl, ?_⟩⟩
    have s1 := same_made (C := CM K) (o := .ins (CM K) dy (mf ⟨i, l, h.now, false⟩)) nx ny
    have x1 : MachAt K (upd (upd (upd H dy (.own x)) x (.ins (CM K) dy [])) x (.ins (CM K) dy (mf ⟨i, l, h.now, false⟩))) x ⟨i, l, h.now, false⟩ := ⟨dy, upd_same⟩
    generalize upd (upd (upd H dy (.own x)) x (.ins (CM K) dy [])) x (.ins (CM K) dy (mf ⟨i, l, h.now, false⟩)) = H1 at s1 x1
    have ml := W.mlen
    have A1 := (A0.same s1).addMach kp (s1 _ _ hd) x1 (fun k hk => let ⟨_, z⟩ := A0.mach k hk; ne_of_none z nx) (not_any c2) (put_perm_m ⟨i, l, h.now, false⟩ h.machines)
    have lk : (putK (mkK am ks) (Sum.inl (i : Int)) (V.ref x)).length = h.machines.length + 1 := by
      have z := put_mkK (am := am) (m := (⟨i, l, h.now, false⟩ : Machine)) (x := x) (fun a ha => not_any c2 a (kp.mem_iff.mp ha))
      refine (congrArg List.length z).trans ?_
      unfold mkK
      rw [List.length_map, List.length_append, kp.length_eq]
      rfl
    refine ⟨_, rfl, p, CH K, dx, _, _, rfl, s1 _ _ h1, T.c_House, T.n_House_machines, rfl, _, rfl, dm, _, rfl, DPut.k (k := Sum.inl (i : Int)) (s1 _ _ hd) (small1000 (by show (mkK am ks).length ≤ 1000; omega)), ?_⟩
    obtain ⟨dx2, h2⟩ := A1.ob
    refine ⟨_, rfl, p, CH K, dx2, _, _, rfl, h2, T.c_House, T.n_House_machines, rfl, dm, _, rfl, upd_same, one_line, fun r nr => q r _ ?_⟩
    rw [es]
    have E1 : Eff H (upd H1 dm (.dK (putK (mkK am ks) (Sum.inl (i : Int)) (V.ref x)))) dj := (Eff.same s1).dK (s1 _ _ hd)
    have D := Done.of (a := Rp04.ok (h.machines.length + 1 : Nat)) E1 nr A1 (.inl rfl)
    have ean : ansL (Rp04.ok (h.machines.length + 1 : Nat)) = [V.int ((putK (mkK am ks) (Sum.inl (i : Int)) (V.ref x)).length : Nat)] := by rw [lk]; rfl
    rw [ean] at D
    exact D
theorem sc_beat : FnScope ["self", "number"] ["self", "number"] (defScope s_House_beat) := ⟨rfl, rfl, rfl, by decide +kernel, rfl, by decide +kernel, by decide +kernel⟩
theorem ok_beat (T : Ctx K mg) : Keeps P w K mg base 1 (He.ma K (He.ga K "House") "beat") ["self", "number"] (spBeat K) := by
  obtain ⟨fd, F⟩ := T.f_House_beat
  refine ⟨fd, F.ok sc_beat (fun vs H Q E h => ?_) (fun cdv A outer s H vs Q E hr h => ?_), F.kp, b_House_beat F⟩
  · obtain ⟨i, p, dm, dj, dn, am, aj, h, rfl, _⟩ := h
    rfl
  · obtain ⟨i, p, dm, dj, dn, am, aj, h, rfl, A0, W, WE0, q⟩ := h
    have hu := hu_of hr
    refine ⟨_, PSs.nox (pss_cons (ps_if (pt_cmp (pc_dnotin hu (pv 1) (pe_fld (pv 0) rfl))) (pss_one (ps_ret (pe_lst (pa_cons (pe_un un_neg pe_int) pa_nil)))) pss_nil)
      (pss_cons (ps_fld (pe_dget hu (pe_fld (pv 0) rfl) (pv 1) (fun _ _ => rfl)) (pe_fld (pv 0) rfl) rfl)
      (pss_one (ps_ret (pe_lst (pa_cons pe_int pa_nil)))))), ?_⟩
    obtain ⟨dx, h1⟩ := A0.ob
    obtain ⟨ks, kp, hd⟩ := A0.dict
    have ea : (valV (mkK am ks) (Sum.inl (i : Int))).isSome = h.machines.any fun m => m.id == i := (has_mkK i ks).trans (any_perm kp _)
    refine ⟨_, rfl, _, rfl, p, CH K, dx, _, _, rfl, h1, T.c_House, T.n_House_machines, rfl, dm, _, rfl, DGet.k (k := Sum.inl (i : Int)) hd, _, rfl, ?_⟩
    show if (!(valV (mkK am ks) (Sum.inl (i : Int))).isSome) = true then _ else _
    rw [ea]
    cases c : h.machines.any fun m => m.id == i with
    | false =>
      refine iteT ⟨_, rfl, one_line, fun l nl => q l _ ?_⟩
      have e : Rp04.step h (.beat i) = (h, Rp04.ok (-2)) := if_pos c
      rw [e]
      exact Done.no A0 nl
    | true =>
      obtain ⟨m, hm, em⟩ := List.any_eq_true.mp c
      have em : m.id = i := beq_iff_eq.mp em
      subst em
      have inj : ∀ a ∈ ks, ∀ b ∈ ks, a.id = b.id → a = b := fun a ha b hb e => WF.m_inj W.toWF0 (kp.mem_iff.mp ha) (kp.mem_iff.mp hb) e
      have hv : DGet H dm (kV (Sum.inl (m.id : Int))) (some (rm am m)) := by
        have z := DGet.k (H := H) (k := Sum.inl (m.id : Int)) hd
        rw [show (ks.map fun m => ((Sum.inl (m.id : Int) : Key), rm am m)) = mkK am ks from rfl, valV_mkK inj (kp.mem_iff.mpr hm)] at z
        exact z
      obtain ⟨da, ha⟩ := A0.mach m hm
      have e : Rp04.step h (.beat m.id) = ({ h with machines := reMach m { m with heard := h.now } h.machines }, Rp04.ok 0) := by
        refine (if_neg (by rw [c]; decide)).trans ?_
        have z : (h.machines.map fun n => if n.id = m.id then { n with heard := h.now } else n) = reMach m { m with heard := h.now } h.machines := by
          unfold reMach
          refine List.map_congr_left fun n hn => ?_
          by_cases c : n.id = m.id
          · rw [if_pos c, if_pos c, WF.m_inj W.toWF0 hn hm c]
          · rw [if_neg c, if_neg c]
        rw [z]
      rw [e] at q
      refine iteF ⟨_, rfl, p, CH K, dx, _, _, rfl, h1, T.c_House, T.n_House_now, rfl, _, rfl, p, CH K, dx, _, _, rfl, h1, T.c_House, T.n_House_machines, rfl, _, rfl, dm, _, rfl, hv, am m.id, CM K, da, _, rfl, ha, T.c_Machine, T.n_Machine_heard, lt4, one_line, fun l nl => q l _ ?_⟩
      have A1 := A0.setMach (m' := { m with heard := h.now }) hm ha rfl
      exact Done.of (a := Rp04.ok 0) (Eff.refl.ins ha) nl A1 (.inl rfl)
end
end Lr
end
section
set_option Elab.async false
set_option linter.all false
set_option maxRecDepth 100000
set_option maxHeartbeats 4000000
namespace Lr
open PySem L2 Mt LamX
open Rp04 (Machine Job House Ans Call)
def spStop (K : PySem.W.Frag) : Sp := fun vs H Q _ => ∃ (p dm dj dn : Addr) (am aj : Nat → Addr) (h : House) (j : Job) (m : Machine) (k : Nat), vs = [.ref p, rj aj j] ∧ HouseAt K H p dm dj dn am aj h ∧ WF0 h ∧ j ∈ h.jobs ∧ j.on = some (m.id, k) ∧ m ∈ h.machines ∧
  ∀ H' : Hp, Eff H H' dj → HouseAt K H' p dm dj dn am aj (stopped h j m) → Q .non H'
def spEnd (K : PySem.W.Frag) : Sp := fun vs H Q _ => ∃ (p dm dj dn : Addr) (am aj : Nat → Addr) (h : House) (j : Job) (how : Nat), vs = [.ref p, rj aj j, .int (how : Int)] ∧ HouseAt K H p dm dj dn am aj h ∧ h.jobs.length ≤ 14 ∧ h.ended.length ≤ 40 ∧ (∃ i ∈ h.jobs, i.id = j.id) ∧ (∀ x ∈ h.ended, x.1 ≠ j.id) ∧
  ∀ (dj' : Addr) (H' : Hp), Eff H H' dj → NewN H dj' → HouseAt K H' p dm dj' dn am aj (h.over j.id how) → Q .non H'
section
variable {P : Program} {w : World} {K : PySem.W.Frag} {mg : Str → Option Value} {base : Heap}
theorem sc_addj : FnScope ["self", "number", "labels", "urgency", "tries"] ["self", "number", "labels", "urgency", "tries"] (defScope s_House_add_job) := ⟨rfl, rfl, rfl, by decide +kernel, rfl, by decide +kernel, by decide +kernel⟩
theorem ok_addj (T : Ctx K mg) : Keeps P w K mg base 3 (He.ma K (He.ga K "House") "add_job") ["self", "number", "labels", "urgency", "tries"] (spAddJ K) := by
  obtain ⟨fd, F⟩ := T.f_House_add_job
  obtain ⟨fd1, F1, k1, b1⟩ := ok_jinit (P := P) (w := w) (base := base) T
  obtain ⟨fd2, F2, k2, b2⟩ := ok_most (P := P) (w := w) (base := base) T
  obtain ⟨fd3, F3, k3, b3⟩ := ok_taken (P := P) (w := w) (base := base) T
  obtain ⟨fd4, F4, k4, b4⟩ := ok_full (P := P) (w := w) (base := base) T
  obtain ⟨t1, m1⟩ := T.i_LABEL_SETS
  obtain ⟨t2, m2⟩ := T.i_MOST
  refine ⟨fd, F.ok sc_addj (fun vs H Q E h => ?_) (fun cdv A outer s H vs Q E hr h => ?_), F.kp, b_House_add_job F⟩
  · obtain ⟨i, l, u, t, p, dm, dj, dn, am, aj, h, rfl, _⟩ := h
    rfl
  · obtain ⟨i, l, u, t, p, dm, dj, dn, am, aj, h, rfl, A0, W, WE0, q⟩ := h
    have hr1 : Room 1 _ := hr.mono (by decide)
    refine ⟨_, PSs.nox (pss_cons (ps_if (PW.pt (pw_or (pt_cmpR op_ge (pv 2) (pe_glob rfl m1 rI) (nomark _)) (pw_or (pt_cmpR op_gt (pv 3) (pe_glob rfl m2 rI) (nomark _)) (pw_or1 (pt_not (pt_val (pe_call F2 hr1 rfl T.g_is_from_one_to_most k2 b2 .nil pass0 (pa_cons (pv 4) pa_nil))))))))
          (pss_one (ps_ret (pe_lst (pa_cons (pe_un un_neg pe_int) pa_nil)))) pss_nil)
      (pss_cons (ps_if (pt_val (pe_meth (pv 0) T.c_House T.m_House_is_job_number_taken F3 hr b3 .nil pass0 (pa_cons (pv 1) pa_nil))) (pss_one (ps_ret (pe_lst (pa_cons (pe_un un_neg pe_int) pa_nil)))) pss_nil)
      (pss_cons (ps_if (pt_val (pe_meth0 (pv 0) T.c_House T.m_House_is_full_of_jobs F4 hr1 b4 .nil pass0)) (pss_one (ps_ret (pe_lst (pa_cons (pe_un un_neg pe_int) pa_nil)))) pss_nil)
      (pss_cons (ps_expr (pe_bm PySem.F.plainAttrs_list PySem.F.slot_list_append PySem.F.type_list_append mt_append (pe_fld (pv 0) rfl) (pa_cons (pe_make T.k_Job F1 hr rfl T.g_Job b1 .nil pass0 (pa_cons (pv 1) (pa_cons (pv 2) (pa_cons (pv 3) (pa_cons (pv 4) (pa_cons (pe_fld (pv 0) rfl) pa_nil)))))) pa_nil)))
      (pss_one (ps_ret (pe_lst (pa_cons (pe_callB call_len_seq (by rfl) T.z_len PySem.boot_len (pa_cons (pe_fld (pv 0) rfl) pa_nil)) pa_nil)))))))), ?_⟩
    obtain ⟨dx, h1⟩ := A0.ob
    have no : ∀ n, Rp04.step h (.job i l u t) = (h, Rp04.ok n) → ∀ l, H l = none → Q (.ref l) (upd H l (.lst [.int n])) := fun n e l nl => q l _ (by rw [e]; exact Done.no A0 nl)
    have bad : (65536 ≤ l ∨ 1000000 < u ∨ t = 0 ∨ 1000000 < t) → Rp04.step h (.job i l u t) = (h, Rp04.ok (-1)) := fun z => if_pos z
    refine ⟨_, rfl, _, _, rfl, rfl, _, rfl, ?_⟩
    by_cases d1 : 65536 ≤ l
    · rw [decide_eq_true (show (l : Int) ≥ 65536 by omega)]
      exact iteT (iteT ⟨_, rfl, one_line, no (-1) (bad (.inl d1))⟩)
    rw [decide_eq_false (show ¬ (l : Int) ≥ 65536 by omega)]
    refine iteF ⟨_, rfl, _, _, rfl, rfl, _, rfl, ?_⟩
    by_cases d2 : 1000000 < u
    · rw [decide_eq_true (show (u : Int) > 1000000 by omega)]
      exact iteT (iteT ⟨_, rfl, one_line, no (-1) (bad (.inr (.inl d2)))⟩)
    rw [decide_eq_false (show ¬ (u : Int) > 1000000 by omega)]
    refine iteF ⟨_, rfl, t, rfl, _, rfl, ?_⟩
    by_cases d3 : ¬ (1 ≤ t ∧ t ≤ 1000000)
    · rw [decide_eq_false d3]
      exact iteT ⟨_, rfl, one_line, no (-1) (bad (.inr (.inr (by omega))))⟩
    replace d3 := Decidable.not_not.mp d3
    rw [decide_eq_true d3]
    have c1 : ¬ (65536 ≤ l ∨ 1000000 < u ∨ t = 0 ∨ 1000000 < t) := by omega
    refine iteF ⟨_, rfl, p, dx, _, rfl, h1, rfl, _, rfl, p, dm, dj, dn, am, aj, h, i, rfl, A0, _, rfl, ?_⟩
    cases c2 : h.known i with
    | true => exact iteT ⟨_, rfl, one_line, no (-4) ((if_neg c1).trans (if_pos c2))⟩
    | false =>
    have c2' : ¬ h.known i = true := by rw [c2]; decide
    refine iteF ⟨_, rfl, p, dx, _, rfl, h1, rfl, p, dm, dj, dn, am, aj, h, rfl, A0, _, rfl, ?_⟩
    have a40 := W.all
    by_cases c3 : h.jobs.length = 14 ∨ h.jobs.length + h.ended.length = 40
    · rw [decide_eq_true c3]
      exact iteT ⟨_, rfl, one_line, no (-7) ((if_neg c1).trans ((if_neg c2').trans (if_pos (by
        show h.jobs.length = 14 ∨ 40 ≤ h.jobs.length + h.ended.length
        omega))))⟩
    rw [decide_eq_false c3]
    have c3' : ¬ (h.jobs.length = 14 ∨ 40 ≤ h.jobs.length + h.ended.length) := by omega
    have es : Rp04.step h (.job i l u t) = ({ h with turns := h.turns + 1, jobs := h.jobs ++ [⟨i, l, u, h.now, h.turns, t, 0, none⟩] }, Rp04.ok (h.jobs.length + 1 : Nat)) := (if_neg c1).trans ((if_neg c2').trans (if_neg c3'))
    have j14 := W.jlen
    refine iteF ⟨_, rfl, p, CH K, dx, _, _, rfl, h1, T.c_House, T.n_House_jobs, rfl, .inl ⟨rfl, _, SqL.of A0.jobs⟩, _, rfl, _, rfl, _, rfl, _, rfl, _, rfl, p, CH K, dx, _, _, rfl, h1, T.c_House, T.n_House_now, rfl, fun x dy nx ny nxy => ⟨x, dy, i, l, u, t, h.now, h.turns, rfl, upd_same, rfl, ?_⟩⟩
    have s1 := same_made (C := CJ K) (o := .ins (CJ K) dy (jf ⟨i, l, u, h.now, h.turns, t, 0, none⟩)) nx ny
    have x1 : JobAt K (upd (upd (upd H dy (.own x)) x (.ins (CJ K) dy [])) x (.ins (CJ K) dy (jf ⟨i, l, u, h.now, h.turns, t, 0, none⟩))) x ⟨i, l, u, h.now, h.turns, t, 0, none⟩ := ⟨dy, upd_same⟩
    generalize upd (upd (upd H dy (.own x)) x (.ins (CJ K) dy [])) x (.ins (CJ K) dy (jf ⟨i, l, u, h.now, h.turns, t, 0, none⟩)) = H1 at s1 x1
    have nk : ∀ k ∈ h.jobs, k.id ≠ i := fun k hk e => c2' ((known_iff h i).mpr (.inl ⟨k, hk, e⟩))
    have A1 := (A0.same s1).addJob (t := h.turns + 1) x1 (fun k hk => let ⟨_, z⟩ := A0.job k hk; ne_of_none z nx) nk
    refine ⟨dj, _, _, rfl, rfl, s1 _ _ A0.jobs, small1000 (by rw [List.length_map]; omega), ?_⟩
    obtain ⟨dx2, h2⟩ := A1.ob
    refine ⟨_, rfl, p, CH K, dx2, _, _, rfl, h2, T.c_House, T.n_House_jobs, rfl, dj, _, rfl, .inl (SqL.of upd_same), one_line, fun r nr => q r _ ?_⟩
    rw [es]
    have E1 : Eff H (upd H1 dj (.lst (h.jobs.map (rj aj) ++ [.ref x]))) dj := (Eff.same s1).updj (s1 _ _ A0.jobs)
    have D := Done.of (a := Rp04.ok (h.jobs.length + 1 : Nat)) E1 nr A1 (.inl rfl)
    have ean : ansL (Rp04.ok (h.jobs.length + 1 : Nat)) = [V.int ((h.jobs.map (rj aj) ++ [V.ref x]).length : Nat)] := by
      rw [List.length_append, List.length_map]; rfl
    rw [ean] at D
    exact D
theorem sc_stop : FnScope ["self", "job", "machine"] ["self", "job"] (defScope s_House_stop_job) := ⟨rfl, rfl, rfl, by decide +kernel, rfl, by decide +kernel, by decide +kernel⟩
theorem ok_stop (T : Ctx K mg) : Keeps P w K mg base 2 (He.ma K (He.ga K "House") "stop_job") ["self", "job"] (spStop K) := by
  obtain ⟨fd, F⟩ := T.f_House_stop_job
  obtain ⟨fd1, F1, k1, b1⟩ := ok_wait (P := P) (w := w) (base := base) T
  refine ⟨fd, F.ok sc_stop (fun vs H Q E h => ?_) (fun cdv A outer s H vs Q E hr h => ?_), F.kp, b_House_stop_job F⟩
  · obtain ⟨p, dm, dj, dn, am, aj, h, j, m, k, rfl, _⟩ := h
    rfl
  · obtain ⟨p, dm, dj, dn, am, aj, h, j, m, k, rfl, A0, W, hj, ho, hm, q⟩ := h
    have hu := hu_of hr
    refine ⟨_, PSs.nox (pss_cons (ps_set (i := 2) sc_stop.nd rfl (Or.inl rfl) (pe_dget hu (pe_fld (pv 0) rfl) (pe_fld (pv 1) rfl) (fun _ _ => rfl)))
      (pss_cons (ps_expr (pe_meth0 (pv 1) T.c_Job T.m_Job_wait_again F1 hr b1 .nil pass0))
      (pss_one (ps_if (pt_val (pe_fld (pv 2) rfl)) (pss_one (ps_expr (pe_dpop1 (pe_fld (pv 0) rfl) (pe_fld (pv 2) rfl) ⟨rfl, rfl, rfl, rfl⟩))) pss_nil)))), ?_⟩
    obtain ⟨dx, h1⟩ := A0.ob
    obtain ⟨ks, kp, hd⟩ := A0.dict
    obtain ⟨da, ja⟩ := A0.job j hj
    have inj : ∀ a ∈ ks, ∀ b ∈ ks, a.id = b.id → a = b := fun a ha b hb e => WF.m_inj W (kp.mem_iff.mp ha) (kp.mem_iff.mp hb) e
    have vm : valV (mkK am ks) (Sum.inl (m.id : Int)) = some (rm am m) := valV_mkK inj (kp.mem_iff.mpr hm)
    have hv : DGet H dm (onM j.on) (some (rm am m)) := by
      rw [ho, ← vm]
      exact DGet.k (H := H) (k := Sum.inl (m.id : Int)) hd
    refine ⟨_, rfl, p, CH K, dx, _, _, rfl, h1, T.c_House, T.n_House_machines, rfl, _, rfl, aj j.id, CJ K, da, _, _, rfl, ja, T.c_Job, T.n_Job_runs_on, rfl, dm, _, rfl, hv, ?_⟩
    refine ⟨_, rfl, aj j.id, da, _, rfl, ja, rfl, aj j.id, da, j, rfl, ja, ?_⟩
    have A1 := A0.setJob (j' := { j with on := none }) hj ja rfl
    have E1 : Eff H (upd H (aj j.id) (.ins (CJ K) da (jf { j with on := none }))) dj := Eff.refl.ins ja
    generalize upd H (aj j.id) (.ins (CJ K) da (jf { j with on := none })) = H1 at A1 E1
    obtain ⟨dx1, h11⟩ := A1.ob
    obtain ⟨dm1, ma⟩ := A1.mach m hm
    obtain ⟨ks1, kp1, hd1⟩ := A1.dict
    refine ⟨_, rfl, am m.id, CM K, dm1, _, _, rfl, ma, T.c_Machine, T.n_Machine_leaving, rfl, _, rfl, ?_⟩
    cases c : m.leaving with
    | false =>
      have e : stopped h j m = { h with jobs := reJob j { j with on := none } h.jobs } := by unfold stopped; rw [c]; rfl
      rw [e] at q
      exact iteF (q H1 E1 A1)
    | true =>
      have e : stopped h j m = { h with jobs := reJob j { j with on := none } h.jobs, machines := h.machines.filter fun n => n.id != m.id } := by unfold stopped; rw [c]; rfl
      rw [e] at q
      have inj1 : ∀ a ∈ ks1, ∀ b ∈ ks1, a.id = b.id → a = b := fun a ha b hb e => WF.m_inj W (kp1.mem_iff.mp ha) (kp1.mem_iff.mp hb) e
      have v1 : valV (mkK am ks1) (Sum.inl (m.id : Int)) = some (rm am m) := valV_mkK inj1 (kp1.mem_iff.mpr hm)
      exact iteT ⟨_, rfl, p, CH K, dx1, _, _, rfl, h11, T.c_House, T.n_House_machines, rfl, dm, rfl, .inl ⟨_, .inl hd1⟩, _, rfl, am m.id, CM K, dm1, _, _, rfl, ma, T.c_Machine, T.n_Machine_number, rfl, mkK am ks1, Sum.inl (m.id : Int), _, hd1, rfl, v1, q _ (E1.dK hd1) (A1.pop kp1 hd1 m.id)⟩
theorem sc_end : FnScope ["self", "ended", "how", "job"] ["self", "ended", "how"] (defScope s_House_end_job) := ⟨rfl, rfl, rfl, by decide +kernel, rfl, by decide +kernel, by decide +kernel⟩
theorem ok_end (T : Ctx K mg) : Keeps P w K mg base 1 (He.ma K (He.ga K "House") "end_job") ["self", "ended", "how"] (spEnd K) := by
  obtain ⟨fd, F⟩ := T.f_House_end_job
  refine ⟨fd, F.ok sc_end (fun vs H Q E h => ?_) (fun cdv A outer s H vs Q E hr h => ?_), F.kp, b_House_end_job F⟩
  · obtain ⟨p, dm, dj, dn, am, aj, h, j, how, rfl, _⟩ := h
    rfl
  · obtain ⟨p, dm, dj, dn, am, aj, h, j, how, rfl, A0, l14, l40, ⟨j1, hj1, ej1⟩, nov, q⟩ := h
    have hu := hu_of hr
    refine ⟨_, PSs.nox (pss_cons (ps_fld (pv 0) (pe_lc (own := [("job", 3)]) (g := gName 3) (tt := tTest (tOp rNe (tFld K (tVar 3) "number") (tFld K (tVar 1) "number"))) (te := tVar 3) rfl sc_end.nd (pi_list (pe_fld (pv 0) rfl)) (blkOk_by (N := ["self", "ended", "how", "job"]) (sc := defScope s_House_end_job) (by decide +kernel))
        (fun _ _ _ _ _ => pg_name (i := 3) sc_end.nd rfl (Or.inl rfl)) (fun _ _ _ _ _ => pts_one (pt_cmpR op_ne (pe_fld (pv 3) rfl) (pe_fld (pv 1) rfl) (nomark _))) (fun _ _ _ _ _ => pv 3)) rfl)
      (pss_one (ps_dput hu (pe_fld (pv 0) rfl) (pe_fld (pv 1) rfl) (pv 2) rfl))), ?_⟩
    obtain ⟨dx, h1⟩ := A0.ob
    obtain ⟨da, ja⟩ := A0.job j1 hj1
    rw [ej1] at ja
    have jn : (jf j1).lookup ("number" : Str) = some (.int (j.id : Int)) := by rw [← ej1]; rfl
    refine ⟨_, rfl, p, CH K, dx, _, _, rfl, h1, T.c_House, T.n_House_jobs, rfl, dj, rfl, ⟨_, SqL.of A0.jobs⟩, fun D nD => ?_⟩
    refine lc_list (xs := h.jobs.map (rj aj)) (fun i H' => Same H H' ∧ H' D = some (.lst (((h.jobs.take i).filter fun i => i.id != j.id).map (rj aj)))) ⟨same_new nD (.lst []), upd_same⟩ (fun i H' _ ⟨s1, _⟩ => SqL.of (s1 _ _ A0.jobs)) ?_ ?_
    · rintro i y H1 hi ⟨s1, g1⟩
      obtain ⟨x, hx, rfl⟩ := cut_map hi
      obtain ⟨dc, xa⟩ := A0.job x (List.mem_of_getElem? hx)
      have et : h.jobs.take (i + 1) = h.jobs.take i ++ [x] := by rw [List.take_add_one, hx]; rfl
      refine ⟨rfl, _, rfl, aj x.id, CJ K, dc, _, _, rfl, s1 _ _ xa, T.c_Job, T.n_Job_number, rfl, _, rfl, aj j.id, CJ K, da, _, _, rfl, s1 _ _ ja, T.c_Job, T.n_Job_number, jn, rfl, _, rfl, ?_⟩
      rw [dec_nat]
      by_cases e : x.id = j.id
      · rw [beq_iff_eq.mpr e]
        refine iteF ⟨s1, ?_⟩
        rw [et, List.filter_append, List.filter_cons_of_neg (by simp [e]), List.filter_nil, List.append_nil]
        exact g1
      · rw [beq_eq_false_iff_ne.mpr e]
        refine iteT ⟨_, rfl, _, g1, ?_, fun b o z => ?_, ?_⟩
        · refine small1000 ?_
          rw [List.length_map]
          refine Nat.le_trans (List.length_filter_le _ _) ?_
          rw [List.length_take]
          omega
        · rw [upd_ne (ne_of_none z nD)]
          exact s1 b o z
        · rw [upd_same, et, List.filter_append, List.filter_cons_of_pos (by simp [e]), List.filter_nil, List.map_append]
          rfl
    · rintro H1 ⟨s1, g1⟩
      rw [List.length_map, List.take_length] at g1
      have A1 : HouseAt K (upd H1 p (.ins (CH K) dx (hf { h with jobs := h.jobs.filter fun i => i.id != j.id } dm D dn))) p dm D dn am aj { h with jobs := h.jobs.filter fun i => i.id != j.id } := (A0.same s1).setHouse (s1 _ _ h1) rfl (fun i hi => (List.mem_filter.mp hi).1) rfl g1
      have E1 : Eff H (upd H1 p (.ins (CH K) dx (hf { h with jobs := h.jobs.filter fun i => i.id != j.id } dm D dn))) dj := (Eff.same s1).ins (s1 _ _ h1)
      have j2 : upd H1 p (.ins (CH K) dx (hf { h with jobs := h.jobs.filter fun i => i.id != j.id } dm D dn)) (aj j.id) = some (.ins (CJ K) da (jf j1)) := by
        rw [upd_ne (ne_of (s1 _ _ ja) (s1 _ _ h1) fun z => hf_jf z.symm)]
        exact s1 _ _ ja
      refine ⟨_, rfl, p, CH K, dx, _, rfl, s1 _ _ h1, T.c_House, T.n_House_jobs, lt7, ?_⟩
      show (_ : Prop)
      refine ⟨_, rfl, _, rfl, p, CH K, dx, _, _, rfl, upd_same, T.c_House, T.n_House_over, rfl, _, rfl, aj j.id, CJ K, da, _, _, rfl, j2, T.c_Job, T.n_Job_number, jn, dn, _, rfl, DPut.k (k := Sum.inl (j.id : Int)) A1.over (small1000 (by unfold ovK; rw [List.length_map]; show h.ended.length ≤ 1000; omega)), ?_⟩
      exact q D _ (E1.dK A1.over) (NewN.of nD) (A1.putOver nov)
end
end Lr
end
section
set_option Elab.async false
set_option linter.all false
set_option maxRecDepth 100000
set_option maxHeartbeats 4000000
namespace Lr
open PySem L2 Mt LamX
open Rp04 (Machine Job House Ans Call)
def spResult (K : PySem.W.Frag) : Sp := fun vs H Q E => ∃ k n : Nat, spDo K (.result k n) [.int (k : Int), .int (n : Int)] vs H Q E
def spCancel (K : PySem.W.Frag) : Sp := fun vs H Q E => ∃ i : Nat, spDo K (.cancel i) [.int (i : Int)] vs H Q E
def spDrain (K : PySem.W.Frag) : Sp := fun vs H Q E => ∃ i : Nat, spDo K (.drain i) [.int (i : Int)] vs H Q E
theorem mem_re {j j' : Job} {l : List Job} (h : j ∈ l) : j' ∈ reJob j j' l := List.mem_map.mpr ⟨j, h, if_pos rfl⟩
section
variable {P : Program} {w : World} {K : PySem.W.Frag} {mg : Str → Option Value} {base : Heap}
theorem sc_result : FnScope ["self", "lease", "passed", "job"] ["self", "lease", "passed"] (defScope s_House_take_result) := ⟨rfl, rfl, rfl, by decide +kernel, rfl, by decide +kernel, by decide +kernel⟩
theorem ok_result (T : Ctx K mg) : Keeps P w K mg base 3 (He.ma K (He.ga K "House") "take_result") ["self", "lease", "passed"] (spResult K) := by
  obtain ⟨fd, F⟩ := T.f_House_take_result
  obtain ⟨fd1, F1, k1, b1⟩ := ok_byl (P := P) (w := w) (base := base) T
  obtain ⟨fd2, F2, k2, b2⟩ := ok_stop (P := P) (w := w) (base := base) T
  obtain ⟨fd3, F3, k3, b3⟩ := ok_end (P := P) (w := w) (base := base) T
  obtain ⟨t1, m1⟩ := T.i_PASSED
  obtain ⟨t2, m2⟩ := T.i_FAILED
  refine ⟨fd, F.ok sc_result (fun vs H Q E h => ?_) (fun cdv A outer s H vs Q E hr h => ?_), F.kp, b_House_take_result F⟩
  · obtain ⟨k, n, p, dm, dj, dn, am, aj, h, rfl, _⟩ := h
    rfl
  · obtain ⟨k, n, p, dm, dj, dn, am, aj, h, rfl, A0, W, WE0, q⟩ := h
    have hr1 : Room 1 _ := hr.mono (by decide)
    have nd := sc_result.nd
    refine ⟨_, PSs.nox (pss_cons (ps_set (i := 3) nd rfl (Or.inl rfl) (pe_meth (pv 0) T.c_House T.m_House_job_by_lease F1 hr1 b1 .nil pass0 (pa_cons (pv 1) pa_nil)))
      (pss_cons (ps_if (pt_cmpR op_isN (pv 3) pe_non (nomark _)) (pss_one (ps_ret (pe_lst (pa_cons (pe_un un_neg pe_int) pa_nil)))) pss_nil)
      (pss_cons (ps_expr (pe_meth (pv 0) T.c_House T.m_House_stop_job F2 hr b2 .nil pass0 (pa_cons (pv 3) pa_nil)))
      (pss_cons (ps_if (pt_cmpR op_ne (pv 2) pe_int (nomark _)) (pss_cons (ps_expr (pe_meth (pv 0) T.c_House T.m_House_end_job F3 hr1 b3 .nil pass0 (pa_cons (pv 3) (pa_cons (pe_glob rfl m1 rI) pa_nil)))) (pss_one (ps_ret (pe_lst (pa_cons pe_int pa_nil))))) pss_nil)
      (pss_cons (ps_if (pt_cmpR op_eq (pe_fld (pv 3) rfl) pe_int (nomark _)) (pss_cons (ps_expr (pe_meth (pv 0) T.c_House T.m_House_end_job F3 hr1 b3 .nil pass0 (pa_cons (pv 3) (pa_cons (pe_glob rfl m2 rI) pa_nil)))) (pss_one (ps_ret (pe_lst (pa_cons pe_int pa_nil))))) pss_nil)
      (pss_cons (ps_fldaug (pv 3) pe_int in_sub) (pss_one (ps_ret (pe_lst (pa_cons pe_int pa_nil)))))))))), ?_⟩
    obtain ⟨dx, h1⟩ := A0.ob
    refine ⟨_, rfl, p, dx, _, rfl, h1, rfl, _, rfl, p, dm, dj, dn, am, aj, h, k, rfl, A0, ?_⟩
    cases e : h.leaseOf k with
    | none =>
      have es : Rp04.step h (.result k n) = (h, Rp04.ok (-5)) := by
        show (match h.leaseOf k with | none => (h, Rp04.ok (-5)) | some j => _) = _
        rw [e]
      rw [es] at q
      exact ⟨_, rfl, rfl, _, rfl, iteT ⟨_, rfl, one_line, fun l nl => q l _ (Done.no A0 nl)⟩⟩
    | some j =>
      obtain ⟨hj, mi, ho⟩ := leaseOf_mem e
      obtain ⟨⟨m, hm, em⟩, _⟩ := W.on j hj _ ho
      have em : m.id = mi := em
      subst em
      have es : Rp04.step h (.result k n) = if n ≠ 0 then ((h.over j.id 1).tidy, Rp04.ok 1) else if j.tries = 1 then ((h.over j.id 0).tidy, Rp04.ok 0) else
          (({ h with jobs := Rp04.change j.id (fun i => { i with tries := i.tries - 1, on := none }) h.jobs } : House).tidy, Rp04.ok 2) := by
        show (match h.leaseOf k with | none => (h, Rp04.ok (-5)) | some j => _) = _
        rw [e]
      have j14 := W.jlen
      have a40 := W.all
      have l14 : (stopped h j m).jobs.length ≤ 14 := by
        show (reJob j { j with on := none } h.jobs).length ≤ 14
        unfold reJob
        rw [List.length_map]
        exact j14
      have l40 : (stopped h j m).ended.length ≤ 40 := by show h.ended.length ≤ 40; omega
      refine ⟨_, rfl, rfl, _, rfl, iteF ⟨_, rfl, p, dx, _, rfl, h1, rfl, _, rfl, p, dm, dj, dn, am, aj, h, j, m, k, rfl, A0, W.toWF0, hj, ho, hm, fun H1 E1 A1 => ?_⟩⟩
      obtain ⟨dx1, h11⟩ := A1.ob
      have fin : ∀ (how : Nat), Rp04.step h (.result k n) = ((h.over j.id how).tidy, Rp04.ok (how : Nat)) → ∀ (dj' : Addr) (H2 : Hp), Eff H1 H2 dj → NewN H1 dj' → HouseAt K H2 p dm dj' dn am aj ((stopped h j m).over j.id how) → ∀ l, H2 l = none → Q (.ref l) (upd H2 l (.lst [.int (how : Int)])) := fun how es dj' H2 E2 n2 A2 l nl => q l _ (by
        rw [es]
        rw [over_stop W hj ho hm] at A2
        exact Done.of (a := Rp04.ok (how : Nat)) (E1.trans E2) nl A2 (.inr (E1.new n2)))
      refine ⟨_, rfl, rfl, _, rfl, ?_⟩
      by_cases c : n = 0
      · rw [decide_eq_true (show V.int (n : Int) = V.int 0 by rw [c]; rfl)]
        obtain ⟨d1, ja⟩ := A1.job { j with on := none } (mem_re hj)
        refine iteF ⟨_, rfl, aj j.id, CJ K, d1, _, _, rfl, ja, T.c_Job, T.n_Job_tries, rfl, rfl, _, rfl, ?_⟩
        rw [if_neg (by simp [c])] at es
        by_cases c2 : j.tries = 1
        · rw [if_pos c2] at es
          rw [decide_eq_true (show V.int (j.tries : Int) = V.int 1 by rw [c2]; rfl)]
          exact iteT ⟨_, rfl, p, dx1, _, rfl, h11, rfl, _, rfl, p, dm, dj, dn, am, aj, stopped h j m, j, 0, rfl, A1, l14, l40, ⟨_, mem_re hj, rfl⟩, WE0.apart j hj, fun dj' H2 E2 n2 A2 => ⟨one_line, fin 0 es dj' H2 E2 n2 A2⟩⟩
        · rw [if_neg c2] at es
          rw [decide_eq_false (show ¬ V.int (j.tries : Int) = V.int 1 from fun z => c2 (by have := V.int.inj z; omega))]
          have tr := W.tries j hj
          have ef : putF "tries" (.int ((j.tries : Int) - 1)) (jf { j with on := none }) = jf { j with on := none, tries := j.tries - 1 } := by
            rw [show (j.tries : Int) - 1 = ((j.tries - 1 : Nat) : Int) by omega]
            rfl
          have A2 : HouseAt K (upd H1 (aj j.id) (.ins (CJ K) d1 (putF "tries" (.int ((j.tries : Int) - 1)) (jf { j with on := none })))) p dm dj dn am aj { stopped h j m with jobs := reJob j { j with on := none, tries := j.tries - 1 } (reJob j { j with on := none } h.jobs) } := by
            rw [ef]
            exact A1.setJob (j := { j with on := none }) (j' := { j with on := none, tries := j.tries - 1 }) (mem_re hj) ja rfl
          rw [again_stop W hj ho hm] at A2
          have E2 : Eff H (upd H1 (aj j.id) (.ins (CJ K) d1 (putF "tries" (.int ((j.tries : Int) - 1)) (jf { j with on := none })))) dj := E1.ins ja
          refine iteF ⟨_, rfl, aj j.id, CJ K, d1, _, _, rfl, ja, T.c_Job, T.n_Job_tries, rfl, _, _, rfl, rfl, d1, _, ja, lt8, one_line, fun l nl => q l _ ?_⟩
          rw [es]
          exact Done.of (a := Rp04.ok 2) E2 nl A2 (.inl rfl)
      · rw [decide_eq_false (show ¬ V.int (n : Int) = V.int 0 from fun z => c (by have := V.int.inj z; omega))]
        rw [if_pos c] at es
        exact iteT ⟨_, rfl, p, dx1, _, rfl, h11, rfl, _, rfl, p, dm, dj, dn, am, aj, stopped h j m, j, 1, rfl, A1, l14, l40, ⟨_, mem_re hj, rfl⟩, WE0.apart j hj, fun dj' H2 E2 n2 A2 => ⟨one_line, fin 1 es dj' H2 E2 n2 A2⟩⟩
theorem sc_cancel : FnScope ["self", "number", "job", "ran"] ["self", "number"] (defScope s_House_cancel) := ⟨rfl, rfl, rfl, by decide +kernel, rfl, by decide +kernel, by decide +kernel⟩
theorem ok_cancel (T : Ctx K mg) : Keeps P w K mg base 3 (He.ma K (He.ga K "House") "cancel") ["self", "number"] (spCancel K) := by
  obtain ⟨fd, F⟩ := T.f_House_cancel
  obtain ⟨fd1, F1, k1, b1⟩ := ok_here (P := P) (w := w) (base := base) T
  obtain ⟨fd2, F2, k2, b2⟩ := ok_stop (P := P) (w := w) (base := base) T
  obtain ⟨fd3, F3, k3, b3⟩ := ok_end (P := P) (w := w) (base := base) T
  obtain ⟨fd4, F4, k4, b4⟩ := ok_runs (P := P) (w := w) (base := base) T
  obtain ⟨t1, m1⟩ := T.i_CALLED_OFF
  refine ⟨fd, F.ok sc_cancel (fun vs H Q E h => ?_) (fun cdv A outer s H vs Q E hr h => ?_), F.kp, b_House_cancel F⟩
  · obtain ⟨i, p, dm, dj, dn, am, aj, h, rfl, _⟩ := h
    rfl
  · obtain ⟨i, p, dm, dj, dn, am, aj, h, rfl, A0, W, WE0, q⟩ := h
    have hr1 : Room 1 _ := hr.mono (by decide)
    have nd := sc_cancel.nd
    refine ⟨_, PSs.nox (pss_cons (ps_set (i := 2) nd rfl (Or.inl rfl) (pe_meth (pv 0) T.c_House T.m_House_job_here F1 hr1 b1 .nil pass0 (pa_cons (pv 1) pa_nil)))
      (pss_cons (ps_if (pt_cmpR op_isN (pv 2) pe_non (nomark _)) (pss_one (ps_ret (pe_lst (pa_cons (pe_un un_neg pe_int) pa_nil)))) pss_nil)
      (pss_cons (ps_set (i := 3) nd rfl (Or.inl rfl) (pe_meth0 (pv 2) T.c_Job T.m_Job_runs F4 hr1 b4 .nil pass0))
      (pss_cons (ps_if (pt_val (pv 3)) (pss_one (ps_expr (pe_meth (pv 0) T.c_House T.m_House_stop_job F2 hr b2 .nil pass0 (pa_cons (pv 2) pa_nil)))) pss_nil)
      (pss_cons (ps_expr (pe_meth (pv 0) T.c_House T.m_House_end_job F3 hr1 b3 .nil pass0 (pa_cons (pv 2) (pa_cons (pe_glob rfl m1 rI) pa_nil))))
      (pss_one (ps_ret (pe_lst (pa_cons (pe_ifExp (pt_val (pv 3)) pe_int pe_int) pa_nil))))))))), ?_⟩
    obtain ⟨dx, h1⟩ := A0.ob
    refine ⟨_, rfl, p, dx, _, rfl, h1, rfl, _, rfl, p, dm, dj, dn, am, aj, h, i, rfl, A0, ?_⟩
    cases e : h.jobOf i with
    | none =>
      have es : Rp04.step h (.cancel i) = (h, Rp04.ok (-2)) := by
        show (match h.jobOf i with | none => (h, Rp04.ok (-2)) | some j => _) = _
        rw [e]
      rw [es] at q
      exact ⟨_, rfl, rfl, _, rfl, iteT ⟨_, rfl, one_line, fun l nl => q l _ (Done.no A0 nl)⟩⟩
    | some j =>
      obtain ⟨hj, ei⟩ := jobOf_mem e
      have es : Rp04.step h (.cancel i) = ((h.over i 2).tidy, Rp04.ok (if j.on.isSome = true then 1 else 0)) := by
        show (match h.jobOf i with | none => (h, Rp04.ok (-2)) | some j => _) = _
        rw [e]
      subst ei
      have j14 := W.jlen
      have a40 := W.all
      obtain ⟨da, ja⟩ := A0.job j hj
      refine ⟨_, rfl, rfl, _, rfl, iteF ⟨_, rfl, aj j.id, da, _, rfl, ja, rfl, aj j.id, j, rfl, ⟨da, ja⟩, _, rfl, _, rfl, ?_⟩⟩
      cases ho : j.on with
      | none =>
        rw [ho] at es
        refine iteF ⟨_, rfl, p, dx, _, rfl, h1, rfl, _, rfl, p, dm, dj, dn, am, aj, h, j, 2, rfl, A0, j14, by omega, ⟨_, hj, rfl⟩, WE0.apart j hj, fun dj' H2 E2 n2 A2 => ⟨_, rfl, _, rfl, iteF ⟨one_line, fun l nl => q l _ ?_⟩⟩⟩
        rw [es]
        rw [over_wait W hj ho] at A2
        exact Done.of (a := Rp04.ok 0) E2 nl A2 (.inr n2)
      | some x =>
        rw [ho] at es
        obtain ⟨⟨m, hm, em⟩, _⟩ := W.on j hj _ ho
        obtain ⟨mi, k⟩ := x
        have em : m.id = mi := em
        subst em
        have l14 : (stopped h j m).jobs.length ≤ 14 := by
          show (reJob j { j with on := none } h.jobs).length ≤ 14
          unfold reJob
          rw [List.length_map]
          exact j14
        refine iteT ⟨_, rfl, p, dx, _, rfl, h1, rfl, _, rfl, p, dm, dj, dn, am, aj, h, j, m, k, rfl, A0, W.toWF0, hj, ho, hm, fun H1 E1 A1 => ?_⟩
        obtain ⟨dx1, h11⟩ := A1.ob
        refine ⟨_, rfl, p, dx1, _, rfl, h11, rfl, _, rfl, p, dm, dj, dn, am, aj, stopped h j m, j, 2, rfl, A1, l14, by show h.ended.length ≤ 40; omega, ⟨_, mem_re hj, rfl⟩, WE0.apart j hj, fun dj' H2 E2 n2 A2 => ⟨_, rfl, _, rfl, iteT ⟨one_line, fun l nl => q l _ ?_⟩⟩⟩
        rw [es]
        rw [over_stop W hj ho hm] at A2
        exact Done.of (a := Rp04.ok 1) (E1.trans E2) nl A2 (.inr (E1.new n2))
theorem sc_drain : FnScope ["self", "number", "machine"] ["self", "number"] (defScope s_House_drain) := ⟨rfl, rfl, rfl, by decide +kernel, rfl, by decide +kernel, by decide +kernel⟩
theorem ok_drain (T : Ctx K mg) : Keeps P w K mg base 2 (He.ma K (He.ga K "House") "drain") ["self", "number"] (spDrain K) := by
  obtain ⟨fd, F⟩ := T.f_House_drain
  obtain ⟨fd1, F1, k1, b1⟩ := ok_busy (P := P) (w := w) (base := base) T
  refine ⟨fd, F.ok sc_drain (fun vs H Q E h => ?_) (fun cdv A outer s H vs Q E hr h => ?_), F.kp, b_House_drain F⟩
  · obtain ⟨i, p, dm, dj, dn, am, aj, h, rfl, _⟩ := h
    rfl
  · obtain ⟨i, p, dm, dj, dn, am, aj, h, rfl, A0, W, WE0, q⟩ := h
    have hu := hu_of hr
    have nd := sc_drain.nd
    refine ⟨_, PSs.nox (pss_cons (ps_if (pt_cmp (pc_dnotin hu (pv 1) (pe_fld (pv 0) rfl))) (pss_one (ps_ret (pe_lst (pa_cons (pe_un un_neg pe_int) pa_nil)))) pss_nil)
      (pss_cons (ps_set (i := 2) nd rfl (Or.inl rfl) (pe_dget hu (pe_fld (pv 0) rfl) (pv 1) (fun _ _ => rfl)))
      (pss_cons (ps_if (pt_val (pe_fld (pv 2) rfl)) (pss_one (ps_ret (pe_lst (pa_cons (pe_un un_neg pe_int) pa_nil)))) pss_nil)
      (pss_cons (ps_if (pt_val (pe_meth (pv 0) T.c_House T.m_House_is_busy F1 hr b1 .nil pass0 (pa_cons (pv 2) pa_nil))) (pss_one (ps_fld (pv 2) pe_bl rfl)) (pss_one (ps_expr (pe_dpop1 (pe_fld (pv 0) rfl) (pv 1) ⟨rfl, rfl, rfl, rfl⟩))))
      (pss_one (ps_ret (pe_lst (pa_cons (pe_callB call_lenD (by rfl) T.z_len PySem.boot_len (pa_cons (pe_fld (pv 0) rfl) pa_nil)) pa_nil)))))))), ?_⟩
    obtain ⟨dx, h1⟩ := A0.ob
    obtain ⟨ks, kp, hd⟩ := A0.dict
    have ea : (valV (mkK am ks) (Sum.inl (i : Int))).isSome = h.machines.any fun m => m.id == i := (has_mkK i ks).trans (any_perm kp _)
    refine ⟨_, rfl, _, rfl, p, CH K, dx, _, _, rfl, h1, T.c_House, T.n_House_machines, rfl, dm, _, rfl, DGet.k (k := Sum.inl (i : Int)) hd, _, rfl, ?_⟩
    show if (!(valV (mkK am ks) (Sum.inl (i : Int))).isSome) = true then _ else _
    rw [ea]
    cases ef : h.machines.find? (fun m => m.id == i) with
    | none =>
      have ca : (h.machines.any fun m => m.id == i) = false := by
        rw [List.any_eq_false]
        exact fun m hm => List.find?_eq_none.mp ef m hm
      have es : Rp04.step h (.drain i) = (h, Rp04.ok (-2)) := by
        show (match h.machines.find? (fun m => m.id == i) with | none => (h, Rp04.ok (-2)) | some m => _) = _
        rw [ef]
      rw [es] at q
      rw [ca]
      exact iteT ⟨_, rfl, one_line, fun l nl => q l _ (Done.no A0 nl)⟩
    | some m =>
      have hm := List.mem_of_find?_eq_some ef
      have ei0 : (m.id == i) = true := List.find?_some (p := fun m : Machine => m.id == i) ef
      have ei : m.id = i := beq_iff_eq.mp ei0
      have ca : (h.machines.any fun m => m.id == i) = true := List.any_eq_true.mpr ⟨m, hm, beq_iff_eq.mpr ei⟩
      have es : Rp04.step h (.drain i) = if m.leaving = true then (h, Rp04.ok (-4)) else
          (({ h with machines := h.machines.map fun m => if m.id = i then { m with leaving := true } else m } : House).tidy, Rp04.ok ((({ h with machines := h.machines.map fun m => if m.id = i then { m with leaving := true } else m } : House).tidy).machines.length : Nat)) := by
        show (match h.machines.find? (fun m => m.id == i) with | none => (h, Rp04.ok (-2)) | some m => _) = _
        rw [ef]
      subst ei
      rw [ca]
      have inj : ∀ a ∈ ks, ∀ b ∈ ks, a.id = b.id → a = b := fun a ha b hb e => WF.m_inj W.toWF0 (kp.mem_iff.mp ha) (kp.mem_iff.mp hb) e
      have hv : DGet H dm (kV (Sum.inl (m.id : Int))) (some (rm am m)) := by
        have z := DGet.k (H := H) (k := Sum.inl (m.id : Int)) hd
        rw [show (ks.map fun m => ((Sum.inl (m.id : Int) : Key), rm am m)) = mkK am ks from rfl, valV_mkK inj (kp.mem_iff.mpr hm)] at z
        exact z
      obtain ⟨da, ha⟩ := A0.mach m hm
      refine iteF ⟨_, rfl, p, CH K, dx, _, _, rfl, h1, T.c_House, T.n_House_machines, rfl, _, rfl, dm, _, rfl, hv, ?_⟩
      refine ⟨_, rfl, am m.id, CM K, da, _, _, rfl, ha, T.c_Machine, T.n_Machine_leaving, rfl, _, rfl, ?_⟩
      cases c : m.leaving with
      | true =>
        rw [if_pos c] at es
        rw [es] at q
        exact iteT ⟨_, rfl, one_line, fun l nl => q l _ (Done.no A0 nl)⟩
      | false =>
        rw [if_neg (by rw [c]; decide)] at es
        refine iteF ⟨_, rfl, p, dx, _, rfl, h1, rfl, _, rfl, p, am m.id, dm, dj, dn, am, aj, h, m, rfl, A0, W.jlen, ⟨da, ha⟩, fun H1 s1 => ⟨_, rfl, ?_⟩⟩
        have A1 := A0.same s1
        have fin : ∀ (H2 : Hp) (h2 : House), Eff H H2 dj → HouseAt K H2 p dm dj dn am aj h2 → Rp04.step h (.drain m.id) = (h2, Rp04.ok (h2.machines.length : Nat)) → ∃ (dx2 : Addr) (kvs : List (Key × V)), H2 p = some (.ins (CH K) dx2 (hf h2 dm dj dn)) ∧ H2 dm = some (.dK kvs) ∧ ∀ l, H2 l = none → Q (.ref l) (upd H2 l (.lst [.int (kvs.length : Nat)])) := fun H2 h2 E2 A2 e2 => by
          obtain ⟨dx2, h22⟩ := A2.ob
          obtain ⟨ks2, kp2, hd2⟩ := A2.dict
          refine ⟨dx2, _, h22, hd2, fun l nl => q l _ ?_⟩
          rw [e2]
          have D := Done.of (a := Rp04.ok (h2.machines.length : Nat)) E2 nl A2 (.inl rfl)
          have ean : ansL (Rp04.ok (h2.machines.length : Nat)) = [V.int ((ks2.map fun m => ((Sum.inl (m.id : Int) : Key), rm am m)).length : Nat)] := by rw [List.length_map, kp2.length_eq]; rfl
          rw [ean] at D
          exact D
        cases c2 : busyB h m with
        | true =>
          have e2 := drain_busy W hm c2
          rw [e2] at es
          have A2 : HouseAt K (upd H1 (am m.id) (.ins (CM K) da (putF "leaving" (.bl true) (mf m)))) p dm dj dn am aj { h with machines := reMach m { m with leaving := true } h.machines } := A1.setMach (m' := { m with leaving := true }) hm (s1 _ _ ha) rfl
          have E2 : Eff H (upd H1 (am m.id) (.ins (CM K) da (putF "leaving" (.bl true) (mf m)))) dj := (Eff.same s1).ins (s1 _ _ ha)
          obtain ⟨dx2, kvs, g1, g2, g3⟩ := fin _ _ E2 A2 es
          exact iteT ⟨_, rfl, am m.id, CM K, da, _, rfl, s1 _ _ ha, T.c_Machine, T.n_Machine_leaving, lt4, _, rfl, p, CH K, dx2, _, _, rfl, g1, T.c_House, T.n_House_machines, rfl, dm, kvs, rfl, g2, one_line, g3⟩
        | false =>
          have e2 := drain_free W hm c2
          rw [e2] at es
          have A2 := A1.pop kp (s1 _ _ hd) m.id
          obtain ⟨dx2, kvs, g1, g2, g3⟩ := fin _ _ ((Eff.same s1).dK (s1 _ _ hd)) A2 es
          exact iteF ⟨_, rfl, p, CH K, dx, _, _, rfl, s1 _ _ h1, T.c_House, T.n_House_machines, rfl, dm, rfl, .inl ⟨_, .inl (s1 _ _ hd)⟩, _, rfl, mkK am ks, Sum.inl (m.id : Int), _, s1 _ _ hd, rfl, valV_mkK inj (kp.mem_iff.mpr hm), _, rfl, p, CH K, dx2, _, _, rfl, g1, T.c_House, T.n_House_machines, rfl, dm, kvs, rfl, g2, one_line, g3⟩
end
end Lr
end
section
set_option Elab.async false
set_option linter.all false
set_option maxRecDepth 100000
set_option maxHeartbeats 4000000
namespace Lr
open PySem L2 Mt LamX
open Rp04 (Machine Job House Ans Call)
def spTick (K : PySem.W.Frag) : Sp := fun vs H Q E => ∃ n : Nat, spDo K (.tick n) [.int (n : Int)] vs H Q E
theorem before_at {α : Type} {R : α → α → Prop} {l : List α} {i : Nat} {m : α} (h : l.Pairwise R) (e : l[i]? = some m) : ∀ x ∈ l.take i, R x m := by
  rw [split_at e, List.pairwise_append] at h
  exact fun x hx => h.2.2 x hx m List.mem_cons_self
theorem any_take_succ {α : Type} {l : List α} {i : Nat} {x : α} (h : l[i]? = some x) (f : α → Bool) : (l.take (i + 1)).any f = ((l.take i).any f || f x) := by
  rw [List.take_add_one, h, List.any_append]
  simp
def lostJ (j : Job) : Job := { j with on := none, lost := j.lost + 1 }
def outM (h : House) (n i : Nat) : List Machine := h.machines.filter fun m => !((gone h n).take i).any fun x => x.id == m.id
def aff (h : House) (n : Nat) : List Job := h.jobs.filter (onGone h n)
def fJ (h : House) (n i : Nat) (j : Job) : Job := if (((aff h n).take i).any fun x => x.id == j.id) = true then lostJ j else j
theorem fJ_id (h : House) (n i : Nat) (j : Job) : (fJ h n i j).id = j.id := by unfold fJ; split <;> rfl
theorem outM_zero (h : House) (n : Nat) : outM h n 0 = h.machines := by
  unfold outM
  rw [List.filter_eq_self]
  intro m _; rfl
theorem outM_succ {h : House} {n i : Nat} {m : Machine} (e : (gone h n)[i]? = some m) : outM h n (i + 1) = (outM h n i).filter fun x => x.id != m.id := by
  unfold outM
  rw [List.filter_filter]
  refine List.filter_congr fun x _ => ?_
  rw [any_take_succ e, Bool.not_or, Bool.and_comm]
  show ((m.id != x.id) && _) = ((x.id != m.id) && _)
  rw [bne_comm]
theorem outM_end {h : House} (W : WF0 h) (n : Nat) : outM h n (gone h n).length = h.machines.filter fun m => !(gone h n).contains m := by
  unfold outM
  rw [List.take_length]
  refine List.filter_congr fun m hm => ?_
  refine congrArg (!·) ?_
  rw [Bool.eq_iff_iff, List.any_eq_true, List.contains_iff_mem]
  constructor
  · rintro ⟨x, hx, e⟩
    have z := WF.m_inj W (List.mem_filter.mp hx).1 hm (beq_iff_eq.mp e)
    rw [← z]; exact hx
  · exact fun hx => ⟨m, hx, beq_iff_eq.mpr rfl⟩
theorem fJ_zero (h : House) (n : Nat) : h.jobs.map (fJ h n 0) = h.jobs := by
  conv => rhs; rw [← List.map_id h.jobs]
  exact List.map_congr_left fun j _ => rfl
theorem fJ_succ {h : House} (W : WF0 h) {n i : Nat} {x : Job} (e : (aff h n)[i]? = some x) (hx : fJ h n i x = x) :
    reJob { x with on := none } (lostJ x) (reJob x { x with on := none } (h.jobs.map (fJ h n i))) = h.jobs.map (fJ h n (i + 1)) := by
  have xm : x ∈ h.jobs := (List.mem_filter.mp (List.mem_of_getElem? e)).1
  unfold reJob
  rw [List.map_map, List.map_map]
  refine List.map_congr_left fun j hj => ?_
  show (if (if (fJ h n i j).id = x.id then ({ x with on := none } : Job) else fJ h n i j).id = ({ x with on := none } : Job).id then lostJ x else (if (fJ h n i j).id = x.id then ({ x with on := none } : Job) else fJ h n i j)) = fJ h n (i + 1) j
  have es : fJ h n (i + 1) j = if ((((aff h n).take i).any fun y => y.id == j.id) || x.id == j.id) = true then lostJ j else j := by unfold fJ; rw [any_take_succ e]
  by_cases c : j.id = x.id
  · have ej := WF.id_inj W hj xm c
    subst ej
    rw [if_pos (fJ_id h n i j), if_pos rfl, es, beq_self_eq_true, Bool.or_true, if_pos rfl]
  · have c1 : ¬ (fJ h n i j).id = x.id := by rw [fJ_id]; exact c
    rw [if_neg c1, if_neg c1, es, beq_eq_false_iff_ne.mpr (fun z => c z.symm), Bool.or_false]
    rfl
theorem fJ_end {h : House} (W : WF0 h) (n : Nat) : h.jobs.map (fJ h n (aff h n).length) = h.jobs.map fun j => if onGone h n j = true then { j with on := none, lost := j.lost + 1 } else j := by
  refine List.map_congr_left fun j hj => ?_
  unfold fJ
  rw [List.take_length]
  have e : ((aff h n).any fun x => x.id == j.id) = onGone h n j := by
    rw [Bool.eq_iff_iff, List.any_eq_true]
    constructor
    · rintro ⟨x, hx, e⟩
      obtain ⟨a, b⟩ := List.mem_filter.mp hx
      rw [← WF.id_inj W a hj (beq_iff_eq.mp e)]; exact b
    · exact fun z => ⟨j, List.mem_filter.mpr ⟨hj, z⟩, beq_iff_eq.mpr rfl⟩
  rw [e]
  rfl
theorem in_lost (h : House) (n : Nat) (j : Job) : inV (onM j.on) ((gone h n).map fun m => V.int (m.id : Int)) = onGone h n j := by
  unfold inV onGone
  rw [List.any_map]
  cases j.on with
  | none =>
    show ((gone h n).any fun m => eqV (V.int (m.id : Int)) V.non) = false
    rw [List.any_eq_false]
    intro m _ z; cases z
  | some x =>
    show ((gone h n).any fun m => eqV (V.int (m.id : Int)) (V.int (x.1 : Int))) = (gone h n).any fun m => m.id == x.1
    refine congrArg (fun f => (gone h n).any f) (funext fun m => ?_)
    show ((m.id : Int) == (x.1 : Int)) = (m.id == x.1)
    by_cases e : m.id = x.1
    · rw [e]; simp
    · rw [beq_eq_false_iff_ne.mpr (show (m.id : Int) ≠ (x.1 : Int) by omega), beq_eq_false_iff_ne.mpr e]
theorem fJ_self {h : House} (W : WF0 h) {n i : Nat} {x : Job} (e : (aff h n)[i]? = some x) : fJ h n i x = x := by
  unfold fJ
  refine if_neg fun z => ?_
  obtain ⟨y, hy, ey⟩ := List.any_eq_true.mp z
  have lt := before_at (W.turn.filter (onGone h n)) e y hy
  have ym : y ∈ h.jobs := (List.mem_filter.mp (List.mem_of_mem_take hy)).1
  have xm : x ∈ h.jobs := (List.mem_filter.mp (List.mem_of_getElem? e)).1
  rw [WF.id_inj W ym xm (beq_iff_eq.mp ey)] at lt
  omega
theorem gone_in {h : House} (W : WF0 h) {n i : Nat} {m : Machine} (e : (gone h n)[i]? = some m) : m ∈ outM h n i := by
  refine List.mem_filter.mpr ⟨(List.mem_filter.mp (List.mem_of_getElem? e)).1, ?_⟩
  rw [Bool.not_eq_true']
  rw [List.any_eq_false]
  intro x hx z
  have lt := before_at (W.ms.filter _) e x hx
  have := beq_iff_eq.mp z
  omega
section
variable {P : Program} {w : World} {K : PySem.W.Frag} {mg : Str → Option Value} {base : Heap}
abbrev nTick : List Str := ["self", "minutes", "lost", "job", "jobs", "number", "machine"]
theorem sc_tick : FnScope nTick ["self", "minutes"] (defScope s_House_tick) := ⟨rfl, rfl, rfl, by decide +kernel, rfl, by decide +kernel, by decide +kernel⟩
theorem ok_tick (T : Ctx K mg) : Keeps P w K mg base 3 (He.ma K (He.ga K "House") "tick") ["self", "minutes"] (spTick K) := by
  obtain ⟨fd, F⟩ := T.f_House_tick
  obtain ⟨fd1, F1, k1, b1⟩ := ok_bynum (P := P) (w := w) (base := base) T
  obtain ⟨fd2, F2, k2, b2⟩ := ok_lost (P := P) (w := w) (base := base) T
  obtain ⟨fd3, F3, k3, b3⟩ := ok_wait (P := P) (w := w) (base := base) T
  obtain ⟨t1, m1⟩ := T.i_MOST
  refine ⟨fd, F.ok sc_tick (fun vs H Q E h => ?_) (fun cdv A outer s H vs Q E hr h => ?_), F.kp, b_House_tick F⟩
  · obtain ⟨n, p, dm, dj, dn, am, aj, h, rfl, _⟩ := h
    rfl
  · obtain ⟨n, p, dm, dj, dn, am, aj, h, rfl, A0, W, WE0, q⟩ := h
    have hr1 : Room 1 _ := hr.mono (by decide)
    have nd := sc_tick.nd
    refine ⟨_, PSs.nox (pss_cons (ps_if (PW.pt (pw_or (pt_cmpR op_eq (pv 1) pe_int (nomark _)) (pw_or1 (pt_cmpR op_gt (pe_op op_add (pe_fld (pv 0) rfl) (pv 1)) (pe_glob rfl m1 rI) (nomark _))))) (pss_one (ps_ret (pe_lst (pa_cons (pe_un un_neg pe_int) pa_nil)))) pss_nil)
      (pss_cons (ps_fldaug (pv 0) (pv 1) in_add)
      (pss_cons (ps_set (i := 2) nd rfl (Or.inr rfl) (pe_lc (own := [("machine", 6)]) (g := gName 6) (tt := tB (tMeth (CH K) "is_lost" (spLost K) [] E0 (tVar 0) (tCons (tVar 6) tNil))) (te := tFld K (tVar 6) "number") rfl nd (pi_list (pe_meth0 (pv 0) T.c_House T.m_House_machines_by_number F1 hr1 b1 .nil pass0))
          (blkOk_by (N := nTick) (sc := defScope s_House_tick) (by decide +kernel)) (fun _ _ _ _ _ => pg_name (i := 6) nd rfl (Or.inl rfl)) (fun _ _ _ _ _ => pts_one (pt_val (pe_meth (pv 0) T.c_House T.m_House_is_lost F2 hr b2 .nil pass0 (pa_cons (pv 6) pa_nil)))) (fun _ _ _ _ _ => pe_fld (pv 6) rfl)))
      (pss_cons (ps_setLc (i := 4) (own := [("job", 3)]) (g := gName 3) (tt := tTest (tOp (rIn K false) (tFld K (tVar 3) "runs_on") (tVar 2))) (te := tVar 3) rfl nd rfl rfl (sw_true rfl rfl rfl (by decide +kernel)) (pi_list (pe_fld (pv 0) rfl))
          (blkOk_by (N := nTick) (sc := defScope s_House_tick) (by decide +kernel)) (fun _ _ _ _ _ => pg_name (i := 3) nd rfl (Or.inl rfl)) (fun _ _ _ _ _ => pts_one (pt_cmpR op_in_seq (pe_fld (pv 3) rfl) (pv 2) (by rfl))) (fun _ _ _ _ _ => pv 3))
      (pss_cons (ps_for PassesOwn.never rfl (pi_list (pv 2)) (pg_name (i := 5) nd rfl (Or.inl rfl)) (pss_one (ps_expr (pe_dpop1 (pe_fld (pv 0) rfl) (pv 5) ⟨rfl, rfl, rfl, rfl⟩))))
      (pss_cons (ps_for PassesOwn.never rfl (pi_list (pv 4)) (pg_name (i := 3) nd rfl (Or.inl rfl)) (pss_cons (ps_expr (pe_meth0 (pv 3) T.c_Job T.m_Job_wait_again F3 hr1 b3 .nil pass0)) (pss_one (ps_fldaug (pv 3) pe_int in_add))))
      (pss_one (ps_ret (pe_op op_cat (pe_op op_cat (pe_lst (pa_cons (pe_callB call_len_seq (by rfl) T.z_len PySem.boot_len (pa_cons (pv 2) pa_nil)) pa_nil)) (pv 2))
        (pe_lc (own := [("job", 3)]) (g := gName 3) (tt := tYes) (te := tFld K (tVar 3) "number") rfl nd (pi_list (pv 4)) (blkOk_by (N := nTick) (sc := defScope s_House_tick) (by decide +kernel)) (fun _ _ _ _ _ => pg_name (i := 3) nd rfl (Or.inl rfl)) (fun _ _ _ _ _ => pts_nil) (fun _ _ _ _ _ => pe_fld (pv 3) rfl))))))))))), ?_⟩
    obtain ⟨dx, h1⟩ := A0.ob
    have no : (n = 0 ∨ 1000000 < h.now + n) → ∀ l, H l = none → Q (.ref l) (upd H l (.lst [.int (-1)])) := fun z l nl => q l _ (by
      rw [show Rp04.step h (.tick n) = (h, Rp04.ok (-1)) from if_pos z]
      exact Done.no A0 nl)
    refine ⟨_, rfl, rfl, _, rfl, ?_⟩
    by_cases c1 : n = 0
    · rw [decide_eq_true (show V.int (n : Int) = V.int 0 by rw [c1]; rfl)]
      exact iteT (iteT ⟨_, rfl, one_line, no (.inl c1)⟩)
    rw [decide_eq_false (show ¬ V.int (n : Int) = V.int 0 from fun z => c1 (by have := V.int.inj z; omega))]
    refine iteF ⟨_, rfl, p, CH K, dx, _, _, rfl, h1, T.c_House, T.n_House_now, rfl, _, rfl, _, _, rfl, rfl, _, _, rfl, rfl, _, rfl, ?_⟩
    by_cases c2 : 1000000 < h.now + n
    · rw [decide_eq_true (show (h.now : Int) + (n : Int) > 1000000 by omega)]
      exact iteT ⟨_, rfl, one_line, no (.inr c2)⟩
    rw [decide_eq_false (show ¬ (h.now : Int) + (n : Int) > 1000000 by omega)]
    have es : Rp04.step h (.tick n) = (ticked h n, ⟨((gone h n).length : Nat), ((gone h n).map fun m => m.id) ++ (aff h n).map fun j => j.id⟩) := if_neg (by
      show ¬ (n = 0 ∨ 1000000 < h.now + n)
      omega)
    have ef : putF "now" (.int ((h.now : Int) + (n : Int))) (hf h dm dj dn) = hf { h with now := h.now + n } dm dj dn := by
      rw [show (h.now : Int) + (n : Int) = ((h.now + n : Nat) : Int) by omega]
      rfl
    have A1 : HouseAt K (upd H p (.ins (CH K) dx (putF "now" (.int ((h.now : Int) + (n : Int))) (hf h dm dj dn)))) p dm dj dn am aj { h with now := h.now + n } := by
      rw [ef]
      exact A0.setHouse h1 rfl (fun _ z => z) rfl A0.jobs
    have E1 : Eff H (upd H p (.ins (CH K) dx (putF "now" (.int ((h.now : Int) + (n : Int))) (hf h dm dj dn)))) dj := Eff.refl.ins h1
    refine iteF ⟨_, rfl, p, CH K, dx, _, _, rfl, h1, T.c_House, T.n_House_now, rfl, _, rfl, _, _, rfl, rfl, dx, _, h1, lt7, ?_⟩
    show (_ : Prop)
    generalize upd H p (.ins (CH K) dx (putF "now" (.int ((h.now : Int) + (n : Int))) (hf h dm dj dn))) = H1 at A1 E1
    have W1 : WF0 ({ h with now := h.now + n } : House) := ⟨W.lease, W.age, (by show h.now + n ≤ 1000000; omega), W.ms, W.mlen, fun m hm => Nat.le_trans (W.heard m hm) (Nat.le_add_right _ _), W.ids, W.turn, W.turns, W.jlen, fun j hj => Nat.le_trans (W.came j hj) (Nat.le_add_right _ _), W.tries, W.all, W.on, W.one⟩
    obtain ⟨dx1, h11⟩ := A1.ob
    have m7 := W.mlen
    have j14 := W.jlen
    refine ⟨_, rfl, p, dx1, _, rfl, h11, rfl, p, dm, dj, dn, am, aj, _, rfl, A1, W1, fun t H2 s2 nt t2 => ?_⟩
    refine ⟨t, rfl, ⟨_, SqL.of t2⟩, fun D nD => ?_⟩
    refine lc_list (xs := h.machines.map (rm am)) (fun i H' => Same H2 H' ∧ H' D = some (.lst (((h.machines.take i).filter fun m => decide (h.lease < h.now + n - m.heard)).map fun m => V.int (m.id : Int)))) ⟨same_new nD (.lst []), upd_same⟩ (fun i H' _ ⟨s1, _⟩ => SqL.of (s1 _ _ t2)) ?_ ?_
    · rintro i y H3 hi ⟨s3, g3⟩
      obtain ⟨m, hm, rfl⟩ := cut_map hi
      have mm := List.mem_of_getElem? hm
      have et : h.machines.take (i + 1) = h.machines.take i ++ [m] := by rw [List.take_add_one, hm]; rfl
      have A3 := A1.same (s2.trans s3)
      obtain ⟨dx3, h3⟩ := A3.ob
      obtain ⟨da, ha⟩ := A3.mach m mm
      refine ⟨rfl, _, rfl, p, dx3, _, rfl, h3, rfl, _, rfl, p, am m.id, dx3, dm, dj, dn, { h with now := h.now + n }, m, rfl, h3, ⟨da, ha⟩, W1.heard m mm, _, rfl, ?_⟩
      show if decide (h.lease < h.now + n - m.heard) = true then _ else _
      cases c : decide (h.lease < h.now + n - m.heard) with
      | false =>
        refine iteF ⟨s3, ?_⟩
        rw [et, List.filter_append, List.filter_cons_of_neg (by rw [c]; decide), List.filter_nil, List.append_nil]
        exact g3
      | true =>
        refine iteT ⟨_, rfl, am m.id, CM K, da, _, _, rfl, ha, T.c_Machine, T.n_Machine_number, rfl, _, g3, ?_, fun b o z => ?_, ?_⟩
        · refine small1000 ?_
          rw [List.length_map]
          refine Nat.le_trans (List.length_filter_le _ _) ?_
          rw [List.length_take]
          omega
        · rw [upd_ne (ne_of_none z nD)]
          exact s3 b o z
        · rw [upd_same, et, List.filter_append, List.filter_cons_of_pos (by rw [c]), List.filter_nil, List.map_append]
          rfl
    rintro H3 ⟨s3, g3⟩
    rw [List.length_map, List.take_length] at g3
    replace g3 : H3 D = some (.lst ((gone h n).map fun m => V.int (m.id : Int))) := g3
    have A3 := A1.same (s2.trans s3)
    have E3 := E1.go (s2.trans s3)
    have Dj : D ≠ dj := fun z => ne_of_none (s2 _ _ A1.jobs) nD z.symm
    clear s2 s3 t2 nt nD
    obtain ⟨dx3, h3⟩ := A3.ob
    -- jobs
    refine ⟨_, rfl, p, CH K, dx3, _, _, rfl, h3, T.c_House, T.n_House_jobs, rfl, dj, rfl, ⟨_, SqL.of A3.jobs⟩, fun J nJ => ?_⟩
    refine lc_list (xs := h.jobs.map (rj aj)) (fun i H' => Same H3 H' ∧ H' J = some (.lst (((h.jobs.take i).filter (onGone h n)).map (rj aj)))) ⟨same_new nJ (.lst []), upd_same⟩ (fun i H' _ ⟨s1, _⟩ => SqL.of (s1 _ _ A3.jobs)) ?_ ?_
    · rintro i y H4 hi ⟨s4, g4⟩
      obtain ⟨j, hj, rfl⟩ := cut_map hi
      obtain ⟨da, ja⟩ := A3.job j (List.mem_of_getElem? hj)
      have et : h.jobs.take (i + 1) = h.jobs.take i ++ [j] := by rw [List.take_add_one, hj]; rfl
      refine ⟨rfl, _, rfl, aj j.id, CJ K, da, _, _, rfl, s4 _ _ ja, T.c_Job, T.n_Job_runs_on, rfl, _, rfl, D, _, rfl, .inl (SqL.of (s4 _ _ g3)), onM_flat j.on, ?_, _, rfl, ?_⟩
      · rw [List.all_map, List.all_eq_true]
        exact fun m _ => rfl
      show if (if false = true then !inV (onM j.on) ((gone h n).map fun m => V.int (m.id : Int)) else inV (onM j.on) ((gone h n).map fun m => V.int (m.id : Int))) = true then _ else _
      rw [if_neg Bool.false_ne_true, in_lost]
      cases c : onGone h n j with
      | false =>
        refine iteF ⟨s4, ?_⟩
        rw [et, List.filter_append, List.filter_cons_of_neg (by rw [c]; decide), List.filter_nil, List.append_nil]
        exact g4
      | true =>
        refine iteT ⟨_, rfl, _, g4, ?_, fun b o z => ?_, ?_⟩
        · refine small1000 ?_
          rw [List.length_map]
          refine Nat.le_trans (List.length_filter_le _ _) ?_
          rw [List.length_take]
          omega
        · rw [upd_ne (ne_of_none z nJ)]
          exact s4 b o z
        · rw [upd_same, et, List.filter_append, List.filter_cons_of_pos (by rw [c]), List.filter_nil, List.map_append]
          rfl
    rintro H4 ⟨s4, g4⟩
    rw [List.length_map, List.take_length] at g4
    replace g4 : H4 J = some (.lst ((aff h n).map (rj aj))) := g4
    have A4 := A3.same s4
    have E4 := E3.go s4
    have Jj : J ≠ dj := fun z => ne_of_none A3.jobs nJ z.symm
    have g3' := s4 _ _ g3
    clear s4 nJ
    -- the machines that are lost go
    refine ⟨_, rfl, D, rfl, ⟨_, SqL.of g3'⟩, for_list (K := K) (a := D) (xs := (gone h n).map fun m => V.int (m.id : Int))
      (fun i σ H' => ∃ v3 v5 v6 : Option V, σ = [some (.ref p), some (.int (n : Int)), some (.ref D), v3, some (.ref J), v5, v6] ∧ Eff H4 H' dj ∧ HouseAt K H' p dm dj dn am aj { h with now := h.now + n, machines := outM h n i })
      ⟨_, _, _, rfl, Eff.refl, by rw [outM_zero]; exact A4⟩ (fun i σ H' _ ⟨_, _, _, _, E5, _⟩ => SqL.of (E5.keep _ _ g3' Dj)) ?_ ?_⟩
    · rintro i y σ H5 hi ⟨v3, v5, v6, rfl, E5, A5⟩
      obtain ⟨m, hm, rfl⟩ := cut_map hi
      obtain ⟨dx5, h5⟩ := A5.ob
      obtain ⟨ks, kp, hd⟩ := A5.dict
      have sub : ∀ x ∈ ks, x ∈ h.machines := fun x hx => (List.mem_filter.mp (kp.mem_iff.mp hx)).1
      have inj : ∀ a ∈ ks, ∀ b ∈ ks, a.id = b.id → a = b := fun a ha b hb e => WF.m_inj W.toWF0 (sub a ha) (sub b hb) e
      refine ⟨_, rfl, p, CH K, dx5, _, _, rfl, h5, T.c_House, T.n_House_machines, rfl, dm, rfl, .inl ⟨_, .inl hd⟩, _, rfl, mkK am ks, Sum.inl (m.id : Int), _, hd, rfl, valV_mkK inj (kp.mem_iff.mpr (gone_in W.toWF0 hm)), ?_⟩
      refine ⟨_, _, _, rfl, E5.dK hd, ?_⟩
      rw [outM_succ hm]
      exact A5.pop kp hd m.id
    rintro σ H5 ⟨v3, v5, v6, rfl, E5, A5⟩
    rw [List.length_map, outM_end W.toWF0] at A5
    have g35 := E5.keep _ _ g3' Dj
    have g45 := E5.keep _ _ g4 Jj
    have E45 := E4.trans E5
    -- their jobs wait again
    refine ⟨_, rfl, J, rfl, ⟨_, SqL.of g45⟩, for_list (K := K) (a := J) (xs := (aff h n).map (rj aj))
      (fun i σ H' => ∃ v3 v5 v6 : Option V, σ = [some (.ref p), some (.int (n : Int)), some (.ref D), v3, some (.ref J), v5, v6] ∧ Eff H5 H' dj ∧ HouseAt K H' p dm dj dn am aj { h with now := h.now + n, machines := h.machines.filter fun m => !(gone h n).contains m, jobs := h.jobs.map (fJ h n i) })
      ⟨_, _, _, rfl, Eff.refl, by rw [fJ_zero]; exact A5⟩ (fun i σ H' _ ⟨_, _, _, _, E6, _⟩ => SqL.of (E6.keep _ _ g45 Jj)) ?_ ?_⟩
    · rintro i y σ H6 hi ⟨v3, v5, v6, rfl, E6, A6⟩
      obtain ⟨x, hx, rfl⟩ := cut_map hi
      have xm : x ∈ h.jobs := (List.mem_filter.mp (List.mem_of_getElem? hx)).1
      have fx := fJ_self W.toWF0 hx
      have xm6 : x ∈ h.jobs.map (fJ h n i) := List.mem_map.mpr ⟨x, xm, fx⟩
      obtain ⟨da, ja⟩ := A6.job x xm6
      refine ⟨_, rfl, aj x.id, da, _, rfl, ja, rfl, aj x.id, da, x, rfl, ja, ?_⟩
      have A7 := A6.setJob (j' := { x with on := none }) xm6 ja rfl
      have E7 : Eff H5 (upd H6 (aj x.id) (.ins (CJ K) da (jf { x with on := none }))) dj := E6.ins ja
      have ja7 : upd H6 (aj x.id) (.ins (CJ K) da (jf { x with on := none })) (aj x.id) = some (.ins (CJ K) da (jf { x with on := none })) := upd_same
      generalize upd H6 (aj x.id) (.ins (CJ K) da (jf { x with on := none })) = H7 at A7 E7 ja7
      have ef2 : putF "times_lost" (.int ((x.lost : Int) + 1)) (jf { x with on := none }) = jf (lostJ x) := by
        rw [show (x.lost : Int) + 1 = ((x.lost + 1 : Nat) : Int) by omega]
        rfl
      have A8 : HouseAt K (upd H7 (aj x.id) (.ins (CJ K) da (putF "times_lost" (.int ((x.lost : Int) + 1)) (jf { x with on := none })))) p dm dj dn am aj { h with now := h.now + n, machines := h.machines.filter fun m => !(gone h n).contains m, jobs := h.jobs.map (fJ h n (i + 1)) } := by
        rw [ef2, ← fJ_succ W.toWF0 hx fx]
        exact A7.setJob (j := { x with on := none }) (j' := lostJ x) (mem_re xm6) ja7 rfl
      exact ⟨_, rfl, aj x.id, CJ K, da, _, _, rfl, ja7, T.c_Job, T.n_Job_times_lost, rfl, _, _, rfl, rfl, da, _, ja7, lt8, _, _, _, rfl, E7.ins ja7, A8⟩
    rintro σ H6 ⟨v3, v5, v6, rfl, E6, A6⟩
    rw [List.length_map, fJ_end W.toWF0] at A6
    replace A6 : HouseAt K H6 p dm dj dn am aj (ticked h n) := A6
    have g36 := E6.keep _ _ g35 Dj
    have g46 := E6.keep _ _ g45 Jj
    have E := E45.trans E6
    -- the answer
    have lg : (gone h n).length ≤ 7 := Nat.le_trans (List.length_filter_le _ _) m7
    have la : (aff h n).length ≤ 14 := Nat.le_trans (List.length_filter_le _ _) j14
    refine ⟨_, rfl, D, _, rfl, .inl (SqL.of g36), one_line, fun a na => ?_⟩
    have s7 := same_new na (.lst [V.int (((gone h n).map fun m => V.int (m.id : Int)).length : Nat)])
    refine ⟨_, rfl, a, D, _, _, rfl, rfl, upd_same, s7 _ _ g36, small100 (by rw [List.length_map, List.length_singleton]; omega), fun b nb => ?_⟩
    have s8 := s7.trans (same_new nb (.lst ([V.int (((gone h n).map fun m => V.int (m.id : Int)).length : Nat)] ++ (gone h n).map fun m => V.int (m.id : Int))))
    have gb := upd_same (H := upd H6 a (.lst [V.int (((gone h n).map fun m => V.int (m.id : Int)).length : Nat)])) (a := b) (o := .lst ([V.int (((gone h n).map fun m => V.int (m.id : Int)).length : Nat)] ++ (gone h n).map fun m => V.int (m.id : Int)))
    generalize upd (upd H6 a (.lst [V.int (((gone h n).map fun m => V.int (m.id : Int)).length : Nat)])) b (.lst ([V.int (((gone h n).map fun m => V.int (m.id : Int)).length : Nat)] ++ (gone h n).map fun m => V.int (m.id : Int))) = H8 at s8 gb
    refine ⟨_, rfl, J, rfl, ⟨_, SqL.of (s8 _ _ g46)⟩, fun c nc => ?_⟩
    refine lc_list (xs := (aff h n).map (rj aj)) (fun i H' => Same H8 H' ∧ H' c = some (.lst (((aff h n).take i).map fun j => V.int (j.id : Int)))) ⟨same_new nc (.lst []), upd_same⟩ (fun i H' _ ⟨s1, _⟩ => SqL.of (s1 _ _ (s8 _ _ g46))) ?_ ?_
    · rintro i y H9 hi ⟨s9, g9⟩
      obtain ⟨x, hx, rfl⟩ := cut_map hi
      obtain ⟨xm, xg⟩ := List.mem_filter.mp (List.mem_of_getElem? hx)
      have et : (aff h n).take (i + 1) = (aff h n).take i ++ [x] := by rw [List.take_add_one, hx]; rfl
      obtain ⟨da, ja⟩ := A6.job (lostJ x) (List.mem_map.mpr ⟨x, xm, if_pos xg⟩)
      refine ⟨rfl, _, rfl, aj x.id, CJ K, da, _, _, rfl, s9 _ _ (s8 _ _ ja), T.c_Job, T.n_Job_number, rfl, _, g9, small1000 (by rw [List.length_map, List.length_take]; omega), fun b o z => ?_, ?_⟩
      · rw [upd_ne (ne_of_none z nc)]
        exact s9 b o z
      · rw [upd_same, et, List.map_append]
        rfl
    rintro H9 ⟨s9, g9⟩
    rw [List.length_map, List.take_length] at g9
    refine ⟨b, c, _, _, rfl, rfl, s9 _ _ gb, g9, small100 (by simp only [List.length_append, List.length_map, List.length_singleton]; omega), fun l nl => q l _ ?_⟩
    rw [es]
    have D' := Done.of (a := ⟨((gone h n).length : Nat), ((gone h n).map fun m => m.id) ++ (aff h n).map fun j => j.id⟩) (E.go (s8.trans s9)) nl (A6.same (s8.trans s9)) (.inl rfl)
    have ean : ansL ⟨((gone h n).length : Nat), ((gone h n).map fun m => m.id) ++ (aff h n).map fun j => j.id⟩ = [V.int (((gone h n).map fun m => V.int (m.id : Int)).length : Nat)] ++ ((gone h n).map fun m => V.int (m.id : Int)) ++ (aff h n).map fun j => V.int (j.id : Int) := by
      unfold ansL Rp04Neutral.out
      simp only [List.map_cons, List.map_append, List.map_map, List.length_map]
      rfl
    rw [ean] at D'
    exact D'
end
end Lr
end
section
set_option Elab.async false
set_option linter.all false
set_option maxRecDepth 100000
set_option maxHeartbeats 4000000
namespace Lr
open PySem L2 Mt LamX
open Rp04 (Machine Job House Ans Call)
theorem HouseAt.lst {K : PySem.W.Frag} {H : Hp} {p dm dj dn : Addr} {am aj : Nat → Addr} {h : House} (A : HouseAt K H p dm dj dn am aj h) {g : Addr} {xs ys : List V} (hg : H g = some (.lst xs)) (ne : g ≠ dj) : HouseAt K (upd H g (.lst ys)) p dm dj dn am aj h := by
  have k : ∀ b u, H b = some u → (∀ zs, u ≠ .lst zs) → upd H g (.lst ys) b = some u := fun b u z d => by rw [upd_ne (ne_of z hg (d xs))]; exact z
  refine ⟨?_, ?_, by rw [upd_ne ne.symm]; exact A.jobs, k _ _ A.over nofun, fun m hm => ?_, fun j hj => ?_, A.ami, A.aji, tabs_upd A.tabs hg nofun nofun, A.dnm⟩
  · obtain ⟨d, z⟩ := A.ob
    exact ⟨d, k _ _ z fun _ y => by cases y⟩
  · obtain ⟨ks, z1, z2⟩ := A.dict
    exact ⟨ks, z1, k _ _ z2 nofun⟩
  · obtain ⟨d, z⟩ := A.mach m hm
    exact ⟨d, k _ _ z fun _ y => by cases y⟩
  · obtain ⟨d, z⟩ := A.job j hj
    exact ⟨d, k _ _ z fun _ y => by cases y⟩
theorem Eff.updN {H H1 : Hp} {dj x : Addr} {xs : List V} (e : Eff H H1 dj) (n : NewN H x) : Eff H (L2.upd H1 x (.lst xs)) dj :=
  ⟨fun b o z y => by rw [upd_ne (n b o z y)]; exact e.live b o z y, fun b xs z y => by rw [upd_ne (n b _ z nofun)]; exact e.keep b xs z y, fun b o u z => by rw [upd_ne (n b _ z nofun)]; exact e.frz b o u z⟩
theorem Done.eff {K : PySem.W.Frag} {H H' : Hp} {p dm' dj dj' dn' l : Addr} {am' aj' : Nat → Addr} {h' : House} {a : Ans} (e : Eff H H' dj) (nl : NewN H l) (g : H' l = some (.lst (ansL a))) (A : HouseAt K H' p dm' dj' dn' am' aj' h') (hd : dj' = dj ∨ NewN H dj') : Done K H H' p dj l (h', a) :=
  ⟨⟨dm', dj', dn', am', aj', A, hd⟩, g, nl, e.keep, e.frz⟩
theorem choose_nd {ms : List Machine} : ∀ (q l : List Job), ((l ++ q).map (·.id)).Nodup → ((Rp04.choose ms l q).map (·.id)).Nodup
  | [], l, h => by rw [List.append_nil] at h; exact h
  | j :: r, l, h => by
    show ((Rp04.choose ms (if Rp04.together (l ++ [j]) ms = true then l ++ [j] else l) r).map (·.id)).Nodup
    by_cases c : Rp04.together (l ++ [j]) ms = true
    · rw [if_pos c]
      exact choose_nd r _ (by rw [List.append_assoc]; exact h)
    · rw [if_neg c]
      refine choose_nd r l (h.sublist ?_)
      exact ((List.sublist_cons_self j r).append_left l).map _
theorem chosen_nd {h : House} (W : WF0 h) : (h.chosen.map (·.id)).Nodup := by
  refine choose_nd _ [] ?_
  rw [List.nil_append]
  have p : h.queue.Perm (h.jobs.filter fun j => j.on.isNone) := sort_perm _ _
  exact (p.map (·.id)).nodup_iff.mpr (W.ids.sublist (List.filter_sublist.map _))
theorem queue_mem {h : House} {j : Job} (hj : j ∈ h.queue) : j ∈ h.jobs := (List.mem_filter.mp ((sort_perm _ _).mem_iff.mp hj)).1
theorem queue_len (h : House) : h.queue.length ≤ h.jobs.length := by
  have p : h.queue.Perm (h.jobs.filter fun j => j.on.isNone) := sort_perm _ _
  rw [p.length_eq]
  exact List.length_filter_le _ _
theorem free_len (h : House) : h.free.length ≤ h.machines.length := List.length_filter_le _ _
section
variable {P : Program} {w : World} {K : PySem.W.Frag} {mg : Str → Option Value} {base : Heap}
abbrev TBq (K : PySem.W.Frag) (base : Heap) (mg : Str → Option Value) : Prop := TabB base mg (He.cT K ("House", some "queue")).1 (He.cT K ("House", some "queue")).2
theorem sc_placed : FnScope ["self", "machines", "chosen"] ["self"] (defScope s_House_placed_jobs) := ⟨rfl, rfl, rfl, by decide +kernel, rfl, by decide +kernel, by decide +kernel⟩
theorem ok_placed (T : Ctx K mg) (TB : TBq K base mg) : Keeps P w K mg base 13 (He.ma K (He.ga K "House") "placed_jobs") ["self"] (spPlaced K) := by
  obtain ⟨fd, F⟩ := T.f_House_placed_jobs
  obtain ⟨fd1, F1, k1, b1⟩ := ok_free (P := P) (w := w) (base := base) T
  obtain ⟨fd2, F2, k2, b2⟩ := ok_queue (P := P) (w := w) (base := base) T TB
  obtain ⟨fd3, F3, k3, b3⟩ := ok_choose (P := P) (w := w) (base := base) T
  obtain ⟨fd4, F4, k4, b4⟩ := ok_place (P := P) (w := w) (base := base) T
  refine ⟨fd, F.ok sc_placed (fun vs H Q E h => ?_) (fun cdv A outer s H vs Q E hr h => ?_), F.kp, b_House_placed_jobs F⟩
  · obtain ⟨p, dm, dj, dn, am, aj, h, rfl, _⟩ := h
    rfl
  · obtain ⟨p, dm, dj, dn, am, aj, h, rfl, A0, W, q⟩ := h
    have nd := sc_placed.nd
    refine ⟨_, PSs.nox (pss_cons (ps_set (i := 1) nd rfl (Or.inl rfl) (pe_meth0 (pv 0) T.c_House T.m_House_free_machines F1 (hr.mono (by decide)) b1 .nil pass0))
      (pss_cons (ps_set (i := 2) nd rfl (Or.inl rfl) (pe_call F3 (hr.mono (by decide)) rfl T.g_choose k3 b3 .nil pass0 (pa_cons (pe_meth0 (pv 0) T.c_House T.m_House_queue F2 (hr.mono (by decide)) b2 .nil pass0) (pa_cons (pv 1) pa_nil))))
      (pss_one (ps_ret (pe_listZip rfl rfl T.z_list rfl T.z_zip (pa_cons (pv 2) (pa_cons (pe_call F4 hr rfl T.g_place k4 b4 .nil pass0 (pa_cons (pv 2) (pa_cons (pv 1) pa_nil))) pa_nil))))))), ?_⟩
    obtain ⟨dx, h1⟩ := A0.ob
    have m7 := W.mlen
    have j14 := W.jlen
    refine ⟨_, rfl, p, dx, _, rfl, h1, rfl, p, dm, dj, dn, am, aj, h, rfl, A0, W, fun l1 H1 s1 n1 g1 => ?_⟩
    have A1 := A0.same s1
    obtain ⟨dx1, h11⟩ := A1.ob
    refine ⟨_, rfl, p, dx1, _, rfl, h11, rfl, p, dm, dj, dn, am, aj, h, rfl, A1, W, fun l2 H2 e2 t2 g2 n2 => ?_⟩
    have A2 := A1.ext e2 t2
    have M2 : MsAt K H2 am l1 h.free := ⟨e2 _ _ g1 nofun, fun m hm => (A2.mach m (List.mem_filter.mp hm).1).a, Nat.le_trans (free_len h) m7⟩
    have J2 : JsAt K H2 aj l2 h.queue := ⟨g2, fun j hj => (A2.job j (queue_mem hj)).a, by have := queue_len h; omega⟩
    refine ⟨_, rfl, am, aj, l1, l2, h.free, h.queue, rfl, M2, J2, fun l3 H3 s3 n3 g3 => ?_⟩
    have lc : h.chosen.length ≤ 7 := Nat.le_trans (Srv.le (chosen_srv h)) (Nat.le_trans (free_len h) m7)
    refine ⟨_, rfl, _, rfl, _, rfl, am, aj, l1, l3, h.free, h.chosen, rfl, M2.same s3, ⟨g3, fun j hj => ((A2.same s3).job j (chosen_mem hj).1).a, by omega⟩, chosen_srv h, fun l4 H4 ps s4 n4 hp hl hs g4 => ?_⟩
    have ep : h.placed = h.chosen.zip ps := Option.some.inj ((placed_some h).symm.trans hp)
    refine ⟨l3, l4, _, _, rfl, SqL.of (s4 _ _ g3), SqL.of g4, by rw [List.length_map, List.length_map, hl]; rfl, fun H5 lz ts k5 nz nts gz ltz tz => ?_⟩
    have e5 : ExtN H H5 := ((ExtN.of_same s1).trans e2).trans (ExtN.of_same ((s3.trans s4).trans k5))
    have t5 : Tabs (tabQ K) H5 := t2.ext ((s3.trans s4).trans k5)
    have nw : NewN H lz := NewN.back (NewN.of nz) (((ExtN.of_same s1).trans e2).trans (ExtN.of_same (s3.trans s4)))
    refine q lz ts H5 e5 t5 nw gz ?_ fun i t ht => ?_
    · rw [ltz, ep, List.length_zip, hl, List.length_map]
      exact (Nat.min_self _).symm
    · obtain ⟨x, y, hx, hy, g⟩ := tz i t ht
      obtain ⟨j, hj, rfl⟩ := cut_map hx
      obtain ⟨m, hm, rfl⟩ := cut_map hy
      exact ⟨(j, m), by rw [ep]; exact zip_get hj hm, g⟩
end
end Lr
end
section
set_option Elab.async false
set_option linter.all false
set_option maxRecDepth 100000
set_option maxHeartbeats 4000000
namespace Lr
open PySem L2 Mt LamX
open Rp04 (Machine Job House Ans Call)
def spServe (K : PySem.W.Frag) : Sp := fun vs H Q E => spDo K .serve [] vs H Q E
theorem starts_get : ∀ (k : Nat) (l : List (Job × Machine)) (i : Nat) (p : Job × Machine), l[i]? = some p → (Rp04.starts k l)[i]? = some (p.1.id, p.2.id, k + i)
  | _, [], _, _, h => by simp at h
  | k, x :: r, 0, p, h => by
    obtain rfl : x = p := by simpa using h
    rfl
  | k, x :: r, i + 1, p, h => by
    have z := starts_get (k + 1) r i p (by simpa using h)
    show (Rp04.starts (k + 1) r)[i]? = _
    rw [z]
    congr 3
    omega
theorem starts_ids : ∀ (k : Nat) (l : List (Job × Machine)), (Rp04.starts k l).map (·.1) = (l.map (·.1)).map (·.id)
  | _, [] => rfl
  | k, x :: r => by
    show x.1.id :: (Rp04.starts (k + 1) r).map (·.1) = x.1.id :: (r.map (·.1)).map (·.id)
    rw [starts_ids (k + 1) r]
theorem starts_pw {h : House} (W : WF0 h) : (Rp04.starts h.leases h.placed).Pairwise fun a b => a.1 ≠ b.1 := by
  have z : ((Rp04.starts h.leases h.placed).map (·.1)).Nodup := by
    rw [starts_ids, (placed_is h).1]
    exact chosen_nd W
  exact List.pairwise_map.mp z
theorem setOn_self {h : House} (W : WF0 h) {i : Nat} {x : Job × Machine} (e : h.placed[i]? = some x) : Rp04.setOn ((Rp04.starts h.leases h.placed).take i) x.1 = x.1 := by
  have ne := before_at (starts_pw W) (starts_get h.leases h.placed i x e)
  have z : ((Rp04.starts h.leases h.placed).take i).find? (fun y => y.1 == x.1.id) = none := List.find?_eq_none.mpr fun y hy q => ne y hy (beq_iff_eq.mp q)
  unfold Rp04.setOn
  rw [z]
theorem setOn_succ {h : House} (W : WF0 h) {i : Nat} {x : Job × Machine} (e : h.placed[i]? = some x) (hx : x.1 ∈ h.jobs) :
    reJob x.1 { x.1 with on := some (x.2.id, h.leases + i) } (h.jobs.map (Rp04.setOn ((Rp04.starts h.leases h.placed).take i))) = h.jobs.map (Rp04.setOn ((Rp04.starts h.leases h.placed).take (i + 1))) := by
  have eg := starts_get h.leases h.placed i x e
  have ne := before_at (starts_pw W) eg
  unfold reJob
  rw [List.map_map]
  refine List.map_congr_left fun j hj => ?_
  show (if (Rp04.setOn ((Rp04.starts h.leases h.placed).take i) j).id = x.1.id then { x.1 with on := some (x.2.id, h.leases + i) } else Rp04.setOn ((Rp04.starts h.leases h.placed).take i) j) = _
  rw [(setOn_id _ j).1]
  have et : (Rp04.starts h.leases h.placed).take (i + 1) = (Rp04.starts h.leases h.placed).take i ++ [(x.1.id, x.2.id, h.leases + i)] := by rw [List.take_add_one, eg]; rfl
  by_cases c : j.id = x.1.id
  · have ej := WF.id_inj W hj hx c
    have z : ((Rp04.starts h.leases h.placed).take i).find? (fun y => y.1 == x.1.id) = none := List.find?_eq_none.mpr fun y hy q => ne y hy (beq_iff_eq.mp q)
    rw [if_pos c, et, ej]
    unfold Rp04.setOn
    rw [List.find?_append, z]
    simp
  · rw [if_neg c, et]
    unfold Rp04.setOn
    rw [List.find?_append]
    have z : [(x.1.id, x.2.id, h.leases + i)].find? (fun y => y.1 == j.id) = none := List.find?_eq_none.mpr fun y hy q => by
      rw [List.mem_singleton.mp hy] at q
      exact c (beq_iff_eq.mp q).symm
    rw [z, Option.or_none]
theorem setOn_zero (h : House) : h.jobs.map (Rp04.setOn ((Rp04.starts h.leases h.placed).take 0)) = h.jobs := by
  conv => rhs; rw [← List.map_id h.jobs]
  exact List.map_congr_left fun j _ => rfl
/-- the placed, as pairs -/
def TupsAt (H : Hp) (aj am : Nat → Addr) (ts : List Addr) (pl : List (Job × Machine)) : Prop := ∀ (i : Nat) (t : Addr), ts[i]? = some t → ∃ x, pl[i]? = some x ∧ H t = some (.tup [rj aj x.1, rm am x.2])
theorem TupsAt.same {H H' : Hp} {aj am : Nat → Addr} {ts : List Addr} {pl : List (Job × Machine)} (h : TupsAt H aj am ts pl) (s : Same H H') : TupsAt H' aj am ts pl := fun i t e => let ⟨x, a, b⟩ := h i t e; ⟨x, a, s _ _ b⟩
theorem TupsAt.upd {H : Hp} {aj am : Nat → Addr} {ts : List Addr} {pl : List (Job × Machine)} {x : Addr} {o o' : HO} (h : TupsAt H aj am ts pl) (hx : H x = some o) (n : ∀ xs, o ≠ .tup xs) : TupsAt (L2.upd H x o') aj am ts pl := fun i t e => let ⟨y, a, b⟩ := h i t e; ⟨y, a, by rw [upd_ne (ne_of b hx fun z => n _ z.symm)]; exact b⟩
def tri (x : Nat × Nat × Nat) : List V := [.int (x.1 : Int), .int (x.2.1 : Int), .int (x.2.2 : Int)]
theorem three_line : 3 ≤ sizeLine := by decide
theorem four_line : 4 ≤ sizeLine := by decide
theorem two_line : 2 ≤ sizeLine := by decide
theorem flat_len {α β : Type} (f : α → List β) (k : Nat) (hf : ∀ x, (f x).length = k) : ∀ l : List α, (l.flatMap f).length = l.length * k
  | [] => by simp
  | x :: l => by rw [List.flatMap_cons, List.length_append, hf, flat_len f k hf l, List.length_cons, Nat.add_mul, Nat.one_mul, Nat.add_comm]
theorem flat_take {α β : Type} (f : α → List β) {l : List α} {i : Nat} {x : α} (h : l[i]? = some x) : (l.take (i + 1)).flatMap f = (l.take i).flatMap f ++ f x := by
  rw [List.take_add_one, h, List.flatMap_append]
  simp
theorem small_line {n : Nat} (h : n ≤ 1000) : n ≤ sizeLine := Nat.le_of_lt (small1000 h)
theorem ansL_flat {α : Type} (v : Nat) (l : List α) (f : α → List Nat) : ansL ⟨(v : Nat), l.flatMap f⟩ = V.int (v : Int) :: l.flatMap fun x => (f x).map fun (n : Nat) => V.int (n : Int) := by
  unfold ansL Rp04Neutral.out
  rw [List.map_cons, List.map_map]
  refine congrArg (V.int (v : Int) :: ·) ?_
  rw [List.map_flatMap]
  rfl
section
variable {P : Program} {w : World} {K : PySem.W.Frag} {mg : Str → Option Value} {base : Heap}
theorem sc_serve : FnScope ["self", "placed", "answer", "job", "machine"] ["self"] (defScope s_House_serve) := ⟨rfl, rfl, rfl, by decide +kernel, rfl, by decide +kernel, by decide +kernel⟩
theorem ok_serve (T : Ctx K mg) (TB : TBq K base mg) : Keeps P w K mg base 14 (He.ma K (He.ga K "House") "serve") ["self"] (spServe K) := by
  obtain ⟨fd, F⟩ := T.f_House_serve
  obtain ⟨fd1, F1, k1, b1⟩ := ok_placed (P := P) (w := w) (base := base) T TB
  obtain ⟨fd2, F2, k2, b2⟩ := ok_run (P := P) (w := w) (base := base) T
  refine ⟨fd, F.ok sc_serve (fun vs H Q E h => ?_) (fun cdv A outer s H vs Q E hr h => ?_), F.kp, b_House_serve F⟩
  · obtain ⟨p, dm, dj, dn, am, aj, h, rfl, _⟩ := h
    rfl
  · obtain ⟨p, dm, dj, dn, am, aj, h, rfl, A0, W, WE0, q⟩ := h
    have nd := sc_serve.nd
    have hr1 : Room 1 _ := hr.mono (by decide)
    refine ⟨_, PSs.nox (pss_cons (ps_set (i := 1) nd rfl (Or.inl rfl) (pe_meth0 (pv 0) T.c_House T.m_House_placed_jobs F1 hr b1 .nil pass0))
      (pss_cons (ps_set (i := 2) nd rfl (Or.inl rfl) (pe_lst (pa_cons (pe_callB call_len_seq (by rfl) T.z_len PySem.boot_len (pa_cons (pv 1) pa_nil)) pa_nil)))
      (pss_cons (ps_for PassesOwn.never rfl (pi_list (pv 1)) (pg_tup rfl (pgs_cons (pg_name (i := 3) nd rfl (Or.inl rfl)) (pgs_cons (pg_name (i := 4) nd rfl (Or.inl rfl)) pgs_nil)))
        (pss_cons (ps_expr (pe_meth (pv 3) T.c_Job T.m_Job_run F2 hr1 b2 .nil pass0 (pa_cons (pv 4) (pa_cons (pe_fld (pv 0) rfl) pa_nil))))
        (pss_cons (ps_fldaug (pv 0) pe_int in_add)
        (pss_one (ps_expr (pe_bm PySem.F.plainAttrs_list PySem.F.slot_list_extend PySem.F.type_list_extend mt_extend (pv 2) (pa_cons (pe_lst (pa_cons (pe_fld (pv 3) rfl) (pa_cons (pe_fld (pv 4) rfl) (pa_cons (pe_fld (pv 3) rfl) pa_nil)))) pa_nil)))))))
      (pss_one (ps_ret (pv 2)))))), ?_⟩
    obtain ⟨dx, h1⟩ := A0.ob
    have m7 := W.mlen
    have j14 := W.jlen
    have pl7 : h.placed.length ≤ 7 := by
      have z : h.placed.length = h.chosen.length := by rw [← (placed_is h).1, List.length_map]
      rw [z]
      exact Nat.le_trans (Srv.le (chosen_srv h)) (Nat.le_trans (free_len h) m7)
    refine ⟨_, rfl, p, dx, _, rfl, h1, rfl, p, dm, dj, dn, am, aj, h, rfl, A0, W, fun l ts H1 e1 t1 nl gl lt1 tz => ?_⟩
    have A1 := A0.ext e1 t1
    replace tz : TupsAt H1 aj am ts h.placed := tz
    refine ⟨_, rfl, l, _, rfl, .inl (SqL.of gl), one_line, fun a na => ?_⟩
    have sa := same_new na (.lst [V.int (((ts.map V.ref).length : Nat) : Int)])
    have ea : (((ts.map V.ref).length : Nat) : Int) = (h.placed.length : Int) := by rw [List.length_map, lt1]
    have na0 : NewN H a := NewN.back (NewN.of na) e1
    have ldj : l ≠ dj := fun z => nl _ _ A0.jobs nofun z.symm
    have adj : a ≠ dj := fun z => ne_of_none A1.jobs na z.symm
    have E0' : Eff H1 (upd H1 a (.lst [V.int (((ts.map V.ref).length : Nat) : Int)])) dj := Eff.same sa
    refine ⟨_, rfl, l, rfl, ⟨_, SqL.of (sa _ _ gl)⟩, for_list (K := K) (a := l) (xs := ts.map V.ref)
      (fun i σ H' => ∃ v3 v4 : Option V, σ = [some (.ref p), some (.ref l), some (.ref a), v3, v4] ∧ Eff H1 H' dj ∧ TupsAt H' aj am ts h.placed ∧ H' a = some (.lst (V.int (h.placed.length : Int) :: ((Rp04.starts h.leases h.placed).take i).flatMap tri)) ∧
        HouseAt K H' p dm dj dn am aj { h with leases := h.leases + i, jobs := h.jobs.map (Rp04.setOn ((Rp04.starts h.leases h.placed).take i)) })
      ⟨_, _, rfl, E0', tz.same sa, by rw [upd_same, ea]; rfl, by rw [setOn_zero]; exact A1.same sa⟩ (fun i σ H' _ ⟨_, _, _, E2, _⟩ => SqL.of (E2.keep _ _ gl ldj)) ?_ ?_⟩
    · rintro i y σ H2 hi ⟨v3, v4, rfl, E2, tz2, g2, A2⟩
      obtain ⟨t, ht, rfl⟩ := cut_map hi
      obtain ⟨x, hx, gt⟩ := tz2 i t ht
      have xp : x ∈ h.placed := List.mem_of_getElem? hx
      have xc : x.1 ∈ h.chosen := by rw [← (placed_is h).1]; exact List.mem_map.mpr ⟨x, xp, rfl⟩
      have xj : x.1 ∈ h.jobs := (chosen_mem xc).1
      have xm : x.2 ∈ h.machines := (List.mem_filter.mp ((placed_is h).2.2 x xp).1).1
      have i7 : i < h.placed.length := (List.getElem?_eq_some_iff.mp hx).1
      have xs2 : x.1 ∈ h.jobs.map (Rp04.setOn ((Rp04.starts h.leases h.placed).take i)) := List.mem_map.mpr ⟨x.1, xj, setOn_self W.toWF0 hx⟩
      obtain ⟨da, ja⟩ := A2.job x.1 xs2
      obtain ⟨dx2, h2⟩ := A2.ob
      have mx := A2.mach x.2 xm
      refine ⟨t, _, rfl, SqT.of gt, rfl, _, _, rfl, _, _, rfl, rfl, ?_⟩
      refine ⟨_, rfl, aj x.1.id, da, _, rfl, ja, rfl, _, rfl, _, rfl, p, CH K, dx2, _, _, rfl, h2, T.c_House, T.n_House_next_lease, rfl, aj x.1.id, am x.2.id, da, x.1, x.2, h.leases + i, rfl, ja, mx, ?_⟩
      have A3 := A2.setJob (j' := { x.1 with on := some (x.2.id, h.leases + i) }) xs2 ja rfl
      have E3 : Eff H1 (upd H2 (aj x.1.id) (.ins (CJ K) da (jf { x.1 with on := some (x.2.id, h.leases + i) }))) dj := E2.ins ja
      have tz3 : TupsAt (upd H2 (aj x.1.id) (.ins (CJ K) da (jf { x.1 with on := some (x.2.id, h.leases + i) }))) aj am ts h.placed := tz2.upd ja (fun _ z => by cases z)
      have g3 : upd H2 (aj x.1.id) (.ins (CJ K) da (jf { x.1 with on := some (x.2.id, h.leases + i) })) a = some (.lst (V.int (h.placed.length : Int) :: ((Rp04.starts h.leases h.placed).take i).flatMap tri)) := by
        rw [upd_ne (ne_of g2 ja fun z => by cases z)]; exact g2
      have ja3 : upd H2 (aj x.1.id) (.ins (CJ K) da (jf { x.1 with on := some (x.2.id, h.leases + i) })) (aj x.1.id) = some (.ins (CJ K) da (jf { x.1 with on := some (x.2.id, h.leases + i) })) := upd_same
      generalize upd H2 (aj x.1.id) (.ins (CJ K) da (jf { x.1 with on := some (x.2.id, h.leases + i) })) = H3 at A3 E3 tz3 g3 ja3
      obtain ⟨dx3, h3⟩ := A3.ob
      have ef : putF "next_lease" (.int (((h.leases + i : Nat) : Int) + 1)) (hf ({ h with leases := h.leases + i, jobs := reJob x.1 { x.1 with on := some (x.2.id, h.leases + i) } (h.jobs.map (Rp04.setOn ((Rp04.starts h.leases h.placed).take i))) } : House) dm dj dn) = hf { h with leases := h.leases + (i + 1), jobs := reJob x.1 { x.1 with on := some (x.2.id, h.leases + i) } (h.jobs.map (Rp04.setOn ((Rp04.starts h.leases h.placed).take i))) } dm dj dn := by
        rw [show ((h.leases + i : Nat) : Int) + 1 = ((h.leases + (i + 1) : Nat) : Int) by omega]
        rfl
      refine ⟨_, rfl, p, CH K, dx3, _, _, rfl, h3, T.c_House, T.n_House_next_lease, rfl, _, _, rfl, rfl, dx3, _, h3, lt7, ?_⟩
      have A4 : HouseAt K (upd H3 p (.ins (CH K) dx3 (putF "next_lease" (.int (((h.leases + i : Nat) : Int) + 1)) (hf ({ h with leases := h.leases + i, jobs := reJob x.1 { x.1 with on := some (x.2.id, h.leases + i) } (h.jobs.map (Rp04.setOn ((Rp04.starts h.leases h.placed).take i))) } : House) dm dj dn)))) p dm dj dn am aj { h with leases := h.leases + (i + 1), jobs := reJob x.1 { x.1 with on := some (x.2.id, h.leases + i) } (h.jobs.map (Rp04.setOn ((Rp04.starts h.leases h.placed).take i))) } := by
        rw [ef]
        exact A3.setHouse h3 rfl (fun _ z => z) rfl A3.jobs
      have E4 : Eff H1 (upd H3 p (.ins (CH K) dx3 (putF "next_lease" (.int (((h.leases + i : Nat) : Int) + 1)) (hf ({ h with leases := h.leases + i, jobs := reJob x.1 { x.1 with on := some (x.2.id, h.leases + i) } (h.jobs.map (Rp04.setOn ((Rp04.starts h.leases h.placed).take i))) } : House) dm dj dn)))) dj := E3.ins h3
      have tz4 := tz3.upd (o' := .ins (CH K) dx3 (putF "next_lease" (.int (((h.leases + i : Nat) : Int) + 1)) (hf ({ h with leases := h.leases + i, jobs := reJob x.1 { x.1 with on := some (x.2.id, h.leases + i) } (h.jobs.map (Rp04.setOn ((Rp04.starts h.leases h.placed).take i))) } : House) dm dj dn))) h3 (fun _ z => by cases z)
      have g4 : upd H3 p (.ins (CH K) dx3 (putF "next_lease" (.int (((h.leases + i : Nat) : Int) + 1)) (hf ({ h with leases := h.leases + i, jobs := reJob x.1 { x.1 with on := some (x.2.id, h.leases + i) } (h.jobs.map (Rp04.setOn ((Rp04.starts h.leases h.placed).take i))) } : House) dm dj dn))) a = some (.lst (V.int (h.placed.length : Int) :: ((Rp04.starts h.leases h.placed).take i).flatMap tri)) := by
        rw [upd_ne (ne_of g3 h3 fun z => by cases z)]; exact g3
      have ja4 : upd H3 p (.ins (CH K) dx3 (putF "next_lease" (.int (((h.leases + i : Nat) : Int) + 1)) (hf ({ h with leases := h.leases + i, jobs := reJob x.1 { x.1 with on := some (x.2.id, h.leases + i) } (h.jobs.map (Rp04.setOn ((Rp04.starts h.leases h.placed).take i))) } : House) dm dj dn))) (aj x.1.id) = some (.ins (CJ K) da (jf { x.1 with on := some (x.2.id, h.leases + i) })) := by
        rw [upd_ne (ne_of ja3 h3 fun z => hf_jf z.symm)]; exact ja3
      show (_ : Prop)
      generalize upd H3 p (.ins (CH K) dx3 (putF "next_lease" (.int (((h.leases + i : Nat) : Int) + 1)) (hf ({ h with leases := h.leases + i, jobs := reJob x.1 { x.1 with on := some (x.2.id, h.leases + i) } (h.jobs.map (Rp04.setOn ((Rp04.starts h.leases h.placed).take i))) } : House) dm dj dn))) = H4 at A4 E4 tz4 g4 ja4
      rw [setOn_succ W.toWF0 hx xj] at A4
      obtain ⟨db, mb⟩ := A4.mach x.2 xm
      refine ⟨_, rfl, .inl ⟨rfl, _, SqL.of g4⟩, _, rfl, aj x.1.id, CJ K, da, _, _, rfl, ja4, T.c_Job, T.n_Job_number, rfl, _, rfl, am x.2.id, CM K, db, _, _, rfl, mb, T.c_Machine, T.n_Machine_number, rfl, _, rfl, aj x.1.id, CJ K, da, _, _, rfl, ja4, T.c_Job, T.n_Job_lease, rfl, three_line, fun b nb => ?_⟩
      have sb := same_new nb (.lst [V.int (x.1.id : Int), V.int (x.2.id : Int), V.int ((h.leases + i : Nat) : Int)])
      refine ⟨a, b, _, _, rfl, rfl, sb _ _ g4, upd_same, small_line ?_, ?_⟩
      · rw [List.length_cons, flat_len tri 3 (fun _ => rfl), List.length_take]
        show _ + 3 ≤ 1000
        omega
      refine ⟨_, _, rfl, (E4.go sb).updN (NewN.of na), (tz4.same sb).upd (sb _ _ g4) (fun _ z => by cases z), ?_, (A4.same sb).lst (sb _ _ g4) adj⟩
      rw [upd_same, flat_take tri (starts_get h.leases h.placed i x hx)]
      rfl
    · rintro σ H2 ⟨v3, v4, rfl, E2, tz2, g2, A2⟩
      have el : (ts.map V.ref).length = (Rp04.starts h.leases h.placed).length := by rw [List.length_map, lt1, starts_len]
      rw [el, List.take_length] at g2 A2
      refine ⟨_, rfl, q a H2 ?_⟩
      have D := Done.eff (a := ⟨((Rp04.starts h.leases h.placed).length : Nat), (Rp04.starts h.leases h.placed).flatMap fun x => [x.1, x.2.1, x.2.2]⟩) ((Eff.ext e1).trans E2) na0 (by rw [ansL_flat, starts_len]; exact g2) A2 (.inl rfl)
      exact D
end
end Lr
end
section
set_option Elab.async false
set_option linter.all false
set_option maxRecDepth 100000
set_option maxHeartbeats 4000000
namespace Lr
open PySem L2 Mt LamX
open Rp04 (Machine Job House Ans Call)
def spTellQ (K : PySem.W.Frag) : Sp := fun vs H Q E => spDo K .queue [] vs H Q E
def spTellM (K : PySem.W.Frag) : Sp := fun vs H Q E => spDo K .machines [] vs H Q E
def spTellE (K : PySem.W.Frag) : Sp := fun vs H Q E => spDo K .ends [] vs H Q E
def rowQ (h : House) (j : Job) : List V := [.int (j.id : Int), .int (h.urgent j : Nat), .int (j.tries : Int), .int (j.lost : Int)]
def rowM (h : House) (m : Machine) : List V := [.int (m.id : Int), .int (m.labels : Int), .int ((h.now - m.heard : Nat) : Int), .int (stateN h m : Nat)]
def rowE (x : Nat × Nat) : List V := [.int (x.1 : Int), .int (x.2 : Int)]
theorem state_is {h : House} (W : WF h) {m : Machine} (hm : m ∈ h.machines) : (if m.leaving = true then 2 else if h.free.contains m = true then 0 else 1) = stateN h m := by
  unfold stateN
  by_cases c : m.leaving = true
  · rw [if_pos c, if_pos c]
  · rw [if_neg c, if_neg c]
    have e : h.free.contains m = !busyB h m := by
      rw [Bool.eq_iff_iff, List.contains_iff_mem, free_is W, List.mem_filter]
      exact ⟨fun z => z.2, fun z => ⟨hm, z⟩⟩
    rw [e]
    cases busyB h m <;> rfl
theorem flat_congr {α β : Type} {f g : α → List β} : ∀ {l : List α}, (∀ x ∈ l, f x = g x) → l.flatMap f = l.flatMap g
  | [], _ => rfl
  | x :: l, h => by rw [List.flatMap_cons, List.flatMap_cons, h x List.mem_cons_self, flat_congr fun y hy => h y (List.mem_cons_of_mem _ hy)]
theorem HouseAt.upN {K : PySem.W.Frag} {H : Hp} {p dm dj dn : Addr} {am aj : Nat → Addr} {h : House} (A : HouseAt K H p dm dj dn am aj h) {H' : Hp} (s : Same H H') : HouseAt K H' p dm dj dn am aj h := A.same s
section
variable {P : Program} {w : World} {K : PySem.W.Frag} {mg : Str → Option Value} {base : Heap}
theorem sc_tellq : FnScope ["self", "queue", "answer", "job"] ["self"] (defScope s_House_tell_queue) := ⟨rfl, rfl, rfl, by decide +kernel, rfl, by decide +kernel, by decide +kernel⟩
theorem ok_tellq (T : Ctx K mg) (TB : TBq K base mg) : Keeps P w K mg base 6 (He.ma K (He.ga K "House") "tell_queue") ["self"] (spTellQ K) := by
  obtain ⟨fd, F⟩ := T.f_House_tell_queue
  obtain ⟨fd1, F1, k1, b1⟩ := ok_queue (P := P) (w := w) (base := base) T TB
  obtain ⟨fd2, F2, k2, b2⟩ := ok_urg (P := P) (w := w) (base := base) T
  refine ⟨fd, F.ok sc_tellq (fun vs H Q E h => ?_) (fun cdv A outer s H vs Q E hr h => ?_), F.kp, b_House_tell_queue F⟩
  · obtain ⟨p, dm, dj, dn, am, aj, h, rfl, _⟩ := h
    rfl
  · obtain ⟨p, dm, dj, dn, am, aj, h, rfl, A0, W, WE0, q⟩ := h
    have nd := sc_tellq.nd
    have hr1 : Room 1 _ := hr.mono (by decide)
    refine ⟨_, PSs.nox (pss_cons (ps_set (i := 1) nd rfl (Or.inl rfl) (pe_meth0 (pv 0) T.c_House T.m_House_queue F1 hr b1 .nil pass0))
      (pss_cons (ps_set (i := 2) nd rfl (Or.inl rfl) (pe_lst (pa_cons (pe_callB call_len_seq (by rfl) T.z_len PySem.boot_len (pa_cons (pv 1) pa_nil)) pa_nil)))
      (pss_cons (ps_for PassesOwn.never rfl (pi_list (pv 1)) (pg_name (i := 3) nd rfl (Or.inl rfl))
        (pss_one (ps_expr (pe_bm PySem.F.plainAttrs_list PySem.F.slot_list_extend PySem.F.type_list_extend mt_extend (pv 2) (pa_cons (pe_lst (pa_cons (pe_fld (pv 3) rfl) (pa_cons (pe_meth (pv 0) T.c_House T.m_House_urgency_now F2 hr1 b2 .nil pass0 (pa_cons (pv 3) pa_nil)) (pa_cons (pe_fld (pv 3) rfl) (pa_cons (pe_fld (pv 3) rfl) pa_nil))))) pa_nil)))))
      (pss_one (ps_ret (pv 2)))))), ?_⟩
    obtain ⟨dx, h1⟩ := A0.ob
    have j14 := W.jlen
    have q14 := queue_len h
    refine ⟨_, rfl, p, dx, _, rfl, h1, rfl, p, dm, dj, dn, am, aj, h, rfl, A0, W, fun l H1 e1 t1 gl nl => ?_⟩
    have A1 := A0.ext e1 t1
    refine ⟨_, rfl, l, _, rfl, .inl (SqL.of gl), one_line, fun a na => ?_⟩
    have sa := same_new na (.lst [V.int (((h.queue.map (rj aj)).length : Nat) : Int)])
    have ea : (((h.queue.map (rj aj)).length : Nat) : Int) = (h.queue.length : Int) := by rw [List.length_map]
    refine ⟨_, rfl, l, rfl, ⟨_, SqL.of (sa _ _ gl)⟩, for_list (K := K) (a := l) (xs := h.queue.map (rj aj))
      (fun i σ H' => ∃ v3 : Option V, σ = [some (.ref p), some (.ref l), some (.ref a), v3] ∧ Same H1 H' ∧ H' a = some (.lst (V.int (h.queue.length : Int) :: (h.queue.take i).flatMap (rowQ h))))
      ⟨_, rfl, sa, by rw [upd_same, ea]; rfl⟩ (fun i σ H' _ ⟨_, _, s2, _⟩ => SqL.of (s2 _ _ gl)) ?_ ?_⟩
    · rintro i y σ H2 hi ⟨v3, rfl, s2, g2⟩
      obtain ⟨j, hj, rfl⟩ := cut_map hi
      have jm := queue_mem (List.mem_of_getElem? hj)
      have i14 : i < h.queue.length := (List.getElem?_eq_some_iff.mp hj).1
      have A2 := A1.same s2
      obtain ⟨da, ja⟩ := A2.job j jm
      obtain ⟨dx2, h2⟩ := A2.ob
      refine ⟨_, rfl, .inl ⟨rfl, _, SqL.of g2⟩, _, rfl, aj j.id, CJ K, da, _, _, rfl, ja, T.c_Job, T.n_Job_number, rfl, _, rfl, p, dx2, _, rfl, h2, rfl, _, rfl, p, aj j.id, dx2, dm, dj, dn, h, j, rfl, h2, ⟨da, ja⟩, W.came j jm, W.age,
        _, rfl, aj j.id, CJ K, da, _, _, rfl, ja, T.c_Job, T.n_Job_tries, rfl, _, rfl, aj j.id, CJ K, da, _, _, rfl, ja, T.c_Job, T.n_Job_times_lost, rfl, four_line, fun b nb => ?_⟩
      have sb := same_new nb (.lst (rowQ h j))
      refine ⟨a, b, _, rowQ h j, rfl, rfl, sb _ _ g2, upd_same, small_line ?_, ?_⟩
      · rw [List.length_cons, flat_len (rowQ h) 4 (fun _ => rfl), List.length_take]
        show _ + 4 ≤ 1000
        omega
      refine ⟨_, rfl, fun c o z => ?_, ?_⟩
      · rw [upd_ne (ne_of_none z na)]
        exact sb _ _ (s2 c o z)
      · rw [upd_same, flat_take (rowQ h) hj]
        rfl
    · rintro σ H2 ⟨v3, rfl, s2, g2⟩
      rw [List.length_map, List.take_length] at g2
      refine ⟨_, rfl, q a H2 ?_⟩
      have D := Done.read (a := ⟨(h.queue.length : Nat), h.queue.flatMap fun j => [j.id, h.urgent j, j.tries, j.lost]⟩) A0 (e1.trans (ExtN.of_same s2)) (t1.ext s2) (NewN.back (NewN.of na) e1) (by rw [ansL_flat]; exact g2)
      exact D
theorem sc_tellm : FnScope ["self", "answer", "machine", "heard_ago"] ["self"] (defScope s_House_tell_machines) := ⟨rfl, rfl, rfl, by decide +kernel, rfl, by decide +kernel, by decide +kernel⟩
theorem ok_tellm (T : Ctx K mg) : Keeps P w K mg base 3 (He.ma K (He.ga K "House") "tell_machines") ["self"] (spTellM K) := by
  obtain ⟨fd, F⟩ := T.f_House_tell_machines
  obtain ⟨fd1, F1, k1, b1⟩ := ok_bynum (P := P) (w := w) (base := base) T
  obtain ⟨fd2, F2, k2, b2⟩ := ok_since (P := P) (w := w) (base := base) T
  obtain ⟨fd3, F3, k3, b3⟩ := ok_state (P := P) (w := w) (base := base) T
  refine ⟨fd, F.ok sc_tellm (fun vs H Q E h => ?_) (fun cdv A outer s H vs Q E hr h => ?_), F.kp, b_House_tell_machines F⟩
  · obtain ⟨p, dm, dj, dn, am, aj, h, rfl, _⟩ := h
    rfl
  · obtain ⟨p, dm, dj, dn, am, aj, h, rfl, A0, W, WE0, q⟩ := h
    have nd := sc_tellm.nd
    have hr1 : Room 1 _ := hr.mono (by decide)
    refine ⟨_, PSs.nox (pss_cons (ps_set (i := 1) nd rfl (Or.inl rfl) (pe_lst (pa_cons (pe_callB call_lenD (by rfl) T.z_len PySem.boot_len (pa_cons (pe_fld (pv 0) rfl) pa_nil)) pa_nil)))
      (pss_cons (ps_for PassesOwn.never rfl (pi_list (pe_meth0 (pv 0) T.c_House T.m_House_machines_by_number F1 hr1 b1 .nil pass0)) (pg_name (i := 2) nd rfl (Or.inl rfl))
        (pss_cons (ps_set (i := 3) nd rfl (Or.inl rfl) (pe_meth (pv 0) T.c_House T.m_House_minutes_since_heard F2 hr1 b2 .nil pass0 (pa_cons (pv 2) pa_nil)))
        (pss_one (ps_expr (pe_bm PySem.F.plainAttrs_list PySem.F.slot_list_extend PySem.F.type_list_extend mt_extend (pv 1) (pa_cons (pe_lst (pa_cons (pe_fld (pv 2) rfl) (pa_cons (pe_fld (pv 2) rfl) (pa_cons (pv 3) (pa_cons (pe_meth (pv 0) T.c_House T.m_House_state_of F3 hr b3 .nil pass0 (pa_cons (pv 2) pa_nil)) pa_nil))))) pa_nil))))))
      (pss_one (ps_ret (pv 1))))), ?_⟩
    obtain ⟨dx, h1⟩ := A0.ob
    obtain ⟨ks, kp, hd⟩ := A0.dict
    have m7 := W.mlen
    refine ⟨_, rfl, p, CH K, dx, _, _, rfl, h1, T.c_House, T.n_House_machines, rfl, dm, _, rfl, hd, one_line, fun a na => ?_⟩
    have ea : (((ks.map fun m => ((Sum.inl (m.id : Int) : Key), rm am m)).length : Nat) : Int) = (h.machines.length : Int) := by rw [List.length_map, kp.length_eq]
    have ga := upd_same (H := H) (a := a) (o := .lst [V.int (((ks.map fun m => ((Sum.inl (m.id : Int) : Key), rm am m)).length : Nat) : Int)])
    have sa := same_new na (.lst [V.int (((ks.map fun m => ((Sum.inl (m.id : Int) : Key), rm am m)).length : Nat) : Int)])
    generalize upd H a (.lst [V.int (((ks.map fun m => ((Sum.inl (m.id : Int) : Key), rm am m)).length : Nat) : Int)]) = H0 at ga sa
    rw [ea] at ga
    have A1 := A0.same sa
    obtain ⟨dx1, h11⟩ := A1.ob
    refine ⟨_, rfl, p, dx1, _, rfl, h11, rfl, p, dm, dj, dn, am, aj, h, rfl, A1, W.toWF0, fun l H1 s1 nl gl => ?_⟩
    have nla : l ≠ a := fun z => by rw [z, ga] at nl; cases nl
    refine ⟨l, rfl, ⟨_, SqL.of gl⟩, for_list (K := K) (a := l) (xs := h.machines.map (rm am))
      (fun i σ H' => ∃ v2 v3 : Option V, σ = [some (.ref p), some (.ref a), v2, v3] ∧ Same H H' ∧ H' l = some (.lst (h.machines.map (rm am))) ∧ H' a = some (.lst (V.int (h.machines.length : Int) :: (h.machines.take i).flatMap (rowM h))))
      ⟨_, _, rfl, sa.trans s1, gl, s1 _ _ ga⟩ (fun i σ H' _ ⟨_, _, _, _, g, _⟩ => SqL.of g) ?_ ?_⟩
    · rintro i y σ H2 hi ⟨v2, v3, rfl, s2, gl2, g2⟩
      obtain ⟨m, hm, rfl⟩ := cut_map hi
      have mm := List.mem_of_getElem? hm
      have i7 : i < h.machines.length := (List.getElem?_eq_some_iff.mp hm).1
      have A2 := A0.same s2
      obtain ⟨da, ma⟩ := A2.mach m mm
      obtain ⟨dx2, h2⟩ := A2.ob
      refine ⟨_, rfl, p, dx2, _, rfl, h2, rfl, _, rfl, p, am m.id, dx2, dm, dj, dn, h, m, rfl, h2, ⟨da, ma⟩, W.heard m mm, ?_⟩
      refine ⟨_, rfl, .inl ⟨rfl, _, SqL.of g2⟩, _, rfl, am m.id, CM K, da, _, _, rfl, ma, T.c_Machine, T.n_Machine_number, rfl, _, rfl, am m.id, CM K, da, _, _, rfl, ma, T.c_Machine, T.n_Machine_labels, rfl, _, rfl,
        _, rfl, p, dx2, _, rfl, h2, rfl, _, rfl, p, am m.id, dm, dj, dn, am, aj, h, m, rfl, A2, W.jlen, ⟨da, ma⟩, fun H3 s3 => ⟨four_line, fun b nb => ?_⟩⟩
      have sb := same_new nb (.lst (rowM h m))
      refine ⟨a, b, _, rowM h m, rfl, rfl, sb _ _ (s3 _ _ g2), upd_same, small_line ?_, ?_⟩
      · rw [List.length_cons, flat_len (rowM h) 4 (fun _ => rfl), List.length_take]
        show _ + 4 ≤ 1000
        omega
      refine ⟨_, _, rfl, fun c o z => ?_, ?_, ?_⟩
      · rw [upd_ne (ne_of_none z na)]
        exact sb _ _ (s3 _ _ (s2 c o z))
      · rw [upd_ne nla]
        exact sb _ _ (s3 _ _ gl2)
      · rw [upd_same, flat_take (rowM h) hm]
        rfl
    · rintro σ H2 ⟨v2, v3, rfl, s2, gl2, g2⟩
      rw [List.length_map, List.take_length] at g2
      refine ⟨_, rfl, q a H2 ?_⟩
      have D := Done.read (a := ⟨(h.machines.length : Nat), h.machines.flatMap fun m => [m.id, m.labels, h.now - m.heard, if m.leaving = true then 2 else if h.free.contains m = true then 0 else 1]⟩) A0 (ExtN.of_same s2) (A0.tabs.ext s2) (NewN.of na) (by
        rw [ansL_flat, g2]
        refine congrArg (fun z => some (HO.lst (V.int (h.machines.length : Int) :: z))) ?_
        refine flat_congr fun m hm => ?_
        rw [state_is W hm]
        rfl)
      exact D
theorem sc_telle : FnScope ["self", "answer", "number", "how"] ["self"] (defScope s_House_tell_ends) := ⟨rfl, rfl, rfl, by decide +kernel, rfl, by decide +kernel, by decide +kernel⟩
theorem ok_telle (T : Ctx K mg) : Keeps P w K mg base 1 (He.ma K (He.ga K "House") "tell_ends") ["self"] (spTellE K) := by
  obtain ⟨fd, F⟩ := T.f_House_tell_ends
  refine ⟨fd, F.ok sc_telle (fun vs H Q E h => ?_) (fun cdv A outer s H vs Q E hr h => ?_), F.kp, b_House_tell_ends F⟩
  · obtain ⟨p, dm, dj, dn, am, aj, h, rfl, _⟩ := h
    rfl
  · obtain ⟨p, dm, dj, dn, am, aj, h, rfl, A0, W, WE0, q⟩ := h
    have nd := sc_telle.nd
    refine ⟨_, PSs.nox (pss_cons (ps_set (i := 1) nd rfl (Or.inl rfl) (pe_lst (pa_cons (pe_callB call_lenD (by rfl) T.z_len PySem.boot_len (pa_cons (pe_fld (pv 0) rfl) pa_nil)) pa_nil)))
      (pss_cons (ps_lock (ps_for PassesOwn.never rfl (pi_items (pe_fld (pv 0) rfl)) (pg_tup rfl (pgs_cons (pg_name (i := 2) nd rfl (Or.inl rfl)) (pgs_cons (pg_name (i := 3) nd rfl (Or.inl rfl)) pgs_nil)))
        (pss_one (ps_expr (pe_bm PySem.F.plainAttrs_list PySem.F.slot_list_extend PySem.F.type_list_extend mt_extend (pv 1) (pa_cons (pe_lst (pa_cons (pv 2) (pa_cons (pv 3) pa_nil))) pa_nil))))))
      (pss_one (ps_ret (pv 1))))), ?_⟩
    obtain ⟨dx, h1⟩ := A0.ob
    have a40 := W.all
    refine ⟨_, rfl, p, CH K, dx, _, _, rfl, h1, T.c_House, T.n_House_over, rfl, dn, _, rfl, A0.over, one_line, fun a na => ?_⟩
    have ea : (((ovK h.ended).length : Nat) : Int) = (h.ended.length : Int) := by unfold ovK; rw [List.length_map]
    have ga := upd_same (H := H) (a := a) (o := .lst [V.int (((ovK h.ended).length : Nat) : Int)])
    have sa := same_new na (.lst [V.int (((ovK h.ended).length : Nat) : Int)])
    generalize upd H a (.lst [V.int (((ovK h.ended).length : Nat) : Int)]) = H0 at ga sa
    rw [ea] at ga
    have A1 := A0.same sa
    have pn : p ≠ dn := ne_of h1 A0.over (fun z => by cases z)
    have an : a ≠ dn := fun z => ne_of_none A0.over na z.symm
    refine ⟨dn, _, A1.over, trivial, fun od => ?_⟩
    have k0 : ∀ b o, H b = some o → b ≠ dn → upd H0 dn (.frz od (.dK (ovK h.ended))) b = some o := fun b o z n => by rw [upd_ne n]; exact sa _ _ z
    refine ⟨_, rfl, p, CH K, dx, _, _, rfl, k0 _ _ h1 pn, T.c_House, T.n_House_over, rfl, dn, od, ovK h.ended, rfl, upd_same, for_it walk_items
      (fun i σ H' => ∃ v2 v3 : Option V, σ = [some (.ref p), some (.ref a), v2, v3] ∧ (∀ b o, H b = some o → b ≠ dn → H' b = some o) ∧ H' dn = some (.frz od (.dK (ovK h.ended))) ∧ H' a = some (.lst (V.int (h.ended.length : Int) :: (h.ended.take i).flatMap rowE)))
      ⟨_, _, rfl, k0, upd_same, by rw [upd_ne an]; exact ga⟩ (fun i σ H' _ ⟨_, _, _, _, g, _⟩ => g) ?_ ?_⟩
    · rintro i y σ H2 H3 hi ⟨v2, v3, rfl, k2, d2, g2⟩ ⟨t, x, z, rfl, nt, rfl, ex, ez⟩
      have hl : i < h.ended.length := by unfold ovK at hi; rw [List.length_map] at hi; exact hi
      obtain ⟨e, he⟩ : ∃ e, h.ended[i]? = some e := ⟨_, List.getElem?_eq_getElem hl⟩
      have eo : (ovK h.ended)[i]? = some (Sum.inl (e.1 : Int), V.int (e.2 : Int)) := by unfold ovK; rw [List.getElem?_map, he]; rfl
      dsimp only at ex ez
      rw [eo] at ex ez
      have ex : V.int (e.1 : Int) = x := Option.some.inj ex
      have ez : V.int (e.2 : Int) = z := Option.some.inj ez
      subst ex ez
      have st := same_new nt (.tup [V.int (e.1 : Int), V.int (e.2 : Int)])
      refine ⟨t, _, rfl, SqT.of upd_same, rfl, _, _, rfl, _, _, rfl, rfl, ?_⟩
      refine ⟨_, rfl, .inl ⟨rfl, _, SqL.of (st _ _ g2)⟩, _, rfl, _, rfl, two_line, fun b nb => ?_⟩
      have sb := st.trans (same_new nb (.lst (rowE e)))
      refine ⟨a, b, _, rowE e, rfl, rfl, sb _ _ g2, upd_same, small_line ?_, ?_⟩
      · rw [List.length_cons, flat_len rowE 2 (fun _ => rfl), List.length_take]
        show _ + 2 ≤ 1000
        omega
      refine ⟨_, _, rfl, fun c o z n => ?_, ?_, ?_⟩
      · rw [upd_ne (ne_of_none z na)]
        exact sb _ _ (k2 c o z n)
      · rw [upd_ne an.symm]
        exact sb _ _ d2
      · rw [upd_same, flat_take rowE he]
        rfl
    · rintro σ H2 ⟨v2, v3, rfl, k2, d2, g2⟩
      have el : (ovK h.ended).length = h.ended.length := by unfold ovK; rw [List.length_map]
      rw [el, List.take_length] at g2
      refine ⟨d2, _, rfl, q a _ ?_⟩
      have sf : Same H (upd H2 dn (.dK (ovK h.ended))) := fun b o z => by
        by_cases c : b = dn
        · rw [c, upd_same]; rw [c, A0.over] at z; exact z
        · rw [upd_ne c]; exact k2 b o z c
      have D := Done.read (a := ⟨(h.ended.length : Nat), h.ended.flatMap fun x => [x.1, x.2]⟩) A0 (ExtN.of_same sf) (A0.tabs.ext sf) (NewN.of na) (by rw [ansL_flat, upd_ne an]; exact g2)
      exact D
end
end Lr
end
section
set_option Elab.async false
set_option linter.all false
set_option maxRecDepth 100000
set_option maxHeartbeats 4000000
namespace Lr
open PySem L2 Mt LamX
open Rp04 (Machine Job House Ans Call)
def spOne (K : PySem.W.Frag) : Sp := fun vs H Q _ => ∃ (a jl : Addr) (aj : Nat → Addr) (m : Machine) (js : List Job), vs = [.ref a, .ref jl] ∧ MachA K H a m ∧ JsAt K H aj jl js ∧ ∀ H' : Hp, Same H H' → Q (.bl (js.any fun j => Rp04.suits m j)) H'
def spRivals (K : PySem.W.Frag) : Sp := fun vs H Q _ => ∃ (l : Addr) (ts : List Addr) (aj am : Nat → Addr) (ps : List (Job × Machine)) (j : Job), vs = [rj aj j, .ref l] ∧ H l = some (.lst (ts.map V.ref)) ∧ ts.length = ps.length ∧ TupsAt H aj am ts ps ∧
  (∀ x ∈ ps, JobA K H (aj x.1.id) x.1 ∧ MachA K H (am x.2.id) x.2) ∧ JobA K H (aj j.id) j ∧ ps.length ≤ 7 ∧ ∀ (r : Addr) (H' : Hp), Same H H' → H r = none → H' r = some (.lst (((rivS ps j ps.length).map (·.1)).map (rj aj))) → Q (.ref r) H'
theorem rivS_len {ps : List (Job × Machine)} {j : Job} (n : Nat) : (rivS ps j n).length ≤ ps.length := by
  cases n with
  | zero => exact Nat.zero_le _
  | succ n => exact List.length_filter_le _ _
section
variable {P : Program} {w : World} {K : PySem.W.Frag} {mg : Str → Option Value} {base : Heap}
theorem sc_one : FnScope ["machine", "jobs", "job"] ["machine", "jobs"] (defScope s_suits_one_of) := ⟨rfl, rfl, rfl, by decide +kernel, rfl, by decide +kernel, by decide +kernel⟩
theorem ok_one (T : Ctx K mg) : Keeps P w K mg base 2 (He.ga K "suits_one_of") ["machine", "jobs"] (spOne K) := by
  obtain ⟨fd, F⟩ := T.f_suits_one_of
  obtain ⟨fds, Fs, ks, bs⟩ := ok_suits (P := P) (w := w) (base := base) T
  refine ⟨fd, F.ok sc_one (fun vs H Q E h => ?_) (fun cdv A outer s H vs Q E hr h => ?_), F.kp, b_suits_one_of F⟩
  · obtain ⟨a, jl, aj, m, js, rfl, _⟩ := h
    rfl
  · obtain ⟨a, jl, aj, m, js, rfl, hM, hJ, q⟩ := h
    have nd := sc_one.nd
    refine ⟨_, PSs.nox (pss_one (ps_ret (pe_callB (cr_any rfl) (by rfl) T.z_any (by decide +kernel) (pa_cons (pe_lc (own := [("job", 2)]) (g := gName 2) (tt := tYes) (te := tCall (spSuits K) [] E0 (tCons (tVar 0) (tCons (tVar 2) tNil))) rfl nd (pi_list (pv 1))
      (blkOk_by (N := ["machine", "jobs", "job"]) (sc := defScope s_suits_one_of) (by decide +kernel)) (fun _ _ _ _ _ => pg_name (i := 2) nd rfl (Or.inl rfl)) (fun _ _ _ _ _ => pts_nil) (fun _ _ _ _ _ => pe_call Fs hr rfl T.g_suits ks bs .nil pass0 (pa_cons (pv 0) (pa_cons (pv 2) pa_nil)))) pa_nil)))), ?_⟩
    have l100 := hJ.few
    refine ⟨_, rfl, jl, rfl, ⟨_, SqL.of hJ.lst⟩, fun D nD => ?_⟩
    refine lc_list (xs := js.map (rj aj)) (fun i H' => Same H H' ∧ H' D = some (.lst ((js.take i).map fun j => V.bl (Rp04.suits m j)))) ⟨same_new nD (.lst []), upd_same⟩ (fun i H' _ ⟨s1, _⟩ => SqL.of (s1 _ _ hJ.lst)) ?_ ?_
    · rintro i y H1 hi ⟨s1, g1⟩
      obtain ⟨j, hj, rfl⟩ := cut_map hi
      have et : js.take (i + 1) = js.take i ++ [j] := by rw [List.take_add_one, hj]; rfl
      refine ⟨rfl, _, rfl, _, rfl, a, aj j.id, m, j, rfl, hM.same fun _ _ z => s1 _ _ z, (hJ.job j (List.mem_of_getElem? hj)).same fun _ _ z => s1 _ _ z, _, g1, small1000 (by rw [List.length_map, List.length_take]; omega), fun b o z => ?_, ?_⟩
      · rw [upd_ne (ne_of_none z nD)]
        exact s1 b o z
      · rw [upd_same, et, List.map_append]
        rfl
    · rintro H1 ⟨s1, g1⟩
      rw [List.length_map, List.take_length] at g1
      refine ⟨D, js.map fun j => Rp04.suits m j, rfl, SqL.of (by rw [List.map_map]; exact g1), ?_⟩
      rw [List.any_map]
      exact q H1 s1
abbrev nRiv : List Str := ["job", "placed", "rivals", "step", "in_the_way_of", "chosen", "machine"]
theorem sc_riv : FnScope nRiv ["job", "placed"] (defScope s_find_rivals) := ⟨rfl, rfl, rfl, by decide +kernel, rfl, by decide +kernel, by decide +kernel⟩
theorem ok_riv (T : Ctx K mg) : Keeps P w K mg base 3 (He.ga K "find_rivals") ["job", "placed"] (spRivals K) := by
  obtain ⟨fd, F⟩ := T.f_find_rivals
  obtain ⟨fds, Fs, ks, bs⟩ := ok_one (P := P) (w := w) (base := base) T
  refine ⟨fd, F.ok sc_riv (fun vs H Q E h => ?_) (fun cdv A outer s H vs Q E hr h => ?_), F.kp, b_find_rivals F⟩
  · obtain ⟨l, ts, aj, am, ps, j, rfl, _⟩ := h
    rfl
  · obtain ⟨l, ts, aj, am, ps, j, rfl, gl, lt, tz, hjm, hj, l7, q⟩ := h
    have nd := sc_riv.nd
    refine ⟨_, PSs.nox (pss_cons (ps_set (i := 2) nd rfl (Or.inl rfl) (pe_lst pa_nil))
      (pss_cons (ps_for PassesOwn.never rfl (pi_range1 rfl T.z_range (pa_cons (pe_callB call_len_seq (by rfl) T.z_len PySem.boot_len (pa_cons (pv 1) pa_nil)) pa_nil)) (pg_name (i := 3) nd rfl (Or.inl rfl))
        (pss_cons (ps_set (i := 4) nd rfl (Or.inr rfl) (pe_op op_cat (pe_lst (pa_cons (pv 0) pa_nil)) (pv 2)))
        (pss_one (ps_setLc (i := 2) (own := [("chosen", 5), ("machine", 6)]) (g := gTup K 2 (gCons (gName 5) (gCons (gName 6) gNil))) (tt := tB (tCall (spOne K) [] E0 (tCons (tVar 6) (tCons (tVar 4) tNil)))) (te := tVar 5) rfl nd rfl rfl (sw_true rfl rfl rfl (by decide +kernel)) (pi_list (pv 1))
          (blkOk_by (N := nRiv) (sc := defScope s_find_rivals) (by decide +kernel)) (fun _ _ _ _ _ => pg_tup rfl (pgs_cons (pg_name (i := 5) nd rfl (Or.inl rfl)) (pgs_cons (pg_name (i := 6) nd rfl (Or.inl rfl)) pgs_nil)))
          (fun _ _ _ _ _ => pts_one (pt_val (pe_call Fs hr rfl T.g_suits_one_of ks bs .nil pass0 (pa_cons (pv 6) (pa_cons (pv 4) pa_nil))))) (fun _ _ _ _ _ => pv 5)))))
      (pss_one (ps_ret (pv 2))))), ?_⟩
    refine ⟨Nat.zero_le _, fun c nc => ?_⟩
    have s0 := same_new nc (.lst [])
    refine ⟨_, rfl, l, _, rfl, .inl (SqL.of (s0 _ _ gl)), ?_⟩
    have hlen : (((ts.map V.ref).length : Nat) : Int) = (ps.length : Int) := by rw [List.length_map, lt]
    refine ⟨_, rfl, (by rw [hlen]; omega), (by rw [hlen]; omega), for_range (lo := 0)
      (fun i σ H' => ∃ (r : Addr) (v3 v4 v5 v6 : Option V), σ = [some (rj aj j), some (.ref l), some (.ref r), v3, v4, v5, v6] ∧ Same H H' ∧ H r = none ∧ H' r = some (.lst (((rivS ps j i).map (·.1)).map (rj aj))))
      ⟨c, _, _, _, _, rfl, s0, nc, upd_same⟩ ?_ ?_⟩
    · rintro i σ H1 hi ⟨r, v3, v4, v5, v6, rfl, s1, nr, g1⟩
      have ln := rivS_len (ps := ps) (j := j) i
      refine ⟨_, rfl, one_line, fun a na => ?_⟩
      have s2 := same_new na (.lst [rj aj j])
      refine ⟨_, rfl, a, r, _, _, rfl, rfl, upd_same, s2 _ _ g1, small100 (by rw [List.length_map, List.length_map, List.length_singleton]; omega), fun b nb => ?_⟩
      have gb := upd_same (H := upd H1 a (.lst [rj aj j])) (a := b) (o := .lst ([rj aj j] ++ ((rivS ps j i).map (·.1)).map (rj aj)))
      have s3 := s2.trans (same_new nb (.lst ([rj aj j] ++ ((rivS ps j i).map (·.1)).map (rj aj))))
      generalize upd (upd H1 a (.lst [rj aj j])) b (.lst ([rj aj j] ++ ((rivS ps j i).map (·.1)).map (rj aj))) = H3 at gb s3
      have s13 := s1.trans s3
      have J3 : JsAt K H3 aj b (j :: (rivS ps j i).map (·.1)) := ⟨gb, fun x hx => by
        rcases List.mem_cons.mp hx with z | z
        · rw [z]; exact hj.same fun _ _ y => s13 _ _ y
        · obtain ⟨w, hw, ew⟩ := List.mem_map.mp z
          rw [← ew]
          exact (hjm w (rivS_sub hw)).1.same fun _ _ y => s13 _ _ y, by rw [List.length_cons, List.length_map]; omega⟩
      refine ⟨_, rfl, l, rfl, ⟨_, SqL.of (s13 _ _ gl)⟩, fun D nD => ?_⟩
      refine lc_list (xs := ts.map V.ref) (fun k H' => Same H3 H' ∧ H' D = some (.lst ((((ps.take k).filter fun x => (j :: (rivS ps j i).map (·.1)).any fun y => Rp04.suits x.2 y).map (·.1)).map (rj aj)))) ⟨same_new nD (.lst []), upd_same⟩ (fun k H' _ ⟨s4, _⟩ => SqL.of (s4 _ _ (s13 _ _ gl))) ?_ ?_
      · rintro k y H4 hk ⟨s4, g4⟩
        obtain ⟨t, ht, rfl⟩ := cut_map hk
        obtain ⟨x, hx, gt⟩ := tz k t ht
        have et : ps.take (k + 1) = ps.take k ++ [x] := by rw [List.take_add_one, hx]; rfl
        have xm := hjm x (List.mem_of_getElem? hx)
        have s14 := s13.trans s4
        refine ⟨t, _, rfl, SqT.of (s14 _ _ gt), rfl, _, _, rfl, _, _, rfl, rfl, rfl, ?_⟩
        refine ⟨_, rfl, _, rfl, am x.2.id, b, aj, x.2, _, rfl, xm.2.same fun _ _ y => s14 _ _ y, J3.same s4, fun H5 s5 => ⟨_, rfl, ?_⟩⟩
        have g5 := s5 _ _ g4
        cases c : (j :: (rivS ps j i).map (·.1)).any fun y => Rp04.suits x.2 y with
        | false =>
          refine iteF ⟨s4.trans s5, ?_⟩
          rw [et, List.filter_append, List.filter_cons_of_neg (by rw [c]; decide), List.filter_nil, List.append_nil]
          exact g5
        | true =>
          refine iteT ⟨_, rfl, _, g5, ?_, fun e o z => ?_, ?_⟩
          · refine small1000 ?_
            rw [List.length_map, List.length_map]
            refine Nat.le_trans (List.length_filter_le _ _) ?_
            rw [List.length_take]
            omega
          · rw [upd_ne (ne_of_none z nD)]
            exact s5 _ _ (s4 e o z)
          · rw [upd_same, et, List.filter_append, List.filter_cons_of_pos (by rw [c]), List.filter_nil, List.map_append, List.map_append]
            rfl
      · rintro H4 ⟨s4, g4⟩
        rw [List.length_map, lt, List.take_length] at g4
        exact ⟨D, _, _, _, _, rfl, s13.trans s4, s13.free nD, g4⟩
    · rintro σ H1 ⟨r, v3, v4, v5, v6, rfl, s1, nr, g1⟩
      rw [hlen, Int.toNat_natCast] at g1
      exact ⟨_, rfl, q r H1 s1 nr g1⟩
end
end Lr
end
section
set_option Elab.async false
set_option linter.all false
set_option maxRecDepth 100000
set_option maxHeartbeats 4000000
namespace Lr
open PySem L2 Mt LamX
open Rp04 (Machine Job House Ans Call)
def spWhy (K : PySem.W.Frag) : Sp := fun vs H Q E => ∃ i : Nat, spDo K (.why i) [.int (i : Int)] vs H Q E
section
variable {P : Program} {w : World} {K : PySem.W.Frag} {mg : Str → Option Value} {base : Heap}
abbrev nWhy : List Str := ["self", "number", "job", "placed", "chosen", "machine", "rivals", "suited", "rival"]
theorem sc_why : FnScope nWhy ["self", "number"] (defScope s_House_why) := ⟨rfl, rfl, rfl, by decide +kernel, rfl, by decide +kernel, by decide +kernel⟩
theorem ok_why (T : Ctx K mg) (TB : TBq K base mg) : Keeps P w K mg base 14 (He.ma K (He.ga K "House") "why") ["self", "number"] (spWhy K) := by
  obtain ⟨fd, F⟩ := T.f_House_why
  obtain ⟨fd1, F1, k1, b1⟩ := ok_here (P := P) (w := w) (base := base) T
  obtain ⟨fd2, F2, k2, b2⟩ := ok_runs (P := P) (w := w) (base := base) T
  obtain ⟨fd3, F3, k3, b3⟩ := ok_placed (P := P) (w := w) (base := base) T TB
  obtain ⟨fd4, F4, k4, b4⟩ := ok_riv (P := P) (w := w) (base := base) T
  obtain ⟨fd5, F5, k5, b5⟩ := ok_free (P := P) (w := w) (base := base) T
  obtain ⟨fd6, F6, k6, b6⟩ := ok_one (P := P) (w := w) (base := base) T
  refine ⟨fd, F.ok sc_why (fun vs H Q E h => ?_) (fun cdv A outer s H vs Q E hr h => ?_), F.kp, b_House_why F⟩
  · obtain ⟨i, p, dm, dj, dn, am, aj, h, rfl, _⟩ := h
    rfl
  · obtain ⟨n, p, dm, dj, dn, am, aj, h, rfl, A0, W, WE0, q⟩ := h
    have hr1 : Room 1 _ := hr.mono (by decide)
    have hr2 : Room 2 _ := hr.mono (by decide)
    have hr3 : Room 3 _ := hr.mono (by decide)
    have nd := sc_why.nd
    refine ⟨_, PSs.nox (pss_cons (ps_set (i := 2) nd rfl (Or.inr rfl) (pe_meth (pv 0) T.c_House T.m_House_job_here F1 hr1 b1 .nil pass0 (pa_cons (pv 1) pa_nil)))
      (pss_cons (ps_if (pt_cmpR op_isN (pv 2) pe_non (nomark _)) (pss_one (ps_ret (pe_lst (pa_cons (pe_un un_neg pe_int) pa_nil)))) pss_nil)
      (pss_cons (ps_if (pt_val (pe_meth0 (pv 2) T.c_Job T.m_Job_runs F2 hr1 b2 .nil pass0)) (pss_one (ps_ret (pe_lst (pa_cons pe_int (pa_cons (pe_fld (pv 2) rfl) (pa_cons (pe_fld (pv 2) rfl) pa_nil)))))) pss_nil)
      (pss_cons (ps_set (i := 3) nd rfl (Or.inl rfl) (pe_meth0 (pv 0) T.c_House T.m_House_placed_jobs F3 hr b3 .nil pass0))
      (pss_cons (ps_for PassesOwn.never rfl (pi_list (pv 3)) (pg_tup rfl (pgs_cons (pg_name (i := 4) nd rfl (Or.inl rfl)) (pgs_cons (pg_name (i := 5) nd rfl (Or.inl rfl)) pgs_nil)))
        (pss_one (ps_if (pt_cmpR op_eq (pe_fld (pv 4) rfl) (pv 1) (nomark _)) (pss_one (ps_ret (pe_lst (pa_cons pe_int (pa_cons (pe_fld (pv 5) rfl) pa_nil))))) pss_nil)))
      (pss_cons (ps_set (i := 6) nd rfl (Or.inr rfl) (pe_call F4 hr3 rfl T.g_find_rivals k4 b4 .nil pass0 (pa_cons (pv 2) (pa_cons (pv 3) pa_nil))))
      (pss_cons (ps_setLc (i := 7) (own := [("machine", 5)]) (g := gName 5) (tt := tB (tCall (spOne K) [] E0 (tCons (tVar 5) (tCons (tOp rCat (tLst (tCons (tVar 2) tNil)) (tVar 6)) tNil)))) (te := tVar 5) rfl nd rfl rfl (sw_true rfl rfl rfl (by decide +kernel)) (pi_list (pe_meth0 (pv 0) T.c_House T.m_House_free_machines F5 hr2 b5 .nil pass0))
          (blkOk_by (N := nWhy) (sc := defScope s_House_why) (by decide +kernel)) (fun _ _ _ _ _ => pg_name (i := 5) nd rfl (Or.inl rfl))
          (fun _ _ _ _ _ => pts_one (pt_val (pe_call F6 hr2 rfl T.g_suits_one_of k6 b6 .nil pass0 (pa_cons (pv 5) (pa_cons (pe_op op_cat (pe_lst (pa_cons (pv 2) pa_nil)) (pv 6)) pa_nil))))) (fun _ _ _ _ _ => pv 5))
      (pss_one (ps_ret (pe_op op_cat (pe_lst (pa_cons pe_int (pa_cons (pe_callB call_len_seq (by rfl) T.z_len PySem.boot_len (pa_cons (pv 7) pa_nil)) pa_nil)))
        (pe_lc (own := [("rival", 8)]) (g := gName 8) (tt := tYes) (te := tFld K (tVar 8) "number") rfl nd (pi_list (pv 6)) (blkOk_by (N := nWhy) (sc := defScope s_House_why) (by decide +kernel)) (fun _ _ _ _ _ => pg_name (i := 8) nd rfl (Or.inl rfl)) (fun _ _ _ _ _ => pts_nil) (fun _ _ _ _ _ => pe_fld (pv 8) rfl)))))))))))), ?_⟩
    obtain ⟨dx, h1⟩ := A0.ob
    have m7 := W.mlen
    refine ⟨_, rfl, p, dx, _, rfl, h1, rfl, _, rfl, p, dm, dj, dn, am, aj, h, n, rfl, A0, ?_⟩
    cases e : h.jobOf n with
    | none =>
      have es : Rp04.step h (.why n) = (h, Rp04.ok (-2)) := by
        show (match h.jobOf n with | none => (h, Rp04.ok (-2)) | some j => _) = _
        rw [e]
      rw [es] at q
      exact ⟨_, rfl, rfl, _, rfl, iteT ⟨_, rfl, one_line, fun l nl => q l _ (Done.no A0 nl)⟩⟩
    | some j =>
      obtain ⟨hj, ei⟩ := jobOf_mem e
      have es : Rp04.step h (.why n) = (h, match j.on with
          | some x => ⟨2, [x.1, x.2]⟩
          | none => match h.placed.find? fun x => x.1.id == n with
            | some x => ⟨1, [x.2.id]⟩
            | none => ⟨0, (Rp04.reach h.free (j :: h.rivals j)).length :: (h.rivals j).map fun x => x.id⟩) := by
        show (match h.jobOf n with | none => (h, Rp04.ok (-2)) | some j => _) = _
        rw [e]
        rfl
      subst ei
      obtain ⟨da, ja⟩ := A0.job j hj
      refine ⟨_, rfl, rfl, _, rfl, iteF ⟨_, rfl, aj j.id, da, _, rfl, ja, rfl, aj j.id, j, rfl, ⟨da, ja⟩, _, rfl, ?_⟩⟩
      cases ho : j.on with
      | some x =>
        rw [ho] at es
        have ef1 : (jf j).lookup ("runs_on" : Str) = some (.int (x.1 : Int)) := by
          show some (onM j.on) = _
          rw [ho]; rfl
        have ef2 : (jf j).lookup ("lease" : Str) = some (.int (x.2 : Int)) := by
          show some (onL j.on) = _
          rw [ho]; rfl
        refine iteT ⟨_, rfl, aj j.id, CJ K, da, _, _, rfl, ja, T.c_Job, T.n_Job_runs_on, ef1, _, rfl, aj j.id, CJ K, da, _, _, rfl, ja, T.c_Job, T.n_Job_lease, ef2, three_line, fun l nl => q l _ ?_⟩
        rw [es]
        exact Done.read A0 (ExtN.of_same (same_new nl _)) (A0.tabs.ext (same_new nl _)) (NewN.of nl) upd_same
      | none =>
        rw [ho] at es
        refine iteF ⟨_, rfl, p, dx, _, rfl, h1, rfl, p, dm, dj, dn, am, aj, h, rfl, A0, W, fun l ts H1 e1 t1 nl gl lt1 tz => ?_⟩
        replace tz : TupsAt H1 aj am ts h.placed := tz
        have A1 := A0.ext e1 t1
        have PI := placed_is h
        have xj : ∀ x ∈ h.placed, x.1 ∈ h.chosen ∧ x.1 ∈ h.jobs ∧ x.2 ∈ h.machines := fun x hx => by
          have xc : x.1 ∈ h.chosen := by rw [← PI.1]; exact List.mem_map.mpr ⟨x, hx, rfl⟩
          exact ⟨xc, (chosen_mem xc).1, (List.mem_filter.mp (PI.2.2 x hx).1).1⟩
        have pl7 : h.placed.length ≤ 7 := by
          have z : h.placed.length = h.chosen.length := by rw [← PI.1, List.length_map]
          rw [z]
          exact Nat.le_trans (Srv.le (chosen_srv h)) (Nat.le_trans (free_len h) m7)
        refine ⟨_, rfl, l, rfl, ⟨_, SqL.of gl⟩, for_list (K := K) (a := l) (xs := ts.map V.ref)
          (fun i σ H' => ∃ v4 v5 : Option V, σ = [some (.ref p), some (.int (j.id : Int)), some (rj aj j), some (.ref l), v4, v5, none, none, none] ∧ H' = H1 ∧ ∀ x ∈ h.placed.take i, (x.1.id == j.id) = false)
          ⟨_, _, rfl, rfl, fun x hx => (by cases hx)⟩ (fun i σ H' _ ⟨_, _, _, z, _⟩ => by rw [z]; exact SqL.of gl) ?_ ?_⟩
        · rintro i y σ H2 hi ⟨v4, v5, rfl, rfl, hn⟩
          obtain ⟨t, ht, rfl⟩ := cut_map hi
          obtain ⟨x, hx, gt⟩ := tz i t ht
          obtain ⟨_, xa, xb⟩ := xj x (List.mem_of_getElem? hx)
          obtain ⟨d1, g1⟩ := A1.job x.1 xa
          obtain ⟨d2, g2⟩ := A1.mach x.2 xb
          refine ⟨t, _, rfl, SqT.of gt, rfl, _, _, rfl, _, _, rfl, rfl, ?_⟩
          refine ⟨_, rfl, aj x.1.id, CJ K, d1, _, _, rfl, g1, T.c_Job, T.n_Job_number, rfl, _, rfl, rfl, _, rfl, ?_⟩
          rw [dec_nat]
          refine ite2 (fun c => ?_) fun c => ?_
          · have ef : h.placed.find? (fun x => x.1.id == j.id) = some x := find_split _ _ i x hx hn c
            rw [ef] at es
            refine ⟨_, rfl, am x.2.id, CM K, d2, _, _, rfl, g2, T.c_Machine, T.n_Machine_number, rfl, two_line, fun r nr => q r _ ?_⟩
            rw [es]
            have sr := same_new nr (.lst [V.int 1, V.int (x.2.id : Int)])
            exact Done.read A0 (e1.trans (ExtN.of_same sr)) (t1.ext sr) (NewN.back (NewN.of nr) e1) upd_same
          · refine ⟨_, _, rfl, rfl, fun z hz => ?_⟩
            rcases mem_take_succ hx hz with y | y
            · exact hn z y
            · rw [y]; exact Bool.eq_false_iff.mpr c
        rintro σ H2 ⟨v4, v5, rfl, rfl, hn⟩
        rw [List.length_map, lt1, List.take_length] at hn
        have ef : h.placed.find? (fun x => x.1.id == j.id) = none := List.find?_eq_none.mpr fun x hx z => by rw [hn x hx] at z; cases z
        rw [ef] at es
        have jn : j ∉ h.chosen := fun z => by
          rw [← PI.1] at z
          obtain ⟨x, hx, ex⟩ := List.mem_map.mp z
          have y := hn x hx
          rw [ex, beq_self_eq_true] at y
          cases y
        have er := rivals_are (chosen_nd W.toWF0) jn
        have rc : ∀ x ∈ h.rivals j, x ∈ h.chosen := fun x hx => (List.mem_filter.mp hx).1
        have rl : (h.rivals j).length ≤ 7 := by
          rw [← er, List.length_map]
          exact Nat.le_trans (rivS_len _) pl7
        obtain ⟨db, jb⟩ := A1.job j hj
        refine ⟨_, rfl, _, rfl, l, ts, aj, am, h.placed, j, rfl, gl, lt1, tz, fun x hx => ⟨(A1.job x.1 (xj x hx).2.1).a, (A1.mach x.2 (xj x hx).2.2).a⟩, JobAt.a ⟨db, jb⟩, pl7, fun r H3 s3 nr g3 => ?_⟩
        rw [er] at g3
        have A3 := A1.same s3
        obtain ⟨dx3, h3⟩ := A3.ob
        refine ⟨_, rfl, p, dx3, _, rfl, h3, rfl, p, dm, dj, dn, am, aj, h, rfl, A3, W, fun f H4 s4 nf g4 => ?_⟩
        refine ⟨f, rfl, ⟨_, SqL.of g4⟩, fun D nD => ?_⟩
        have f7 : h.free.length ≤ 7 := Nat.le_trans (free_len h) m7
        have s34 := s3.trans s4
        have g34 := s4 _ _ g3
        refine lc_list (xs := h.free.map (rm am)) (fun i H' => Same H4 H' ∧ H' D = some (.lst (((h.free.take i).filter fun m => (j :: h.rivals j).any fun x => Rp04.suits m x).map (rm am)))) ⟨same_new nD (.lst []), upd_same⟩ (fun i H' _ ⟨s5, _⟩ => SqL.of (s5 _ _ g4)) ?_ ?_
        · rintro i y H5 hi ⟨s5, g5⟩
          obtain ⟨m, hm, rfl⟩ := cut_map hi
          have mm : m ∈ h.machines := (List.mem_filter.mp (List.mem_of_getElem? hm)).1
          have et : h.free.take (i + 1) = h.free.take i ++ [m] := by rw [List.take_add_one, hm]; rfl
          refine ⟨rfl, _, rfl, _, rfl, one_line, fun a na => ?_⟩
          have s6 := same_new na (.lst [rj aj j])
          refine ⟨_, rfl, a, r, _, _, rfl, rfl, upd_same, s6 _ _ (s5 _ _ g34), small100 (by rw [List.length_map, List.length_singleton]; omega), fun b nb => ?_⟩
          have gb := upd_same (H := upd H5 a (.lst [rj aj j])) (a := b) (o := .lst ([rj aj j] ++ (h.rivals j).map (rj aj)))
          have s7 := s6.trans (same_new nb (.lst ([rj aj j] ++ (h.rivals j).map (rj aj))))
          generalize upd (upd H5 a (.lst [rj aj j])) b (.lst ([rj aj j] ++ (h.rivals j).map (rj aj))) = H7 at gb s7
          have A7 := A3.same ((s4.trans s5).trans s7)
          have J7 : JsAt K H7 aj b (j :: h.rivals j) := ⟨gb, fun x hx => by
            rcases List.mem_cons.mp hx with z | z
            · rw [z]; exact (A7.job j hj).a
            · exact (A7.job x (chosen_mem (rc x z)).1).a, by rw [List.length_cons]; omega⟩
          refine ⟨am m.id, b, aj, m, _, rfl, (A7.mach m mm).a, J7, fun H8 s8 => ⟨_, rfl, ?_⟩⟩
          have s58 := s7.trans s8
          have g8 := s58 _ _ g5
          cases c : (j :: h.rivals j).any fun x => Rp04.suits m x with
          | false =>
            refine iteF ⟨s5.trans s58, ?_⟩
            rw [et, List.filter_append, List.filter_cons_of_neg (by rw [c]; decide), List.filter_nil, List.append_nil]
            exact g8
          | true =>
            refine iteT ⟨_, rfl, _, g8, ?_, fun e o z => ?_, ?_⟩
            · refine small1000 ?_
              rw [List.length_map]
              refine Nat.le_trans (List.length_filter_le _ _) ?_
              rw [List.length_take]
              omega
            · rw [upd_ne (ne_of_none z nD)]
              exact s58 _ _ (s5 e o z)
            · rw [upd_same, et, List.filter_append, List.filter_cons_of_pos (by rw [c]), List.filter_nil, List.map_append]
              rfl
        rintro H5 ⟨s5, g5⟩
        rw [List.length_map, List.take_length] at g5
        replace g5 : H5 D = some (.lst ((Rp04.reach h.free (j :: h.rivals j)).map (rm am))) := g5
        refine ⟨_, rfl, D, _, rfl, .inl (SqL.of g5), two_line, fun a na => ?_⟩
        have el : (((Rp04.reach h.free (j :: h.rivals j)).map (rm am)).length : Int) = ((Rp04.reach h.free (j :: h.rivals j)).length : Int) := by rw [List.length_map]
        have ga := upd_same (H := H5) (a := a) (o := .lst [V.int 0, V.int ((((Rp04.reach h.free (j :: h.rivals j)).map (rm am)).length : Nat) : Int)])
        have s6 := same_new na (.lst [V.int 0, V.int ((((Rp04.reach h.free (j :: h.rivals j)).map (rm am)).length : Nat) : Int)])
        generalize upd H5 a (.lst [V.int 0, V.int ((((Rp04.reach h.free (j :: h.rivals j)).map (rm am)).length : Nat) : Int)]) = H6 at ga s6
        have g36 := s6 _ _ (s5 _ _ g34)
        have A6 := A3.same ((s4.trans s5).trans s6)
        refine ⟨_, rfl, r, rfl, ⟨_, SqL.of g36⟩, fun B nB => ?_⟩
        refine lc_list (xs := (h.rivals j).map (rj aj)) (fun i H' => Same H6 H' ∧ H' B = some (.lst (((h.rivals j).take i).map fun x => V.int (x.id : Int)))) ⟨same_new nB (.lst []), upd_same⟩ (fun i H' _ ⟨s7, _⟩ => SqL.of (s7 _ _ g36)) ?_ ?_
        · rintro i y H7 hi ⟨s7, g7⟩
          obtain ⟨x, hx, rfl⟩ := cut_map hi
          have et : (h.rivals j).take (i + 1) = (h.rivals j).take i ++ [x] := by rw [List.take_add_one, hx]; rfl
          obtain ⟨dy, gy⟩ := A6.job x (chosen_mem (rc x (List.mem_of_getElem? hx))).1
          refine ⟨rfl, _, rfl, aj x.id, CJ K, dy, _, _, rfl, s7 _ _ gy, T.c_Job, T.n_Job_number, rfl, _, g7, small1000 (by rw [List.length_map, List.length_take]; omega), fun b o z => ?_, ?_⟩
          · rw [upd_ne (ne_of_none z nB)]
            exact s7 b o z
          · rw [upd_same, et, List.map_append]
            rfl
        rintro H7 ⟨s7, g7⟩
        rw [List.length_map, List.take_length] at g7
        refine ⟨a, B, _, _, rfl, rfl, s7 _ _ ga, g7, small100 (by simp only [List.length_map, List.length_cons, List.length_nil]; omega), fun z nz => q z _ ?_⟩
        rw [es]
        have sz := (((s34.trans s5).trans s6).trans s7).trans (same_new nz (.lst ([V.int 0, V.int ((((Rp04.reach h.free (j :: h.rivals j)).map (rm am)).length : Nat) : Int)] ++ (h.rivals j).map fun x => V.int (x.id : Int))))
        refine Done.read A0 (e1.trans (ExtN.of_same sz)) (t1.ext sz) (NewN.back (NewN.of nz) (e1.trans (ExtN.of_same (((s34.trans s5).trans s6).trans s7)))) ?_
        rw [upd_same, el]
        unfold ansL Rp04Neutral.out
        simp only [List.map_cons, List.map_map]
        rfl
end
end Lr
end
section
set_option Elab.async false
set_option linter.all false
set_option maxRecDepth 100000
set_option maxHeartbeats 4000000
namespace Lr
open PySem L2 Mt LamX
open Rp04 (Machine Job House Ans Call)
/-- a call's own number; the numbers behind it -/
def hdI : Call → Int
  | .begins _ _ => 0
  | .machine _ _ => 1
  | .job _ _ _ _ => 2
  | .serve => 3
  | .beat _ => 4
  | .result _ _ => 5
  | .tick _ => 6
  | .drain _ => 7
  | .cancel _ => 8
  | .why _ => 9
  | .queue => 10
  | .machines => 11
  | .ends => 12
def argsN : Call → List Nat
  | .begins k a => [k, a]
  | .machine i l => [i, l]
  | .job i l u t => [i, l, u, t]
  | .serve => []
  | .beat i => [i]
  | .result k n => [k, n]
  | .tick n => [n]
  | .drain i => [i]
  | .cancel i => [i]
  | .why i => [i]
  | .queue => []
  | .machines => []
  | .ends => []
def argV (c : Call) : List V := (argsN c).map fun (n : Nat) => V.int (n : Int)
theorem enc_is (c : Call) : Fl.enc c = hdI c :: (argsN c).map fun (n : Nat) => (n : Int) := by cases c <;> rfl
def spCall (K : PySem.W.Frag) : Sp := fun vs H Q _ => ∃ (p dm dj dn nl : Addr) (am aj : Nat → Addr) (h : House) (c : Call), vs = [.ref p, .int (hdI c), .ref nl] ∧ H nl = some (.lst (argV c)) ∧ HouseAt K H p dm dj dn am aj h ∧ WF h ∧ WE h ∧ ∀ (l : Addr) (H' : Hp), Done K H H' p dj l (Rp04.step h c) → Q (.ref l) H'
section
variable {P : Program} {w : World} {K : PySem.W.Frag} {mg : Str → Option Value} {base : Heap}
theorem sc_acall : FnScope ["house", "call", "numbers"] ["house", "call", "numbers"] (defScope s_answer_call) := ⟨rfl, rfl, rfl, by decide +kernel, rfl, by decide +kernel, by decide +kernel⟩
theorem ok_acall (T : Ctx K mg) (TB : TBq K base mg) : Keeps P w K mg base 15 (He.ga K "answer_call") ["house", "call", "numbers"] (spCall K) := by
  obtain ⟨fd, F⟩ := T.f_answer_call
  obtain ⟨fd0, F0, k0, b0⟩ := ok_begin (P := P) (w := w) (base := base) T
  obtain ⟨t0, m0⟩ := T.i_BEGINS
  obtain ⟨fd1, F1, k1, b1⟩ := ok_addm (P := P) (w := w) (base := base) T
  obtain ⟨t1, m1⟩ := T.i_MACHINE
  obtain ⟨fd2, F2, k2, b2⟩ := ok_addj (P := P) (w := w) (base := base) T
  obtain ⟨t2, m2⟩ := T.i_JOB
  obtain ⟨fd3, F3, k3, b3⟩ := ok_serve (P := P) (w := w) (base := base) T TB
  obtain ⟨t3, m3⟩ := T.i_SERVE
  obtain ⟨fd4, F4, k4, b4⟩ := ok_beat (P := P) (w := w) (base := base) T
  obtain ⟨t4, m4⟩ := T.i_BEAT
  obtain ⟨fd5, F5, k5, b5⟩ := ok_result (P := P) (w := w) (base := base) T
  obtain ⟨t5, m5⟩ := T.i_RESULT
  obtain ⟨fd6, F6, k6, b6⟩ := ok_tick (P := P) (w := w) (base := base) T
  obtain ⟨t6, m6⟩ := T.i_TICK
  obtain ⟨fd7, F7, k7, b7⟩ := ok_drain (P := P) (w := w) (base := base) T
  obtain ⟨t7, m7⟩ := T.i_DRAIN
  obtain ⟨fd8, F8, k8, b8⟩ := ok_cancel (P := P) (w := w) (base := base) T
  obtain ⟨t8, m8⟩ := T.i_CANCEL
  obtain ⟨fd9, F9, k9, b9⟩ := ok_why (P := P) (w := w) (base := base) T TB
  obtain ⟨t9, m9⟩ := T.i_WHY
  obtain ⟨fd10, F10, k10, b10⟩ := ok_tellq (P := P) (w := w) (base := base) T TB
  obtain ⟨t10, m10⟩ := T.i_QUEUE
  obtain ⟨fd11, F11, k11, b11⟩ := ok_tellm (P := P) (w := w) (base := base) T
  obtain ⟨t11, m11⟩ := T.i_MACHINES
  obtain ⟨fd12, F12, k12, b12⟩ := ok_telle (P := P) (w := w) (base := base) T
  refine ⟨fd, F.ok sc_acall (fun vs H Q E h => ?_) (fun cdv A outer s H vs Q E hr h => ?_), F.kp, b_answer_call F⟩
  · obtain ⟨p, dm, dj, dn, nl, am, aj, h, c, rfl, _⟩ := h
    rfl
  · obtain ⟨p, dm, dj, dn, nl, am, aj, h, c, rfl, gn, A0, W, WE0, q⟩ := h
    refine ⟨_, PSs.nox (pss_cons (ps_if (pt_cmpR op_eq (pv 1) (pe_glob rfl m0 rI) (nomark _)) (pss_one (ps_ret (pe_meth (pv 0) T.c_House T.m_House_begin F0 (hr.mono (by decide)) b0 .nil pass0 (pa_cons (pe_ix ix_list (pv 2) pe_int (fun _ _ => rfl)) (pa_cons (pe_ix ix_list (pv 2) pe_int (fun _ _ => rfl)) pa_nil))))) pss_nil)
      (pss_cons (ps_if (pt_cmpR op_eq (pv 1) (pe_glob rfl m1 rI) (nomark _)) (pss_one (ps_ret (pe_meth (pv 0) T.c_House T.m_House_add_machine F1 (hr.mono (by decide)) b1 .nil pass0 (pa_cons (pe_ix ix_list (pv 2) pe_int (fun _ _ => rfl)) (pa_cons (pe_ix ix_list (pv 2) pe_int (fun _ _ => rfl)) pa_nil))))) pss_nil)
      (pss_cons (ps_if (pt_cmpR op_eq (pv 1) (pe_glob rfl m2 rI) (nomark _)) (pss_one (ps_ret (pe_meth (pv 0) T.c_House T.m_House_add_job F2 (hr.mono (by decide)) b2 .nil pass0 (pa_cons (pe_ix ix_list (pv 2) pe_int (fun _ _ => rfl)) (pa_cons (pe_ix ix_list (pv 2) pe_int (fun _ _ => rfl)) (pa_cons (pe_ix ix_list (pv 2) pe_int (fun _ _ => rfl)) (pa_cons (pe_ix ix_list (pv 2) pe_int (fun _ _ => rfl)) pa_nil))))))) pss_nil)
      (pss_cons (ps_if (pt_cmpR op_eq (pv 1) (pe_glob rfl m3 rI) (nomark _)) (pss_one (ps_ret (pe_meth0 (pv 0) T.c_House T.m_House_serve F3 hr b3 .nil pass0))) pss_nil)
      (pss_cons (ps_if (pt_cmpR op_eq (pv 1) (pe_glob rfl m4 rI) (nomark _)) (pss_one (ps_ret (pe_meth (pv 0) T.c_House T.m_House_beat F4 (hr.mono (by decide)) b4 .nil pass0 (pa_cons (pe_ix ix_list (pv 2) pe_int (fun _ _ => rfl)) pa_nil)))) pss_nil)
      (pss_cons (ps_if (pt_cmpR op_eq (pv 1) (pe_glob rfl m5 rI) (nomark _)) (pss_one (ps_ret (pe_meth (pv 0) T.c_House T.m_House_take_result F5 (hr.mono (by decide)) b5 .nil pass0 (pa_cons (pe_ix ix_list (pv 2) pe_int (fun _ _ => rfl)) (pa_cons (pe_ix ix_list (pv 2) pe_int (fun _ _ => rfl)) pa_nil))))) pss_nil)
      (pss_cons (ps_if (pt_cmpR op_eq (pv 1) (pe_glob rfl m6 rI) (nomark _)) (pss_one (ps_ret (pe_meth (pv 0) T.c_House T.m_House_tick F6 (hr.mono (by decide)) b6 .nil pass0 (pa_cons (pe_ix ix_list (pv 2) pe_int (fun _ _ => rfl)) pa_nil)))) pss_nil)
      (pss_cons (ps_if (pt_cmpR op_eq (pv 1) (pe_glob rfl m7 rI) (nomark _)) (pss_one (ps_ret (pe_meth (pv 0) T.c_House T.m_House_drain F7 (hr.mono (by decide)) b7 .nil pass0 (pa_cons (pe_ix ix_list (pv 2) pe_int (fun _ _ => rfl)) pa_nil)))) pss_nil)
      (pss_cons (ps_if (pt_cmpR op_eq (pv 1) (pe_glob rfl m8 rI) (nomark _)) (pss_one (ps_ret (pe_meth (pv 0) T.c_House T.m_House_cancel F8 (hr.mono (by decide)) b8 .nil pass0 (pa_cons (pe_ix ix_list (pv 2) pe_int (fun _ _ => rfl)) pa_nil)))) pss_nil)
      (pss_cons (ps_if (pt_cmpR op_eq (pv 1) (pe_glob rfl m9 rI) (nomark _)) (pss_one (ps_ret (pe_meth (pv 0) T.c_House T.m_House_why F9 hr b9 .nil pass0 (pa_cons (pe_ix ix_list (pv 2) pe_int (fun _ _ => rfl)) pa_nil)))) pss_nil)
      (pss_cons (ps_if (pt_cmpR op_eq (pv 1) (pe_glob rfl m10 rI) (nomark _)) (pss_one (ps_ret (pe_meth0 (pv 0) T.c_House T.m_House_tell_queue F10 (hr.mono (by decide)) b10 .nil pass0))) pss_nil)
      (pss_cons (ps_if (pt_cmpR op_eq (pv 1) (pe_glob rfl m11 rI) (nomark _)) (pss_one (ps_ret (pe_meth0 (pv 0) T.c_House T.m_House_tell_machines F11 (hr.mono (by decide)) b11 .nil pass0))) pss_nil)
      (pss_one (ps_ret (pe_meth0 (pv 0) T.c_House T.m_House_tell_ends F12 (hr.mono (by decide)) b12 .nil pass0))))))))))))))), ?_⟩
    obtain ⟨dx, h1⟩ := A0.ob
    cases c with
    | begins k a =>
      exact ⟨_, rfl, rfl, _, rfl, iteT ⟨_, rfl, p, dx, _, rfl, h1, rfl, _, rfl, nl, _, _, _, rfl, rfl, SqL.of gn, at_of (j := 0) rfl rfl, _, rfl, nl, _, _, _, rfl, rfl, SqL.of gn, at_of (j := 1) rfl rfl, k, a, p, dm, dj, dn, am, aj, h, rfl, A0, W, WE0, q⟩⟩
    | machine i l =>
      exact ⟨_, rfl, rfl, _, rfl, iteF ⟨_, rfl, rfl, _, rfl, iteT ⟨_, rfl, p, dx, _, rfl, h1, rfl, _, rfl, nl, _, _, _, rfl, rfl, SqL.of gn, at_of (j := 0) rfl rfl, _, rfl, nl, _, _, _, rfl, rfl, SqL.of gn, at_of (j := 1) rfl rfl, i, l, p, dm, dj, dn, am, aj, h, rfl, A0, W, WE0, q⟩⟩⟩
    | job i l u t =>
      exact ⟨_, rfl, rfl, _, rfl, iteF ⟨_, rfl, rfl, _, rfl, iteF ⟨_, rfl, rfl, _, rfl, iteT ⟨_, rfl, p, dx, _, rfl, h1, rfl, _, rfl, nl, _, _, _, rfl, rfl, SqL.of gn, at_of (j := 0) rfl rfl, _, rfl, nl, _, _, _, rfl, rfl, SqL.of gn, at_of (j := 1) rfl rfl, _, rfl, nl, _, _, _, rfl, rfl, SqL.of gn, at_of (j := 2) rfl rfl, _, rfl, nl, _, _, _, rfl, rfl, SqL.of gn, at_of (j := 3) rfl rfl, i, l, u, t, p, dm, dj, dn, am, aj, h, rfl, A0, W, WE0, q⟩⟩⟩⟩
    | serve =>
      exact ⟨_, rfl, rfl, _, rfl, iteF ⟨_, rfl, rfl, _, rfl, iteF ⟨_, rfl, rfl, _, rfl, iteF ⟨_, rfl, rfl, _, rfl, iteT ⟨_, rfl, p, dx, _, rfl, h1, rfl, p, dm, dj, dn, am, aj, h, rfl, A0, W, WE0, q⟩⟩⟩⟩⟩
    | beat i =>
      exact ⟨_, rfl, rfl, _, rfl, iteF ⟨_, rfl, rfl, _, rfl, iteF ⟨_, rfl, rfl, _, rfl, iteF ⟨_, rfl, rfl, _, rfl, iteF ⟨_, rfl, rfl, _, rfl, iteT ⟨_, rfl, p, dx, _, rfl, h1, rfl, _, rfl, nl, _, _, _, rfl, rfl, SqL.of gn, at_of (j := 0) rfl rfl, i, p, dm, dj, dn, am, aj, h, rfl, A0, W, WE0, q⟩⟩⟩⟩⟩⟩
    | result k n =>
      exact ⟨_, rfl, rfl, _, rfl, iteF ⟨_, rfl, rfl, _, rfl, iteF ⟨_, rfl, rfl, _, rfl, iteF ⟨_, rfl, rfl, _, rfl, iteF ⟨_, rfl, rfl, _, rfl, iteF ⟨_, rfl, rfl, _, rfl, iteT ⟨_, rfl, p, dx, _, rfl, h1, rfl, _, rfl, nl, _, _, _, rfl, rfl, SqL.of gn, at_of (j := 0) rfl rfl, _, rfl, nl, _, _, _, rfl, rfl, SqL.of gn, at_of (j := 1) rfl rfl, k, n, p, dm, dj, dn, am, aj, h, rfl, A0, W, WE0, q⟩⟩⟩⟩⟩⟩⟩
    | tick n =>
      exact ⟨_, rfl, rfl, _, rfl, iteF ⟨_, rfl, rfl, _, rfl, iteF ⟨_, rfl, rfl, _, rfl, iteF ⟨_, rfl, rfl, _, rfl, iteF ⟨_, rfl, rfl, _, rfl, iteF ⟨_, rfl, rfl, _, rfl, iteF ⟨_, rfl, rfl, _, rfl, iteT ⟨_, rfl, p, dx, _, rfl, h1, rfl, _, rfl, nl, _, _, _, rfl, rfl, SqL.of gn, at_of (j := 0) rfl rfl, n, p, dm, dj, dn, am, aj, h, rfl, A0, W, WE0, q⟩⟩⟩⟩⟩⟩⟩⟩
    | drain i =>
      exact ⟨_, rfl, rfl, _, rfl, iteF ⟨_, rfl, rfl, _, rfl, iteF ⟨_, rfl, rfl, _, rfl, iteF ⟨_, rfl, rfl, _, rfl, iteF ⟨_, rfl, rfl, _, rfl, iteF ⟨_, rfl, rfl, _, rfl, iteF ⟨_, rfl, rfl, _, rfl, iteF ⟨_, rfl, rfl, _, rfl, iteT ⟨_, rfl, p, dx, _, rfl, h1, rfl, _, rfl, nl, _, _, _, rfl, rfl, SqL.of gn, at_of (j := 0) rfl rfl, i, p, dm, dj, dn, am, aj, h, rfl, A0, W, WE0, q⟩⟩⟩⟩⟩⟩⟩⟩⟩
    | cancel i =>
      exact ⟨_, rfl, rfl, _, rfl, iteF ⟨_, rfl, rfl, _, rfl, iteF ⟨_, rfl, rfl, _, rfl, iteF ⟨_, rfl, rfl, _, rfl, iteF ⟨_, rfl, rfl, _, rfl, iteF ⟨_, rfl, rfl, _, rfl, iteF ⟨_, rfl, rfl, _, rfl, iteF ⟨_, rfl, rfl, _, rfl, iteF ⟨_, rfl, rfl, _, rfl, iteT ⟨_, rfl, p, dx, _, rfl, h1, rfl, _, rfl, nl, _, _, _, rfl, rfl, SqL.of gn, at_of (j := 0) rfl rfl, i, p, dm, dj, dn, am, aj, h, rfl, A0, W, WE0, q⟩⟩⟩⟩⟩⟩⟩⟩⟩⟩
    | why i =>
      exact ⟨_, rfl, rfl, _, rfl, iteF ⟨_, rfl, rfl, _, rfl, iteF ⟨_, rfl, rfl, _, rfl, iteF ⟨_, rfl, rfl, _, rfl, iteF ⟨_, rfl, rfl, _, rfl, iteF ⟨_, rfl, rfl, _, rfl, iteF ⟨_, rfl, rfl, _, rfl, iteF ⟨_, rfl, rfl, _, rfl, iteF ⟨_, rfl, rfl, _, rfl, iteF ⟨_, rfl, rfl, _, rfl, iteT ⟨_, rfl, p, dx, _, rfl, h1, rfl, _, rfl, nl, _, _, _, rfl, rfl, SqL.of gn, at_of (j := 0) rfl rfl, i, p, dm, dj, dn, am, aj, h, rfl, A0, W, WE0, q⟩⟩⟩⟩⟩⟩⟩⟩⟩⟩⟩
    | queue =>
      exact ⟨_, rfl, rfl, _, rfl, iteF ⟨_, rfl, rfl, _, rfl, iteF ⟨_, rfl, rfl, _, rfl, iteF ⟨_, rfl, rfl, _, rfl, iteF ⟨_, rfl, rfl, _, rfl, iteF ⟨_, rfl, rfl, _, rfl, iteF ⟨_, rfl, rfl, _, rfl, iteF ⟨_, rfl, rfl, _, rfl, iteF ⟨_, rfl, rfl, _, rfl, iteF ⟨_, rfl, rfl, _, rfl, iteF ⟨_, rfl, rfl, _, rfl, iteT ⟨_, rfl, p, dx, _, rfl, h1, rfl, p, dm, dj, dn, am, aj, h, rfl, A0, W, WE0, q⟩⟩⟩⟩⟩⟩⟩⟩⟩⟩⟩⟩
    | machines =>
      exact ⟨_, rfl, rfl, _, rfl, iteF ⟨_, rfl, rfl, _, rfl, iteF ⟨_, rfl, rfl, _, rfl, iteF ⟨_, rfl, rfl, _, rfl, iteF ⟨_, rfl, rfl, _, rfl, iteF ⟨_, rfl, rfl, _, rfl, iteF ⟨_, rfl, rfl, _, rfl, iteF ⟨_, rfl, rfl, _, rfl, iteF ⟨_, rfl, rfl, _, rfl, iteF ⟨_, rfl, rfl, _, rfl, iteF ⟨_, rfl, rfl, _, rfl, iteF ⟨_, rfl, rfl, _, rfl, iteT ⟨_, rfl, p, dx, _, rfl, h1, rfl, p, dm, dj, dn, am, aj, h, rfl, A0, W, WE0, q⟩⟩⟩⟩⟩⟩⟩⟩⟩⟩⟩⟩⟩
    | ends =>
      exact ⟨_, rfl, rfl, _, rfl, iteF ⟨_, rfl, rfl, _, rfl, iteF ⟨_, rfl, rfl, _, rfl, iteF ⟨_, rfl, rfl, _, rfl, iteF ⟨_, rfl, rfl, _, rfl, iteF ⟨_, rfl, rfl, _, rfl, iteF ⟨_, rfl, rfl, _, rfl, iteF ⟨_, rfl, rfl, _, rfl, iteF ⟨_, rfl, rfl, _, rfl, iteF ⟨_, rfl, rfl, _, rfl, iteF ⟨_, rfl, rfl, _, rfl, iteF ⟨_, rfl, rfl, _, rfl, iteF ⟨_, rfl, p, dx, _, rfl, h1, rfl, p, dm, dj, dn, am, aj, h, rfl, A0, W, WE0, q⟩⟩⟩⟩⟩⟩⟩⟩⟩⟩⟩⟩⟩
end
end Lr
end
section
set_option Elab.async false
set_option linter.all false
set_option maxRecDepth 100000
set_option maxHeartbeats 4000000
namespace Lr
open PySem L2 Mt LamX
open Rp04 (Machine Job House Ans Call)
theorem cut_mid (xs : List V) (a b : Nat) (h2 : b ≤ xs.length) (h1 : a ≤ b) : cutV xs (some (a : Int)) (some (b : Int)) = (xs.drop a).take (b - a) := by
  unfold cutV
  rw [HT.sIx_nat, HT.sIx_nat, Nat.min_eq_left h2, Nat.min_eq_left (Nat.le_trans h1 h2)]
/-- the list that is handed in: it stays as it is -/
def CI (K : PySem.W.Frag) (H : Hp) (a g dj : Addr) (xs : List V) : Prop := (Rd H a (.lst xs) ∧ a ≠ dj ∧ a ≠ g) ∨ ∀ H' : Hp, SqL K H' a xs
theorem CI.sq {K : PySem.W.Frag} {H : Hp} {a g dj : Addr} {xs : List V} (c : CI K H a g dj xs) : SqL K H a xs := by
  rcases c with ⟨z, _⟩ | z
  · exact .inl z
  · exact z H
theorem CI.same {K : PySem.W.Frag} {H H' : Hp} {a g dj : Addr} {xs : List V} (c : CI K H a g dj xs) (s : Same H H') : CI K H' a g dj xs := by
  rcases c with ⟨z | ⟨o, z⟩, n⟩ | z
  · exact .inl ⟨.inl (s _ _ z), n⟩
  · exact .inl ⟨.inr ⟨o, s _ _ z⟩, n⟩
  · exact .inr z
theorem CI.upd {K : PySem.W.Frag} {H : Hp} {a g dj : Addr} {xs : List V} {o : HO} (c : CI K H a g dj xs) : CI K (L2.upd H g o) a g dj xs := by
  rcases c with ⟨z | ⟨o, z⟩, n⟩ | z
  · exact .inl ⟨.inl (by rw [upd_ne n.2]; exact z), n⟩
  · exact .inl ⟨.inr ⟨o, by rw [upd_ne n.2]; exact z⟩, n⟩
  · exact .inr z
theorem CI.done {K : PySem.W.Frag} {H H' : Hp} {a g dj dj' p l : Addr} {xs : List V} {r : House × Ans} (c : CI K H a g dj xs) (D : Done K H H' p dj l r) (hd : dj' = dj ∨ NewN H dj') : CI K H' a g dj' xs := by
  rcases c with ⟨z, n⟩ | z
  · refine .inl ⟨?_, ?_, n.2⟩
    · rcases z with z | ⟨o, z⟩
      · exact .inl (D.keep _ _ z n.1)
      · exact .inr ⟨o, D.frz _ _ _ z⟩
    · rcases hd with e | e
      · rw [e]; exact n.1
      · rcases z with z | ⟨o, z⟩
        · exact e _ _ z nofun
        · exact e _ _ z nofun
  · exact .inr z
def spAns (K : PySem.W.Frag) : Sp := fun vs H Q _ => ∃ (a : Addr) (cs : List Call), vs = [.ref a] ∧ SqL K H a ((Fl.encs cs).map V.int) ∧ cs.length ≤ 60 ∧ Tabs (tabQ K) H ∧ ∀ (g : Addr) (H' : Hp), H' g = some (.lst ((Fl.run Rp04.init cs).map V.int)) → Q (.ref g) H'
def sizesL : List Int := [2, 2, 4, 0, 1, 2, 1, 1, 1, 1, 0, 0, 0]
theorem size_at (c : Call) : atI (sizesL.map V.int) (hdI c) = some (.int ((argsN c).length : Nat)) := by
  cases c <;> rfl
/-- what is left: how far the list was read -/
def mu (N : Nat) (σ : L2.St) (_ : Hp) : Nat := match (σ : List (Option V))[3]? with
  | some (some (V.int s)) => N - s.toNat
  | _ => 0
structure Inv0 (K : PySem.W.Frag) (cs : List Call) (a p g : Addr) (σ : L2.St) (H : Hp) : Prop where
  ex : ∃ (dm dj dn : Addr) (am aj : Nat → Addr) (h : House) (pre suf : List Call) (outs : List Int) (v4 v5 v6 : Option V), σ = [some (.ref a), some (.ref p), some (.ref g), some (.int ((Fl.encs pre).length : Nat)), v4, v5, v6] ∧ cs = pre ++ suf ∧
    Fl.run Rp04.init cs = outs ++ Fl.run h suf ∧ outs.length ≤ 101 * pre.length ∧ HouseAt K H p dm dj dn am aj h ∧ WF h ∧ WE h ∧ CI K H a g dj ((Fl.encs cs).map V.int) ∧ H g = some (.lst (outs.map V.int)) ∧ g ≠ dj
theorem encs_app (a b : List Call) : Fl.encs (a ++ b) = Fl.encs a ++ Fl.encs b := by unfold Fl.encs; rw [List.flatMap_append]
theorem encs_one (c : Call) (b : List Call) : Fl.encs (c :: b) = hdI c :: ((argsN c).map fun (n : Nat) => (n : Int)) ++ Fl.encs b := by
  unfold Fl.encs
  rw [List.flatMap_cons, enc_is]
section
variable {P : Program} {w : World} {K : PySem.W.Frag} {mg : Str → Option Value} {base : Heap}
abbrev nAns : List Str := ["calls", "house", "given", "start", "call", "end", "answer"]
theorem sc_ans : FnScope nAns ["calls"] (defScope s_answers) := ⟨rfl, rfl, rfl, by decide +kernel, rfl, by decide +kernel, by decide +kernel⟩
theorem ok_ans (T : Ctx K mg) (TB : TBq K base mg) {fd : FuncData} (F : FnD K d_answers (He.ga K "answers") fd) : FnOk P w K mg base CX0 16 (He.ga K "answers") fd ["calls"] (spAns K) := by
  obtain ⟨fd1, F1, k1, b1⟩ := ok_hinit (P := P) (w := w) (base := base) T
  obtain ⟨fd2, F2, k2, b2⟩ := ok_acall (P := P) (w := w) (base := base) T TB
  refine F.ok sc_ans (fun vs H Q E h => ?_) (fun cdv A outer s H vs Q E hr h => ?_)
  · obtain ⟨a, cs, rfl, _⟩ := h
    rfl
  · obtain ⟨a, cs, rfl, hc, l60, tb, q⟩ := h
    have nd := sc_ans.nd
    refine ⟨_, PSs.nox (pss_cons (ps_set (i := 1) nd rfl (Or.inl rfl) (pe_make0 T.k_House F1 (hr.mono (by decide)) rfl T.g_House b1 .nil pass0))
      (pss_cons (ps_set (i := 2) nd rfl (Or.inl rfl) (pe_lst pa_nil))
      (pss_cons (ps_set (i := 3) nd rfl (Or.inl rfl) pe_int)
      (pss_cons (ps_while PassesOwn.never (pt_cmpR op_lt (pv 3) (pe_callB call_len_seq (by rfl) T.z_len PySem.boot_len (pa_cons (pv 0) pa_nil)) (nomark _))
        (pss_cons (ps_set (i := 4) nd rfl (Or.inl rfl) (pe_ix ix_list (pv 0) (pv 3) (fun _ _ => rfl)))
        (pss_cons (ps_set (i := 5) nd rfl (Or.inl rfl) (pe_op op_add (pe_op op_add (pv 3) pe_int) (pe_ix ix_tup (pe_glob (v := .ref (He.ga K "SIZES")) rfl T.g_SIZES rfl) (pv 4) (fun _ _ => rfl))))
        (pss_cons (ps_set (i := 6) nd rfl (Or.inl rfl) (pe_call F2 hr rfl T.g_answer_call k2 b2 .nil pass0 (pa_cons (pv 1) (pa_cons (pv 4) (pa_cons (pe_slice sl_list (pv 0) (po_some (pe_op op_add (pv 3) pe_int)) (po_some (pv 5))) pa_nil)))))
        (pss_cons (ps_expr (pe_bm PySem.F.plainAttrs_list PySem.F.slot_list_append PySem.F.type_list_append mt_append (pv 2) (pa_cons (pe_callB call_len_seq (by rfl) T.z_len PySem.boot_len (pa_cons (pv 6) pa_nil)) pa_nil)))
        (pss_cons (ps_expr (pe_bm PySem.F.plainAttrs_list PySem.F.slot_list_extend PySem.F.type_list_extend mt_extend (pv 2) (pa_cons (pv 6) pa_nil)))
        (pss_one (ps_set (i := 3) nd rfl (Or.inl rfl) (pv 5)))))))))
      (pss_one (ps_ret (pv 2))))))), ?_⟩
    intro x dx nx ndx ne
    refine ⟨x, dx, rfl, upd_same, fun dm dj dn H1 a1 a2 a3 a4 a5 a6 a7 a8 a9 => ⟨rfl, ?_⟩⟩
    have s0 : Same H (upd (upd H dx (.own x)) x (.ins (CH K) dx [])) := fun b o e => by rw [upd_ne (ne_of_none e nx), upd_ne (ne_of_none e ndx)]; exact e
    have t1 : Tabs (tabQ K) H1 := tabs_but (tb.ext s0) upd_same nofun nofun a1
    have A1 : HouseAt K H1 x dm dj dn (fun _ => 0) (fun _ => 0) Rp04.init := HouseAt.anew (H := H) (k := 5) (a := 10) t1 a5 a6 a7 a8 a9 _ _
    refine ⟨Nat.zero_le _, fun g ng => ?_⟩
    have s1 := same_new ng (.lst [])
    have c0 : CI K (upd H1 g (.lst [])) a g dj ((Fl.encs cs).map V.int) := by
      rcases hc with z | z
      · have keep : ∀ o, H a = some o → H1 a = some o := fun o e => a1 a o (s0 _ _ e) (ne_of_none e nx)
        rcases z with z | ⟨o, z⟩
        · exact .inl ⟨.inl (s1 _ _ (keep _ z)), ne_of_none (s0 _ _ z) a3, ne_of_none (keep _ z) ng⟩
        · exact .inl ⟨.inr ⟨o, s1 _ _ (keep _ z)⟩, ne_of_none (s0 _ _ z) a3, ne_of_none (keep _ z) ng⟩
      · exact .inr fun H' => .inr z
    have gj : g ≠ dj := fun z => ne_of_none a8 ng z.symm
    refine while_by (Inv0 K cs a x g) (mu (Fl.encs cs).length) ⟨dm, dj, dn, _, _, Rp04.init, [], cs, [], none, none, none, rfl, rfl, rfl, Nat.zero_le _, A1.same s1, init_wf, init_we, c0, upd_same, gj⟩ ?_ ?_
    · rintro σ H2 ⟨dm, dj, dn, am, aj, h, pre, suf, outs, v4, v5, v6, rfl, ec, er, lo, A2, W, WE2, C2, g2, gj⟩
      refine ⟨_, rfl, _, rfl, a, _, rfl, .inl C2.sq, _, _, rfl, rfl, _, rfl, ?_⟩
      have ll : (((Fl.encs cs).map V.int).length : Nat) = (Fl.encs pre).length + (Fl.encs suf).length := by rw [List.length_map, ec, encs_app, List.length_append]
      cases suf with
      | nil =>
        have z : (Fl.encs ([] : List Call)).length = 0 := rfl
        rw [decide_eq_false (show ¬ (((Fl.encs pre).length : Nat) : Int) < ((((Fl.encs cs).map V.int).length : Nat) : Int) by omega)]
        rw [show Fl.run h [] = [] from rfl, List.append_nil] at er
        rw [← er] at g2
        exact iteF ⟨_, rfl, q g H2 g2⟩
      | cons c suf =>
        have z : (Fl.encs (c :: suf)).length = 1 + (argsN c).length + (Fl.encs suf).length := by rw [encs_one, List.length_append, List.length_cons, List.length_map]; omega
        rw [decide_eq_true (show (((Fl.encs pre).length : Nat) : Int) < ((((Fl.encs cs).map V.int).length : Nat) : Int) by omega)]
        have el : (Fl.encs cs).map V.int = (Fl.encs pre).map V.int ++ (V.int (hdI c) :: argV c ++ (Fl.encs suf).map V.int) := by
          rw [ec, encs_app, encs_one, List.map_append, List.map_append, List.map_cons, List.map_map]
          rfl
        have eat : ((Fl.encs cs).map V.int)[(Fl.encs pre).length]? = some (V.int (hdI c)) := by
          rw [el, List.getElem?_append_right (by rw [List.length_map]; exact Nat.le_refl _), List.length_map, Nat.sub_self]
          rfl
        refine iteT ⟨_, rfl, _, rfl, a, _, _, _, rfl, rfl, C2.sq, at_of (j := (Fl.encs pre).length) rfl eat, ?_⟩
        have hs : SqT K H2 (He.ga K "SIZES") (sizesL.map V.int) := He.tupB_ok T.more H2
        refine ⟨_, rfl, _, _, rfl, rfl, _, rfl, He.ga K "SIZES", _, _, _, rfl, rfl, hs, size_at c, _, _, rfl, rfl, ?_⟩
        have ecut : cutV ((Fl.encs cs).map V.int) (some (((Fl.encs pre).length : Nat) + 1 : Int)) (some (((Fl.encs pre).length : Nat) + 1 + ((argsN c).length : Nat) : Int)) = argV c := by
          rw [show (((Fl.encs pre).length : Nat) + 1 : Int) = (((Fl.encs pre).length + 1 : Nat) : Int) by omega, show ((((Fl.encs pre).length + 1 : Nat) : Int) + ((argsN c).length : Nat) : Int) = (((Fl.encs pre).length + 1 + (argsN c).length : Nat) : Int) by omega,
            cut_mid _ _ _ (by omega) (by omega), el, ← List.drop_drop]
          rw [show (Fl.encs pre).length = ((Fl.encs pre).map V.int).length by rw [List.length_map], List.drop_left]
          have ea : (argV c).length = (argsN c).length := by unfold argV; rw [List.length_map]
          show ((argV c ++ (Fl.encs suf).map V.int)).take _ = _
          rw [show ((Fl.encs pre).map V.int).length + 1 + (argsN c).length - (((Fl.encs pre).map V.int).length + 1) = (argV c).length by omega]
          exact List.take_left
        refine ⟨_, rfl, _, rfl, _, rfl, _, rfl, _, _, rfl, rfl, _, rfl, _, rfl, _, rfl, a, _, rfl, C2.sq, fun nl nn => ?_⟩
        have s3 := same_new nn (.lst (cutV ((Fl.encs cs).map V.int) (some (((Fl.encs pre).length : Nat) + 1 : Int)) (some (((Fl.encs pre).length : Nat) + 1 + ((argsN c).length : Nat) : Int))))
        have g3 : upd H2 nl (.lst (cutV ((Fl.encs cs).map V.int) (some (((Fl.encs pre).length : Nat) + 1 : Int)) (some (((Fl.encs pre).length : Nat) + 1 + ((argsN c).length : Nat) : Int)))) nl = some (.lst (argV c)) := by rw [upd_same, ecut]
        generalize upd H2 nl (.lst (cutV ((Fl.encs cs).map V.int) (some (((Fl.encs pre).length : Nat) + 1 : Int)) (some (((Fl.encs pre).length : Nat) + 1 + ((argsN c).length : Nat) : Int)))) = H3 at s3 g3
        refine ⟨x, dm, dj, dn, nl, am, aj, h, c, rfl, g3, A2.same s3, W, WE2, fun l H4 D => ?_⟩
        obtain ⟨dm', dj', dn', am', aj', A4, hd⟩ := D.at_
        have gg := D.keep _ _ (s3 _ _ g2) gj
        have gl : g ≠ l := D.new _ _ (s3 _ _ g2) nofun
        have gj' : g ≠ dj' := hd.elim (fun e => by rw [e]; exact gj) fun e => e _ _ (s3 _ _ g2) nofun
        have C4 := (C2.same s3).done D hd
        have al := ans_len W c
        have pl : pre.length ≤ 60 := by rw [ec, List.length_append] at l60; omega
        refine ⟨_, rfl, .inl ⟨rfl, _, SqL.of gg⟩, _, rfl, l, _, rfl, .inl (SqL.of D.ans), g, _, _, rfl, rfl, gg, Nat.lt_of_le_of_lt (show (outs.map V.int).length ≤ 10000 by rw [List.length_map]; omega) (by decide), ?_⟩
        have la : (ansL (Rp04.step h c).2).length = (Rp04Neutral.out (Rp04.step h c).2).length := by unfold ansL; rw [List.length_map]
        have g5 := upd_same (H := H4) (a := g) (o := .lst (outs.map V.int ++ [V.int (((ansL (Rp04.step h c).2).length : Nat) : Int)]))
        have a5' : upd H4 g (.lst (outs.map V.int ++ [V.int (((ansL (Rp04.step h c).2).length : Nat) : Int)])) l = some (.lst (ansL (Rp04.step h c).2)) := by rw [upd_ne gl.symm]; exact D.ans
        have A5 : HouseAt K (upd H4 g (.lst (outs.map V.int ++ [V.int (((ansL (Rp04.step h c).2).length : Nat) : Int)]))) x dm' dj' dn' am' aj' (Rp04.step h c).1 := A4.lst gg gj'
        have C5 : CI K (upd H4 g (.lst (outs.map V.int ++ [V.int (((ansL (Rp04.step h c).2).length : Nat) : Int)]))) a g dj' ((Fl.encs cs).map V.int) := C4.upd
        generalize upd H4 g (.lst (outs.map V.int ++ [V.int (((ansL (Rp04.step h c).2).length : Nat) : Int)])) = H5 at g5 a5' A5 C5
        refine ⟨_, rfl, .inl ⟨rfl, _, SqL.of g5⟩, _, rfl, g, l, _, _, rfl, rfl, g5, a5', Nat.le_of_lt (Nat.lt_of_le_of_lt (show (outs.map V.int ++ [V.int (((ansL (Rp04.step h c).2).length : Nat) : Int)]).length + (ansL (Rp04.step h c).2).length ≤ 10000 by rw [List.length_append, List.length_map, List.length_singleton]; omega) (by decide)), ?_⟩
        have e5 : (((Fl.encs pre).length : Nat) : Int) + 1 + ((argsN c).length : Nat) = ((Fl.encs (pre ++ [c])).length : Nat) := by
          rw [encs_app, List.length_append, encs_one]
          simp only [List.length_append, List.length_cons, List.length_map]
          show _ = ((_ + (_ + 1 + 0) : Nat) : Int)
          omega
        refine ⟨_, rfl, ⟨dm', dj', dn', am', aj', (Rp04.step h c).1, pre ++ [c], suf, outs ++ ((Rp04Neutral.out (Rp04.step h c).2).length : Int) :: Rp04Neutral.out (Rp04.step h c).2, some (.int (hdI c)), some (.int ((((Fl.encs pre).length : Nat) : Int) + 1 + ((argsN c).length : Nat))), some (.ref l), ?_, ?_, ?_, ?_, A5.lst g5 gj', step_wf W c, step_we W WE2 c, C5.upd, ?_, gj'⟩, ?_⟩
        · rw [← e5]
          rfl
        · rw [ec, List.append_assoc]; rfl
        · rw [er, List.append_assoc]; rfl
        · simp only [List.length_append, List.length_cons, List.length_nil]
          omega
        · rw [upd_same, List.map_append, List.map_cons, List.append_assoc, la]
          rfl
        · show (Fl.encs cs).length - ((((Fl.encs pre).length : Nat) : Int) + 1 + ((argsN c).length : Nat)).toNat < (Fl.encs cs).length - (((Fl.encs pre).length : Nat) : Int).toNat
          rw [List.length_map] at ll
          omega
    · rintro σ H2 Q1 Q2 hm ⟨u3, e3, u0, e0, pp, xs, ep, hs, i, j, ei, ej, k, ek, hq⟩
      exact ⟨u3, e3, u0, e0, pp, xs, ep, hs, i, j, ei, ej, k, ek, hm _ _ hq⟩
end
end Lr
end
section
set_option Elab.async false
set_option linter.all false
set_option maxRecDepth 100000
set_option maxHeartbeats 4000000
namespace Lr
open PySem L2 Mt LamX
open Rp04 (Machine Job House Ans Call)
theorem spec_at {w : World} {K : PySem.W.Frag} {mg : Str → Option Value} {fa : Addr} {h : Heap} (KX : K.In h) (G : h.Ns mainGlobals mg) (c : He.SaysX allFacts allDefs [] makers more w h K) (hmg : mg "answers" = some (.ref fa)) : SpecAt theRow w K L2.CX0 16 ["calls"] mg fa h := by
  have T : Ctx K mg := ⟨⟨h, KX, G⟩, c.t.d, c.more⟩
  have e := hmg.symm.trans T.g_answers
  cases e
  obtain ⟨fd, F⟩ := T.f_answers
  have mq : (("House", some "queue") : He.Defn) ∈ makers := List.mem_singleton.mpr rfl
  refine ⟨fd, [He.cT K ("House", some "queue")], spAns K, fun p hp => ?_, fun p hp => ?_, fun p hp => ?_, fun s us hl => F.bindsA (fun _ _ _ _ _ _ us hl => match us, hl with | [_], _ => rfl) s us hl, fun H0 H xs a hH ht hwi hask hx => ?_, fun base kb gb tb => ?_⟩
  · rw [List.mem_singleton.mp hp]
    exact c.empty _ mq
  · rw [List.mem_singleton.mp hp]
    exact c.out _ mq
  · rw [List.mem_singleton.mp hp]
    exact PySem.W.codeHd_of_K KX (c.hd _ mq)
  · cases hx with
    | cons h1 h2 =>
      cases h2
      cases h1 with
      | lst hs ha =>
        have e := L2.ints_dw a.1 _ ha
        subst e
        obtain ⟨cs, e1, e2, e3⟩ := Fl.flat (l := a.1) hask
        have hs' : SqL K H _ (a.1.map V.int) := (show Same H0 H from hH).seq hs
        have tq : Tabs (tabQ K) H := fun p hp => by
          rw [List.mem_singleton.mp hp]
          exact TabS.nil (ht _ (List.mem_singleton.mpr rfl))
        rw [e1] at hs'
        refine ⟨_, cs, rfl, hs', e2, tq, fun g H' hg => ?_⟩
        rw [← e3] at hg
        exact .lst (L2.SqL.of hg) (L2.dw_ints _)
  · exact ok_ans T (tb _ (List.mem_singleton.mpr rfl)) F
end Lr
end
section
set_option Elab.async false
set_option linter.all false
set_option maxRecDepth 100000
set_option maxHeartbeats 4000000
namespace Lr
open PySem L2
theorem theRun (w : World) : HeadRun.RunEqS theRow theView hk ob 3000 others w := by
  intro os
  kernel_rfl
end Lr
end
set_option Elab.async false
set_option maxRecDepth 100000
set_option maxHeartbeats 0
open PySem PySem.W PySem.Calls PyProof.Rows
theorem PySem.Challenge.cw_labelrunners_s01_answers_holds : PySem.Challenge.rw_labelrunners_s01_answers.Holds := by
  w_on
  refine HeadRun.head_spec (r := Lr.theRow) (q := Lr.theView) (H := Lr.hk) (ob := Lr.ob) (M := 3000) (loose := Lr.others) (d := HeadRun.topDef Lr.theRow.prog 42) (kwd := []) Lr.ob_eq (by kernel_rfl) (fun s => by kernel_rfl) Lr.theRun
    (by kernel_rfl) (by kernel_rfl) (by kernel_rfl) os_shapes (by decide +kernel) (by decide +kernel) ⟨rfl, rfl, rfl, rfl, rfl, by decide +kernel⟩ ?hw ?hc
  case hw => exact ⟨[.list [.int 10]], by decide +kernel, by decide +kernel⟩
  case hc =>
    refine Lr.walk_specT (k := 16) (CX := L2.CX0) (ps := ["calls"]) (by decide +kernel) (by kernel_rfl) rfl ⟨rfl, by decide, by decide⟩ ?F (fun _ _ _ _ z => z)
    intro w mg fa h Y G hmg
    obtain ⟨K, KX, c⟩ := Y
    exact ⟨K, KX, Lr.spec_at KX G c hmg⟩
