import PyProof.Rows.All
import Wide.All
import OpenK.AllK
import Wide.FinOn
import HandS.ForMost
import HandS.ForSpec
import HandS.Deep
import HandS.SetKeys
import HandS.Walk
import KE.DataFind
import KE.GoesEnumKw
import KE.LtSeq
import PyProof.DictMoreH
import PyProof.Rows.TupDisplay
import HandS.Conv
import Open.SpecLaws
import KE.OsGo
import PySem.Challenge.RW_takegive_s01_answers
set_option Elab.async false
set_option linter.all false
namespace Tg
open Wm02
/-! ### closures -/
inductive RT {A : Type} (R : A → A → Prop) : A → A → Prop
  | refl (a : A) : RT R a a
  | tail {a b c : A} : RT R a b → R b c → RT R a c
theorem RT.one {A : Type} {R : A → A → Prop} {a b : A} (h : R a b) : RT R a b := .tail (.refl a) h
theorem RT.trans {A : Type} {R : A → A → Prop} {a b c : A} (h : RT R a b) (k : RT R b c) : RT R a c := by
  induction k with
  | refl => exact h
  | tail _ r ih => exact .tail ih r
theorem RT.mono_on {A : Type} {R T : A → A → Prop} {P : A → Prop} (h : ∀ a b, P a → R a b → T a b ∧ P b) {a b : A} (ha : P a) (r : RT R a b) : RT T a b ∧ P b := by
  induction r with
  | refl => exact ⟨.refl _, ha⟩
  | tail _ s ih => exact ⟨.tail ih.1 (h _ _ ih.2 s).1, (h _ _ ih.2 s).2⟩
theorem RT.mono {A : Type} {R T : A → A → Prop} (h : ∀ a b, R a b → T a b) {a b : A} (r : RT R a b) : RT T a b :=
  (RT.mono_on (P := fun _ => True) (fun a b _ q => ⟨h a b q, trivial⟩) trivial r).1
/-- a set that holds the start and is closed holds all that is reached -/
theorem RT.closed {A : Type} {R : A → A → Prop} {P : A → Prop} (hc : ∀ a b, P a → R a b → P b) {a b : A} (ha : P a) (r : RT R a b) : P b := by
  induction r with
  | refl => exact ha
  | tail _ s ih => exact hc _ _ ih s
/-! ### lists without repetition -/
theorem nodup_sub_len : ∀ {l m : List Nat}, l.Nodup → (∀ x ∈ l, x ∈ m) → l.length ≤ m.length
  | [], m, _, _ => Nat.zero_le _
  | a :: l, m, hn, hs => by
    obtain ⟨h1, h2⟩ := List.nodup_cons.mp hn
    have ha : a ∈ m := hs a (List.mem_cons_self)
    have h3 : l.length ≤ (m.erase a).length := by
      refine nodup_sub_len h2 fun x hx => ?_
      have hxm := hs x (List.mem_cons_of_mem _ hx)
      have hne : x ≠ a := fun e => h1 (e ▸ hx)
      exact (List.mem_erase_of_ne hne).mpr hxm
    have h4 := List.length_erase_of_mem ha
    have h5 : 0 < m.length := List.length_pos_of_mem ha
    rw [List.length_cons]
    omega
/-! ### the specification's growing lists -/
def growStep (al : List Nat) (R : Nat → Nat → Bool) (l : List Nat) : List Nat := l ++ al.filter fun y => !l.contains y && l.any fun x => R x y
def grow (al : List Nat) (R : Nat → Nat → Bool) : Nat → List Nat → List Nat
  | 0, l => l
  | f + 1, l => grow al R f (growStep al R l)
theorem mem_growStep {al : List Nat} {R : Nat → Nat → Bool} {l : List Nat} {y : Nat} : y ∈ growStep al R l ↔ y ∈ l ∨ (y ∈ al ∧ y ∉ l ∧ ∃ x ∈ l, R x y = true) := by
  unfold growStep
  rw [List.mem_append, List.mem_filter, Bool.and_eq_true, List.any_eq_true, Bool.not_eq_true', List.contains_eq_mem, decide_eq_false_iff_not]
theorem growStep_nodup {al : List Nat} {R : Nat → Nat → Bool} {l : List Nat} (ha : al.Nodup) (hl : l.Nodup) : (growStep al R l).Nodup := by
  unfold growStep
  rw [List.nodup_append]
  refine ⟨hl, ha.filter _, fun a h1 b h2 e => ?_⟩
  subst e
  rw [List.mem_filter, Bool.and_eq_true, Bool.not_eq_true', List.contains_eq_mem, decide_eq_false_iff_not] at h2
  exact h2.2.1 h1
theorem growStep_sub {al : List Nat} {R : Nat → Nat → Bool} {l : List Nat} (h : ∀ x ∈ l, x ∈ al) : ∀ x ∈ growStep al R l, x ∈ al := fun x hx => by
  rcases mem_growStep.mp hx with q | q
  · exact h x q
  · exact q.1
theorem grow_sub {al : List Nat} {R : Nat → Nat → Bool} : ∀ {f : Nat} {l : List Nat}, (∀ x ∈ l, x ∈ al) → ∀ x ∈ grow al R f l, x ∈ al
  | 0, _, h => h
  | f + 1, l, h => fun x hx => grow_sub (f := f) (l := growStep al R l) (growStep_sub h) x hx
theorem grow_nodup {al : List Nat} {R : Nat → Nat → Bool} (ha : al.Nodup) : ∀ {f : Nat} {l : List Nat}, l.Nodup → (grow al R f l).Nodup
  | 0, _, h => h
  | f + 1, l, h => grow_nodup ha (f := f) (l := growStep al R l) (growStep_nodup ha h)
theorem grow_keeps {al : List Nat} {R : Nat → Nat → Bool} : ∀ {f : Nat} {l : List Nat}, ∀ x ∈ l, x ∈ grow al R f l
  | 0, _, _, h => h
  | f + 1, l, x, h => grow_keeps (f := f) (l := growStep al R l) x (mem_growStep.mpr (.inl h))
theorem grow_sound {al : List Nat} {R : Nat → Nat → Bool} : ∀ {f : Nat} {l : List Nat} {y : Nat}, y ∈ grow al R f l → ∃ x ∈ l, RT (fun a b => b ∈ al ∧ R a b = true) x y
  | 0, _, y, h => ⟨y, h, .refl _⟩
  | f + 1, l, y, h => by
    obtain ⟨x, hx, r⟩ := grow_sound (f := f) h
    rcases mem_growStep.mp hx with q | ⟨h1, _, z, hz, hr⟩
    · exact ⟨x, q, r⟩
    · exact ⟨z, hz, RT.trans (.one ⟨h1, hr⟩) r⟩
def Closed (al : List Nat) (R : Nat → Nat → Bool) (l : List Nat) : Prop := ∀ a ∈ l, ∀ b ∈ al, R a b = true → b ∈ l
theorem growStep_closed {al : List Nat} {R : Nat → Nat → Bool} {l : List Nat} (h : (growStep al R l).length ≤ l.length) : Closed al R l := by
  intro a ha b hb hr
  refine Classical.byContradiction fun hn => ?_
  have hm : b ∈ al.filter fun y => !l.contains y && l.any fun x => R x y := by
    rw [List.mem_filter, Bool.and_eq_true, List.any_eq_true, Bool.not_eq_true', List.contains_eq_mem, decide_eq_false_iff_not]
    exact ⟨hb, hn, a, ha, hr⟩
  have hp := List.length_pos_of_mem hm
  unfold growStep at h
  rw [List.length_append] at h
  omega
theorem growStep_fix {al : List Nat} {R : Nat → Nat → Bool} {l : List Nat} (h : Closed al R l) : growStep al R l = l := by
  unfold growStep
  rw [List.filter_eq_nil_iff.mpr, List.append_nil]
  intro b hb
  rw [Bool.and_eq_true, List.any_eq_true, Bool.not_eq_true', List.contains_eq_mem, decide_eq_false_iff_not]
  rintro ⟨hn, a, ha, hr⟩
  exact hn (h a ha b hb hr)
theorem grow_fix {al : List Nat} {R : Nat → Nat → Bool} {l : List Nat} (h : Closed al R l) : ∀ f, grow al R f l = l
  | 0 => rfl
  | f + 1 => by
    show grow al R f (growStep al R l) = l
    rw [growStep_fix h]
    exact grow_fix h f
theorem grow_or {al : List Nat} {R : Nat → Nat → Bool} : ∀ (f : Nat) (l : List Nat), Closed al R (grow al R f l) ∨ l.length + f ≤ (grow al R f l).length
  | 0, l => .inr (Nat.le_refl _)
  | f + 1, l => by
    by_cases h : (growStep al R l).length ≤ l.length
    · have c := growStep_closed h
      left
      rw [grow_fix c]
      exact c
    · rcases grow_or f (growStep al R l) with q | q
      · exact .inl q
      · right
        show l.length + (f + 1) ≤ (grow al R f (growStep al R l)).length
        omega
theorem grow_closed {al : List Nat} {R : Nat → Nat → Bool} {l : List Nat} (ha : al.Nodup) (hl : l.Nodup) (hs : ∀ x ∈ l, x ∈ al) : Closed al R (grow al R al.length l) := by
  rcases grow_or (R := R) (al := al) al.length l with q | q
  · exact q
  · have h1 := nodup_sub_len (grow_nodup (R := R) ha (f := al.length) hl) (grow_sub (R := R) (f := al.length) hs)
    have h2 : l = [] := by
      cases l with
      | nil => rfl
      | cons a r =>
        rw [List.length_cons] at q
        omega
    subst h2
    have c : Closed al R [] := fun a ha => by cases ha
    rw [grow_fix c]
    exact c
theorem mem_grow {al : List Nat} {R : Nat → Nat → Bool} {l : List Nat} (ha : al.Nodup) (hl : l.Nodup) (hs : ∀ x ∈ l, x ∈ al) {y : Nat} :
    y ∈ grow al R al.length l ↔ ∃ x ∈ l, RT (fun a b => b ∈ al ∧ R a b = true) x y := by
  refine ⟨grow_sound, ?_⟩
  rintro ⟨x, hx, r⟩
  have c := grow_closed (R := R) ha hl hs
  exact RT.closed (P := fun z => z ∈ grow al R al.length l) (fun a b h q => c a h b q.1 q.2) (grow_keeps x hx) r
/-! ### what the document says, as relations over edges E and subjects S -/
def Tk (E : List Edge) : Nat → Nat → Prop := RT fun a b => (⟨a, b, 0⟩ : Edge) ∈ E
def Ho (E : List Edge) (u v : Nat) : Prop := Tk E u v ∨ Tk E v u ∨ ∃ a b, Tk E u a ∧ Tk E v b ∧ ((⟨a, b, 1⟩ : Edge) ∈ E ∨ (⟨b, a, 1⟩ : Edge) ∈ E)
def Nr (E : List Edge) (S : List Nat) : Nat → Nat → Prop := RT fun a b => b ∈ S ∧ Ho E a b
def Br (E : List Edge) (S : List Nat) (x u : Nat) : Prop := u ∈ S ∧ (u = x ∨ ∃ s, Tk E u s ∧ (⟨s, x, 1⟩ : Edge) ∈ E)
def Cb (E : List Edge) (S : List Nat) (r x y : Nat) : Prop := (⟨x, y, r⟩ : Edge) ∈ E ∨ ∃ u v s, Br E S x u ∧ Nr E S u v ∧ Tk E v s ∧ (⟨s, y, r⟩ : Edge) ∈ E
def St (E : List Edge) (S : List Nat) (r x y : Nat) : Prop := ¬ (⟨x, y, r⟩ : Edge) ∈ E ∧ ∃ u s, (⟨s, y, r⟩ : Edge) ∈ E ∧ Br E S x u ∧ Cb E S 0 u s
/-! ### the specification says the same -/
structure Wf (g : Graph) : Prop where
  few : g.subject.length ≤ 10
  edgesFew : g.edges.length ≤ 30
  nodup : g.edges.Nodup
  src : ∀ e ∈ g.edges, 1 ≤ e.src ∧ e.src ≤ g.subject.length
  dst : ∀ e ∈ g.edges, 1 ≤ e.dst ∧ e.dst ≤ g.subject.length
  ne : ∀ e ∈ g.edges, e.src ≠ e.dst
  low : ∀ e ∈ g.edges, e.right ≤ 3
/-- ends that are there (a graph without some edges too) -/
structure Wd (g : Graph) : Prop where
  src : ∀ e ∈ g.edges, e.src ∈ all g
  dst : ∀ e ∈ g.edges, e.dst ∈ all g
theorem mem_all {g : Graph} {x : Nat} : x ∈ all g ↔ 1 ≤ x ∧ x ≤ g.subject.length := by
  unfold all
  rw [List.mem_map]
  constructor
  · rintro ⟨i, hi, rfl⟩
    rw [List.mem_range] at hi
    omega
  · rintro ⟨h1, h2⟩
    exact ⟨x - 1, List.mem_range.mpr (by omega), by omega⟩
theorem all_len (g : Graph) : (all g).length = g.subject.length := by
  unfold all
  rw [List.length_map, List.length_range]
theorem all_nodup (g : Graph) : (all g).Nodup := by
  unfold all
  refine List.Pairwise.map _ (fun a b h => ?_) List.nodup_range
  omega
theorem isThere_iff {g : Graph} {x : Nat} : isThere g x = true ↔ x ∈ all g := by
  unfold isThere
  rw [mem_all, Bool.and_eq_true, decide_eq_true_iff, decide_eq_true_iff]
theorem edge_iff {g : Graph} {x y r : Nat} : edge g x y r = true ↔ (⟨x, y, r⟩ : Edge) ∈ g.edges := by
  unfold edge
  rw [List.contains_eq_mem, decide_eq_true_iff]
def subs (g : Graph) : List Nat := (all g).filter fun u => isSubject g u
theorem mem_subs {g : Graph} {x : Nat} : x ∈ subs g ↔ isSubject g x = true := by
  unfold subs
  rw [List.mem_filter]
  refine ⟨fun h => h.2, fun h => ⟨?_, h⟩⟩
  unfold isSubject at h
  rw [Bool.and_eq_true] at h
  exact isThere_iff.mp h.1
theorem subs_nodup (g : Graph) : (subs g).Nodup := (all_nodup g).filter _
theorem subs_all {g : Graph} {x : Nat} (h : x ∈ subs g) : x ∈ all g := (List.mem_filter.mp h).1
theorem Wf.wd {g : Graph} (w : Wf g) : Wd g := ⟨fun e h => mem_all.mpr (w.src e h), fun e h => mem_all.mpr (w.dst e h)⟩
theorem Wd.without {g : Graph} (w : Wd g) (c : List Edge) : Wd (without g c) :=
  ⟨fun e h => w.src e (List.mem_filter.mp h).1, fun e h => w.dst e (List.mem_filter.mp h).1⟩
theorem reach_eq (g : Graph) : ∀ (f : Nat) (l : List Nat), reach g f l = grow (all g) (fun x y => edge g x y 0) f l
  | 0, _ => rfl
  | f + 1, l => reach_eq g f _
theorem mem_taking {g : Graph} (w : Wd g) {x y : Nat} (hx : x ∈ all g) : y ∈ taking g x ↔ Tk g.edges x y := by
  unfold taking
  rw [reach_eq, ← all_len g, mem_grow (all_nodup g) (by simp) (fun z hz => by rw [List.mem_singleton.mp hz]; exact hx)]
  constructor
  · rintro ⟨z, hz, r⟩
    rw [List.mem_singleton.mp hz] at r
    exact RT.mono (fun a b h => edge_iff.mp h.2) r
  · intro r
    exact ⟨x, List.mem_singleton.mpr rfl, RT.mono (fun a b h => ⟨w.dst _ h, edge_iff.mpr h⟩) r⟩
theorem Tk.there {g : Graph} (w : Wd g) {x y : Nat} (hx : x ∈ all g) (h : Tk g.edges x y) : y ∈ all g :=
  RT.closed (P := fun z => z ∈ all g) (fun a b _ q => w.dst _ q) hx h
theorem bridge_iff {g : Graph} (w : Wd g) {u v : Nat} (hu : u ∈ all g) (hv : v ∈ all g) : bridge g u v = true ↔ Ho g.edges u v := by
  unfold bridge Ho
  rw [Bool.or_eq_true, Bool.or_eq_true, List.contains_eq_mem, decide_eq_true_iff, List.contains_eq_mem, decide_eq_true_iff, List.any_eq_true, mem_taking w hu, mem_taking w hv]
  refine or_congr Iff.rfl (or_congr Iff.rfl ⟨?_, ?_⟩)
  · rintro ⟨a, ha, h⟩
    obtain ⟨b, hb, h⟩ := List.any_eq_true.mp h
    rw [Bool.or_eq_true, edge_iff, edge_iff] at h
    exact ⟨a, b, (mem_taking w hu).mp ha, (mem_taking w hv).mp hb, h⟩
  · rintro ⟨a, b, ha, hb, h⟩
    refine ⟨a, (mem_taking w hu).mpr ha, List.any_eq_true.mpr ⟨b, (mem_taking w hv).mpr hb, ?_⟩⟩
    rw [Bool.or_eq_true, edge_iff, edge_iff]
    exact h
theorem any_and {l : List Nat} {c : Bool} {p : Nat → Bool} : (c && l.any p) = l.any fun x => c && p x := by
  cases c <;> simp
theorem spread_eq (g : Graph) : ∀ (f : Nat) (l : List Nat), spread g f l = grow (all g) (fun u v => isSubject g v && bridge g u v) f l
  | 0, _ => rfl
  | f + 1, l => by
    show spread g f _ = grow _ _ f (growStep _ _ l)
    rw [spread_eq g f]
    congr 1
    unfold growStep
    congr 1
    refine List.filter_congr fun v _ => ?_
    rw [any_and]
theorem mem_spread {g : Graph} (w : Wd g) {l : List Nat} (hl : l.Nodup) (hs : ∀ x ∈ l, x ∈ all g) {y : Nat} : y ∈ spread g g.subject.length l ↔ ∃ x ∈ l, Nr g.edges (subs g) x y := by
  rw [spread_eq, ← all_len g, mem_grow (all_nodup g) hl hs]
  constructor
  · rintro ⟨x, hx, r⟩
    refine ⟨x, hx, (RT.mono_on (P := fun z => z ∈ all g) (fun a b ha h => ?_) (hs x hx) r).1⟩
    obtain ⟨hb, h⟩ := h
    rw [Bool.and_eq_true] at h
    exact ⟨⟨mem_subs.mpr h.1, (bridge_iff w ha hb).mp h.2⟩, hb⟩
  · rintro ⟨x, hx, r⟩
    refine ⟨x, hx, (RT.mono_on (P := fun z => z ∈ all g) (fun a b ha h => ?_) (hs x hx) r).1⟩
    have hb := subs_all h.1
    refine ⟨⟨hb, ?_⟩, hb⟩
    rw [Bool.and_eq_true]
    exact ⟨mem_subs.mp h.1, (bridge_iff w ha hb).mpr h.2⟩
theorem mem_bringers {g : Graph} (w : Wd g) {x u : Nat} : u ∈ bringers g x ↔ Br g.edges (subs g) x u := by
  unfold bringers Br
  rw [List.mem_filter, Bool.and_eq_true, mem_subs, Bool.or_eq_true, beq_iff_eq, List.any_eq_true]
  constructor
  · rintro ⟨h1, h2, h3⟩
    refine ⟨h2, h3.imp id ?_⟩
    rintro ⟨a, ha, h⟩
    exact ⟨a, (mem_taking w h1).mp ha, edge_iff.mp h⟩
  · rintro ⟨h2, h3⟩
    have h1 := subs_all (mem_subs.mpr h2)
    refine ⟨h1, h2, h3.imp id ?_⟩
    rintro ⟨a, ha, h⟩
    exact ⟨a, (mem_taking w h1).mpr ha, edge_iff.mpr h⟩
theorem bringers_sub {g : Graph} {x : Nat} : ∀ u ∈ bringers g x, u ∈ all g := fun u h => (List.mem_filter.mp h).1
theorem bringers_nodup (g : Graph) (x : Nat) : (bringers g x).Nodup := (all_nodup g).filter _
theorem Nr.there {g : Graph} {x y : Nat} (hx : x ∈ all g) (h : Nr g.edges (subs g) x y) : y ∈ all g :=
  RT.closed (P := fun z => z ∈ all g) (fun a b _ q => subs_all q.1) hx h
theorem Nr.subj {E : List Edge} {S : List Nat} {x y : Nat} (hx : x ∈ S) (h : Nr E S x y) : y ∈ S :=
  RT.closed (P := fun z => z ∈ S) (fun a b _ q => q.1) hx h
theorem can_iff {g : Graph} (w : Wd g) {r x y : Nat} : Wm02.can g r x y = true ↔ Cb g.edges (subs g) r x y := by
  unfold Wm02.can Cb
  rw [Bool.or_eq_true, edge_iff, List.any_eq_true]
  refine or_congr Iff.rfl ⟨?_, ?_⟩
  · rintro ⟨v, hv, h⟩
    obtain ⟨s, hs, h⟩ := List.any_eq_true.mp h
    rw [Bool.and_eq_true, edge_iff, List.contains_eq_mem, decide_eq_true_iff] at h
    obtain ⟨u, hu, n⟩ := (mem_spread w (bringers_nodup g x) bringers_sub).mp hv
    have hg := List.mem_filter.mp h.2
    rw [Bool.and_eq_true, List.contains_eq_mem, decide_eq_true_iff] at hg
    exact ⟨u, v, s, (mem_bringers w).mp hu, n, (mem_taking w hg.1).mp hg.2.2, h.1⟩
  · rintro ⟨u, v, s, hu, n, t, h⟩
    have hub := (mem_bringers w).mpr hu
    refine ⟨v, (mem_spread w (bringers_nodup g x) bringers_sub).mpr ⟨u, hub, n⟩, List.any_eq_true.mpr ⟨s, w.src _ h, ?_⟩⟩
    rw [Bool.and_eq_true, edge_iff, List.contains_eq_mem, decide_eq_true_iff]
    refine ⟨h, List.mem_filter.mpr ⟨Nr.there (bringers_sub u hub) n, ?_⟩⟩
    rw [Bool.and_eq_true, List.contains_eq_mem, decide_eq_true_iff]
    exact ⟨mem_subs.mp (Nr.subj hu.1 n), (mem_taking w (Nr.there (bringers_sub u hub) n)).mpr t⟩
theorem steal_iff {g : Graph} (w : Wd g) {r x y : Nat} : Wm02.steal g r x y = true ↔ St g.edges (subs g) r x y := by
  unfold Wm02.steal St
  rw [Bool.and_eq_true, Bool.not_eq_true', ← Bool.not_eq_true, edge_iff, List.any_eq_true]
  refine and_congr Iff.rfl ⟨?_, ?_⟩
  · rintro ⟨s, hs, h⟩
    rw [Bool.and_eq_true, edge_iff, List.any_eq_true] at h
    obtain ⟨h1, u, hu, hc⟩ := h
    exact ⟨u, s, h1, (mem_bringers w).mp hu, (can_iff w).mp hc⟩
  · rintro ⟨u, s, h1, hu, hc⟩
    refine ⟨s, w.src _ h1, ?_⟩
    rw [Bool.and_eq_true, edge_iff, List.any_eq_true]
    exact ⟨h1, u, (mem_bringers w).mpr hu, (can_iff w).mpr hc⟩
theorem near_iff {g : Graph} (w : Wd g) {x v : Nat} (hx : x ∈ all g) : (spread g g.subject.length [x]).contains v = true ↔ Nr g.edges (subs g) x v := by
  rw [List.contains_eq_mem, decide_eq_true_iff, mem_spread w (by simp) (fun z hz => by rw [List.mem_singleton.mp hz]; exact hx)]
  constructor
  · rintro ⟨z, hz, r⟩
    rw [List.mem_singleton.mp hz] at r
    exact r
  · intro r
    exact ⟨x, List.mem_singleton.mpr rfl, r⟩
end Tg

set_option Elab.async false
set_option linter.all false
namespace Tg
open Wm02
/-! ### places and links -/
abbrev Pl := Nat × Nat
abbrev Lk := Pl × Pl × Option Edge
def edgeLinks (e : Edge) : List Lk :=
  (if e.right = 0 then [((e.src, 0), (e.dst, 0), some e), ((e.dst, 1), (e.src, 1), some e)] else []) ++
  (if e.right = 1 then [((e.src, 0), (e.dst, 1), some e), ((e.dst, 0), (e.src, 1), some e)] else [])
def subLinks (s : Nat) : List Lk := [((s, 0), (s, 1), none), ((s, 1), (s, 0), none)]
def nearL (S : List Nat) (E : List Edge) : List Lk := E.flatMap edgeLinks ++ S.flatMap subLinks
def holdersL (y r : Nat) (E : List Edge) : List Nat := (E.filter fun e => decide (e.dst = y) && decide (e.right = r)).map (·.src)
theorem mem_holdersL {y r : Nat} {E : List Edge} {s : Nat} : s ∈ holdersL y r E ↔ (⟨s, y, r⟩ : Edge) ∈ E := by
  unfold holdersL
  rw [List.mem_map]
  constructor
  · rintro ⟨e, he, rfl⟩
    rw [List.mem_filter, Bool.and_eq_true, decide_eq_true_iff, decide_eq_true_iff] at he
    obtain ⟨h1, h2, h3⟩ := he
    rw [← h2, ← h3]
    exact h1
  · intro h
    refine ⟨_, List.mem_filter.mpr ⟨h, ?_⟩, rfl⟩
    simp
theorem holdersL_len (y r : Nat) (E : List Edge) : (holdersL y r E).length ≤ E.length := by
  unfold holdersL
  rw [List.length_map]
  exact List.length_filter_le _ _
theorem holdersL_nodup {y r : Nat} {E : List Edge} (h : E.Nodup) : (holdersL y r E).Nodup := by
  unfold holdersL
  refine List.pairwise_map.mpr ((h.filter _).imp_of_mem fun {a b} ha hb hn e => hn ?_)
  rw [List.mem_filter, Bool.and_eq_true, decide_eq_true_iff, decide_eq_true_iff] at ha hb
  obtain ⟨a1, a2, a3⟩ := a
  obtain ⟨b1, b2, b3⟩ := b
  simp only at e ha hb
  rw [e, ha.2.1, ha.2.2, hb.2.1, hb.2.2]
def startL (x : Nat) (S : List Nat) : List Lk := if x ∈ S then [((x, 2), (x, 0), none)] else []
def giveLk (x g : Nat) : Lk := ((x, 2), (g, 1), some ⟨g, x, 1⟩)
def goalLks (r y o : Nat) : List Lk := [((o, 0), (y, 3), some ⟨o, y, r⟩), ((o, 2), (y, 3), some ⟨o, y, r⟩)]
def allL (r x y : Nat) (S : List Nat) (E : List Edge) : List Lk := nearL S E ++ startL x S ++ (holdersL x 1 E).map (giveLk x) ++ (holdersL y r E).flatMap (goalLks r y)
/-- a link that may be used -/
def Lst (L : List Lk) (G : List Edge) (a b : Pl) : Prop := ∃ o, (a, b, o) ∈ L ∧ ∀ e, o = some e → e ∉ G
inductive NSt (E : List Edge) (S : List Nat) : Pl → Pl → Prop
  | up {a b : Nat} : (⟨a, b, 0⟩ : Edge) ∈ E → NSt E S (a, 0) (b, 0)
  | down {a b : Nat} : (⟨a, b, 0⟩ : Edge) ∈ E → NSt E S (b, 1) (a, 1)
  | over {a b : Nat} : (⟨a, b, 1⟩ : Edge) ∈ E → NSt E S (a, 0) (b, 1)
  | back {a b : Nat} : (⟨a, b, 1⟩ : Edge) ∈ E → NSt E S (b, 0) (a, 1)
  | s1 {s : Nat} : s ∈ S → NSt E S (s, 0) (s, 1)
  | s2 {s : Nat} : s ∈ S → NSt E S (s, 1) (s, 0)
inductive ASt (E : List Edge) (S : List Nat) (r x y : Nat) : Pl → Pl → Prop
  | near {a b : Pl} : NSt E S a b → ASt E S r x y a b
  | st : x ∈ S → ASt E S r x y (x, 2) (x, 0)
  | gv {g : Nat} : (⟨g, x, 1⟩ : Edge) ∈ E → ASt E S r x y (x, 2) (g, 1)
  | g1 {o : Nat} : (⟨o, y, r⟩ : Edge) ∈ E → ASt E S r x y (o, 0) (y, 3)
  | g2 {o : Nat} : (⟨o, y, r⟩ : Edge) ∈ E → ASt E S r x y (o, 2) (y, 3)
def out (E G : List Edge) : List Edge := E.filter fun e => !G.contains e
theorem mem_out {E G : List Edge} {e : Edge} : e ∈ out E G ↔ e ∈ E ∧ e ∉ G := by
  unfold out
  rw [List.mem_filter, Bool.not_eq_true', List.contains_eq_mem, decide_eq_false_iff_not]
theorem out_nil (E : List Edge) : out E [] = E := by
  unfold out
  exact List.filter_eq_self.mpr fun e _ => by simp
theorem mem_edgeLinks {e : Edge} {l : Lk} : l ∈ edgeLinks e ↔ (e.right = 0 ∧ (l = ((e.src, 0), (e.dst, 0), some e) ∨ l = ((e.dst, 1), (e.src, 1), some e))) ∨ (e.right = 1 ∧ (l = ((e.src, 0), (e.dst, 1), some e) ∨ l = ((e.dst, 0), (e.src, 1), some e))) := by
  unfold edgeLinks
  rw [List.mem_append]
  refine or_congr ?_ ?_
  · by_cases h : e.right = 0
    · simp [h]
    · simp [h]
  · by_cases h : e.right = 1
    · simp [h]
    · simp [h]
theorem lst_near {S : List Nat} {E G : List Edge} {a b : Pl} : Lst (nearL S E) G a b ↔ NSt (out E G) S a b := by
  unfold Lst nearL
  constructor
  · rintro ⟨o, h, hg⟩
    rcases List.mem_append.mp h with h | h
    · obtain ⟨e, he, h⟩ := List.mem_flatMap.mp h
      obtain ⟨s, d, r⟩ := e
      rcases mem_edgeLinks.mp h with ⟨h0, h | h⟩ | ⟨h0, h | h⟩ <;> (cases h0; cases h)
      · exact .up (mem_out.mpr ⟨he, hg _ rfl⟩)
      · exact .down (mem_out.mpr ⟨he, hg _ rfl⟩)
      · exact .over (mem_out.mpr ⟨he, hg _ rfl⟩)
      · exact .back (mem_out.mpr ⟨he, hg _ rfl⟩)
    · obtain ⟨s, hs, h⟩ := List.mem_flatMap.mp h
      unfold subLinks at h
      rcases List.mem_cons.mp h with h | h
      · cases h
        exact .s1 hs
      · cases List.mem_singleton.mp h
        exact .s2 hs
  · intro h
    cases h with
    | up h => exact ⟨_, List.mem_append_left _ (List.mem_flatMap.mpr ⟨_, (mem_out.mp h).1, mem_edgeLinks.mpr (.inl ⟨rfl, .inl rfl⟩)⟩), fun e q => by cases q; exact (mem_out.mp h).2⟩
    | down h => exact ⟨_, List.mem_append_left _ (List.mem_flatMap.mpr ⟨_, (mem_out.mp h).1, mem_edgeLinks.mpr (.inl ⟨rfl, .inr rfl⟩)⟩), fun e q => by cases q; exact (mem_out.mp h).2⟩
    | over h => exact ⟨_, List.mem_append_left _ (List.mem_flatMap.mpr ⟨_, (mem_out.mp h).1, mem_edgeLinks.mpr (.inr ⟨rfl, .inl rfl⟩)⟩), fun e q => by cases q; exact (mem_out.mp h).2⟩
    | back h => exact ⟨_, List.mem_append_left _ (List.mem_flatMap.mpr ⟨_, (mem_out.mp h).1, mem_edgeLinks.mpr (.inr ⟨rfl, .inr rfl⟩)⟩), fun e q => by cases q; exact (mem_out.mp h).2⟩
    | s1 h => exact ⟨none, List.mem_append_right _ (List.mem_flatMap.mpr ⟨_, h, List.mem_cons_self⟩), fun e q => by cases q⟩
    | s2 h => exact ⟨none, List.mem_append_right _ (List.mem_flatMap.mpr ⟨_, h, List.mem_cons_of_mem _ List.mem_cons_self⟩), fun e q => by cases q⟩
theorem lst_app {L M : List Lk} {G : List Edge} {a b : Pl} : Lst (L ++ M) G a b ↔ Lst L G a b ∨ Lst M G a b := by
  unfold Lst
  constructor
  · rintro ⟨o, h, hg⟩
    rcases List.mem_append.mp h with h | h
    · exact .inl ⟨o, h, hg⟩
    · exact .inr ⟨o, h, hg⟩
  · rintro (⟨o, h, hg⟩ | ⟨o, h, hg⟩)
    · exact ⟨o, List.mem_append_left _ h, hg⟩
    · exact ⟨o, List.mem_append_right _ h, hg⟩
theorem lst_all {r x y : Nat} {S : List Nat} {E G : List Edge} {a b : Pl} : Lst (allL r x y S E) G a b ↔ ASt (out E G) S r x y a b := by
  unfold allL
  rw [lst_app, lst_app, lst_app, lst_near]
  constructor
  · rintro (((h | ⟨o, h, hg⟩) | ⟨o, h, hg⟩) | ⟨o, h, hg⟩)
    · exact .near h
    · unfold startL at h
      by_cases hx : x ∈ S
      · rw [if_pos hx] at h
        cases List.mem_singleton.mp h
        exact .st hx
      · rw [if_neg hx] at h
        cases h
    · obtain ⟨g, h1, h2⟩ := List.mem_map.mp h
      unfold giveLk at h2
      cases h2
      exact .gv (mem_out.mpr ⟨mem_holdersL.mp h1, hg _ rfl⟩)
    · obtain ⟨g, h1, h2⟩ := List.mem_flatMap.mp h
      unfold goalLks at h2
      rcases List.mem_cons.mp h2 with h | h
      · cases h
        exact .g1 (mem_out.mpr ⟨mem_holdersL.mp h1, hg _ rfl⟩)
      · cases List.mem_singleton.mp h
        exact .g2 (mem_out.mpr ⟨mem_holdersL.mp h1, hg _ rfl⟩)
  · intro h
    cases h with
    | near h => exact .inl (.inl (.inl h))
    | st h => exact .inl (.inl (.inr ⟨none, by unfold startL; rw [if_pos h]; exact List.mem_singleton.mpr rfl, fun e q => by cases q⟩))
    | gv h => exact .inl (.inr ⟨_, List.mem_map.mpr ⟨_, mem_holdersL.mpr (mem_out.mp h).1, rfl⟩, fun e q => by cases q; exact (mem_out.mp h).2⟩)
    | g1 h => exact .inr ⟨_, List.mem_flatMap.mpr ⟨_, mem_holdersL.mpr (mem_out.mp h).1, List.mem_cons_self⟩, fun e q => by cases q; exact (mem_out.mp h).2⟩
    | g2 h => exact .inr ⟨_, List.mem_flatMap.mpr ⟨_, mem_holdersL.mpr (mem_out.mp h).1, List.mem_cons_of_mem _ List.mem_cons_self⟩, fun e q => by cases q; exact (mem_out.mp h).2⟩
theorem lst_congr {L : List Lk} {G G' : List Edge} (h : ∀ e, e ∈ G ↔ e ∈ G') {a b : Pl} : Lst L G a b ↔ Lst L G' a b := by
  unfold Lst
  constructor
  · rintro ⟨o, h1, h2⟩
    exact ⟨o, h1, fun e q z => h2 e q ((h e).mpr z)⟩
  · rintro ⟨o, h1, h2⟩
    exact ⟨o, h1, fun e q z => h2 e q ((h e).mp z)⟩
/-! ### what the walk finds -/
def NearSet (E : List Edge) (S : List Nat) (N : Nat → Prop) : Pl → Prop
  | (v, 0) => ∃ w, N w ∧ Tk E w v
  | (v, 1) => ∀ w ∈ S, Tk E w v → N w
  | _ => True
theorem nst_inv {E : List Edge} {S : List Nat} {N : Nat → Prop} (hN : ∀ a b, N a → b ∈ S → Ho E a b → N b) {a b : Pl} (ha : NearSet E S N a) (h : NSt E S a b) : NearSet E S N b := by
  cases h with
  | up h =>
    obtain ⟨w, h1, h2⟩ := ha
    exact ⟨w, h1, .tail h2 h⟩
  | down h => exact fun w hw t => ha w hw (.tail t h)
  | over h =>
    obtain ⟨w, h1, h2⟩ := ha
    exact fun w' hw' t => hN w w' h1 hw' (.inr (.inr ⟨_, _, h2, t, .inl h⟩))
  | back h =>
    obtain ⟨w, h1, h2⟩ := ha
    exact fun w' hw' t => hN w w' h1 hw' (.inr (.inr ⟨_, _, h2, t, .inr h⟩))
  | s1 hs =>
    obtain ⟨w, h1, h2⟩ := ha
    exact fun w' hw' t => hN _ w' (hN w _ h1 hs (.inl h2)) hw' (.inr (.inl t))
  | s2 hs => exact ⟨_, ha _ hs (.refl _), .refl _⟩
theorem tk_up {E : List Edge} {S : List Nat} {a b : Nat} (h : Tk E a b) : RT (NSt E S) (a, 0) (b, 0) := by
  induction h with
  | refl => exact .refl _
  | tail _ h ih => exact .tail ih (.up h)
theorem tk_down {E : List Edge} {S : List Nat} {a b : Nat} (h : Tk E a b) : RT (NSt E S) (b, 1) (a, 1) := by
  induction h with
  | refl => exact .refl _
  | tail _ h ih => exact RT.trans (.one (.down h)) ih
theorem ho_go {E : List Edge} {S : List Nat} {a b : Nat} (ha : a ∈ S) (hb : b ∈ S) (h : Ho E a b) : RT (NSt E S) (a, 0) (b, 0) := by
  rcases h with h | h | ⟨c, d, h1, h2, h3⟩
  · exact tk_up h
  · exact .tail (RT.trans (.one (.s1 ha)) (tk_down h)) (.s2 hb)
  · refine .tail (RT.trans (RT.trans (tk_up h1) (.one ?_)) (tk_down h2)) (.s2 hb)
    rcases h3 with h | h
    · exact .over h
    · exact .back h
theorem nr_go {E : List Edge} {S : List Nat} {a b : Nat} (ha : a ∈ S) (h : Nr E S a b) : RT (NSt E S) (a, 0) (b, 0) := by
  have k : RT (NSt E S) (a, 0) (b, 0) ∧ b ∈ S := by
    induction h with
    | refl => exact ⟨.refl _, ha⟩
    | tail _ h ih => exact ⟨RT.trans ih.1 (ho_go ih.2 h.1 h.2), h.1⟩
  exact k.1
theorem near_way {E : List Edge} {S : List Nat} {x v : Nat} (hx : x ∈ S) (hv : v ∈ S) : RT (NSt E S) (x, 0) (v, 0) ↔ Nr E S x v := by
  refine ⟨fun h => ?_, nr_go hx⟩
  have k := RT.closed (P := NearSet E S (Nr E S x)) (fun a b ha h => nst_inv (fun a b h1 h2 h3 => .tail h1 ⟨h2, h3⟩) ha h) (show NearSet E S (Nr E S x) (x, 0) from ⟨x, .refl _, .refl _⟩) h
  obtain ⟨w, h1, h2⟩ := k
  exact .tail h1 ⟨hv, .inl h2⟩
def CanSet (E : List Edge) (S : List Nat) (r x y : Nat) : Pl → Prop
  | (v, 0) => ∃ w, (∃ u, Br E S x u ∧ Nr E S u w) ∧ Tk E w v
  | (v, 1) => ∀ w ∈ S, Tk E w v → ∃ u, Br E S x u ∧ Nr E S u w
  | (v, 2) => v = x
  | (v, 3) => v = y → Cb E S r x y
  | _ => True
theorem can_way {E : List Edge} {S : List Nat} {r x y : Nat} : RT (ASt E S r x y) (x, 2) (y, 3) ↔ Cb E S r x y := by
  constructor
  · intro h
    have k := RT.closed (P := CanSet E S r x y) (fun a b ha h => ?_) (show CanSet E S r x y (x, 2) from rfl) h
    · exact k rfl
    · cases h with
      | near h =>
        have hN : ∀ a b, (fun w => ∃ u, Br E S x u ∧ Nr E S u w) a → b ∈ S → Ho E a b → (fun w => ∃ u, Br E S x u ∧ Nr E S u w) b := by
          rintro a b ⟨u, h1, h2⟩ h3 h4
          exact ⟨u, h1, .tail h2 ⟨h3, h4⟩⟩
        have go : ∀ {p : Pl}, p.2 = 0 ∨ p.2 = 1 → (CanSet E S r x y p ↔ NearSet E S (fun w => ∃ u, Br E S x u ∧ Nr E S u w) p) := by
          rintro ⟨v, k⟩ (h | h) <;> (simp only at h; subst h; exact Iff.rfl)
        have ka : a.2 = 0 ∨ a.2 = 1 := by cases h <;> simp
        have kb : b.2 = 0 ∨ b.2 = 1 := by cases h <;> simp
        exact (go kb).mpr (nst_inv hN ((go ka).mp ha) h)
      | st h => exact ⟨x, ⟨x, ⟨h, .inl rfl⟩, .refl _⟩, .refl _⟩
      | gv h => exact fun w hw t => ⟨w, ⟨hw, .inr ⟨_, t, h⟩⟩, .refl _⟩
      | g1 h =>
        obtain ⟨w, ⟨u, h1, h2⟩, h3⟩ := ha
        exact fun _ => .inr ⟨u, w, _, h1, h2, h3, h⟩
      | g2 h =>
        cases (show _ = x from ha)
        exact fun _ => .inl h
  · rintro (h | ⟨u, v, s, h1, h2, h3, h4⟩)
    · exact .one (.g2 h)
    · have up : RT (ASt E S r x y) (x, 2) (u, 0) := by
        obtain ⟨hu, h | ⟨s, t, h⟩⟩ := h1
        · subst h
          exact .one (.st hu)
        · exact .tail (RT.trans (.one (.gv h)) (RT.mono (fun _ _ q => .near q) (tk_down t))) (.near (.s2 hu))
      exact .tail (RT.trans up (RT.mono (fun _ _ q => .near q) (RT.trans (nr_go h1.1 h2) (tk_up h3)))) (.g1 h4)
/-! ### ways -/
inductive Way (L : List Lk) (G : List Edge) (s : Pl) : Pl → List Edge → Prop
  | nil : Way L G s s []
  | free {a b : Pl} {W : List Edge} : Way L G s a W → (a, b, none) ∈ L → Way L G s b W
  | by_ {a b : Pl} {e : Edge} {W : List Edge} : Way L G s a W → (a, b, some e) ∈ L → e ∉ G → Way L G s b (W ++ [e])
theorem Way.keep {L : List Lk} {G G' : List Edge} {s p : Pl} {W : List Edge} (h : Way L G s p W) (k : ∀ e ∈ W, e ∉ G') : RT (Lst L G') s p := by
  induction h with
  | nil => exact .refl _
  | free _ h ih => exact .tail (ih k) ⟨none, h, fun e q => by cases q⟩
  | by_ _ h _ ih => exact .tail (ih fun e he => k e (List.mem_append_left _ he)) ⟨_, h, fun e q => by cases q; exact k _ (List.mem_append_right _ (List.mem_singleton.mpr rfl))⟩
theorem Way.out {L : List Lk} {G : List Edge} {s p : Pl} {W : List Edge} (h : Way L G s p W) : ∀ e ∈ W, e ∉ G := by
  induction h with
  | nil => exact fun e he => by cases he
  | free _ _ ih => exact ih
  | by_ _ _ hg ih =>
    intro e he
    rcases List.mem_append.mp he with h | h
    · exact ih e h
    · rw [List.mem_singleton.mp h]
      exact hg
theorem Way.rt {L : List Lk} {G : List Edge} {s p : Pl} {W : List Edge} (h : Way L G s p W) : RT (Lst L G) s p := h.keep h.out
theorem Way.mem {L : List Lk} {G : List Edge} {s p : Pl} {W : List Edge} (h : Way L G s p W) : ∀ e ∈ W, ∃ a b, (a, b, some e) ∈ L := by
  induction h with
  | nil => exact fun e he => by cases he
  | free _ _ ih => exact ih
  | by_ _ hl _ ih =>
    intro e he
    rcases List.mem_append.mp he with h | h
    · exact ih e h
    · rw [List.mem_singleton.mp h]
      exact ⟨_, _, hl⟩
theorem allL_mem {r x y : Nat} {S : List Nat} {E : List Edge} {a b : Pl} {e : Edge} (h : (a, b, some e) ∈ allL r x y S E) : e ∈ E := by
  unfold allL nearL at h
  rcases List.mem_append.mp h with h | h
  · rcases List.mem_append.mp h with h | h
    · rcases List.mem_append.mp h with h | h
      · rcases List.mem_append.mp h with h | h
        · obtain ⟨z, hz, h⟩ := List.mem_flatMap.mp h
          rcases mem_edgeLinks.mp h with ⟨_, h | h⟩ | ⟨_, h | h⟩ <;> (cases h; exact hz)
        · obtain ⟨s, hs, h⟩ := List.mem_flatMap.mp h
          unfold subLinks at h
          rcases List.mem_cons.mp h with h | h
          · cases h
          · cases List.mem_singleton.mp h
      · unfold startL at h
        split at h
        · cases List.mem_singleton.mp h
        · cases h
    · obtain ⟨g, h1, h2⟩ := List.mem_map.mp h
      unfold giveLk at h2
      cases h2
      exact mem_holdersL.mp h1
  · obtain ⟨g, h1, h2⟩ := List.mem_flatMap.mp h
    unfold goalLks at h2
    rcases List.mem_cons.mp h2 with h | h
    · cases h
      exact mem_holdersL.mp h1
    · cases List.mem_singleton.mp h
      exact mem_holdersL.mp h1
theorem flatMap_len {A B : Type} {f : A → List B} {k : Nat} (h : ∀ a, (f a).length ≤ k) : ∀ l : List A, (l.flatMap f).length ≤ k * l.length
  | [] => by simp
  | a :: l => by
    have h1 := flatMap_len h l
    have h2 := h a
    rw [List.flatMap_cons, List.length_append, List.length_cons, Nat.mul_succ]
    omega
theorem edgeLinks_len (e : Edge) : (edgeLinks e).length ≤ 2 := by
  unfold edgeLinks
  by_cases h : e.right = 0
  · simp [h]
  · by_cases k : e.right = 1
    · simp [k]
    · simp [h, k]
theorem nearL_len (S : List Nat) (E : List Edge) : (nearL S E).length ≤ 2 * E.length + 2 * S.length := by
  unfold nearL
  have h1 := flatMap_len edgeLinks_len E
  have h2 := flatMap_len (f := subLinks) (k := 2) (fun _ => Nat.le_refl _) S
  rw [List.length_append]
  omega
theorem allL_len (r x y : Nat) (S : List Nat) (E : List Edge) : (allL r x y S E).length ≤ 5 * E.length + 2 * S.length + 1 := by
  unfold allL
  have h1 := nearL_len S E
  have h2 := flatMap_len (f := goalLks r y) (k := 2) (fun _ => Nat.le_refl _) (holdersL y r E)
  have h3 := holdersL_len y r E
  have h4 := holdersL_len x 1 E
  have h5 : (startL x S).length ≤ 1 := by
    unfold startL
    split <;> simp
  rw [List.length_append, List.length_append, List.length_append, List.length_map]
  omega
end Tg

set_option Elab.async false
set_option linter.all false
namespace Tg
open Wm02
/-! ### rows of places, by the first difference -/
def lexN : List Nat → List Nat → Bool
  | [], [] => false
  | [], _ :: _ => true
  | _ :: _, [] => false
  | x :: xs, y :: ys => if x = y then lexN xs ys else decide (x < y)
theorem lexN_eq {x : Nat} {a b : List Nat} : lexN (x :: a) (x :: b) = lexN a b := by
  show (if x = x then lexN a b else decide (x < x)) = lexN a b
  rw [if_pos rfl]
theorem lexN_ne {x y : Nat} {a b : List Nat} (h : x ≠ y) : lexN (x :: a) (y :: b) = decide (x < y) := by
  show (if x = y then lexN a b else decide (x < y)) = _
  rw [if_neg h]
theorem lexN_asymm : ∀ {a b : List Nat}, lexN a b = true → lexN b a = true → False
  | [], [], h, _ => by cases h
  | [], _ :: _, _, h => by cases h
  | _ :: _, [], h, _ => by cases h
  | x :: a, y :: b, h, k => by
    by_cases e : x = y
    · subst e
      rw [lexN_eq] at h k
      exact lexN_asymm h k
    · rw [lexN_ne e] at h
      rw [lexN_ne (Ne.symm e)] at k
      have h := of_decide_eq_true h
      have k := of_decide_eq_true k
      omega
theorem lexN_cotrans : ∀ {a b c : List Nat}, lexN a b = true → lexN a c = true ∨ lexN c b = true
  | [], [], _, h => by cases h
  | [], _ :: _, [], _ => .inr rfl
  | [], _ :: _, _ :: _, _ => .inl rfl
  | _ :: _, [], _, h => by cases h
  | _ :: _, _ :: _, [], _ => .inr rfl
  | x :: a, y :: b, z :: c, h => by
    by_cases e : x = y
    · subst e
      rw [lexN_eq] at h
      by_cases f : x = z
      · subst f
        rw [lexN_eq, lexN_eq]
        exact lexN_cotrans h
      · rw [lexN_ne f, lexN_ne (Ne.symm f), decide_eq_true_iff, decide_eq_true_iff]
        omega
    · rw [lexN_ne e] at h
      have h := of_decide_eq_true h
      by_cases f : x = z
      · subst f
        right
        rw [lexN_ne e]
        exact decide_eq_true h
      · by_cases g : z = y
        · subst g
          left
          rw [lexN_ne f]
          exact decide_eq_true h
        · rw [lexN_ne f, lexN_ne g, decide_eq_true_iff, decide_eq_true_iff]
          omega
/-! ### one more in its place -/
def ins (i : Nat) : List Nat → List Nat
  | [] => [i]
  | x :: a => if i < x then i :: x :: a else x :: ins i a
theorem ins_lex {i : Nat} : ∀ {a b : List Nat}, a.length = b.length → i ∉ a → i ∉ b → lexN (ins i a) (ins i b) = true → lexN a b = true
  | [], [], _, _, _, h => by
    have h : lexN [i] [i] = true := h
    rw [lexN_eq] at h
    exact h
  | [], _ :: _, hl, _, _, _ => by simp at hl
  | _ :: _, [], hl, _, _, _ => by simp at hl
  | x :: a, y :: b, hl, ha, hb, h => by
    have hlx : a.length = b.length := by simpa using hl
    have nx : i ≠ x := fun e => ha (e ▸ List.mem_cons_self)
    have ny : i ≠ y := fun e => hb (e ▸ List.mem_cons_self)
    have ha' : i ∉ a := fun e => ha (List.mem_cons_of_mem _ e)
    have hb' : i ∉ b := fun e => hb (List.mem_cons_of_mem _ e)
    have e1 : ins i (x :: a) = if i < x then i :: x :: a else x :: ins i a := rfl
    have e2 : ins i (y :: b) = if i < y then i :: y :: b else y :: ins i b := rfl
    rw [e1, e2] at h
    by_cases cx : i < x
    · rw [if_pos cx] at h
      by_cases cy : i < y
      · rw [if_pos cy, lexN_eq] at h
        exact h
      · rw [if_neg cy, lexN_ne ny] at h
        have h := of_decide_eq_true h
        exact absurd h cy
    · rw [if_neg cx] at h
      by_cases cy : i < y
      · rw [lexN_ne (show x ≠ y by omega)]
        exact decide_eq_true (by omega)
      · rw [if_neg cy] at h
        by_cases e : x = y
        · subst e
          rw [lexN_eq] at h ⊢
          exact ins_lex hlx ha' hb' h
        · rw [lexN_ne e] at h ⊢
          exact h
theorem mem_ins {i j : Nat} : ∀ {a : List Nat}, j ∈ ins i a ↔ j = i ∨ j ∈ a
  | [] => by simp [ins]
  | x :: a => by
    unfold ins
    by_cases h : i < x
    · rw [if_pos h, List.mem_cons]
    · rw [if_neg h, List.mem_cons, mem_ins, List.mem_cons]
      constructor
      · rintro (h | h | h)
        · exact .inr (.inl h)
        · exact .inl h
        · exact .inr (.inr h)
      · rintro (h | h | h)
        · exact .inr (.inl h)
        · exact .inl h
        · exact .inr (.inr h)
theorem ins_len {i : Nat} : ∀ {a : List Nat}, (ins i a).length = a.length + 1
  | [] => rfl
  | x :: a => by
    unfold ins
    by_cases h : i < x
    · rw [if_pos h]
      rfl
    · rw [if_neg h, List.length_cons, ins_len, List.length_cons]
theorem ins_perm {i : Nat} : ∀ {a : List Nat}, (ins i a).Perm (a ++ [i])
  | [] => List.Perm.refl _
  | x :: a => by
    unfold ins
    by_cases h : i < x
    · rw [if_pos h]
      exact (List.perm_append_comm (l₁ := [i]) (l₂ := x :: a))
    · rw [if_neg h]
      exact List.Perm.cons x ins_perm
theorem ins_inc {i : Nat} : ∀ {a : List Nat}, a.Pairwise (· < ·) → i ∉ a → (ins i a).Pairwise (· < ·)
  | [], _, _ => by simp [ins]
  | x :: a, h, n => by
    obtain ⟨h1, h2⟩ := List.pairwise_cons.mp h
    have nx : i ≠ x := fun e => n (e ▸ List.mem_cons_self)
    have na : i ∉ a := fun e => n (List.mem_cons_of_mem _ e)
    unfold ins
    by_cases c : i < x
    · rw [if_pos c]
      refine List.pairwise_cons.mpr ⟨fun z hz => ?_, h⟩
      rcases List.mem_cons.mp hz with e | e
      · omega
      · have := h1 z e
        omega
    · rw [if_neg c]
      refine List.pairwise_cons.mpr ⟨fun z hz => ?_, ins_inc h2 na⟩
      rcases mem_ins.mp hz with e | e
      · omega
      · exact h1 z e
theorem sorted_eq : ∀ {a b : List Nat}, a.Pairwise (· ≤ ·) → b.Pairwise (· ≤ ·) → a.Perm b → a = b
  | [], b, _, _, p => (List.nil_perm.mp p).symm
  | x :: a, [], _, _, p => by cases List.perm_nil.mp p
  | x :: a, y :: b, ha, hb, p => by
    obtain ⟨h1, h2⟩ := List.pairwise_cons.mp ha
    obtain ⟨k1, k2⟩ := List.pairwise_cons.mp hb
    have e : x = y := by
      have hx : x ∈ y :: b := p.mem_iff.mp List.mem_cons_self
      have hy : y ∈ x :: a := p.mem_iff.mpr List.mem_cons_self
      rcases List.mem_cons.mp hx with e | e
      · exact e
      · rcases List.mem_cons.mp hy with f | f
        · exact f.symm
        · have := k1 x e
          have := h1 y f
          omega
    subst e
    rw [sorted_eq h2 k2 (List.Perm.cons_inv p)]
theorem ins_erase {i : Nat} : ∀ {a : List Nat}, a.Pairwise (· < ·) → i ∈ a → ins i (a.erase i) = a
  | [], _, h => by cases h
  | x :: a, hp, h => by
    obtain ⟨h1, h2⟩ := List.pairwise_cons.mp hp
    by_cases e : x = i
    · subst e
      rw [List.erase_cons_head]
      cases a with
      | nil => rfl
      | cons y a =>
        have := h1 y List.mem_cons_self
        show (if x < y then x :: y :: a else y :: ins x a) = _
        rw [if_pos this]
    · have hm : i ∈ a := by
        rcases List.mem_cons.mp h with z | z
        · exact absurd z.symm e
        · exact z
      rw [List.erase_cons_tail (by simpa using e)]
      have := h1 i hm
      show (if i < x then i :: x :: a.erase i else x :: ins i (a.erase i)) = _
      rw [if_neg (by omega), ins_erase h2 hm]
/-! ### the specification's choices -/
theorem choices_zero {A : Type} (l : List A) : choices 0 l = [[]] := by
  unfold choices
  rfl
theorem mem_choices {A : Type} : ∀ {k : Nat} {l c : List A}, c ∈ choices k l ↔ c.Sublist l ∧ c.length = k
  | 0, l, c => by
    rw [choices_zero, List.mem_singleton]
    constructor
    · rintro rfl
      exact ⟨List.nil_sublist _, rfl⟩
    · rintro ⟨_, h⟩
      exact List.length_eq_zero_iff.mp h
  | k + 1, [], c => by
    show c ∈ [] ↔ _
    constructor
    · intro h
      cases h
    · rintro ⟨h, h2⟩
      rw [List.sublist_nil.mp h] at h2
      cases h2
  | k + 1, x :: l, c => by
    show c ∈ (choices k l).map (fun c => x :: c) ++ choices (k + 1) l ↔ _
    rw [List.mem_append, List.mem_map, mem_choices (k := k + 1) (l := l)]
    constructor
    · rintro (⟨d, hd, rfl⟩ | ⟨h1, h2⟩)
      · obtain ⟨h1, h2⟩ := mem_choices.mp hd
        exact ⟨h1.cons_cons x, by rw [List.length_cons, h2]⟩
      · exact ⟨h1.cons x, h2⟩
    · rintro ⟨h1, h2⟩
      cases h1 with
      | cons _ h => exact .inr ⟨h, h2⟩
      | cons_cons _ h => exact .inl ⟨_, mem_choices.mpr ⟨h, by simpa using h2⟩, rfl⟩
theorem sublist_of_inc : ∀ {l c : List Nat}, l.Pairwise (· < ·) → c.Pairwise (· < ·) → (∀ x ∈ c, x ∈ l) → c.Sublist l
  | _, [], _, _, _ => List.nil_sublist _
  | [], x :: c, _, _, h => by cases h x List.mem_cons_self
  | a :: l, x :: c, hl, hc, h => by
    obtain ⟨l1, l2⟩ := List.pairwise_cons.mp hl
    obtain ⟨c1, c2⟩ := List.pairwise_cons.mp hc
    by_cases e : x = a
    · subst e
      refine (sublist_of_inc l2 c2 fun y hy => ?_).cons_cons x
      rcases List.mem_cons.mp (h y (List.mem_cons_of_mem _ hy)) with z | z
      · have := c1 y hy
        omega
      · exact z
    · have hx : x ∈ l := by
        rcases List.mem_cons.mp (h x List.mem_cons_self) with z | z
        · exact absurd z e
        · exact z
      refine (sublist_of_inc l2 hc fun y hy => ?_).cons a
      rcases List.mem_cons.mp (h y hy) with z | z
      · rcases List.mem_cons.mp hy with w | w
        · exact w ▸ hx
        · have := c1 y w
          have := l1 x hx
          omega
      · exact z
theorem range_inc (n : Nat) : (List.range n).Pairwise (· < ·) := List.pairwise_lt_range
/-- rows of k places below n -/
theorem mem_rows {k n : Nat} {c : List Nat} : c ∈ choices k (List.range n) ↔ c.Pairwise (· < ·) ∧ (∀ i ∈ c, i < n) ∧ c.length = k := by
  rw [mem_choices]
  constructor
  · rintro ⟨h1, h2⟩
    exact ⟨List.Pairwise.sublist h1 (range_inc n), fun i hi => List.mem_range.mp (h1.subset hi), h2⟩
  · rintro ⟨h1, h2, h3⟩
    exact ⟨sublist_of_inc (range_inc n) h1 fun i hi => List.mem_range.mpr (h2 i hi), h3⟩
theorem choices_lex : ∀ {k : Nat} {l : List Nat}, l.Pairwise (· < ·) → (choices k l).Pairwise fun a b => lexN a b = true
  | 0, l, _ => by
    rw [choices_zero]
    simp
  | k + 1, [], _ => List.Pairwise.nil
  | k + 1, x :: l, h => by
    obtain ⟨h1, h2⟩ := List.pairwise_cons.mp h
    show List.Pairwise _ ((choices k l).map (fun c => x :: c) ++ choices (k + 1) l)
    refine List.pairwise_append.mpr ⟨?_, choices_lex h2, fun a ha b hb => ?_⟩
    · refine List.pairwise_map.mpr ((choices_lex h2).imp fun {a b} q => ?_)
      rw [lexN_eq]
      exact q
    · obtain ⟨a', _, rfl⟩ := List.mem_map.mp ha
      obtain ⟨s1, s2⟩ := mem_choices.mp hb
      cases b with
      | nil => cases s2
      | cons y b =>
        have := h1 y (s1.subset List.mem_cons_self)
        rw [lexN_ne (by omega)]
        exact decide_eq_true this
theorem find_least {A : Type} {lt : A → A → Prop} {p : A → Bool} : ∀ {l : List A} {c : A}, l.Pairwise lt → c ∈ l → p c = true → (∀ d ∈ l, p d = true → ¬ lt d c) → l.find? p = some c
  | [], c, _, h, _, _ => by cases h
  | a :: l, c, hp, hm, hc, hl => by
    obtain ⟨h1, h2⟩ := List.pairwise_cons.mp hp
    rw [List.find?_cons]
    by_cases e : p a = true
    · rw [e]
      rcases List.mem_cons.mp hm with z | z
      · rw [z]
      · exact absurd (h1 c z) (hl a List.mem_cons_self e)
    · have e' : p a = false := by simpa using e
      rw [e']
      rcases List.mem_cons.mp hm with z | z
      · rw [z] at hc
        exact absurd hc e
      · exact find_least h2 z hc fun d hd => hl d (List.mem_cons_of_mem _ hd)
theorem choices_map {A B : Type} (f : A → B) : ∀ (k : Nat) (l : List A), choices k (l.map f) = (choices k l).map (List.map f)
  | 0, _ => by
    rw [choices_zero, choices_zero]
    rfl
  | k + 1, [] => rfl
  | k + 1, x :: l => by
    show (choices k (l.map f)).map (fun c => f x :: c) ++ choices (k + 1) (l.map f) = _
    rw [choices_map f k l, choices_map f (k + 1) l]
    show _ = ((choices k l).map (fun c => x :: c) ++ choices (k + 1) l).map (List.map f)
    rw [List.map_append, List.map_map, List.map_map]
    rfl
def ed0 : Edge := ⟨0, 0, 0⟩
/-- the edges at places -/
def eds (E : List Edge) (q : List Nat) : List Edge := q.map fun i => E.getD i ed0
theorem range_getD (E : List Edge) : (List.range E.length).map (fun i => E.getD i ed0) = E := by
  refine List.ext_getElem (by simp) fun i h1 h2 => ?_
  rw [List.getElem_map, List.getElem_range, List.getD_eq_getElem?_getD, List.getElem?_eq_getElem h2]
  rfl
theorem find_rows (E : List Edge) (k : Nat) (p : List Edge → Bool) : (choices k E).find? p = ((choices k (List.range E.length)).find? fun q => p (eds E q)).map (eds E) := by
  have h : choices k E = (choices k (List.range E.length)).map (List.map fun i => E.getD i ed0) := by
    rw [← choices_map, range_getD]
  rw [h, List.find?_map]
  rfl
/-! ### the search -/
section
variable (L : List Lk) (s t : Pl)
def Cut (G : List Edge) : Prop := ¬ RT (Lst L G) s t
variable {L s t}
theorem cut_congr {G G' : List Edge} (h : ∀ e, e ∈ G ↔ e ∈ G') : Cut L s t G ↔ Cut L s t G' := by
  unfold Cut
  refine not_congr ⟨RT.mono fun a b => (lst_congr h).mp, RT.mono fun a b => (lst_congr h).mpr⟩
theorem Cut.mono {G G' : List Edge} (h : ∀ e ∈ G, e ∈ G') (c : Cut L s t G) : Cut L s t G' := fun r => c (RT.mono (fun a b q => by
  obtain ⟨o, h1, h2⟩ := q
  exact ⟨o, h1, fun e z w => h2 e z (h e w)⟩) r)
variable (L s t) in
/-- fewer than c are not enough beside G -/
def Needs (c : Nat) (G : List Edge) : Prop := ∀ R : List Edge, R.length < c → ¬ Cut L s t (G ++ R)
variable (L s t) in
def RowOk (E : List Edge) (c : Nat) (G : List Edge) : Option (List Nat) → Prop
  | none => ∀ q ∈ choices c (List.range E.length), ¬ Cut L s t (G ++ eds E q)
  | some row => row ∈ choices c (List.range E.length) ∧ Cut L s t (G ++ eds E row) ∧ ∀ q ∈ choices c (List.range E.length), Cut L s t (G ++ eds E q) → lexN q row = false
variable (L s t) in
/-- what has been found after some edges of the way -/
def PartOk (E : List Edge) (c : Nat) (G : List Edge) (W : List Edge) : Option (List Nat) → Prop
  | none => ∀ q ∈ choices c (List.range E.length), (∃ e ∈ W, e ∈ eds E q) → ¬ Cut L s t (G ++ eds E q)
  | some row => row ∈ choices c (List.range E.length) ∧ Cut L s t (G ++ eds E row) ∧ ∀ q ∈ choices c (List.range E.length), (∃ e ∈ W, e ∈ eds E q) → Cut L s t (G ++ eds E q) → lexN q row = false
theorem row_nil {E G : List Edge} {c : Nat} (hn : Needs L s t c G) (hc : Cut L s t G) : c = 0 ∧ RowOk L s t E c G (some []) := by
  have h0 : c = 0 := Classical.byContradiction fun h => hn [] (by show 0 < c; omega) (by rw [List.append_nil]; exact hc)
  subst h0
  refine ⟨rfl, ?_, ?_, ?_⟩
  · exact mem_choices.mpr ⟨List.nil_sublist _, rfl⟩
  · show Cut L s t (G ++ [])
    rw [List.append_nil]
    exact hc
  · intro q hq _
    have e : q = [] := List.length_eq_zero_iff.mp (mem_choices.mp hq).2
    rw [e]
    rfl
theorem row_zero {E G : List Edge} (h : ¬ Cut L s t G) : RowOk L s t E 0 G none := by
  intro q hq
  have e : q = [] := List.length_eq_zero_iff.mp (mem_choices.mp hq).2
  rw [e]
  show ¬ Cut L s t (G ++ [])
  rw [List.append_nil]
  exact h
theorem part_zero {E G : List Edge} {c : Nat} : PartOk L s t E c G [] none := by
  rintro q hq ⟨e, he, _⟩
  cases he
theorem part_done {E G W : List Edge} {c : Nat} {o : Option (List Nat)} (hw : Way L G s t W) (h : PartOk L s t E c G W o) : RowOk L s t E c G o := by
  have hit : ∀ q, Cut L s t (G ++ eds E q) → ∃ e ∈ W, e ∈ eds E q := fun q hc => Classical.byContradiction fun hn => hc (hw.keep fun e he hg => by
    rcases List.mem_append.mp hg with z | z
    · exact hw.out e he z
    · exact hn ⟨e, he, z⟩)
  cases o with
  | none => exact fun q hq hc => h q hq (hit q hc) hc
  | some row => exact ⟨h.1, h.2.1, fun q hq hc => h.2.2 q hq (hit q hc) hc⟩
theorem needs_next {G : List Edge} {c : Nat} {e : Edge} (h : Needs L s t (c + 1) G) : Needs L s t c (G ++ [e]) := fun R hR hc => by
  refine h (e :: R) (by rw [List.length_cons]; omega) ?_
  rw [List.append_assoc] at hc
  exact hc
theorem mem_eds {E : List Edge} {q : List Nat} {e : Edge} : e ∈ eds E q ↔ ∃ i ∈ q, E.getD i ed0 = e := List.mem_map
theorem getD_of {E : List Edge} {i : Nat} {e : Edge} (h : E[i]? = some e) : E.getD i ed0 = e := by
  rw [List.getD_eq_getElem?_getD, h]
  rfl
/-- an edge's place is the only one -/
theorem place_one {E : List Edge} {i j : Nat} {e : Edge} (hn : E.Nodup) (hi : E[i]? = some e) (hj : j < E.length) (h : E.getD j ed0 = e) : j = i := by
  have hj2 : E[j]? = some e := by
    rw [List.getD_eq_getElem?_getD, List.getElem?_eq_getElem hj] at h
    rw [List.getElem?_eq_getElem hj]
    exact congrArg some h
  obtain ⟨a, b⟩ := List.getElem?_eq_some_iff.mp hi
  have f := List.pairwise_iff_getElem.mp hn
  obtain ⟨a2, b2⟩ := List.getElem?_eq_some_iff.mp hj2
  refine Classical.byContradiction fun z => ?_
  rcases Nat.lt_or_gt_of_ne z with w | w
  · exact f j i a2 a w (b2.trans b.symm)
  · exact f i j a a2 w (b.trans b2.symm)
variable {E G : List Edge} {c i : Nat} {e : Edge}
theorem eds_erase {q : List Nat} (hn : E.Nodup) (hi : E[i]? = some e) (hq : q.Pairwise (· < ·)) (hm : i ∈ q) : ∀ z, z ∈ G ++ eds E q ↔ z ∈ (G ++ [e]) ++ eds E (q.erase i) := by
  intro z
  have h : eds E q = eds E (ins i (q.erase i)) := by rw [ins_erase hq hm]
  rw [h, List.append_assoc, List.mem_append, List.mem_append, List.mem_append, List.mem_singleton]
  refine or_congr Iff.rfl ?_
  rw [mem_eds, mem_eds]
  constructor
  · rintro ⟨j, hj, rfl⟩
    rcases mem_ins.mp hj with w | w
    · left
      rw [w]
      exact getD_of hi
    · exact .inr ⟨j, w, rfl⟩
  · rintro (rfl | ⟨j, hj, rfl⟩)
    · exact ⟨i, mem_ins.mpr (.inl rfl), getD_of hi⟩
    · exact ⟨j, mem_ins.mpr (.inr hj), rfl⟩
theorem eds_ins {q : List Nat} (hi : E[i]? = some e) : ∀ z, z ∈ G ++ eds E (ins i q) ↔ z ∈ (G ++ [e]) ++ eds E q := by
  intro z
  rw [List.append_assoc, List.mem_append, List.mem_append, List.mem_append, List.mem_singleton]
  refine or_congr Iff.rfl ?_
  rw [mem_eds, mem_eds]
  constructor
  · rintro ⟨j, hj, rfl⟩
    rcases mem_ins.mp hj with w | w
    · left
      rw [w]
      exact getD_of hi
    · exact .inr ⟨j, w, rfl⟩
  · rintro (rfl | ⟨j, hj, rfl⟩)
    · exact ⟨i, mem_ins.mpr (.inl rfl), getD_of hi⟩
    · exact ⟨j, mem_ins.mpr (.inr hj), rfl⟩
/-- a row with this edge is the edge beside a row of the others -/
theorem row_split {q : List Nat} (hn : E.Nodup) (hi : E[i]? = some e) (hq : q ∈ choices (c + 1) (List.range E.length)) (he : e ∈ eds E q) : i ∈ q ∧ q.erase i ∈ choices c (List.range E.length) ∧ ins i (q.erase i) = q ∧ i ∉ q.erase i := by
  obtain ⟨h1, h2, h3⟩ := mem_rows.mp hq
  obtain ⟨j, hj, ej⟩ := mem_eds.mp he
  have := place_one hn hi (h2 j hj) ej
  subst this
  have hnd : q.Nodup := h1.imp fun {a b} z => Nat.ne_of_lt z
  refine ⟨hj, mem_rows.mpr ⟨h1.sublist List.erase_sublist, fun k hk => h2 k (List.mem_of_mem_erase hk), ?_⟩, ins_erase h1 hj, fun z => ?_⟩
  · rw [List.length_erase_of_mem hj, h3]
    rfl
  · exact (List.Nodup.mem_erase_iff hnd).mp z |>.1 rfl
theorem part_none {W : List Edge} {o : Option (List Nat)} (hn : E.Nodup) (hi : E[i]? = some e) (hr : RowOk L s t E c (G ++ [e]) none) (h : PartOk L s t E (c + 1) G W o) : PartOk L s t E (c + 1) G (W ++ [e]) o := by
  have no : ∀ q ∈ choices (c + 1) (List.range E.length), e ∈ eds E q → ¬ Cut L s t (G ++ eds E q) := fun q hq he hc => by
    obtain ⟨h1, h2, h3, h4⟩ := row_split hn hi hq he
    exact hr _ h2 ((cut_congr (eds_erase hn hi (mem_rows.mp hq).1 h1)).mp hc)
  cases o with
  | none =>
    rintro q hq ⟨z, hz, hzq⟩
    rcases List.mem_append.mp hz with w | w
    · exact h q hq ⟨z, w, hzq⟩
    · rw [List.mem_singleton.mp w] at hzq
      exact no q hq hzq
  | some row =>
    refine ⟨h.1, h.2.1, ?_⟩
    rintro q hq ⟨z, hz, hzq⟩ hc
    rcases List.mem_append.mp hz with w | w
    · exact h.2.2 q hq ⟨z, w, hzq⟩ hc
    · rw [List.mem_singleton.mp w] at hzq
      exact absurd hc (no q hq hzq)
/-- the new row -/
theorem new_row {o : List Nat} (hn : E.Nodup) (hi : E[i]? = some e) (hN : Needs L s t (c + 1) G) (hr : RowOk L s t E c (G ++ [e]) (some o)) :
    i ∉ o ∧ ins i o ∈ choices (c + 1) (List.range E.length) ∧ Cut L s t (G ++ eds E (ins i o)) ∧ ∀ q ∈ choices (c + 1) (List.range E.length), e ∈ eds E q → Cut L s t (G ++ eds E q) → lexN q (ins i o) = false := by
  obtain ⟨r1, r2, r3⟩ := hr
  obtain ⟨o1, o2, o3⟩ := mem_rows.mp r1
  have hio : i ∉ o := fun z => by
    refine hN (eds E o) (by unfold eds; rw [List.length_map]; omega) (Cut.mono (fun w hw => ?_) r2)
    rw [List.append_assoc] at hw
    rcases List.mem_append.mp hw with a | a
    · exact List.mem_append_left _ a
    · rcases List.mem_append.mp a with b | b
      · rw [List.mem_singleton.mp b]
        exact List.mem_append_right _ (mem_eds.mpr ⟨i, z, getD_of hi⟩)
      · exact List.mem_append_right _ b
  refine ⟨hio, mem_rows.mpr ⟨ins_inc o1 hio, fun j hj => ?_, by rw [ins_len, o3]⟩, (cut_congr (eds_ins hi)).mpr r2, fun q hq he hc => ?_⟩
  · rcases mem_ins.mp hj with w | w
    · rw [w]
      exact (List.getElem?_eq_some_iff.mp hi).1
    · exact o2 j w
  · obtain ⟨h1, h2, h3, h4⟩ := row_split hn hi hq he
    have hl := r3 _ h2 ((cut_congr (eds_erase hn hi (mem_rows.mp hq).1 h1)).mp hc)
    cases hb : lexN q (ins i o) with
    | false => rfl
    | true =>
      rw [← h3] at hb
      have := ins_lex (by rw [(mem_rows.mp h2).2.2, o3]) h4 hio hb
      rw [hl] at this
      cases this
theorem part_first {W : List Edge} {o : List Nat} (hn : E.Nodup) (hi : E[i]? = some e) (hN : Needs L s t (c + 1) G) (hr : RowOk L s t E c (G ++ [e]) (some o)) (h : PartOk L s t E (c + 1) G W none) : PartOk L s t E (c + 1) G (W ++ [e]) (some (ins i o)) := by
  obtain ⟨_, h1, h2, h3⟩ := new_row hn hi hN hr
  refine ⟨h1, h2, ?_⟩
  rintro q hq ⟨z, hz, hzq⟩ hc
  rcases List.mem_append.mp hz with w | w
  · exact absurd hc (h q hq ⟨z, w, hzq⟩)
  · rw [List.mem_singleton.mp w] at hzq
    exact h3 q hq hzq hc
theorem part_less {W : List Edge} {o row : List Nat} (hn : E.Nodup) (hi : E[i]? = some e) (hN : Needs L s t (c + 1) G) (hr : RowOk L s t E c (G ++ [e]) (some o)) (h : PartOk L s t E (c + 1) G W (some row)) (hl : lexN (ins i o) row = true) :
    PartOk L s t E (c + 1) G (W ++ [e]) (some (ins i o)) := by
  obtain ⟨_, h1, h2, h3⟩ := new_row hn hi hN hr
  refine ⟨h1, h2, ?_⟩
  rintro q hq ⟨z, hz, hzq⟩ hc
  rcases List.mem_append.mp hz with w | w
  · have k := h.2.2 q hq ⟨z, w, hzq⟩ hc
    cases hb : lexN q (ins i o) with
    | false => rfl
    | true =>
      rcases lexN_cotrans (c := row) hb with a | a
      · rw [k] at a
        cases a
      · exact (lexN_asymm a hl).elim
  · rw [List.mem_singleton.mp w] at hzq
    exact h3 q hq hzq hc
theorem part_more {W : List Edge} {o row : List Nat} (hn : E.Nodup) (hi : E[i]? = some e) (hN : Needs L s t (c + 1) G) (hr : RowOk L s t E c (G ++ [e]) (some o)) (h : PartOk L s t E (c + 1) G W (some row)) (hl : lexN (ins i o) row = false) :
    PartOk L s t E (c + 1) G (W ++ [e]) (some row) := by
  obtain ⟨_, h1, h2, h3⟩ := new_row hn hi hN hr
  refine ⟨h.1, h.2.1, ?_⟩
  rintro q hq ⟨z, hz, hzq⟩ hc
  rcases List.mem_append.mp hz with w | w
  · exact h.2.2 q hq ⟨z, w, hzq⟩ hc
  · rw [List.mem_singleton.mp w] at hzq
    have k := h3 q hq hzq hc
    cases hb : lexN q row with
    | false => rfl
    | true =>
      rcases lexN_cotrans (c := ins i o) hb with a | a
      · rw [k] at a
        cases a
      · rw [hl] at a
        cases a
/-! ### count by count -/
theorem needs_zero : Needs L s t 0 G := fun R h => absurd h (Nat.not_lt_zero _)
/-- a list of edges as a row of places -/
theorem row_of (R : List Edge) : ∃ q : List Nat, q.Pairwise (· < ·) ∧ (∀ i ∈ q, i < E.length) ∧ (∀ z, z ∈ eds E q ↔ z ∈ R ∧ z ∈ E) := by
  refine ⟨(List.range E.length).filter fun i => decide (E.getD i ed0 ∈ R), (range_inc _).filter _, fun i hi => List.mem_range.mp (List.mem_filter.mp hi).1, fun z => ?_⟩
  rw [mem_eds]
  constructor
  · rintro ⟨i, hi, rfl⟩
    obtain ⟨h1, h2⟩ := List.mem_filter.mp hi
    refine ⟨of_decide_eq_true h2, ?_⟩
    have h1 := List.mem_range.mp h1
    rw [List.getD_eq_getElem?_getD, List.getElem?_eq_getElem h1]
    exact List.getElem_mem h1
  · rintro ⟨h1, h2⟩
    obtain ⟨i, hi, rfl⟩ := List.mem_iff_getElem.mp h2
    have e : E.getD i ed0 = E[i] := getD_of (List.getElem?_eq_getElem hi)
    exact ⟨i, List.mem_filter.mpr ⟨List.mem_range.mpr hi, by rw [e]; exact decide_eq_true h1⟩, e⟩
theorem nodup_lenE {A : Type} [DecidableEq A] : ∀ {l m : List A}, l.Nodup → (∀ x ∈ l, x ∈ m) → l.length ≤ m.length
  | [], m, _, _ => Nat.zero_le _
  | a :: l, m, hn, hs => by
    obtain ⟨h1, h2⟩ := List.nodup_cons.mp hn
    have ha : a ∈ m := hs a (List.mem_cons_self)
    have h3 : l.length ≤ (m.erase a).length := by
      refine nodup_lenE h2 fun x hx => ?_
      have hxm := hs x (List.mem_cons_of_mem _ hx)
      have hne : x ≠ a := fun e => h1 (e ▸ hx)
      exact (List.mem_erase_of_ne hne).mpr hxm
    have h4 := List.length_erase_of_mem ha
    have h5 : 0 < m.length := List.length_pos_of_mem ha
    rw [List.length_cons]
    omega
theorem needs_more (hE : ∀ a b z, (a, b, some z) ∈ L → z ∈ E) (hn : E.Nodup) (h : Needs L s t c []) (hr : RowOk L s t E c [] none) : Needs L s t (c + 1) [] := by
  intro R hR hc
  obtain ⟨q, q1, q2, q3⟩ := row_of (E := E) R
  have hcq : Cut L s t ([] ++ eds E q) := fun r => hc (RT.mono (fun a b st => by
    obtain ⟨o, h1, h2⟩ := st
    exact ⟨o, h1, fun z hz hzR => h2 z hz ((q3 z).mpr ⟨hzR, hE a b z (hz ▸ h1)⟩)⟩) r)
  have hnd : (eds E q).Nodup := by
    unfold eds
    refine List.pairwise_map.mpr (q1.imp_of_mem fun {a b} ha hb hab e => ?_)
    have hb2 := q2 b hb
    have ha2 := q2 a ha
    have := place_one hn (List.getElem?_eq_getElem hb2) ha2 (e.trans (getD_of (List.getElem?_eq_getElem hb2)))
    omega
  have hlen : (eds E q).length ≤ R.length := nodup_lenE hnd fun z hz => ((q3 z).mp hz).1
  have hql : (eds E q).length = q.length := List.length_map _
  by_cases e : q.length < c
  · exact h (eds E q) (by omega) hcq
  · exact hr q (mem_rows.mpr ⟨q1, q2, by omega⟩) hcq
end
/-! ### the specification's answer -/
def canP (g : Graph) (r x y : Nat) (c : List Edge) : Bool := !Wm02.can (without g c) r x y
theorem cut_can {g : Graph} (w : Wd g) {r x y : Nat} (G : List Edge) : Cut (allL r x y (subs g) g.edges) (x, 2) (y, 3) G ↔ canP g r x y G = true := by
  unfold Cut canP
  rw [Bool.not_eq_true', ← Bool.not_eq_true, can_iff (w.without G)]
  have e1 : (without g G).edges = out g.edges G := rfl
  have e2 : subs (without g G) = subs g := rfl
  rw [e1, e2, ← can_way]
  exact not_congr ⟨RT.mono fun a b => lst_all.mp, RT.mono fun a b => lst_all.mpr⟩
theorem rows_none {g : Graph} (w : Wd g) {r x y c : Nat} (h : RowOk (allL r x y (subs g) g.edges) (x, 2) (y, 3) g.edges c [] none) : (choices c g.edges).find? (canP g r x y) = none := by
  rw [find_rows, List.find?_eq_none.mpr, Option.map_none]
  intro q hq z
  refine h q hq ?_
  rw [List.nil_append]
  exact (cut_can w _).mpr z
theorem rows_some {g : Graph} (w : Wd g) {r x y c : Nat} {row : List Nat} (h : RowOk (allL r x y (subs g) g.edges) (x, 2) (y, 3) g.edges c [] (some row)) : (choices c g.edges).find? (canP g r x y) = some (eds g.edges row) := by
  obtain ⟨h1, h2, h3⟩ := h
  rw [find_rows, find_least (lt := fun a b => lexN a b = true) (choices_lex (range_inc _)) h1 ((cut_can w _).mp (by rw [List.nil_append] at h2; exact h2)) (fun d hd hp hl => ?_), Option.map_some]
  have k := h3 d hd (by rw [List.nil_append]; exact (cut_can w _).mpr hp)
  rw [k] at hl
  cases hl
theorem fewest_eq (g : Graph) (r x y : Nat) : Wm02.fewest g r x y = (((choices 0 g.edges).find? (canP g r x y)).or (((choices 1 g.edges).find? (canP g r x y)).or (((choices 2 g.edges).find? (canP g r x y)).or ((choices 3 g.edges).find? (canP g r x y))))) := by
  unfold Wm02.fewest
  have e : List.range 4 = [0, 1, 2, 3] := rfl
  rw [e]
  simp only [List.flatMap_cons, List.flatMap_nil, List.append_nil, List.find?_append]
  rfl
theorem canP_def (g : Graph) (r x y : Nat) : (fun c => !Wm02.can (without g c) r x y) = canP g r x y := rfl
end Tg

set_option Elab.async false
set_option linter.all false
set_option maxRecDepth 100000
set_option maxHeartbeats 1000000
namespace Tg
open PySem PySem.Spec PyProof.Rows L2
open Wm02 (Edge Graph)
/-! ### readings of the heap that a lock keeps -/
def Le (H H' : Hp) : Prop := ∀ b u, Rd H b u → Rd H' b u
theorem Le.refl (H : Hp) : Le H H := fun _ _ h => h
theorem Le.trans {H H1 H2 : Hp} (a : Le H H1) (b : Le H1 H2) : Le H H2 := fun c u h => b c u (a c u h)
theorem le_of_same {H H' : Hp} (s : Same H H') : Le H H' := fun b u h => by
  rcases h with h | ⟨o, h⟩
  · exact .inl (s _ _ h)
  · exact .inr ⟨o, s _ _ h⟩
theorem same_upd {H : Hp} {p : Addr} {o : HO} (h : H p = none) : Same H (upd H p o) := fun b x e => by
  rw [upd_ne (ne_of_none e h)]
  exact e
theorem le_lock {H : Hp} {d : Addr} {u : HO} {od : Obj} (h : H d = some u) (m : Mut (some u)) : Le H (upd H d (.frz od u)) := fun b v r => by
  by_cases e : b = d
  · subst e
    rcases r with r | ⟨o, r⟩
    · rw [h] at r
      cases r
      exact .inr ⟨od, upd_same⟩
    · rw [h] at r
      cases r
      exact m.elim
  · rcases r with r | ⟨o, r⟩
    · exact .inl (by rw [upd_ne e]; exact r)
    · exact .inr ⟨o, by rw [upd_ne e]; exact r⟩
/-- behind a lock all is as it was -/
theorem same_unlock {H H2 : Hp} {d : Addr} {u : HO} {od : Obj} (h : H d = some u) (s : Same (upd H d (.frz od u)) H2) : Same H (upd H2 d u) := fun b o e => by
  by_cases q : b = d
  · subst q
    rw [h] at e
    rw [upd_same]
    exact e
  · rw [upd_ne q]
    exact s b o (by rw [upd_ne q]; exact e)
section
variable {K : PySem.W.Frag} {H H' : Hp} {a : Addr} {xs : List V}
theorem Le.sqL (e : Le H H') (h : SqL K H a xs) : SqL K H' a xs := h.imp (e _ _) id
theorem Le.sqT (e : Le H H') (h : SqT K H a xs) : SqT K H' a xs := h.imp (e _ _) id
mutual
theorem Le.dp (e : Le H H') : ∀ {v : V} {d : PyData}, Dp K H v d → Dp K H' v d
  | _, _, .non => .non
  | _, _, .bl b => .bl b
  | _, _, .int i => .int i
  | _, _, .str x => .str x
  | _, _, .lst h k => .lst (e.sqL h) (e.dpAll k)
  | _, _, .tup h k => .tup (e.sqT h) (e.dpAll k)
theorem Le.dpAll (e : Le H H') : ∀ {vs : List V} {ds : List PyData}, DpAll K H vs ds → DpAll K H' vs ds
  | _, _, .nil => .nil
  | _, _, .cons h k => .cons (e.dp h) (e.dpAll k)
end
end
/-! ### lists of numbers -/
def iv (n : Nat) : V := V.int (n : Int)
def nv (l : List Nat) : List V := l.map iv
theorem iv_inj {a b : Nat} : iv a = iv b ↔ a = b := by
  unfold iv
  constructor
  · intro h
    have h := V.int.inj h
    omega
  · intro h
    rw [h]
theorem nv_flat : ∀ l : List Nat, (nv l).all flatV = true
  | [] => rfl
  | a :: l => by
    show (flatV (iv a) && (nv l).all flatV) = true
    rw [nv_flat l]
    rfl
theorem nv_len (l : List Nat) : (nv l).length = l.length := List.length_map _
theorem nv_app (l m : List Nat) : nv (l ++ m) = nv l ++ nv m := List.map_append
theorem eqV_iv (a b : Nat) : eqV (iv a) (iv b) = decide (a = b) := by
  show ((a : Int) == (b : Int)) = decide (a = b)
  by_cases h : a = b
  · rw [h, decide_eq_true rfl]
    exact beq_self_eq_true _
  · rw [decide_eq_false h]
    exact beq_eq_false_iff_ne.mpr (by omega)
theorem inV_nv (n : Nat) : ∀ l : List Nat, inV (iv n) (nv l) = decide (n ∈ l)
  | [] => by simp [inV, nv]
  | a :: l => by
    show (eqV (iv a) (iv n) || inV (iv n) (nv l)) = decide (n ∈ a :: l)
    rw [inV_nv n l, eqV_iv]
    by_cases h : a = n
    · subst h
      simp
    · by_cases k : n ∈ l
      · simp [k]
      · simp [k, h, Ne.symm h]
theorem nv_get {l : List Nat} {i : Nat} {v : V} (h : (nv l)[i]? = some v) : ∃ n, l[i]? = some n ∧ v = iv n := by
  unfold nv at h
  rw [List.getElem?_map] at h
  cases e : l[i]? with
  | none =>
    rw [e] at h
    cases h
  | some n =>
    rw [e] at h
    exact ⟨n, rfl, (Option.some.inj h).symm⟩
theorem get_nv {l : List Nat} {i n : Nat} (h : l[i]? = some n) : (nv l)[i]? = some (iv n) := by
  unfold nv
  rw [List.getElem?_map, h]
  rfl
/-! ### edges -/
def edD (e : Edge) : PyData := .tuple [.int (e.src : Int), .int (e.dst : Int), .int (e.right : Int)]
theorem edD_eqv (z w : Edge) : PyData.eqv (edD z) (edD w) = decide (z = w) := by
  obtain ⟨a, b, c⟩ := z
  obtain ⟨a', b', c'⟩ := w
  have e : PyData.eqv (edD ⟨a, b, c⟩) (edD ⟨a', b', c'⟩) = (((a : Int) == (a' : Int)) && (((b : Int) == (b' : Int)) && (((c : Int) == (c' : Int)) && true))) := by simp only [edD, PyData.eqv, PyData.eqvAll]
  rw [e]
  by_cases h : a = a' ∧ b = b' ∧ c = c'
  · obtain ⟨rfl, rfl, rfl⟩ := h
    simp
  · have hn : ¬ (⟨a, b, c⟩ : Edge) = ⟨a', b', c'⟩ := fun q => h (by cases q; exact ⟨rfl, rfl, rfl⟩)
    rw [decide_eq_false hn, Bool.eq_false_iff]
    intro q
    rw [Bool.and_eq_true, Bool.and_eq_true, Bool.and_eq_true, beq_iff_eq, beq_iff_eq, beq_iff_eq] at q
    exact h ⟨by omega, by omega, by omega⟩
theorem edD_lay (z : Edge) : (edD z).canLay0 = true := by simp [edD, PyData.canLay0, PyData.canLayAll0]
theorem edD_depth (z : Edge) : (edD z).depth = 1 := by simp [edD, PyData.depth, PyData.depthAll]
theorem edDs_lay : ∀ zs : List Edge, PyData.canLayAll0 (zs.map edD) = true
  | [] => by simp [PyData.canLayAll0]
  | z :: zs => by simp [PyData.canLayAll0, edD_lay z, edDs_lay zs]
theorem edDs_depth : ∀ zs : List Edge, PyData.depthAll (zs.map edD) ≤ 1
  | [] => by simp [PyData.depthAll]
  | z :: zs => by
    have h1 := edDs_depth zs
    have h2 := edD_depth z
    simp only [List.map_cons, PyData.depthAll]
    omega
theorem edD_shaped (z : Edge) : SeqAt.shaped (edD z) = true := by
  have h := edD_depth z
  show ((edD z).canLay0 && decide ((edD z).depth ≤ 64)) = true
  rw [Bool.and_eq_true]
  exact ⟨edD_lay z, decide_eq_true (by omega)⟩
theorem edDs_shaped (zs : List Edge) : SeqAt.shaped (.list (zs.map edD)) = true := by
  have h1 := edDs_depth zs
  have h2 : PyData.depth (.list (zs.map edD)) ≤ 64 := by
    simp only [PyData.depth]
    omega
  show (PyData.canLay0 (.list (zs.map edD)) && decide (PyData.depth (.list (zs.map edD)) ≤ 64)) = true
  rw [Bool.and_eq_true]
  exact ⟨by simp only [PyData.canLay0]; exact edDs_lay zs, decide_eq_true h2⟩
theorem edDs_any (e : Edge) : ∀ E : List Edge, ((E.map edD).any fun z => PyData.eqv z (edD e)) = decide (e ∈ E)
  | [] => by simp
  | a :: E => by
    rw [List.map_cons, List.any_cons, edD_eqv, edDs_any e E]
    by_cases h : a = e
    · subst h
      simp
    · by_cases k : e ∈ E
      · simp [k]
      · simp [k, h, Ne.symm h]
/-- what an edge's tuple holds -/
def edV (e : Edge) : List V := [iv e.src, iv e.dst, iv e.right]
/-- the values ts are tuples of the edges E -/
def Tups (K : PySem.W.Frag) (H : Hp) (ts : List V) (E : List Edge) : Prop := DpAll K H ts (E.map edD)
section
variable {K : PySem.W.Frag} {H H' : Hp} {a : Addr} {xs : List V}
theorem DpAll.len : ∀ {vs : List V} {ds : List PyData}, DpAll K H vs ds → vs.length = ds.length
  | _, _, .nil => rfl
  | _, _, .cons _ k => by rw [List.length_cons, List.length_cons, DpAll.len k]
theorem Tups.len {ts : List V} {E : List Edge} (h : Tups K H ts E) : ts.length = E.length := by
  have q := DpAll.len h
  rw [List.length_map] at q
  exact q
theorem dp_int {v : V} {i : Int} (h : Dp K H v (.int i)) : v = .int i := by
  cases h
  rfl
theorem dp_edge {v : V} {e : Edge} (h : Dp K H v (edD e)) : ∃ t, v = .ref t ∧ SqT K H t (edV e) := by
  cases h with
  | tup hs hd =>
    cases hd with
    | cons h1 hd =>
      cases hd with
      | cons h2 hd =>
        cases hd with
        | cons h3 hd =>
          cases hd
          cases dp_int h1
          cases dp_int h2
          cases dp_int h3
          exact ⟨_, rfl, hs⟩
theorem dp_edge_of {t : Addr} {e : Edge} (h : SqT K H t (edV e)) : Dp K H (.ref t) (edD e) :=
  .tup h (.cons (.int _) (.cons (.int _) (.cons (.int _) .nil)))
theorem DpAll.get : ∀ {vs : List V} {ds : List PyData} {i : Nat} {v : V}, DpAll K H vs ds → vs[i]? = some v → ∃ d, ds[i]? = some d ∧ Dp K H v d
  | _, _, _, _, .nil, h => by simp at h
  | _, _, 0, _, .cons h k, e => by
    cases (show some _ = some _ from e)
    exact ⟨_, rfl, h⟩
  | _, _, i + 1, v, .cons h k, e => DpAll.get (i := i) k (by simpa using e)
theorem DpAll.app : ∀ {vs ws : List V} {ds es : List PyData}, DpAll K H vs ds → DpAll K H ws es → DpAll K H (vs ++ ws) (ds ++ es)
  | _, _, _, _, .nil, k => k
  | _, _, _, _, .cons h t, k => .cons h (DpAll.app t k)
theorem Tups.get {ts : List V} {E : List Edge} {i : Nat} {v : V} (h : Tups K H ts E) (e : ts[i]? = some v) : ∃ d t, E[i]? = some d ∧ v = .ref t ∧ SqT K H t (edV d) := by
  obtain ⟨d, hd, dp⟩ := DpAll.get h e
  rw [List.getElem?_map] at hd
  cases q : E[i]? with
  | none =>
    rw [q] at hd
    cases hd
  | some z =>
    rw [q] at hd
    cases (show some _ = some _ from hd)
    obtain ⟨t, h1, h2⟩ := dp_edge dp
    exact ⟨z, t, rfl, h1, h2⟩
theorem Tups.app {ts us : List V} {E F : List Edge} (h : Tups K H ts E) (k : Tups K H us F) : Tups K H (ts ++ us) (E ++ F) := by
  unfold Tups
  rw [List.map_append]
  exact DpAll.app h k
theorem Le.tups {ts : List V} {E : List Edge} (e : Le H H') (h : Tups K H ts E) : Tups K H' ts E := e.dpAll h
/-- the list of edges at a -/
def Eds (K : PySem.W.Frag) (H : Hp) (a : Addr) (E : List Edge) : Prop := ∃ ts, SqL K H a ts ∧ Tups K H ts E
theorem Le.eds {E : List Edge} (e : Le H H') (h : Eds K H a E) : Eds K H' a E := by
  obtain ⟨ts, h1, h2⟩ := h
  exact ⟨ts, e.sqL h1, e.tups h2⟩
theorem Eds.dp {E : List Edge} (h : Eds K H a E) : Dp K H (.ref a) (.list (E.map edD)) := by
  obtain ⟨ts, h1, h2⟩ := h
  exact .lst h1 h2
/-! ### dicts of lists of numbers -/
def kk (n : Nat) : Key := Sum.inl (n : Int)
theorem kk_inj {a b : Nat} : kk a = kk b ↔ a = b := by
  unfold kk
  constructor
  · intro h
    have h := Sum.inl.inj h
    omega
  · intro h
    rw [h]
/-- by a function: where there is no key it is the empty list -/
def DF (K : PySem.W.Frag) (H : Hp) (d : Addr) (f : Nat → List Nat) : Prop := ∃ kvs : List (Key × V), Rd H d (.dK kvs) ∧ ∀ k : Nat, (valV kvs (kk k) = none ∧ f k = []) ∨ ∃ l, valV kvs (kk k) = some (.ref l) ∧ SqL K H l (nv (f k))
/-- the keys are S, in this order -/
def DS (K : PySem.W.Frag) (H : Hp) (d : Addr) (S : List Nat) (f : Nat → List Nat) : Prop := ∃ kvs : List (Key × V), Rd H d (.dK kvs) ∧ kvs.map (·.1) = S.map kk ∧ ∀ k ∈ S, ∃ l, valV kvs (kk k) = some (.ref l) ∧ SqL K H l (nv (f k))
theorem Le.df {d : Addr} {f : Nat → List Nat} (e : Le H H') (h : DF K H d f) : DF K H' d f := by
  obtain ⟨kvs, h1, h2⟩ := h
  refine ⟨kvs, e _ _ h1, fun k => (h2 k).imp id ?_⟩
  rintro ⟨l, q1, q2⟩
  exact ⟨l, q1, e.sqL q2⟩
theorem Le.ds {d : Addr} {S : List Nat} {f : Nat → List Nat} (e : Le H H') (h : DS K H d S f) : DS K H' d S f := by
  obtain ⟨kvs, h1, h3, h2⟩ := h
  refine ⟨kvs, e _ _ h1, h3, fun k hk => ?_⟩
  obtain ⟨l, q1, q2⟩ := h2 k hk
  exact ⟨l, q1, e.sqL q2⟩
theorem valV_none_of {kvs : List (Key × V)} {k : Key} (h : k ∉ kvs.map (·.1)) : valV kvs k = none := by
  cases q : valV kvs k with
  | none => rfl
  | some v => exact absurd (valV_in q) h
theorem DS.df {d : Addr} {S : List Nat} {f : Nat → List Nat} (h : DS K H d S f) : DF K H d (fun k => if k ∈ S then f k else []) := by
  obtain ⟨kvs, h1, h3, h2⟩ := h
  refine ⟨kvs, h1, fun k => ?_⟩
  by_cases hk : k ∈ S
  · obtain ⟨l, q1, q2⟩ := h2 k hk
    refine .inr ⟨l, q1, ?_⟩
    show SqL K H l (nv (if k ∈ S then f k else []))
    rw [if_pos hk]
    exact q2
  · refine .inl ⟨valV_none_of ?_, if_neg hk⟩
    rw [h3]
    intro m
    obtain ⟨z, hz, e⟩ := List.mem_map.mp m
    rw [kk_inj.mp e] at hz
    exact hk hz
end
theorem take_more {A : Type} : ∀ {l : List A} {i : Nat} {x : A}, l[i]? = some x → l.take (i + 1) = l.take i ++ [x]
  | [], i, x, h => by simp at h
  | a :: l, 0, x, h => by
    have e : a = x := Option.some.inj h
    subst e
    rfl
  | a :: l, i + 1, x, h => by
    have ih := take_more (l := l) (i := i) (x := x) h
    show a :: l.take (i + 1) = a :: l.take i ++ [x]
    rw [ih]
    rfl
theorem lt_line {n : Nat} (h : n ≤ 100000) : n < sizeLine := Nat.lt_of_le_of_lt h (by decide)
end Tg

set_option Elab.async false
set_option linter.all false
set_option maxRecDepth 100000
set_option maxHeartbeats 1000000
namespace Tg
open PySem PySem.Spec PyProof.Rows L2
open Wm02 (Edge Graph)
/-! ### two rules that the layer lacks: xs.remove(t) of a list of tuples; enumerate(xs, start=c) -/
section
variable {X : Cx}
def rRemE (K : PySem.W.Frag) : V → List V → Hp → VK → Prop := fun x xs H Q => ∃ (l : Addr) (y : V) (ts : List V) (E : List Edge) (e : Edge) (j : Nat), x = .ref l ∧ xs = [y] ∧ H l = some (.lst ts) ∧ Tups K H ts E ∧ Dp K H y (edD e) ∧
  E[j]? = some e ∧ (∀ m, m < j → E[m]? ≠ some e) ∧ Q .non (upd H l (.lst (ts.eraseIdx j)))
theorem place_of {E : List Edge} {e : Edge} {j : Nat} (h : E[j]? = some e) (hno : ∀ m, m < j → E[m]? ≠ some e) : SeqAt.dataPlace (E.map edD) (edD e) = some j := by
  unfold SeqAt.dataPlace
  obtain ⟨hj, he⟩ := List.getElem?_eq_some_iff.mp h
  rw [List.findIdx?_eq_some_iff_getElem]
  refine ⟨by rw [List.length_map]; exact hj, ?_, fun m hm => ?_⟩
  · rw [List.getElem_map, edD_eqv, he, decide_eq_true rfl]
  · have hml : m < E.length := by omega
    rw [List.getElem_map, edD_eqv]
    have hne : ¬ E[m] = e := fun z => hno m hm (by rw [List.getElem?_eq_getElem hml, z])
    simp [hne]
theorem mt_removeE (hu : X.A.units + 65 < cLine) : MtR X "list.remove" (rRemE X.K) := by
  intro pins s σ H x xs v us Q I rx rxs h
  obtain ⟨l, y, ts, E, e, j, rfl, rfl, hH, hT, hy, hj, hno, q⟩ := h
  cases rx
  obtain ⟨u, rfl, ru⟩ := rxs.one
  obtain ⟨z, its, n, r, hl, e0⟩ := I.lstM hH
  obtain ⟨as, ra⟩ := Dp.readsAll I _ ts its hT r
  obtain ⟨bs, rb⟩ := Dp.reads I _ y u hy ru
  have dp1 := edDs_depth E
  have dp2 := edD_depth e
  refine SeqAt.remove_list_data (vs := its.toArray) (xs := E.map edD) (d := edD e) (j := j) ⟨_, e0, rfl, n, rfl⟩ ra rb (PyData.plainAll_of_canLay0 _ (edDs_lay E)) (PyData.plain_of_canLay0 _ (edD_lay e)) ?_ (place_of hj hno) ?_ ?_
  · rw [dp2]
    have : min (PyData.depthAll (E.map edD)) 1 ≤ 1 := Nat.min_le_right _ _
    omega
  · rw [List.size_toArray, ← hl]
    exact z
  · refine ⟨.non, _, I.lset (its' := its.eraseIdx j) (t' := s.toks) hH e0 (List.eraseIdxIfInBounds_toArray ..) (r.eraseIdx j) ?_, rfl, q⟩
    have := List.length_eraseIdx_le ts j
    omega
/-! enumerate -/
def IteS (K : PySem.W.Frag) (a : Addr) (c : Int) : It where
  go := fun i H => ∃ (xs : List V) (x : V), SqL K H a xs ∧ xs[i]? = some x
  yld := fun i H v H' => ∃ T x, v = .ref T ∧ H T = none ∧ H' = upd H T (.tup [.int (c + (i : Nat)), x]) ∧ ∀ xs, SqL K H a xs → xs[i]? = some x
  stop := fun i H => ∃ xs : List V, SqL K H a xs ∧ xs.length ≤ i
theorem two_mem {b e it : Addr} (h : b ∈ [e, it]) : b = e ∨ b = it := by simpa using h
/-- behind its last item a list's iterator only ends -/
theorem ended {prog : Program} {w : World} {A : Around} (hh : A.handled = none) {it a : Addr} {items : Array Value} {i : Nat} (hx : items[i]? = none) : Draws prog w A it [it, a] 0 (fun _ _ => True) (fun _ h => h.IsListIter it a i ∧ h.IsList a items) := by
  constructor
  case live =>
    rintro j h ⟨⟨o, ho, _⟩, _⟩
    exact ⟨o, ho⟩
  case frame =>
    rintro j h h' ⟨h1, h2⟩ k
    exact ⟨h1.at fun o q => k it (by simp) o q, h2.at fun o q => k a (by simp) o q⟩
  case item => exact fun j s Q E hj => absurd hj (Nat.not_lt_zero _)
  case done => exact fun s Q E st hE => wpAny_nextOf_list_end hh st.1 st.2 hx hE
theorem turn_enumS {P : Program} {w : World} {K : PySem.W.Frag} {elts : List Expr} {ek : Nat} {tpos : Pos} {c : Int} (a e it : Addr) :
    Turn P w K (.Tuple elts ek tpos) (IteS K a c) [e, it] e (fun i h => (∃ old, IsEnum h e it (c + (i : Nat)) old) ∧ h.IsListIter it a i ∧ e ≠ it ∧ a ≠ it ∧ e ≠ a) := by
  constructor
  case mem => exact List.mem_cons_self
  case obj =>
    rintro i h ⟨⟨old, he⟩, ⟨o, ho, hc, hd⟩, _⟩ b hb
    rcases two_mem hb with rfl | rfl
    · exact ⟨_, he, fun v q => nomatch q⟩
    · exact ⟨o, ho, fun v q => by rw [hd] at q; cases q⟩
  case keep =>
    rintro i h h' ⟨⟨old, he⟩, hi, hne⟩ k
    exact ⟨⟨old, k e (by simp) _ he⟩, hi.at fun o q => k it (by simp) o q, hne⟩
  case item =>
    intro X hP hw hK hc i pins s σ H E I hf st hg
    subst hP hw hK
    obtain ⟨⟨old, he⟩, hit, n1, n2, n3⟩ := st
    obtain ⟨xs, x, hq, hx⟩ := hg
    obtain ⟨its, rv, p, hz⟩ := I.list hq
    obtain ⟨u, hu, ru⟩ := rv.get hx
    have hil : i < its.toArray.size := by
      have := (List.getElem?_eq_some_iff.mp hu).1
      simpa using this
    have dr := Draws.list (prog := X.prog) (w := X.w) (A := X.A.in1) (show X.A.in1.handled = none from I.ok.hd hc) it a n2 its.toArray
    have hel : e < s.heap.objs.size := Heap.lt_size he
    have hitl : it < s.heap.objs.size := by
      obtain ⟨_, q, _⟩ := hit
      exact Heap.lt_size q
    refine wpAny_pyNext_enum_itemC dr he ⟨hit, p.isList⟩ hil n1 (by simp [n1, n3]) fun x' h' tk hP ho st' hT hsz hk => ?_
    have ex : x' = u := by
      have q1 : its[i]? = some x' := by simpa using hP
      rw [hu] at q1
      exact (Option.some.inj q1).symm
    subst ex
    refine ⟨_, rfl, wpAny_letOwnedTupleGo_enum (s := { s with heap := h', toks := tk + 1 }) ho fun h2 he2 sb => ?_⟩
    have hT2 := (sb.2 _ (Nat.ne_of_gt hel)).trans hT
    have new : ObjOk X.prog X.w (upd H s.heap.objs.size (.tup [.int (c + (i : Nat)), x])) h2 s.heap.objs.size (.tup [.int (c + (i : Nat)), x]) :=
      ⟨by show 2 ≤ sizeLine; decide, [.int (c + (i : Nat)) tk, x'], .cons ⟨_, rfl⟩ (.cons ru .nil), ⟨_, hT2, rfl, _, rfl⟩⟩
    have keep : ∀ b o, b ∉ [e, it] → s.heap.get? b = some o → h2.get? b = some o := fun b o hb q =>
      (sb.2 b fun y => hb (by simp [y])).trans (hk b o (fun y => hb (by simp [y])) (fun y => hb (by simp [y])) q)
    refine ⟨.ref s.heap.objs.size, _, I.turnedNew (t' := tk + 1) (ch := [e, it]) keep hf (Nat.le_refl _) new, rfl, ⟨_, x, rfl, I.hok.fresh (Nat.le_refl _), rfl, fun ys hy => ?_⟩, ⟨⟨x', ?_⟩, ?_, n1, n2, n3⟩, fun b hb => ?_⟩
    · rw [I.list_inj hy hq]
      exact hx
    · rw [show c + ((i + 1 : Nat) : Int) = c + (i : Nat) + 1 by omega]
      exact he2
    · exact st'.1.at fun o q => (sb.2 it n1.symm).trans q
    · have hb' : b < s.heap.objs.size := by rcases two_mem hb with rfl | rfl <;> assumption
      rw [upd_ne (Nat.ne_of_lt hb')]
      exact (hf b hb).1
  case done =>
    intro X hP hw hK hc i pins s σ H E I hf st hg
    subst hP hw hK
    obtain ⟨⟨old, he⟩, hit, n1, n2, n3⟩ := st
    obtain ⟨xs, hq, hx⟩ := hg
    obtain ⟨its, rv, p, hz⟩ := I.list hq
    obtain ⟨f0, f1, f2, f3, f4, f5⟩ := hf it (by simp)
    have hl := rv.length
    refine wpAny_pyNext_enum_endD (ended (prog := X.prog) (w := X.w) (A := X.A.in1) (show X.A.in1.handled = none from I.ok.hd hc) (items := its.toArray) (it := it) (a := a) (i := i) (by simp; omega)) he ⟨hit, p.isList⟩ fun h' eb => ⟨rfl, I.turned (t' := s.toks) (fun b o hb q => eb b o hb q) f0 f1 f3 f4 f5⟩
  case self =>
    rintro A i s Q E ⟨⟨_, he⟩, _⟩ h
    exact wpAny_pyIter_enum he h
/-- T(e, .., k = v, ..) of a built-in class -/
theorem callT_kw {M : Model} {A : Around} {E : Value → Shared → Prop} {s : Shared} {env : Env} {pos : Pos} {T : String} {e : Expr} {rest : List Expr} {kws : List Keyword} {Q : Value → Shared → Prop}
    (h : wpAny M A (spliced (backTo pos (starEach (e :: rest) env))) (fun vs s1 => wpAny M A (evalAll ((backToKw pos (keywordEach kws env)).map (·.2)))
      (fun ks s2 => wpAny M A (call (.type T) vs (((backToKw pos (keywordEach kws env)).filterMap (·.1)).zip ks)) Q E s2) E s1) E s)
    (he : backTo pos (starEach (e :: rest) env) = (false, eval e env) :: backTo pos (starEach rest env)) (hp : (backTo pos (starEach (e :: rest) env)).any (·.1) = false)
    (ha : (backToKw pos (keywordEach kws env)).all (·.1.isSome) = true) (hk : (backToKw pos (keywordEach kws env)).any (·.1.isNone) = false) :
    wpAny M A (callWith pos (.type T) [] (backTo pos (starEach (e :: rest) env)) (backToKw pos (keywordEach kws env))) Q E s := by
  have h2 : wpAny M A (evalArgs (.type T) true (backTo pos (starEach (e :: rest) env)) (backToKw pos (keywordEach kws env))) (fun a s1 => wpAny M A (call (.type T) a.pos a.kw) Q E s1) E s := by
    rw [he] at h ⊢
    exact evalArgs_kwB ha h
  unfold callWith
  refine wpAny_bind (wpAny_holding (wpAny_mono h2 (fun a s1 q1 => ?_) fun _ _ z => z))
  refine wpAny_bind (wpAny_standAt ?_)
  simp only [hp, hk, Bool.or_false]
  refine wpAny_bind (wpAny_pure (wpAny_bind (wpAny_mono q1 (fun r s2 q2 => ?_) fun _ _ z => z)))
  exact wpAny_bind (wpAny_holding (wpAny_point (wpAny_pure q2)))
def iEnumS (K : PySem.W.Frag) (c : Int) (ta : TA) : TI := fun σ H R => ta σ H fun vs H1 => ∃ a xs, vs = [.ref a] ∧ SqL K H1 a xs ∧ R (IteS K a c) H1
theorem pi_enumS {X : Cx} {e : Expr} {ta : TA} {p pos tpos cpos kpos : Pos} {elts : List Expr} {ek cj : Nat} {c : Int} (h0 : -(2 ^ 63) ≤ c) (h1 : c < 2 ^ 63) (hg : Gl X "enumerate") (hm : X.mg "enumerate" = none) (ha : PA X [e] ta)
    (he : backTo pos (starEach [e] X.env) = (false, eval e X.env) :: backTo pos (starEach [] X.env) := by rfl) (hp : (backTo pos (starEach [e] X.env)).any (·.1) = false := by rfl) :
    PI X (.Tuple elts ek tpos) (.Call (.Name "enumerate" p) [e] [⟨some (Str.ofString "start"), .Constant (.int c) cj cpos, kpos⟩] pos) (iEnumS X.K c ta) := by
  refine ⟨fun pins s σ H R I h => ?_⟩
  refine wpAny_Call_Name_kw (ld_blt I hg hm boot_enumerate ?_)
  refine callT_kw (thn (ha.run pos pins s σ H _ I h) fun us s1 ⟨vs, H1, I1, r1, q1⟩ => ?_) he hp rfl rfl
  refine thn ((pk_cons (X := X) (nm := some (Str.ofString "start")) (kpos := kpos) (pe_int (X := X) (i := c) (j := cj) (pos := cpos)) pk_nil).run pos pins s1 σ H1 (fun zs H2 => zs = [V.int c] ∧ H2 = H1) I1 ⟨rfl, rfl⟩) fun ws s2 ⟨zs, H2, I2, r2, e2⟩ => ?_
  obtain ⟨rfl, rfl⟩ := e2
  obtain ⟨a, xs, ex, hq, q⟩ := q1
  subst ex
  obtain ⟨u, rfl, ru⟩ := r1.one
  obtain ⟨wv, rfl, rw'⟩ := r2.one
  cases ru
  obtain ⟨t, rfl⟩ := rw'
  obtain ⟨its, rv, p', hz⟩ := I2.list hq
  refine enum_begins_start (begins_list a its.toArray) p'.isList h0 h1 fun h' he' hit hsz hk => wpAny_pyIter_enum he' ?_
  have hal : a < s2.heap.objs.size := by
    obtain ⟨o, ho, _⟩ := p'.isList
    exact Heap.lt_size ho
  refine ⟨s2.heap.objs.size + 1, [s2.heap.objs.size + 1, s2.heap.objs.size], _, _, H2, rfl, I2.kept (t' := s2.toks) hk, turn_enumS (c := c) a (s2.heap.objs.size + 1) s2.heap.objs.size, ⟨⟨.none, ?_⟩, ⟨_, hit, rfl, rfl⟩, Nat.succ_ne_self _, Nat.ne_of_lt hal, ?_⟩, fun b hb => ?_, q⟩
  · rw [show c + ((0 : Nat) : Int) = c by omega]
    exact he'
  · exact Nat.ne_of_gt (Nat.lt_succ_of_lt hal)
  · have hle : s2.heap.objs.size ≤ b := by
      rcases two_mem hb with rfl | rfl
      · exact Nat.le_succ _
      · exact Nat.le_refl _
    exact I2.fpOk hle (I2.hok.fresh hle)
theorem walk_enumS {K : PySem.W.Frag} {a : Addr} {xs : List V} {c : Int} : Walk (IteS K a c) xs.length (fun H => SqL K H a xs) (YPair (fun i => some (.int (c + (i : Nat)))) (fun i => xs[i]?)) := by
  refine ⟨fun i H hi q => ⟨xs, xs[i], q, List.getElem?_eq_getElem hi⟩, fun H q => ⟨xs, q, Nat.le_refl _⟩, fun i H v H' hi q y => ?_⟩
  obtain ⟨T, x, g1, g2, g3, g4⟩ := y
  exact ⟨T, .int (c + (i : Nat)), x, g1, g2, g3, rfl, g4 xs q⟩
end
end Tg

set_option Elab.async false
set_option linter.all false
set_option maxRecDepth 100000
set_option maxHeartbeats 1000000
namespace Tg
open PySem PySem.Spec PyProof.Rows L2
open Wm02 (Edge Graph)
/-! ### setdefault, its keys tuples -/
section
variable {X : Cx} {pins : List (Addr × Obj)} {σ : L2.St} {H : Hp} {s : Shared} {a b : Addr} {r : Value} {d : V} {k : List Key} {A : Around} {E : Value → Shared → Prop}
theorem d_setdT {kvs : List (List Key × V)} {Q : Value → Shared → Prop} (hu : A.units + 1 < cLine) (I : Inv X pins σ H s) (e : H a = some (.dT kvs)) (eb : H b = some (.tup (k.map kV))) (rd : RelV d r) (hl : kvs.length < sizeLine)
    (h1 : ∀ v, valV kvs k = some v → ∀ (w' : Value) (s' : Shared), Inv X pins σ H s' → RelV v w' → Q w' s') (h2 : valV kvs k = none → ∀ (w' : Value) (s' : Shared), Inv X pins σ (upd H a (.dT (putK kvs k d))) s' → RelV d w' → Q w' s') :
    wpAny (model X.prog X.w) A (call (.builtin "dict.setdefault") [.ref a, .ref b, r]) Q E s := by
  obtain ⟨z, hd, xs, rel, dd⟩ := dt_of I.hok e
  have hz : xs.length ≤ sizeLine := by
    rw [← Paired.length rel]
    exact z
  have hl2 : (putK kvs k d).length ≤ sizeLine := by
    have := length_putK kvs k d
    omega
  refine call_setdefault_heap (hsz := hz) (tupleKind_room_in1 hu) (key_of I.hok eb) hd dd (fun p hp => ?_) (fun hn h' dd' hs => ?_)
  · have q := rel.val k
    rw [hp] at q
    cases q0 : valV kvs k with
    | none =>
      rw [q0] at q
      exact (show False from q).elim
    | some v0 =>
      rw [q0] at q
      exact h1 v0 q0 _ _ (I.tok _) q
  · have q := rel.val k
    rw [hn] at q
    cases q0 : valV kvs k with
    | some v0 =>
      rw [q0] at q
      exact (show False from q).elim
    | none =>
      obtain ⟨q1, es, ep, hq, g2, g3, g4, _, g5⟩ := dd'
      refine h2 q0 _ _ (d_write I (by rw [e]; exact True.intro) hs ⟨q1, hq⟩ ⟨hl2, hd, _, (rel.put k eb rd).keeps fun c ys ec => ?_, q1, es, ep, hq, g2, g3, g4, g5⟩) rd
      rw [upd_ne (ne_of ec e (fun z => nomatch z))]
      exact ec
end
def tDSetdT (td ty tx : TE) : TE := fun σ H Q => td σ H fun x H1 => ∃ a, x = .ref a ∧ IsD H1 a ∧ ty σ H1 fun y H2 => tx σ H2 fun z H3 => ∃ (kvs : List (List Key × V)) (k : List Key) (b : Addr), H3 a = some (.dT kvs) ∧ y = .ref b ∧ H3 b = some (.tup (k.map kV)) ∧ kvs.length < sizeLine ∧
  (∀ v, valV kvs k = some v → Q v H3) ∧ (valV kvs k = none → Q z (upd H3 a (.dT (putK kvs k z))))
section
variable {X : Cx} {o e f : Expr} {td ty tx : TE} {apos cpos : Pos}
theorem pe_dsetdT (hu : X.A.units + 1 < cLine) (ho : PE X o td) (he : PE X e ty) (hf : PE X f tx) (m : M2 X o "setdefault" apos e f cpos) : PE X (.Call (.Attribute o "setdefault" apos) [e, f] [] cpos) (tDSetdT td ty tx) := by
  refine ⟨fun pins s σ H Q I h => ?_⟩
  refine wpAny_Call_method m.base m.few m.line PySem.F.plainAttrs_dict PySem.F.slot_dict_setdefault PySem.F.type_dict_setdefault (thn (ho.run pins s σ H _ I h) fun u s1 ⟨x, H1, I1, rx, a, ex, d, q1⟩ => ?_)
  subst ex
  obtain rfl : u = Value.ref a := rx
  obtain ⟨t1, t2, _⟩ := isD_at I1 d
  refine ⟨t1, t2, ?_⟩
  rw [m.trees]
  refine Calls.callWith_builtin rfl (Calls.evalArgs_plain (Calls.spliced_cons (thn (he.run pins s1 σ H1 _ I1 q1) fun iv s2 ⟨y, H2, I2, ry, q2⟩ =>
    Calls.spliced_cons (thn (hf.run pins s2 σ H2 _ I2 q2) fun fv s3 ⟨z, H3, I3, rz, kvs, k, b, ea, ey, eb, hl, q3, q4⟩ => Calls.spliced_nil ?_))))
  subst ey
  cases (show iv = Value.ref b from ry)
  exact d_setdT hu I3 ea eb rz hl (fun v hv w' s4 I4 rw' => ⟨v, _, I4, rw', q3 v hv⟩) fun hn w' s4 I4 rw' => ⟨z, _, I4, rw', q4 hn⟩
end
/-! ### a display of one pair, its key a tuple -/
def tDisp1T (tk tv : TE) : TE := fun σ H Q => ∀ p, H p = none → tk σ (upd H p (.dT [])) fun x H1 => tv σ H1 fun y H2 => ∃ (k : List Key) (b : Addr), H2 p = some (.dT []) ∧ x = .ref b ∧ H2 b = some (.tup (k.map kV)) ∧ Q (.ref p) (upd H2 p (.dT [(k, y)]))
def one1 (P : V → V → Hp → Prop) : List (V × V) → Hp → Prop
  | [(x, y)], H => P x y H
  | _, _ => False
theorem one1_of {P : V → V → Hp → Prop} : ∀ {ps : List (V × V)} {H : Hp}, one1 P ps H → ∃ x y, ps = [(x, y)] ∧ P x y H
  | [(x, y)], _, h => ⟨x, y, rfl, h⟩
  | [], _, h => h.elim
  | _ :: _ :: _, _, h => h.elim
theorem pe_disp1T {X : Cx} {pos : Pos} {k v : Expr} {tk tv : TE} (hu : X.A.units + 1 < cLine) (hk : PE X k tk) (hv : PE X v tv) : PE X (.Dict [some k] [v] pos) (tDisp1T tk tv) := by
  refine ⟨fun pins s σ H Q I q => ?_⟩
  have hn := I.hok.fresh (Nat.le_refl s.heap.objs.size)
  have I1 := I.laid (a := s.heap.objs.size) (o := .dT []) (h' := s.heap.push { cls := .type "dict", data := .dict #[] }) (t' := s.toks) (fun _ _ q => Heap.get?_push_of_some _ q) (Nat.le_refl _) (dt_empty s.heap I.big)
  have hp : PPs X pos [some k] [v] [(tk, tv)] := pps_cons hk hv pps_nil
  refine wpAny_Dict_any rfl rfl (fun z => nomatch z) (by show 1 ≤ 15; decide) (thn (hp.run pins _ σ _ (one1 fun x y H2 => ∃ (k : List Key) (b : Addr), H2 s.heap.objs.size = some (.dT []) ∧ x = .ref b ∧ H2 b = some (.tup (k.map kV)) ∧ Q (.ref s.heap.objs.size) (upd H2 s.heap.objs.size (.dT [(k, y)]))) I1 (q _ hn)) ?_)
  rintro ws s2 ⟨ps, H2, I2, rel, e⟩
  obtain ⟨x, y, rfl, kk, b, ea, rfl, eb, q2⟩ := one1_of e
  cases rel with
  | @cons p w2 ps2 ws2 h0 t0 =>
    cases t0
    obtain ⟨rx, ry⟩ := h0
    obtain ⟨u1, u2⟩ := w2
    cases (show u1 = Value.ref b from rx)
    obtain ⟨z, hd, xs, rel2, dd⟩ := dt_of I2.hok ea
    cases rel2
    have hu2 : (tupleKind (mixKind X.prog X.w)).room X.A := Nat.lt_of_succ_lt hu
    unfold storeAll
    rw [List.forIn_cons]
    refine wpAny_bind (wpAny_bind (wpAny_dictSet_heap (hsz := Nat.zero_le _) hu2 (key_of I2.hok eb) dd fun h' dd' hs => ?_))
    refine wpAny_pure (wpAny_pure ?_)
    obtain ⟨q1, es, ep, hq, g2, g3, g4, _, g5⟩ := dd'
    refine ⟨.ref s.heap.objs.size, _, d_write (ob := .dT [(kk, y)]) I2 (by rw [ea]; exact True.intro) hs ⟨q1, hq⟩ ⟨by show 1 ≤ sizeLine; decide, hd, _, (KT.put (H := H2) (kvs := []) .nil kk eb ry).keeps fun c ys ec => ?_, q1, es, ep, hq, g2, g3, g4, g5⟩, rfl, q2⟩
    rw [upd_ne (ne_of ec ea (fun z => nomatch z))]
    exact ec
/-! ### lists of numbers, the first difference decides -/
theorem firstLt_map {e r : Nat → Bool} {fin : Bool} (f : Nat → Nat) : ∀ l : List Nat, SeqAt.firstLt e r fin (l.map f) = SeqAt.firstLt (fun j => e (f j)) (fun j => r (f j)) fin l
  | [] => rfl
  | j :: l => by
    show (if e (f j) = true then SeqAt.firstLt e r fin (l.map f) else r (f j)) = if e (f j) = true then SeqAt.firstLt (fun j => e (f j)) (fun j => r (f j)) fin l else r (f j)
    rw [firstLt_map f l]
theorem firstLt_lex : ∀ ns ms : List Nat, SeqAt.firstLt (fun j => decide (ns.getD j 0 = ms.getD j 0)) (fun j => decide (ns.getD j 0 < ms.getD j 0)) (decide (ns.length < ms.length)) (List.range (min ns.length ms.length)) = lexN ns ms
  | [], [] => rfl
  | [], m :: ms => by
    have e : min ([] : List Nat).length (m :: ms).length = 0 := Nat.zero_min _
    rw [e]
    exact decide_eq_true (by show 0 < ms.length + 1; omega)
  | n :: ns, [] => by
    have e : min (n :: ns).length ([] : List Nat).length = 0 := Nat.min_zero _
    rw [e]
    exact decide_eq_false (by show ¬ ns.length + 1 < 0; omega)
  | n :: ns, m :: ms => by
    have e : min (n :: ns).length (m :: ms).length = min ns.length ms.length + 1 := by
      rw [List.length_cons, List.length_cons]
      omega
    rw [e, List.range_succ_eq_map]
    have ih := firstLt_lex ns ms
    show (if decide (n = m) = true then _ else decide (n < m)) = if n = m then lexN ns ms else decide (n < m)
    by_cases c : n = m
    · rw [if_pos (decide_eq_true c), if_pos c, firstLt_map, ← ih]
      have e2 : decide ((n :: ns).length < (m :: ms).length) = decide (ns.length < ms.length) := by
        rw [List.length_cons, List.length_cons]
        exact decide_eq_decide.mpr (by omega)
      rw [e2]
      rfl
    · rw [if_neg (by simpa using c), if_neg c]
def rLtL (K : PySem.W.Frag) : V → V → Hp → VK → Prop := fun x y H Q => ∃ (a b : Addr) (ns ms : List Nat), x = .ref a ∧ y = .ref b ∧ SqL K H a (nv ns) ∧ SqL K H b (nv ms) ∧ Q (.bl (lexN ns ms)) H
theorem vals_at {ns : List Nat} {its : List Value} (r : Vals (nv ns) its) {j : Nat} (h : j < its.toArray.size) : ∃ t, its.toArray[j] = Value.int ((ns.getD j 0 : Nat) : Int) t := by
  have hl := r.length
  rw [nv_len] at hl
  have hj : j < its.length := by simpa using h
  have hjn : j < ns.length := by omega
  have e1 : (nv ns)[j]? = some (iv ns[j]) := get_nv (List.getElem?_eq_getElem hjn)
  obtain ⟨u, hu, ru⟩ := r.get e1
  obtain ⟨t, ht⟩ := (show ∃ t, u = Value.int ((ns[j] : Nat) : Int) t from ru)
  refine ⟨t, ?_⟩
  rw [List.getElem?_eq_getElem hj] at hu
  have e2 : its.toArray[j] = its[j] := by simp
  rw [e2, Option.some.inj hu, ht, List.getD_eq_getElem?_getD, List.getElem?_eq_getElem hjn]
  rfl
section
variable {X : Cx}
theorem op_ltL (hu : X.A.units < cLine) : OpR X (compareOp .Lt) (rLtL X.K) := by
  intro pins s σ H x y v u Q I rx ry h
  obtain ⟨a, b, ns, ms, rfl, rfl, ha, hb, q⟩ := h
  cases rx
  cases ry
  obtain ⟨its, r1, p1, _⟩ := I.list ha
  obtain ⟨its2, r2, p2, _⟩ := I.list hb
  have l1 : its.toArray.size = ns.length := by
    have := r1.length
    rw [nv_len] at this
    rw [List.size_toArray]
    exact this.symm
  have l2 : its2.toArray.size = ms.length := by
    have := r2.length
    rw [nv_len] at this
    rw [List.size_toArray]
    exact this.symm
  have k : SeqAt.RcLt X.A s (.ref a) (.ref b) (SeqAt.firstLt (fun j => decide (ns.getD j 0 = ms.getD j 0)) (fun j => decide (ns.getD j 0 < ms.getD j 0)) (decide (its.toArray.size < its2.toArray.size)) (List.range (min its.toArray.size its2.toArray.size))) := by
    refine SeqAt.RcLt.lists p1.isList p2.isList hu (fun j h1 h2 => ?_) (fun j h1 h2 _ => ?_)
    · obtain ⟨t1, e1⟩ := vals_at r1 h1
      obtain ⟨t2, e2⟩ := vals_at r2 h2
      rw [e1, e2]
      have e3 : decide (ns.getD j 0 = ms.getD j 0) = (((ns.getD j 0 : Nat) : Int) == ((ms.getD j 0 : Nat) : Int)) := by
        by_cases c : ns.getD j 0 = ms.getD j 0
        · rw [c]
          simp
        · rw [decide_eq_false c]
          exact (beq_eq_false_iff_ne.mpr (by omega)).symm
      show SeqAt.EqAt _ _ _ _ (decide (ns.getD j 0 = ms.getD j 0))
      rw [e3]
      exact SeqAt.EqAt.int_int _ _ _ _
    · obtain ⟨t1, e1⟩ := vals_at r1 h1
      obtain ⟨t2, e2⟩ := vals_at r2 h2
      rw [e1, e2]
      have e3 : decide (ns.getD j 0 < ms.getD j 0) = decide (((ns.getD j 0 : Nat) : Int) < ((ms.getD j 0 : Nat) : Int)) := decide_eq_decide.mpr (by omega)
      show SeqAt.RcLt _ _ _ _ (decide (ns.getD j 0 < ms.getD j 0))
      rw [e3]
      exact fun prog w E Q h => HT.rcLt_int _ _ _ _ _ _ prog w E Q h
  rw [l1, l2, firstLt_lex] at k
  exact k X.prog X.w _ _ ⟨.bl (lexN ns ms), H, I, rfl, q⟩
/-! ### xs.extend(t), t a tuple -/
open PySem.AutoSeq1 in
theorem ext_tup (l : Addr) (items : Array Value) (n : Nat) (b : Addr) (items2 : Array Value) (n2 : Nat) (dd : Option Addr) (sl : Array (Option Value)) (hs0 : ¬(!items.isEmpty && Builtin.List.listTooLong (items.size + items2.size)) = true) (hs1 : items.size ≤ sizeLine) (hs2 : items.size + items2.size ≤ sizeLine + 1) :
    Meets (Builtin.«list.extend» ⟨[.ref l, .ref b], []⟩) (fun _ R s => s.heap.get? l = some { cls := .type "list", dict := none, data := .seq items n, slots := #[] } ∧ s.heap.get? b = some { cls := .type "tuple", dict := dd, data := .seq items2 n2, slots := sl } ∧ R (.ok (.ret Value.none)) { s with heap := s.heap.update l (Obj.mapSeq fun x => x ++ items2), toks := s.toks }) :=
  .of_wp fun prog w A R s h => by
    obtain ⟨hp, g, d, tk, os⟩ := s
    obtain ⟨hl, hb, h⟩ := h
    have f1 := idx_int
    have f2 := AutoSeq1.sub_tuple_tuple
    have f3 := AutoSeq1.sub_list_list
    have f4 := AutoSeq1.sub_tuple_list
    have f5 := AutoSeq1.sub_list_tuple
    have hz' : (items ++ items2).size ≤ sizeLine + 1 := by
      rw [Array.size_append]
      exact hs2
    wp_walk using (wpAny_updateSeq hl rfl (hz := hs1) (_hz' := hz')), wpAny_loadPart' hl, wpAny_loadPart' hb
    exact ⟨_, rfl, h⟩
def rExtT (K : PySem.W.Frag) : V → List V → Hp → VK → Prop := fun x vs H Q => ∃ l b xs zs, x = .ref l ∧ vs = [.ref b] ∧ H l = some (.lst xs) ∧ SqT K H b zs ∧ xs.length + zs.length ≤ sizeLine ∧ Q .non (upd H l (.lst (xs ++ zs)))
theorem mt_extT : MtM X "list.extend" (rExtT X.K) := by
  intro pins s σ H x vs v us Q I rx rv h
  obtain ⟨l, b, xs, zs, rfl, rfl, hH, hB, hz, q⟩ := h
  cases rx
  obtain ⟨u, rfl, ru⟩ := rv.one
  cases ru
  obtain ⟨z, its, n, r, hl, e⟩ := I.lstM hH
  obtain ⟨its2, r2, p2, z2⟩ := I.tuple hB
  obtain ⟨⟨cls2, dd2, data2, sl2⟩, e2, hc2, n2, hd2⟩ := p2
  simp only at hc2 hd2
  subst hc2 hd2
  have hl2 := r2.length
  have hsz : its.toArray.size + its2.toArray.size ≤ sizeLine := by
    rw [List.size_toArray, List.size_toArray]
    omega
  have hlong : ¬ (!its.toArray.isEmpty && Builtin.List.listTooLong (its.toArray.size + its2.toArray.size)) = true := by
    rw [notLongL hsz, Bool.and_false]
    exact Bool.false_ne_true
  refine call_meets F.slot_list_extend ⟨_, e, rfl⟩ F.entry_list_extend (F.args_list_extend_2 _ _)
    (ext_tup l its.toArray n b its2.toArray n2 dd2 sl2 hlong (by rw [List.size_toArray]; omega) (by omega)) ⟨e, e2, ?_⟩
  refine ⟨.non, _, I.lset (its' := its ++ its2) hH e (by simp) (r.append r2) ?_, rfl, q⟩
  rw [List.length_append]
  omega
end
end Tg

set_option Elab.async false
set_option linter.all false
set_option maxRecDepth 100000
set_option maxHeartbeats 1000000
namespace Tg
open PySem PySem.Spec PyProof.Rows L2
open Wm02 (Edge Graph)
def topS (i : Nat) : Stmt := PySem.Challenge.pw_takegive_s01_answers.main.body.getD i (.Pass ⟨0, 0, 0, 0⟩)
abbrev sHolders : Stmt := topS 7
abbrev sAddLink : Stmt := topS 8
abbrev sNearLinks : Stmt := topS 9
abbrev sAllLinks : Stmt := topS 10
abbrev sWalk : Stmt := topS 11
abbrev sCanBe : Stmt := topS 12
abbrev sNearOnes : Stmt := topS 13
abbrev sTakers : Stmt := topS 14
abbrev sBringers : Stmt := topS 15
abbrev sCanSteal : Stmt := topS 16
abbrev sFirstRow : Stmt := topS 19
abbrev sFewestE : Stmt := topS 20
def IsI (mg : Str → Option Value) (x : Str) (i : Int) : Prop := ∃ t, mg x = some (.int i t)
theorem pe_ci {X : Cx} {x : Str} {i : Int} {pos : Pos} (h : IsI X.mg x i) (hg : Gl X x := by rfl) (hd : (x == ("__debug__" : Str)) = false := by decide) : PE X (.Name x pos) (tC (.int i)) := by
  obtain ⟨t, ht⟩ := h
  exact pe_glob hg ht ⟨t, rfl⟩ hd
/-- the numbers that reach.py names -/
structure CstR (mg : Str → Option Value) : Prop where
  toTake : IsI mg "TO_TAKE" 0
  toGive : IsI mg "TO_GIVE" 1
  up : IsI mg "UP" 0
  down : IsI mg "DOWN" 1
  start : IsI mg "START" 2
  goal : IsI mg "GOAL" 3
section
variable {P : Program} {w : World} {K : PySem.W.Frag} {mg : Str → Option Value} {base : Heap}
/-! ### holders -/
theorem scHolders : FnScope ["y", "r", "edges", "holder", "held", "right"] ["y", "r", "edges"] (defScope sHolders) := ⟨rfl, rfl, rfl, by decide +kernel, rfl, by decide +kernel, by decide +kernel⟩
def spHolders (K : PySem.W.Frag) : Sp := fun vs H Q _ => ∃ (y r : Nat) (ea : Addr) (E : List Edge), vs = [iv y, iv r, .ref ea] ∧ Eds K H ea E ∧ E.length ≤ 1000 ∧
  ∀ H' p, Same H H' → H p = none → H' p = some (.lst (nv (holdersL y r E))) → Q (.ref p) H'
theorem ok_holders {f : Addr} {fd : FuncData} {k : Nat} (F : Fun K "holders" "holders" sHolders f fd) : FnOk P w K mg base CX0 (k + 1) f fd ["y", "r", "edges"] (spHolders K) := by
  refine F.ok scHolders (fun vs H Q E h => ?_) (fun cdv A outer s H vs Q E hr h => ?_)
  · obtain ⟨y, r, ea, E, rfl, _⟩ := h
    rfl
  · obtain ⟨y, r, ea, Es, rfl, ⟨ts, hs, ht⟩, hlen, q⟩ := h
    refine ⟨_, pss_one (ps_ret
      (pe_lc (own := [("holder", 3), ("held", 4), ("right", 5)]) (g := gTup K 3 (gCons (gName 3) (gCons (gName 4) (gCons (gName 5) gNil)))) (tt := tAnd (tTest (tOp rEq (tVar 4) (tVar 0))) (tTest (tOp rEq (tVar 5) (tVar 1)))) (te := tVar 3) rfl scHolders.nd (pi_list (pv 2))
        (blkOk_by (own := [("holder", 3), ("held", 4), ("right", 5)]) (N := ["y", "r", "edges", "holder", "held", "right"]) (sc := defScope sHolders) (by decide +kernel))
        (fun _ _ _ _ _ => pg_tup rfl (pgs_cons (pg_name (i := 3) scHolders.nd rfl (Or.inl rfl)) (pgs_cons (pg_name (i := 4) scHolders.nd rfl (Or.inl rfl)) (pgs_cons (pg_name (i := 5) scHolders.nd rfl (Or.inl rfl)) pgs_nil))))
        (fun _ _ _ _ _ => pts_one (PW.pt (pw_and (pt_cmpR op_eq (pv 4) (pv 0) (nomark _)) (pw_and1 (pt_cmpR op_eq (pv 5) (pv 1) (nomark _))))))
        (fun _ _ _ _ _ => pv 3))), ?_⟩
    refine ⟨.ref ea, rfl, ea, rfl, ⟨_, hs⟩, fun D nD => ?_⟩
    have s1 : Same H (upd H D (.lst [])) := same_upd nD
    refine lc_list (K := K) (a := ea) (xs := ts) (fun i H' => Same H H' ∧ H' D = some (.lst (nv (holdersL y r (Es.take i))))) ⟨s1, upd_same⟩ (fun i H' _ z => (le_of_same z.1).sqL hs) ?_ ?_
    · rintro i x H' hx ⟨sm, hD⟩
      obtain ⟨e, t, he, rfl, sq⟩ := ht.get hx
      have hm := take_more he
      refine ⟨t, edV e, rfl, (le_of_same sm).sqT sq, rfl, _, _, rfl, _, _, rfl, _, _, rfl, rfl, rfl, ?_⟩
      have stay : ∀ {b : Bool}, (decide (e.dst = y) && decide (e.right = r)) = b → holdersL y r (Es.take (i + 1)) = holdersL y r (Es.take i) ++ if b = true then [e.src] else [] := fun {b} hb => by
        unfold holdersL
        rw [hm, List.filter_append, List.map_append]
        congr 1
        rw [List.filter_cons, hb]
        cases b <;> rfl
      refine ⟨_, rfl, _, rfl, rfl, _, rfl, ite2 (fun c => ?_) (fun c => ?_)⟩
      · have c1 : e.dst = y := iv_inj.mp (of_decide_eq_true c)
        refine ⟨_, rfl, _, rfl, rfl, _, rfl, ite2 (fun c => ?_) (fun c => ?_)⟩
        · have c2 : e.right = r := iv_inj.mp (of_decide_eq_true c)
          refine ⟨_, rfl, _, hD, ?_, ?_⟩
          · rw [nv_len]
            have l1 := holdersL_len y r (Es.take i)
            rw [List.length_take] at l1
            exact small1000 (by omega)
          · refine ⟨fun c o e => ?_, ?_⟩
            · rw [upd_ne (ne_of_none e nD)]
              exact sm _ _ e
            · rw [upd_same, stay (b := true) (by simp [c1, c2]), nv_app]
              rfl
        · have c2 : ¬ e.right = r := fun z => c (decide_eq_true (iv_inj.mpr z))
          refine ⟨sm, ?_⟩
          rw [stay (b := false) (by simp [c2])]
          rw [hD]
          simp
      · have c1 : ¬ e.dst = y := fun z => c (decide_eq_true (iv_inj.mpr z))
        refine iteF ⟨sm, ?_⟩
        rw [stay (b := false) (by simp [c1])]
        rw [hD]
        simp
    · rintro H' ⟨sm, hD⟩
      rw [ht.len, List.take_length] at hD
      exact q H' D sm nD hD
/-! ### links in the heap -/
def pk (p : Pl) : List Key := [Sum.inl (p.1 : Int), Sum.inl (p.2 : Int)]
theorem pk_inj {p q : Pl} : pk p = pk q ↔ p = q := by
  obtain ⟨a, b⟩ := p
  obtain ⟨c, d⟩ := q
  constructor
  · intro h
    have h1 := (List.cons.inj h).1
    have h2 := (List.cons.inj (List.cons.inj h).2).1
    have h1 := Sum.inl.inj h1
    have h2 := Sum.inl.inj h2
    simp only at h1 h2
    rw [show a = c by omega, show b = d by omega]
  · intro h
    rw [h]
def plV (p : Pl) : List V := [iv p.1, iv p.2]
theorem pk_map (p : Pl) : (pk p).map kV = plV p := rfl
def OE (H : Hp) (v : V) : Option Edge → Prop
  | none => v = .non
  | some e => ∃ t, v = .ref t ∧ H t = some (.tup (edV e))
def LkAt (H : Hp) (v : V) (l : Pl × Option Edge) : Prop := ∃ t b u, v = .ref t ∧ H t = some (.tup [.ref b, u]) ∧ H b = some (.tup (plV l.1)) ∧ OE H u l.2
def LkL (H : Hp) (vs : List V) (ls : List (Pl × Option Edge)) : Prop := vs.length = ls.length ∧ ∀ (i : Nat) (v : V), vs[i]? = some v → ∃ l, ls[i]? = some l ∧ LkAt H v l
def KeepT (H H' : Hp) : Prop := ∀ b ys, H b = some (.tup ys) → H' b = some (.tup ys)
theorem KeepT.of_same {H H' : Hp} (s : Same H H') : KeepT H H' := fun b ys h => s _ _ h
theorem KeepT.trans {H H1 H2 : Hp} (a : KeepT H H1) (b : KeepT H1 H2) : KeepT H H2 := fun c ys h => b c ys (a c ys h)
theorem keepT_upd {H : Hp} {c : Addr} {o : HO} (h : ∀ ys, H c ≠ some (.tup ys)) : KeepT H (upd H c o) := fun b ys e => by
  have hn : b ≠ c := fun z => h ys (by rw [← z]; exact e)
  rw [upd_ne hn]
  exact e
theorem KeepT.oe {H H' : Hp} (k : KeepT H H') {v : V} : ∀ {o : Option Edge}, OE H v o → OE H' v o
  | none, h => h
  | some e, ⟨t, h1, h2⟩ => ⟨t, h1, k _ _ h2⟩
theorem KeepT.lkAt {H H' : Hp} (k : KeepT H H') {v : V} {l : Pl × Option Edge} (h : LkAt H v l) : LkAt H' v l := by
  obtain ⟨t, b, u, h1, h2, h3, h4⟩ := h
  exact ⟨t, b, u, h1, k _ _ h2, k _ _ h3, k.oe h4⟩
theorem KeepT.lkL {H H' : Hp} (k : KeepT H H') {vs : List V} {ls : List (Pl × Option Edge)} (h : LkL H vs ls) : LkL H' vs ls := by
  refine ⟨h.1, fun i v hv => ?_⟩
  obtain ⟨l, h1, h2⟩ := h.2 i v hv
  exact ⟨l, h1, k.lkAt h2⟩
theorem lkL_nil {H : Hp} : LkL H [] [] := ⟨rfl, fun i v h => by simp at h⟩
theorem LkL.snoc {H : Hp} {vs : List V} {ls : List (Pl × Option Edge)} {v : V} {l : Pl × Option Edge} (h : LkL H vs ls) (k : LkAt H v l) : LkL H (vs ++ [v]) (ls ++ [l]) := by
  refine ⟨by rw [List.length_append, List.length_append, h.1]; rfl, fun i z hz => ?_⟩
  by_cases c : i < vs.length
  · rw [List.getElem?_append_left c] at hz
    rw [List.getElem?_append_left (by rw [← h.1]; exact c)]
    exact h.2 i z hz
  · rw [List.getElem?_append_right (by omega)] at hz
    rw [List.getElem?_append_right (by rw [← h.1]; omega), ← h.1]
    have e0 : i - vs.length = 0 := by
      have := (List.getElem?_eq_some_iff.mp hz).1
      simp at this
      omega
    rw [e0] at hz ⊢
    cases hz
    exact ⟨l, rfl, k⟩
def fol (L : List Lk) (p : Pl) : List (Pl × Option Edge) := (L.filter fun l => decide (l.1 = p)).map (·.2)
theorem mem_fol {L : List Lk} {p q : Pl} {o : Option Edge} : (q, o) ∈ fol L p ↔ (p, q, o) ∈ L := by
  unfold fol
  rw [List.mem_map]
  constructor
  · rintro ⟨⟨a, b⟩, h, rfl⟩
    rw [List.mem_filter, decide_eq_true_iff] at h
    obtain ⟨h1, h2⟩ := h
    simp only at h2
    rw [← h2]
    exact h1
  · intro h
    exact ⟨_, List.mem_filter.mpr ⟨h, decide_eq_true rfl⟩, rfl⟩
theorem fol_len (L : List Lk) (p : Pl) : (fol L p).length ≤ L.length := by
  unfold fol
  rw [List.length_map]
  exact List.length_filter_le _ _
theorem fol_snoc (L : List Lk) (a b p : Pl) (o : Option Edge) : fol (L ++ [(a, b, o)]) p = fol L p ++ if p = a then [(b, o)] else [] := by
  unfold fol
  rw [List.filter_append, List.map_append]
  congr 1
  rw [List.filter_cons]
  by_cases h : p = a
  · subst h
    rw [if_pos (decide_eq_true rfl), if_pos rfl]
    rfl
  · rw [if_neg (fun z => h (of_decide_eq_true z).symm), if_neg h]
    rfl
/-- a dict of links that is being filled: its lists are new and no two the same -/
structure LM (H0 H : Hp) (d : Addr) (L : List Lk) (kvs : List (List Key × V)) : Prop where
  at_ : H d = some (.dT kvs)
  few : kvs.length ≤ L.length
  val : ∀ p : Pl, (valV kvs (pk p) = none ∧ fol L p = []) ∨ ∃ l vs, valV kvs (pk p) = some (.ref l) ∧ H l = some (.lst vs) ∧ LkL H vs (fol L p) ∧ H0 l = none
  inj : ∀ k k' l, valV kvs (pk k) = some (.ref l) → valV kvs (pk k') = some (.ref l) → k = k'
/-- to be read -/
def LR (H : Hp) (d : Addr) (L : List Lk) : Prop := ∃ kvs : List (List Key × V), H d = some (.dT kvs) ∧ ∀ p : Pl, (valV kvs (pk p) = none ∧ fol L p = []) ∨ ∃ l vs, valV kvs (pk p) = some (.ref l) ∧ H l = some (.lst vs) ∧ LkL H vs (fol L p)
theorem LM.lr {H0 H : Hp} {d : Addr} {L : List Lk} {kvs : List (List Key × V)} (h : LM H0 H d L kvs) : LR H d L := by
  refine ⟨kvs, h.at_, fun p => (h.val p).imp id ?_⟩
  rintro ⟨l, vs, h1, h2, h3, _⟩
  exact ⟨l, vs, h1, h2, h3⟩
theorem LR.same {H H' : Hp} {d : Addr} {L : List Lk} (h : LR H d L) (s : Same H H') : LR H' d L := by
  obtain ⟨kvs, h1, h2⟩ := h
  refine ⟨kvs, s _ _ h1, fun p => (h2 p).imp id ?_⟩
  rintro ⟨l, vs, h1, h2, h3⟩
  exact ⟨l, vs, h1, s _ _ h2, (KeepT.of_same s).lkL h3⟩
theorem LM.same {H0 H H' : Hp} {d : Addr} {L : List Lk} {kvs : List (List Key × V)} (h : LM H0 H d L kvs) (s : Same H H') : LM H0 H' d L kvs := by
  refine ⟨s _ _ h.at_, h.few, fun p => (h.val p).imp id ?_, h.inj⟩
  rintro ⟨l, vs, h1, h2, h3, h4⟩
  exact ⟨l, vs, h1, s _ _ h2, (KeepT.of_same s).lkL h3, h4⟩
theorem lm_nil {H0 H : Hp} {d : Addr} (h : H d = some (.dT [])) : LM H0 H d [] [] := ⟨h, Nat.le_refl _, fun p => .inl ⟨rfl, rfl⟩, fun k k' l e => by cases e⟩
/-! ### add_link -/
theorem scAdd : FnScope ["links", "before", "behind", "edge"] ["links", "before", "behind", "edge"] (defScope sAddLink) := ⟨rfl, rfl, rfl, by decide +kernel, rfl, by decide +kernel, by decide +kernel⟩
def spAdd : Sp := fun vs H Q _ => ∃ (H0 : Hp) (d pa qa : Addr) (p q : Pl) (u : V) (o : Option Edge) (L : List Lk) (kvs : List (List Key × V)), vs = [.ref d, .ref pa, .ref qa, u] ∧ Same H0 H ∧ H0 d = none ∧ LM H0 H d L kvs ∧
  H pa = some (.tup (plV p)) ∧ H qa = some (.tup (plV q)) ∧ OE H u o ∧ L.length ≤ 10000 ∧ ∀ H' kvs', Same H0 H' → LM H0 H' d (L ++ [(p, q, o)]) kvs' → Q .non H'
theorem ok_add {f : Addr} {fd : FuncData} {k : Nat} (F : Fun K "add_link" "add_link" sAddLink f fd) : FnOk P w K mg base CX0 (k + 1) f fd ["links", "before", "behind", "edge"] spAdd := by
  refine F.ok scAdd (fun vs H Q E h => ?_) (fun cdv A outer s H vs Q E hr h => ?_)
  · obtain ⟨H0, d, pa, qa, p, q, u, o, L, kvs, rfl, _⟩ := h
    rfl
  · obtain ⟨H0, d, pa, qa, p, q, u, o, L, kvs, rfl, sm, nd, M, hp, hq, ho, hlen, post⟩ := h
    have hu := hu_of hr
    refine ⟨_, pss_one (ps_expr (pe_bm PySem.F.plainAttrs_list PySem.F.slot_list_append PySem.F.type_list_append mt_append (pe_dsetdT hu (pv 0) (pv 1) (pe_lst pa_nil) ⟨rfl, rfl, rfl, rfl⟩) (pa_cons (pe_tup (pa_cons (pv 2) (pa_cons (pv 3) pa_nil))) pa_nil))), ?_⟩
    refine ⟨_, rfl, d, rfl, .inr ⟨kvs, .inl M.at_⟩, _, rfl, Nat.zero_le _, fun lp nlp => ?_⟩
    have nH0 : H0 lp = none := sm.free nlp
    have hpd : d ≠ lp := ne_of_none M.at_ nlp
    have hsl : kvs.length < sizeLine := lt_line (by have := M.few; omega)
    refine ⟨kvs, pk p, pa, ?_, rfl, ?_, hsl, fun v hv => ?_, fun hv => ?_⟩
    · rw [upd_ne hpd]
      exact M.at_
    · rw [upd_ne (ne_of_none hp nlp)]
      exact hp
    · -- the key is there
      rcases M.val p with ⟨z, _⟩ | ⟨l, vs, hl1, hl2, hl3, hl4⟩
      · rw [z] at hv
        cases hv
      · rw [hl1] at hv
        cases hv
        have hlp : l ≠ lp := ne_of_none hl2 nlp
        have hld : l ≠ d := ne_of hl2 M.at_ (by intro z; cases z)
        have hl2' : (upd H lp (.lst [])) l = some (.lst vs) := by
          rw [upd_ne hlp]
          exact hl2
        refine ⟨.inl ⟨rfl, _, SqL.of hl2'⟩, _, rfl, _, rfl, by show 2 ≤ sizeLine; decide, fun t nt => ?_⟩
        have s2 : Same H (upd H lp (.lst [])) := same_upd nlp
        have s3 : Same H (upd (upd H lp (.lst [])) t (.tup [.ref qa, u])) := s2.trans (same_upd nt)
        have hl3' := s3 _ _ hl2
        have nt0 : H0 t = none := (sm.trans s2).free nt
        refine ⟨l, _, _, rfl, rfl, hl3', ?_, ?_⟩
        · rw [hl3.1]
          have := fol_len L p
          exact lt_line (by omega)
        · have kp : KeepT H (upd (upd (upd H lp (.lst [])) t (.tup [.ref qa, u])) l (.lst (vs ++ [.ref t]))) := (KeepT.of_same s3).trans (keepT_upd fun ys z => by rw [hl3'] at z; cases z)
          have htl : t ≠ l := (ne_of_none hl2' nt).symm
          refine post _ kvs (fun b z hz => ?_) ⟨?_, ?_, fun k => ?_, M.inj⟩
          · rw [upd_ne (ne_of_none hz hl4)]
            exact s3 _ _ (sm _ _ hz)
          · rw [upd_ne hld.symm]
            exact s3 _ _ M.at_
          · have := M.few
            rw [List.length_append]
            omega
          · rw [fol_snoc]
            by_cases ek : k = p
            · subst ek
              rw [if_pos rfl]
              refine .inr ⟨l, _, hl1, upd_same, (kp.lkL hl3).snoc ⟨t, qa, u, rfl, ?_, kp _ _ hq, kp.oe ho⟩, hl4⟩
              rw [upd_ne htl, upd_same]
            · rw [if_neg ek, List.append_nil]
              rcases M.val k with z | ⟨l', vs', g1, g2, g3, g4⟩
              · exact .inl z
              · have hll : l' ≠ l := fun z => ek (M.inj k p l (by rw [← z]; exact g1) hl1)
                refine .inr ⟨l', vs', g1, ?_, kp.lkL g3, g4⟩
                rw [upd_ne hll]
                exact s3 _ _ g2
    · -- a new key
      have hpd' : lp ≠ d := hpd.symm
      have hfe : fol L p = [] := by
        rcases M.val p with z | ⟨l, vs, z, _⟩
        · exact z.2
        · rw [z] at hv
          cases hv
      have h3 : (upd (upd H lp (.lst [])) d (.dT (putK kvs (pk p) (.ref lp)))) lp = some (.lst []) := by
        rw [upd_ne hpd', upd_same]
      refine ⟨.inl ⟨rfl, _, SqL.of h3⟩, _, rfl, _, rfl, by show 2 ≤ sizeLine; decide, fun t nt => ?_⟩
      have s2 : Same H (upd H lp (.lst [])) := same_upd nlp
      have htd : t ≠ d := fun z => by
        rw [z, upd_same] at nt
        cases nt
      have htl : t ≠ lp := fun z => by
        rw [z, h3] at nt
        cases nt
      have ntH : H t = none := by
        rw [upd_ne htd, upd_ne htl] at nt
        exact nt
      have nt0 : H0 t = none := sm.free ntH
      have h4 : (upd (upd (upd H lp (.lst [])) d (.dT (putK kvs (pk p) (.ref lp)))) t (.tup [.ref qa, u])) lp = some (.lst []) := by
        rw [upd_ne (Ne.symm htl)]
        exact h3
      refine ⟨lp, _, _, rfl, rfl, h4, by show 0 < sizeLine; decide, ?_⟩
      · have kp : KeepT H (upd (upd (upd (upd H lp (.lst [])) d (.dT (putK kvs (pk p) (.ref lp)))) t (.tup [.ref qa, u])) lp (.lst ([] ++ [.ref t]))) := by
          intro b ys hb
          have n1 : b ≠ lp := ne_of_none hb nlp
          have n2 : b ≠ t := ne_of_none hb ntH
          have n3 : b ≠ d := ne_of hb M.at_ (by intro z; cases z)
          rw [upd_ne n1, upd_ne n2, upd_ne n3, upd_ne n1]
          exact hb
        have kl : ∀ {l' : Addr} {vs' : List V}, H l' = some (.lst vs') → (upd (upd (upd (upd H lp (.lst [])) d (.dT (putK kvs (pk p) (.ref lp)))) t (.tup [.ref qa, u])) lp (.lst ([] ++ [.ref t]))) l' = some (.lst vs') := by
          intro b ys hb
          have n1 : b ≠ lp := ne_of_none hb nlp
          have n2 : b ≠ t := ne_of_none hb ntH
          have n3 : b ≠ d := ne_of hb M.at_ (by intro z; cases z)
          rw [upd_ne n1, upd_ne n2, upd_ne n3, upd_ne n1]
          exact hb
        refine post _ (putK kvs (pk p) (.ref lp)) (fun b z hz => ?_) ⟨?_, ?_, fun k => ?_, fun k k' l g1 g2 => ?_⟩
        · rw [upd_ne (ne_of_none hz nH0), upd_ne (ne_of_none hz nt0), upd_ne (ne_of_none hz nd), upd_ne (ne_of_none hz nH0)]
          exact sm _ _ hz
        · rw [upd_ne hpd, upd_ne (Ne.symm htd), upd_same]
        · have := length_putK kvs (pk p) (.ref lp)
          have := M.few
          rw [List.length_append]
          show _ ≤ L.length + 1
          omega
        · rw [fol_snoc, valV_put]
          by_cases ek : k = p
          · subst ek
            rw [if_pos rfl, if_pos rfl, hfe]
            refine .inr ⟨lp, _, rfl, upd_same, lkL_nil.snoc ⟨t, qa, u, rfl, ?_, kp _ _ hq, kp.oe ho⟩, nH0⟩
            rw [upd_ne htl, upd_same]
          · rw [if_neg (fun z => ek (pk_inj.mp z)), if_neg ek, List.append_nil]
            rcases M.val k with z | ⟨l', vs', g1, g2, g3, g4⟩
            · exact .inl z
            · exact .inr ⟨l', vs', g1, kl g2, kp.lkL g3, g4⟩
        · rw [valV_put] at g1 g2
          have old : ∀ {j : Pl}, valV kvs (pk j) = some (.ref lp) → False := fun {j} z => by
            rcases M.val j with ⟨z2, _⟩ | ⟨l', vs', z2, z3, _⟩
            · rw [z2] at z
              cases z
            · rw [z2] at z
              cases z
              rw [z3] at nlp
              cases nlp
          by_cases e1 : k = p
          · by_cases e2 : k' = p
            · rw [e1, e2]
            · rw [if_pos (pk_inj.mpr e1)] at g1
              rw [if_neg (fun z => e2 (pk_inj.mp z))] at g2
              cases g1
              exact (old g2).elim
          · rw [if_neg (fun z => e1 (pk_inj.mp z))] at g1
            by_cases e2 : k' = p
            · rw [if_pos (pk_inj.mpr e2)] at g2
              cases g2
              exact (old g1).elim
            · rw [if_neg (fun z => e2 (pk_inj.mp z))] at g2
              exact M.inj k k' l g1 g2
end
end Tg

set_option Elab.async false
set_option linter.all false
set_option maxRecDepth 100000
set_option maxHeartbeats 1000000
namespace Tg
open PySem PySem.Spec PyProof.Rows L2
open Wm02 (Edge Graph)
section
variable {P : Program} {w : World} {K : PySem.W.Frag} {mg : Str → Option Value} {base : Heap}
/-- one more link, by an edge -/
theorem add_edge {H0 H1 : Hp} {d p1 p2 p3 : Addr} {L : List Lk} {kvs : List (List Key × V)} (p q : Pl) (e : Edge) (sm : Same H0 H1) (M : LM H0 H1 d L kvs)
    (n1 : H1 p1 = none) (n2 : (upd H1 p1 (.tup (plV p))) p2 = none) (n3 : (upd (upd H1 p1 (.tup (plV p))) p2 (.tup (plV q))) p3 = none) {H4 : Hp} (hH : H4 = upd (upd (upd H1 p1 (.tup (plV p))) p2 (.tup (plV q))) p3 (.tup (edV e))) :
    Same H0 H4 ∧ LM H0 H4 d L kvs ∧ H4 p1 = some (.tup (plV p)) ∧ H4 p2 = some (.tup (plV q)) ∧ OE H4 (.ref p3) (some e) := by
  have s1 : Same H1 (upd H1 p1 (.tup (plV p))) := same_upd n1
  have s2 : Same (upd H1 p1 (.tup (plV p))) (upd (upd H1 p1 (.tup (plV p))) p2 (.tup (plV q))) := same_upd n2
  have s3 : Same (upd (upd H1 p1 (.tup (plV p))) p2 (.tup (plV q))) (upd (upd (upd H1 p1 (.tup (plV p))) p2 (.tup (plV q))) p3 (.tup (edV e))) := same_upd n3
  rw [hH]
  exact ⟨sm.trans (s1.trans (s2.trans s3)), M.same (s1.trans (s2.trans s3)), s3 _ _ (s2 _ _ upd_same), s3 _ _ upd_same, ⟨p3, rfl, upd_same⟩⟩
/-- one more link, by none -/
theorem add_free {H0 H1 : Hp} {d p1 p2 : Addr} {L : List Lk} {kvs : List (List Key × V)} (p q : Pl) (sm : Same H0 H1) (M : LM H0 H1 d L kvs)
    (n1 : H1 p1 = none) (n2 : (upd H1 p1 (.tup (plV p))) p2 = none) {H4 : Hp} (hH : H4 = upd (upd H1 p1 (.tup (plV p))) p2 (.tup (plV q))) :
    Same H0 H4 ∧ LM H0 H4 d L kvs ∧ H4 p1 = some (.tup (plV p)) ∧ H4 p2 = some (.tup (plV q)) := by
  have s1 : Same H1 (upd H1 p1 (.tup (plV p))) := same_upd n1
  have s2 : Same (upd H1 p1 (.tup (plV p))) (upd (upd H1 p1 (.tup (plV p))) p2 (.tup (plV q))) := same_upd n2
  rw [hH]
  exact ⟨sm.trans (s1.trans s2), M.same (s1.trans s2), s2 _ _ upd_same, upd_same⟩
theorem two_le : 2 ≤ sizeLine := by decide
theorem three_le : 3 ≤ sizeLine := by decide
theorem nearL_part {E : List Edge} {i : Nat} {e : Edge} (h : E[i]? = some e) : (E.take (i + 1)).flatMap edgeLinks = (E.take i).flatMap edgeLinks ++ edgeLinks e := by
  rw [take_more h, List.flatMap_append, List.flatMap_cons, List.flatMap_nil, List.append_nil]
theorem subL_part {S : List Nat} {i s : Nat} (h : S[i]? = some s) : (S.take (i + 1)).flatMap subLinks = (S.take i).flatMap subLinks ++ subLinks s := by
  rw [take_more h, List.flatMap_append, List.flatMap_cons, List.flatMap_nil, List.append_nil]
theorem scNear : FnScope ["subjects", "edges", "links", "x", "y", "r", "subject"] ["subjects", "edges"] (defScope sNearLinks) := ⟨rfl, rfl, rfl, by decide +kernel, rfl, by decide +kernel, by decide +kernel⟩
def spNearL (K : PySem.W.Frag) : Sp := fun vs H Q _ => ∃ (sa ea : Addr) (S : List Nat) (E : List Edge), vs = [.ref sa, .ref ea] ∧ SqL K H sa (nv S) ∧ Eds K H ea E ∧ S.length ≤ 1000 ∧ E.length ≤ 1000 ∧
  ∀ H' d kvs, Same H H' → H d = none → LM H H' d (nearL S E) kvs → Q (.ref d) H'
theorem ok_nearL {f fA : Addr} {fd fdA : FuncData} (F : Fun K "near_links" "near_links" sNearLinks f fd) (FA : Fun K "add_link" "add_link" sAddLink fA fdA) (bA : Binds K fdA ["links", "before", "behind", "edge"] []) (gA : mg "add_link" = some (.ref fA)) (c : CstR mg) :
    FnOk P w K mg base CX0 2 f fd ["subjects", "edges"] (spNearL K) := by
  have GA : FnOk P w K mg base CX0 1 fA fdA ["links", "before", "behind", "edge"] spAdd := ok_add FA
  refine F.ok scNear (fun vs H Q E h => ?_) (fun cdv A outer s H vs Q E hr h => ?_)
  · obtain ⟨sa, ea, S, E, rfl, _⟩ := h
    rfl
  · obtain ⟨sa, ea, S, Es, rfl, hS, ⟨ts, hs, ht⟩, hlS, hlE, q⟩ := h
    have hu := hu_of hr
    refine ⟨_, pss_cons (ps_set (i := 2) scNear.nd rfl (Or.inl rfl) pe_dnewT)
      (pss_cons (ps_for PassesOwn.never rfl (pi_list (pv 1)) (pg_tup rfl (pgs_cons (pg_name (i := 3) scNear.nd rfl (Or.inl rfl)) (pgs_cons (pg_name (i := 4) scNear.nd rfl (Or.inl rfl)) (pgs_cons (pg_name (i := 5) scNear.nd rfl (Or.inl rfl)) pgs_nil))))
        (pss_cons (ps_if (pt_cmpR op_eq (pv 5) (pe_ci c.toTake) (nomark _))
          (pss_cons (ps_expr (pe_call GA hr (by rfl) gA FA.kp bA .nil pass0 (pa_cons (pv 2) (pa_cons (pe_tup (pa_cons (pv 3) (pa_cons (pe_ci c.up) pa_nil))) (pa_cons (pe_tup (pa_cons (pv 4) (pa_cons (pe_ci c.up) pa_nil))) (pa_cons (pe_tup (pa_cons (pv 3) (pa_cons (pv 4) (pa_cons (pv 5) pa_nil)))) pa_nil))))))
          (pss_one (ps_expr (pe_call GA hr (by rfl) gA FA.kp bA .nil pass0 (pa_cons (pv 2) (pa_cons (pe_tup (pa_cons (pv 4) (pa_cons (pe_ci c.down) pa_nil))) (pa_cons (pe_tup (pa_cons (pv 3) (pa_cons (pe_ci c.down) pa_nil))) (pa_cons (pe_tup (pa_cons (pv 3) (pa_cons (pv 4) (pa_cons (pv 5) pa_nil)))) pa_nil)))))))) pss_nil)
        (pss_one (ps_if (pt_cmpR op_eq (pv 5) (pe_ci c.toGive) (nomark _))
          (pss_cons (ps_expr (pe_call GA hr (by rfl) gA FA.kp bA .nil pass0 (pa_cons (pv 2) (pa_cons (pe_tup (pa_cons (pv 3) (pa_cons (pe_ci c.up) pa_nil))) (pa_cons (pe_tup (pa_cons (pv 4) (pa_cons (pe_ci c.down) pa_nil))) (pa_cons (pe_tup (pa_cons (pv 3) (pa_cons (pv 4) (pa_cons (pv 5) pa_nil)))) pa_nil))))))
          (pss_one (ps_expr (pe_call GA hr (by rfl) gA FA.kp bA .nil pass0 (pa_cons (pv 2) (pa_cons (pe_tup (pa_cons (pv 4) (pa_cons (pe_ci c.up) pa_nil))) (pa_cons (pe_tup (pa_cons (pv 3) (pa_cons (pe_ci c.down) pa_nil))) (pa_cons (pe_tup (pa_cons (pv 3) (pa_cons (pv 4) (pa_cons (pv 5) pa_nil)))) pa_nil)))))))) pss_nil))))
      (pss_cons (ps_for PassesOwn.never rfl (pi_list (pv 0)) (pg_name (i := 6) scNear.nd rfl (Or.inl rfl))
        (pss_cons (ps_expr (pe_call GA hr (by rfl) gA FA.kp bA .nil pass0 (pa_cons (pv 2) (pa_cons (pe_tup (pa_cons (pv 6) (pa_cons (pe_ci c.up) pa_nil))) (pa_cons (pe_tup (pa_cons (pv 6) (pa_cons (pe_ci c.down) pa_nil))) (pa_cons pe_non pa_nil))))))
        (pss_one (ps_expr (pe_call GA hr (by rfl) gA FA.kp bA .nil pass0 (pa_cons (pv 2) (pa_cons (pe_tup (pa_cons (pv 6) (pa_cons (pe_ci c.down) pa_nil))) (pa_cons (pe_tup (pa_cons (pv 6) (pa_cons (pe_ci c.up) pa_nil))) (pa_cons pe_non pa_nil)))))))))
      (pss_one (ps_ret (pv 2))))), ?_⟩
    intro d nd
    refine ⟨_, rfl, ea, rfl, ⟨_, (le_of_same (same_upd nd)).sqL hs⟩, for_list (K := K) (a := ea) (xs := ts)
      (fun i σ H' => ∃ (y3 y4 y5 : Option V) (kvs : List (List Key × V)), σ = [some (.ref sa), some (.ref ea), some (.ref d), y3, y4, y5, none] ∧ Same H H' ∧ LM H H' d ((Es.take i).flatMap edgeLinks) kvs)
      ⟨none, none, none, [], rfl, same_upd nd, lm_nil upd_same⟩ (fun i σ H' _ ⟨_, _, _, _, _, s5, _⟩ => (le_of_same s5).sqL hs) ?_ ?_⟩
    · rintro i x σ H1 hx ⟨y3, y4, y5, kvs, rfl, sm, M⟩
      obtain ⟨e, t, he, rfl, sq⟩ := ht.get hx
      have hi : i < Es.length := (List.getElem?_eq_some_iff.mp he).1
      have hmore := nearL_part he
      have hlL : ((Es.take i).flatMap edgeLinks).length ≤ 2 * 1000 := by
        have h1 := flatMap_len edgeLinks_len (Es.take i)
        rw [List.length_take] at h1
        omega
      refine ⟨t, edV e, rfl, (le_of_same sm).sqT sq, rfl, _, _, rfl, _, _, rfl, _, _, rfl, rfl, ?_⟩
      refine ⟨_, rfl, rfl, _, rfl, ite2 (fun c0 => ?_) (fun c0 => ?_)⟩
      · have c0 : e.right = 0 := iv_inj.mp (of_decide_eq_true c0)
        refine ⟨_, rfl, _, rfl, two_le, fun p1 n1 => ⟨_, rfl, two_le, fun p2 n2 => ⟨_, rfl, _, rfl, _, rfl, three_le, fun p3 n3 => ?_⟩⟩⟩
        obtain ⟨f1, f2, f3, f4, f5⟩ := add_edge (e.src, 0) (e.dst, 0) e sm M n1 n2 n3 rfl
        refine ⟨H, d, p1, p2, (e.src, 0), (e.dst, 0), .ref p3, some e, _, _, rfl, f1, nd, f2, f3, f4, f5, (by omega), fun H2 kvs2 sm2 M2 => ?_⟩
        refine ⟨_, rfl, _, rfl, two_le, fun p1 n1 => ⟨_, rfl, two_le, fun p2 n2 => ⟨_, rfl, _, rfl, _, rfl, three_le, fun p3 n3 => ?_⟩⟩⟩
        obtain ⟨f1, f2, f3, f4, f5⟩ := add_edge (e.dst, 1) (e.src, 1) e sm2 M2 n1 n2 n3 rfl
        refine ⟨H, d, p1, p2, (e.dst, 1), (e.src, 1), .ref p3, some e, _, _, rfl, f1, nd, f2, f3, f4, f5, (by rw [List.length_append]; simp only [List.length_cons, List.length_nil]; omega), fun H3 kvs3 sm3 M3 => ?_⟩
        refine ⟨_, rfl, rfl, _, rfl, ite2 (fun c1 => ?_) (fun c1 => ?_)⟩
        · have c1 : e.right = 1 := iv_inj.mp (of_decide_eq_true c1)
          omega
        · refine ⟨_, _, _, kvs3, rfl, sm3, ?_⟩
          rw [hmore]
          have ee : edgeLinks e = [((e.src, 0), (e.dst, 0), some e)] ++ [((e.dst, 1), (e.src, 1), some e)] := by
            unfold edgeLinks
            rw [if_pos c0, if_neg (by omega)]
            rfl
          rw [ee, ← List.append_assoc]
          exact M3
      · have c0 : ¬ e.right = 0 := fun z => c0 (decide_eq_true (iv_inj.mpr z))
        refine ⟨_, rfl, rfl, _, rfl, ite2 (fun c1 => ?_) (fun c1 => ?_)⟩
        · have c1 : e.right = 1 := iv_inj.mp (of_decide_eq_true c1)
          refine ⟨_, rfl, _, rfl, two_le, fun p1 n1 => ⟨_, rfl, two_le, fun p2 n2 => ⟨_, rfl, _, rfl, _, rfl, three_le, fun p3 n3 => ?_⟩⟩⟩
          obtain ⟨f1, f2, f3, f4, f5⟩ := add_edge (e.src, 0) (e.dst, 1) e sm M n1 n2 n3 rfl
          refine ⟨H, d, p1, p2, (e.src, 0), (e.dst, 1), .ref p3, some e, _, _, rfl, f1, nd, f2, f3, f4, f5, (by omega), fun H2 kvs2 sm2 M2 => ?_⟩
          refine ⟨_, rfl, _, rfl, two_le, fun p1 n1 => ⟨_, rfl, two_le, fun p2 n2 => ⟨_, rfl, _, rfl, _, rfl, three_le, fun p3 n3 => ?_⟩⟩⟩
          obtain ⟨f1, f2, f3, f4, f5⟩ := add_edge (e.dst, 0) (e.src, 1) e sm2 M2 n1 n2 n3 rfl
          refine ⟨H, d, p1, p2, (e.dst, 0), (e.src, 1), .ref p3, some e, _, _, rfl, f1, nd, f2, f3, f4, f5, (by rw [List.length_append]; simp only [List.length_cons, List.length_nil]; omega), fun H3 kvs3 sm3 M3 => ?_⟩
          refine ⟨_, _, _, kvs3, rfl, sm3, ?_⟩
          rw [hmore]
          have ee : edgeLinks e = [((e.src, 0), (e.dst, 1), some e)] ++ [((e.dst, 0), (e.src, 1), some e)] := by
            unfold edgeLinks
            rw [if_neg c0, if_pos c1]
            rfl
          rw [ee, ← List.append_assoc]
          exact M3
        · have c1 : ¬ e.right = 1 := fun z => c1 (decide_eq_true (iv_inj.mpr z))
          refine ⟨_, _, _, kvs, rfl, sm, ?_⟩
          rw [hmore]
          have ee : edgeLinks e = [] := by
            unfold edgeLinks
            rw [if_neg c0, if_neg c1]
            rfl
          rw [ee, List.append_nil]
          exact M
    · rintro σ H1 ⟨y3, y4, y5, kvs, rfl, sm, M⟩
      rw [ht.len, List.take_length] at M
      have hlE2 : (Es.flatMap edgeLinks).length ≤ 2000 := by
        have h1 := flatMap_len edgeLinks_len Es
        omega
      refine ⟨_, rfl, sa, rfl, ⟨_, (le_of_same sm).sqL hS⟩, for_list (K := K) (a := sa) (xs := nv S)
        (fun i σ H' => ∃ (y6 : Option V) (kvs : List (List Key × V)), σ = [some (.ref sa), some (.ref ea), some (.ref d), y3, y4, y5, y6] ∧ Same H H' ∧ LM H H' d (Es.flatMap edgeLinks ++ (S.take i).flatMap subLinks) kvs)
        ⟨none, kvs, rfl, sm, by rw [List.take_zero, List.flatMap_nil, List.append_nil]; exact M⟩ (fun i σ H' _ ⟨_, _, _, s5, _⟩ => (le_of_same s5).sqL hS) ?_ ?_⟩
      · rintro i x σ H2 hx ⟨y6, kvs2, rfl, sm2, M2⟩
        obtain ⟨n, hn, rfl⟩ := nv_get hx
        have hi : i < S.length := (List.getElem?_eq_some_iff.mp hn).1
        have hlL : (Es.flatMap edgeLinks ++ (S.take i).flatMap subLinks).length ≤ 4000 := by
          have h1 := flatMap_len (f := subLinks) (k := 2) (fun _ => Nat.le_refl _) (S.take i)
          rw [List.length_take] at h1
          rw [List.length_append]
          omega
        refine ⟨_, rfl, _, rfl, two_le, fun p1 n1 => ⟨_, rfl, two_le, fun p2 n2 => ?_⟩⟩
        obtain ⟨f1, f2, f3, f4⟩ := add_free (n, 0) (n, 1) sm2 M2 n1 n2 rfl
        refine ⟨H, d, p1, p2, (n, 0), (n, 1), .non, none, _, _, rfl, f1, nd, f2, f3, f4, rfl, (by omega), fun H3 kvs3 sm3 M3 => ?_⟩
        refine ⟨_, rfl, _, rfl, two_le, fun p1 n1 => ⟨_, rfl, two_le, fun p2 n2 => ?_⟩⟩
        obtain ⟨f1, f2, f3, f4⟩ := add_free (n, 1) (n, 0) sm3 M3 n1 n2 rfl
        refine ⟨H, d, p1, p2, (n, 1), (n, 0), .non, none, _, _, rfl, f1, nd, f2, f3, f4, rfl, (by rw [List.length_append]; simp only [List.length_cons, List.length_nil]; omega), fun H4 kvs4 sm4 M4 => ?_⟩
        refine ⟨_, kvs4, rfl, sm4, ?_⟩
        rw [subL_part hn, ← List.append_assoc]
        have ee : subLinks n = [((n, 0), (n, 1), none)] ++ [((n, 1), (n, 0), none)] := rfl
        rw [ee, ← List.append_assoc]
        exact M4
      · rintro σ H2 ⟨y6, kvs2, rfl, sm2, M2⟩
        rw [nv_len, List.take_length] at M2
        exact ⟨_, rfl, q H2 d kvs2 sm2 nd M2⟩
end
end Tg

set_option Elab.async false
set_option linter.all false
set_option maxRecDepth 100000
set_option maxHeartbeats 1000000
namespace Tg
open PySem PySem.Spec PyProof.Rows L2
open Wm02 (Edge Graph)
section
variable {P : Program} {w : World} {K : PySem.W.Frag} {mg : Str → Option Value} {base : Heap}
theorem LM.onto {H0 H1 H2 : Hp} {d p : Addr} {o : HO} {L : List Lk} {kvs : List (List Key × V)} (h : LM H0 H1 d L kvs) (np : H1 p = none) (s : Same H1 H2) : LM (upd H0 p o) H2 d L kvs := by
  refine ⟨s _ _ h.at_, h.few, fun q => (h.val q).imp id ?_, h.inj⟩
  rintro ⟨l, vs, h1, h2, h3, h4⟩
  refine ⟨l, vs, h1, s _ _ h2, (KeepT.of_same s).lkL h3, ?_⟩
  rw [upd_ne (ne_of_none h2 np)]
  exact h4
theorem LM.back {H0 H1 : Hp} {d p : Addr} {o : HO} {L : List Lk} {kvs : List (List Key × V)} (h : LM (upd H0 p o) H1 d L kvs) : LM H0 H1 d L kvs := by
  refine ⟨h.at_, h.few, fun q => (h.val q).imp id ?_, h.inj⟩
  rintro ⟨l, vs, h1, h2, h3, h4⟩
  refine ⟨l, vs, h1, h2, h3, ?_⟩
  have hn : l ≠ p := fun z => by
    rw [z, upd_same] at h4
    cases h4
  rw [upd_ne hn] at h4
  exact h4
theorem same_base {H0 H1 : Hp} {p : Addr} {o : HO} (s : Same H0 H1) (hp : H1 p = some o) : Same (upd H0 p o) H1 := fun b u e => by
  by_cases z : b = p
  · subst z
    rw [upd_same] at e
    rw [hp]
    exact e
  · rw [upd_ne z] at e
    exact s _ _ e
theorem scAll : FnScope ["r", "x", "y", "subjects", "edges", "links", "giver", "owner"] ["r", "x", "y", "subjects", "edges"] (defScope sAllLinks) := ⟨rfl, rfl, rfl, by decide +kernel, rfl, by decide +kernel, by decide +kernel⟩
def spAllL (K : PySem.W.Frag) : Sp := fun vs H Q _ => ∃ (r x y : Nat) (sa ea : Addr) (S : List Nat) (E : List Edge), vs = [iv r, iv x, iv y, .ref sa, .ref ea] ∧ SqL K H sa (nv S) ∧ Eds K H ea E ∧ S.length ≤ 1000 ∧ E.length ≤ 1000 ∧
  ∀ H' d, Same H H' → LR H' d (allL r x y S E) → Q (.ref d) H'
theorem ok_allL {f fN fA fO : Addr} {fd fdN fdA fdO : FuncData} (F : Fun K "all_links" "all_links" sAllLinks f fd) (FN : Fun K "near_links" "near_links" sNearLinks fN fdN) (bN : Binds K fdN ["subjects", "edges"] []) (gN : mg "near_links" = some (.ref fN))
    (FA : Fun K "add_link" "add_link" sAddLink fA fdA) (bA : Binds K fdA ["links", "before", "behind", "edge"] []) (gA : mg "add_link" = some (.ref fA))
    (FO : Fun K "holders" "holders" sHolders fO fdO) (bO : Binds K fdO ["y", "r", "edges"] []) (gO : mg "holders" = some (.ref fO)) (c : CstR mg) :
    FnOk P w K mg base CX0 3 f fd ["r", "x", "y", "subjects", "edges"] (spAllL K) := by
  have GA : FnOk P w K mg base CX0 2 fA fdA ["links", "before", "behind", "edge"] spAdd := ok_add FA
  have GO : FnOk P w K mg base CX0 2 fO fdO ["y", "r", "edges"] (spHolders K) := ok_holders FO
  have GN : FnOk P w K mg base CX0 2 fN fdN ["subjects", "edges"] (spNearL K) := ok_nearL FN FA bA gA c
  refine F.ok scAll (fun vs H Q E h => ?_) (fun cdv A outer s H vs Q E hr h => ?_)
  · obtain ⟨r, x, y, sa, ea, S, E, rfl, _⟩ := h
    rfl
  · obtain ⟨r, x, y, sa, ea, S, Es, rfl, hS, hE, hlS, hlE, q⟩ := h
    have hu := hu_of hr
    refine ⟨_, pss_cons (ps_set (i := 5) scAll.nd rfl (Or.inl rfl) (pe_call GN hr (by rfl) gN FN.kp bN .nil pass0 (pa_cons (pv 3) (pa_cons (pv 4) pa_nil))))
      (pss_cons (ps_if (pt_cmpR op_in_seq (pv 1) (pv 3) (by with_unfolding_all rfl))
        (pss_one (ps_expr (pe_call GA hr (by rfl) gA FA.kp bA .nil pass0 (pa_cons (pv 5) (pa_cons (pe_tup (pa_cons (pv 1) (pa_cons (pe_ci c.start) pa_nil))) (pa_cons (pe_tup (pa_cons (pv 1) (pa_cons (pe_ci c.up) pa_nil))) (pa_cons pe_non pa_nil))))))) pss_nil)
      (pss_cons (ps_for PassesOwn.never rfl (pi_list (pe_call GO hr (by rfl) gO FO.kp bO .nil pass0 (pa_cons (pv 1) (pa_cons (pe_ci c.toGive) (pa_cons (pv 4) pa_nil))))) (pg_name (i := 6) scAll.nd rfl (Or.inl rfl))
        (pss_one (ps_expr (pe_call GA hr (by rfl) gA FA.kp bA .nil pass0 (pa_cons (pv 5) (pa_cons (pe_tup (pa_cons (pv 1) (pa_cons (pe_ci c.start) pa_nil))) (pa_cons (pe_tup (pa_cons (pv 6) (pa_cons (pe_ci c.down) pa_nil))) (pa_cons (pe_tup (pa_cons (pv 6) (pa_cons (pv 1) (pa_cons (pe_ci c.toGive) pa_nil)))) pa_nil))))))))
      (pss_cons (ps_for PassesOwn.never rfl (pi_list (pe_call GO hr (by rfl) gO FO.kp bO .nil pass0 (pa_cons (pv 2) (pa_cons (pv 0) (pa_cons (pv 4) pa_nil))))) (pg_name (i := 7) scAll.nd rfl (Or.inl rfl))
        (pss_cons (ps_expr (pe_call GA hr (by rfl) gA FA.kp bA .nil pass0 (pa_cons (pv 5) (pa_cons (pe_tup (pa_cons (pv 7) (pa_cons (pe_ci c.up) pa_nil))) (pa_cons (pe_tup (pa_cons (pv 2) (pa_cons (pe_ci c.goal) pa_nil))) (pa_cons (pe_tup (pa_cons (pv 7) (pa_cons (pv 2) (pa_cons (pv 0) pa_nil)))) pa_nil))))))
        (pss_one (ps_expr (pe_call GA hr (by rfl) gA FA.kp bA .nil pass0 (pa_cons (pv 5) (pa_cons (pe_tup (pa_cons (pv 7) (pa_cons (pe_ci c.start) pa_nil))) (pa_cons (pe_tup (pa_cons (pv 2) (pa_cons (pe_ci c.goal) pa_nil))) (pa_cons (pe_tup (pa_cons (pv 7) (pa_cons (pv 2) (pa_cons (pv 0) pa_nil)))) pa_nil)))))))))
      (pss_one (ps_ret (pv 5)))))), ?_⟩
    refine ⟨_, rfl, _, rfl, sa, ea, S, Es, rfl, hS, hE, hlS, hlE, fun H1 d kvs s1 nd M => ?_⟩
    have hl1 := nearL_len S Es
    have hlg := holdersL_len x 1 Es
    have hlo := holdersL_len y r Es
    have hst : (startL x S).length ≤ 1 := by
      unfold startL
      split <;> simp
    refine ⟨_, rfl, _, rfl, sa, nv S, rfl, .inl ((le_of_same s1).sqL hS), rfl, nv_flat S, _, rfl, ?_⟩
    show if inV (iv x) (nv S) = true then _ else _
    rw [inV_nv]
    refine ite2 (fun c0 => ?a) (fun c0 => ?b)
    case' a =>
      have hx : x ∈ S := by simpa using c0
      refine ⟨_, rfl, _, rfl, two_le, fun p1 n1 => ⟨_, rfl, two_le, fun p2 n2 => ?_⟩⟩
      obtain ⟨f1, f2, f3, f4⟩ := add_free (x, 2) (x, 0) s1 M n1 n2 rfl
      refine ⟨H, d, p1, p2, (x, 2), (x, 0), .non, none, _, _, rfl, f1, nd, f2, f3, f4, rfl, by omega, fun H2 kvs2 s2 M2 => ?_⟩
      have e2 : startL x S = [((x, 2), (x, 0), none)] := if_pos hx
      rw [← e2] at M2
      clear f1 f2 f3 f4 n1 n2 p1 p2 e2 hx M s1 c0
    case' b =>
      have hx : ¬ x ∈ S := by simpa using c0
      have e2 : startL x S = [] := if_neg hx
      obtain ⟨H2, kvs2, s2, M2, eH⟩ : ∃ H2 kvs2, Same H H2 ∧ LM H H2 d (nearL S Es ++ startL x S) kvs2 ∧ H1 = H2 := ⟨H1, kvs, s1, by rw [e2, List.append_nil]; exact M, rfl⟩
      subst eH
      clear e2 hx c0
    all_goals
      have hl2 : (nearL S Es ++ startL x S).length ≤ 4001 := by
        rw [List.length_append]
        omega
      -- for giver in holders(x, TO_GIVE, edges)
      refine ⟨_, rfl, _, rfl, x, 1, ea, Es, rfl, (le_of_same s2).eds hE, hlE, fun H3 ga s3 nga hga => ?_⟩
      refine ⟨ga, rfl, ⟨_, SqL.of hga⟩, for_list (K := K) (a := ga) (xs := nv (holdersL x 1 Es))
        (fun i σ H' => ∃ (y6 : Option V) (kvs : List (List Key × V)), σ = [some (iv r), some (iv x), some (iv y), some (.ref sa), some (.ref ea), some (.ref d), y6, none] ∧ Same (upd H ga (.lst (nv (holdersL x 1 Es)))) H' ∧ LM (upd H ga (.lst (nv (holdersL x 1 Es)))) H' d (nearL S Es ++ startL x S ++ ((holdersL x 1 Es).take i).map (giveLk x)) kvs)
        ⟨none, kvs2, rfl, same_base (s2.trans s3) hga, by rw [List.take_zero, List.map_nil, List.append_nil]; exact M2.onto nga s3⟩ (fun i σ H' _ ⟨_, _, _, s5, _⟩ => SqL.of (s5 _ _ upd_same)) ?_ ?_⟩
      · rintro i z σ H4 hz ⟨y6, kvs4, rfl, s4, M4⟩
        obtain ⟨n, hn, rfl⟩ := nv_get hz
        have hi : i < (holdersL x 1 Es).length := (List.getElem?_eq_some_iff.mp hn).1
        have nd4 : (upd H ga (.lst (nv (holdersL x 1 Es)))) d = none := by
          rw [upd_ne (ne_of_none M2.at_ nga)]
          exact nd
        refine ⟨_, rfl, _, rfl, two_le, fun p1 n1 => ⟨_, rfl, two_le, fun p2 n2 => ⟨_, rfl, _, rfl, three_le, fun p3 n3 => ?_⟩⟩⟩
        obtain ⟨f1, f2, f3, f4, f5⟩ := add_edge (x, 2) (n, 1) ⟨n, x, 1⟩ s4 M4 n1 n2 n3 rfl
        refine ⟨_, d, p1, p2, (x, 2), (n, 1), .ref p3, some ⟨n, x, 1⟩, _, _, rfl, f1, nd4, f2, f3, f4, f5, ?_, fun H5 kvs5 s5 M5 => ?_⟩
        · rw [List.length_append, List.length_map, List.length_take]
          omega
        · refine ⟨_, kvs5, rfl, s5, ?_⟩
          rw [take_more hn, List.map_append, ← List.append_assoc]
          exact M5
      · rintro σ H4 ⟨y6, kvs4, rfl, s4, M4⟩
        rw [nv_len, List.take_length] at M4
        have M4 := M4.back
        have s4 : Same H H4 := (same_upd (s2.free nga)).trans s4
        have hl4 : (nearL S Es ++ startL x S ++ (holdersL x 1 Es).map (giveLk x)).length ≤ 5001 := by
          rw [List.length_append, List.length_map]
          omega
        refine ⟨_, rfl, _, rfl, _, rfl, y, r, ea, Es, rfl, (le_of_same s4).eds hE, hlE, fun H5 oa s5 noa hoa => ?_⟩
        refine ⟨oa, rfl, ⟨_, SqL.of hoa⟩, for_list (K := K) (a := oa) (xs := nv (holdersL y r Es))
          (fun i σ H' => ∃ (y7 : Option V) (kvs : List (List Key × V)), σ = [some (iv r), some (iv x), some (iv y), some (.ref sa), some (.ref ea), some (.ref d), y6, y7] ∧ Same (upd H oa (.lst (nv (holdersL y r Es)))) H' ∧ LM (upd H oa (.lst (nv (holdersL y r Es)))) H' d (nearL S Es ++ startL x S ++ (holdersL x 1 Es).map (giveLk x) ++ ((holdersL y r Es).take i).flatMap (goalLks r y)) kvs)
          ⟨none, kvs4, rfl, same_base (s4.trans s5) hoa, by rw [List.take_zero, List.flatMap_nil, List.append_nil]; exact M4.onto noa s5⟩ (fun i σ H' _ ⟨_, _, _, s6, _⟩ => SqL.of (s6 _ _ upd_same)) ?_ ?_⟩
        · rintro i z σ H6 hz ⟨y7, kvs6, rfl, s6, M6⟩
          obtain ⟨n, hn, rfl⟩ := nv_get hz
          have hi : i < (holdersL y r Es).length := (List.getElem?_eq_some_iff.mp hn).1
          have nd6 : (upd H oa (.lst (nv (holdersL y r Es)))) d = none := by
            rw [upd_ne (ne_of_none M4.at_ noa)]
            exact nd
          have hl6 : (nearL S Es ++ startL x S ++ (holdersL x 1 Es).map (giveLk x) ++ ((holdersL y r Es).take i).flatMap (goalLks r y)).length ≤ 8000 := by
            have h1 := flatMap_len (f := goalLks r y) (k := 2) (fun _ => Nat.le_refl _) ((holdersL y r Es).take i)
            rw [List.length_take] at h1
            rw [List.length_append]
            omega
          refine ⟨_, rfl, _, rfl, two_le, fun p1 n1 => ⟨_, rfl, two_le, fun p2 n2 => ⟨_, rfl, _, rfl, _, rfl, three_le, fun p3 n3 => ?_⟩⟩⟩
          obtain ⟨f1, f2, f3, f4, f5⟩ := add_edge (n, 0) (y, 3) ⟨n, y, r⟩ s6 M6 n1 n2 n3 rfl
          refine ⟨_, d, p1, p2, (n, 0), (y, 3), .ref p3, some ⟨n, y, r⟩, _, _, rfl, f1, nd6, f2, f3, f4, f5, by omega, fun H7 kvs7 s7 M7 => ?_⟩
          refine ⟨_, rfl, _, rfl, two_le, fun p1 n1 => ⟨_, rfl, two_le, fun p2 n2 => ⟨_, rfl, _, rfl, _, rfl, three_le, fun p3 n3 => ?_⟩⟩⟩
          obtain ⟨f1, f2, f3, f4, f5⟩ := add_edge (n, 2) (y, 3) ⟨n, y, r⟩ s7 M7 n1 n2 n3 rfl
          refine ⟨_, d, p1, p2, (n, 2), (y, 3), .ref p3, some ⟨n, y, r⟩, _, _, rfl, f1, nd6, f2, f3, f4, f5, ?_, fun H8 kvs8 s8 M8 => ?_⟩
          · rw [List.length_append]
            simp only [List.length_cons, List.length_nil]
            omega
          · refine ⟨_, kvs8, rfl, s8, ?_⟩
            have ee : ((holdersL y r Es).take (i + 1)).flatMap (goalLks r y) = ((holdersL y r Es).take i).flatMap (goalLks r y) ++ ([((n, 0), (y, 3), some ⟨n, y, r⟩)] ++ [((n, 2), (y, 3), some ⟨n, y, r⟩)]) := by
              rw [take_more hn, List.flatMap_append, List.flatMap_cons, List.flatMap_nil, List.append_nil]
              rfl
            rw [ee, ← List.append_assoc, ← List.append_assoc]
            exact M8
        · rintro σ H6 ⟨y7, kvs6, rfl, s6, M6⟩
          rw [nv_len, List.take_length] at M6
          exact ⟨_, rfl, q H6 d ((same_upd (s4.free noa)).trans s6) M6.lr⟩
end
end Tg

set_option Elab.async false
set_option linter.all false
set_option maxRecDepth 100000
set_option maxHeartbeats 1000000
namespace Tg
open PySem PySem.Spec PyProof.Rows L2
open Wm02 (Edge Graph)
noncomputable def pB (p : Prop) : Bool := @decide p (Classical.propDecidable p)
theorem pB_iff {p : Prop} : pB p = true ↔ p := @decide_eq_true_iff p (Classical.propDecidable p)
theorem pB_of {p : Prop} {b : Bool} (h : b = true ↔ p) : pB p = b := by
  cases b with
  | true => exact pB_iff.mpr (h.mp rfl)
  | false =>
    rw [Bool.eq_false_iff]
    intro z
    exact Bool.false_ne_true (h.mpr (pB_iff.mp z))
theorem pB_congr {p q : Prop} (h : p ↔ q) : pB p = pB q := pB_of (pB_iff.trans h.symm)
theorem u65 {A : Around} {k : Nat} (hr : Room k A) : A.units + 65 < cLine := by
  have := hr.un
  omega
section
variable {P : Program} {w : World} {K : PySem.W.Frag} {mg : Str → Option Value} {base : Heap}
/-! ### places in the heap -/
def PlL (H : Hp) (vs : List V) (l : List Pl) : Prop := vs.length = l.length ∧ ∀ (i : Nat) (v : V), vs[i]? = some v → ∃ p t, l[i]? = some p ∧ v = .ref t ∧ H t = some (.tup (plV p))
theorem KeepT.plL {H H' : Hp} (k : KeepT H H') {vs : List V} {l : List Pl} (h : PlL H vs l) : PlL H' vs l := by
  refine ⟨h.1, fun i v hv => ?_⟩
  obtain ⟨p, t, h1, h2, h3⟩ := h.2 i v hv
  exact ⟨p, t, h1, h2, k _ _ h3⟩
theorem PlL.snoc {H : Hp} {vs : List V} {l : List Pl} {t : Addr} {p : Pl} (h : PlL H vs l) (k : H t = some (.tup (plV p))) : PlL H (vs ++ [.ref t]) (l ++ [p]) := by
  refine ⟨by rw [List.length_append, List.length_append, h.1]; rfl, fun i z hz => ?_⟩
  by_cases c : i < vs.length
  · rw [List.getElem?_append_left c] at hz
    rw [List.getElem?_append_left (by rw [← h.1]; exact c)]
    exact h.2 i z hz
  · rw [List.getElem?_append_right (by omega)] at hz
    rw [List.getElem?_append_right (by rw [← h.1]; omega), ← h.1]
    have e0 : i - vs.length = 0 := by
      have := (List.getElem?_eq_some_iff.mp hz).1
      simp at this
      omega
    rw [e0] at hz ⊢
    cases hz
    exact ⟨p, t, rfl, rfl, k⟩
def KeepR (H H' : Hp) : Prop := ∀ b xs, Rd H b (.tup xs) → Rd H' b (.tup xs)
theorem KeepR.of_same {H H' : Hp} (s : Same H H') : KeepR H H' := fun b xs h => le_of_same s _ _ h
theorem KeepR.trans {H H1 H2 : Hp} (a : KeepR H H1) (b : KeepR H1 H2) : KeepR H H2 := fun c ys h => b c ys (a c ys h)
theorem keepR_lst {H : Hp} {c : Addr} {o : HO} {vs : List V} (h : H c = some (.lst vs)) : KeepR H (upd H c o) := fun b ys e => by
  rcases e with e | ⟨u, e⟩
  · exact .inl (by rw [upd_ne (ne_of e h (by intro z; cases z))]; exact e)
  · exact .inr ⟨u, by rw [upd_ne (ne_of e h (by intro z; cases z))]; exact e⟩
theorem keepR_dT {H : Hp} {c : Addr} {o : HO} {kvs : List (List Key × V)} (h : H c = some (.dT kvs)) : KeepR H (upd H c o) := fun b ys e => by
  rcases e with e | ⟨u, e⟩
  · exact .inl (by rw [upd_ne (ne_of e h (by intro z; cases z))]; exact e)
  · exact .inr ⟨u, by rw [upd_ne (ne_of e h (by intro z; cases z))]; exact e⟩
theorem KeepR.tups {H H' : Hp} (l : KeepR H H') : ∀ {ts : List V} {E : List Edge}, Tups K H ts E → Tups K H' ts E
  | [], [], _ => .nil
  | [], _ :: _, h => by
    have h : DpAll K H [] (_ :: _) := h
    cases h
  | _ :: _, [], h => by
    have h : DpAll K H (_ :: _) [] := h
    cases h
  | t :: ts, e :: E, h => by
    have h : DpAll K H (t :: ts) (edD e :: E.map edD) := h
    cases h with
    | cons h1 h2 =>
      obtain ⟨b, rfl, sq⟩ := dp_edge h1
      have h3 : Tups K H ts E := h2
      exact .cons (dp_edge_of (sq.imp (l _ _) id)) (KeepR.tups l h3)
theorem dgetP {H : Hp} {a b : Addr} {p : Pl} {kvs : List (List Key × V)} (h : H a = some (.dT kvs)) (k : H b = some (.tup (plV p))) : DGet H a (.ref b) (valV kvs (pk p)) := DGet.t (k := pk p) h k
theorem dputP {H : Hp} {a b : Addr} {p : Pl} {v : V} {kvs : List (List Key × V)} (h : H a = some (.dT kvs)) (k : H b = some (.tup (plV p))) (hl : kvs.length < sizeLine) : DPut H a (.ref b) v (upd H a (.dT (putK kvs (pk p) v))) := DPut.t (k := pk p) h k hl
/-! ### the walk's state -/
def WVal (K : PySem.W.Frag) (H : Hp) (L : List Lk) (G : List Edge) (s : Pl) (wl : Addr) (n : Nat) (p : Pl) (v : Option V) : Prop := ∃ a ts W, v = some (.ref a) ∧ a ≠ wl ∧ H a = some (.lst ts) ∧ Tups K H ts W ∧ Way L G s p W ∧ W.length ≤ n
structure WS (K : PySem.W.Frag) (H : Hp) (L : List Lk) (G : List Edge) (s : Pl) (wd wl : Addr) (l : List Pl) (kvs : List (List Key × V)) (vs : List V) : Prop where
  lst : H wl = some (.lst vs)
  pls : PlL H vs l
  dict : H wd = some (.dT kvs)
  few : kvs.length ≤ l.length
  val : ∀ p, (valV kvs (pk p) = none ∧ p ∉ l) ∨ (p ∈ l ∧ WVal K H L G s wl l.length p (valV kvs (pk p)))
  nd : l.Nodup
  sub : ∀ p ∈ l, p ∈ s :: L.map (·.2.1)
  st : s ∈ l
theorem WS.same {H H' : Hp} {L : List Lk} {G : List Edge} {s : Pl} {wd wl : Addr} {l : List Pl} {kvs : List (List Key × V)} {vs : List V} (h : WS K H L G s wd wl l kvs vs) (sm : Same H H') : WS K H' L G s wd wl l kvs vs := by
  refine ⟨sm _ _ h.lst, (KeepT.of_same sm).plL h.pls, sm _ _ h.dict, h.few, fun p => (h.val p).imp id ?_, h.nd, h.sub, h.st⟩
  rintro ⟨h1, a, ts, W, h2, h3, h4, h5, h6, h7⟩
  exact ⟨h1, a, ts, W, h2, h3, sm _ _ h4, (KeepR.of_same sm).tups h5, h6, h7⟩
theorem WS.len {H : Hp} {L : List Lk} {G : List Edge} {s : Pl} {wd wl : Addr} {l : List Pl} {kvs : List (List Key × V)} {vs : List V} (h : WS K H L G s wd wl l kvs vs) : l.length ≤ L.length + 1 := by
  have := nodup_lenE h.nd h.sub
  rw [List.length_cons, List.length_map] at this
  exact this
/-- one more place -/
theorem WS.more {H : Hp} {L : List Lk} {G : List Edge} {s b : Pl} {wd wl na bt : Addr} {l : List Pl} {kvs : List (List Key × V)} {vs ts : List V} {W : List Edge} (h : WS K H L G s wd wl l kvs vs) (hb : b ∉ l) (hs : b ∈ s :: L.map (·.2.1))
    (hbt : H bt = some (.tup (plV b))) (hn : na ≠ wl) (hna : H na = some (.lst ts)) (ht : Tups K H ts W) (hw : Way L G s b W) (hl : W.length ≤ l.length + 1) :
    WS K (upd (upd H wd (.dT (putK kvs (pk b) (.ref na)))) wl (.lst (vs ++ [.ref bt]))) L G s wd wl (l ++ [b]) (putK kvs (pk b) (.ref na)) (vs ++ [.ref bt]) := by
  have hne : wl ≠ wd := ne_of h.lst h.dict (by intro z; cases z)
  have h1 : (upd H wd (.dT (putK kvs (pk b) (.ref na)))) wl = some (.lst vs) := by
    rw [upd_ne hne]
    exact h.lst
  have kt : KeepT H (upd (upd H wd (.dT (putK kvs (pk b) (.ref na)))) wl (.lst (vs ++ [.ref bt]))) := (keepT_upd fun ys z => by rw [h.dict] at z; cases z).trans (keepT_upd fun ys z => by rw [h1] at z; cases z)
  have kr : KeepR H (upd (upd H wd (.dT (putK kvs (pk b) (.ref na)))) wl (.lst (vs ++ [.ref bt]))) := (keepR_dT h.dict).trans (keepR_lst h1)
  have kl : ∀ {a : Addr} {ts : List V}, a ≠ wl → H a = some (.lst ts) → (upd (upd H wd (.dT (putK kvs (pk b) (.ref na)))) wl (.lst (vs ++ [.ref bt]))) a = some (.lst ts) := fun n e => by
    rw [upd_ne n, upd_ne (ne_of e h.dict (by intro z; cases z))]
    exact e
  refine ⟨upd_same, (kt.plL h.pls).snoc (kt _ _ hbt), ?_, ?_, fun p => ?_, nd_snoc h.nd hb, fun p hp => ?_, List.mem_append_left _ h.st⟩
  · rw [upd_ne (Ne.symm hne), upd_same]
  · have := length_putK kvs (pk b) (.ref na)
    have := h.few
    rw [List.length_append]
    show _ ≤ l.length + 1
    omega
  · rw [valV_put]
    by_cases e : p = b
    · subst e
      rw [if_pos rfl]
      right
      refine ⟨List.mem_append_right _ (List.mem_singleton.mpr rfl), na, ts, W, rfl, hn, kl hn hna, kr.tups ht, hw, ?_⟩
      rw [List.length_append]
      exact hl
    · rw [if_neg (fun z => e (pk_inj.mp z))]
      rcases h.val p with ⟨z1, z2⟩ | ⟨z1, a, us, U, z2, z3, z4, z5, z6, z7⟩
      · left
        refine ⟨z1, fun m => ?_⟩
        rcases List.mem_append.mp m with m | m
        · exact z2 m
        · exact e (List.mem_singleton.mp m)
      · right
        refine ⟨List.mem_append_left _ z1, a, us, U, z2, z3, kl z3 z4, kr.tups z5, z6, ?_⟩
        rw [List.length_append]
        omega
  · rcases List.mem_append.mp hp with m | m
    · exact h.sub p m
    · rw [List.mem_singleton.mp m]
      exact hs
/-- what the walk gives back -/
def WD (K : PySem.W.Frag) (H : Hp) (L : List Lk) (G : List Edge) (s : Pl) (wd : Addr) (l : List Pl) : Prop := ∃ kvs, H wd = some (.dT kvs) ∧ ∀ p, (valV kvs (pk p) = none ∧ p ∉ l) ∨ (p ∈ l ∧ ∃ a ts W, valV kvs (pk p) = some (.ref a) ∧ H a = some (.lst ts) ∧ Tups K H ts W ∧ Way L G s p W ∧ W.length ≤ 20000)
theorem oeD_shaped_none : SeqAt.shaped PyData.none = true := by
  show (PyData.canLay0 .none && decide (PyData.depth .none ≤ 64)) = true
  simp [PyData.canLay0, PyData.depth]
theorem any_none : ∀ E : List Edge, ((E.map edD).any fun z => PyData.eqv z PyData.none) = false
  | [] => rfl
  | e :: E => by
    rw [List.map_cons, List.any_cons, any_none E]
    simp [edD, PyData.eqv]
/-- may a link be used -/
def okB (G : List Edge) : Option Edge → Bool
  | none => true
  | some e => !decide (e ∈ G)
theorem okB_iff {G : List Edge} {o : Option Edge} : okB G o = true ↔ ∀ e, o = some e → e ∉ G := by
  cases o with
  | none => exact ⟨fun _ e h => (nomatch h), fun _ => rfl⟩
  | some e =>
    unfold okB
    constructor
    · intro h z hz
      cases hz
      simpa using h
    · intro h
      simpa using h e rfl
theorem scWalk : FnScope ["start", "links", "gone", "ways", "waiting", "turn", "before", "behind", "edge"] ["start", "links", "gone"] (defScope sWalk) := ⟨rfl, rfl, rfl, by decide +kernel, rfl, by decide +kernel, by decide +kernel⟩
def spWalk (K : PySem.W.Frag) : Sp := fun vs H Q _ => ∃ (sa d ga : Addr) (s : Pl) (L : List Lk) (G : List Edge), vs = [.ref sa, .ref d, .ref ga] ∧ H sa = some (.tup (plV s)) ∧ LR H d L ∧ Eds K H ga G ∧ L.length ≤ 10000 ∧
  ∀ H' wd l, Same H H' → WD K H' L G s wd l → (∀ p, p ∈ l ↔ RT (Lst L G) s p) → Q (.ref wd) H'
/-- all places up to a turn have been gone on from -/
def Done (L : List Lk) (G : List Edge) (l : List Pl) (j : Nat) : Prop := ∀ i a, i < j → l[i]? = some a → ∀ b, Lst L G a b → b ∈ l
theorem ok_walk {f : Addr} {fd : FuncData} {k : Nat} (F : Fun K "walk" "walk" sWalk f fd) (ml : mg "len" = none) : FnOk P w K mg base CX0 (k + 1) f fd ["start", "links", "gone"] (spWalk K) := by
  refine F.ok scWalk (fun vs H Q E h => ?_) (fun cdv A outer s H vs Q E hr h => ?_)
  · obtain ⟨sa, d, ga, s, L, G, rfl, _⟩ := h
    rfl
  · obtain ⟨sa, d, ga, s, L, G, rfl, hsa, hL, hG, hlen, q⟩ := h
    have hu := hu_of hr
    refine ⟨_, pss_cons (ps_set (i := 3) scWalk.nd rfl (Or.inl rfl) (pe_disp1T hu (pv 0) (pe_lst pa_nil)))
      (pss_cons (ps_set (i := 4) scWalk.nd rfl (Or.inl rfl) (pe_lst (pa_cons (pv 0) pa_nil)))
      (pss_cons (ps_set (i := 5) scWalk.nd rfl (Or.inl rfl) pe_int)
      (pss_cons (ps_while PassesOwn.never (pt_cmpR op_lt (pv 5) (pe_callB call_len_seq (by rfl) ml PySem.boot_len (pa_cons (pv 4) pa_nil)) (nomark _))
        (pss_cons (ps_set (i := 6) scWalk.nd rfl (Or.inl rfl) (pe_ix ix_list (pv 4) (pv 5) (fun _ _ => rfl)))
        (pss_cons (ps_for PassesOwn.never rfl (pi_list (pe_dget2 hu (pv 1) (pv 6) (pe_lst pa_nil) ⟨rfl, rfl, rfl, rfl⟩)) (pg_tup rfl (pgs_cons (pg_name (i := 7) scWalk.nd rfl (Or.inl rfl)) (pgs_cons (pg_name (i := 8) scWalk.nd rfl (Or.inl rfl)) pgs_nil)))
          (pss_one (ps_if (PW.pt (pw_and (pt_cmp (pc_dnotin hu (pv 7) (pv 3))) (pw_and1 (pt_cmpR (op_notInD (u65 hr)) (pv 8) (pv 2) (by with_unfolding_all rfl)))))
            (pss_cons (ps_dput hu (pv 3) (pv 7) (pe_ifExp (pt_cmpR op_isN (pv 8) pe_non (nomark _)) (pe_dget hu (pv 3) (pv 6) (fun _ _ => rfl)) (pe_op op_cat (pe_dget hu (pv 3) (pv 6) (fun _ _ => rfl)) (pe_lst (pa_cons (pv 8) pa_nil)))) rfl)
            (pss_one (ps_expr (pe_bm PySem.F.plainAttrs_list PySem.F.slot_list_append PySem.F.type_list_append mt_append (pv 4) (pa_cons (pv 7) pa_nil))))) pss_nil)))
        (pss_one (ps_aug (i := 5) scWalk.nd rfl (Or.inl rfl) pe_int ip_add)))))
      (pss_one (ps_ret (pv 3)))))), ?_⟩
    -- ways = {start: []}
    intro wd nwd
    refine ⟨_, rfl, Nat.zero_le _, fun e0 ne0 => ?_⟩
    have s1 : Same H (upd H wd (.dT [])) := same_upd nwd
    have s2 : Same H (upd (upd H wd (.dT [])) e0 (.lst [])) := s1.trans (same_upd ne0)
    have hwe : e0 ≠ wd := fun z => by
      rw [z, upd_same] at ne0
      cases ne0
    refine ⟨pk s, sa, ?_, rfl, s2 _ _ hsa, ?_⟩
    · rw [upd_ne (Ne.symm hwe), upd_same]
    have s3 : Same H (upd (upd (upd H wd (.dT [])) e0 (.lst [])) wd (.dT [(pk s, .ref e0)])) := fun b u e => by
      rw [upd_ne (ne_of_none e nwd)]
      exact s2 _ _ e
    -- waiting = [start]
    refine ⟨_, rfl, by show 1 ≤ sizeLine; decide, fun wl nwl => ?_⟩
    have s4 := s3.trans (same_upd (o := .lst [.ref sa]) nwl)
    have nwlH : H wl = none := s3.free nwl
    have hwlwd : wl ≠ wd := fun z => by
      rw [z, upd_same] at nwl
      cases nwl
    have hwle : wl ≠ e0 := fun z => by
      rw [z, upd_ne hwe, upd_same] at nwl
      cases nwl
    have W0 : WS K (upd (upd (upd (upd H wd (.dT [])) e0 (.lst [])) wd (.dT [(pk s, .ref e0)])) wl (.lst [.ref sa])) L G s wd wl [s] [(pk s, .ref e0)] [.ref sa] := by
      refine ⟨upd_same, ⟨rfl, fun i v hv => ?_⟩, ?_, Nat.le_refl _, fun p => ?_, by simp, fun p hp => ?_, List.mem_singleton.mpr rfl⟩
      · cases i with
        | zero =>
          cases hv
          exact ⟨s, sa, rfl, rfl, s4 _ _ hsa⟩
        | succ i => simp at hv
      · rw [upd_ne (Ne.symm hwlwd), upd_same]
      · by_cases e : p = s
        · subst e
          right
          refine ⟨List.mem_singleton.mpr rfl, e0, [], [], valV_pos rfl, Ne.symm hwle, ?_, .nil, .nil, Nat.zero_le _⟩
          rw [upd_ne (Ne.symm hwle), upd_ne hwe, upd_same]
        · left
          refine ⟨?_, fun z => e (List.mem_singleton.mp z)⟩
          rw [valV_neg (fun z => e (pk_inj.mp z).symm)]
          rfl
      · rw [List.mem_singleton.mp hp]
        exact List.mem_cons_self
    -- the while
    refine ⟨fun m σ H' => ∃ (j : Nat) (l : List Pl) (kvs : List (List Key × V)) (vs : List V) (y6 y7 y8 : Option V), σ = [some (.ref sa), some (.ref d), some (.ref ga), some (.ref wd), some (.ref wl), some (iv j), y6, y7, y8] ∧ m = L.length + 1 - j ∧ j ≤ l.length ∧ Same H H' ∧ WS K H' L G s wd wl l kvs vs ∧ Done L G l j,
      ⟨_, 0, [s], _, _, none, none, none, rfl, rfl, Nat.zero_le _, s4, W0, fun i a hi => absurd hi (Nat.not_lt_zero _)⟩, ?_⟩
    rintro m σ H1 ⟨j, l, kvs, vs, y6, y7, y8, rfl, rfl, hjl, sm, S1, dn⟩
    have hll := S1.len
    have hvl := S1.pls.1
    refine ⟨_, rfl, _, rfl, wl, vs, rfl, .inl (SqL.of S1.lst), _, _, rfl, rfl, _, rfl, ite2 (fun c => ?_) (fun c => ?_)⟩
    · have hj : j < l.length := by
        have c := of_decide_eq_true c
        omega
      refine ⟨fun σ' H' => ∃ m', m' < L.length + 1 - j ∧ ∃ (j : Nat) (l : List Pl) (kvs : List (List Key × V)) (vs : List V) (y6 y7 y8 : Option V), σ' = [some (.ref sa), some (.ref d), some (.ref ga), some (.ref wd), some (.ref wl), some (iv j), y6, y7, y8] ∧ m' = L.length + 1 - j ∧ j ≤ l.length ∧ Same H H' ∧ WS K H' L G s wd wl l kvs vs ∧ Done L G l j, fun σ' H' z => z, ?_⟩
      have hv : vs[j]? = some (vs[j]'(by omega)) := List.getElem?_eq_getElem (by omega)
      obtain ⟨a, at_, hla, eva, hat⟩ := S1.pls.2 j _ hv
      rw [eva] at hv
      have hal : a ∈ l := List.mem_of_getElem? hla
      -- before = waiting[turn]
      refine ⟨_, rfl, _, rfl, wl, vs, _, _, rfl, rfl, SqL.of S1.lst, atI_nat hv, ?_⟩
      -- links.get(before, [])
      obtain ⟨dk, hd1, hd2⟩ := hL
      refine ⟨_, rfl, d, rfl, .inr ⟨dk, .inl (sm _ _ hd1)⟩, _, rfl, Nat.zero_le _, fun p np => ?_⟩
      have npH : H p = none := sm.free np
      have sp1 : Same H1 (upd H1 p (.lst [])) := same_upd np
      refine ⟨_, dgetP (sp1 _ _ (sm _ _ hd1)) (sp1 _ _ hat), ?_⟩
      have hb0 : Same H (upd H p (.lst [])) := same_upd npH
      have hb1 : Same (upd H p (.lst [])) (upd H1 p (.lst [])) := fun b u e => by
        by_cases z : b = p
        · subst z
          rw [upd_same] at e ⊢
          exact e
        · rw [upd_ne z] at e ⊢
          exact sm _ _ e
      have hz : ∃ z zs, (valV dk (pk a)).getD (V.ref p) = .ref z ∧ (upd H p (.lst [])) z = some (.lst zs) ∧ LkL (upd H p (.lst [])) zs (fol L a) := by
        rcases hd2 a with ⟨v1, v2⟩ | ⟨z, zs, v1, v2, v3⟩
        · exact ⟨p, [], by rw [v1]; rfl, upd_same, by rw [v2]; exact lkL_nil⟩
        · exact ⟨z, zs, by rw [v1]; rfl, hb0 _ _ v2, (KeepT.of_same hb0).lkL v3⟩
      obtain ⟨z, zs, ez, hz1, hz2⟩ := hz
      have nwdp : (upd H p (.lst [])) wd = none := by
        rw [upd_ne (ne_of_none S1.dict np)]
        exact nwd
      have nwlp : (upd H p (.lst [])) wl = none := by
        rw [upd_ne (ne_of_none S1.lst np)]
        exact nwlH
      refine ⟨z, ez, ⟨_, SqL.of (hb1 _ _ hz1)⟩, for_list (K := K) (a := z) (xs := zs)
        (fun i σ H' => ∃ (l' : List Pl) (kvs : List (List Key × V)) (vs : List V) (y7 y8 : Option V), σ = [some (.ref sa), some (.ref d), some (.ref ga), some (.ref wd), some (.ref wl), some (iv j), some (.ref at_), y7, y8] ∧ Same (upd H p (.lst [])) H' ∧ H' at_ = some (.tup (plV a)) ∧ WS K H' L G s wd wl l' kvs vs ∧ (∃ r, l' = l ++ r) ∧ ∀ b o, (b, o) ∈ (fol L a).take i → okB G o = true → b ∈ l')
        ⟨l, kvs, vs, y7, y8, rfl, hb1, sp1 _ _ hat, S1.same sp1, ⟨[], (List.append_nil _).symm⟩, fun b o hb => by rw [List.take_zero] at hb; cases hb⟩ (fun i σ H' _ ⟨_, _, _, _, _, _, s5, _⟩ => SqL.of (s5 _ _ hz1)) ?_ ?_⟩
      · rintro i x σ H2 hx ⟨l', kvs2, vs2, y7, y8, rfl, s5, hat2, S2, ⟨rr, hpre⟩, did⟩
        obtain ⟨⟨b, o⟩, hfo, hlk⟩ := hz2.2 i x hx
        obtain ⟨t, bt, u, rfl, ht1, ht2, ht3⟩ := (KeepT.of_same s5).lkAt hlk
        have hbo : (a, b, o) ∈ L := mem_fol.mp (List.mem_of_getElem? hfo)
        have hmore := take_more hfo
        have didS : ∀ {l2 : List Pl}, (∀ y ∈ l', y ∈ l2) → (okB G o = true → b ∈ l2) → ∀ b' o', (b', o') ∈ (fol L a).take (i + 1) → okB G o' = true → b' ∈ l2 := by
          intro l2 hsub hb2 b' o' hm hok
          rw [hmore] at hm
          rcases List.mem_append.mp hm with m | m
          · exact hsub _ (did b' o' m hok)
          · cases List.mem_singleton.mp m
            exact hb2 hok
        refine ⟨t, [.ref bt, u], rfl, SqT.of ht1, rfl, _, _, rfl, _, _, rfl, rfl, ?_⟩
        -- behind not in ways
        refine ⟨_, rfl, _, rfl, wd, _, rfl, dgetP S2.dict ht2, _, rfl, ite2 (fun c1 => ?_) (fun c1 => ?_)⟩
        · -- edge not in gone
          have hbl : b ∉ l' := by
            rcases S2.val b with ⟨_, z2⟩ | ⟨_, a', ts', W', z2, _⟩
            · exact z2
            · rw [z2] at c1
              cases c1
          have test : ∃ d, Dp K H2 u d ∧ SeqAt.shaped d = true ∧ (!(G.map edD).any fun z => PyData.eqv z d) = okB G o := by
            cases o with
            | none =>
              cases (show u = .non from ht3)
              exact ⟨.none, .non, oeD_shaped_none, by rw [any_none]; rfl⟩
            | some e =>
              obtain ⟨et, rfl, het⟩ := ht3
              exact ⟨edD e, dp_edge_of (SqT.of het), edD_shaped e, by rw [edDs_any]; rfl⟩
          obtain ⟨dd, hdd, hds, hdb⟩ := test
          refine ⟨_, rfl, _, rfl, dd, G.map edD, hdd, ((le_of_same (hb0.trans s5)).eds hG).dp, hds, edDs_shaped G, _, rfl, ?_⟩
          show if (!(G.map edD).any fun z => PyData.eqv z dd) = true then _ else _
          rw [hdb]
          refine ite2 (fun c2 => ?_) (fun c2 => ?_)
          · have hok := okB_iff.mp c2
            have hbs : b ∈ s :: L.map (·.2.1) := List.mem_cons_of_mem _ (List.mem_map.mpr ⟨_, hbo, rfl⟩)
            have hal' : a ∈ l' := by
              rw [hpre]
              exact List.mem_append_left _ hal
            obtain ⟨wa, wts, W, hw1, hw2, hw3, hw4, hw5, hw6⟩ : WVal K H2 L G s wl l'.length a (valV kvs2 (pk a)) := by
              rcases S2.val a with ⟨_, z2⟩ | ⟨_, z2⟩
              · exact absurd hal' z2
              · exact z2
            have hl2 := S2.len
            have hfew : kvs2.length < sizeLine := lt_line (by have := S2.few; omega)
            have hvs2 : vs2.length < sizeLine := lt_line (by have := S2.pls.1; omega)
            -- the end of a turn that adds
            have fin : ∀ {H3 : Hp} {na : Addr} {nts : List V} {U : List Edge}, Same H2 H3 → na ≠ wl → H3 na = some (.lst nts) → Tups K H3 nts U → Way L G s b U → U.length ≤ l'.length + 1 →
                ∃ H4, DPut H3 wd (.ref bt) (.ref na) H4 ∧ ∃ us, H4 wl = some (.lst us) ∧ us.length < sizeLine ∧ ∃ (l' : List Pl) (kvs : List (List Key × V)) (vs : List V) (y7 y8 : Option V), [some (.ref sa), some (.ref d), some (.ref ga), some (.ref wd), some (.ref wl), some (iv j), some (.ref at_), some (.ref bt), some u] = [some (.ref sa), some (.ref d), some (.ref ga), some (.ref wd), some (.ref wl), some (iv j), some (.ref at_), y7, y8] ∧ Same (upd H p (.lst [])) (upd H4 wl (.lst (us ++ [.ref bt]))) ∧ (upd H4 wl (.lst (us ++ [.ref bt]))) at_ = some (.tup (plV a)) ∧ WS K (upd H4 wl (.lst (us ++ [.ref bt]))) L G s wd wl l' kvs vs ∧ (∃ r, l' = l ++ r) ∧ ∀ b o, (b, o) ∈ (fol L a).take (i + 1) → okB G o = true → b ∈ l' := by
              intro H3 na nts U sH hna1 hna2 hU1 hU2 hU3
              have S3 := S2.same sH
              have hwlwd2 : wl ≠ wd := ne_of S3.lst S3.dict (by intro z; cases z)
              refine ⟨_, dputP S3.dict (sH _ _ ht2) hfew, vs2, ?_, hvs2, l' ++ [b], _, _, some (.ref bt), some u, rfl, fun c0 u0 e0 => ?_, ?_, S3.more hbl hbs (sH _ _ ht2) hna1 hna2 hU1 hU2 hU3, ⟨rr ++ [b], by rw [hpre, List.append_assoc]⟩, didS (fun y hy => List.mem_append_left _ hy) (fun _ => List.mem_append_right _ (List.mem_singleton.mpr rfl))⟩
              · rw [upd_ne hwlwd2]
                exact S3.lst
              · rw [upd_ne (ne_of_none e0 nwlp), upd_ne (ne_of_none e0 nwdp)]
                exact sH _ _ (s5 _ _ e0)
              · have h3 := sH _ _ hat2
                rw [upd_ne (ne_of h3 S3.lst (by intro z; cases z)), upd_ne (ne_of h3 S3.dict (by intro z; cases z))]
                exact h3
            refine ⟨_, rfl, rfl, _, rfl, ite2 (fun c3 => ?_) (fun c3 => ?_)⟩
            · -- edge is None
              have eu : u = .non := of_decide_eq_true c3
              have eo : o = none := by
                cases o with
                | none => rfl
                | some e =>
                  obtain ⟨et, z, _⟩ := ht3
                  rw [z] at eu
                  cases eu
              subst eo
              refine ⟨_, rfl, _, rfl, wd, .ref wa, rfl, ?_, ?_⟩
              · rw [← hw1]
                exact dgetP S2.dict hat2
              · obtain ⟨H4, g1, us, g2, g3, g4⟩ := fin (fun _ _ e => e) hw2 hw3 hw4 (.free hw5 hbo) (by omega)
                exact ⟨_, rfl, _, rfl, wd, H4, rfl, g1, _, rfl, .inl ⟨rfl, _, SqL.of g2⟩, _, rfl, wl, _, _, rfl, rfl, g2, g3, g4⟩
            · -- by an edge
              have eu : ¬ u = .non := fun z => c3 (decide_eq_true z)
              cases o with
              | none => exact absurd ht3 eu
              | some e =>
                obtain ⟨et, rfl, het⟩ := ht3
                refine ⟨_, rfl, _, rfl, wd, .ref wa, rfl, ?_, ?_⟩
                · rw [← hw1]
                  exact dgetP S2.dict hat2
                · refine ⟨_, rfl, by show 1 ≤ sizeLine; decide, fun t1 nt1 => ?_⟩
                  have q1 : Same H2 (upd H2 t1 (.lst [.ref et])) := same_upd nt1
                  refine ⟨wa, t1, wts, [.ref et], rfl, rfl, q1 _ _ hw3, upd_same, ?_, fun t2 nt2 => ?_⟩
                  · rw [hw4.len]
                    show W.length + 1 ≤ sizeLine
                    exact Nat.le_of_lt (lt_line (by omega))
                  · have q2 : Same H2 (upd (upd H2 t1 (.lst [.ref et])) t2 (.lst (wts ++ [.ref et]))) := q1.trans (same_upd nt2)
                    have hT : Tups K (upd (upd H2 t1 (.lst [.ref et])) t2 (.lst (wts ++ [.ref et]))) (wts ++ [.ref et]) (W ++ [e]) := ((KeepR.of_same q2).tups hw4).app (.cons (dp_edge_of (SqT.of (q2 _ _ het))) .nil)
                    obtain ⟨H4, g1, us, g2, g3, g4⟩ := fin q2 (ne_of_none (q1 _ _ S2.lst) nt2).symm upd_same hT (.by_ hw5 hbo (hok e rfl)) (by rw [List.length_append]; simp only [List.length_cons, List.length_nil]; omega)
                    exact ⟨_, rfl, _, rfl, wd, H4, rfl, g1, _, rfl, .inl ⟨rfl, _, SqL.of g2⟩, _, rfl, wl, _, _, rfl, rfl, g2, g3, g4⟩
          · exact ⟨l', kvs2, vs2, _, _, rfl, s5, hat2, S2, ⟨rr, hpre⟩, didS (fun y hy => hy) (fun z => absurd z c2)⟩
        · have hbl : b ∈ l' := by
            rcases S2.val b with ⟨z1, _⟩ | ⟨z1, _⟩
            · rw [z1] at c1
              exact absurd rfl c1
            · exact z1
          exact iteF ⟨l', kvs2, vs2, _, _, rfl, s5, hat2, S2, ⟨rr, hpre⟩, didS (fun y hy => hy) (fun _ => hbl)⟩
      · rintro σ H2 ⟨l', kvs2, vs2, y7, y8, rfl, s5, hat2, S2, ⟨rr, rfl⟩, did⟩
        rw [hz2.1, List.take_length] at did
        have l2 := S2.len
        refine ⟨_, rfl, _, _, rfl, rfl, ?_⟩
        refine ⟨_, ?_, j + 1, l ++ rr, kvs2, vs2, _, y7, y8, rfl, rfl, ?_, hb0.trans s5, S2, fun i a' hi ha' b hb => ?_⟩
        · rw [List.length_append] at l2
          omega
        · rw [List.length_append]
          omega
        · have hil : i < l.length := by omega
          rw [List.getElem?_append_left hil] at ha'
          by_cases e : i < j
          · exact List.mem_append_left _ (dn i a' e ha' b hb)
          · have e : i = j := by omega
            subst e
            rw [hla] at ha'
            cases ha'
            obtain ⟨o, h1, h2⟩ := hb
            exact did b o (mem_fol.mpr h1) (okB_iff.mpr h2)
    · refine ⟨_, rfl, ?_⟩
      have hj : j = l.length := by
        have c : ¬ (j : Int) < ((vs.length : Nat) : Int) := fun z => c (decide_eq_true z)
        omega
      refine q H1 wd l sm ⟨kvs, S1.dict, fun p => (S1.val p).imp id ?_⟩ fun p => ⟨fun hp => ?_, fun r => ?_⟩
      · rintro ⟨h1, a, ts, W, h2, h3, h4, h5, h6, h7⟩
        exact ⟨h1, a, ts, W, h2, h4, h5, h6, by omega⟩
      · rcases S1.val p with ⟨_, z⟩ | ⟨_, a, ts, W, _, _, _, _, h6, _⟩
        · exact absurd hp z
        · exact h6.rt
      · refine RT.closed (P := fun z => z ∈ l) (fun a b ha hb => ?_) S1.st r
        obtain ⟨i, hi, e2⟩ := List.mem_iff_getElem.mp ha
        exact dn i a (by omega) (by rw [List.getElem?_eq_getElem hi, e2]) b hb
end
end Tg

set_option Elab.async false
set_option linter.all false
set_option maxRecDepth 100000
set_option maxHeartbeats 1000000
namespace Tg
open PySem PySem.Spec PyProof.Rows L2
open Wm02 (Edge Graph)
theorem filt_more {S : List Nat} {f : Nat → Bool} {i b : Nat} (h : S[i]? = some b) : (S.take (i + 1)).filter f = (S.take i).filter f ++ if f b = true then [b] else [] := by
  rw [take_more h, List.filter_append, List.filter_cons, List.filter_nil]
theorem filt_len (S : List Nat) (f : Nat → Bool) (i : Nat) : ((S.take i).filter f).length ≤ S.length := by
  have h1 := List.length_filter_le f (S.take i)
  rw [List.length_take] at h1
  omega
section
variable {P : Program} {w : World} {K : PySem.W.Frag} {mg : Str → Option Value} {base : Heap}
/-! ### can_be -/
theorem WD.has {H : Hp} {L : List Lk} {G : List Edge} {s p : Pl} {wd : Addr} {l : List Pl} (h : WD K H L G s wd l) {kvs : List (List Key × V)} (hk : H wd = some (.dT kvs)) : (valV kvs (pk p)).isSome = true ↔ p ∈ l := by
  obtain ⟨kvs', h1, h2⟩ := h
  rw [hk] at h1
  cases h1
  rcases h2 p with ⟨z1, z2⟩ | ⟨z1, a, ts, W, z2, _⟩
  · rw [z1]
    exact ⟨fun z => (nomatch z), fun z => absurd z z2⟩
  · rw [z2]
    exact ⟨fun _ => z1, fun _ => rfl⟩
theorem WD.kvs {H : Hp} {L : List Lk} {G : List Edge} {s : Pl} {wd : Addr} {l : List Pl} (h : WD K H L G s wd l) : ∃ kvs, H wd = some (.dT kvs) := by
  obtain ⟨kvs, h1, _⟩ := h
  exact ⟨kvs, h1⟩
theorem WD.same {H H' : Hp} {L : List Lk} {G : List Edge} {s : Pl} {wd : Addr} {l : List Pl} (h : WD K H L G s wd l) (sm : Same H H') : WD K H' L G s wd l := by
  obtain ⟨kvs, h1, h2⟩ := h
  refine ⟨kvs, sm _ _ h1, fun p => (h2 p).imp id ?_⟩
  rintro ⟨h1, a, ts, W, h3, h4, h5, h6, h7⟩
  exact ⟨h1, a, ts, W, h3, sm _ _ h4, (KeepR.of_same sm).tups h5, h6, h7⟩
theorem eds_nil {H : Hp} {a : Addr} (h : H a = some (.lst [])) : Eds K H a [] := ⟨[], SqL.of h, .nil⟩
theorem scCanBe : FnScope ["r", "x", "y", "subjects", "edges", "links"] ["r", "x", "y", "subjects", "edges"] (defScope sCanBe) := ⟨rfl, rfl, rfl, by decide +kernel, rfl, by decide +kernel, by decide +kernel⟩
def spCanBe (K : PySem.W.Frag) : Sp := fun vs H Q _ => ∃ (r x y : Nat) (sa ea : Addr) (S : List Nat) (E : List Edge), vs = [iv r, iv x, iv y, .ref sa, .ref ea] ∧ SqL K H sa (nv S) ∧ Eds K H ea E ∧ S.length ≤ 1000 ∧ E.length ≤ 1000 ∧
  ∀ H', Same H H' → Q (.bl (pB (Cb E S r x y))) H'
theorem ok_canbe {f fL fW : Addr} {fd fdL fdW : FuncData} (F : Fun K "can_be" "can_be" sCanBe f fd) (FL : Fun K "all_links" "all_links" sAllLinks fL fdL) (bL : Binds K fdL ["r", "x", "y", "subjects", "edges"] []) (gL : mg "all_links" = some (.ref fL)) (GL : FnOk P w K mg base CX0 3 fL fdL ["r", "x", "y", "subjects", "edges"] (spAllL K))
    (FW : Fun K "walk" "walk" sWalk fW fdW) (bW : Binds K fdW ["start", "links", "gone"] []) (gW : mg "walk" = some (.ref fW)) (ml : mg "len" = none) (c : CstR mg) : FnOk P w K mg base CX0 4 f fd ["r", "x", "y", "subjects", "edges"] (spCanBe K) := by
  have GW : FnOk P w K mg base CX0 3 fW fdW ["start", "links", "gone"] (spWalk K) := ok_walk FW ml
  refine F.ok scCanBe (fun vs H Q E h => ?_) (fun cdv A outer s H vs Q E hr h => ?_)
  · obtain ⟨r, x, y, sa, ea, S, E, rfl, _⟩ := h
    rfl
  · obtain ⟨r, x, y, sa, ea, S, Es, rfl, hS, hE, hlS, hlE, q⟩ := h
    have hu := hu_of hr
    refine ⟨_, pss_cons (ps_set (i := 5) scCanBe.nd rfl (Or.inl rfl) (pe_call GL hr (by rfl) gL FL.kp bL .nil pass0 (pa_cons (pv 0) (pa_cons (pv 1) (pa_cons (pv 2) (pa_cons (pv 3) (pa_cons (pv 4) pa_nil)))))))
      (pss_one (ps_ret (pe_cmp (pc_din hu (pe_tup (pa_cons (pv 2) (pa_cons (pe_ci c.goal) pa_nil))) (pe_call GW hr (by rfl) gW FW.kp bW .nil pass0 (pa_cons (pe_tup (pa_cons (pv 1) (pa_cons (pe_ci c.start) pa_nil))) (pa_cons (pv 5) (pa_cons (pe_lst pa_nil) pa_nil)))))))), ?_⟩
    refine ⟨_, rfl, _, rfl, _, rfl, _, rfl, _, rfl, r, x, y, sa, ea, S, Es, rfl, hS, hE, hlS, hlE, fun H1 d s1 hL => ?_⟩
    refine ⟨_, rfl, two_le, fun t1 n1 => ⟨_, rfl, two_le, fun t2 n2 => ⟨_, rfl, Nat.zero_le _, fun ga nga => ?_⟩⟩⟩
    have a1 : Same H1 (upd H1 t1 (.tup (plV (y, 3)))) := same_upd n1
    have a2 := a1.trans (same_upd (o := .tup (plV (x, 2))) n2)
    have a3 := a2.trans (same_upd (o := .lst []) nga)
    have ht1 := (same_upd (o := .lst []) nga) _ _ ((same_upd (o := .tup (plV (x, 2))) n2) _ _ (upd_same (H := H1) (a := t1) (o := .tup (plV (y, 3)))))
    refine ⟨t2, d, ga, (x, 2), allL r x y S Es, [], rfl, (same_upd nga) _ _ upd_same, hL.same a3, eds_nil upd_same, ?_, fun H2 wd l s2 hW hl => ?_⟩
    · have := allL_len r x y S Es
      omega
    · obtain ⟨kvs, hk⟩ := hW.kvs
      refine ⟨wd, _, rfl, dgetP (p := (y, 3)) hk (s2 _ _ ht1), ?_⟩
      have e : pB (Cb Es S r x y) = (valV kvs (pk (y, 3))).isSome := pB_of (by
        rw [hW.has hk, hl, ← can_way]
        have o0 := out_nil Es
        constructor
        · intro z
          rw [← o0]
          exact RT.mono (fun a b => lst_all.mp) z
        · intro z
          rw [← o0] at z
          exact RT.mono (fun a b => lst_all.mpr) z)
      rw [← e]
      exact q H2 (s1.trans (a3.trans s2))
/-! ### near_ones -/
theorem scNearO : FnScope ["x", "subjects", "edges", "ways", "subject"] ["x", "subjects", "edges"] (defScope sNearOnes) := ⟨rfl, rfl, rfl, by decide +kernel, rfl, by decide +kernel, by decide +kernel⟩
noncomputable def nearOnes (E : List Edge) (S : List Nat) (x : Nat) : List Nat := S.filter fun v => pB (Nr E S x v)
def spNearO (K : PySem.W.Frag) : Sp := fun vs H Q _ => ∃ (x : Nat) (sa ea : Addr) (S : List Nat) (E : List Edge), vs = [iv x, .ref sa, .ref ea] ∧ SqL K H sa (nv S) ∧ Eds K H ea E ∧ S.length ≤ 1000 ∧ E.length ≤ 1000 ∧ x ∈ S ∧
  ∀ H' p, Same H H' → H p = none → H' p = some (.lst (nv (nearOnes E S x))) → Q (.ref p) H'
theorem ok_nearO {f fN fW : Addr} {fd fdN fdW : FuncData} (F : Fun K "near_ones" "near_ones" sNearOnes f fd) (FN : Fun K "near_links" "near_links" sNearLinks fN fdN) (bN : Binds K fdN ["subjects", "edges"] []) (gN : mg "near_links" = some (.ref fN)) (GN : FnOk P w K mg base CX0 2 fN fdN ["subjects", "edges"] (spNearL K))
    (FW : Fun K "walk" "walk" sWalk fW fdW) (bW : Binds K fdW ["start", "links", "gone"] []) (gW : mg "walk" = some (.ref fW)) (ml : mg "len" = none) (c : CstR mg) : FnOk P w K mg base CX0 3 f fd ["x", "subjects", "edges"] (spNearO K) := by
  have GW : FnOk P w K mg base CX0 2 fW fdW ["start", "links", "gone"] (spWalk K) := ok_walk FW ml
  refine F.ok scNearO (fun vs H Q E h => ?_) (fun cdv A outer s H vs Q E hr h => ?_)
  · obtain ⟨x, sa, ea, S, E, rfl, _⟩ := h
    rfl
  · obtain ⟨x, sa, ea, S, Es, rfl, hS, hE, hlS, hlE, hx, q⟩ := h
    have hu := hu_of hr
    refine ⟨_, pss_cons (ps_set (i := 3) scNearO.nd rfl (Or.inr rfl) (pe_call GW hr (by rfl) gW FW.kp bW .nil pass0 (pa_cons (pe_tup (pa_cons (pv 0) (pa_cons (pe_ci c.up) pa_nil))) (pa_cons (pe_call GN hr (by rfl) gN FN.kp bN .nil pass0 (pa_cons (pv 1) (pa_cons (pv 2) pa_nil))) (pa_cons (pe_lst pa_nil) pa_nil)))))
      (pss_one (ps_ret (pe_lc (own := [("subject", 4)]) (g := gName 4) (tt := tB (tDIn (tTup (tCons (tVar 4) (tCons (tC (V.int 0)) tNil))) (tVar 3))) (te := tVar 4) rfl scNearO.nd (pi_list (pv 1))
          (blkOk_by (own := [("subject", 4)]) (N := ["x", "subjects", "edges", "ways", "subject"]) (sc := defScope sNearOnes) (by decide +kernel))
          (fun _ _ _ _ _ => pg_name (i := 4) scNearO.nd rfl (Or.inl rfl))
          (fun _ _ _ _ _ => pts_one (pt_cmp (pc_din hu (pe_tup (pa_cons (pv 4) (pa_cons (pe_ci c.up) pa_nil))) (pv 3))))
          (fun _ _ _ _ _ => pv 4)))), ?_⟩
    refine ⟨_, rfl, two_le, fun t1 n1 => ?_⟩
    have a1 : Same H (upd H t1 (.tup (plV (x, 0)))) := same_upd n1
    refine ⟨_, rfl, _, rfl, sa, ea, S, Es, rfl, (le_of_same a1).sqL hS, (le_of_same a1).eds hE, hlS, hlE, fun H1 d kvs0 s1 nd M => ⟨Nat.zero_le _, fun ga nga => ?_⟩⟩
    have a2 : Same H1 (upd H1 ga (.lst [])) := same_upd nga
    refine ⟨t1, d, ga, (x, 0), nearL S Es, [], rfl, a2 _ _ (s1 _ _ upd_same), M.lr.same a2, eds_nil upd_same, ?_, fun H2 wd l s2 hW hl => ?_⟩
    · have := nearL_len S Es
      omega
    · have sA : Same H H2 := a1.trans (s1.trans (a2.trans s2))
      obtain ⟨kvs, hk⟩ := hW.kvs
      have hS2 := (le_of_same sA).sqL hS
      have hin : ∀ v ∈ S, (valV kvs (pk (v, 0))).isSome = pB (Nr Es S x v) := fun v hv => (pB_of (by
        rw [hW.has hk, hl, ← near_way hx hv]
        have o0 := out_nil Es
        constructor
        · intro z
          rw [← o0]
          exact RT.mono (fun a b => lst_near.mp) z
        · intro z
          rw [← o0] at z
          exact RT.mono (fun a b => lst_near.mpr) z)).symm
      refine ⟨.ref sa, rfl, sa, rfl, ⟨_, hS2⟩, fun D nD => ?_⟩
      refine lc_list (K := K) (a := sa) (xs := nv S) (fun i H' => Same H2 H' ∧ H' D = some (.lst (nv ((S.take i).filter fun v => pB (Nr Es S x v))))) ⟨same_upd nD, upd_same⟩ (fun i H' _ z => (le_of_same z.1).sqL hS2) ?_ ?_
      · rintro i z H3 hz ⟨s3, hD⟩
        obtain ⟨n, hn, rfl⟩ := nv_get hz
        have hnS : n ∈ S := List.mem_of_getElem? hn
        refine ⟨rfl, ?_⟩
        refine ⟨_, rfl, two_le, fun t n3 => ?_⟩
        have a3 : Same H3 (upd H3 t (.tup (plV (n, 0)))) := same_upd n3
        refine ⟨_, rfl, wd, _, rfl, dgetP (p := (n, 0)) (a3 _ _ (s3 _ _ hk)) upd_same, _, rfl, ?_⟩
        show if (valV kvs (pk (n, 0))).isSome = true then _ else _
        rw [hin n hnS]
        refine ite2 (fun b => ?_) (fun b => ?_)
        · refine ⟨_, rfl, _, a3 _ _ hD, ?_, fun b' o e => ?_, ?_⟩
          · rw [nv_len]
            have := filt_len S (fun v => pB (Nr Es S x v)) i
            exact lt_line (by omega)
          · rw [upd_ne (ne_of_none e nD)]
            exact a3 _ _ (s3 _ _ e)
          · rw [upd_same, filt_more hn, if_pos b, nv_app]
            rfl
        · refine ⟨s3.trans a3, ?_⟩
          rw [filt_more hn, if_neg b, List.append_nil]
          exact a3 _ _ hD
      · rintro H3 ⟨s3, hD⟩
        rw [nv_len, List.take_length] at hD
        exact q H3 D (sA.trans s3) (sA.free nD) hD
end
end Tg

set_option Elab.async false
set_option linter.all false
set_option maxRecDepth 100000
set_option maxHeartbeats 1000000
namespace Tg
open PySem PySem.Spec PyProof.Rows L2
open Wm02 (Edge Graph)
section
variable {P : Program} {w : World} {K : PySem.W.Frag} {mg : Str → Option Value} {base : Heap}
/-! ### takers -/
structure TkI (O : List Nat) (E : List Edge) (l : List Nat) (j : Nat) : Prop where
  nd : l.Nodup
  sub : ∀ y ∈ l, y ∈ O ++ E.map (·.src)
  st : ∀ y ∈ O, y ∈ l
  snd : ∀ y ∈ l, ∃ o ∈ O, Tk E y o
  cl : ∀ i a, i < j → l[i]? = some a → ∀ b, (⟨b, a, 0⟩ : Edge) ∈ E → b ∈ l
  le : j ≤ l.length
theorem TkI.len {O : List Nat} {E : List Edge} {l : List Nat} {j : Nat} (h : TkI O E l j) : l.length ≤ O.length + E.length := by
  have := nodup_sub_len h.nd h.sub
  rw [List.length_append, List.length_map] at this
  exact this
def newT (E : List Edge) (a : Nat) (l : List Nat) : List Nat := (holdersL a 0 E).filter fun n => !decide (n ∈ l)
theorem TkI.next {O : List Nat} {E : List Edge} {l : List Nat} {j a : Nat} (h : TkI O E l j) (hE : E.Nodup) (ha : l[j]? = some a) : TkI O E (l ++ newT E a l) (j + 1) := by
  have mem : ∀ {b : Nat}, b ∈ newT E a l ↔ (⟨b, a, 0⟩ : Edge) ∈ E ∧ b ∉ l := fun {b} => by
    unfold newT
    rw [List.mem_filter, mem_holdersL]
    simp
  have hal : a ∈ l := List.mem_of_getElem? ha
  have hj : j < l.length := (List.getElem?_eq_some_iff.mp ha).1
  refine ⟨List.nodup_append.mpr ⟨h.nd, (holdersL_nodup hE).filter _, fun x hx y hy e => ?_⟩, fun y hy => ?_, fun y hy => List.mem_append_left _ (h.st y hy), fun y hy => ?_, fun i c hi hc b hb => ?_, ?_⟩
  · subst e
    exact (mem.mp hy).2 hx
  · rcases List.mem_append.mp hy with m | m
    · exact h.sub y m
    · exact List.mem_append_right _ (List.mem_map.mpr ⟨_, (mem.mp m).1, rfl⟩)
  · rcases List.mem_append.mp hy with m | m
    · exact h.snd y m
    · obtain ⟨o, ho, t⟩ := h.snd a hal
      exact ⟨o, ho, RT.trans (.one (mem.mp m).1) t⟩
  · have hil : i < l.length := by omega
    rw [List.getElem?_append_left hil] at hc
    by_cases e : i < j
    · exact List.mem_append_left _ (h.cl i c e hc b hb)
    · have e : i = j := by omega
      subst e
      rw [ha] at hc
      cases hc
      by_cases m : b ∈ l
      · exact List.mem_append_left _ m
      · exact List.mem_append_right _ (mem.mpr ⟨hb, m⟩)
  · rw [List.length_append]
    omega
theorem TkI.done {O : List Nat} {E : List Edge} {l : List Nat} {j : Nat} (h : TkI O E l j) (e : ¬ j < l.length) (y : Nat) : y ∈ l ↔ ∃ o ∈ O, Tk E y o := by
  refine ⟨h.snd y, ?_⟩
  rintro ⟨o, ho, t⟩
  have go : ∀ {a b : Nat}, Tk E a b → b ∈ l → a ∈ l := fun {a b} t hb => by
    induction t with
    | refl => exact hb
    | tail _ s ih =>
      obtain ⟨i, hi, e2⟩ := List.mem_iff_getElem.mp hb
      exact ih (h.cl i _ (by omega) (by rw [List.getElem?_eq_getElem hi, e2]) _ s)
  exact go t (h.st o ho)
theorem scTakers : FnScope ["ones", "edges", "found", "turn", "taker"] ["ones", "edges"] (defScope sTakers) := ⟨rfl, rfl, rfl, by decide +kernel, rfl, by decide +kernel, by decide +kernel⟩
def spTakers (K : PySem.W.Frag) : Sp := fun vs H Q _ => ∃ (oa ea : Addr) (O : List Nat) (E : List Edge), vs = [.ref oa, .ref ea] ∧ SqL K H oa (nv O) ∧ Eds K H ea E ∧ O.Nodup ∧ E.Nodup ∧ O.length ≤ 1000 ∧ E.length ≤ 1000 ∧
  ∀ H' p res, Same H H' → H p = none → H' p = some (.lst (nv res)) → (∀ y, y ∈ res ↔ ∃ o ∈ O, Tk E y o) → Q (.ref p) H'
theorem ok_takers {f fO : Addr} {fd fdO : FuncData} (F : Fun K "takers" "takers" sTakers f fd) (FO : Fun K "holders" "holders" sHolders fO fdO) (bO : Binds K fdO ["y", "r", "edges"] []) (gO : mg "holders" = some (.ref fO)) (ml : mg "len" = none) (mt : mg "list" = none) (c : CstR mg) :
    FnOk P w K mg base CX0 2 f fd ["ones", "edges"] (spTakers K) := by
  have GO : FnOk P w K mg base CX0 1 fO fdO ["y", "r", "edges"] (spHolders K) := ok_holders FO
  refine F.ok scTakers (fun vs H Q E h => ?_) (fun cdv A outer s H vs Q E hr h => ?_)
  · obtain ⟨oa, ea, O, E, rfl, _⟩ := h
    rfl
  · obtain ⟨oa, ea, O, Es, rfl, hO, hE, hnO, hnE, hlO, hlE, q⟩ := h
    have hu := hu_of hr
    refine ⟨_, pss_cons (ps_set (i := 2) scTakers.nd rfl (Or.inr rfl) (pe_callTy call_list_of (by rfl) mt (by decide +kernel) (pa_cons (pv 0) pa_nil)))
      (pss_cons (ps_set (i := 3) scTakers.nd rfl (Or.inl rfl) pe_int)
      (pss_cons (ps_while PassesOwn.never (pt_cmpR op_lt (pv 3) (pe_callB call_len_seq (by rfl) ml PySem.boot_len (pa_cons (pv 2) pa_nil)) (nomark _))
        (pss_cons (ps_expr (pe_bm PySem.F.plainAttrs_list PySem.F.slot_list_extend PySem.F.type_list_extend mt_extend (pv 2) (pa_cons
          (pe_lc (own := [("taker", 4)]) (g := gName 4) (tt := tTest (tOp (rIn K true) (tVar 4) (tVar 2))) (te := tVar 4) rfl scTakers.nd (pi_list (pe_call GO hr (by rfl) gO FO.kp bO .nil pass0 (pa_cons (pe_ix ix_list (pv 2) (pv 3) (fun _ _ => rfl)) (pa_cons (pe_ci c.toTake) (pa_cons (pv 1) pa_nil)))))
            (blkOk_by (own := [("taker", 4)]) (N := ["ones", "edges", "found", "turn", "taker"]) (sc := defScope sTakers) (by decide +kernel))
            (fun _ _ _ _ _ => pg_name (i := 4) scTakers.nd rfl (Or.inl rfl))
            (fun _ _ _ _ _ => pts_one (pt_cmpR op_notIn_seq (pv 4) (pv 2) (by with_unfolding_all rfl)))
            (fun _ _ _ _ _ => pv 4)) pa_nil)))
        (pss_one (ps_aug (i := 3) scTakers.nd rfl (Or.inl rfl) pe_int ip_add))))
      (pss_one (ps_ret (pv 2))))), ?_⟩
    refine ⟨_, rfl, oa, _, rfl, .inl hO, fun o no => ?_⟩
    refine ⟨fun m σ H' => ∃ (j : Nat) (l : List Nat), σ = [some (.ref oa), some (.ref ea), some (.ref o), some (iv j), none] ∧ m = O.length + Es.length - j ∧ TkI O Es l j ∧ Same H H' ∧ H' o = some (.lst (nv l)),
      ⟨_, 0, O, rfl, rfl, ⟨hnO, fun y hy => List.mem_append_left _ hy, fun y hy => hy, fun y hy => ⟨y, hy, .refl _⟩, fun i a hi => absurd hi (Nat.not_lt_zero _), Nat.zero_le _⟩, same_upd no, upd_same⟩, ?_⟩
    rintro m σ H1 ⟨j, l, rfl, rfl, R, sm, ho⟩
    have hll := R.len
    refine ⟨_, rfl, _, rfl, o, nv l, rfl, .inl (SqL.of ho), _, _, rfl, rfl, _, rfl, ite2 (fun b => ?_) (fun b => ?_)⟩
    · have hj : j < l.length := by
        have b := of_decide_eq_true b
        rw [nv_len] at b
        omega
      refine ⟨fun σ' H' => ∃ m', m' < O.length + Es.length - j ∧ ∃ (j : Nat) (l : List Nat), σ' = [some (.ref oa), some (.ref ea), some (.ref o), some (iv j), none] ∧ m' = O.length + Es.length - j ∧ TkI O Es l j ∧ Same H H' ∧ H' o = some (.lst (nv l)), fun σ' H' z => z, ?_⟩
      have ha : l[j]? = some l[j] := List.getElem?_eq_getElem hj
      refine ⟨_, rfl, .inl ⟨rfl, _, SqL.of ho⟩, _, rfl, _, rfl, o, nv l, _, _, rfl, rfl, SqL.of ho, atI_nat (get_nv ha), _, rfl, l[j], 0, ea, Es, rfl, (le_of_same sm).eds hE, hlE, fun H2 p s2 np hp => ?_⟩
      have ho2 := s2 _ _ ho
      refine ⟨p, rfl, ⟨_, SqL.of hp⟩, fun D nD => ?_⟩
      refine lc_list (K := K) (a := p) (xs := nv (holdersL l[j] 0 Es)) (fun i H' => Same H2 H' ∧ H' D = some (.lst (nv (((holdersL l[j] 0 Es).take i).filter fun n => !decide (n ∈ l))))) ⟨same_upd nD, upd_same⟩ (fun i H' _ z => SqL.of (z.1 _ _ hp)) ?_ ?_
      · rintro i z H3 hz ⟨s3, hD⟩
        obtain ⟨n, hn, rfl⟩ := nv_get hz
        refine ⟨rfl, ?_⟩
        refine ⟨_, rfl, _, rfl, o, nv l, rfl, .inl (SqL.of (s3 _ _ ho2)), rfl, nv_flat l, _, rfl, ?_⟩
        show if (!inV (iv n) (nv l)) = true then _ else _
        rw [inV_nv]
        refine ite2 (fun b => ?_) (fun b => ?_)
        · refine ⟨_, rfl, _, hD, ?_, fun b' u e => ?_, ?_⟩
          · rw [nv_len]
            have h1 := filt_len (holdersL l[j] 0 Es) (fun n => !decide (n ∈ l)) i
            have h2 := holdersL_len l[j] 0 Es
            exact lt_line (by omega)
          · rw [upd_ne (ne_of_none e nD)]
            exact s3 _ _ e
          · rw [upd_same, filt_more hn, if_pos b, nv_app]
            rfl
        · refine ⟨s3, ?_⟩
          rw [filt_more hn, if_neg b, List.append_nil]
          exact hD
      · rintro H3 ⟨s3, hD⟩
        rw [nv_len, List.take_length] at hD
        have R2 := R.next hnE ha
        have l2 := R2.len
        have l3 := R2.le
        refine ⟨o, D, _, _, rfl, rfl, s3 _ _ ho2, hD, ?_, ?_⟩
        · rw [nv_len, nv_len]
          have e : (List.filter (fun n => !decide (n ∈ l)) (holdersL l[j] 0 Es)) = newT Es l[j] l := rfl
          rw [e]
          rw [List.length_append] at l2
          exact Nat.le_of_lt (lt_line (by omega))
        · refine ⟨_, rfl, _, _, rfl, rfl, ?_⟩
          refine ⟨_, ?_, j + 1, l ++ newT Es l[j] l, rfl, rfl, R2, fun b' u e => ?_, ?_⟩
          · omega
          · rw [upd_ne (ne_of_none e no)]
            exact s3 _ _ (s2 _ _ (sm _ _ e))
          · rw [upd_same, nv_app]
            rfl
    · refine ⟨_, rfl, ?_⟩
      refine q H1 o l sm no ho (R.done ?_)
      intro hj
      refine b (decide_eq_true ?_)
      rw [nv_len]
      omega
/-! ### bringers -/
noncomputable def bringersL (E : List Edge) (S : List Nat) (x : Nat) : List Nat := S.filter fun u => pB (Br E S x u)
theorem mem_bringersL {E : List Edge} {S : List Nat} {x u : Nat} : u ∈ bringersL E S x ↔ Br E S x u := by
  unfold bringersL
  rw [List.mem_filter, pB_iff]
  exact ⟨fun h => h.2, fun h => ⟨h.1, h⟩⟩
theorem scBringers : FnScope ["x", "subjects", "edges", "givers", "subject"] ["x", "subjects", "edges"] (defScope sBringers) := ⟨rfl, rfl, rfl, by decide +kernel, rfl, by decide +kernel, by decide +kernel⟩
def spBringers (K : PySem.W.Frag) : Sp := fun vs H Q _ => ∃ (x : Nat) (sa ea : Addr) (S : List Nat) (E : List Edge), vs = [iv x, .ref sa, .ref ea] ∧ SqL K H sa (nv S) ∧ Eds K H ea E ∧ S.length ≤ 1000 ∧ E.length ≤ 1000 ∧ E.Nodup ∧
  ∀ H' p, Same H H' → H p = none → H' p = some (.lst (nv (bringersL E S x))) → Q (.ref p) H'
theorem ok_bringers {f fO fT : Addr} {fd fdO fdT : FuncData} (F : Fun K "bringers" "bringers" sBringers f fd) (FO : Fun K "holders" "holders" sHolders fO fdO) (bO : Binds K fdO ["y", "r", "edges"] []) (gO : mg "holders" = some (.ref fO))
    (FT : Fun K "takers" "takers" sTakers fT fdT) (bT : Binds K fdT ["ones", "edges"] []) (gT : mg "takers" = some (.ref fT)) (GT : FnOk P w K mg base CX0 2 fT fdT ["ones", "edges"] (spTakers K)) (c : CstR mg) :
    FnOk P w K mg base CX0 3 f fd ["x", "subjects", "edges"] (spBringers K) := by
  have GO : FnOk P w K mg base CX0 2 fO fdO ["y", "r", "edges"] (spHolders K) := ok_holders FO
  refine F.ok scBringers (fun vs H Q E h => ?_) (fun cdv A outer s H vs Q E hr h => ?_)
  · obtain ⟨x, sa, ea, S, E, rfl, _⟩ := h
    rfl
  · obtain ⟨x, sa, ea, S, Es, rfl, hS, hE, hlS, hlE, hnE, q⟩ := h
    have hu := hu_of hr
    refine ⟨_, pss_cons (ps_set (i := 3) scBringers.nd rfl (Or.inr rfl) (pe_call GT hr (by rfl) gT FT.kp bT .nil pass0 (pa_cons (pe_call GO hr (by rfl) gO FO.kp bO .nil pass0 (pa_cons (pv 0) (pa_cons (pe_ci c.toGive) (pa_cons (pv 2) pa_nil)))) (pa_cons (pv 2) pa_nil))))
      (pss_one (ps_ret (pe_lc (own := [("subject", 4)]) (g := gName 4) (tt := tOr (tTest (tOp rEq (tVar 4) (tVar 0))) (tTest (tOp (rIn K false) (tVar 4) (tVar 3)))) (te := tVar 4) rfl scBringers.nd (pi_list (pv 1))
          (blkOk_by (own := [("subject", 4)]) (N := ["x", "subjects", "edges", "givers", "subject"]) (sc := defScope sBringers) (by decide +kernel))
          (fun _ _ _ _ _ => pg_name (i := 4) scBringers.nd rfl (Or.inl rfl))
          (fun _ _ _ _ _ => pts_one (PW.pt (pw_or (pt_cmpR op_eq (pv 4) (pv 0) (nomark _)) (pw_or1 (pt_cmpR op_in_seq (pv 4) (pv 3) (by with_unfolding_all rfl))))))
          (fun _ _ _ _ _ => pv 4)))), ?_⟩
    refine ⟨_, rfl, _, rfl, x, 1, ea, Es, rfl, hE, hlE, fun H1 g s1 ng hg => ?_⟩
    have hlo := holdersL_len x 1 Es
    refine ⟨_, rfl, g, ea, holdersL x 1 Es, Es, rfl, SqL.of hg, (le_of_same s1).eds hE, holdersL_nodup hnE, hnE, by omega, hlE, fun H2 t res s2 nt ht hres => ?_⟩
    have sA := s1.trans s2
    have hS2 := (le_of_same sA).sqL hS
    have hbr : ∀ u ∈ S, pB (Br Es S x u) = (decide (u = x) || decide (u ∈ res)) := fun u huS => pB_of (by
      rw [Bool.or_eq_true, decide_eq_true_iff, decide_eq_true_iff, hres]
      constructor
      · rintro (z | ⟨o, ho, t⟩)
        · exact ⟨huS, .inl z⟩
        · exact ⟨huS, .inr ⟨o, t, mem_holdersL.mp ho⟩⟩
      · rintro ⟨_, z | ⟨o, t, ho⟩⟩
        · exact .inl z
        · exact .inr ⟨o, mem_holdersL.mpr ho, t⟩)
    refine ⟨.ref sa, rfl, sa, rfl, ⟨_, hS2⟩, fun D nD => ?_⟩
    refine lc_list (K := K) (a := sa) (xs := nv S) (fun i H' => Same H2 H' ∧ H' D = some (.lst (nv ((S.take i).filter fun u => pB (Br Es S x u))))) ⟨same_upd nD, upd_same⟩ (fun i H' _ z => (le_of_same z.1).sqL hS2) ?_ ?_
    · rintro i z H3 hz ⟨s3, hD⟩
      obtain ⟨n, hn, rfl⟩ := nv_get hz
      have hnS : n ∈ S := List.mem_of_getElem? hn
      have hb := hbr n hnS
      have hlen : (nv ((S.take i).filter fun u => pB (Br Es S x u))).length < sizeLine := by
        rw [nv_len]
        have := filt_len S (fun u => pB (Br Es S x u)) i
        exact lt_line (by omega)
      have yes : pB (Br Es S x n) = true → Same H2 (upd H3 D (.lst (nv ((S.take i).filter fun u => pB (Br Es S x u)) ++ [iv n]))) ∧ (upd H3 D (.lst (nv ((S.take i).filter fun u => pB (Br Es S x u)) ++ [iv n]))) D = some (.lst (nv ((S.take (i + 1)).filter fun u => pB (Br Es S x u)))) := fun b => by
        refine ⟨fun b' u e => ?_, ?_⟩
        · rw [upd_ne (ne_of_none e nD)]
          exact s3 _ _ e
        · rw [upd_same, filt_more hn, if_pos b, nv_app]
          rfl
      refine ⟨rfl, ?_⟩
      refine ⟨_, rfl, _, rfl, rfl, _, rfl, ite2 (fun b => ?_) (fun b => ?_)⟩
      · have c1 : n = x := iv_inj.mp (of_decide_eq_true b)
        refine iteT ⟨_, rfl, _, hD, hlen, yes ?_⟩
        rw [hb]
        simp [c1]
      · have c1 : ¬ n = x := fun z => b (decide_eq_true (iv_inj.mpr z))
        refine ⟨_, rfl, _, rfl, t, nv res, rfl, .inl (SqL.of (s3 _ _ ht)), rfl, nv_flat res, _, rfl, ?_⟩
        show if inV (iv n) (nv res) = true then _ else _
        rw [inV_nv]
        refine ite2 (fun b2 => ?_) (fun b2 => ?_)
        · refine ⟨_, rfl, _, hD, hlen, yes ?_⟩
          rw [hb, b2, Bool.or_true]
        · refine ⟨s3, ?_⟩
          have b3 : ¬ pB (Br Es S x n) = true := by
            rw [hb, decide_eq_false c1, Bool.false_or]
            exact b2
          rw [filt_more hn, if_neg b3, List.append_nil]
          exact hD
    · rintro H3 ⟨s3, hD⟩
      rw [nv_len, List.take_length] at hD
      exact q H3 D (sA.trans s3) (sA.free nD) hD
/-! ### can_steal -/
theorem any_id (l : List Nat) (p : Nat → Bool) : (l.map p).any id = l.any p := by
  induction l with
  | nil => rfl
  | cons a l ih =>
    rw [List.map_cons, List.any_cons, List.any_cons, ih]
    rfl
theorem scSteal0 : FnScope ["r", "x", "y", "subjects", "edges", "helpers", "owner", "helper"] ["r", "x", "y", "subjects", "edges"] (defScope sCanSteal) := ⟨rfl, rfl, rfl, by decide +kernel, rfl, by decide +kernel, by decide +kernel⟩
def spSteal0 (K : PySem.W.Frag) : Sp := fun vs H Q _ => ∃ (r x y : Nat) (sa ea : Addr) (S : List Nat) (E : List Edge), vs = [iv r, iv x, iv y, .ref sa, .ref ea] ∧ SqL K H sa (nv S) ∧ Eds K H ea E ∧ S.length ≤ 1000 ∧ E.length ≤ 1000 ∧ E.Nodup ∧
  ∀ H', Same H H' → Q (.bl (pB (St E S r x y))) H'
theorem ok_steal0 {f fB fO fC : Addr} {fd fdB fdO fdC : FuncData} (F : Fun K "can_steal" "can_steal" sCanSteal f fd) (FB : Fun K "bringers" "bringers" sBringers fB fdB) (bB : Binds K fdB ["x", "subjects", "edges"] []) (gB : mg "bringers" = some (.ref fB)) (GB : FnOk P w K mg base CX0 3 fB fdB ["x", "subjects", "edges"] (spBringers K))
    (FO : Fun K "holders" "holders" sHolders fO fdO) (bO : Binds K fdO ["y", "r", "edges"] []) (gO : mg "holders" = some (.ref fO))
    (FC : Fun K "can_be" "can_be" sCanBe fC fdC) (bC : Binds K fdC ["r", "x", "y", "subjects", "edges"] []) (gC : mg "can_be" = some (.ref fC)) (GC : FnOk P w K mg base CX0 4 fC fdC ["r", "x", "y", "subjects", "edges"] (spCanBe K)) (ma : mg "any" = none) (c : CstR mg) :
    FnOk P w K mg base CX0 5 f fd ["r", "x", "y", "subjects", "edges"] (spSteal0 K) := by
  have GO : FnOk P w K mg base CX0 1 fO fdO ["y", "r", "edges"] (spHolders K) := ok_holders FO
  refine F.ok scSteal0 (fun vs H Q E h => ?_) (fun cdv A outer s H vs Q E hr h => ?_)
  · obtain ⟨r, x, y, sa, ea, S, E, rfl, _⟩ := h
    rfl
  · obtain ⟨r, x, y, sa, ea, S, Es, rfl, hS, hE, hlS, hlE, hnE, q⟩ := h
    have hr1 : Room 1 _ := hr.mono (by decide)
    have hr3 : Room 3 _ := hr.mono (by decide)
    refine ⟨_, pss_cons (ps_if (pt_cmpR (op_inD (u65 hr)) (pe_tup (pa_cons (pv 1) (pa_cons (pv 2) (pa_cons (pv 0) pa_nil)))) (pv 4) (by with_unfolding_all rfl)) (pss_one (ps_ret pe_bl)) pss_nil)
      (pss_cons (ps_set (i := 5) scSteal0.nd rfl (Or.inl rfl) (pe_call GB hr3 (by rfl) gB FB.kp bB .nil pass0 (pa_cons (pv 1) (pa_cons (pv 3) (pa_cons (pv 4) pa_nil)))))
      (pss_cons (ps_for PassesOwn.never rfl (pi_list (pe_call GO hr1 (by rfl) gO FO.kp bO .nil pass0 (pa_cons (pv 2) (pa_cons (pv 0) (pa_cons (pv 4) pa_nil))))) (pg_name (i := 6) scSteal0.nd rfl (Or.inr rfl))
        (pss_one (ps_if (pt_val (pe_callB (cr_any rfl) (by rfl) ma (by decide +kernel) (pa_cons
          (pe_lc (own := [("helper", 7)]) (g := gName 7) (tt := tYes) (te := tCall (spCanBe K) [] E0 (tCons (tC (V.int 0)) (tCons (tVar 7) (tCons (tVar 6) (tCons (tVar 3) (tCons (tVar 4) tNil)))))) rfl scSteal0.nd (pi_list (pv 5))
            (blkOk_by (own := [("helper", 7)]) (N := ["r", "x", "y", "subjects", "edges", "helpers", "owner", "helper"]) (sc := defScope sCanSteal) (by decide +kernel))
            (fun _ _ _ _ _ => pg_name (i := 7) scSteal0.nd rfl (Or.inl rfl)) (fun _ _ _ _ _ => pts_nil)
            (fun _ _ _ _ _ => pe_call GC hr (by rfl) gC FC.kp bC .nil pass0 (pa_cons (pe_ci c.toTake) (pa_cons (pv 7) (pa_cons (pv 6) (pa_cons (pv 3) (pa_cons (pv 4) pa_nil)))))))
          pa_nil))) (pss_one (ps_ret pe_bl)) pss_nil)))
      (pss_one (ps_ret pe_bl)))), ?_⟩
    refine ⟨_, rfl, _, rfl, _, rfl, three_le, fun t1 n1 => ?_⟩
    have a1 : Same H (upd H t1 (.tup (edV ⟨x, y, r⟩))) := same_upd n1
    refine ⟨_, rfl, edD ⟨x, y, r⟩, Es.map edD, dp_edge_of (SqT.of upd_same), ((le_of_same a1).eds hE).dp, edD_shaped _, edDs_shaped Es, _, rfl, ?_⟩
    show if ((Es.map edD).any fun z => PyData.eqv z (edD ⟨x, y, r⟩)) = true then _ else _
    rw [edDs_any]
    refine ite2 (fun b => ?_) (fun b => ?_)
    · have hb : (⟨x, y, r⟩ : Edge) ∈ Es := of_decide_eq_true b
      have e : pB (St Es S r x y) = false := pB_of ⟨fun z => (nomatch z), fun z => absurd hb z.1⟩
      rw [e] at q
      exact q _ a1
    · have hno : (⟨x, y, r⟩ : Edge) ∉ Es := fun z => b (decide_eq_true z)
      refine ⟨_, rfl, _, rfl, _, rfl, x, sa, ea, S, Es, rfl, (le_of_same a1).sqL hS, (le_of_same a1).eds hE, hlS, hlE, hnE, fun H1 p s1 np hp => ?_⟩
      have a2 := a1.trans s1
      refine ⟨_, rfl, _, rfl, _, rfl, y, r, ea, Es, rfl, (le_of_same a2).eds hE, hlE, fun H2 o s2 no ho => ?_⟩
      have a3 := a2.trans s2
      have hp2 := s2 _ _ hp
      have hlb : (bringersL Es S x).length ≤ S.length := List.length_filter_le _ _
      refine ⟨o, rfl, ⟨_, SqL.of ho⟩, for_list (K := K) (a := o) (xs := nv (holdersL y r Es))
        (fun i σ H' => ∃ y6 : Option V, σ = [some (iv r), some (iv x), some (iv y), some (.ref sa), some (.ref ea), some (.ref p), y6, none] ∧ Same H2 H' ∧ ∀ s ∈ (holdersL y r Es).take i, ∀ u, Br Es S x u → ¬ Cb Es S 0 u s)
        ⟨none, rfl, Same.refl _, fun s hs => by rw [List.take_zero] at hs; cases hs⟩ (fun i σ H' _ ⟨_, _, s6, _⟩ => SqL.of (s6 _ _ ho)) ?_ ?_⟩
      · rintro i v σ H3 hv ⟨y6, rfl, s3, hprev⟩
        obtain ⟨n, hn, rfl⟩ := nv_get hv
        have hnE2 : (⟨n, y, r⟩ : Edge) ∈ Es := mem_holdersL.mp (List.mem_of_getElem? hn)
        have a4 := a3.trans s3
        refine ⟨_, rfl, p, rfl, ⟨_, SqL.of (s3 _ _ hp2)⟩, fun D nD => ?_⟩
        refine lc_list (K := K) (a := p) (xs := nv (bringersL Es S x)) (fun i H' => Same H3 H' ∧ H' D = some (.lst ((((bringersL Es S x).take i).map fun u => pB (Cb Es S 0 u n)).map V.bl))) ⟨same_upd nD, upd_same⟩ (fun i H' _ z => SqL.of (z.1 _ _ (s3 _ _ hp2))) ?_ ?_
        · rintro k z H4 hz ⟨s4, hD⟩
          obtain ⟨u, hu, rfl⟩ := nv_get hz
          refine ⟨rfl, ?_⟩
          have a5 := a4.trans s4
          refine ⟨_, rfl, _, rfl, _, rfl, _, rfl, 0, u, n, sa, ea, S, Es, rfl, (le_of_same a5).sqL hS, (le_of_same a5).eds hE, hlS, hlE, fun H5 s5 => ?_⟩
          refine ⟨_, s5 _ _ hD, ?_, fun b' o' e => ?_, ?_⟩
          · rw [List.length_map, List.length_map, List.length_take]
            exact lt_line (by omega)
          · rw [upd_ne (ne_of_none e nD)]
            exact s5 _ _ (s4 _ _ e)
          · rw [upd_same, take_more hu, List.map_append, List.map_append]
            rfl
        · rintro H4 ⟨s4, hD⟩
          rw [nv_len, List.take_length] at hD
          refine ⟨D, _, rfl, SqL.of hD, ?_⟩
          rw [any_id]
          refine ⟨_, rfl, ite2 (fun b => ?_) (fun b => ?_)⟩
          · obtain ⟨u, hu1, hu2⟩ := List.any_eq_true.mp b
            have e : pB (St Es S r x y) = true := pB_iff.mpr ⟨hno, u, n, hnE2, mem_bringersL.mp hu1, pB_iff.mp hu2⟩
            rw [e] at q
            exact q _ (a4.trans s4)
          · refine ⟨_, rfl, s3.trans s4, fun s hs u hu hc => ?_⟩
            rw [take_more hn] at hs
            rcases List.mem_append.mp hs with m | m
            · exact hprev s m u hu hc
            · rw [List.mem_singleton.mp m] at hc
              exact b (List.any_eq_true.mpr ⟨u, mem_bringersL.mpr hu, pB_iff.mpr hc⟩)
      · rintro σ H3 ⟨y6, rfl, s3, hall⟩
        rw [nv_len, List.take_length] at hall
        have e : pB (St Es S r x y) = false := pB_of ⟨fun z => (nomatch z), fun z => by
          obtain ⟨_, u, s, h1, h2, h3⟩ := z
          exact absurd h3 (hall s (mem_holdersL.mpr h1) u h2)⟩
        rw [e] at q
        exact q _ (a3.trans s3)
end
end Tg

set_option Elab.async false
set_option linter.all false
set_option maxRecDepth 100000
set_option maxHeartbeats 1000000
namespace Tg
open PySem PySem.Spec PyProof.Rows L2
open Wm02 (Edge Graph choices)
theorem nat_back : ∀ {ns : List Int}, (∀ z ∈ ns, ∃ n : Nat, z = (n : Int)) → (ns.map Int.toNat).map (fun n : Nat => (n : Int)) = ns
  | [], _ => rfl
  | z :: ns, h => by
    obtain ⟨n, rfl⟩ := h z List.mem_cons_self
    rw [List.map_cons, List.map_cons, nat_back fun y hy => h y (List.mem_cons_of_mem _ hy)]
    rfl
theorem sorted_ints {o : List Nat} {i : Nat} {ns : List Int} (hp : ns.Perm ((o ++ [i]).map fun n : Nat => (n : Int))) (hs : ns.Pairwise (· ≤ ·)) (ho : o.Pairwise (· < ·)) (hi : i ∉ o) : ns = (ins i o).map fun n : Nat => (n : Int) := by
  have e1 := nat_back (ns := ns) fun z hz => by
    obtain ⟨n, _, e⟩ := List.mem_map.mp (hp.mem_iff.mp hz)
    exact ⟨n, e.symm⟩
  have p2 : (ns.map Int.toNat).Perm (o ++ [i]) := by
    have h := hp.map Int.toNat
    rw [List.map_map] at h
    have e : (o ++ [i]).map (Int.toNat ∘ fun n : Nat => (n : Int)) = o ++ [i] := by
      have : (Int.toNat ∘ fun n : Nat => (n : Int)) = id := by
        funext n
        rfl
      rw [this, List.map_id]
    rw [e] at h
    exact h
  have s2 : (ns.map Int.toNat).Pairwise (· ≤ ·) := List.pairwise_map.mpr (hs.imp fun {a b} h => by omega)
  have e2 := sorted_eq s2 ((ins_inc ho hi).imp fun {a b} h => Nat.le_of_lt h) (p2.trans ins_perm.symm)
  rw [← e1, e2]
section
variable {P : Program} {w : World} {K : PySem.W.Frag} {mg : Str → Option Value} {base : Heap}
/-- a row of places, or None -/
def RV (H : Hp) (v : V) : Option (List Nat) → Prop
  | none => v = .non
  | some row => ∃ p, v = .ref p ∧ H p = some (.lst (nv row))
theorem RV.same {H H' : Hp} (sm : Same H H') {v : V} : ∀ {o : Option (List Nat)}, RV H v o → RV H' v o
  | none, h => h
  | some _, ⟨p, h1, h2⟩ => ⟨p, h1, sm _ _ h2⟩
theorem scFirst : FnScope ["count", "start", "goal", "links", "gone", "edges", "needed", "first", "edge", "others", "row"] ["count", "start", "goal", "links", "gone", "edges"] (defScope sFirstRow) := ⟨rfl, rfl, rfl, by decide +kernel, rfl, by decide +kernel, by decide +kernel⟩
def spFirst (K : PySem.W.Frag) (n : Nat) : Sp := fun vs H Q _ => ∃ (sa ta d ga ea : Addr) (s t : Pl) (L : List Lk) (G E : List Edge) (gts : List V), vs = [iv n, .ref sa, .ref ta, .ref d, .ref ga, .ref ea] ∧ H sa = some (.tup (plV s)) ∧ H ta = some (.tup (plV t)) ∧ LR H d L ∧
  H ga = some (.lst gts) ∧ Tups K H gts G ∧ Eds K H ea E ∧ E.Nodup ∧ E.length ≤ 1000 ∧ L.length ≤ 10000 ∧ (∀ a b z, (a, b, some z) ∈ L → z ∈ E) ∧ G.length + n ≤ 1000 ∧ n ≤ 10 ∧ Needs L s t n G ∧
  ∀ H' v o, Same H H' → RV H' v o → RowOk L s t E n G o → Q v H'
def spRec (K : PySem.W.Frag) : Nat → Sp
  | 0 => fun _ _ _ _ => False
  | m + 1 => spFirst K m
theorem ok_first1 {f fW : Addr} {fd fdW : FuncData} {n : Nat} (F : Fun K "first_row" "first_row" sFirstRow f fd) (b : Binds K fd ["count", "start", "goal", "links", "gone", "edges"] []) (g : mg "first_row" = some (.ref f)) (GR : FnOk P w K mg base CX0 (n + 1) f fd ["count", "start", "goal", "links", "gone", "edges"] (spRec K n))
    (FW : Fun K "walk" "walk" sWalk fW fdW) (bW : Binds K fdW ["start", "links", "gone"] []) (gW : mg "walk" = some (.ref fW)) (ml : mg "len" = none) (ms : mg "sorted" = none) : FnOk P w K mg base CX0 (n + 2) f fd ["count", "start", "goal", "links", "gone", "edges"] (spFirst K n) := by
  have GW : FnOk P w K mg base CX0 (n + 1) fW fdW ["start", "links", "gone"] (spWalk K) := ok_walk FW ml
  refine F.ok scFirst (fun vs H Q E h => ?_) (fun cdv A outer s H vs Q E hr h => ?_)
  · obtain ⟨sa, ta, d, ga, ea, s, t, L, G, E, gts, rfl, _⟩ := h
    rfl
  · obtain ⟨sa, ta, d, ga, ea, s, t, L, G, Es, gts, rfl, hsa, hta, hL, hga, hgt, hE, hnE, hlE, hlL, hLE, hlG, hn10, hN, q⟩ := h
    have hu := hu_of hr
    have hu0 : _ < cLine := Nat.lt_of_succ_lt hu
    refine ⟨_, pss_cons (ps_set (i := 6) scFirst.nd rfl (Or.inl rfl) (pe_dget1 hu (pe_call GW hr (by rfl) gW FW.kp bW .nil pass0 (pa_cons (pv 1) (pa_cons (pv 3) (pa_cons (pv 4) pa_nil)))) (pv 2) ⟨rfl, rfl, rfl, rfl⟩))
      (pss_cons (ps_if (pt_cmpR op_isN (pv 6) pe_non (nomark _)) (pss_one (ps_ret (pe_lst pa_nil))) pss_nil)
      (pss_cons (ps_if (pt_cmpR op_eq (pv 0) pe_int (nomark _)) (pss_one (ps_ret pe_non)) pss_nil)
      (pss_cons (ps_set (i := 7) scFirst.nd rfl (Or.inl rfl) pe_non)
      (pss_cons (ps_for PassesOwn.never rfl (pi_list (pv 6)) (pg_name (i := 8) scFirst.nd rfl (Or.inl rfl))
        (pss_cons (ps_set (i := 9) scFirst.nd rfl (Or.inl rfl) (pe_call GR hr (by rfl) g F.kp b .nil pass0 (pa_cons (pe_op op_sub (pv 0) pe_int) (pa_cons (pv 1) (pa_cons (pv 2) (pa_cons (pv 3) (pa_cons (pe_op op_cat (pv 4) (pe_lst (pa_cons (pv 8) pa_nil))) (pa_cons (pv 5) pa_nil))))))))
        (pss_one (ps_if (pt_cmpR op_notN (pv 9) pe_non (nomark _))
          (pss_cons (ps_set (i := 10) scFirst.nd rfl (Or.inl rfl) (pe_callB cr_sorted (by rfl) ms (by decide +kernel) (pa_cons (pe_op op_cat (pv 9) (pe_lst (pa_cons (pe_bm PySem.F.plainAttrs_list PySem.F.slot_list_index PySem.F.type_list_index (mt_indexD (u65 hr)) (pv 5) (pa_cons (pv 8) pa_nil)) pa_nil))) pa_nil)))
          (pss_one (ps_if (PW.pt (pw_or (pt_cmpR op_isN (pv 7) pe_non (nomark _)) (pw_or1 (pt_cmpR (op_ltL hu0) (pv 10) (pv 7) (nomark _))))) (pss_one (ps_set (i := 7) scFirst.nd rfl (Or.inl rfl) (pv 10))) pss_nil))) pss_nil))))
      (pss_one (ps_ret (pv 7))))))), ?_⟩
    -- needed = walk(start, links, gone).get(goal)
    refine ⟨_, rfl, _, rfl, _, rfl, sa, d, ga, s, L, G, rfl, hsa, hL, ⟨gts, SqL.of hga, hgt⟩, hlL, fun H1 wd l s1 hW hl => ?_⟩
    obtain ⟨kvs, hk1, hk2⟩ := hW
    refine ⟨wd, rfl, .inr ⟨kvs, .inl hk1⟩, _, rfl, _, dgetP hk1 (s1 _ _ hta), ?_⟩
    refine ⟨_, rfl, rfl, _, rfl, ite2 (fun c1 => ?_) (fun c1 => ?_)⟩
    · -- there is no way
      have hcut : Cut L s t G := fun r => by
        rcases hk2 t with ⟨_, z⟩ | ⟨_, a, ts, W, z, _⟩
        · exact z ((hl t).mpr r)
        · rw [z] at c1
          have c1 := of_decide_eq_true c1
          cases c1
      obtain ⟨_, hrow⟩ := row_nil (E := Es) hN hcut
      exact ⟨Nat.zero_le _, fun p np => q _ _ (some []) (s1.trans (same_upd np)) ⟨p, rfl, upd_same⟩ hrow⟩
    · obtain ⟨wa, wts, W, hw1, hw2, hw3, hw4, hw5⟩ : ∃ a ts W, valV kvs (pk t) = some (.ref a) ∧ H1 a = some (.lst ts) ∧ Tups K H1 ts W ∧ Way L G s t W ∧ W.length ≤ 20000 := by
        rcases hk2 t with ⟨z, _⟩ | ⟨_, a, ts, W, z⟩
        · rw [z] at c1
          exact absurd (decide_eq_true rfl) c1
        · exact ⟨a, ts, W, z⟩
      have hncut : ¬ Cut L s t G := fun z => z hw4.rt
      rw [hw1]
      refine ⟨_, rfl, rfl, _, rfl, ite2 (fun c2 => ?_) (fun c2 => ?_)⟩
      · have c2 : n = 0 := iv_inj.mp (of_decide_eq_true c2)
        subst c2
        exact q H1 _ none s1 rfl (row_zero hncut)
      · have c2 : ¬ n = 0 := fun z => c2 (decide_eq_true (iv_inj.mpr z))
        obtain ⟨m, rfl⟩ : ∃ m, n = m + 1 := ⟨n - 1, by omega⟩
        have hWE : ∀ e ∈ W, e ∈ Es := fun e he => by
          obtain ⟨a, b, h⟩ := hw4.mem e he
          exact hLE a b e h
        refine ⟨_, rfl, wa, rfl, ⟨_, SqL.of hw2⟩, for_list (K := K) (a := wa) (xs := wts)
          (fun i σ H' => ∃ (v7 : V) (y8 y9 y10 : Option V) (o : Option (List Nat)), σ = [some (iv (m + 1)), some (.ref sa), some (.ref ta), some (.ref d), some (.ref ga), some (.ref ea), some (.ref wa), some v7, y8, y9, y10] ∧ Same H1 H' ∧ RV H' v7 o ∧ PartOk L s t Es (m + 1) G (W.take i) o)
          ⟨.non, none, none, none, none, rfl, Same.refl _, rfl, part_zero⟩ (fun i σ H' _ ⟨_, _, _, _, _, _, s6, _⟩ => SqL.of (s6 _ _ hw2)) ?_ ?_⟩
        · rintro i x σ H2 hx ⟨v7, y8, y9, y10, o7, rfl, s2, hv7, hpart⟩
          obtain ⟨e, et, he, rfl, het⟩ := hw3.get hx
          have sA := s1.trans s2
          have hmore := take_more he
          obtain ⟨k, hk, ek⟩ := List.mem_iff_getElem.mp (hWE e (List.mem_of_getElem? he))
          have hk : Es[k]? = some e := by
            rw [List.getElem?_eq_getElem hk, ek]
          have het2 := (le_of_same s2).sqT het
          -- gone + [edge]
          refine ⟨_, rfl, _, _, rfl, rfl, _, rfl, _, rfl, _, rfl, _, rfl, _, rfl, by show 1 ≤ sizeLine; decide, fun p1 n1 => ?_⟩
          have b1 : Same H2 (upd H2 p1 (.lst [.ref et])) := same_upd n1
          refine ⟨ga, p1, gts, [.ref et], rfl, rfl, b1 _ _ (sA _ _ hga), upd_same, ?_, fun p2 n2 => ?_⟩
          · rw [hgt.len]
            show G.length + 1 ≤ sizeLine
            exact Nat.le_of_lt (lt_line (by omega))
          have b2 : Same H2 (upd (upd H2 p1 (.lst [.ref et])) p2 (.lst (gts ++ [.ref et]))) := b1.trans (same_upd n2)
          have sB := sA.trans b2
          have ecount : V.int (((m + 1 : Nat) : Int) - 1) = iv m := by
            unfold iv
            congr 1
            omega
          refine ⟨_, rfl, sa, ta, d, p2, ea, s, t, L, G ++ [e], Es, gts ++ [.ref et], ?_, sB _ _ hsa, sB _ _ hta, hL.same sB, upd_same, ((KeepR.of_same sB).tups hgt).app (.cons (dp_edge_of ((le_of_same b2).sqT het2)) .nil), (le_of_same sB).eds hE, hnE, hlE, hlL, hLE, ?_, by omega, needs_next hN, fun H3 v9 o9 s3 hv9 hrow => ?_⟩
          · rw [← ecount]
            rfl
          · rw [List.length_append]
            simp only [List.length_cons, List.length_nil]
            omega
          have sC := sB.trans s3
          have s12 : Same H1 H3 := s2.trans (b2.trans s3)
          have hv7' : RV H3 v7 o7 := RV.same (b2.trans s3) hv7
          refine ⟨_, rfl, rfl, _, rfl, ite2 (fun c3 => ?_) (fun c3 => ?_)⟩
          · -- others is not None
            have c3 : ¬ v9 = .non := fun z => by
              rw [z] at c3
              exact absurd c3 (by decide)
            cases o9 with
            | none => exact absurd hv9 c3
            | some o =>
              obtain ⟨oa, rfl, hoa⟩ := hv9
              obtain ⟨hko, hrow2, _, _⟩ := new_row hnE hk hN hrow
              obtain ⟨o1, o2, o3⟩ := mem_rows.mp hrow.1
              refine ⟨_, rfl, _, rfl, .inl ⟨rfl, _, ((le_of_same sC).eds hE).choose_spec.1⟩, _, rfl, ea, .ref et, edD e, Es.map edD, k, edD e, rfl, rfl, ((le_of_same sC).eds hE).dp, dp_edge_of ((le_of_same (b2.trans s3)).sqT het2), edDs_shaped Es, edD_shaped e, ?_, ?_, fun j z hj hz => ?_, ?_⟩
              · rw [List.getElem?_map, hk]
                rfl
              · rw [edD_eqv, decide_eq_true rfl]
              · rw [List.getElem?_map] at hz
                obtain ⟨e', he', rfl⟩ := Option.map_eq_some_iff.mp hz
                rw [edD_eqv]
                refine decide_eq_false fun w => ?_
                subst w
                have := place_one hnE hk (List.getElem?_eq_some_iff.mp he').1 (getD_of he')
                omega
              · refine ⟨by show 1 ≤ sizeLine; decide, fun p3 n3 => ?_⟩
                have d1 : Same H3 (upd H3 p3 (.lst [.int (k : Int)])) := same_upd n3
                refine ⟨oa, p3, nv o, [.int (k : Int)], rfl, rfl, d1 _ _ hoa, upd_same, ?_, fun p4 n4 => ?_⟩
                · rw [nv_len, o3]
                  show m + 1 ≤ sizeLine
                  exact Nat.le_of_lt (lt_line (by omega))
                have d2 : Same H3 (upd (upd H3 p3 (.lst [.int (k : Int)])) p4 (.lst (nv o ++ [.int (k : Int)]))) := d1.trans (same_upd n4)
                refine ⟨p4, (o ++ [k]).map fun n : Nat => (n : Int), rfl, ?_, ?_, fun ns' p5 hperm hsort n5 => ?_⟩
                · have e : ((o ++ [k]).map fun n : Nat => (n : Int)).map V.int = nv o ++ [.int (k : Int)] := by
                    rw [List.map_map, List.map_append]
                    rfl
                  rw [e]
                  exact SqL.of upd_same
                · rw [List.length_map, List.length_append, o3]
                  simp only [List.length_cons, List.length_nil]
                  omega
                have ens : ns'.map V.int = nv (ins k o) := by
                  rw [sorted_ints hperm hsort o1 hko, List.map_map]
                  rfl
                rw [ens]
                have d3 : Same H3 (upd (upd (upd H3 p3 (.lst [.int (k : Int)])) p4 (.lst (nv o ++ [.int (k : Int)]))) p5 (.lst (nv (ins k o)))) := d2.trans (same_upd n5)
                have hv7'' := RV.same d3 hv7'
                refine ⟨_, rfl, rfl, _, rfl, ite2 (fun c4 => ?_) (fun c4 => ?_)⟩
                · -- first is None
                  have e7 : v7 = .non := of_decide_eq_true c4
                  have eo : o7 = none := by
                    cases o7 with
                    | none => rfl
                    | some z =>
                      obtain ⟨p, z1, _⟩ := hv7''
                      rw [z1] at e7
                      cases e7
                  subst eo
                  refine iteT ⟨_, rfl, ?_⟩
                  refine ⟨_, _, _, _, some (ins k o), rfl, s12.trans d3, ⟨p5, rfl, upd_same⟩, ?_⟩
                  rw [hmore]
                  exact part_first hnE hk hN hrow hpart
                · have e7 : ¬ v7 = .non := fun z => c4 (decide_eq_true z)
                  cases o7 with
                  | none => exact absurd hv7'' e7
                  | some row =>
                    obtain ⟨fa, rfl, hfa⟩ := hv7''
                    refine ⟨_, rfl, _, rfl, p5, fa, ins k o, row, rfl, rfl, SqL.of upd_same, SqL.of hfa, _, rfl, ite2 (fun c5 => ?_) (fun c5 => ?_)⟩
                    · refine ⟨_, rfl, ?_⟩
                      refine ⟨_, _, _, _, some (ins k o), rfl, s12.trans d3, ⟨p5, rfl, upd_same⟩, ?_⟩
                      rw [hmore]
                      exact part_less hnE hk hN hrow hpart c5
                    · refine ⟨_, _, _, _, some row, rfl, s12.trans d3, ⟨fa, rfl, hfa⟩, ?_⟩
                      rw [hmore]
                      exact part_more hnE hk hN hrow hpart (by simpa using c5)
          · have c3 : v9 = .non := Classical.byContradiction fun z => c3 (by rw [decide_eq_false z]; rfl)
            have eo : o9 = none := by
              cases o9 with
              | none => rfl
              | some z =>
                obtain ⟨p, z1, _⟩ := hv9
                rw [z1] at c3
                cases c3
            subst eo
            refine ⟨_, _, _, _, o7, rfl, s12, hv7', ?_⟩
            rw [hmore]
            exact part_none hnE hk hrow hpart
        · rintro σ H2 ⟨v7, y8, y9, y10, o7, rfl, s2, hv7, hpart⟩
          rw [hw3.len, List.take_length] at hpart
          exact ⟨_, rfl, q H2 v7 o7 (s1.trans s2) hv7 (part_done hw4 hpart)⟩
theorem ok_first {f fW : Addr} {fd fdW : FuncData} (F : Fun K "first_row" "first_row" sFirstRow f fd) (b : Binds K fd ["count", "start", "goal", "links", "gone", "edges"] []) (g : mg "first_row" = some (.ref f))
    (FW : Fun K "walk" "walk" sWalk fW fdW) (bW : Binds K fdW ["start", "links", "gone"] []) (gW : mg "walk" = some (.ref fW)) (ml : mg "len" = none) (ms : mg "sorted" = none) : ∀ n, FnOk P w K mg base CX0 (n + 2) f fd ["count", "start", "goal", "links", "gone", "edges"] (spFirst K n)
  | 0 => ok_first1 F b g (F.ok scFirst (fun vs H Q E h => h.elim) (fun cdv A outer s H vs Q E hr h => h.elim)) FW bW gW ml ms
  | n + 1 => ok_first1 F b g (ok_first F b g FW bW gW ml ms n) FW bW gW ml ms
end
end Tg

set_option Elab.async false
set_option linter.all false
set_option maxRecDepth 100000
set_option maxHeartbeats 1000000
namespace Tg
open PySem PySem.Spec PyProof.Rows L2
open Wm02 (Edge Graph choices)
section
variable {P : Program} {w : World} {K : PySem.W.Frag} {mg : Str → Option Value} {base : Heap}
/-- a list of edges, or None -/
def EV (K : PySem.W.Frag) (H : Hp) (v : V) : Option (List Edge) → Prop
  | none => v = .non
  | some F => ∃ p ts, v = .ref p ∧ H p = some (.lst ts) ∧ Tups K H ts F
def FewOk (L : List Lk) (s t : Pl) (E : List Edge) (o : Option (List Edge)) : Prop := (o = none ∧ ∀ c, c < 4 → RowOk L s t E c [] none) ∨ ∃ c row, c < 4 ∧ o = some (eds E row) ∧ (∀ c', c' < c → RowOk L s t E c' [] none) ∧ RowOk L s t E c [] (some row)
theorem few_spec {g : Graph} (w : Wd g) {r x y : Nat} {o : Option (List Edge)} (h : FewOk (allL r x y (subs g) g.edges) (x, 2) (y, 3) g.edges o) : Wm02.fewest g r x y = o := by
  rw [fewest_eq]
  rcases h with ⟨rfl, h⟩ | ⟨c, row, hc, rfl, h1, h2⟩
  · rw [rows_none w (h 0 (by omega)), rows_none w (h 1 (by omega)), rows_none w (h 2 (by omega)), rows_none w (h 3 (by omega))]
    rfl
  · have hs := rows_some w h2
    match c, hc with
    | 0, _ =>
      rw [hs]
      rfl
    | 1, _ =>
      rw [rows_none w (h1 0 (by omega)), hs]
      rfl
    | 2, _ =>
      rw [rows_none w (h1 0 (by omega)), rows_none w (h1 1 (by omega)), hs]
      rfl
    | 3, _ =>
      rw [rows_none w (h1 0 (by omega)), rows_none w (h1 1 (by omega)), rows_none w (h1 2 (by omega)), hs]
      rfl
theorem Tups.at {H : Hp} : ∀ {ts : List V} {E : List Edge} {i : Nat} {e : Edge}, Tups K H ts E → E[i]? = some e → ∃ v, ts[i]? = some v ∧ Tups K H [v] [e]
  | [], [], i, e, _, h => by simp at h
  | [], _ :: _, _, _, h, _ => by
    have h : DpAll K H [] (_ :: _) := h
    cases h
  | _ :: _, [], _, _, h, _ => by
    have h : DpAll K H (_ :: _) [] := h
    cases h
  | t :: ts, a :: E, 0, e, h, k => by
    cases (show some a = some e from k)
    have h : DpAll K H (t :: ts) (edD a :: E.map edD) := h
    cases h with
    | cons h1 h2 => exact ⟨t, rfl, .cons h1 .nil⟩
  | t :: ts, a :: E, i + 1, e, h, k => by
    have h : DpAll K H (t :: ts) (edD a :: E.map edD) := h
    cases h with
    | cons h1 h2 =>
      have h3 : Tups K H ts E := h2
      exact Tups.at (i := i) h3 (by simpa using k)
theorem scFew : FnScope ["r", "x", "y", "subjects", "edges", "links", "count", "row", "place"] ["r", "x", "y", "subjects", "edges"] (defScope sFewestE) := ⟨rfl, rfl, rfl, by decide +kernel, rfl, by decide +kernel, by decide +kernel⟩
def spFew (K : PySem.W.Frag) : Sp := fun vs H Q _ => ∃ (r x y : Nat) (sa ea : Addr) (S : List Nat) (E : List Edge), vs = [iv r, iv x, iv y, .ref sa, .ref ea] ∧ SqL K H sa (nv S) ∧ Eds K H ea E ∧ S.length ≤ 1000 ∧ E.length ≤ 1000 ∧ E.Nodup ∧
  ∀ H' v o, Same H H' → EV K H' v o → FewOk (allL r x y S E) (x, 2) (y, 3) E o → Q v H'
theorem ok_few {f fL fW fR : Addr} {fd fdL fdW fdR : FuncData} (F : Fun K "fewest_edges" "fewest_edges" sFewestE f fd) (FL : Fun K "all_links" "all_links" sAllLinks fL fdL) (bL : Binds K fdL ["r", "x", "y", "subjects", "edges"] []) (gL : mg "all_links" = some (.ref fL)) (GL : FnOk P w K mg base CX0 3 fL fdL ["r", "x", "y", "subjects", "edges"] (spAllL K))
    (FR : Fun K "first_row" "first_row" sFirstRow fR fdR) (bR : Binds K fdR ["count", "start", "goal", "links", "gone", "edges"] []) (gR : mg "first_row" = some (.ref fR))
    (FW : Fun K "walk" "walk" sWalk fW fdW) (bW : Binds K fdW ["start", "links", "gone"] []) (gW : mg "walk" = some (.ref fW)) (ml : mg "len" = none) (ms : mg "sorted" = none) (mr : mg "range" = none) (mc : IsI mg "MOST_CUT" 3) (c : CstR mg) : FnOk P w K mg base CX0 6 f fd ["r", "x", "y", "subjects", "edges"] (spFew K) := by
  have G0 : ∀ n, FnOk P w K mg base CX0 (n + 2) fR fdR ["count", "start", "goal", "links", "gone", "edges"] (spFirst K n) := ok_first FR bR gR FW bW gW ml ms
  have GR : FnOk P w K mg base CX0 5 fR fdR ["count", "start", "goal", "links", "gone", "edges"] (fun vs H Q E => ∃ n, n ≤ 3 ∧ spFirst K n vs H Q E) :=
    ⟨fun vs H Q E ⟨n, hn, h⟩ => (G0 n).len vs H Q E h, fun A outer s H args us vs Q E hr he hb hv ⟨n, hn, h⟩ => (G0 n).run A outer s H args us vs Q E (hr.mono (by omega)) he hb hv h⟩
  refine F.ok scFew (fun vs H Q E h => ?_) (fun cdv A outer s H vs Q E hr h => ?_)
  · obtain ⟨r, x, y, sa, ea, S, E, rfl, _⟩ := h
    rfl
  · obtain ⟨r, x, y, sa, ea, S, Es, rfl, hS, hE, hlS, hlE, hnE, q⟩ := h
    have hu := hu_of hr
    have hr3 : Room 3 _ := hr.mono (by decide)
    refine ⟨_, pss_cons (ps_set (i := 5) scFew.nd rfl (Or.inl rfl) (pe_call GL hr3 (by rfl) gL FL.kp bL .nil pass0 (pa_cons (pv 0) (pa_cons (pv 1) (pa_cons (pv 2) (pa_cons (pv 3) (pa_cons (pv 4) pa_nil)))))))
      (pss_cons (ps_for PassesOwn.never rfl (pi_range1 (by rfl) mr (pa_cons (pe_op op_add (pe_ci mc) pe_int) pa_nil)) (pg_name (i := 6) scFew.nd rfl (Or.inl rfl))
        (pss_cons (ps_set (i := 7) scFew.nd rfl (Or.inl rfl) (pe_call GR hr (by rfl) gR FR.kp bR .nil pass0 (pa_cons (pv 6) (pa_cons (pe_tup (pa_cons (pv 1) (pa_cons (pe_ci c.start) pa_nil))) (pa_cons (pe_tup (pa_cons (pv 2) (pa_cons (pe_ci c.goal) pa_nil))) (pa_cons (pv 5) (pa_cons (pe_lst pa_nil) (pa_cons (pv 4) pa_nil))))))))
        (pss_one (ps_if (pt_cmpR op_notN (pv 7) pe_non (nomark _))
          (pss_one (ps_ret (pe_lc (own := [("place", 8)]) (g := gName 8) (tt := tYes) (te := tOp (rIxL K) (tVar 4) (tVar 8)) rfl scFew.nd (pi_list (pv 7))
            (blkOk_by (own := [("place", 8)]) (N := ["r", "x", "y", "subjects", "edges", "links", "count", "row", "place"]) (sc := defScope sFewestE) (by decide +kernel))
            (fun _ _ _ _ _ => pg_name (i := 8) scFew.nd rfl (Or.inl rfl)) (fun _ _ _ _ _ => pts_nil)
            (fun _ _ _ _ _ => pe_ix ix_list (pv 4) (pv 8) (fun _ _ => rfl))))) pss_nil))))
      (pss_one (ps_ret pe_non))), ?_⟩
    refine ⟨_, rfl, _, rfl, _, rfl, _, rfl, _, rfl, r, x, y, sa, ea, S, Es, rfl, hS, hE, hlS, hlE, fun H1 d s1 hL => ?_⟩
    have hlL := allL_len r x y S Es
    refine ⟨_, _, rfl, rfl, 4, rfl, by decide, by decide, for_range (n := 4)
      (fun i σ H' => ∃ (y6 y7 : Option V), σ = [some (iv r), some (iv x), some (iv y), some (.ref sa), some (.ref ea), some (.ref d), y6, y7, none] ∧ Same H1 H' ∧ Needs (allL r x y S Es) (x, 2) (y, 3) i [] ∧ ∀ c', c' < i → RowOk (allL r x y S Es) (x, 2) (y, 3) Es c' [] none)
      ⟨none, none, rfl, Same.refl _, needs_zero, fun c' h => absurd h (Nat.not_lt_zero _)⟩ ?_ ?_⟩
    · rintro i σ H2 hi ⟨y6, y7, rfl, s2, hN, hprev⟩
      have ei : V.int (0 + (i : Int)) = iv i := by
        unfold iv
        congr 1
        omega
      rw [ei]
      have sA := s1.trans s2
      refine ⟨_, rfl, _, rfl, two_le, fun t1 n1 => ⟨_, rfl, two_le, fun t2 n2 => ⟨_, rfl, Nat.zero_le _, fun ga nga => ⟨_, rfl, ?_⟩⟩⟩⟩
      have a1 : Same H2 (upd H2 t1 (.tup (plV (x, 2)))) := same_upd n1
      have a2 : Same (upd H2 t1 (.tup (plV (x, 2)))) (upd (upd H2 t1 (.tup (plV (x, 2)))) t2 (.tup (plV (y, 3)))) := same_upd n2
      have a3 : Same (upd (upd H2 t1 (.tup (plV (x, 2)))) t2 (.tup (plV (y, 3)))) (upd (upd (upd H2 t1 (.tup (plV (x, 2)))) t2 (.tup (plV (y, 3)))) ga (.lst [])) := same_upd nga
      have sB := s2.trans (a1.trans (a2.trans a3))
      have hE3 := (le_of_same (s1.trans sB)).eds hE
      refine ⟨i, by omega, t1, t2, d, ga, ea, (x, 2), (y, 3), allL r x y S Es, [], Es, [], rfl, a3 _ _ (a2 _ _ upd_same), a3 _ _ upd_same, hL.same sB, upd_same, .nil, hE3, hnE, hlE, by omega, fun a b z h => allL_mem h, ?_, by omega, hN, fun H3 v o s3 hv hrow => ?_⟩
      · show 0 + i ≤ 1000
        omega
      have sC := s1.trans (sB.trans s3)
      refine ⟨_, rfl, rfl, _, rfl, ite2 (fun c1 => ?_) (fun c1 => ?_)⟩
      · have c1 : ¬ v = .non := fun z => by
          rw [z] at c1
          exact absurd c1 (by decide)
        cases o with
        | none => exact absurd hv c1
        | some row =>
          obtain ⟨p, rfl, hp⟩ := hv
          obtain ⟨ts, hts1, hts2⟩ := (le_of_same sC).eds hE
          obtain ⟨r1, r2, r3⟩ := mem_rows.mp hrow.1
          refine ⟨.ref p, rfl, p, rfl, ⟨_, SqL.of hp⟩, fun D nD => ?_⟩
          refine lc_list (K := K) (a := p) (xs := nv row) (fun k H' => Same H3 H' ∧ ∃ us, H' D = some (.lst us) ∧ Tups K H' us (eds Es (row.take k))) ⟨same_upd nD, [], upd_same, .nil⟩ (fun k H' _ z => SqL.of (z.1 _ _ hp)) ?_ ?_
          · rintro k z H4 hz ⟨s4, us, hD, hus⟩
            obtain ⟨n, hn, rfl⟩ := nv_get hz
            have hnl : n < Es.length := r2 n (List.mem_of_getElem? hn)
            have hkr : k < row.length := (List.getElem?_eq_some_iff.mp hn).1
            obtain ⟨u, hu1, hu2⟩ := hts2.at (List.getElem?_eq_getElem hnl)
            refine ⟨rfl, ?_⟩
            refine ⟨_, rfl, _, rfl, ea, ts, _, u, rfl, rfl, (le_of_same s4).sqL hts1, atI_nat hu1, us, hD, ?_, fun b' o' e => ?_, us ++ [u], upd_same, ?_⟩
            · rw [hus.len]
              unfold eds
              rw [List.length_map, List.length_take]
              exact lt_line (by omega)
            · rw [upd_ne (ne_of_none e nD)]
              exact s4 _ _ e
            · have e : eds Es (row.take (k + 1)) = eds Es (row.take k) ++ [Es[n]] := by
                unfold eds
                rw [take_more hn, List.map_append]
                congr 1
                show [Es.getD n ed0] = _
                rw [getD_of (List.getElem?_eq_getElem hnl)]
              rw [e]
              exact ((keepR_lst hD).tups hus).app ((keepR_lst hD).tups ((KeepR.of_same s4).tups hu2))
          · rintro H4 ⟨s4, us, hD, hus⟩
            rw [nv_len, List.take_length] at hus
            exact q H4 _ (some (eds Es row)) (sC.trans s4) ⟨D, us, rfl, hD, hus⟩ (.inr ⟨i, row, hi, rfl, hprev, hrow⟩)
      · have c1 : v = .non := Classical.byContradiction fun z => c1 (by rw [decide_eq_false z]; rfl)
        have eo : o = none := by
          cases o with
          | none => rfl
          | some z =>
            obtain ⟨p, z1, _⟩ := hv
            rw [z1] at c1
            cases c1
        subst eo
        refine ⟨_, _, rfl, sB.trans s3, needs_more (fun a b z h => allL_mem h) hnE hN hrow, fun c' hc' => ?_⟩
        by_cases e : c' = i
        · rw [e]
          exact hrow
        · exact hprev c' (by omega)
    · rintro σ H2 ⟨y6, y7, rfl, s2, hN, hprev⟩
      exact q H2 _ none (s1.trans s2) rfl (.inl ⟨rfl, hprev⟩)
end
end Tg

set_option Elab.async false
set_option linter.all false
set_option maxRecDepth 100000
set_option maxHeartbeats 1000000
namespace Tg
open PySem PySem.Spec PyProof.Rows L2
open Wm02 (Edge Graph isThere isSubject edge add full flag)
abbrev sGraph : Stmt := topS 43
abbrev sInit : Stmt := inClass sGraph 0
abbrev sThere : Stmt := inClass sGraph 1
abbrev sSubj : Stmt := inClass sGraph 2
abbrev sOnes : Stmt := inClass sGraph 3
abbrev sSubs : Stmt := inClass sGraph 4
abbrev sHas : Stmt := inClass sGraph 5
abbrev sAddOne : Stmt := inClass sGraph 6
abbrev sAddEdge : Stmt := inClass sGraph 7
/-! ### the graph in the heap -/
def gF (kl el : Addr) : List (Str × V) := [("kinds", .ref kl), ("edges", .ref el)]
theorem lkp_eq {k : Str} {v : V} {r : List (Str × V)} : List.lookup k ((k, v) :: r) = some v := by
  simp only [List.lookup, beq_self_eq_true]
theorem lkp_ne {k k' : Str} {v : V} {r : List (Str × V)} (h : (k == k') = false) : List.lookup k ((k', v) :: r) = List.lookup k r := by
  simp only [List.lookup, h]
theorem gF_kinds (kl el : Addr) : (gF kl el).lookup ("kinds" : Str) = some (.ref kl) := lkp_eq
theorem gF_edges (kl el : Addr) : (gF kl el).lookup ("edges" : Str) = some (.ref el) := (lkp_ne (by decide +kernel)).trans lkp_eq
theorem gF_no {m : Str} (h1 : (m == ("kinds" : Str)) = false) (h2 : (m == ("edges" : Str)) = false) (kl el : Addr) : (gF kl el).lookup m = none := (lkp_ne h1).trans ((lkp_ne h2).trans rfl)
def kindsV (g : Graph) : List V := nv (g.subject.map flag)
structure GA (K : PySem.W.Frag) (C : Addr) (H : Hp) (a kl el : Addr) (g : Graph) : Prop where
  obj : ∃ dx, H a = some (.ins C dx (gF kl el))
  knd : H kl = some (.lst (kindsV g))
  eds : ∃ ts, H el = some (.lst ts) ∧ Tups K H ts g.edges
  ne : kl ≠ el
/-- all that was tracked, but the graph's two lists, is as it was -/
def Fr (kl el : Addr) (H H' : Hp) : Prop := ∀ b o, H b = some o → b ≠ kl → b ≠ el → H' b = some o
theorem Fr.of_same {kl el : Addr} {H H' : Hp} (s : Same H H') : Fr kl el H H' := fun b o e _ _ => s b o e
theorem Fr.trans {kl el : Addr} {H H1 H2 : Hp} (a : Fr kl el H H1) (b : Fr kl el H1 H2) : Fr kl el H H2 := fun c o e n1 n2 => b c o (a c o e n1 n2) n1 n2
section
variable {P : Program} {w : World} {K : PySem.W.Frag} {mg : Str → Option Value} {base : Heap} {C : Addr}
def LeT (H H' : Hp) : Prop := ∀ b xs, Rd H b (.tup xs) → Rd H' b (.tup xs)
theorem LeT.tups {H H' : Hp} (l : LeT H H') : ∀ {ts : List V} {E : List Edge}, Tups K H ts E → Tups K H' ts E
  | [], [], _ => .nil
  | [], _ :: _, h => by
    have h : DpAll K H [] (_ :: _) := h
    cases h
  | _ :: _, [], h => by
    have h : DpAll K H (_ :: _) [] := h
    cases h
  | t :: ts, e :: E, h => by
    have h : DpAll K H (t :: ts) (edD e :: E.map edD) := h
    cases h with
    | cons h1 h2 =>
      obtain ⟨b, rfl, sq⟩ := dp_edge h1
      have h3 : Tups K H ts E := h2
      exact .cons (dp_edge_of (sq.imp (l _ _) id)) (LeT.tups l h3)
theorem Fr.leT {kl el : Addr} {H H' : Hp} {xs ys : List V} (f : Fr kl el H H') (hk : H kl = some (.lst xs)) (he : H el = some (.lst ys)) : LeT H H' := fun b zs r => by
  rcases r with r | ⟨o, r⟩
  · exact .inl (f _ _ r (ne_of r hk (by intro z; cases z)) (ne_of r he (by intro z; cases z)))
  · exact .inr ⟨o, f _ _ r (ne_of r hk (by intro z; cases z)) (ne_of r he (by intro z; cases z))⟩
theorem GA.same {H H' : Hp} {a kl el : Addr} {g : Graph} (h : GA K C H a kl el g) (s : Same H H') : GA K C H' a kl el g := by
  obtain ⟨dx, h1⟩ := h.obj
  obtain ⟨ts, h2, h3⟩ := h.eds
  exact ⟨⟨dx, s _ _ h1⟩, s _ _ h.knd, ⟨ts, s _ _ h2, (le_of_same s).tups h3⟩, h.ne⟩
theorem GA.edsL {H : Hp} {a kl el : Addr} {g : Graph} (h : GA K C H a kl el g) : Eds K H el g.edges := by
  obtain ⟨ts, h2, h3⟩ := h.eds
  exact ⟨ts, SqL.of h2, h3⟩
theorem GA.kinds_len {g : Graph} : (kindsV g).length = g.subject.length := by
  unfold kindsV
  rw [nv_len, List.length_map]
/-- the kinds' list is changed -/
theorem GA.putKinds {H : Hp} {a kl el : Addr} {g : Graph} (h : GA K C H a kl el g) (l : List Bool) : GA K C (upd H kl (.lst (kindsV ⟨l, g.edges⟩))) a kl el ⟨l, g.edges⟩ ∧ Fr kl el H (upd H kl (.lst (kindsV ⟨l, g.edges⟩))) := by
  obtain ⟨dx, h1⟩ := h.obj
  obtain ⟨ts, h2, h3⟩ := h.eds
  have fr : Fr kl el H (upd H kl (.lst (kindsV ⟨l, g.edges⟩))) := fun b o e n1 _ => by
    rw [upd_ne n1]
    exact e
  refine ⟨⟨⟨dx, ?_⟩, upd_same, ⟨ts, ?_, (fr.leT h.knd h2).tups h3⟩, h.ne⟩, fr⟩
  · rw [upd_ne (ne_of h1 h.knd (by intro z; cases z))]
    exact h1
  · rw [upd_ne h.ne.symm]
    exact h2
/-- the edges' list is changed -/
theorem GA.putEdges {H : Hp} {a kl el : Addr} {g : Graph} (h : GA K C H a kl el g) {us : List V} {E : List Edge} (hu : Tups K H us E) : GA K C (upd H el (.lst us)) a kl el ⟨g.subject, E⟩ ∧ Fr kl el H (upd H el (.lst us)) := by
  obtain ⟨dx, h1⟩ := h.obj
  obtain ⟨ts, h2, h3⟩ := h.eds
  have fr : Fr kl el H (upd H el (.lst us)) := fun b o e _ n2 => by
    rw [upd_ne n2]
    exact e
  refine ⟨⟨⟨dx, ?_⟩, ?_, ⟨us, upd_same, (fr.leT h.knd h2).tups hu⟩, h.ne⟩, fr⟩
  · rw [upd_ne (ne_of h1 h2 (by intro z; cases z))]
    exact h1
  · rw [upd_ne h.ne]
    exact h.knd
/-- what the top has written of the class -/
structure Txt (K : PySem.W.Frag) (mg : Str → Option Value) (C : Addr) : Prop where
  cl : Cls K C
  nK : NoAttr K C "kinds"
  nE : NoAttr K C "edges"
  gC : mg "Graph" = some (.ref C)
/-! ### __init__ -/
theorem scInit : FnScope ["self"] ["self"] (defScope sInit) := ⟨rfl, rfl, rfl, by decide +kernel, rfl, by decide +kernel, by decide +kernel⟩
def spInit (K : PySem.W.Frag) (C : Addr) : Sp := fun vs H Q _ => ∃ (p dx : Addr), vs = [.ref p] ∧ H p = some (.ins C dx []) ∧
  ∀ (H' : Hp) (kl el : Addr), GA K C H' p kl el ⟨[], []⟩ → H kl = none → H el = none → (∀ b o, H b = some o → b ≠ p → H' b = some o) → Q .non H'
theorem put_eq (kl el : Addr) : putF "edges" (V.ref el) (putF "kinds" (V.ref kl) []) = gF kl el := by
  have h : putF "edges" (V.ref el) [(("kinds" : Str), V.ref kl)] = (("kinds" : Str), V.ref kl) :: putF "edges" (V.ref el) [] := if_neg (by decide +kernel)
  exact h
theorem ok_init {f : Addr} {fd : FuncData} {k : Nat} (F : Fun K "__init__" "Graph.__init__" sInit f fd) (T : Txt K mg C) : FnOk P w K mg base CX0 (k + 1) f fd ["self"] (spInit K C) := by
  refine F.ok scInit (fun vs H Q E h => ?_) (fun cdv A outer s H vs Q E hr h => ?_)
  · obtain ⟨p, dx, rfl, _⟩ := h
    rfl
  · obtain ⟨p, dx, rfl, hp, q⟩ := h
    refine ⟨_, pss_cons (ps_fld (pv 0) (pe_lst pa_nil) rfl) (pss_one (ps_fld (pv 0) (pe_lst pa_nil) rfl)), ?_⟩
    refine ⟨Nat.zero_le _, fun kl nk => ?_⟩
    have pk : p ≠ kl := ne_of_none hp nk
    refine ⟨_, rfl, p, C, dx, [], rfl, ?_, T.cl, T.nK, by show 0 < 1000; decide, ?_⟩
    · rw [upd_ne pk]
      exact hp
    · refine ⟨Nat.zero_le _, fun el ne => ?_⟩
      have hk2 : (upd (upd H kl (.lst [])) p (.ins C dx (putF "kinds" (V.ref kl) []))) kl = some (.lst []) := by
        rw [upd_ne pk.symm, upd_same]
      have ke : kl ≠ el := ne_of_none hk2 ne
      have pe : p ≠ el := ne_of_none (by exact upd_same) ne
      have neH : H el = none := by
        rw [upd_ne pe.symm, upd_ne ke.symm] at ne
        exact ne
      refine ⟨_, rfl, p, C, dx, putF "kinds" (V.ref kl) [], rfl, ?_, T.cl, T.nE, by show 1 < 1000; decide, ?_⟩
      · rw [upd_ne pe, upd_same]
      · refine q _ kl el ⟨⟨dx, ?_⟩, ?_, ⟨[], ?_, .nil⟩, ke⟩ nk neH fun b o e n => ?_
        · rw [upd_same, put_eq]
        · rw [upd_ne pk.symm, upd_ne ke]
          exact hk2
        · rw [upd_ne pe.symm, upd_same]
        · rw [upd_ne n, upd_ne (ne_of_none e neH), upd_ne n, upd_ne (ne_of_none e nk)]
          exact e
/-! ### is_there -/
theorem scThere : FnScope ["self", "x"] ["self", "x"] (defScope sThere) := ⟨rfl, rfl, rfl, by decide +kernel, rfl, by decide +kernel, by decide +kernel⟩
def spThere (K : PySem.W.Frag) (C : Addr) : Sp := fun vs H Q _ => ∃ (a kl el : Addr) (g : Graph) (x : Nat), vs = [.ref a, iv x] ∧ GA K C H a kl el g ∧ Q (.bl (isThere g x)) H
theorem ok_there {f : Addr} {fd : FuncData} {k : Nat} (F : Fun K "is_there" "Graph.is_there" sThere f fd) (T : Txt K mg C) (ml : mg "len" = none) : FnOk P w K mg base CX0 (k + 1) f fd ["self", "x"] (spThere K C) := by
  refine F.ok scThere (fun vs H Q E h => ?_) (fun cdv A outer s H vs Q E hr h => ?_)
  · obtain ⟨a, kl, el, g, x, rfl, _⟩ := h
    rfl
  · obtain ⟨a, kl, el, g, x, rfl, G, q⟩ := h
    obtain ⟨dx, ho⟩ := G.obj
    refine ⟨_, pss_one (ps_ret (pe_chain op_le op_le pe_int (pv 1) (pe_callB call_len_seq (by rfl) ml PySem.boot_len (pa_cons (pe_fld (pv 0) rfl) pa_nil)))), ?_⟩
    refine ⟨_, rfl, _, _, rfl, rfl, _, rfl, ite2 (fun c => ?_) (fun c => ?_)⟩
    · have c1 : 1 ≤ x := by
        have c := of_decide_eq_true c
        omega
      refine ⟨_, rfl, a, C, dx, _, _, rfl, ho, T.cl, T.nK, gF_kinds kl el, kl, _, rfl, .inl (SqL.of G.knd), _, _, rfl, rfl, ?_⟩
      have e : isThere g x = decide ((x : Int) ≤ ((kindsV g).length : Int)) := by
        unfold isThere
        rw [decide_eq_true c1, Bool.true_and, GA.kinds_len]
        exact decide_eq_decide.mpr (by omega)
      rw [e] at q
      exact q
    · have c1 : ¬ 1 ≤ x := fun z => c (decide_eq_true (by omega))
      have e : isThere g x = false := by
        unfold isThere
        rw [decide_eq_false c1, Bool.false_and]
      rw [e] at q
      exact q
/-! ### is_subject -/
theorem scSubj : FnScope ["self", "x"] ["self", "x"] (defScope sSubj) := ⟨rfl, rfl, rfl, by decide +kernel, rfl, by decide +kernel, by decide +kernel⟩
def spSubj (K : PySem.W.Frag) (C : Addr) : Sp := fun vs H Q _ => ∃ (a kl el : Addr) (g : Graph) (x : Nat), vs = [.ref a, iv x] ∧ GA K C H a kl el g ∧ Q (.bl (isSubject g x)) H
theorem flag_one (b : Bool) : decide (iv (flag b) = V.int 1) = b := by
  cases b with
  | true => exact decide_eq_true rfl
  | false =>
    refine decide_eq_false fun z => ?_
    have z : iv 0 = iv 1 := z
    exact absurd (iv_inj.mp z) (by decide)
theorem kinds_at {g : Graph} {x : Nat} (h : isThere g x = true) : atI (kindsV g) ((x : Int) - 1) = some (iv (flag (g.subject.getD (x - 1) false))) := by
  unfold isThere at h
  rw [Bool.and_eq_true, decide_eq_true_iff, decide_eq_true_iff] at h
  have hl : x - 1 < g.subject.length := by omega
  refine at_of (j := x - 1) (by omega) ?_
  unfold kindsV
  refine get_nv ?_
  rw [List.getElem?_map, List.getElem?_eq_getElem hl, List.getD_eq_getElem?_getD, List.getElem?_eq_getElem hl]
  rfl
theorem ok_subj {f fT : Addr} {fd fdT : FuncData} (F : Fun K "is_subject" "Graph.is_subject" sSubj f fd) (T : Txt K mg C) (mT : Meth K C "is_there" fT) (bT : Binds K fdT ["self", "x"] []) (GT : FnOk P w K mg base CX0 1 fT fdT ["self", "x"] (spThere K C)) :
    FnOk P w K mg base CX0 2 f fd ["self", "x"] (spSubj K C) := by
  refine F.ok scSubj (fun vs H Q E h => ?_) (fun cdv A outer s H vs Q E hr h => ?_)
  · obtain ⟨a, kl, el, g, x, rfl, _⟩ := h
    rfl
  · obtain ⟨a, kl, el, g, x, rfl, G, q⟩ := h
    obtain ⟨dx, ho⟩ := G.obj
    refine ⟨_, pss_one (ps_ret (pe_and (pe_meth (pv 0) T.cl mT GT hr bT .nil pass0 (pa_cons (pv 1) pa_nil))
      (pe_one (pe_cmpR op_eq (pe_ix ix_list (pe_fld (pv 0) rfl) (pe_op op_sub (pv 1) pe_int) (fun _ _ => rfl)) pe_int (nomark _))))), ?_⟩
    refine ⟨_, rfl, a, dx, _, rfl, ho, gF_no (by decide +kernel) (by decide +kernel) kl el, _, rfl, a, kl, el, g, x, rfl, G, _, rfl, ite2 (fun c => ?_) (fun c => ?_)⟩
    · refine ⟨_, rfl, a, C, dx, _, _, rfl, ho, T.cl, T.nK, gF_kinds kl el, _, rfl, _, _, rfl, rfl, kl, _, _, _, rfl, rfl, SqL.of G.knd, kinds_at c, rfl, ?_⟩
      rw [flag_one]
      have e : isSubject g x = g.subject.getD (x - 1) false := by
        unfold isSubject
        rw [c, Bool.true_and]
      rw [e] at q
      exact q
    · have e : isSubject g x = false := by
        unfold isSubject
        rw [Bool.eq_false_iff.mpr c, Bool.false_and]
      rw [e] at q
      exact q
/-! ### subjects -/
theorem scSubs : FnScope ["self", "number", "kind"] ["self"] (defScope sSubs) := ⟨rfl, rfl, rfl, by decide +kernel, rfl, by decide +kernel, by decide +kernel⟩
def subsT (g : Graph) (i : Nat) : List Nat := ((List.range i).map fun j => j + 1).filter fun u => g.subject.getD (u - 1) false
theorem subsT_more (g : Graph) (i : Nat) : subsT g (i + 1) = subsT g i ++ if g.subject.getD i false = true then [i + 1] else [] := by
  unfold subsT
  rw [List.range_succ, List.map_append, List.filter_append]
  congr 1
  show List.filter _ [i + 1] = _
  rw [List.filter_cons]
  rfl
theorem subsT_all (g : Graph) : subsT g g.subject.length = subs g := by
  unfold subsT subs
  refine List.filter_congr fun u hu => ?_
  have h : isThere g u = true := isThere_iff.mpr hu
  unfold isSubject
  rw [h, Bool.true_and]
theorem subsT_len (g : Graph) (i : Nat) : (subsT g i).length ≤ i := by
  unfold subsT
  refine Nat.le_trans (List.length_filter_le _ _) ?_
  rw [List.length_map, List.length_range]
  exact Nat.le_refl _
def spSubs (K : PySem.W.Frag) (C : Addr) : Sp := fun vs H Q _ => ∃ (a kl el : Addr) (g : Graph), vs = [.ref a] ∧ GA K C H a kl el g ∧ g.subject.length ≤ 1000 ∧
  ∀ H' p, Same H H' → H p = none → H' p = some (.lst (nv (subs g))) → Q (.ref p) H'
theorem ok_subs {f : Addr} {fd : FuncData} {k : Nat} (F : Fun K "subjects" "Graph.subjects" sSubs f fd) (T : Txt K mg C) (me : mg "enumerate" = none) : FnOk P w K mg base CX0 (k + 1) f fd ["self"] (spSubs K C) := by
  refine F.ok scSubs (fun vs H Q E h => ?_) (fun cdv A outer s H vs Q E hr h => ?_)
  · obtain ⟨a, kl, el, g, rfl, _⟩ := h
    rfl
  · obtain ⟨a, kl, el, g, rfl, G, hlen, q⟩ := h
    obtain ⟨dx, ho⟩ := G.obj
    refine ⟨_, pss_one (ps_ret (pe_lc (own := [("number", 1), ("kind", 2)]) (g := gTup K 2 (gCons (gName 1) (gCons (gName 2) gNil))) (tt := tTest (tOp rEq (tVar 2) (tC (.int 1)))) (te := tVar 1) rfl scSubs.nd
        (pi_enumS (c := 1) (by decide) (by decide) (by rfl) me (pa_cons (pe_fld (pv 0) rfl) pa_nil))
        (blkOk_by (own := [("number", 1), ("kind", 2)]) (N := ["self", "number", "kind"]) (sc := defScope sSubs) (by decide +kernel))
        (fun _ _ _ _ _ => pg_tup rfl (pgs_cons (pg_name (i := 1) scSubs.nd rfl (Or.inl rfl)) (pgs_cons (pg_name (i := 2) scSubs.nd rfl (Or.inl rfl)) pgs_nil)))
        (fun _ _ _ _ _ => pts_one (pt_cmpR op_eq (pv 2) pe_int (nomark _)))
        (fun _ _ _ _ _ => pv 1))), ?_⟩
    refine ⟨_, rfl, a, C, dx, _, _, rfl, ho, T.cl, T.nK, gF_kinds kl el, kl, _, rfl, SqL.of G.knd, fun D nD => ?_⟩
    refine lc_it (walk_enumS (xs := kindsV g)) (fun i H' => Same H H' ∧ H' D = some (.lst (nv (subsT g i)))) ⟨same_upd nD, upd_same⟩ (fun i H' _ z => SqL.of (z.1 _ _ G.knd)) ?_ ?_
    · rintro i v H1 H1' hi ⟨sm, hD⟩ ⟨t, y1, y2, rfl, nt, rfl, e1, e2⟩
      rw [GA.kinds_len] at hi
      have ey1 : y1 = iv (i + 1) := by
        have e1 := Option.some.inj e1
        rw [← e1]
        unfold iv
        congr 1
        omega
      have ey2 : y2 = iv (flag (g.subject.getD i false)) := by
        have e3 : (kindsV g)[i]? = some (iv (flag (g.subject.getD i false))) := by
          unfold kindsV
          refine get_nv ?_
          rw [List.getElem?_map, List.getElem?_eq_getElem hi, List.getD_eq_getElem?_getD, List.getElem?_eq_getElem hi]
          rfl
        exact Option.some.inj (e2.symm.trans e3)
      subst ey1 ey2
      have st : Same H1 (upd H1 t (.tup [iv (i + 1), iv (flag (g.subject.getD i false))])) := same_upd nt
      refine ⟨t, _, rfl, .inl (.inl upd_same), rfl, _, _, rfl, _, _, rfl, rfl, rfl, ?_⟩
      refine ⟨_, rfl, rfl, _, rfl, ?_⟩
      rw [flag_one]
      have more := subsT_more g i
      refine ite2 (fun c => ?_) (fun c => ?_)
      · refine ⟨_, rfl, _, st _ _ hD, ?_, fun b o e => ?_, ?_⟩
        · rw [nv_len]
          have := subsT_len g i
          exact small1000 (by omega)
        · rw [upd_ne (ne_of_none e nD)]
          exact st _ _ (sm _ _ e)
        · rw [upd_same, more, if_pos c, nv_app]
          rfl
      · refine ⟨sm.trans st, ?_⟩
        rw [more, if_neg c, List.append_nil]
        exact st _ _ hD
    · rintro H1 ⟨sm, hD⟩
      rw [GA.kinds_len, subsT_all] at hD
      exact q H1 D sm nD hD
/-! ### has -/
theorem scHas : FnScope ["self", "x", "y", "r"] ["self", "x", "y", "r"] (defScope sHas) := ⟨rfl, rfl, rfl, by decide +kernel, rfl, by decide +kernel, by decide +kernel⟩
def spHas (K : PySem.W.Frag) (C : Addr) : Sp := fun vs H Q _ => ∃ (a kl el : Addr) (g : Graph) (x y r : Nat), vs = [.ref a, iv x, iv y, iv r] ∧ GA K C H a kl el g ∧ ∀ H', Same H H' → Q (.bl (edge g x y r)) H'
theorem edge_dec (g : Graph) (x y r : Nat) : edge g x y r = decide ((⟨x, y, r⟩ : Edge) ∈ g.edges) := by
  unfold edge
  rw [List.contains_eq_mem]
theorem ok_has {f : Addr} {fd : FuncData} {k : Nat} (F : Fun K "has" "Graph.has" sHas f fd) (T : Txt K mg C) : FnOk P w K mg base CX0 (k + 1) f fd ["self", "x", "y", "r"] (spHas K C) := by
  refine F.ok scHas (fun vs H Q E h => ?_) (fun cdv A outer s H vs Q E hr h => ?_)
  · obtain ⟨a, kl, el, g, x, y, r, rfl, _⟩ := h
    rfl
  · obtain ⟨a, kl, el, g, x, y, r, rfl, G, q⟩ := h
    obtain ⟨dx, ho⟩ := G.obj
    refine ⟨_, pss_one (ps_ret (pe_cmpR (op_inD (u65 hr)) (pe_tup (pa_cons (pv 1) (pa_cons (pv 2) (pa_cons (pv 3) pa_nil)))) (pe_fld (pv 0) rfl) (by with_unfolding_all rfl))), ?_⟩
    refine ⟨_, rfl, _, rfl, _, rfl, by show 3 ≤ sizeLine; decide, fun t nt => ?_⟩
    have s1 : Same H (upd H t (.tup [iv x, iv y, iv r])) := same_upd nt
    refine ⟨_, rfl, a, C, dx, _, _, rfl, s1 _ _ ho, T.cl, T.nE, gF_edges kl el, edD ⟨x, y, r⟩, g.edges.map edD, dp_edge_of (.inl (.inl upd_same)), ((le_of_same s1).eds G.edsL).dp, edD_shaped _, edDs_shaped _, ?_⟩
    rw [edDs_any, ← edge_dec]
    exact q _ s1
/-! ### add_one -/
theorem scAddOne : FnScope ["self", "s"] ["self", "s"] (defScope sAddOne) := ⟨rfl, rfl, rfl, by decide +kernel, rfl, by decide +kernel, by decide +kernel⟩
def spAddOne (K : PySem.W.Frag) (C : Addr) : Sp := fun vs H Q _ => ∃ (a kl el : Addr) (g : Graph) (s : Nat), vs = [.ref a, iv s] ∧ GA K C H a kl el g ∧ s ≤ 1 ∧ g.subject.length ≤ 1000 ∧
  ∀ H', GA K C H' a kl el ⟨g.subject ++ [s == 1], g.edges⟩ → Fr kl el H H' → Q (iv (g.subject.length + 1)) H'
theorem flag_of {s : Nat} (h : s ≤ 1) : flag (s == 1) = s := by
  have : s = 0 ∨ s = 1 := by omega
  rcases this with rfl | rfl <;> rfl
theorem ok_addone {f : Addr} {fd : FuncData} {k : Nat} (F : Fun K "add_one" "Graph.add_one" sAddOne f fd) (T : Txt K mg C) (ml : mg "len" = none) : FnOk P w K mg base CX0 (k + 1) f fd ["self", "s"] (spAddOne K C) := by
  refine F.ok scAddOne (fun vs H Q E h => ?_) (fun cdv A outer s H vs Q E hr h => ?_)
  · obtain ⟨a, kl, el, g, s, rfl, _⟩ := h
    rfl
  · obtain ⟨a, kl, el, g, s1, rfl, G, hs, hlen, q⟩ := h
    obtain ⟨dx, ho⟩ := G.obj
    refine ⟨_, pss_cons (ps_expr (pe_bm PySem.F.plainAttrs_list PySem.F.slot_list_append PySem.F.type_list_append mt_append (pe_fld (pv 0) rfl) (pa_cons (pv 1) pa_nil)))
      (pss_one (ps_ret (pe_callB call_len_seq (by rfl) ml PySem.boot_len (pa_cons (pe_fld (pv 0) rfl) pa_nil)))), ?_⟩
    refine ⟨_, rfl, a, C, dx, _, _, rfl, ho, T.cl, T.nK, gF_kinds kl el, .inl ⟨rfl, _, SqL.of G.knd⟩, _, rfl, kl, _, _, rfl, rfl, G.knd, ?_, ?_⟩
    · rw [GA.kinds_len]
      exact small1000 hlen
    · have e : kindsV g ++ [iv s1] = kindsV ⟨g.subject ++ [s1 == 1], g.edges⟩ := by
        unfold kindsV
        rw [List.map_append, nv_app]
        congr 1
        show [iv s1] = [iv (flag (s1 == 1))]
        rw [flag_of hs]
      rw [e]
      obtain ⟨G2, fr⟩ := G.putKinds (g.subject ++ [s1 == 1])
      obtain ⟨dx2, ho2⟩ := G2.obj
      refine ⟨_, rfl, a, C, dx2, _, _, rfl, ho2, T.cl, T.nK, gF_kinds kl el, kl, _, rfl, .inl (SqL.of G2.knd), ?_⟩
      have e2 : V.int ((kindsV ⟨g.subject ++ [s1 == 1], g.edges⟩).length : Int) = iv (g.subject.length + 1) := by
        rw [GA.kinds_len]
        show V.int (((g.subject ++ [s1 == 1]).length : Nat) : Int) = _
        rw [List.length_append]
        rfl
      rw [e2]
      exact q _ G2 fr
/-! ### add_edge -/
theorem scAddEdge : FnScope ["self", "x", "y", "r"] ["self", "x", "y", "r"] (defScope sAddEdge) := ⟨rfl, rfl, rfl, by decide +kernel, rfl, by decide +kernel, by decide +kernel⟩
def spAddEdge (K : PySem.W.Frag) (C : Addr) : Sp := fun vs H Q _ => ∃ (a kl el : Addr) (g : Graph) (x y r : Nat), vs = [.ref a, iv x, iv y, iv r] ∧ GA K C H a kl el g ∧ g.edges.length ≤ 30 ∧
  (full (add g x y r) = true → ∀ H', GA K C H' a kl el g → Fr kl el H H' → Q (.int (-5)) H') ∧
  (full (add g x y r) = false → ∀ H', GA K C H' a kl el (add g x y r) → Fr kl el H H' → Q (iv (add g x y r).edges.length) H')
theorem ok_addedge {f fH : Addr} {fd fdH : FuncData} {t1 t2 : Tok} (F : Fun K "add_edge" "Graph.add_edge" sAddEdge f fd) (T : Txt K mg C) (mH : Meth K C "has" fH) (bH : Binds K fdH ["self", "x", "y", "r"] []) (GH : FnOk P w K mg base CX0 1 fH fdH ["self", "x", "y", "r"] (spHas K C))
    (ml : mg "len" = none) (mM : mg "MOST_EDGES" = some (.int 30 t1)) (mF : mg "FULL" = some (.int (-5) t2)) : FnOk P w K mg base CX0 2 f fd ["self", "x", "y", "r"] (spAddEdge K C) := by
  refine F.ok scAddEdge (fun vs H Q E h => ?_) (fun cdv A outer s H vs Q E hr h => ?_)
  · obtain ⟨a, kl, el, g, x, y, r, rfl, _⟩ := h
    rfl
  · obtain ⟨a, kl, el, g, x, y, r, rfl, G, hlen, qF, qN⟩ := h
    obtain ⟨dx, ho⟩ := G.obj
    refine ⟨_, pss_cons (ps_if (pt_not (pt_val (pe_meth (pv 0) T.cl mH GH hr bH .nil pass0 (pa_cons (pv 1) (pa_cons (pv 2) (pa_cons (pv 3) pa_nil))))))
        (pss_cons (ps_if (pt_cmpR op_eq (pe_callB call_len_seq (by rfl) ml PySem.boot_len (pa_cons (pe_fld (pv 0) rfl) pa_nil)) (pe_glob (v := .int 30) rfl mM ⟨_, rfl⟩) (nomark _)) (pss_one (ps_ret (pe_glob (v := .int (-5)) rfl mF ⟨_, rfl⟩))) pss_nil)
        (pss_one (ps_expr (pe_bm PySem.F.plainAttrs_list PySem.F.slot_list_append PySem.F.type_list_append mt_append (pe_fld (pv 0) rfl) (pa_cons (pe_tup (pa_cons (pv 1) (pa_cons (pv 2) (pa_cons (pv 3) pa_nil)))) pa_nil))))) pss_nil)
      (pss_one (ps_ret (pe_callB call_len_seq (by rfl) ml PySem.boot_len (pa_cons (pe_fld (pv 0) rfl) pa_nil)))), ?_⟩
    -- how it ends: len(self.edges)
    have fin : ∀ {H' : Hp}, full (add g x y r) = false → GA K C H' a kl el (add g x y r) → Fr kl el H H' → ∃ v, (some (some (V.ref a)) : Option (Option V)) = some (some v) ∧ ∃ a' C' dx' fs v', v = V.ref a' ∧ H' a' = some (.ins C' dx' fs) ∧ Cls K C' ∧ NoAttr K C' "edges" ∧ fs.lookup ("edges" : Str) = some v' ∧ ∃ p ys, [v'] = [V.ref p] ∧ (SqL K H' p ys ∨ SqT K H' p ys) ∧ Q (.int ys.length) H' := fun {H'} hf G2 fr => by
      obtain ⟨dx2, ho2⟩ := G2.obj
      obtain ⟨ts, h2, h3⟩ := G2.eds
      refine ⟨_, rfl, a, C, dx2, _, _, rfl, ho2, T.cl, T.nE, gF_edges kl el, el, ts, rfl, .inl (SqL.of h2), ?_⟩
      rw [h3.len]
      exact qN hf H' G2 fr
    refine ⟨_, rfl, a, dx, _, rfl, ho, gF_no (by decide +kernel) (by decide +kernel) kl el, _, rfl, _, rfl, _, rfl, a, kl, el, g, x, y, r, rfl, G, fun H1 s1 => ?_⟩
    have G1 := G.same s1
    obtain ⟨dx1, ho1⟩ := G1.obj
    obtain ⟨ts, he1, ht1⟩ := G1.eds
    refine ⟨_, rfl, ite2 (fun c => ?_) (fun c => ?_)⟩
    · have ce : edge g x y r = false := by simpa using c
      have ea : add g x y r = ⟨g.subject, g.edges ++ [⟨x, y, r⟩]⟩ := by
        unfold add
        rw [ce, if_neg Bool.false_ne_true]
      have efl : full (add g x y r) = decide (30 < g.edges.length + 1) := by
        rw [ea]
        unfold full
        show decide (30 < (g.edges ++ [_]).length) = _
        rw [List.length_append]
        rfl
      refine ⟨_, rfl, a, C, dx1, _, _, rfl, ho1, T.cl, T.nE, gF_edges kl el, el, ts, rfl, .inl (SqL.of he1), rfl, _, rfl, ite2 (fun c2 => ?_) (fun c2 => ?_)⟩
      · have c3 : ts.length = 30 := by
          have z := V.int.inj (of_decide_eq_true c2)
          omega
        have hl := ht1.len
        refine qF ?_ H1 G1 (Fr.of_same s1)
        rw [efl]
        exact decide_eq_true (by omega)
      · have c3 : ¬ ts.length = 30 := fun z => c2 (decide_eq_true (by rw [z]; rfl))
        have hl := ht1.len
        refine ⟨_, rfl, a, C, dx1, _, _, rfl, ho1, T.cl, T.nE, gF_edges kl el, .inl ⟨rfl, _, SqL.of he1⟩, _, rfl, _, rfl, _, rfl, by show 3 ≤ sizeLine; decide, fun t nt => ?_⟩
        have st : Same H1 (upd H1 t (.tup [iv x, iv y, iv r])) := same_upd nt
        have G3 := G1.same st
        refine ⟨el, _, _, rfl, rfl, st _ _ he1, ?_, ?_⟩
        · exact small1000 (by omega)
        · have h4 : Tups K (upd H1 t (.tup [iv x, iv y, iv r])) (ts ++ [.ref t]) (g.edges ++ [⟨x, y, r⟩]) := ((le_of_same st).tups ht1).app (.cons (dp_edge_of (.inl (.inl upd_same))) .nil)
          obtain ⟨G4, fr⟩ := G3.putEdges h4
          rw [← ea] at G4
          refine fin ?_ G4 ((Fr.of_same (s1.trans st)).trans fr)
          rw [efl]
          exact decide_eq_false (by omega)
    · have ce : edge g x y r = true := by simpa using c
      have ea : add g x y r = g := by
        unfold add
        rw [if_pos ce]
      refine fin ?_ (by rw [ea]; exact G1) (Fr.of_same s1)
      rw [ea]
      unfold full
      exact decide_eq_false (by omega)
end
end Tg

set_option Elab.async false
set_option linter.all false
set_option maxRecDepth 100000
set_option maxHeartbeats 1000000
namespace Tg
open PySem PySem.Spec PyProof.Rows L2
open Wm02 (Edge Graph isThere isSubject edge add full flag isEdge rises mayTake mayGive step)
abbrev sFits : Stmt := topS 44
abbrev sDiff : Stmt := topS 45
abbrev sRights : Stmt := topS 46
abbrev sNew : Stmt := topS 47
abbrev sPut : Stmt := topS 48
abbrev sCut : Stmt := topS 49
abbrev sTake : Stmt := topS 50
abbrev sGive : Stmt := topS 51
abbrev sMake : Stmt := topS 52
abbrev sCan : Stmt := topS 53
structure Cst (mg : Str → Option Value) : Prop where
  ones : IsI mg "MOST_ONES" 10
  edges : IsI mg "MOST_EDGES" 30
  high : IsI mg "HIGHEST_RIGHT" 3
  notFit : IsI mg "NOT_FIT" (-1)
  noEdge : IsI mg "NO_EDGE" (-3)
  full : IsI mg "FULL" (-5)
  mayNot : IsI mg "MAY_NOT" (-6)
  toTake : IsI mg "TO_TAKE" 0
  toGive : IsI mg "TO_GIVE" 1
  len : mg "len" = none
theorem ivne (a b : Nat) : (!decide (iv a = iv b)) = (a != b) := by
  by_cases h : a = b
  · subst h
    simp
  · have : ¬ iv a = iv b := fun z => h (iv_inj.mp z)
    simp [h, this]
section
variable {P : Program} {w : World} {K : PySem.W.Frag} {mg : Str → Option Value} {base : Heap} {C : Addr}
/-! ### fits -/
theorem scFits : FnScope ["graph", "x", "y", "r"] ["graph", "x", "y", "r"] (defScope sFits) := ⟨rfl, rfl, rfl, by decide +kernel, rfl, by decide +kernel, by decide +kernel⟩
def spFits (K : PySem.W.Frag) (C : Addr) : Sp := fun vs H Q _ => ∃ (a kl el : Addr) (g : Graph) (x y r : Nat), vs = [.ref a, iv x, iv y, iv r] ∧ GA K C H a kl el g ∧ Q (.bl (isEdge g x y r)) H
theorem ok_fits {f fT : Addr} {fd fdT : FuncData} (F : Fun K "fits" "fits" sFits f fd) (T : Txt K mg C) (c : Cst mg) (mT : Meth K C "is_there" fT) (bT : Binds K fdT ["self", "x"] []) (GT : FnOk P w K mg base CX0 1 fT fdT ["self", "x"] (spThere K C)) :
    FnOk P w K mg base CX0 2 f fd ["graph", "x", "y", "r"] (spFits K C) := by
  refine F.ok scFits (fun vs H Q E h => ?_) (fun cdv A outer s H vs Q E hr h => ?_)
  · obtain ⟨a, kl, el, g, x, y, r, rfl, _⟩ := h
    rfl
  · obtain ⟨a, kl, el, g, x, y, r, rfl, G, q⟩ := h
    obtain ⟨dx, ho⟩ := G.obj
    have no := gF_no (m := "is_there") (by decide +kernel) (by decide +kernel) kl el
    refine ⟨_, pss_one (ps_ret (pe_and (pe_meth (pv 0) T.cl mT GT hr bT .nil pass0 (pa_cons (pv 1) pa_nil)) (pe_and (pe_meth (pv 0) T.cl mT GT hr bT .nil pass0 (pa_cons (pv 2) pa_nil))
      (pe_and (pe_cmpR op_ne (pv 1) (pv 2) (nomark _)) (pe_one (pe_cmpR op_le (pv 3) (pe_ci c.high) (nomark _))))))), ?_⟩
    unfold isEdge at q
    refine ⟨_, rfl, a, dx, _, rfl, ho, no, _, rfl, a, kl, el, g, x, rfl, G, _, rfl, ite2 (fun z => ?_) (fun z => ?_)⟩
    · rw [z, Bool.true_and] at q
      refine ⟨_, rfl, a, dx, _, rfl, ho, no, _, rfl, a, kl, el, g, y, rfl, G, _, rfl, ite2 (fun z => ?_) (fun z => ?_)⟩
      · rw [z, Bool.true_and] at q
        refine ⟨_, rfl, _, rfl, rfl, _, rfl, ?_⟩
        show if (!decide (iv x = iv y)) = true then _ else _
        rw [ivne]
        refine ite2 (fun z => ?_) (fun z => ?_)
        · rw [z, Bool.true_and] at q
          refine ⟨_, rfl, _, _, rfl, rfl, ?_⟩
          have e : decide ((r : Int) ≤ 3) = decide (r ≤ 3) := decide_eq_decide.mpr (by omega)
          rw [← e] at q
          exact q
        · rw [Bool.eq_false_iff.mpr z, Bool.false_and] at q
          exact q
      · rw [Bool.eq_false_iff.mpr z, Bool.false_and] at q
        exact q
    · rw [Bool.eq_false_iff.mpr z, Bool.false_and] at q
      exact q
/-! ### all_different -/
theorem scDiff : FnScope ["x", "y", "z"] ["x", "y", "z"] (defScope sDiff) := ⟨rfl, rfl, rfl, by decide +kernel, rfl, by decide +kernel, by decide +kernel⟩
def spDiff : Sp := fun vs H Q _ => ∃ (x y z : Nat), vs = [iv x, iv y, iv z] ∧ Q (.bl ((x != y) && ((x != z) && (y != z)))) H
theorem ok_diff {f : Addr} {fd : FuncData} {k : Nat} (F : Fun K "all_different" "all_different" sDiff f fd) : FnOk P w K mg base CX0 (k + 1) f fd ["x", "y", "z"] spDiff := by
  refine F.ok scDiff (fun vs H Q E h => ?_) (fun cdv A outer s H vs Q E hr h => ?_)
  · obtain ⟨x, y, z, rfl, _⟩ := h
    rfl
  · obtain ⟨x, y, z, rfl, q⟩ := h
    refine ⟨_, pss_one (ps_ret (pe_and (pe_cmpR op_ne (pv 0) (pv 1) (nomark _)) (pe_and (pe_cmpR op_ne (pv 0) (pv 2) (nomark _)) (pe_one (pe_cmpR op_ne (pv 1) (pv 2) (nomark _)))))), ?_⟩
    refine ⟨_, rfl, _, rfl, rfl, _, rfl, ?_⟩
    show if (!decide (iv x = iv y)) = true then _ else _
    rw [ivne]
    refine ite2 (fun c => ?_) (fun c => ?_)
    · rw [c, Bool.true_and] at q
      refine ⟨_, rfl, _, rfl, rfl, _, rfl, ?_⟩
      show if (!decide (iv x = iv z)) = true then _ else _
      rw [ivne]
      refine ite2 (fun c => ?_) (fun c => ?_)
      · rw [c, Bool.true_and, ← ivne] at q
        exact ⟨_, rfl, _, rfl, rfl, q⟩
      · rw [Bool.eq_false_iff.mpr c, Bool.false_and] at q
        exact q
    · rw [Bool.eq_false_iff.mpr c, Bool.false_and] at q
      exact q
/-! ### rights_fit -/
def fitFrom : Nat → List Nat → Bool
  | _, [] => true
  | lo, r :: l => if r < lo ∨ 3 < r then false else fitFrom (r + 1) l
theorem fitFrom_eq : ∀ (lo : Nat) (l : List Nat), fitFrom lo l = (l.all (fun r => decide (r ≤ 3)) && (rises l && (match l with | [] => true | r :: _ => decide (lo ≤ r))))
  | _, [] => rfl
  | lo, [r] => by
    unfold fitFrom
    by_cases h1 : r < lo
    · rw [if_pos (.inl h1)]
      simp [h1]
    · by_cases h2 : 3 < r
      · rw [if_pos (.inr h2)]
        have : ¬ r ≤ 3 := by omega
        simp [this]
      · rw [if_neg (by omega)]
        have h3 : r ≤ 3 := by omega
        have h4 : lo ≤ r := by omega
        simp [fitFrom, rises, h3, h4]
  | lo, r :: b :: l => by
    have ih := fitFrom_eq (r + 1) (b :: l)
    unfold fitFrom
    by_cases h1 : r < lo
    · rw [if_pos (.inl h1)]
      simp [h1]
    · by_cases h2 : 3 < r
      · rw [if_pos (.inr h2)]
        have : ¬ r ≤ 3 := by omega
        simp [this]
      · rw [if_neg (by omega), ih]
        have h3 : r ≤ 3 := by omega
        have h4 : lo ≤ r := by omega
        have e1 : rises (r :: b :: l) = (decide (r < b) && rises (b :: l)) := rfl
        have e2 : (r :: b :: l).all (fun r => decide (r ≤ 3)) = (decide (r ≤ 3) && (b :: l).all (fun r => decide (r ≤ 3))) := rfl
        rw [e1, e2, decide_eq_true h3]
        show _ = (true && _ && (decide (r < b) && rises (b :: l) && decide (lo ≤ r)))
        rw [decide_eq_true h4]
        have e3 : decide (r + 1 ≤ b) = decide (r < b) := rfl
        show ((b :: l).all (fun r => decide (r ≤ 3)) && (rises (b :: l) && decide (r + 1 ≤ b))) = _
        rw [e3]
        cases (b :: l).all (fun r => decide (r ≤ 3)) <;> cases rises (b :: l) <;> cases decide (r < b) <;> rfl
theorem fit_eq (l : List Nat) : fitFrom 0 l = (l.all (fun r => decide (r ≤ 3)) && rises l) := by
  rw [fitFrom_eq]
  cases l with
  | nil => rfl
  | cons r l => simp
theorem scRights : FnScope ["rights", "lowest", "right"] ["rights"] (defScope sRights) := ⟨rfl, rfl, rfl, by decide +kernel, rfl, by decide +kernel, by decide +kernel⟩
def spRights (K : PySem.W.Frag) : Sp := fun vs H Q _ => ∃ (a : Addr) (rs : List Nat), vs = [.ref a] ∧ SqL K H a (nv rs) ∧ Q (.bl (fitFrom 0 rs)) H
theorem ok_rights {f : Addr} {fd : FuncData} {k : Nat} (F : Fun K "rights_fit" "rights_fit" sRights f fd) (c : Cst mg) : FnOk P w K mg base CX0 (k + 1) f fd ["rights"] (spRights K) := by
  refine F.ok scRights (fun vs H Q E h => ?_) (fun cdv A outer s H vs Q E hr h => ?_)
  · obtain ⟨a, rs, rfl, _⟩ := h
    rfl
  · obtain ⟨a, rs, rfl, hS, q⟩ := h
    refine ⟨_, pss_cons (ps_set (i := 1) scRights.nd rfl (Or.inl rfl) pe_int)
      (pss_cons (ps_for PassesOwn.never rfl (pi_list (pv 0)) (pg_name (i := 2) scRights.nd rfl (Or.inl rfl))
        (pss_cons (ps_if (PW.pt (pw_or (pt_cmpR op_lt (pv 2) (pv 1) (nomark _)) (pw_or1 (pt_cmpR op_gt (pv 2) (pe_ci c.high) (nomark _))))) (pss_one (ps_ret pe_bl)) pss_nil)
        (pss_one (ps_set (i := 1) scRights.nd rfl (Or.inl rfl) (pe_op op_add (pv 2) pe_int)))))
      (pss_one (ps_ret pe_bl))), ?_⟩
    refine ⟨_, rfl, a, rfl, ⟨_, hS⟩, for_list (K := K) (a := a) (xs := nv rs) (fun i σ H' => ∃ (lo : Nat) (y2 : Option V), σ = [some (.ref a), some (iv lo), y2] ∧ H' = H ∧ fitFrom 0 rs = fitFrom lo (rs.drop i))
      ⟨0, none, rfl, rfl, rfl⟩ (fun i σ H' _ ⟨_, _, _, e, _⟩ => by rw [e]; exact hS) ?_ ?_⟩
    · rintro i x σ H' hx ⟨lo, y2, rfl, rfl, e⟩
      obtain ⟨n, hn, rfl⟩ := nv_get hx
      obtain ⟨hi, en⟩ := List.getElem?_eq_some_iff.mp hn
      have ed : rs.drop i = n :: rs.drop (i + 1) := by rw [List.drop_eq_getElem_cons hi, en]
      rw [ed] at e
      have e : fitFrom 0 rs = if n < lo ∨ 3 < n then false else fitFrom (n + 1) (rs.drop (i + 1)) := e
      refine ⟨_, rfl, _, rfl, _, _, rfl, rfl, _, rfl, ite2 (fun z => ?_) (fun z => ?_)⟩
      · have z1 : n < lo := by
          have z := of_decide_eq_true z
          omega
        rw [if_pos (.inl z1)] at e
        rw [e] at q
        exact iteT q
      · have z1 : ¬ n < lo := fun y => z (decide_eq_true (by omega))
        refine ⟨_, rfl, _, _, rfl, rfl, _, rfl, ite2 (fun z => ?_) (fun z => ?_)⟩
        · have z2 : 3 < n := by
            have z := of_decide_eq_true z
            omega
          rw [if_pos (.inr z2)] at e
          rw [e] at q
          exact q
        · have z2 : ¬ 3 < n := fun y => z (decide_eq_true (by omega))
          rw [if_neg (by omega)] at e
          exact ⟨_, rfl, _, _, rfl, rfl, n + 1, some (iv n), rfl, rfl, e⟩
    · rintro σ H' ⟨lo, y2, rfl, rfl, e⟩
      rw [nv_len, List.drop_length] at e
      have e : fitFrom 0 rs = true := e
      rw [e] at q
      exact q
/-! ### the calls -/
/-- what a call with one number for its answer leaves behind -/
def Post (K : PySem.W.Frag) (C : Addr) (H : Hp) (Q : VK) (a kl el : Addr) (g : Graph) (c : Wm02.Call) : Prop := ∀ H' z, GA K C H' a kl el (step g c).1 → Fr kl el H H' → (step g c).2 = [z] → Q (.int z) H'
theorem Post.at {K : PySem.W.Frag} {C : Addr} {H H' : Hp} {Q : VK} {a kl el : Addr} {g g' : Graph} {c : Wm02.Call} {z : Int} (p : Post K C H Q a kl el g c) (e : step g c = (g', [z])) (h : GA K C H' a kl el g') (f : Fr kl el H H') : Q (.int z) H' :=
  p H' z (by rw [e]; exact h) f (by rw [e])
theorem Fr.refl {kl el : Addr} {H : Hp} : Fr kl el H H := fun _ _ e _ _ => e
/-! ### new -/
theorem scNew : FnScope ["graph", "s"] ["graph", "s"] (defScope sNew) := ⟨rfl, rfl, rfl, by decide +kernel, rfl, by decide +kernel, by decide +kernel⟩
def spNew (K : PySem.W.Frag) (C : Addr) : Sp := fun vs H Q _ => ∃ (a kl el : Addr) (g : Graph) (s : Nat), vs = [.ref a, iv s] ∧ GA K C H a kl el g ∧ Wf g ∧ Post K C H Q a kl el g (.new s)
theorem ok_new {f fO : Addr} {fd fdO : FuncData} (F : Fun K "new" "new" sNew f fd) (T : Txt K mg C) (c : Cst mg) (mO : Meth K C "add_one" fO) (bO : Binds K fdO ["self", "s"] []) (GO : FnOk P w K mg base CX0 1 fO fdO ["self", "s"] (spAddOne K C)) :
    FnOk P w K mg base CX0 2 f fd ["graph", "s"] (spNew K C) := by
  refine F.ok scNew (fun vs H Q E h => ?_) (fun cdv A outer s H vs Q E hr h => ?_)
  · obtain ⟨a, kl, el, g, s, rfl, _⟩ := h
    rfl
  · obtain ⟨a, kl, el, g, s1, rfl, G, W, q⟩ := h
    obtain ⟨dx, ho⟩ := G.obj
    refine ⟨_, pss_cons (ps_if (pt_cmpR op_gt (pv 1) pe_int (nomark _)) (pss_one (ps_ret (pe_ci c.notFit))) pss_nil)
      (pss_cons (ps_if (pt_cmpR op_eq (pe_callB call_len_seq (by rfl) c.len PySem.boot_len (pa_cons (pe_fld (pv 0) rfl) pa_nil)) (pe_ci c.ones) (nomark _)) (pss_one (ps_ret (pe_ci c.full))) pss_nil)
      (pss_one (ps_ret (pe_meth (pv 0) T.cl mO GO hr bO .nil pass0 (pa_cons (pv 1) pa_nil))))), ?_⟩
    refine ⟨_, rfl, _, _, rfl, rfl, _, rfl, ite2 (fun z => ?_) (fun z => ?_)⟩
    · have z1 : 1 < s1 := by
        have z := of_decide_eq_true z
        omega
      exact q.at (by show (if 1 < s1 then _ else _) = _; rw [if_pos z1]) G Fr.refl
    · have z1 : ¬ 1 < s1 := fun y => z (decide_eq_true (by omega))
      refine ⟨_, rfl, a, C, dx, _, _, rfl, ho, T.cl, T.nK, gF_kinds kl el, kl, _, rfl, .inl (SqL.of G.knd), rfl, _, rfl, ite2 (fun z => ?_) (fun z => ?_)⟩
      · have z2 : g.subject.length = 10 := by
          have z := V.int.inj (of_decide_eq_true z)
          rw [GA.kinds_len] at z
          omega
        exact q.at (by show (if 1 < s1 then _ else if 10 ≤ g.subject.length then _ else _) = _; rw [if_neg z1, if_pos (by omega)]) G Fr.refl
      · have z2 : ¬ 10 ≤ g.subject.length := fun y => z (decide_eq_true (by
          rw [GA.kinds_len]
          have := W.few
          rw [show g.subject.length = 10 by omega]
          rfl))
        refine ⟨_, rfl, a, dx, _, rfl, ho, gF_no (by decide +kernel) (by decide +kernel) kl el, _, rfl, a, kl, el, g, s1, rfl, G, by omega, by have := W.few; omega, fun H' G' fr => ?_⟩
        exact q.at (by show (if 1 < s1 then _ else if 10 ≤ g.subject.length then _ else _) = _; rw [if_neg z1, if_neg z2]; rfl) G' fr
/-! ### put -/
theorem scPut : FnScope ["graph", "x", "y", "r"] ["graph", "x", "y", "r"] (defScope sPut) := ⟨rfl, rfl, rfl, by decide +kernel, rfl, by decide +kernel, by decide +kernel⟩
def spPut (K : PySem.W.Frag) (C : Addr) : Sp := fun vs H Q _ => ∃ (a kl el : Addr) (g : Graph) (x y r : Nat), vs = [.ref a, iv x, iv y, iv r] ∧ GA K C H a kl el g ∧ Wf g ∧ Post K C H Q a kl el g (.put x y r)
theorem ok_put {f fF fA : Addr} {fd fdF fdA : FuncData} (F : Fun K "put" "put" sPut f fd) (T : Txt K mg C) (c : Cst mg) (FF : Fun K "fits" "fits" sFits fF fdF) (bF : Binds K fdF ["graph", "x", "y", "r"] []) (gF' : mg "fits" = some (.ref fF)) (GF : FnOk P w K mg base CX0 2 fF fdF ["graph", "x", "y", "r"] (spFits K C))
    (mA : Meth K C "add_edge" fA) (bA : Binds K fdA ["self", "x", "y", "r"] []) (GAd : FnOk P w K mg base CX0 2 fA fdA ["self", "x", "y", "r"] (spAddEdge K C)) :
    FnOk P w K mg base CX0 3 f fd ["graph", "x", "y", "r"] (spPut K C) := by
  refine F.ok scPut (fun vs H Q E h => ?_) (fun cdv A outer s H vs Q E hr h => ?_)
  · obtain ⟨a, kl, el, g, x, y, r, rfl, _⟩ := h
    rfl
  · obtain ⟨a, kl, el, g, x, y, r, rfl, G, W, q⟩ := h
    obtain ⟨dx, ho⟩ := G.obj
    refine ⟨_, pss_cons (ps_if (pt_not (pt_val (pe_call GF hr (by rfl) gF' FF.kp bF .nil pass0 (pa_cons (pv 0) (pa_cons (pv 1) (pa_cons (pv 2) (pa_cons (pv 3) pa_nil))))))) (pss_one (ps_ret (pe_ci c.notFit))) pss_nil)
      (pss_one (ps_ret (pe_meth (pv 0) T.cl mA GAd hr bA .nil pass0 (pa_cons (pv 1) (pa_cons (pv 2) (pa_cons (pv 3) pa_nil)))))), ?_⟩
    refine ⟨_, rfl, _, rfl, _, rfl, _, rfl, a, kl, el, g, x, y, r, rfl, G, _, rfl, ite2 (fun z => ?_) (fun z => ?_)⟩
    · have z1 : isEdge g x y r = false := by simpa using z
      exact q.at (by show (if isEdge g x y r = false then _ else _) = _; rw [if_pos z1]) G Fr.refl
    · have z1 : ¬ isEdge g x y r = false := by simpa using z
      refine ⟨_, rfl, a, dx, _, rfl, ho, gF_no (by decide +kernel) (by decide +kernel) kl el, _, rfl, _, rfl, _, rfl, a, kl, el, g, x, y, r, rfl, G, W.edgesFew, fun hf H' G' fr => ?_, fun hf H' G' fr => ?_⟩
      · exact q.at (by show (if isEdge g x y r = false then _ else if full (add g x y r) = true then _ else _) = _; rw [if_neg z1, if_pos hf]) G' fr
      · exact q.at (by show (if isEdge g x y r = false then _ else if full (add g x y r) = true then _ else _) = _; rw [if_neg z1, if_neg (by rw [hf]; decide)]; rfl) G' fr
/-! ### cut -/
theorem DpAll.erase {H : Hp} : ∀ {vs : List V} {ds : List PyData} (j : Nat), DpAll K H vs ds → DpAll K H (vs.eraseIdx j) (ds.eraseIdx j)
  | _, _, _, .nil => .nil
  | _, _, 0, .cons _ k => k
  | _, _, j + 1, .cons h k => .cons h (DpAll.erase j k)
theorem map_erase (E : List Edge) (j : Nat) : (E.map edD).eraseIdx j = (E.eraseIdx j).map edD := by
  induction E generalizing j with
  | nil => rfl
  | cons e E ih =>
    cases j with
    | zero => rfl
    | succ j =>
      show edD e :: (E.map edD).eraseIdx j = edD e :: (E.eraseIdx j).map edD
      rw [ih]
theorem Tups.erase {H : Hp} {ts : List V} {E : List Edge} (j : Nat) (h : Tups K H ts E) : Tups K H (ts.eraseIdx j) (E.eraseIdx j) := by
  unfold Tups
  rw [← map_erase]
  exact DpAll.erase j h
theorem filter_not_mem {E : List Edge} {e : Edge} (h : e ∉ E) : E.filter (fun z => z != e) = E := by
  refine List.filter_eq_self.mpr fun z hz => ?_
  rw [bne_iff_ne]
  exact fun y => h (y ▸ hz)
theorem erase_filter : ∀ {E : List Edge} {e : Edge} {j : Nat}, E.Nodup → E[j]? = some e → E.eraseIdx j = E.filter (fun z => z != e)
  | [], e, j, _, h => by simp at h
  | a :: E, e, 0, hn, h => by
    have h : a = e := Option.some.inj h
    subst h
    have hn := List.nodup_cons.mp hn
    show E = _
    rw [List.filter_cons, if_neg (by simp), filter_not_mem hn.1]
  | a :: E, e, j + 1, hn, h => by
    have hn := List.nodup_cons.mp hn
    have h : E[j]? = some e := h
    have hne : a ≠ e := fun z => hn.1 (z ▸ List.mem_of_getElem? h)
    show a :: E.eraseIdx j = _
    rw [erase_filter hn.2 h, List.filter_cons, if_pos (by rw [bne_iff_ne]; exact hne)]
theorem first_place {E : List Edge} {e : Edge} (hn : E.Nodup) (h : e ∈ E) : ∃ j : Nat, E[j]? = some e ∧ ∀ m : Nat, m < j → E[m]? ≠ some e := by
  obtain ⟨j, hj, he⟩ := List.mem_iff_getElem.mp h
  refine ⟨j, by rw [List.getElem?_eq_getElem hj, he], fun m hm z => ?_⟩
  have := nd_ix hn z (by rw [List.getElem?_eq_getElem hj, he])
  omega
theorem scCut : FnScope ["graph", "x", "y", "r"] ["graph", "x", "y", "r"] (defScope sCut) := ⟨rfl, rfl, rfl, by decide +kernel, rfl, by decide +kernel, by decide +kernel⟩
def spCut (K : PySem.W.Frag) (C : Addr) : Sp := fun vs H Q _ => ∃ (a kl el : Addr) (g : Graph) (x y r : Nat), vs = [.ref a, iv x, iv y, iv r] ∧ GA K C H a kl el g ∧ Wf g ∧ Post K C H Q a kl el g (.cut x y r)
theorem ok_cut {f fF fH : Addr} {fd fdF fdH : FuncData} (F : Fun K "cut" "cut" sCut f fd) (T : Txt K mg C) (c : Cst mg) (FF : Fun K "fits" "fits" sFits fF fdF) (bF : Binds K fdF ["graph", "x", "y", "r"] []) (gF' : mg "fits" = some (.ref fF)) (GF : FnOk P w K mg base CX0 2 fF fdF ["graph", "x", "y", "r"] (spFits K C))
    (mH : Meth K C "has" fH) (bH : Binds K fdH ["self", "x", "y", "r"] []) (GH : FnOk P w K mg base CX0 1 fH fdH ["self", "x", "y", "r"] (spHas K C)) :
    FnOk P w K mg base CX0 3 f fd ["graph", "x", "y", "r"] (spCut K C) := by
  refine F.ok scCut (fun vs H Q E h => ?_) (fun cdv A outer s H vs Q E hr h => ?_)
  · obtain ⟨a, kl, el, g, x, y, r, rfl, _⟩ := h
    rfl
  · obtain ⟨a, kl, el, g, x, y, r, rfl, G, W, q⟩ := h
    obtain ⟨dx, ho⟩ := G.obj
    have hr1 : Room 1 _ := hr.mono (by decide)
    refine ⟨_, pss_cons (ps_if (pt_not (pt_val (pe_call GF hr (by rfl) gF' FF.kp bF .nil pass0 (pa_cons (pv 0) (pa_cons (pv 1) (pa_cons (pv 2) (pa_cons (pv 3) pa_nil))))))) (pss_one (ps_ret (pe_ci c.notFit))) pss_nil)
      (pss_cons (ps_if (pt_not (pt_val (pe_meth (pv 0) T.cl mH GH hr1 bH .nil pass0 (pa_cons (pv 1) (pa_cons (pv 2) (pa_cons (pv 3) pa_nil)))))) (pss_one (ps_ret (pe_ci c.noEdge))) pss_nil)
      (pss_cons (ps_expr (pe_bm PySem.F.plainAttrs_list PySem.F.slot_list_remove PySem.F.type_list_remove (mt_removeE (u65 hr)) (pe_fld (pv 0) rfl) (pa_cons (pe_tup (pa_cons (pv 1) (pa_cons (pv 2) (pa_cons (pv 3) pa_nil)))) pa_nil)))
      (pss_one (ps_ret (pe_callB call_len_seq (by rfl) c.len PySem.boot_len (pa_cons (pe_fld (pv 0) rfl) pa_nil)))))), ?_⟩
    refine ⟨_, rfl, _, rfl, _, rfl, _, rfl, a, kl, el, g, x, y, r, rfl, G, _, rfl, ite2 (fun z => ?_) (fun z => ?_)⟩
    · have z1 : isEdge g x y r = false := by simpa using z
      exact q.at (by show (if isEdge g x y r = false then _ else _) = _; rw [if_pos z1]) G Fr.refl
    · have z1 : ¬ isEdge g x y r = false := by simpa using z
      refine ⟨_, rfl, a, dx, _, rfl, ho, gF_no (by decide +kernel) (by decide +kernel) kl el, _, rfl, _, rfl, _, rfl, a, kl, el, g, x, y, r, rfl, G, fun H1 s1 => ?_⟩
      have G1 := G.same s1
      obtain ⟨dx1, ho1⟩ := G1.obj
      obtain ⟨ts, he1, ht1⟩ := G1.eds
      refine ⟨_, rfl, ite2 (fun z => ?_) (fun z => ?_)⟩
      · have z2 : edge g x y r = false := by simpa using z
        exact q.at (by show (if isEdge g x y r = false then _ else if edge g x y r = false then _ else _) = _; rw [if_neg z1, if_pos z2]) G1 (Fr.of_same s1)
      · have z2 : edge g x y r = true := by simpa using z
        obtain ⟨j, hj, hno⟩ := first_place W.nodup (edge_iff.mp z2)
        refine ⟨_, rfl, a, C, dx1, _, _, rfl, ho1, T.cl, T.nE, gF_edges kl el, .inl ⟨rfl, _, SqL.of he1⟩, _, rfl, _, rfl, _, rfl, by show 3 ≤ sizeLine; decide, fun t nt => ?_⟩
        have st : Same H1 (upd H1 t (.tup [iv x, iv y, iv r])) := same_upd nt
        refine ⟨el, _, ts, g.edges, ⟨x, y, r⟩, j, rfl, rfl, st _ _ he1, (le_of_same st).tups ht1, dp_edge_of (.inl (.inl upd_same)), hj, hno, ?_⟩
        obtain ⟨G4, fr⟩ := (G1.same st).putEdges (((le_of_same st).tups ht1).erase j)
        obtain ⟨dx4, ho4⟩ := G4.obj
        obtain ⟨us, he4, ht4⟩ := G4.eds
        have ed : Wm02.drop g x y r = ⟨g.subject, g.edges.eraseIdx j⟩ := by
          unfold Wm02.drop
          rw [erase_filter W.nodup hj]
        refine ⟨_, rfl, a, C, dx4, _, _, rfl, ho4, T.cl, T.nE, gF_edges kl el, el, us, rfl, .inl (SqL.of he4), ?_⟩
        have hl := ht4.len
        have e : step g (.cut x y r) = (⟨g.subject, g.edges.eraseIdx j⟩, [(us.length : Int)]) := by
          show (if isEdge g x y r = false then _ else if edge g x y r = false then _ else (Wm02.drop g x y r, Wm02.ints [(Wm02.drop g x y r).edges.length])) = _
          rw [if_neg z1, if_neg (by rw [z2]; decide), ed, hl]
          rfl
        exact q.at e G4 ((Fr.of_same (s1.trans st)).trans fr)
end
end Tg

set_option Elab.async false
set_option linter.all false
set_option maxRecDepth 100000
set_option maxHeartbeats 1000000
namespace Tg
open PySem PySem.Spec PyProof.Rows L2
open Wm02 (Edge Graph isThere isSubject edge add full flag isEdge rises mayTake mayGive step)
section
variable {P : Program} {w : World} {K : PySem.W.Frag} {mg : Str → Option Value} {base : Heap} {C : Addr}
theorem not_of {b : Bool} (h : (!b) = true) : b = false := by
  cases b with
  | false => rfl
  | true => cases h
/-! ### take, give -/
/-- whether x may do it, but for the three being different -/
def tAllowed (K : PySem.W.Frag) (C : Addr) (c : Nat) (i : Nat) : TE :=
  tAndV (tMeth C "is_subject" (spSubj K C) [] E0 (tVar 0) (tCons (tVar 1) tNil)) (tAndV (tMeth C "has" (spHas K C) [] E0 (tVar 0) (tCons (tVar 1) (tCons (tVar 2) (tCons (tC (iv c)) tNil))))
    (tMeth C "has" (spHas K C) [] E0 (tVar 0) (tCons (tVar i) (tCons (tVar 3) (tCons (tVar 4) tNil)))))
theorem allowed_ev {H : Hp} {Q : VK} {a kl el : Addr} {g : Graph} {x y z r v c i : Nat} {y5 : Option V} (hi : ([some (.ref a), some (iv x), some (iv y), some (iv z), some (iv r), y5] : L2.St)[i]? = some (some (iv v))) (G : GA K C H a kl el g)
    (q : ∀ H', Same H H' → Q (.bl (isSubject g x && (edge g x y c && edge g v z r))) H') : tAllowed K C c i [some (.ref a), some (iv x), some (iv y), some (iv z), some (iv r), y5] H Q := by
  obtain ⟨dx, ho⟩ := G.obj
  refine ⟨_, rfl, a, dx, _, rfl, ho, gF_no (by decide +kernel) (by decide +kernel) kl el, _, rfl, a, kl, el, g, x, rfl, G, _, rfl, ite2 (fun b => ?_) (fun b => ?_)⟩
  · rw [b, Bool.true_and] at q
    refine ⟨_, rfl, a, dx, _, rfl, ho, gF_no (by decide +kernel) (by decide +kernel) kl el, _, rfl, _, rfl, a, kl, el, g, x, y, c, rfl, G, fun H1 s1 => ?_⟩
    refine ⟨_, rfl, ite2 (fun b => ?_) (fun b => ?_)⟩
    · rw [b, Bool.true_and] at q
      exact ⟨_, rfl, a, dx, _, rfl, s1 _ _ ho, gF_no (by decide +kernel) (by decide +kernel) kl el, _, hi, _, rfl, _, rfl, a, kl, el, g, v, z, r, rfl, G.same s1, fun H2 s2 => q H2 (s1.trans s2)⟩
    · rw [Bool.eq_false_iff.mpr b, Bool.false_and] at q
      exact q H1 s1
  · rw [Bool.eq_false_iff.mpr b, Bool.false_and] at q
    exact q H (Same.refl H)
theorem may_take (g : Graph) (x y z r : Nat) : mayTake g x y z r = ((isSubject g x && (edge g x y 0 && edge g y z r)) && ((x != y) && ((x != z) && (y != z)))) := by
  unfold mayTake
  cases isSubject g x <;> cases (x != y) <;> cases (y != z) <;> cases (x != z) <;> cases edge g x y 0 <;> cases edge g y z r <;> rfl
theorem may_give (g : Graph) (x y z r : Nat) : mayGive g x y z r = ((isSubject g x && (edge g x y 1 && edge g x z r)) && ((x != y) && ((x != z) && (y != z)))) := by
  unfold mayGive
  cases isSubject g x <;> cases (x != y) <;> cases (y != z) <;> cases (x != z) <;> cases edge g x y 1 <;> cases edge g x z r <;> rfl
theorem scTake : FnScope ["graph", "x", "y", "z", "r", "allowed"] ["graph", "x", "y", "z", "r"] (defScope sTake) := ⟨rfl, rfl, rfl, by decide +kernel, rfl, by decide +kernel, by decide +kernel⟩
def spTake (K : PySem.W.Frag) (C : Addr) : Sp := fun vs H Q _ => ∃ (a kl el : Addr) (g : Graph) (x y z r : Nat), vs = [.ref a, iv x, iv y, iv z, iv r] ∧ GA K C H a kl el g ∧ Wf g ∧ Post K C H Q a kl el g (.take x y z r)
theorem ok_take {f fJ fH fD fA : Addr} {fd fdJ fdH fdD fdA : FuncData} (F : Fun K "take" "take" sTake f fd) (T : Txt K mg C) (c : Cst mg)
    (mJ : Meth K C "is_subject" fJ) (bJ : Binds K fdJ ["self", "x"] []) (GJ : FnOk P w K mg base CX0 2 fJ fdJ ["self", "x"] (spSubj K C))
    (mH : Meth K C "has" fH) (bH : Binds K fdH ["self", "x", "y", "r"] []) (GH : FnOk P w K mg base CX0 1 fH fdH ["self", "x", "y", "r"] (spHas K C))
    (FD : Fun K "all_different" "all_different" sDiff fD fdD) (bD : Binds K fdD ["x", "y", "z"] []) (gD : mg "all_different" = some (.ref fD))
    (mA : Meth K C "add_edge" fA) (bA : Binds K fdA ["self", "x", "y", "r"] []) (GAd : FnOk P w K mg base CX0 2 fA fdA ["self", "x", "y", "r"] (spAddEdge K C)) :
    FnOk P w K mg base CX0 3 f fd ["graph", "x", "y", "z", "r"] (spTake K C) := by
  have GD : FnOk P w K mg base CX0 1 fD fdD ["x", "y", "z"] spDiff := ok_diff FD
  refine F.ok scTake (fun vs H Q E h => ?_) (fun cdv A outer s H vs Q E hr h => ?_)
  · obtain ⟨a, kl, el, g, x, y, z, r, rfl, _⟩ := h
    rfl
  · obtain ⟨a, kl, el, g, x, y, z, r, rfl, G, W, q⟩ := h
    obtain ⟨dx, ho⟩ := G.obj
    have hr1 : Room 1 _ := hr.mono (by decide)
    refine ⟨_, pss_cons (ps_if (pt_cmpR op_gt (pv 4) (pe_ci c.high) (nomark _)) (pss_one (ps_ret (pe_ci c.notFit))) pss_nil)
      (pss_cons (ps_set (i := 5) scTake.nd rfl (Or.inl rfl) (pe_and (pe_meth (pv 0) T.cl mJ GJ hr bJ .nil pass0 (pa_cons (pv 1) pa_nil)) (pe_and (pe_meth (pv 0) T.cl mH GH hr1 bH .nil pass0 (pa_cons (pv 1) (pa_cons (pv 2) (pa_cons (pe_ci c.toTake) pa_nil))))
        (pe_one (pe_meth (pv 0) T.cl mH GH hr1 bH .nil pass0 (pa_cons (pv 2) (pa_cons (pv 3) (pa_cons (pv 4) pa_nil))))))))
      (pss_cons (ps_if (PW.pt (pw_or (pt_not (pt_val (pv 5))) (pw_or1 (pt_not (pt_val (pe_call GD hr1 (by rfl) gD FD.kp bD .nil pass0 (pa_cons (pv 1) (pa_cons (pv 2) (pa_cons (pv 3) pa_nil))))))))) (pss_one (ps_ret (pe_ci c.mayNot))) pss_nil)
      (pss_one (ps_ret (pe_meth (pv 0) T.cl mA GAd hr bA .nil pass0 (pa_cons (pv 1) (pa_cons (pv 3) (pa_cons (pv 4) pa_nil)))))))), ?_⟩
    have q0 : ∀ {g' : Graph} {z' : Int} {H' : Hp}, step g (.take x y z r) = (g', [z']) → GA K C H' a kl el g' → Fr kl el H H' → Q (.int z') H' := fun e h f => q.at e h f
    have e0 : step g (.take x y z r) = if 3 < r then (g, [-1]) else if mayTake g x y z r = false then (g, [-6]) else if full (add g x z r) = true then (g, [-5]) else (add g x z r, Wm02.ints [(add g x z r).edges.length]) := rfl
    refine ⟨_, rfl, _, _, rfl, rfl, _, rfl, ite2 (fun b => ?_) (fun b => ?_)⟩
    · have b1 : 3 < r := by
        have b := of_decide_eq_true b
        omega
      exact q0 (by rw [e0, if_pos b1]) G Fr.refl
    · have b1 : ¬ 3 < r := fun b2 => b (decide_eq_true (by omega))
      rw [if_neg b1, may_take] at e0
      refine allowed_ev (c := 0) (i := 2) (v := y) rfl G fun H1 s1 => ?_
      have G1 := G.same s1
      obtain ⟨dx1, ho1⟩ := G1.obj
      refine ⟨_, rfl, _, rfl, ite2 (fun b => ?_) (fun b => ?_)⟩
      · have b1 : (isSubject g x && (edge g x y 0 && edge g y z r)) = false := not_of b
        rw [b1, Bool.false_and, if_pos rfl] at e0
        exact iteT (q0 e0 G1 (Fr.of_same s1))
      · have b1 : (isSubject g x && (edge g x y 0 && edge g y z r)) = true := by
          cases b2 : (isSubject g x && (edge g x y 0 && edge g y z r)) with
          | true => rfl
          | false =>
            rw [b2] at b
            exact absurd rfl b
        rw [b1, Bool.true_and] at e0
        refine ⟨_, rfl, _, rfl, _, rfl, x, y, z, rfl, _, rfl, ite2 (fun b => ?_) (fun b => ?_)⟩
        · have b2 : ((x != y) && ((x != z) && (y != z))) = false := not_of b
          rw [if_pos b2] at e0
          exact q0 e0 G1 (Fr.of_same s1)
        · have b2 : ¬ ((x != y) && ((x != z) && (y != z))) = false := fun b3 => b (by rw [b3] <;> rfl)
          rw [if_neg b2] at e0
          refine ⟨_, rfl, a, dx1, _, rfl, ho1, gF_no (by decide +kernel) (by decide +kernel) kl el, _, rfl, _, rfl, _, rfl, a, kl, el, g, x, z, r, rfl, G1, W.edgesFew, fun hf H' G' fr => ?_, fun hf H' G' fr => ?_⟩
          · exact q0 (by rw [e0, if_pos hf]) G' ((Fr.of_same s1).trans fr)
          · exact q0 (by rw [e0, if_neg (by rw [hf]; decide)]; rfl) G' ((Fr.of_same s1).trans fr)
theorem scGive : FnScope ["graph", "x", "y", "z", "r", "allowed"] ["graph", "x", "y", "z", "r"] (defScope sGive) := ⟨rfl, rfl, rfl, by decide +kernel, rfl, by decide +kernel, by decide +kernel⟩
def spGive (K : PySem.W.Frag) (C : Addr) : Sp := fun vs H Q _ => ∃ (a kl el : Addr) (g : Graph) (x y z r : Nat), vs = [.ref a, iv x, iv y, iv z, iv r] ∧ GA K C H a kl el g ∧ Wf g ∧ Post K C H Q a kl el g (.give x y z r)
theorem ok_give {f fJ fH fD fA : Addr} {fd fdJ fdH fdD fdA : FuncData} (F : Fun K "give" "give" sGive f fd) (T : Txt K mg C) (c : Cst mg)
    (mJ : Meth K C "is_subject" fJ) (bJ : Binds K fdJ ["self", "x"] []) (GJ : FnOk P w K mg base CX0 2 fJ fdJ ["self", "x"] (spSubj K C))
    (mH : Meth K C "has" fH) (bH : Binds K fdH ["self", "x", "y", "r"] []) (GH : FnOk P w K mg base CX0 1 fH fdH ["self", "x", "y", "r"] (spHas K C))
    (FD : Fun K "all_different" "all_different" sDiff fD fdD) (bD : Binds K fdD ["x", "y", "z"] []) (gD : mg "all_different" = some (.ref fD))
    (mA : Meth K C "add_edge" fA) (bA : Binds K fdA ["self", "x", "y", "r"] []) (GAd : FnOk P w K mg base CX0 2 fA fdA ["self", "x", "y", "r"] (spAddEdge K C)) :
    FnOk P w K mg base CX0 3 f fd ["graph", "x", "y", "z", "r"] (spGive K C) := by
  have GD : FnOk P w K mg base CX0 1 fD fdD ["x", "y", "z"] spDiff := ok_diff FD
  refine F.ok scGive (fun vs H Q E h => ?_) (fun cdv A outer s H vs Q E hr h => ?_)
  · obtain ⟨a, kl, el, g, x, y, z, r, rfl, _⟩ := h
    rfl
  · obtain ⟨a, kl, el, g, x, y, z, r, rfl, G, W, q⟩ := h
    obtain ⟨dx, ho⟩ := G.obj
    have hr1 : Room 1 _ := hr.mono (by decide)
    refine ⟨_, pss_cons (ps_if (pt_cmpR op_gt (pv 4) (pe_ci c.high) (nomark _)) (pss_one (ps_ret (pe_ci c.notFit))) pss_nil)
      (pss_cons (ps_set (i := 5) scGive.nd rfl (Or.inl rfl) (pe_and (pe_meth (pv 0) T.cl mJ GJ hr bJ .nil pass0 (pa_cons (pv 1) pa_nil)) (pe_and (pe_meth (pv 0) T.cl mH GH hr1 bH .nil pass0 (pa_cons (pv 1) (pa_cons (pv 2) (pa_cons (pe_ci c.toGive) pa_nil))))
        (pe_one (pe_meth (pv 0) T.cl mH GH hr1 bH .nil pass0 (pa_cons (pv 1) (pa_cons (pv 3) (pa_cons (pv 4) pa_nil))))))))
      (pss_cons (ps_if (PW.pt (pw_or (pt_not (pt_val (pv 5))) (pw_or1 (pt_not (pt_val (pe_call GD hr1 (by rfl) gD FD.kp bD .nil pass0 (pa_cons (pv 1) (pa_cons (pv 2) (pa_cons (pv 3) pa_nil))))))))) (pss_one (ps_ret (pe_ci c.mayNot))) pss_nil)
      (pss_one (ps_ret (pe_meth (pv 0) T.cl mA GAd hr bA .nil pass0 (pa_cons (pv 2) (pa_cons (pv 3) (pa_cons (pv 4) pa_nil)))))))), ?_⟩
    have q0 : ∀ {g' : Graph} {z' : Int} {H' : Hp}, step g (.give x y z r) = (g', [z']) → GA K C H' a kl el g' → Fr kl el H H' → Q (.int z') H' := fun e h f => q.at e h f
    have e0 : step g (.give x y z r) = if 3 < r then (g, [-1]) else if mayGive g x y z r = false then (g, [-6]) else if full (add g y z r) = true then (g, [-5]) else (add g y z r, Wm02.ints [(add g y z r).edges.length]) := rfl
    refine ⟨_, rfl, _, _, rfl, rfl, _, rfl, ite2 (fun b => ?_) (fun b => ?_)⟩
    · have b1 : 3 < r := by
        have b := of_decide_eq_true b
        omega
      exact q0 (by rw [e0, if_pos b1]) G Fr.refl
    · have b1 : ¬ 3 < r := fun b2 => b (decide_eq_true (by omega))
      rw [if_neg b1, may_give] at e0
      refine allowed_ev (c := 1) (i := 1) (v := x) rfl G fun H1 s1 => ?_
      have G1 := G.same s1
      obtain ⟨dx1, ho1⟩ := G1.obj
      refine ⟨_, rfl, _, rfl, ite2 (fun b => ?_) (fun b => ?_)⟩
      · have b1 : (isSubject g x && (edge g x y 1 && edge g x z r)) = false := not_of b
        rw [b1, Bool.false_and, if_pos rfl] at e0
        exact iteT (q0 e0 G1 (Fr.of_same s1))
      · have b1 : (isSubject g x && (edge g x y 1 && edge g x z r)) = true := by
          cases b2 : (isSubject g x && (edge g x y 1 && edge g x z r)) with
          | true => rfl
          | false =>
            rw [b2] at b
            exact absurd rfl b
        rw [b1, Bool.true_and] at e0
        refine ⟨_, rfl, _, rfl, _, rfl, x, y, z, rfl, _, rfl, ite2 (fun b => ?_) (fun b => ?_)⟩
        · have b2 : ((x != y) && ((x != z) && (y != z))) = false := not_of b
          rw [if_pos b2] at e0
          exact q0 e0 G1 (Fr.of_same s1)
        · have b2 : ¬ ((x != y) && ((x != z) && (y != z))) = false := fun b3 => b (by rw [b3] <;> rfl)
          rw [if_neg b2] at e0
          refine ⟨_, rfl, a, dx1, _, rfl, ho1, gF_no (by decide +kernel) (by decide +kernel) kl el, _, rfl, _, rfl, _, rfl, a, kl, el, g, y, z, r, rfl, G1, W.edgesFew, fun hf H' G' fr => ?_, fun hf H' G' fr => ?_⟩
          · exact q0 (by rw [e0, if_pos hf]) G' ((Fr.of_same s1).trans fr)
          · exact q0 (by rw [e0, if_neg (by rw [hf]; decide)]; rfl) G' ((Fr.of_same s1).trans fr)
/-! ### make -/
theorem rises_lt : ∀ {l : List Nat} {a : Nat}, rises (a :: l) = true → ∀ b ∈ l, a < b
  | [], _, _, b, hb => by cases hb
  | c :: l, a, h, b, hb => by
    have h : (decide (a < c) && rises (c :: l)) = true := h
    rw [Bool.and_eq_true, decide_eq_true_iff] at h
    rcases List.mem_cons.mp hb with rfl | hb
    · exact h.1
    · exact Nat.lt_trans h.1 (rises_lt h.2 b hb)
theorem rises_nodup : ∀ {l : List Nat}, rises l = true → l.Nodup
  | [], _ => List.nodup_nil
  | a :: l, h => by
    refine List.nodup_cons.mpr ⟨fun m => Nat.lt_irrefl _ (rises_lt h a m), ?_⟩
    cases l with
    | nil => exact List.nodup_nil
    | cons c l =>
      have h : (decide (a < c) && rises (c :: l)) = true := h
      rw [Bool.and_eq_true] at h
      exact rises_nodup h.2
theorem scMake : FnScope ["graph", "x", "s", "rights", "made", "right"] ["graph", "x", "s", "rights"] (defScope sMake) := ⟨rfl, rfl, rfl, by decide +kernel, rfl, by decide +kernel, by decide +kernel⟩
def spMake (K : PySem.W.Frag) (C : Addr) : Sp := fun vs H Q _ => ∃ (a kl el ra : Addr) (g : Graph) (x s : Nat) (rs : List Nat), vs = [.ref a, iv x, iv s, .ref ra] ∧ GA K C H a kl el g ∧ Wf g ∧ H ra = some (.lst (nv rs)) ∧ ra ≠ kl ∧ ra ≠ el ∧ Post K C H Q a kl el g (.make x s rs)
theorem ok_make {f fR fJ fO fA : Addr} {fd fdR fdJ fdO fdA : FuncData} (F : Fun K "make" "make" sMake f fd) (T : Txt K mg C) (c : Cst mg)
    (FR : Fun K "rights_fit" "rights_fit" sRights fR fdR) (bR : Binds K fdR ["rights"] []) (gR : mg "rights_fit" = some (.ref fR))
    (mJ : Meth K C "is_subject" fJ) (bJ : Binds K fdJ ["self", "x"] []) (GJ : FnOk P w K mg base CX0 2 fJ fdJ ["self", "x"] (spSubj K C))
    (mO : Meth K C "add_one" fO) (bO : Binds K fdO ["self", "s"] []) (GO : FnOk P w K mg base CX0 1 fO fdO ["self", "s"] (spAddOne K C))
    (mA : Meth K C "add_edge" fA) (bA : Binds K fdA ["self", "x", "y", "r"] []) (GAd : FnOk P w K mg base CX0 2 fA fdA ["self", "x", "y", "r"] (spAddEdge K C)) :
    FnOk P w K mg base CX0 3 f fd ["graph", "x", "s", "rights"] (spMake K C) := by
  have GR : FnOk P w K mg base CX0 1 fR fdR ["rights"] (spRights K) := ok_rights FR c
  refine F.ok scMake (fun vs H Q E h => ?_) (fun cdv A outer s H vs Q E hr h => ?_)
  · obtain ⟨a, kl, el, ra, g, x, s, rs, rfl, _⟩ := h
    rfl
  · obtain ⟨a, kl, el, ra, g, x, s1, rs, rfl, G, W, hra, nk, ne, q⟩ := h
    obtain ⟨dx, ho⟩ := G.obj
    obtain ⟨ts, he1, ht1⟩ := G.eds
    have hr1 : Room 1 _ := hr.mono (by decide)
    refine ⟨_, pss_cons (ps_if (PW.pt (pw_or (pt_cmpR op_gt (pv 2) pe_int (nomark _)) (pw_or1 (pt_not (pt_val (pe_call GR hr1 (by rfl) gR FR.kp bR .nil pass0 (pa_cons (pv 3) pa_nil))))))) (pss_one (ps_ret (pe_ci c.notFit))) pss_nil)
      (pss_cons (ps_if (pt_not (pt_val (pe_meth (pv 0) T.cl mJ GJ hr bJ .nil pass0 (pa_cons (pv 1) pa_nil)))) (pss_one (ps_ret (pe_ci c.mayNot))) pss_nil)
      (pss_cons (ps_if (PW.pt (pw_or (pt_cmpR op_eq (pe_callB call_len_seq (by rfl) c.len PySem.boot_len (pa_cons (pe_fld (pv 0) rfl) pa_nil)) (pe_ci c.ones) (nomark _))
          (pw_or1 (pt_cmpR op_gt (pe_op op_add (pe_callB call_len_seq (by rfl) c.len PySem.boot_len (pa_cons (pe_fld (pv 0) rfl) pa_nil)) (pe_callB call_len_seq (by rfl) c.len PySem.boot_len (pa_cons (pv 3) pa_nil))) (pe_ci c.edges) (nomark _))))) (pss_one (ps_ret (pe_ci c.full))) pss_nil)
      (pss_cons (ps_set (i := 4) scMake.nd rfl (Or.inl rfl) (pe_meth (pv 0) T.cl mO GO hr1 bO .nil pass0 (pa_cons (pv 2) pa_nil)))
      (pss_cons (ps_for PassesOwn.never rfl (pi_list (pv 3)) (pg_name (i := 5) scMake.nd rfl (Or.inl rfl))
        (pss_one (ps_expr (pe_meth (pv 0) T.cl mA GAd hr bA .nil pass0 (pa_cons (pv 1) (pa_cons (pv 4) (pa_cons (pv 5) pa_nil)))))))
      (pss_one (ps_ret (pv 4))))))), ?_⟩
    have e0 : step g (.make x s1 rs) = if 1 < s1 ∨ rs.all (fun r => decide (r ≤ 3)) = false ∨ rises rs = false then (g, [-1]) else if isSubject g x = false then (g, [-6]) else
      if 10 ≤ g.subject.length ∨ full (Wm02.make g x (s1 == 1) rs) = true then (g, [-5]) else (Wm02.make g x (s1 == 1) rs, Wm02.ints [g.subject.length + 1]) := rfl
    refine ⟨_, rfl, _, _, rfl, rfl, _, rfl, ite2 (fun b => ?_) (fun b => ?_)⟩
    · have b1 : 1 < s1 := by
        have b := of_decide_eq_true b
        omega
      exact iteT (q.at (by rw [e0, if_pos (.inl b1)]) G Fr.refl)
    · have b1 : ¬ 1 < s1 := fun b2 => b (decide_eq_true (by omega))
      refine ⟨_, rfl, ra, rs, rfl, SqL.of hra, _, rfl, ite2 (fun b => ?_) (fun b => ?_)⟩
      · have b2 : fitFrom 0 rs = false := by simpa using b
        rw [fit_eq, Bool.and_eq_false_iff] at b2
        exact q.at (by rw [e0, if_pos (.inr b2)]) G Fr.refl
      · have b2 : fitFrom 0 rs = true := by
          cases b3 : fitFrom 0 rs with
          | true => rfl
          | false =>
            rw [b3] at b
            exact absurd rfl b
        rw [fit_eq, Bool.and_eq_true] at b2
        have e0 := e0.trans (if_neg (by
          rintro (z | z | z)
          · exact b1 z
          · rw [b2.1] at z
            cases z
          · rw [b2.2] at z
            cases z))
        have hnd := rises_nodup b2.2
        refine ⟨_, rfl, a, dx, _, rfl, ho, gF_no (by decide +kernel) (by decide +kernel) kl el, _, rfl, a, kl, el, g, x, rfl, G, _, rfl, ite2 (fun b => ?_) (fun b => ?_)⟩
        · have b3 : isSubject g x = false := by simpa using b
          exact q.at (by rw [e0, if_pos b3]) G Fr.refl
        · have b3 : ¬ isSubject g x = false := fun z => b (by rw [z] <;> rfl)
          have e0 := e0.trans (if_neg b3)
          have hts := ht1.len
          have efl : full (Wm02.make g x (s1 == 1) rs) = decide (30 < g.edges.length + rs.length) := by
            unfold full Wm02.make
            show decide (30 < (g.edges ++ rs.map _).length) = _
            rw [List.length_append, List.length_map]
          refine ⟨_, rfl, a, C, dx, _, _, rfl, ho, T.cl, T.nK, gF_kinds kl el, kl, _, rfl, .inl (SqL.of G.knd), rfl, _, rfl, ite2 (fun b => ?_) (fun b => ?_)⟩
          · have b4 : g.subject.length = 10 := by
              have b := V.int.inj (of_decide_eq_true b)
              rw [GA.kinds_len] at b
              omega
            exact iteT (q.at (by rw [e0, if_pos (.inl (by omega))]) G Fr.refl)
          · have b4 : ¬ 10 ≤ g.subject.length := fun z => b (decide_eq_true (by
              rw [GA.kinds_len]
              have := W.few
              rw [show g.subject.length = 10 by omega]
              rfl))
            refine ⟨_, rfl, a, C, dx, _, _, rfl, ho, T.cl, T.nE, gF_edges kl el, el, _, rfl, .inl (SqL.of he1), _, rfl, ra, _, rfl, .inl (SqL.of hra), _, _, rfl, rfl, _, _, rfl, rfl, _, rfl, ite2 (fun b => ?_) (fun b => ?_)⟩
            · have b5 : 30 < g.edges.length + rs.length := by
                have b := of_decide_eq_true b
                rw [nv_len] at b
                omega
              exact q.at (by rw [e0, if_pos (.inr (by rw [efl]; exact decide_eq_true b5))]) G Fr.refl
            · have b5 : ¬ 30 < g.edges.length + rs.length := fun z => b (decide_eq_true (by
                rw [nv_len]
                omega))
              have e0 := e0.trans (if_neg (by
                rintro (z | z)
                · exact b4 z
                · rw [efl] at z
                  exact b5 (of_decide_eq_true z)))
              -- made = graph.add_one(s)
              refine ⟨_, rfl, a, dx, _, rfl, ho, gF_no (by decide +kernel) (by decide +kernel) kl el, _, rfl, a, kl, el, g, s1, rfl, G, by omega, by have := W.few; omega, fun H1 G1 f1 => ?_⟩
              have hra1 : H1 ra = some (.lst (nv rs)) := f1 _ _ hra nk ne
              refine ⟨_, rfl, ra, rfl, ⟨_, SqL.of hra1⟩, for_list (K := K) (a := ra) (xs := nv rs)
                (fun i σ H' => ∃ y5 : Option V, σ = [some (.ref a), some (iv x), some (iv s1), some (.ref ra), some (iv (g.subject.length + 1)), y5] ∧ Fr kl el H H' ∧ GA K C H' a kl el ⟨g.subject ++ [s1 == 1], g.edges ++ (rs.take i).map fun r => ⟨x, g.subject.length + 1, r⟩⟩)
                ⟨none, rfl, f1, by simpa using G1⟩ (fun i σ H' _ ⟨_, _, f5, _⟩ => SqL.of (f5 _ _ hra nk ne)) ?_ ?_⟩
              · rintro i v σ H2 hv ⟨y5, rfl, f2, G2⟩
                obtain ⟨n, hn, rfl⟩ := nv_get hv
                obtain ⟨hi, hin⟩ := List.getElem?_eq_some_iff.mp hn
                obtain ⟨dx2, ho2⟩ := G2.obj
                have hno : edge ⟨g.subject ++ [s1 == 1], g.edges ++ (rs.take i).map fun r => ⟨x, g.subject.length + 1, r⟩⟩ x (g.subject.length + 1) n = false := by
                  rw [Bool.eq_false_iff]
                  intro z
                  have z := edge_iff.mp z
                  rcases List.mem_append.mp z with z | z
                  · have := (W.dst _ z).2
                    have : g.subject.length + 1 ≤ g.subject.length := this
                    omega
                  · obtain ⟨m, hm, e⟩ := List.mem_map.mp z
                    have e : m = n := congrArg Edge.right e
                    subst e
                    obtain ⟨j, hj, e2⟩ := List.mem_iff_getElem.mp hm
                    rw [List.length_take] at hj
                    rw [List.getElem_take] at e2
                    have := nd_ix hnd (List.getElem?_eq_getElem (show j < rs.length by omega)) (by rw [e2]; exact hn)
                    omega
                have ea : add ⟨g.subject ++ [s1 == 1], g.edges ++ (rs.take i).map fun r => ⟨x, g.subject.length + 1, r⟩⟩ x (g.subject.length + 1) n = ⟨g.subject ++ [s1 == 1], g.edges ++ (rs.take (i + 1)).map fun r => ⟨x, g.subject.length + 1, r⟩⟩ := by
                  unfold add
                  rw [hno, if_neg Bool.false_ne_true, take_more hn, List.map_append, List.append_assoc]
                  rfl
                have elen : (g.edges ++ (rs.take (i + 1)).map fun r => (⟨x, g.subject.length + 1, r⟩ : Edge)).length ≤ 30 := by
                  rw [List.length_append, List.length_map, List.length_take]
                  omega
                refine ⟨_, rfl, a, dx2, _, rfl, ho2, gF_no (by decide +kernel) (by decide +kernel) kl el, _, rfl, _, rfl, _, rfl, a, kl, el, _, x, g.subject.length + 1, n, rfl, G2, ?_, fun hf => ?_, fun hf H' G' fr => ?_⟩
                · show (g.edges ++ (rs.take i).map fun r => (⟨x, g.subject.length + 1, r⟩ : Edge)).length ≤ 30
                  rw [List.length_append, List.length_map, List.length_take]
                  omega
                · rw [ea] at hf
                  have hf := of_decide_eq_true hf
                  have hf : 30 < (g.edges ++ (rs.take (i + 1)).map fun r => (⟨x, g.subject.length + 1, r⟩ : Edge)).length := hf
                  omega
                · rw [ea] at G'
                  exact ⟨some (iv n), rfl, f2.trans fr, G'⟩
              · rintro σ H2 ⟨y5, rfl, f2, G2⟩
                rw [nv_len, List.take_length] at G2
                exact ⟨_, rfl, q.at e0 G2 f2⟩
/-! ### can -/
theorem scCan : FnScope ["graph", "r", "x", "y"] ["graph", "r", "x", "y"] (defScope sCan) := ⟨rfl, rfl, rfl, by decide +kernel, rfl, by decide +kernel, by decide +kernel⟩
def spCan (K : PySem.W.Frag) (C : Addr) : Sp := fun vs H Q _ => ∃ (a kl el : Addr) (g : Graph) (r x y : Nat), vs = [.ref a, iv r, iv x, iv y] ∧ GA K C H a kl el g ∧ Wf g ∧ Post K C H Q a kl el g (.can r x y)
theorem Wf.lS {g : Graph} (W : Wf g) : (subs g).length ≤ 10 := by
  have h1 := W.few
  have h3 := all_len g
  have : (subs g).length ≤ (Wm02.all g).length := List.length_filter_le _ _
  omega
theorem ok_can {f fF fB fS : Addr} {fd fdF fdB fdS : FuncData} (F : Fun K "can" "can" sCan f fd) (T : Txt K mg C) (c : Cst mg) (FF : Fun K "fits" "fits" sFits fF fdF) (bF : Binds K fdF ["graph", "x", "y", "r"] []) (gF' : mg "fits" = some (.ref fF)) (GF : FnOk P w K mg base CX0 2 fF fdF ["graph", "x", "y", "r"] (spFits K C))
    (FB : Fun K "can_be" "can_be" sCanBe fB fdB) (bB : Binds K fdB ["r", "x", "y", "subjects", "edges"] []) (gB : mg "can_be" = some (.ref fB)) (GB : FnOk P w K mg base CX0 4 fB fdB ["r", "x", "y", "subjects", "edges"] (spCanBe K))
    (mS : Meth K C "subjects" fS) (bS : Binds K fdS ["self"] []) (GS : FnOk P w K mg base CX0 1 fS fdS ["self"] (spSubs K C)) :
    FnOk P w K mg base CX0 5 f fd ["graph", "r", "x", "y"] (spCan K C) := by
  refine F.ok scCan (fun vs H Q E h => ?_) (fun cdv A outer s H vs Q E hr h => ?_)
  · obtain ⟨a, kl, el, g, r, x, y, rfl, _⟩ := h
    rfl
  · obtain ⟨a, kl, el, g, r, x, y, rfl, G, W, q⟩ := h
    obtain ⟨dx, ho⟩ := G.obj
    have hr1 : Room 1 _ := hr.mono (by decide)
    have hr2 : Room 2 _ := hr.mono (by decide)
    refine ⟨_, pss_cons (ps_if (pt_not (pt_val (pe_call GF hr2 (by rfl) gF' FF.kp bF .nil pass0 (pa_cons (pv 0) (pa_cons (pv 2) (pa_cons (pv 3) (pa_cons (pv 1) pa_nil))))))) (pss_one (ps_ret (pe_ci c.notFit))) pss_nil)
      (pss_one (ps_ret (pe_ifExp (pt_val (pe_call GB hr (by rfl) gB FB.kp bB .nil pass0 (pa_cons (pv 1) (pa_cons (pv 2) (pa_cons (pv 3) (pa_cons (pe_meth0 (pv 0) T.cl mS GS hr1 bS .nil pass0) (pa_cons (pe_fld (pv 0) rfl) pa_nil))))))) pe_int pe_int))), ?_⟩
    refine ⟨_, rfl, _, rfl, _, rfl, _, rfl, a, kl, el, g, x, y, r, rfl, G, _, rfl, ite2 (fun z => ?_) (fun z => ?_)⟩
    · have z1 : isEdge g x y r = false := by simpa using z
      exact q.at (by show (g, if isEdge g x y r = false then _ else _) = _; rw [if_pos z1]) G Fr.refl
    · have z1 : ¬ isEdge g x y r = false := by simpa using z
      have e0 : step g (.can r x y) = (g, [(flag (Wm02.can g r x y) : Int)]) := by
        show (g, if isEdge g x y r = false then _ else _) = _
        rw [if_neg z1]
        rfl
      refine ⟨_, rfl, _, rfl, _, rfl, _, rfl, a, dx, _, rfl, ho, gF_no (by decide +kernel) (by decide +kernel) kl el, a, kl, el, g, rfl, G, by have := W.few; omega, fun H1 p s1 np hp => ?_⟩
      have G1 := G.same s1
      obtain ⟨dx1, ho1⟩ := G1.obj
      refine ⟨_, rfl, a, C, dx1, _, _, rfl, ho1, T.cl, T.nE, gF_edges kl el, r, x, y, p, el, subs g, g.edges, rfl, SqL.of hp, G1.edsL, by have := W.lS; omega, by have := W.edgesFew; omega, fun H2 s2 => ?_⟩
      have ec : pB (Cb g.edges (subs g) r x y) = Wm02.can g r x y := pB_of (can_iff W.wd)
      rw [ec]
      refine ⟨_, rfl, ite2 (fun b => ?_) (fun b => ?_)⟩
      · rw [b] at e0
        exact q.at e0 (G1.same s2) (Fr.of_same (s1.trans s2))
      · rw [Bool.eq_false_iff.mpr b] at e0
        exact q.at e0 (G1.same s2) (Fr.of_same (s1.trans s2))
end
end Tg

set_option Elab.async false
set_option linter.all false
set_option maxRecDepth 100000
set_option maxHeartbeats 1000000
namespace Tg
open PySem PySem.Spec PyProof.Rows L2
open Wm02 (Edge Graph isThere isSubject edge add full flag isEdge rises mayTake mayGive step)
abbrev sSteal : Stmt := topS 54
abbrev sCounted : Stmt := topS 55
abbrev sWho : Stmt := topS 56
abbrev sWhat : Stmt := topS 57
abbrev sNear : Stmt := topS 58
abbrev sFewest : Stmt := topS 59
/-- what a call leaves that answers a list -/
def PostL (K : PySem.W.Frag) (C : Addr) (H : Hp) (Q : VK) (a kl el : Addr) (g : Graph) (c : Wm02.Call) : Prop := ∀ H' p, GA K C H' a kl el (step g c).1 → Fr kl el H H' → H p = none → H' p = some (.lst ((step g c).2.map V.int)) → Q (.ref p) H'
theorem PostL.at {K : PySem.W.Frag} {C : Addr} {H H' : Hp} {Q : VK} {a kl el p : Addr} {g g' : Graph} {c : Wm02.Call} {zs : List Int} (q : PostL K C H Q a kl el g c) (e : step g c = (g', zs)) (h : GA K C H' a kl el g') (f : Fr kl el H H') (np : H p = none) (hp : H' p = some (.lst (zs.map V.int))) : Q (.ref p) H' :=
  q H' p (by rw [e]; exact h) f np (by rw [e]; exact hp)
theorem told_nv (l : List Nat) : (Wm02.told l).map V.int = nv (l.length :: l) := by
  unfold Wm02.told Wm02.ints nv
  rw [List.map_map]
  rfl
def edN (e : Edge) : List Nat := [e.src, e.dst, e.right]
theorem edgesTold_nv (F : List Edge) : (Wm02.edgesTold F).map V.int = nv (F.length :: (F.map edN).flatten) := by
  unfold Wm02.edgesTold Wm02.ints nv
  rw [List.map_cons, List.map_cons, List.map_map, ← List.flatMap_def]
  rfl
theorem one_le : 1 ≤ sizeLine := by decide
structure CstQ (mg : Str → Option Value) : Prop where
  tooMany : IsI mg "TOO_MANY" (-7)
  list : mg "list" = none
  range : mg "range" = none
section
variable {P : Program} {w : World} {K : PySem.W.Frag} {mg : Str → Option Value} {base : Heap} {C : Addr}
/-! ### ones -/
theorem scOnes : FnScope ["self"] ["self"] (defScope sOnes) := ⟨rfl, rfl, rfl, by decide +kernel, rfl, by decide +kernel, by decide +kernel⟩
def spOnes (K : PySem.W.Frag) (C : Addr) : Sp := fun vs H Q _ => ∃ (a kl el : Addr) (g : Graph), vs = [.ref a] ∧ GA K C H a kl el g ∧ g.subject.length ≤ 1000 ∧
  ∀ H' p, Same H H' → H p = none → H' p = some (.lst (nv (Wm02.all g))) → Q (.ref p) H'
theorem rg_all (g : Graph) : rgV 1 ((g.subject.length : Int) + 1) = nv (Wm02.all g) := by
  unfold rgV Wm02.all nv
  have e : ((g.subject.length : Int) + 1 - 1).toNat = g.subject.length := by omega
  rw [e, List.map_map]
  refine List.map_congr_left fun i _ => ?_
  show V.int (1 + (i : Int)) = V.int ((i + 1 : Nat) : Int)
  congr 1
  omega
theorem ok_ones {f : Addr} {fd : FuncData} {k : Nat} (F : Fun K "ones" "Graph.ones" sOnes f fd) (T : Txt K mg C) (ml : mg "len" = none) (c : CstQ mg) : FnOk P w K mg base CX0 (k + 1) f fd ["self"] (spOnes K C) := by
  refine F.ok scOnes (fun vs H Q E h => ?_) (fun cdv A outer s H vs Q E hr h => ?_)
  · obtain ⟨a, kl, el, g, rfl, _⟩ := h
    rfl
  · obtain ⟨a, kl, el, g, rfl, G, hl, q⟩ := h
    obtain ⟨dx, ho⟩ := G.obj
    refine ⟨_, pss_one (ps_ret (pe_listRg rfl (by rfl) c.list (prg_2 (by rfl) c.range pe_int (pe_op op_add (pe_callB call_len_seq (by rfl) ml PySem.boot_len (pa_cons (pe_fld (pv 0) rfl) pa_nil)) pe_int)))), ?_⟩
    refine ⟨_, rfl, a, C, dx, _, _, rfl, ho, T.cl, T.nK, gF_kinds kl el, kl, _, rfl, .inl (SqL.of G.knd), _, _, rfl, rfl, _, _, rfl, rfl, ?_, fun p np => ?_⟩
    · rw [GA.kinds_len]
      exact RgOk.of_le (by omega) (by omega) (by omega) (by omega)
    · refine q _ p (same_upd np) np ?_
      rw [upd_same, GA.kinds_len, rg_all]
/-! ### steal -/
theorem scSteal : FnScope ["graph", "r", "x", "y"] ["graph", "r", "x", "y"] (defScope sSteal) := ⟨rfl, rfl, rfl, by decide +kernel, rfl, by decide +kernel, by decide +kernel⟩
def spSteal (K : PySem.W.Frag) (C : Addr) : Sp := fun vs H Q _ => ∃ (a kl el : Addr) (g : Graph) (r x y : Nat), vs = [.ref a, iv r, iv x, iv y] ∧ GA K C H a kl el g ∧ Wf g ∧ Post K C H Q a kl el g (.steal r x y)
theorem ok_steal {f fF fB fS : Addr} {fd fdF fdB fdS : FuncData} (F : Fun K "steal" "steal" sSteal f fd) (T : Txt K mg C) (c : Cst mg) (FF : Fun K "fits" "fits" sFits fF fdF) (bF : Binds K fdF ["graph", "x", "y", "r"] []) (gF' : mg "fits" = some (.ref fF)) (GF : FnOk P w K mg base CX0 2 fF fdF ["graph", "x", "y", "r"] (spFits K C))
    (FB : Fun K "can_steal" "can_steal" sCanSteal fB fdB) (bB : Binds K fdB ["r", "x", "y", "subjects", "edges"] []) (gB : mg "can_steal" = some (.ref fB)) (GB : FnOk P w K mg base CX0 5 fB fdB ["r", "x", "y", "subjects", "edges"] (spSteal0 K))
    (mS : Meth K C "subjects" fS) (bS : Binds K fdS ["self"] []) (GS : FnOk P w K mg base CX0 1 fS fdS ["self"] (spSubs K C)) :
    FnOk P w K mg base CX0 6 f fd ["graph", "r", "x", "y"] (spSteal K C) := by
  refine F.ok scSteal (fun vs H Q E h => ?_) (fun cdv A outer s H vs Q E hr h => ?_)
  · obtain ⟨a, kl, el, g, r, x, y, rfl, _⟩ := h
    rfl
  · obtain ⟨a, kl, el, g, r, x, y, rfl, G, W, q⟩ := h
    obtain ⟨dx, ho⟩ := G.obj
    have hr1 : Room 1 _ := hr.mono (by decide)
    have hr2 : Room 2 _ := hr.mono (by decide)
    refine ⟨_, pss_cons (ps_if (pt_not (pt_val (pe_call GF hr2 (by rfl) gF' FF.kp bF .nil pass0 (pa_cons (pv 0) (pa_cons (pv 2) (pa_cons (pv 3) (pa_cons (pv 1) pa_nil))))))) (pss_one (ps_ret (pe_ci c.notFit))) pss_nil)
      (pss_one (ps_ret (pe_ifExp (pt_val (pe_call GB hr (by rfl) gB FB.kp bB .nil pass0 (pa_cons (pv 1) (pa_cons (pv 2) (pa_cons (pv 3) (pa_cons (pe_meth0 (pv 0) T.cl mS GS hr1 bS .nil pass0) (pa_cons (pe_fld (pv 0) rfl) pa_nil))))))) pe_int pe_int))), ?_⟩
    refine ⟨_, rfl, _, rfl, _, rfl, _, rfl, a, kl, el, g, x, y, r, rfl, G, _, rfl, ite2 (fun z => ?_) (fun z => ?_)⟩
    · have z1 : isEdge g x y r = false := by simpa using z
      exact q.at (by show (g, if isEdge g x y r = false then _ else _) = _; rw [if_pos z1]) G Fr.refl
    · have z1 : ¬ isEdge g x y r = false := by simpa using z
      have e0 : step g (.steal r x y) = (g, [(flag (Wm02.steal g r x y) : Int)]) := by
        show (g, if isEdge g x y r = false then _ else _) = _
        rw [if_neg z1]
        rfl
      refine ⟨_, rfl, _, rfl, _, rfl, _, rfl, a, dx, _, rfl, ho, gF_no (by decide +kernel) (by decide +kernel) kl el, a, kl, el, g, rfl, G, by have := W.few; omega, fun H1 p s1 np hp => ?_⟩
      have G1 := G.same s1
      obtain ⟨dx1, ho1⟩ := G1.obj
      refine ⟨_, rfl, a, C, dx1, _, _, rfl, ho1, T.cl, T.nE, gF_edges kl el, r, x, y, p, el, subs g, g.edges, rfl, SqL.of hp, G1.edsL, by have := W.lS; omega, by have := W.edgesFew; omega, W.nodup, fun H2 s2 => ?_⟩
      have ec : pB (St g.edges (subs g) r x y) = Wm02.steal g r x y := pB_of (steal_iff W.wd)
      rw [ec]
      refine ⟨_, rfl, ite2 (fun b => ?_) (fun b => ?_)⟩
      · rw [b] at e0
        exact q.at e0 (G1.same s2) (Fr.of_same (s1.trans s2))
      · rw [Bool.eq_false_iff.mpr b] at e0
        exact q.at e0 (G1.same s2) (Fr.of_same (s1.trans s2))
/-! ### counted -/
theorem scCounted : FnScope ["rows", "numbers", "row"] ["rows"] (defScope sCounted) := ⟨rfl, rfl, rfl, by decide +kernel, rfl, by decide +kernel, by decide +kernel⟩
def spCounted (K : PySem.W.Frag) : Sp := fun vs H Q _ => ∃ (ra : Addr) (ts : List V) (ls : List (List Nat)), vs = [.ref ra] ∧ SqL K H ra ts ∧ ts.length = ls.length ∧ (∀ (i : Nat) (v : V), ts[i]? = some v → ∃ t l, ls[i]? = some l ∧ v = .ref t ∧ SqT K H t (nv l)) ∧ ls.flatten.length ≤ 10000 ∧
  ∀ H' p, Same H H' → H p = none → H' p = some (.lst (nv (ls.length :: ls.flatten))) → Q (.ref p) H'
theorem flat_take (ls : List (List Nat)) (i : Nat) : (ls.take i).flatten.length ≤ ls.flatten.length := by
  have h : ls.flatten = (ls.take i).flatten ++ (ls.drop i).flatten := by rw [← List.flatten_append, List.take_append_drop]
  rw [h, List.length_append]
  omega
theorem ok_counted {f : Addr} {fd : FuncData} {k : Nat} (F : Fun K "counted" "counted" sCounted f fd) (ml : mg "len" = none) : FnOk P w K mg base CX0 (k + 1) f fd ["rows"] (spCounted K) := by
  refine F.ok scCounted (fun vs H Q E h => ?_) (fun cdv A outer s H vs Q E hr h => ?_)
  · obtain ⟨ra, ts, ls, rfl, _⟩ := h
    rfl
  · obtain ⟨ra, ts, ls, rfl, hR, hl, hrow, hlen, q⟩ := h
    refine ⟨_, pss_cons (ps_set (i := 1) scCounted.nd rfl (Or.inl rfl) (pe_lst (pa_cons (pe_callB call_len_seq (by rfl) ml PySem.boot_len (pa_cons (pv 0) pa_nil)) pa_nil)))
      (pss_cons (ps_for PassesOwn.never rfl (pi_list (pv 0)) (pg_name (i := 2) scCounted.nd rfl (Or.inl rfl))
        (pss_one (ps_expr (pe_bm PySem.F.plainAttrs_list PySem.F.slot_list_extend PySem.F.type_list_extend mt_extT (pv 1) (pa_cons (pv 2) pa_nil)))))
      (pss_one (ps_ret (pv 1)))), ?_⟩
    refine ⟨_, rfl, ra, ts, rfl, .inl hR, one_le, fun p np => ?_⟩
    refine ⟨_, rfl, ra, rfl, ⟨_, (le_of_same (same_upd np)).sqL hR⟩, for_list (K := K) (a := ra) (xs := ts)
      (fun i σ H' => ∃ (y2 : Option V), σ = [some (.ref ra), some (.ref p), y2] ∧ Same H H' ∧ H' p = some (.lst (nv (ls.length :: (ls.take i).flatten))))
      ⟨none, rfl, same_upd np, ?_⟩ (fun i σ H' _ ⟨_, _, s5, _⟩ => (le_of_same s5).sqL hR) ?_ ?_⟩
    · rw [upd_same, hl]
      rfl
    · rintro i v σ H1 hv ⟨y2, rfl, s1, hp⟩
      obtain ⟨t, l, hli, rfl, ht⟩ := hrow i v hv
      refine ⟨_, rfl, .inl ⟨rfl, _, SqL.of hp⟩, _, rfl, p, t, _, _, rfl, rfl, hp, (le_of_same s1).sqT ht, ?_, ?_⟩
      · rw [nv_len, nv_len, List.length_cons]
        have h1 := flat_take ls (i + 1)
        rw [take_more hli, List.flatten_append, List.length_append] at h1
        have h2 : [l].flatten.length = l.length := by simp
        have h3 : ls.length ≤ 100000000 ∨ True := .inr trivial
        exact Nat.le_of_lt (lt_line (by omega))
      · refine ⟨_, rfl, fun b u e => ?_, ?_⟩
        · rw [upd_ne (ne_of_none e np)]
          exact s1 _ _ e
        · rw [upd_same, take_more hli, List.flatten_append, ← nv_app]
          simp
    · rintro σ H1 ⟨y2, rfl, s1, hp⟩
      rw [hl, List.take_length] at hp
      exact ⟨_, rfl, q H1 p s1 np hp⟩
/-! ### near -/
theorem scNearG : FnScope ["graph", "x", "found"] ["graph", "x"] (defScope sNear) := ⟨rfl, rfl, rfl, by decide +kernel, rfl, by decide +kernel, by decide +kernel⟩
def spNear (K : PySem.W.Frag) (C : Addr) : Sp := fun vs H Q _ => ∃ (a kl el : Addr) (g : Graph) (x : Nat), vs = [.ref a, iv x] ∧ GA K C H a kl el g ∧ Wf g ∧ PostL K C H Q a kl el g (.near x)
theorem near_all {g : Graph} (W : Wf g) {x : Nat} (hx : isSubject g x = true) : (Wm02.all g).filter (fun v => (Wm02.spread g g.subject.length [x]).contains v) = nearOnes g.edges (subs g) x := by
  have hxs : x ∈ subs g := mem_subs.mpr hx
  unfold nearOnes subs
  rw [List.filter_filter]
  refine List.filter_congr fun v hv => ?_
  have h1 := near_iff W.wd (v := v) (subs_all hxs)
  cases hb : (Wm02.spread g g.subject.length [x]).contains v with
  | true =>
    have hn := h1.mp hb
    have hs := mem_subs.mp (Nr.subj hxs hn)
    rw [hs, Bool.and_true]
    exact (pB_iff.mpr hn).symm
  | false =>
    have hn : ¬ Nr g.edges (subs g) x v := fun z => by
      rw [h1.mpr z] at hb
      cases hb
    have hp : pB (Nr g.edges (subs g) x v) = false := pB_of ⟨fun z => (nomatch z), fun z => absurd z hn⟩
    show false = (pB (Nr g.edges (subs g) x v) && isSubject g v)
    rw [hp, Bool.false_and]
theorem ok_near {f fJ fN fS : Addr} {fd fdJ fdN fdS : FuncData} (F : Fun K "near" "near" sNear f fd) (T : Txt K mg C) (c : Cst mg) (mJ : Meth K C "is_subject" fJ) (bJ : Binds K fdJ ["self", "x"] []) (GJ : FnOk P w K mg base CX0 2 fJ fdJ ["self", "x"] (spSubj K C))
    (FN : Fun K "near_ones" "near_ones" sNearOnes fN fdN) (bN : Binds K fdN ["x", "subjects", "edges"] []) (gN : mg "near_ones" = some (.ref fN)) (GN : FnOk P w K mg base CX0 3 fN fdN ["x", "subjects", "edges"] (spNearO K))
    (mS : Meth K C "subjects" fS) (bS : Binds K fdS ["self"] []) (GS : FnOk P w K mg base CX0 1 fS fdS ["self"] (spSubs K C)) :
    FnOk P w K mg base CX0 4 f fd ["graph", "x"] (spNear K C) := by
  refine F.ok scNearG (fun vs H Q E h => ?_) (fun cdv A outer s H vs Q E hr h => ?_)
  · obtain ⟨a, kl, el, g, x, rfl, _⟩ := h
    rfl
  · obtain ⟨a, kl, el, g, x, rfl, G, W, q⟩ := h
    obtain ⟨dx, ho⟩ := G.obj
    have hr1 : Room 1 _ := hr.mono (by decide)
    have hr2 : Room 2 _ := hr.mono (by decide)
    refine ⟨_, pss_cons (ps_if (pt_not (pt_val (pe_meth (pv 0) T.cl mJ GJ hr2 bJ .nil pass0 (pa_cons (pv 1) pa_nil)))) (pss_one (ps_ret (pe_lst (pa_cons (pe_ci c.notFit) pa_nil)))) pss_nil)
      (pss_cons (ps_set (i := 2) scNearG.nd rfl (Or.inl rfl) (pe_call GN hr (by rfl) gN FN.kp bN .nil pass0 (pa_cons (pv 1) (pa_cons (pe_meth0 (pv 0) T.cl mS GS hr1 bS .nil pass0) (pa_cons (pe_fld (pv 0) rfl) pa_nil)))))
      (pss_one (ps_ret (pe_op op_cat (pe_lst (pa_cons (pe_callB call_len_seq (by rfl) c.len PySem.boot_len (pa_cons (pv 2) pa_nil)) pa_nil)) (pv 2))))), ?_⟩
    refine ⟨_, rfl, a, dx, _, rfl, ho, gF_no (by decide +kernel) (by decide +kernel) kl el, _, rfl, a, kl, el, g, x, rfl, G, _, rfl, ite2 (fun z => ?_) (fun z => ?_)⟩
    · have z1 : isSubject g x = false := by simpa using z
      have e0 : step g (.near x) = (g, [-1]) := by
        show (g, if isSubject g x = false then _ else _) = _
        rw [if_pos z1]
      exact ⟨one_le, fun p np => q.at e0 (G.same (same_upd np)) (Fr.of_same (same_upd np)) np upd_same⟩
    · have z1 : ¬ isSubject g x = false := by simpa using z
      have z2 : isSubject g x = true := by simpa using z1
      have e0 : step g (.near x) = (g, Wm02.told (nearOnes g.edges (subs g) x)) := by
        show (g, if isSubject g x = false then _ else _) = _
        rw [if_neg z1, near_all W z2]
      refine ⟨_, rfl, _, rfl, a, dx, _, rfl, ho, gF_no (by decide +kernel) (by decide +kernel) kl el, a, kl, el, g, rfl, G, by have := W.few; omega, fun H1 p s1 np hp => ?_⟩
      have G1 := G.same s1
      obtain ⟨dx1, ho1⟩ := G1.obj
      have hlS := W.lS
      have hlN : (nearOnes g.edges (subs g) x).length ≤ (subs g).length := List.length_filter_le _ _
      refine ⟨_, rfl, a, C, dx1, _, _, rfl, ho1, T.cl, T.nE, gF_edges kl el, x, p, el, subs g, g.edges, rfl, SqL.of hp, G1.edsL, by omega, by have := W.edgesFew; omega, mem_subs.mpr z2, fun H2 nl s2 nnl hnl => ?_⟩
      refine ⟨_, rfl, nl, _, rfl, .inl (SqL.of hnl), one_le, fun p1 n1 => ?_⟩
      have s3 : Same H2 (upd H2 p1 (.lst [.int ((nv (nearOnes g.edges (subs g) x)).length : Int)])) := same_upd n1
      refine ⟨_, rfl, p1, nl, _, _, rfl, rfl, upd_same, s3 _ _ hnl, ?_, fun p2 n2 => ?_⟩
      · rw [nv_len]
        show 1 + _ ≤ sizeLine
        exact Nat.le_of_lt (lt_line (by omega))
      · have sA : Same H2 (upd (upd H2 p1 (.lst [.int ((nv (nearOnes g.edges (subs g) x)).length : Int)])) p2 (.lst ([.int ((nv (nearOnes g.edges (subs g) x)).length : Int)] ++ nv (nearOnes g.edges (subs g) x)))) := s3.trans (same_upd n2)
        have sB := s1.trans (s2.trans sA)
        refine q.at e0 (G.same sB) (Fr.of_same sB) ((s1.trans (s2.trans s3)).free n2) ?_
        rw [upd_same, told_nv, nv_len]
        rfl
/-! ### fewest -/
theorem scFewest : FnScope ["graph", "r", "x", "y", "found"] ["graph", "r", "x", "y"] (defScope sFewest) := ⟨rfl, rfl, rfl, by decide +kernel, rfl, by decide +kernel, by decide +kernel⟩
def spFewest (K : PySem.W.Frag) (C : Addr) : Sp := fun vs H Q _ => ∃ (a kl el : Addr) (g : Graph) (r x y : Nat), vs = [.ref a, iv r, iv x, iv y] ∧ GA K C H a kl el g ∧ Wf g ∧ PostL K C H Q a kl el g (.fewest r x y)
theorem tups_rows {H : Hp} {ts : List V} {F : List Edge} (h : Tups K H ts F) : ts.length = (F.map edN).length ∧ ∀ (i : Nat) (v : V), ts[i]? = some v → ∃ t l, (F.map edN)[i]? = some l ∧ v = .ref t ∧ SqT K H t (nv l) := by
  refine ⟨by rw [List.length_map]; exact h.len, fun i v hv => ?_⟩
  obtain ⟨e, t, he, rfl, ht⟩ := h.get hv
  exact ⟨t, edN e, by rw [List.getElem?_map, he]; rfl, rfl, ht⟩
theorem edN_flat : ∀ F : List Edge, (F.map edN).flatten.length = 3 * F.length
  | [] => rfl
  | e :: F => by
    rw [List.map_cons, List.flatten_cons, List.length_append, edN_flat F, List.length_cons]
    show 3 + _ = _
    omega
theorem fewest_len {g : Graph} {r x y : Nat} {F : List Edge} (h : Wm02.fewest g r x y = some F) : F.length ≤ 3 := by
  unfold Wm02.fewest at h
  have hm := List.mem_of_find?_eq_some h
  obtain ⟨k, hk, hc⟩ := List.mem_flatMap.mp hm
  have := (mem_choices.mp hc).2
  have := List.mem_range.mp hk
  omega
theorem ok_fewest {f fF fB fS fD : Addr} {fd fdF fdB fdS fdD : FuncData} (F : Fun K "fewest" "fewest" sFewest f fd) (T : Txt K mg C) (c : Cst mg) (cq : CstQ mg) (FF : Fun K "fits" "fits" sFits fF fdF) (bF : Binds K fdF ["graph", "x", "y", "r"] []) (gF' : mg "fits" = some (.ref fF)) (GF : FnOk P w K mg base CX0 2 fF fdF ["graph", "x", "y", "r"] (spFits K C))
    (FB : Fun K "fewest_edges" "fewest_edges" sFewestE fB fdB) (bB : Binds K fdB ["r", "x", "y", "subjects", "edges"] []) (gB : mg "fewest_edges" = some (.ref fB)) (GB : FnOk P w K mg base CX0 6 fB fdB ["r", "x", "y", "subjects", "edges"] (spFew K))
    (FD : Fun K "counted" "counted" sCounted fD fdD) (bD : Binds K fdD ["rows"] []) (gD : mg "counted" = some (.ref fD))
    (mS : Meth K C "subjects" fS) (bS : Binds K fdS ["self"] []) (GS : FnOk P w K mg base CX0 1 fS fdS ["self"] (spSubs K C)) :
    FnOk P w K mg base CX0 7 f fd ["graph", "r", "x", "y"] (spFewest K C) := by
  have GD : FnOk P w K mg base CX0 1 fD fdD ["rows"] (spCounted K) := ok_counted FD c.len
  refine F.ok scFewest (fun vs H Q E h => ?_) (fun cdv A outer s H vs Q E hr h => ?_)
  · obtain ⟨a, kl, el, g, r, x, y, rfl, _⟩ := h
    rfl
  · obtain ⟨a, kl, el, g, r, x, y, rfl, G, W, q⟩ := h
    obtain ⟨dx, ho⟩ := G.obj
    have hr1 : Room 1 _ := hr.mono (by decide)
    have hr2 : Room 2 _ := hr.mono (by decide)
    refine ⟨_, pss_cons (ps_if (pt_not (pt_val (pe_call GF hr2 (by rfl) gF' FF.kp bF .nil pass0 (pa_cons (pv 0) (pa_cons (pv 2) (pa_cons (pv 3) (pa_cons (pv 1) pa_nil))))))) (pss_one (ps_ret (pe_lst (pa_cons (pe_ci c.notFit) pa_nil)))) pss_nil)
      (pss_cons (ps_set (i := 4) scFewest.nd rfl (Or.inl rfl) (pe_call GB hr (by rfl) gB FB.kp bB .nil pass0 (pa_cons (pv 1) (pa_cons (pv 2) (pa_cons (pv 3) (pa_cons (pe_meth0 (pv 0) T.cl mS GS hr1 bS .nil pass0) (pa_cons (pe_fld (pv 0) rfl) pa_nil)))))))
      (pss_one (ps_ret (pe_ifExp (pt_cmpR op_isN (pv 4) pe_non (nomark _)) (pe_lst (pa_cons (pe_ci cq.tooMany) pa_nil)) (pe_call GD hr1 (by rfl) gD FD.kp bD .nil pass0 (pa_cons (pv 4) pa_nil)))))), ?_⟩
    refine ⟨_, rfl, _, rfl, _, rfl, _, rfl, a, kl, el, g, x, y, r, rfl, G, _, rfl, ite2 (fun z => ?_) (fun z => ?_)⟩
    · have z1 : isEdge g x y r = false := by simpa using z
      have e0 : step g (.fewest r x y) = (g, [-1]) := by
        show (g, if isEdge g x y r = false then _ else _) = _
        rw [if_pos z1]
      exact ⟨one_le, fun p np => q.at e0 (G.same (same_upd np)) (Fr.of_same (same_upd np)) np upd_same⟩
    · have z1 : ¬ isEdge g x y r = false := by simpa using z
      refine ⟨_, rfl, _, rfl, _, rfl, _, rfl, a, dx, _, rfl, ho, gF_no (by decide +kernel) (by decide +kernel) kl el, a, kl, el, g, rfl, G, by have := W.few; omega, fun H1 p s1 np hp => ?_⟩
      have G1 := G.same s1
      obtain ⟨dx1, ho1⟩ := G1.obj
      refine ⟨_, rfl, a, C, dx1, _, _, rfl, ho1, T.cl, T.nE, gF_edges kl el, r, x, y, p, el, subs g, g.edges, rfl, SqL.of hp, G1.edsL, by have := W.lS; omega, by have := W.edgesFew; omega, W.nodup, fun H2 v o s2 hv hfew => ?_⟩
      have hsp := few_spec W.wd hfew
      have sA := s1.trans s2
      refine ⟨_, rfl, rfl, _, rfl, ite2 (fun b => ?_) (fun b => ?_)⟩
      · have ev : v = .non := of_decide_eq_true b
        have eo : o = none := by
          cases o with
          | none => rfl
          | some F0 =>
            obtain ⟨p0, ts, z2, _⟩ := hv
            rw [z2] at ev
            cases ev
        subst eo
        have e0 : step g (.fewest r x y) = (g, [-7]) := by
          show (g, if isEdge g x y r = false then _ else match Wm02.fewest g r x y with | none => _ | some c => _) = _
          rw [if_neg z1, hsp]
        exact ⟨one_le, fun p1 n1 => q.at e0 (G.same (sA.trans (same_upd n1))) (Fr.of_same (sA.trans (same_upd n1))) (sA.free n1) upd_same⟩
      · have ev : ¬ v = .non := fun z => b (decide_eq_true z)
        cases o with
        | none => exact absurd hv ev
        | some F0 =>
          obtain ⟨p0, ts, rfl, hp0, hts⟩ := hv
          have e0 : step g (.fewest r x y) = (g, Wm02.edgesTold F0) := by
            show (g, if isEdge g x y r = false then _ else match Wm02.fewest g r x y with | none => _ | some c => _) = _
            rw [if_neg z1, hsp]
          obtain ⟨t1, t2⟩ := tups_rows hts
          have hl3 := fewest_len hsp
          refine ⟨_, rfl, p0, ts, F0.map edN, rfl, SqL.of hp0, t1, t2, by rw [edN_flat]; omega, fun H3 p1 s3 n1 hp1 => ?_⟩
          refine q.at e0 (G.same (sA.trans s3)) (Fr.of_same (sA.trans s3)) (sA.free n1) ?_
          rw [edgesTold_nv]
          rw [List.length_map] at hp1
          exact hp1
end
end Tg

set_option Elab.async false
set_option linter.all false
set_option maxRecDepth 100000
set_option maxHeartbeats 1000000
namespace Tg
open PySem PySem.Spec PyProof.Rows L2
open Wm02 (Edge Graph isThere isSubject edge add full flag isEdge rises mayTake mayGive step)
section
variable {P : Program} {w : World} {K : PySem.W.Frag} {mg : Str → Option Value} {base : Heap} {C : Addr}
/-! ### who -/
theorem scWho : FnScope ["graph", "r", "y", "subjects", "found", "x"] ["graph", "r", "y"] (defScope sWho) := ⟨rfl, rfl, rfl, by decide +kernel, rfl, by decide +kernel, by decide +kernel⟩
def spWho (K : PySem.W.Frag) (C : Addr) : Sp := fun vs H Q _ => ∃ (a kl el : Addr) (g : Graph) (r y : Nat), vs = [.ref a, iv r, iv y] ∧ GA K C H a kl el g ∧ Wf g ∧ PostL K C H Q a kl el g (.who r y)
def whoL (g : Graph) (r y : Nat) (l : List Nat) : List Nat := l.filter fun x => x != y && Wm02.can g r x y
theorem ok_who {f fT fB fS fO : Addr} {fd fdT fdB fdS fdO : FuncData} (F : Fun K "who" "who" sWho f fd) (T : Txt K mg C) (c : Cst mg) (mT : Meth K C "is_there" fT) (bT : Binds K fdT ["self", "x"] []) (GT : FnOk P w K mg base CX0 1 fT fdT ["self", "x"] (spThere K C))
    (FB : Fun K "can_be" "can_be" sCanBe fB fdB) (bB : Binds K fdB ["r", "x", "y", "subjects", "edges"] []) (gB : mg "can_be" = some (.ref fB)) (GB : FnOk P w K mg base CX0 4 fB fdB ["r", "x", "y", "subjects", "edges"] (spCanBe K))
    (mS : Meth K C "subjects" fS) (bS : Binds K fdS ["self"] []) (GS : FnOk P w K mg base CX0 1 fS fdS ["self"] (spSubs K C))
    (mO : Meth K C "ones" fO) (bO : Binds K fdO ["self"] []) (GO : FnOk P w K mg base CX0 1 fO fdO ["self"] (spOnes K C)) :
    FnOk P w K mg base CX0 5 f fd ["graph", "r", "y"] (spWho K C) := by
  refine F.ok scWho (fun vs H Q E h => ?_) (fun cdv A outer s H vs Q E hr h => ?_)
  · obtain ⟨a, kl, el, g, r, y, rfl, _⟩ := h
    rfl
  · obtain ⟨a, kl, el, g, r, y, rfl, G, W, q⟩ := h
    obtain ⟨dx, ho⟩ := G.obj
    have hr1 : Room 1 _ := hr.mono (by decide)
    refine ⟨_, pss_cons (ps_if (PW.pt (pw_or (pt_not (pt_val (pe_meth (pv 0) T.cl mT GT hr1 bT .nil pass0 (pa_cons (pv 2) pa_nil)))) (pw_or1 (pt_cmpR op_gt (pv 1) (pe_ci c.high) (nomark _))))) (pss_one (ps_ret (pe_lst (pa_cons (pe_ci c.notFit) pa_nil)))) pss_nil)
      (pss_cons (ps_set (i := 3) scWho.nd rfl (Or.inr rfl) (pe_meth0 (pv 0) T.cl mS GS hr1 bS .nil pass0))
      (pss_cons (ps_setLc (i := 4) (own := [("x", 5)]) (g := gName 5) (tt := tAnd (tTest (tOp rNe (tVar 5) (tVar 2))) (tB (tCall (spCanBe K) [] E0 (tCons (tVar 1) (tCons (tVar 5) (tCons (tVar 2) (tCons (tVar 3) (tCons (tFld K (tVar 0) "edges") tNil)))))))) (te := tVar 5) (by rfl) scWho.nd rfl rfl (sw_true rfl rfl rfl (by decide +kernel)) (pi_list (pe_meth0 (pv 0) T.cl mO GO hr1 bO .nil pass0))
          (blkOk_by (own := [("x", 5)]) (N := ["graph", "r", "y", "subjects", "found", "x"]) (sc := defScope sWho) (by decide +kernel))
          (fun _ _ _ _ _ => pg_name (i := 5) scWho.nd rfl (Or.inl rfl))
          (fun _ _ _ _ _ => pts_one (PW.pt (pw_and (pt_cmpR op_ne (pv 5) (pv 2) (nomark _)) (pw_and1 (pt_val (pe_call GB hr (by rfl) gB FB.kp bB .nil pass0 (pa_cons (pv 1) (pa_cons (pv 5) (pa_cons (pv 2) (pa_cons (pv 3) (pa_cons (pe_fld (pv 0) rfl) pa_nil)))))))))))
          (fun _ _ _ _ _ => pv 5))
      (pss_one (ps_ret (pe_op op_cat (pe_lst (pa_cons (pe_callB call_len_seq (by rfl) c.len PySem.boot_len (pa_cons (pv 4) pa_nil)) pa_nil)) (pv 4)))))), ?_⟩
    have bad : (isThere g y = false ∨ 3 < r) → step g (.who r y) = (g, [-1]) := fun z => by
      show (g, if isThere g y = false ∨ 3 < r then _ else _) = _
      rw [if_pos z]
    refine ⟨_, rfl, a, dx, _, rfl, ho, gF_no (by decide +kernel) (by decide +kernel) kl el, _, rfl, a, kl, el, g, y, rfl, G, _, rfl, ite2 (fun z => ?_) (fun z => ?_)⟩
    · have z1 : isThere g y = false := by simpa using z
      refine iteT ⟨one_le, fun p np => q.at (bad (.inl z1)) (G.same (same_upd np)) (Fr.of_same (same_upd np)) np upd_same⟩
    · have z1 : ¬ isThere g y = false := by simpa using z
      refine ⟨_, rfl, _, _, rfl, rfl, _, rfl, ite2 (fun z => ?_) (fun z => ?_)⟩
      · have z2 : 3 < r := by
          have z := of_decide_eq_true z
          omega
        exact ⟨one_le, fun p np => q.at (bad (.inr z2)) (G.same (same_upd np)) (Fr.of_same (same_upd np)) np upd_same⟩
      · have z2 : ¬ 3 < r := fun w => z (decide_eq_true (by omega))
        have e0 : step g (.who r y) = (g, Wm02.told (whoL g r y (Wm02.all g))) := by
          show (g, if isThere g y = false ∨ 3 < r then _ else _) = _
          rw [if_neg (fun w => w.elim z1 z2)]
          rfl
        have hfew := W.few
        have hal := all_len g
        refine ⟨_, rfl, a, dx, _, rfl, ho, gF_no (by decide +kernel) (by decide +kernel) kl el, a, kl, el, g, rfl, G, by omega, fun H1 p s1 np hp => ?_⟩
        have G1 := G.same s1
        obtain ⟨dx1, ho1⟩ := G1.obj
        refine ⟨_, rfl, a, dx1, _, rfl, ho1, gF_no (by decide +kernel) (by decide +kernel) kl el, a, kl, el, g, rfl, G1, by omega, fun H2 o s2 no hoo => ?_⟩
        refine ⟨o, rfl, ⟨_, SqL.of hoo⟩, fun D nD => ?_⟩
        refine lc_list (K := K) (a := o) (xs := nv (Wm02.all g)) (fun i H' => Same H2 H' ∧ H' D = some (.lst (nv (whoL g r y ((Wm02.all g).take i))))) ⟨same_upd nD, upd_same⟩ (fun i H' _ z => SqL.of (z.1 _ _ hoo)) ?_ ?_
        · rintro i v H3 hv ⟨s3, hD⟩
          obtain ⟨n, hn, rfl⟩ := nv_get hv
          have hlen : (nv (whoL g r y ((Wm02.all g).take i))).length < sizeLine := by
            rw [nv_len]
            have h1 : (whoL g r y ((Wm02.all g).take i)).length ≤ ((Wm02.all g).take i).length := List.length_filter_le _ _
            rw [List.length_take] at h1
            exact lt_line (by omega)
          have hmore : whoL g r y ((Wm02.all g).take (i + 1)) = whoL g r y ((Wm02.all g).take i) ++ if (n != y && Wm02.can g r n y) = true then [n] else [] := filt_more (f := fun x => x != y && Wm02.can g r x y) hn
          refine ⟨rfl, ?_⟩
          refine ⟨_, rfl, _, rfl, rfl, _, rfl, ite2 (fun b => ?_) (fun b => ?_)⟩
          · have b1 : (n != y) = true := by
              rw [← ivne]
              exact b
            have G3 := (G1.same s2).same s3
            obtain ⟨dx3, ho3⟩ := G3.obj
            refine ⟨_, rfl, _, rfl, _, rfl, _, rfl, _, rfl, a, C, dx3, _, _, rfl, ho3, T.cl, T.nE, gF_edges kl el, r, n, y, p, el, subs g, g.edges, rfl, SqL.of (s3 _ _ (s2 _ _ hp)), G3.edsL, by have := W.lS; omega, by have := W.edgesFew; omega, fun H4 s4 => ?_⟩
            have ec : pB (Cb g.edges (subs g) r n y) = Wm02.can g r n y := pB_of (can_iff W.wd)
            rw [ec]
            refine ⟨_, rfl, ite2 (fun b2 => ?_) (fun b2 => ?_)⟩
            · refine ⟨_, rfl, _, s4 _ _ hD, hlen, fun b' u e => ?_, ?_⟩
              · rw [upd_ne (ne_of_none e nD)]
                exact s4 _ _ (s3 _ _ e)
              · rw [upd_same, hmore, b1, b2, nv_app]
                rfl
            · refine ⟨s3.trans s4, ?_⟩
              rw [hmore, Bool.eq_false_iff.mpr b2, Bool.and_false, if_neg Bool.false_ne_true, List.append_nil]
              exact s4 _ _ hD
          · have b1 : (n != y) = false := by
              rw [← ivne]
              exact Bool.eq_false_iff.mpr b
            refine iteF ⟨s3, ?_⟩
            rw [hmore, b1, Bool.false_and, if_neg Bool.false_ne_true, List.append_nil]
            exact hD
        · rintro H3 ⟨s3, hD⟩
          rw [nv_len, List.take_length] at hD
          have hlW : (whoL g r y (Wm02.all g)).length ≤ (Wm02.all g).length := List.length_filter_le _ _
          refine ⟨_, rfl, D, _, rfl, .inl (SqL.of hD), one_le, fun p1 n1 => ?_⟩
          have s4 : Same H3 (upd H3 p1 (.lst [.int ((nv (whoL g r y (Wm02.all g))).length : Int)])) := same_upd n1
          refine ⟨_, rfl, p1, D, _, _, rfl, rfl, upd_same, s4 _ _ hD, ?_, fun p2 n2 => ?_⟩
          · rw [nv_len]
            show 1 + _ ≤ sizeLine
            exact Nat.le_of_lt (lt_line (by omega))
          · have sA : Same H3 (upd (upd H3 p1 (.lst [.int ((nv (whoL g r y (Wm02.all g))).length : Int)])) p2 (.lst ([.int ((nv (whoL g r y (Wm02.all g))).length : Int)] ++ nv (whoL g r y (Wm02.all g))))) := s4.trans (same_upd n2)
            have sB := s1.trans (s2.trans (s3.trans sA))
            refine q.at e0 (G.same sB) (Fr.of_same sB) ((s1.trans (s2.trans (s3.trans s4))).free n2) ?_
            rw [upd_same, told_nv, nv_len]
            rfl
/-! ### what -/
theorem scWhat : FnScope ["graph", "x", "subjects", "found", "y", "r"] ["graph", "x"] (defScope sWhat) := ⟨rfl, rfl, rfl, by decide +kernel, rfl, by decide +kernel, by decide +kernel⟩
def spWhat (K : PySem.W.Frag) (C : Addr) : Sp := fun vs H Q _ => ∃ (a kl el : Addr) (g : Graph) (x : Nat), vs = [.ref a, iv x] ∧ GA K C H a kl el g ∧ Wf g ∧ PostL K C H Q a kl el g (.what x)
/-- what x can come to have to y, of the rights below k -/
def whatR (g : Graph) (x y k : Nat) : List Pl := if y = x then [] else ((List.range k).filter fun r => Wm02.can g r x y).map fun r => (y, r)
def whatL (g : Graph) (x : Nat) (l : List Nat) : List Pl := l.flatMap fun y => whatR g x y 4
theorem whatR_more (g : Graph) (x y k : Nat) : whatR g x y (k + 1) = whatR g x y k ++ if (y != x && Wm02.can g k x y) = true then [(y, k)] else [] := by
  unfold whatR
  by_cases h : y = x
  · rw [if_pos h, if_pos h]
    simp [h]
  · rw [if_neg h, if_neg h, List.range_succ, List.filter_append, List.map_append]
    congr 1
    have hb : (y != x) = true := by simpa using h
    rw [hb, Bool.true_and, List.filter_cons, List.filter_nil]
    by_cases c : Wm02.can g k x y = true
    · rw [if_pos c, if_pos c]
      rfl
    · rw [if_neg c, if_neg c]
      rfl
theorem whatR_len (g : Graph) (x y k : Nat) : (whatR g x y k).length ≤ k := by
  unfold whatR
  split
  · exact Nat.zero_le _
  · rw [List.length_map]
    have := List.length_filter_le (fun r => Wm02.can g r x y) (List.range k)
    rw [List.length_range] at this
    exact this
theorem whatL_len (g : Graph) (x : Nat) (l : List Nat) : (whatL g x l).length ≤ 4 * l.length := flatMap_len (fun y => whatR_len g x y 4) l
theorem whatL_more {g : Graph} {x : Nat} {l : List Nat} {i n : Nat} (h : l[i]? = some n) : whatL g x (l.take (i + 1)) = whatL g x (l.take i) ++ whatR g x n 4 := by
  unfold whatL
  rw [take_more h, List.flatMap_append, List.flatMap_cons, List.flatMap_nil, List.append_nil]
def plN (p : Pl) : List Nat := [p.1, p.2]
theorem plN_flat : ∀ l : List Pl, (l.map plN).flatten.length = 2 * l.length
  | [] => rfl
  | e :: l => by
    rw [List.map_cons, List.flatten_cons, List.length_append, plN_flat l, List.length_cons]
    show 2 + _ = _
    omega
theorem ok_what {f fT fB fS fO fD : Addr} {fd fdT fdB fdS fdO fdD : FuncData} (F : Fun K "what" "what" sWhat f fd) (T : Txt K mg C) (c : Cst mg) (cq : CstQ mg) (mT : Meth K C "is_there" fT) (bT : Binds K fdT ["self", "x"] []) (GT : FnOk P w K mg base CX0 1 fT fdT ["self", "x"] (spThere K C))
    (FB : Fun K "can_be" "can_be" sCanBe fB fdB) (bB : Binds K fdB ["r", "x", "y", "subjects", "edges"] []) (gB : mg "can_be" = some (.ref fB)) (GB : FnOk P w K mg base CX0 4 fB fdB ["r", "x", "y", "subjects", "edges"] (spCanBe K))
    (mS : Meth K C "subjects" fS) (bS : Binds K fdS ["self"] []) (GS : FnOk P w K mg base CX0 1 fS fdS ["self"] (spSubs K C))
    (mO : Meth K C "ones" fO) (bO : Binds K fdO ["self"] []) (GO : FnOk P w K mg base CX0 1 fO fdO ["self"] (spOnes K C))
    (FD : Fun K "counted" "counted" sCounted fD fdD) (bD : Binds K fdD ["rows"] []) (gD : mg "counted" = some (.ref fD)) :
    FnOk P w K mg base CX0 5 f fd ["graph", "x"] (spWhat K C) := by
  have GD : FnOk P w K mg base CX0 1 fD fdD ["rows"] (spCounted K) := ok_counted FD c.len
  refine F.ok scWhat (fun vs H Q E h => ?_) (fun cdv A outer s H vs Q E hr h => ?_)
  · obtain ⟨a, kl, el, g, x, rfl, _⟩ := h
    rfl
  · obtain ⟨a, kl, el, g, x, rfl, G, W, q⟩ := h
    obtain ⟨dx, ho⟩ := G.obj
    have hr1 : Room 1 _ := hr.mono (by decide)
    refine ⟨_, pss_cons (ps_if (pt_not (pt_val (pe_meth (pv 0) T.cl mT GT hr1 bT .nil pass0 (pa_cons (pv 1) pa_nil)))) (pss_one (ps_ret (pe_lst (pa_cons (pe_ci c.notFit) pa_nil)))) pss_nil)
      (pss_cons (ps_set (i := 2) scWhat.nd rfl (Or.inl rfl) (pe_meth0 (pv 0) T.cl mS GS hr1 bS .nil pass0))
      (pss_cons (ps_set (i := 3) scWhat.nd rfl (Or.inl rfl) (pe_lst pa_nil))
      (pss_cons (ps_for PassesOwn.never rfl (pi_list (pe_meth0 (pv 0) T.cl mO GO hr1 bO .nil pass0)) (pg_name (i := 4) scWhat.nd rfl (Or.inl rfl))
        (pss_one (ps_for PassesOwn.never rfl (pi_range1 (by rfl) cq.range (pa_cons (pe_op op_add (pe_ci c.high) pe_int) pa_nil)) (pg_name (i := 5) scWhat.nd rfl (Or.inl rfl))
          (pss_one (ps_if (PW.pt (pw_and (pt_cmpR op_ne (pv 4) (pv 1) (nomark _)) (pw_and1 (pt_val (pe_call GB hr (by rfl) gB FB.kp bB .nil pass0 (pa_cons (pv 5) (pa_cons (pv 1) (pa_cons (pv 4) (pa_cons (pv 2) (pa_cons (pe_fld (pv 0) rfl) pa_nil))))))))))
            (pss_one (ps_expr (pe_bm PySem.F.plainAttrs_list PySem.F.slot_list_append PySem.F.type_list_append mt_append (pv 3) (pa_cons (pe_tup (pa_cons (pv 4) (pa_cons (pv 5) pa_nil))) pa_nil)))) pss_nil)))))
      (pss_one (ps_ret (pe_call GD hr1 (by rfl) gD FD.kp bD .nil pass0 (pa_cons (pv 3) pa_nil))))))), ?_⟩
    refine ⟨_, rfl, a, dx, _, rfl, ho, gF_no (by decide +kernel) (by decide +kernel) kl el, _, rfl, a, kl, el, g, x, rfl, G, _, rfl, ite2 (fun z => ?_) (fun z => ?_)⟩
    · have z1 : isThere g x = false := by simpa using z
      have e0 : step g (.what x) = (g, [-1]) := by
        show (g, if isThere g x = false then _ else _) = _
        rw [if_pos z1]
      exact ⟨one_le, fun p np => q.at e0 (G.same (same_upd np)) (Fr.of_same (same_upd np)) np upd_same⟩
    · have z1 : ¬ isThere g x = false := by simpa using z
      have e0 : step g (.what x) = (g, ((whatL g x (Wm02.all g)).length : Int) :: Wm02.ints ((whatL g x (Wm02.all g)).flatMap fun y => [y.1, y.2])) := by
        show (g, if isThere g x = false then _ else _) = _
        rw [if_neg z1]
        rfl
      have hfew := W.few
      have hal := all_len g
      refine ⟨_, rfl, a, dx, _, rfl, ho, gF_no (by decide +kernel) (by decide +kernel) kl el, a, kl, el, g, rfl, G, by omega, fun H1 p s1 np hp => ?_⟩
      refine ⟨Nat.zero_le _, fun fo nfo => ?_⟩
      have s2 : Same H1 (upd H1 fo (.lst [])) := same_upd nfo
      have G2 := G.same (s1.trans s2)
      obtain ⟨dx2, ho2⟩ := G2.obj
      refine ⟨_, rfl, a, dx2, _, rfl, ho2, gF_no (by decide +kernel) (by decide +kernel) kl el, a, kl, el, g, rfl, G2, by omega, fun H3 o s3 no hoo => ?_⟩
      -- baseline: all but found
      have nfoo : fo ≠ o := (ne_of_none (upd_same (H := H1) (a := fo) (o := .lst [])) no)
      have hB : ∀ {b : Addr} {u : HO}, b ≠ fo → (H1 b = some u ∨ (upd H1 fo (.lst [])) b = some u) → H3 b = some u := fun {b u} n z => by
        rcases z with z | z
        · exact s3 _ _ (s2 _ _ z)
        · exact s3 _ _ z
      refine ⟨o, rfl, ⟨_, SqL.of hoo⟩, for_list (K := K) (a := o) (xs := nv (Wm02.all g))
        (fun i σ H' => ∃ (y4 y5 : Option V) (vs : List V), σ = [some (.ref a), some (iv x), some (.ref p), some (.ref fo), y4, y5] ∧ Same (upd H1 o (.lst (nv (Wm02.all g)))) H' ∧ H' fo = some (.lst vs) ∧ PlL H' vs (whatL g x ((Wm02.all g).take i)))
        ⟨none, none, [], rfl, same_base (s2.trans s3) hoo, s3 _ _ upd_same, ⟨rfl, fun i v hv => by simp at hv⟩⟩ (fun i σ H' _ ⟨_, _, _, _, s6, _⟩ => SqL.of (s6 _ _ upd_same)) ?_ ?_⟩
      · rintro i v σ H4 hv ⟨y4, y5, vs, rfl, s4, hfo, hpl⟩
        obtain ⟨n, hn, rfl⟩ := nv_get hv
        have hil : i < (Wm02.all g).length := (List.getElem?_eq_some_iff.mp hn).1
        have no1 : H1 o = none := s2.free no
        have nfb : (upd H1 o (.lst (nv (Wm02.all g)))) fo = none := by
          rw [upd_ne nfoo]
          exact nfo
        refine ⟨_, _, rfl, rfl, 4, rfl, by decide, by decide, for_range (n := 4)
          (fun k σ H' => ∃ (y5 : Option V) (vs : List V), σ = [some (.ref a), some (iv x), some (.ref p), some (.ref fo), some (iv n), y5] ∧ Same (upd H1 o (.lst (nv (Wm02.all g)))) H' ∧ H' fo = some (.lst vs) ∧ PlL H' vs (whatL g x ((Wm02.all g).take i) ++ whatR g x n k))
          ⟨y5, vs, rfl, s4, hfo, by
            have e : whatR g x n 0 = [] := List.length_eq_zero_iff.mp (Nat.le_zero.mp (whatR_len g x n 0))
            rw [e, List.append_nil]
            exact hpl⟩ ?_ ?_⟩
        · rintro k σ H5 hk ⟨y5, vs5, rfl, s5, hfo5, hpl5⟩
          have ei : V.int (0 + (k : Int)) = iv k := by
            unfold iv
            congr 1
            omega
          rw [ei]
          have hmore := whatR_more g x n k
          refine ⟨_, rfl, _, rfl, rfl, _, rfl, ite2 (fun b => ?_) (fun b => ?_)⟩
          · have b1 : (n != x) = true := by
              rw [← ivne]
              exact b
            have sH1 : Same H1 H5 := (same_upd no1).trans s5
            have G5 := (G.same s1).same sH1
            obtain ⟨dx5, ho5⟩ := G5.obj
            refine ⟨_, rfl, _, rfl, _, rfl, _, rfl, _, rfl, a, C, dx5, _, _, rfl, ho5, T.cl, T.nE, gF_edges kl el, k, x, n, p, el, subs g, g.edges, rfl, SqL.of (sH1 _ _ hp), G5.edsL, by have := W.lS; omega, by have := W.edgesFew; omega, fun H6 s6 => ?_⟩
            have ec : pB (Cb g.edges (subs g) k x n) = Wm02.can g k x n := pB_of (can_iff W.wd)
            rw [ec]
            refine ⟨_, rfl, ite2 (fun b2 => ?_) (fun b2 => ?_)⟩
            · have hfo6 := s6 _ _ hfo5
              refine ⟨_, rfl, .inl ⟨rfl, _, SqL.of hfo6⟩, _, rfl, _, rfl, two_le, fun t nt => ?_⟩
              have s7 : Same H6 (upd H6 t (.tup (plV (n, k)))) := same_upd nt
              have hfo7 := s7 _ _ hfo6
              refine ⟨fo, _, _, rfl, rfl, hfo7, ?_, ?_⟩
              · rw [hpl5.1, List.length_append]
                have h1 := whatL_len g x ((Wm02.all g).take i)
                have h2 := whatR_len g x n k
                rw [List.length_take] at h1
                exact lt_line (by omega)
              · have kt : KeepT H5 (upd (upd H6 t (.tup (plV (n, k)))) fo (.lst (vs5 ++ [.ref t]))) := (KeepT.of_same (s6.trans s7)).trans (keepT_upd fun ys z => by rw [hfo7] at z; cases z)
                refine ⟨_, vs5 ++ [.ref t], rfl, fun b' u e => ?_, upd_same, ?_⟩
                · rw [upd_ne (ne_of_none e nfb)]
                  exact s7 _ _ (s6 _ _ (s5 _ _ e))
                · rw [hmore, b1, b2, ← List.append_assoc]
                  refine (kt.plL hpl5).snoc ?_
                  have htf : t ≠ fo := (ne_of_none hfo6 nt).symm
                  rw [upd_ne htf, upd_same]
            · refine ⟨_, vs5, rfl, s5.trans s6, s6 _ _ hfo5, ?_⟩
              rw [hmore, Bool.eq_false_iff.mpr b2, Bool.and_false, if_neg Bool.false_ne_true, List.append_nil]
              exact (KeepT.of_same s6).plL hpl5
          · have b1 : (n != x) = false := by
              rw [← ivne]
              exact Bool.eq_false_iff.mpr b
            refine iteF ⟨_, vs5, rfl, s5, hfo5, ?_⟩
            rw [hmore, b1, Bool.false_and, if_neg Bool.false_ne_true, List.append_nil]
            exact hpl5
        · rintro σ H5 ⟨y5, vs5, rfl, s5, hfo5, hpl5⟩
          refine ⟨_, _, vs5, rfl, s5, hfo5, ?_⟩
          rw [whatL_more hn]
          exact hpl5
      · rintro σ H4 ⟨y4, y5, vs, rfl, s4, hfo, hpl⟩
        rw [nv_len, List.take_length] at hpl
        have no1 : H1 o = none := s2.free no
        have sH1 : Same H1 H4 := (same_upd no1).trans s4
        have hlW := whatL_len g x (Wm02.all g)
        refine ⟨_, rfl, fo, vs, (whatL g x (Wm02.all g)).map plN, rfl, SqL.of hfo, by rw [List.length_map]; exact hpl.1, fun i v hv => ?_, by rw [plN_flat]; omega, fun H5 p1 s5 n1 hp1 => ?_⟩
        · obtain ⟨pp, t, h1, h2, h3⟩ := hpl.2 i v hv
          exact ⟨t, plN pp, by rw [List.getElem?_map, h1]; rfl, h2, SqT.of h3⟩
        · have sB := s1.trans (sH1.trans s5)
          refine q.at e0 (G.same sB) (Fr.of_same sB) ((s1.trans sH1).free n1) ?_
          rw [List.length_map] at hp1
          rw [hp1]
          unfold Wm02.ints nv
          rw [List.map_cons, List.map_cons, List.map_map, ← List.flatMap_def]
          rfl
end
end Tg

set_option Elab.async false
set_option linter.all false
set_option maxRecDepth 100000
set_option maxHeartbeats 1000000
namespace Tg
open Wm02 (Graph)
/-! ### a list of calls, call by call -/
inductive Chunk : List Nat → Wm02.Call → Prop
  | newC (s : Nat) : Chunk [0, s] (.new s)
  | putC (x y r : Nat) : Chunk [1, x, y, r] (.put x y r)
  | cutC (x y r : Nat) : Chunk [2, x, y, r] (.cut x y r)
  | takeC (x y z r : Nat) : Chunk [3, x, y, z, r] (.take x y z r)
  | giveC (x y z r : Nat) : Chunk [4, x, y, z, r] (.give x y z r)
  | canC (r x y : Nat) : Chunk [6, r, x, y] (.can r x y)
  | stealC (r x y : Nat) : Chunk [7, r, x, y] (.steal r x y)
  | whoC (r y : Nat) : Chunk [8, r, y] (.who r y)
  | whatC (x : Nat) : Chunk [9, x] (.what x)
  | nearC (x : Nat) : Chunk [10, x] (.near x)
  | fewestC (r x y : Nat) : Chunk [11, r, x, y] (.fewest r x y)
  | edgesC : Chunk [12] .edges
  | makeC (x s : Nat) (rs : List Nat) : Chunk (5 :: x :: s :: rs.length :: rs) (.make x s rs)
def cs (l : List Nat) : List Int := l.map fun (n : Nat) => (n : Int)
theorem cs_app (l m : List Nat) : cs (l ++ m) = cs l ++ cs m := List.map_append
theorem nat_of {x : Int} (h : Wm02Neutral.nat x = true) : ((x.toNat : Nat) : Int) = x := by
  unfold Wm02Neutral.nat at h
  rw [Bool.and_eq_true, decide_eq_true_iff, decide_eq_true_iff] at h
  omega
theorem cs_toNat : ∀ {l : List Int}, l.all Wm02Neutral.nat = true → cs (l.map Int.toNat) = l
  | [], _ => rfl
  | x :: l, h => by
    have h : (Wm02Neutral.nat x && l.all Wm02Neutral.nat) = true := h
    rw [Bool.and_eq_true] at h
    show ((x.toNat : Nat) : Int) :: cs (l.map Int.toNat) = x :: l
    rw [nat_of h.1, cs_toNat h.2]
theorem all_of {l : List Int} {f : Option Wm02.Call} (h : (if l.all Wm02Neutral.nat = false then none else f).isSome = true) : l.all Wm02Neutral.nat = true := by
  by_cases c : l.all Wm02Neutral.nat = false
  · rw [if_pos c] at h
    cases h
  · simpa using c
/-- what a call's numbers mean -/
def meant (c : List (List Int)) : Option Wm02.Call := Wm02Neutral.callOf ((PyWm02.whole c).headD [])
def Takes1 (p : Int) (r : List Int) (c : List (List Int)) (t : List Int) : Prop := ∃ ch X, Chunk ch X ∧ p :: r = cs ch ++ t ∧ meant c = some X
theorem take_new {r t : List Int} {c : List (List Int)} (h : PyFlat.call PyWm02.shape (0 :: r) = some (c, t)) (hs : (meant c).isSome = true) : Takes1 0 r c t := by
  cases r with
  | nil => cases h
  | cons a0 r =>
    have h : some ([[0, a0]], r) = some (c, t) := by
      rw [← h]
      rfl
    cases h
    have ha := all_of (l := [0, a0]) hs
    have e : meant [[0, a0]] = some (.new a0.toNat) := by
      show (if ([0, a0] : List Int).all Wm02Neutral.nat = false then none else _) = _
      rw [if_neg (by rw [ha]; decide)]
      rfl
    refine ⟨_, _, Chunk.newC a0.toNat, ?_, e⟩
    have e2 := cs_toNat ha
    show ([0, a0] : List Int) ++ t = cs ([0, a0.toNat] : List Nat) ++ t
    exact congrArg (fun z => z ++ t) e2.symm
theorem take_put {r t : List Int} {c : List (List Int)} (h : PyFlat.call PyWm02.shape (1 :: r) = some (c, t)) (hs : (meant c).isSome = true) : Takes1 1 r c t := by
  cases r with
  | nil => cases h
  | cons a0 r =>
    cases r with
    | nil => cases h
    | cons a1 r =>
      cases r with
      | nil => cases h
      | cons a2 r =>
        have h : some ([[1, a0, a1, a2]], r) = some (c, t) := by
          rw [← h]
          rfl
        cases h
        have ha := all_of (l := [1, a0, a1, a2]) hs
        have e : meant [[1, a0, a1, a2]] = some (.put a0.toNat a1.toNat a2.toNat) := by
          show (if ([1, a0, a1, a2] : List Int).all Wm02Neutral.nat = false then none else _) = _
          rw [if_neg (by rw [ha]; decide)]
          rfl
        refine ⟨_, _, Chunk.putC a0.toNat a1.toNat a2.toNat, ?_, e⟩
        have e2 := cs_toNat ha
        show ([1, a0, a1, a2] : List Int) ++ t = cs ([1, a0.toNat, a1.toNat, a2.toNat] : List Nat) ++ t
        exact congrArg (fun z => z ++ t) e2.symm
theorem take_cut {r t : List Int} {c : List (List Int)} (h : PyFlat.call PyWm02.shape (2 :: r) = some (c, t)) (hs : (meant c).isSome = true) : Takes1 2 r c t := by
  cases r with
  | nil => cases h
  | cons a0 r =>
    cases r with
    | nil => cases h
    | cons a1 r =>
      cases r with
      | nil => cases h
      | cons a2 r =>
        have h : some ([[2, a0, a1, a2]], r) = some (c, t) := by
          rw [← h]
          rfl
        cases h
        have ha := all_of (l := [2, a0, a1, a2]) hs
        have e : meant [[2, a0, a1, a2]] = some (.cut a0.toNat a1.toNat a2.toNat) := by
          show (if ([2, a0, a1, a2] : List Int).all Wm02Neutral.nat = false then none else _) = _
          rw [if_neg (by rw [ha]; decide)]
          rfl
        refine ⟨_, _, Chunk.cutC a0.toNat a1.toNat a2.toNat, ?_, e⟩
        have e2 := cs_toNat ha
        show ([2, a0, a1, a2] : List Int) ++ t = cs ([2, a0.toNat, a1.toNat, a2.toNat] : List Nat) ++ t
        exact congrArg (fun z => z ++ t) e2.symm
theorem take_take {r t : List Int} {c : List (List Int)} (h : PyFlat.call PyWm02.shape (3 :: r) = some (c, t)) (hs : (meant c).isSome = true) : Takes1 3 r c t := by
  cases r with
  | nil => cases h
  | cons a0 r =>
    cases r with
    | nil => cases h
    | cons a1 r =>
      cases r with
      | nil => cases h
      | cons a2 r =>
        cases r with
        | nil => cases h
        | cons a3 r =>
          have h : some ([[3, a0, a1, a2, a3]], r) = some (c, t) := by
            rw [← h]
            rfl
          cases h
          have ha := all_of (l := [3, a0, a1, a2, a3]) hs
          have e : meant [[3, a0, a1, a2, a3]] = some (.take a0.toNat a1.toNat a2.toNat a3.toNat) := by
            show (if ([3, a0, a1, a2, a3] : List Int).all Wm02Neutral.nat = false then none else _) = _
            rw [if_neg (by rw [ha]; decide)]
            rfl
          refine ⟨_, _, Chunk.takeC a0.toNat a1.toNat a2.toNat a3.toNat, ?_, e⟩
          have e2 := cs_toNat ha
          show ([3, a0, a1, a2, a3] : List Int) ++ t = cs ([3, a0.toNat, a1.toNat, a2.toNat, a3.toNat] : List Nat) ++ t
          exact congrArg (fun z => z ++ t) e2.symm
theorem take_give {r t : List Int} {c : List (List Int)} (h : PyFlat.call PyWm02.shape (4 :: r) = some (c, t)) (hs : (meant c).isSome = true) : Takes1 4 r c t := by
  cases r with
  | nil => cases h
  | cons a0 r =>
    cases r with
    | nil => cases h
    | cons a1 r =>
      cases r with
      | nil => cases h
      | cons a2 r =>
        cases r with
        | nil => cases h
        | cons a3 r =>
          have h : some ([[4, a0, a1, a2, a3]], r) = some (c, t) := by
            rw [← h]
            rfl
          cases h
          have ha := all_of (l := [4, a0, a1, a2, a3]) hs
          have e : meant [[4, a0, a1, a2, a3]] = some (.give a0.toNat a1.toNat a2.toNat a3.toNat) := by
            show (if ([4, a0, a1, a2, a3] : List Int).all Wm02Neutral.nat = false then none else _) = _
            rw [if_neg (by rw [ha]; decide)]
            rfl
          refine ⟨_, _, Chunk.giveC a0.toNat a1.toNat a2.toNat a3.toNat, ?_, e⟩
          have e2 := cs_toNat ha
          show ([4, a0, a1, a2, a3] : List Int) ++ t = cs ([4, a0.toNat, a1.toNat, a2.toNat, a3.toNat] : List Nat) ++ t
          exact congrArg (fun z => z ++ t) e2.symm
theorem take_can {r t : List Int} {c : List (List Int)} (h : PyFlat.call PyWm02.shape (6 :: r) = some (c, t)) (hs : (meant c).isSome = true) : Takes1 6 r c t := by
  cases r with
  | nil => cases h
  | cons a0 r =>
    cases r with
    | nil => cases h
    | cons a1 r =>
      cases r with
      | nil => cases h
      | cons a2 r =>
        have h : some ([[6, a0, a1, a2]], r) = some (c, t) := by
          rw [← h]
          rfl
        cases h
        have ha := all_of (l := [6, a0, a1, a2]) hs
        have e : meant [[6, a0, a1, a2]] = some (.can a0.toNat a1.toNat a2.toNat) := by
          show (if ([6, a0, a1, a2] : List Int).all Wm02Neutral.nat = false then none else _) = _
          rw [if_neg (by rw [ha]; decide)]
          rfl
        refine ⟨_, _, Chunk.canC a0.toNat a1.toNat a2.toNat, ?_, e⟩
        have e2 := cs_toNat ha
        show ([6, a0, a1, a2] : List Int) ++ t = cs ([6, a0.toNat, a1.toNat, a2.toNat] : List Nat) ++ t
        exact congrArg (fun z => z ++ t) e2.symm
theorem take_steal {r t : List Int} {c : List (List Int)} (h : PyFlat.call PyWm02.shape (7 :: r) = some (c, t)) (hs : (meant c).isSome = true) : Takes1 7 r c t := by
  cases r with
  | nil => cases h
  | cons a0 r =>
    cases r with
    | nil => cases h
    | cons a1 r =>
      cases r with
      | nil => cases h
      | cons a2 r =>
        have h : some ([[7, a0, a1, a2]], r) = some (c, t) := by
          rw [← h]
          rfl
        cases h
        have ha := all_of (l := [7, a0, a1, a2]) hs
        have e : meant [[7, a0, a1, a2]] = some (.steal a0.toNat a1.toNat a2.toNat) := by
          show (if ([7, a0, a1, a2] : List Int).all Wm02Neutral.nat = false then none else _) = _
          rw [if_neg (by rw [ha]; decide)]
          rfl
        refine ⟨_, _, Chunk.stealC a0.toNat a1.toNat a2.toNat, ?_, e⟩
        have e2 := cs_toNat ha
        show ([7, a0, a1, a2] : List Int) ++ t = cs ([7, a0.toNat, a1.toNat, a2.toNat] : List Nat) ++ t
        exact congrArg (fun z => z ++ t) e2.symm
theorem take_who {r t : List Int} {c : List (List Int)} (h : PyFlat.call PyWm02.shape (8 :: r) = some (c, t)) (hs : (meant c).isSome = true) : Takes1 8 r c t := by
  cases r with
  | nil => cases h
  | cons a0 r =>
    cases r with
    | nil => cases h
    | cons a1 r =>
      have h : some ([[8, a0, a1]], r) = some (c, t) := by
        rw [← h]
        rfl
      cases h
      have ha := all_of (l := [8, a0, a1]) hs
      have e : meant [[8, a0, a1]] = some (.who a0.toNat a1.toNat) := by
        show (if ([8, a0, a1] : List Int).all Wm02Neutral.nat = false then none else _) = _
        rw [if_neg (by rw [ha]; decide)]
        rfl
      refine ⟨_, _, Chunk.whoC a0.toNat a1.toNat, ?_, e⟩
      have e2 := cs_toNat ha
      show ([8, a0, a1] : List Int) ++ t = cs ([8, a0.toNat, a1.toNat] : List Nat) ++ t
      exact congrArg (fun z => z ++ t) e2.symm
theorem take_what {r t : List Int} {c : List (List Int)} (h : PyFlat.call PyWm02.shape (9 :: r) = some (c, t)) (hs : (meant c).isSome = true) : Takes1 9 r c t := by
  cases r with
  | nil => cases h
  | cons a0 r =>
    have h : some ([[9, a0]], r) = some (c, t) := by
      rw [← h]
      rfl
    cases h
    have ha := all_of (l := [9, a0]) hs
    have e : meant [[9, a0]] = some (.what a0.toNat) := by
      show (if ([9, a0] : List Int).all Wm02Neutral.nat = false then none else _) = _
      rw [if_neg (by rw [ha]; decide)]
      rfl
    refine ⟨_, _, Chunk.whatC a0.toNat, ?_, e⟩
    have e2 := cs_toNat ha
    show ([9, a0] : List Int) ++ t = cs ([9, a0.toNat] : List Nat) ++ t
    exact congrArg (fun z => z ++ t) e2.symm
theorem take_near {r t : List Int} {c : List (List Int)} (h : PyFlat.call PyWm02.shape (10 :: r) = some (c, t)) (hs : (meant c).isSome = true) : Takes1 10 r c t := by
  cases r with
  | nil => cases h
  | cons a0 r =>
    have h : some ([[10, a0]], r) = some (c, t) := by
      rw [← h]
      rfl
    cases h
    have ha := all_of (l := [10, a0]) hs
    have e : meant [[10, a0]] = some (.near a0.toNat) := by
      show (if ([10, a0] : List Int).all Wm02Neutral.nat = false then none else _) = _
      rw [if_neg (by rw [ha]; decide)]
      rfl
    refine ⟨_, _, Chunk.nearC a0.toNat, ?_, e⟩
    have e2 := cs_toNat ha
    show ([10, a0] : List Int) ++ t = cs ([10, a0.toNat] : List Nat) ++ t
    exact congrArg (fun z => z ++ t) e2.symm
theorem take_fewest {r t : List Int} {c : List (List Int)} (h : PyFlat.call PyWm02.shape (11 :: r) = some (c, t)) (hs : (meant c).isSome = true) : Takes1 11 r c t := by
  cases r with
  | nil => cases h
  | cons a0 r =>
    cases r with
    | nil => cases h
    | cons a1 r =>
      cases r with
      | nil => cases h
      | cons a2 r =>
        have h : some ([[11, a0, a1, a2]], r) = some (c, t) := by
          rw [← h]
          rfl
        cases h
        have ha := all_of (l := [11, a0, a1, a2]) hs
        have e : meant [[11, a0, a1, a2]] = some (.fewest a0.toNat a1.toNat a2.toNat) := by
          show (if ([11, a0, a1, a2] : List Int).all Wm02Neutral.nat = false then none else _) = _
          rw [if_neg (by rw [ha]; decide)]
          rfl
        refine ⟨_, _, Chunk.fewestC a0.toNat a1.toNat a2.toNat, ?_, e⟩
        have e2 := cs_toNat ha
        show ([11, a0, a1, a2] : List Int) ++ t = cs ([11, a0.toNat, a1.toNat, a2.toNat] : List Nat) ++ t
        exact congrArg (fun z => z ++ t) e2.symm
theorem take_edges {r t : List Int} {c : List (List Int)} (h : PyFlat.call PyWm02.shape (12 :: r) = some (c, t)) (hs : (meant c).isSome = true) : Takes1 12 r c t := by
  have h : some ([[12]], r) = some (c, t) := by
    rw [← h]
    rfl
  cases h
  have ha := all_of (l := [12]) hs
  have e : meant [[12]] = some (.edges) := by
    show (if ([12] : List Int).all Wm02Neutral.nat = false then none else _) = _
    rw [if_neg (by rw [ha]; decide)]
    rfl
  refine ⟨_, _, Chunk.edgesC, ?_, e⟩
  have e2 := cs_toNat ha
  show ([12] : List Int) ++ r = cs ([12] : List Nat) ++ r
  exact congrArg (fun z => z ++ r) e2.symm
theorem take_make {r t : List Int} {c : List (List Int)} (h : PyFlat.call PyWm02.shape (5 :: r) = some (c, t)) (hs : (meant c).isSome = true) : Takes1 5 r c t := by
  cases r with
  | nil => cases h
  | cons a0 r =>
    cases r with
    | nil => cases h
    | cons a1 r =>
      cases r with
      | nil => cases h
      | cons m r =>
        by_cases hm : 0 ≤ m ∧ m.toNat ≤ r.length
        · have e1 : PyFlat.row (m :: r) = some (r.take m.toNat, r.drop m.toNat) := if_pos hm
          have h : some ([[5, a0, a1], r.take m.toNat], r.drop m.toNat) = some (c, t) := by
            rw [← h]
            show _ = (match (match PyFlat.row (m :: r) with | none => none | some (x, s) => match PyFlat.rows 0 s with | none => none | some (xs, t) => some (x :: xs, t)) with | none => none | some (xs, t) => some ((5 :: [a0, a1]) :: xs, t))
            rw [e1]
            rfl
          cases h
          have ha := all_of (l := 5 :: a0 :: a1 :: r.take m.toNat) hs
          have e : meant [[5, a0, a1], r.take m.toNat] = some (.make a0.toNat a1.toNat ((r.take m.toNat).map Int.toNat)) := by
            show (if (5 :: a0 :: a1 :: r.take m.toNat).all Wm02Neutral.nat = false then none else _) = _
            rw [if_neg (by rw [ha]; decide)]
            rfl
          refine ⟨_, _, Chunk.makeC a0.toNat a1.toNat ((r.take m.toNat).map Int.toNat), ?_, e⟩
          have e2 := cs_toNat ha
          have e3 : a0 = ((a0.toNat : Nat) : Int) ∧ a1 = ((a1.toNat : Nat) : Int) ∧ r.take m.toNat = cs ((r.take m.toNat).map Int.toNat) := by
            have e4 : (5 : Int) :: a0 :: a1 :: r.take m.toNat = (5 : Int) :: ((a0.toNat : Nat) : Int) :: ((a1.toNat : Nat) : Int) :: cs ((r.take m.toNat).map Int.toNat) := e2.symm
            have e4 := List.cons.inj e4
            have e5 := List.cons.inj e4.2
            have e6 := List.cons.inj e5.2
            exact ⟨e5.1, e6.1, e6.2⟩
          have em : ((((r.take m.toNat).map Int.toNat).length : Nat) : Int) = m := by
            rw [List.length_map, List.length_take]
            omega
          show (5 : Int) :: a0 :: a1 :: m :: r = (5 : Int) :: ((a0.toNat : Nat) : Int) :: ((a1.toNat : Nat) : Int) :: ((((r.take m.toNat).map Int.toNat).length : Nat) : Int) :: (cs ((r.take m.toNat).map Int.toNat) ++ r.drop m.toNat)
          rw [em, ← e3.1, ← e3.2.1, ← e3.2.2, List.take_append_drop]
        · have e1 : PyFlat.row (m :: r) = none := if_neg hm
          have h : none = some (c, t) := by
            rw [← h]
            show _ = (match (match PyFlat.row (m :: r) with | none => none | some (x, s) => match PyFlat.rows 0 s with | none => none | some (xs, t) => some (x :: xs, t)) with | none => none | some (xs, t) => some ((5 :: [a0, a1]) :: xs, t))
            rw [e1]
          cases h
theorem take_one {p : Int} {r t : List Int} {c : List (List Int)} (h : PyFlat.call PyWm02.shape (p :: r) = some (c, t)) (hs : (meant c).isSome = true) : Takes1 p r c t := by
  by_cases h0 : p = 0
  · subst h0
    exact take_new h hs
  by_cases h1 : p = 1
  · subst h1
    exact take_put h hs
  by_cases h2 : p = 2
  · subst h2
    exact take_cut h hs
  by_cases h3 : p = 3
  · subst h3
    exact take_take h hs
  by_cases h4 : p = 4
  · subst h4
    exact take_give h hs
  by_cases h5 : p = 5
  · subst h5
    exact take_make h hs
  by_cases h6 : p = 6
  · subst h6
    exact take_can h hs
  by_cases h7 : p = 7
  · subst h7
    exact take_steal h hs
  by_cases h8 : p = 8
  · subst h8
    exact take_who h hs
  by_cases h9 : p = 9
  · subst h9
    exact take_what h hs
  by_cases h10 : p = 10
  · subst h10
    exact take_near h hs
  by_cases h11 : p = 11
  · subst h11
    exact take_fewest h hs
  by_cases h12 : p = 12
  · subst h12
    exact take_edges h hs
  have e : PyWm02.shape p = none := by
    unfold PyWm02.shape
    rw [if_neg h0, if_neg h1, if_neg h2, if_neg h3, if_neg h4, if_neg h5, if_neg h6, if_neg h7, if_neg h8, if_neg h9, if_neg h10, if_neg h11, if_neg h12]
  have h : none = some (c, t) := by
    rw [← h]
    show _ = (match PyWm02.shape p with | none => none | some (n, k) => _)
    rw [e]
  cases h
/-- a machine's answers, call by call -/
def playA : Graph → List Wm02.Call → List (List Int)
  | _, [] => []
  | g, c :: r => (Wm02.step g c).2 :: playA (Wm02.step g c).1 r
def stepL (s : Graph) (c : List (List Int)) : Graph × List Int := Wm02Neutral.step s (c.headD [])
theorem stepL_eq {s : Graph} {c : List (List Int)} {X : Wm02.Call} (h : meant c = some X) : stepL s (PyWm02.whole c) = Wm02.step s X := by
  show (match Wm02Neutral.callOf ((PyWm02.whole c).headD []) with | none => (s, []) | some x => Wm02.step s x) = _
  have h : Wm02Neutral.callOf ((PyWm02.whole c).headD []) = some X := h
  rw [h]
theorem parse : ∀ (f : Nat) (l : List Int) (raw : List (List (List Int))), PyFlat.calls PyWm02.shape f l = some raw → (∀ c ∈ raw, (meant c).isSome = true) →
    ∃ ch : List (List Nat × Wm02.Call), l = cs (ch.map (·.1)).flatten ∧ (∀ c ∈ ch, Chunk c.1 c.2) ∧ ch.length = raw.length ∧ ∀ s, PyFlat.played stepL s (raw.map PyWm02.whole) = playA s (ch.map (·.2))
  | _, [], raw, h, _ => by
    have h : some [] = some raw := by
      rw [← h]
      unfold PyFlat.calls
      rfl
    cases h
    exact ⟨[], rfl, (fun c hc => by cases hc), rfl, fun s => rfl⟩
  | 0, _ :: _, raw, h, _ => by
    have h : none = some raw := h
    cases h
  | f + 1, p :: r, raw, h, hs => by
    have h : (match PyFlat.call PyWm02.shape (p :: r) with | none => none | some (c, t) => match PyFlat.calls PyWm02.shape f t with | none => none | some cs => some (c :: cs)) = some raw := h
    cases e1 : PyFlat.call PyWm02.shape (p :: r) with
    | none =>
      rw [e1] at h
      cases h
    | some ct =>
      obtain ⟨c, t⟩ := ct
      rw [e1] at h
      cases e2 : PyFlat.calls PyWm02.shape f t with
      | none =>
        have h : (match PyFlat.calls PyWm02.shape f t with | none => none | some cs => some (c :: cs)) = some raw := h
        rw [e2] at h
        cases h
      | some cs' =>
        have h : (match PyFlat.calls PyWm02.shape f t with | none => none | some cs => some (c :: cs)) = some raw := h
        rw [e2] at h
        cases h
        obtain ⟨ch, X, k1, k2, k3⟩ := take_one e1 (hs c (List.mem_cons_self))
        obtain ⟨chs, g1, g2, g3, g4⟩ := parse f t cs' e2 fun c' hc => hs c' (List.mem_cons_of_mem _ hc)
        refine ⟨(ch, X) :: chs, ?_, fun c' hc => ?_, ?_, fun s => ?_⟩
        · rw [k2, g1]
          show _ = cs (ch ++ (chs.map (·.1)).flatten)
          rw [cs_app]
        · rcases List.mem_cons.mp hc with rfl | hc
          · exact k1
          · exact g2 c' hc
        · show chs.length + 1 = cs'.length + 1
          rw [g3]
        · show (stepL s (PyWm02.whole c)).2 :: PyFlat.played stepL (stepL s (PyWm02.whole c)).1 (cs'.map PyWm02.whole) = (Wm02.step s X).2 :: playA (Wm02.step s X).1 (chs.map (·.2))
          rw [stepL_eq k3, g4]
/-- what is asked of a list, and what is due -/
theorem asked_parse {l : List Int} (h : PyWm02.answers_asked l = true) : ∃ ch : List (List Nat × Wm02.Call), l = cs (ch.map (·.1)).flatten ∧ (∀ c ∈ ch, Chunk c.1 c.2) ∧ 1 ≤ ch.length ∧ ch.length ≤ 40 ∧ PyWm02.answers l = PyFlat.told (playA Wm02.init (ch.map (·.2))) := by
  have h0 : (match PyFlat.calls PyWm02.shape l.length l with | none => false | some raw => !raw.isEmpty && PyFlat.atMost 40 raw && PyInside.calls PyWm02.bound raw && Wm02Neutral.asked ((raw.map PyWm02.whole).map fun c => c.headD []) && PyFlat.short 10000000 (PyWm02.answers l)) = true := h
  cases e : PyFlat.calls PyWm02.shape l.length l with
  | none =>
    rw [e] at h0
    cases h0
  | some raw =>
    rw [e] at h0
    have h0 : (!raw.isEmpty && PyFlat.atMost 40 raw && PyInside.calls PyWm02.bound raw && Wm02Neutral.asked ((raw.map PyWm02.whole).map fun c => c.headD []) && PyFlat.short 10000000 (PyWm02.answers l)) = true := h0
    rw [Bool.and_eq_true, Bool.and_eq_true, Bool.and_eq_true, Bool.and_eq_true] at h0
    obtain ⟨⟨⟨⟨h1, h2⟩, h3⟩, h4⟩, h5⟩ := h0
    unfold Wm02Neutral.asked at h4
    rw [Bool.and_eq_true] at h4
    have hm : ∀ c ∈ raw, (meant c).isSome = true := fun c hc => by
      have := List.all_eq_true.mp h4.1 ((PyWm02.whole c).headD []) (List.mem_map.mpr ⟨PyWm02.whole c, List.mem_map.mpr ⟨c, hc, rfl⟩, rfl⟩)
      exact this
    obtain ⟨ch, g1, g2, g3, g4⟩ := parse l.length l raw e hm
    have h2 : raw.length ≤ 40 := of_decide_eq_true h2
    have h1 : raw ≠ [] := fun z => by
      rw [z] at h1
      cases h1
    have h1 : 0 < raw.length := List.length_pos_iff.mpr h1
    refine ⟨ch, g1, g2, by omega, by omega, ?_⟩
    have ec : PyWm02.calls l = some (raw.map PyWm02.whole) := by
      unfold PyWm02.calls
      rw [e]
    have ea : PyWm02.answers l = PyFlat.told (PyFlat.played stepL Wm02.init (raw.map PyWm02.whole)) := by
      unfold PyWm02.answers
      rw [ec]
      rfl
    rw [ea, g4]
end Tg

set_option Elab.async false
set_option linter.all false
namespace Tg
open Wm02
/-! ### every call keeps a graph in form -/
theorem wf_init : Wf Wm02.init := ⟨Nat.zero_le _, Nat.zero_le _, List.nodup_nil, (fun e h => by cases h), (fun e h => by cases h), (fun e h => by cases h), (fun e h => by cases h)⟩
theorem there_iff {g : Graph} {x : Nat} : isThere g x = true ↔ 1 ≤ x ∧ x ≤ g.subject.length := by
  rw [isThere_iff, mem_all]
theorem isEdge_iff {g : Graph} {x y r : Nat} : isEdge g x y r = true ↔ isThere g x = true ∧ isThere g y = true ∧ x ≠ y ∧ r ≤ 3 := by
  unfold isEdge
  rw [Bool.and_eq_true, Bool.and_eq_true, Bool.and_eq_true, bne_iff_ne, decide_eq_true_iff]
theorem subject_there {g : Graph} {x : Nat} (h : isSubject g x = true) : isThere g x = true := by
  unfold isSubject at h
  rw [Bool.and_eq_true] at h
  exact h.1
theorem wf_add {g : Graph} (w : Wf g) {x y r : Nat} (hx : isThere g x = true) (hy : isThere g y = true) (hn : x ≠ y) (hr : r ≤ 3) (hf : ¬ full (add g x y r) = true) : Wf (add g x y r) := by
  by_cases he : edge g x y r = true
  · have e : add g x y r = g := by
      unfold add
      rw [if_pos he]
    rw [e]
    exact w
  · have e : add g x y r = ⟨g.subject, g.edges ++ [⟨x, y, r⟩]⟩ := by
      unfold add
      rw [if_neg he]
    rw [e] at hf ⊢
    have hnm : (⟨x, y, r⟩ : Edge) ∉ g.edges := fun z => he (edge_iff.mpr z)
    have hl : ¬ 30 < (g.edges ++ [(⟨x, y, r⟩ : Edge)]).length := fun z => hf (decide_eq_true z)
    refine ⟨w.few, by show (g.edges ++ [_]).length ≤ 30; omega, ?_, ?_, ?_, ?_, ?_⟩
    · show (g.edges ++ [_]).Nodup
      rw [List.nodup_append]
      refine ⟨w.nodup, by simp, fun a ha b hb z => ?_⟩
      rw [List.mem_singleton.mp hb] at z
      exact hnm (z ▸ ha)
    · intro a ha
      rcases List.mem_append.mp ha with q | q
      · exact w.src a q
      · rw [List.mem_singleton.mp q]
        exact there_iff.mp hx
    · intro a ha
      rcases List.mem_append.mp ha with q | q
      · exact w.dst a q
      · rw [List.mem_singleton.mp q]
        exact there_iff.mp hy
    · intro a ha
      rcases List.mem_append.mp ha with q | q
      · exact w.ne a q
      · rw [List.mem_singleton.mp q]
        exact hn
    · intro a ha
      rcases List.mem_append.mp ha with q | q
      · exact w.low a q
      · rw [List.mem_singleton.mp q]
        exact hr
theorem wf_sub {g : Graph} (w : Wf g) (p : Edge → Bool) : Wf ⟨g.subject, g.edges.filter p⟩ :=
  ⟨w.few, Nat.le_trans (List.length_filter_le _ _) w.edgesFew, w.nodup.filter _, fun e h => w.src e (List.mem_filter.mp h).1, fun e h => w.dst e (List.mem_filter.mp h).1, fun e h => w.ne e (List.mem_filter.mp h).1, fun e h => w.low e (List.mem_filter.mp h).1⟩
theorem rises_gt : ∀ {l : List Nat} {a : Nat}, rises (a :: l) = true → ∀ b ∈ l, a < b
  | [], _, _, b, hb => by cases hb
  | c :: l, a, h, b, hb => by
    have h : (decide (a < c) && rises (c :: l)) = true := h
    rw [Bool.and_eq_true, decide_eq_true_iff] at h
    rcases List.mem_cons.mp hb with rfl | hb
    · exact h.1
    · exact Nat.lt_trans h.1 (rises_gt h.2 b hb)
theorem rises_nd : ∀ {l : List Nat}, rises l = true → l.Nodup
  | [], _ => List.nodup_nil
  | a :: l, h => by
    refine List.nodup_cons.mpr ⟨fun m => Nat.lt_irrefl _ (rises_gt h a m), ?_⟩
    cases l with
    | nil => exact List.nodup_nil
    | cons c l =>
      have h : (decide (a < c) && rises (c :: l)) = true := h
      rw [Bool.and_eq_true] at h
      exact rises_nd h.2
theorem nodup_map_edge {x n : Nat} : ∀ {l : List Nat}, l.Nodup → (l.map fun r => (⟨x, n, r⟩ : Edge)).Nodup
  | [], _ => List.nodup_nil
  | a :: l, h => by
    obtain ⟨h1, h2⟩ := List.nodup_cons.mp h
    refine List.nodup_cons.mpr ⟨fun m => ?_, nodup_map_edge h2⟩
    obtain ⟨b, hb, e⟩ := List.mem_map.mp m
    have e : b = a := congrArg Edge.right e
    exact h1 (e ▸ hb)
theorem wf_step {g : Graph} (w : Wf g) (c : Call) : Wf (step g c).1 := by
  cases c with
  | new s =>
    show Wf (if 1 < s then (g, [-1]) else if 10 ≤ g.subject.length then (g, [-5]) else ({ g with subject := g.subject ++ [s == 1] }, Wm02.ints [g.subject.length + 1])).1
    by_cases h1 : 1 < s
    · rw [if_pos h1]
      exact w
    · by_cases h2 : 10 ≤ g.subject.length
      · rw [if_neg h1, if_pos h2]
        exact w
      · rw [if_neg h1, if_neg h2]
        have e : (g.subject ++ [s == 1]).length = g.subject.length + 1 := by rw [List.length_append]; rfl
        refine ⟨by show (g.subject ++ [s == 1]).length ≤ 10; omega, w.edgesFew, w.nodup, fun a ha => ?_, fun a ha => ?_, w.ne, w.low⟩
        · have := w.src a ha
          show 1 ≤ a.src ∧ a.src ≤ (g.subject ++ [s == 1]).length
          omega
        · have := w.dst a ha
          show 1 ≤ a.dst ∧ a.dst ≤ (g.subject ++ [s == 1]).length
          omega
  | put x y r =>
    show Wf (if isEdge g x y r = false then (g, [-1]) else if full (add g x y r) = true then (g, [-5]) else (add g x y r, Wm02.ints [(add g x y r).edges.length])).1
    by_cases h1 : isEdge g x y r = false
    · rw [if_pos h1]
      exact w
    · rw [if_neg h1]
      by_cases h2 : full (add g x y r) = true
      · rw [if_pos h2]
        exact w
      · rw [if_neg h2]
        obtain ⟨k1, k2, k3, k4⟩ := isEdge_iff.mp (by simpa using h1)
        exact wf_add w k1 k2 k3 k4 h2
  | cut x y r =>
    show Wf (if isEdge g x y r = false then (g, [-1]) else if edge g x y r = false then (g, [-3]) else (drop g x y r, Wm02.ints [(drop g x y r).edges.length])).1
    by_cases h1 : isEdge g x y r = false
    · rw [if_pos h1]
      exact w
    · rw [if_neg h1]
      by_cases h2 : edge g x y r = false
      · rw [if_pos h2]
        exact w
      · rw [if_neg h2]
        exact wf_sub w _
  | take x y z r =>
    show Wf (if 3 < r then (g, [-1]) else if mayTake g x y z r = false then (g, [-6]) else if full (add g x z r) = true then (g, [-5]) else (add g x z r, Wm02.ints [(add g x z r).edges.length])).1
    by_cases h0 : 3 < r
    · rw [if_pos h0]
      exact w
    · rw [if_neg h0]
      by_cases h1 : mayTake g x y z r = false
      · rw [if_pos h1]
        exact w
      · rw [if_neg h1]
        by_cases h2 : full (add g x z r) = true
        · rw [if_pos h2]
          exact w
        · rw [if_neg h2]
          have h1 : mayTake g x y z r = true := by simpa using h1
          unfold mayTake at h1
          rw [Bool.and_eq_true, Bool.and_eq_true, Bool.and_eq_true, Bool.and_eq_true, Bool.and_eq_true, bne_iff_ne, bne_iff_ne, bne_iff_ne] at h1
          obtain ⟨k1, k2, k3, k4, k5, k6⟩ := h1
          exact wf_add w (subject_there k1) (there_iff.mpr (w.dst _ (edge_iff.mp k6))) k4 (by omega) h2
  | give x y z r =>
    show Wf (if 3 < r then (g, [-1]) else if mayGive g x y z r = false then (g, [-6]) else if full (add g y z r) = true then (g, [-5]) else (add g y z r, Wm02.ints [(add g y z r).edges.length])).1
    by_cases h0 : 3 < r
    · rw [if_pos h0]
      exact w
    · rw [if_neg h0]
      by_cases h1 : mayGive g x y z r = false
      · rw [if_pos h1]
        exact w
      · rw [if_neg h1]
        by_cases h2 : full (add g y z r) = true
        · rw [if_pos h2]
          exact w
        · rw [if_neg h2]
          have h1 : mayGive g x y z r = true := by simpa using h1
          unfold mayGive at h1
          rw [Bool.and_eq_true, Bool.and_eq_true, Bool.and_eq_true, Bool.and_eq_true, Bool.and_eq_true, bne_iff_ne, bne_iff_ne, bne_iff_ne] at h1
          obtain ⟨k1, k2, k3, k4, k5, k6⟩ := h1
          exact wf_add w (there_iff.mpr (w.dst _ (edge_iff.mp k5))) (there_iff.mpr (w.dst _ (edge_iff.mp k6))) k3 (by omega) h2
  | make x s rs =>
    show Wf (if 1 < s ∨ rs.all (fun r => decide (r ≤ 3)) = false ∨ rises rs = false then (g, [-1]) else if isSubject g x = false then (g, [-6]) else if 10 ≤ g.subject.length ∨ full (make g x (s == 1) rs) = true then (g, [-5]) else
      (make g x (s == 1) rs, Wm02.ints [g.subject.length + 1])).1
    by_cases h0 : 1 < s ∨ rs.all (fun r => decide (r ≤ 3)) = false ∨ rises rs = false
    · rw [if_pos h0]
      exact w
    · rw [if_neg h0]
      by_cases h1 : isSubject g x = false
      · rw [if_pos h1]
        exact w
      · rw [if_neg h1]
        by_cases h2 : 10 ≤ g.subject.length ∨ full (make g x (s == 1) rs) = true
        · rw [if_pos h2]
          exact w
        · rw [if_neg h2]
          have hall : rs.all (fun r => decide (r ≤ 3)) = true := by
            cases e : rs.all (fun r => decide (r ≤ 3)) with
            | true => rfl
            | false => exact absurd (.inr (.inl e)) h0
          have hri : rises rs = true := by
            cases e : rises rs with
            | true => rfl
            | false => exact absurd (.inr (.inr e)) h0
          have hx := there_iff.mp (subject_there (by simpa using h1))
          have e : (g.subject ++ [s == 1]).length = g.subject.length + 1 := by rw [List.length_append]; rfl
          have hfl : ¬ 30 < (g.edges ++ rs.map fun r => (⟨x, g.subject.length + 1, r⟩ : Edge)).length := fun z => h2 (.inr (decide_eq_true z))
          have hle : ¬ 10 ≤ g.subject.length := fun z => h2 (.inl z)
          refine ⟨by show (g.subject ++ [s == 1]).length ≤ 10; omega, by show (g.edges ++ rs.map _).length ≤ 30; omega, ?_, fun a ha => ?_, fun a ha => ?_, fun a ha => ?_, fun a ha => ?_⟩
          · show (g.edges ++ rs.map _).Nodup
            rw [List.nodup_append]
            refine ⟨w.nodup, nodup_map_edge (rises_nd hri), fun a ha b hb z => ?_⟩
            obtain ⟨r, hr, q⟩ := List.mem_map.mp hb
            have := (w.dst a ha).2
            rw [z, ← q] at this
            have this : g.subject.length + 1 ≤ g.subject.length := this
            omega
          · show 1 ≤ a.src ∧ a.src ≤ (g.subject ++ [s == 1]).length
            rcases List.mem_append.mp ha with q | q
            · have := w.src a q
              omega
            · obtain ⟨r, hr, q⟩ := List.mem_map.mp q
              rw [← q]
              show 1 ≤ x ∧ x ≤ _
              omega
          · show 1 ≤ a.dst ∧ a.dst ≤ (g.subject ++ [s == 1]).length
            rcases List.mem_append.mp ha with q | q
            · have := w.dst a q
              omega
            · obtain ⟨r, hr, q⟩ := List.mem_map.mp q
              rw [← q]
              show 1 ≤ g.subject.length + 1 ∧ g.subject.length + 1 ≤ _
              omega
          · rcases List.mem_append.mp ha with q | q
            · exact w.ne a q
            · obtain ⟨r, hr, q⟩ := List.mem_map.mp q
              rw [← q]
              show x ≠ g.subject.length + 1
              omega
          · rcases List.mem_append.mp ha with q | q
            · exact w.low a q
            · obtain ⟨r, hr, q⟩ := List.mem_map.mp q
              rw [← q]
              show r ≤ 3
              exact of_decide_eq_true (List.all_eq_true.mp hall r hr)
  | can r x y => exact w
  | steal r x y => exact w
  | who r y => exact w
  | what x => exact w
  | near x => exact w
  | fewest r x y => exact w
  | edges => exact w
/-! ### how long an answer is -/
theorem choices_len {A : Type} : ∀ (k : Nat) (l : List A), ∀ c ∈ choices k l, c.length = k
  | 0, _, c, h => by
    have h : c ∈ [[]] := by
      unfold choices at h
      exact h
    rw [List.mem_singleton.mp h]
    rfl
  | k + 1, [], c, h => by
    unfold choices at h
    cases h
  | k + 1, x :: l, c, h => by
    unfold choices at h
    rcases List.mem_append.mp h with q | q
    · obtain ⟨d, hd, rfl⟩ := List.mem_map.mp q
      rw [List.length_cons, choices_len k l d hd]
    · exact choices_len (k + 1) l c q
theorem flat3_len : ∀ l : List Edge, (l.flatMap fun e => [e.src, e.dst, e.right]).length = 3 * l.length
  | [] => rfl
  | e :: l => by
    have h : (e :: l).length = l.length + 1 := rfl
    rw [List.flatMap_cons, List.length_append, flat3_len l, h]
    show 3 + _ = _
    omega
theorem edgesTold_len (l : List Edge) : (edgesTold l).length = 1 + 3 * l.length := by
  unfold edgesTold
  rw [List.length_cons]
  show (List.map _ _).length + 1 = _
  rw [List.length_map, flat3_len]
  omega
theorem told_len (l : List Nat) : (told l).length = 1 + l.length := by
  unfold told Wm02.ints
  rw [List.length_map, List.length_cons]
  omega
end Tg

set_option Elab.async false
set_option linter.all false
set_option maxRecDepth 100000
set_option maxHeartbeats 1000000
namespace Tg
open PySem PySem.Spec PyProof.Rows L2
open Wm02 (Edge Graph isThere isSubject edge add full flag isEdge rises mayTake mayGive step)
/-! ### how long an answer is -/
theorem step_len {g : Graph} (w : Wf g) (c : Wm02.Call) : 1 ≤ (step g c).2.length ∧ (step g c).2.length ≤ 100 := by
  have hal := all_len g
  have h10 := w.few
  have h30 := w.edgesFew
  have one : ∀ {p : Prop} [Decidable p] {a b : Graph × List Int}, (1 ≤ a.2.length ∧ a.2.length ≤ 100) → (1 ≤ b.2.length ∧ b.2.length ≤ 100) → 1 ≤ (if p then a else b).2.length ∧ (if p then a else b).2.length ≤ 100 := fun {p} _ {a b} ha hb => by
    by_cases h : p
    · rw [if_pos h]
      exact ha
    · rw [if_neg h]
      exact hb
  have onl : ∀ {p : Prop} [Decidable p] {a b : List Int}, (1 ≤ a.length ∧ a.length ≤ 100) → (1 ≤ b.length ∧ b.length ≤ 100) → 1 ≤ (if p then a else b).length ∧ (if p then a else b).length ≤ 100 := fun {p} _ {a b} ha hb => by
    by_cases h : p
    · rw [if_pos h]
      exact ha
    · rw [if_neg h]
      exact hb
  have s1 : ∀ {g' : Graph} {z : Int}, 1 ≤ ((g', [z]) : Graph × List Int).2.length ∧ ((g', [z]) : Graph × List Int).2.length ≤ 100 := ⟨Nat.le_refl _, by show 1 ≤ 100; decide⟩
  have l1 : ∀ {z : Int}, 1 ≤ ([z] : List Int).length ∧ ([z] : List Int).length ≤ 100 := ⟨Nat.le_refl _, by show 1 ≤ 100; decide⟩
  cases c with
  | new s => exact one s1 (one s1 s1)
  | put x y r => exact one s1 (one s1 s1)
  | cut x y r => exact one s1 (one s1 s1)
  | take x y z r => exact one s1 (one s1 (one s1 s1))
  | give x y z r => exact one s1 (one s1 (one s1 s1))
  | make x s rs => exact one s1 (one s1 (one s1 s1))
  | can r x y => exact onl l1 l1
  | steal r x y => exact onl l1 l1
  | who r y =>
    refine onl l1 ?_
    rw [told_len]
    have := List.length_filter_le (fun x => x != y && Wm02.can g r x y) (Wm02.all g)
    omega
  | what x =>
    refine onl l1 ?_
    have hb : ∀ (l : List Nat), (l.flatMap fun y => if y = x then ([] : List (Nat × Nat)) else ((List.range 4).filter fun r => Wm02.can g r x y).map fun r => (y, r)).length ≤ 4 * l.length := fun l => by
      induction l with
      | nil => exact Nat.le_refl _
      | cons a l ih =>
        rw [List.flatMap_cons, List.length_append, List.length_cons]
        have : (if a = x then ([] : List (Nat × Nat)) else ((List.range 4).filter fun r => Wm02.can g r x a).map fun r => (a, r)).length ≤ 4 := by
          by_cases h : a = x
          · rw [if_pos h]
            exact Nat.zero_le _
          · rw [if_neg h, List.length_map]
            exact List.length_filter_le _ _
        omega
    have h2 : ∀ (l : List (Nat × Nat)), (l.flatMap fun y => [y.1, y.2]).length = 2 * l.length := fun l => by
      induction l with
      | nil => rfl
      | cons a l ih =>
        have h : (a :: l).length = l.length + 1 := rfl
        rw [List.flatMap_cons, List.length_append, ih, h]
        show 2 + _ = _
        omega
    have h3 := hb (Wm02.all g)
    have e : ∀ (n : Int) (l : List (Nat × Nat)), (n :: Wm02.ints (l.flatMap fun y => [y.1, y.2])).length = 1 + 2 * l.length := fun n l => by
      rw [List.length_cons]
      show (List.map _ _).length + 1 = _
      rw [List.length_map, h2]
      omega
    show 1 ≤ (_ :: Wm02.ints (List.flatMap _ _)).length ∧ (_ :: Wm02.ints (List.flatMap _ _)).length ≤ 100
    rw [e]
    omega
  | near x =>
    refine onl l1 ?_
    rw [told_len]
    have := List.length_filter_le (fun v => (Wm02.spread g g.subject.length [x]).contains v) (Wm02.all g)
    omega
  | fewest r x y =>
    refine onl l1 ?_
    cases e : Wm02.fewest g r x y with
    | none => exact l1
    | some c =>
      show 1 ≤ (Wm02.edgesTold c).length ∧ (Wm02.edgesTold c).length ≤ 100
      rw [edgesTold_len]
      have hm := List.mem_of_find?_eq_some e
      obtain ⟨k, hk, hc⟩ := List.mem_flatMap.mp hm
      have := choices_len k _ c hc
      have := List.mem_range.mp hk
      omega
  | edges =>
    show 1 ≤ (Wm02.edgesTold g.edges).length ∧ (Wm02.edgesTold g.edges).length ≤ 100
    rw [edgesTold_len]
    omega
/-! ### calls behind one another -/
def runG (g : Graph) (l : List Wm02.Call) : Graph := l.foldl (fun g c => (step g c).1) g
theorem runG_snoc (g : Graph) (l : List Wm02.Call) (c : Wm02.Call) : runG g (l ++ [c]) = (step (runG g l) c).1 := by
  unfold runG
  rw [List.foldl_append]
  rfl
theorem playA_snoc : ∀ (g : Graph) (l : List Wm02.Call) (c : Wm02.Call), playA g (l ++ [c]) = playA g l ++ [(step (runG g l) c).2]
  | g, [], c => rfl
  | g, d :: l, c => by
    show (step g d).2 :: playA (step g d).1 (l ++ [c]) = (step g d).2 :: (playA (step g d).1 l ++ [_])
    rw [playA_snoc]
    rfl
theorem wf_run : ∀ {g : Graph} (l : List Wm02.Call), Wf g → Wf (runG g l)
  | _, [], w => w
  | g, c :: l, w => wf_run (g := (step g c).1) l (wf_step w c)
theorem told_snoc (l : List (List Int)) (a : List Int) : PyFlat.told (l ++ [a]) = PyFlat.told l ++ (a.length : Int) :: a := by
  unfold PyFlat.told
  rw [List.flatMap_append]
  congr 1
  show (_ :: a) ++ [] = _
  rw [List.append_nil]
theorem told_play_len : ∀ {g : Graph} (l : List Wm02.Call), Wf g → (PyFlat.told (playA g l)).length ≤ 101 * l.length
  | _, [], _ => Nat.zero_le _
  | g, c :: l, w => by
    have ih := told_play_len (g := (step g c).1) l (wf_step w c)
    have h := step_len w c
    show (((step g c).2.length : Int) :: (step g c).2 ++ PyFlat.told (playA (step g c).1 l)).length ≤ _
    rw [List.length_append, List.length_cons, List.length_cons]
    omega
/-! ### call_end -/
abbrev sEnd : Stmt := topS 60
abbrev sChange : Stmt := topS 61
abbrev sQuestion : Stmt := topS 62
abbrev sAnswer : Stmt := topS 63
abbrev sAnswers : Stmt := topS 64
def sizesL : List Nat := [1, 3, 3, 4, 4, 2, 3, 3, 2, 1, 1, 3, 0]
theorem chunk_head {ch : List Nat} {X : Wm02.Call} (h : Chunk ch X) : (∃ x s rs, ch = 5 :: x :: s :: rs.length :: rs) ∨ ∃ p n rest, ch = p :: rest ∧ p ≠ 5 ∧ sizesL[p]? = some n ∧ rest.length = n := by
  cases h with
  | makeC x s rs => exact .inl ⟨x, s, rs, rfl⟩
  | _ => exact .inr ⟨_, _, _, rfl, by decide, rfl, rfl⟩
section
variable {P : Program} {w : World} {K : PySem.W.Frag} {mg : Str → Option Value} {base : Heap} {C : Addr}
theorem scEnd : FnScope ["calls", "start", "end"] ["calls", "start"] (defScope sEnd) := ⟨rfl, rfl, rfl, by decide +kernel, rfl, by decide +kernel, by decide +kernel⟩
def spEnd (K : PySem.W.Frag) : Sp := fun vs H Q _ => ∃ (a : Addr) (pre ch post : List Nat) (X : Wm02.Call), vs = [.ref a, iv pre.length] ∧ SqL K H a (nv (pre ++ (ch ++ post))) ∧ Chunk ch X ∧ Q (iv (pre.length + ch.length)) H
theorem iv_add (a b : Nat) : V.int ((a : Int) + (b : Int)) = iv (a + b) := by
  unfold iv
  congr 1
theorem ok_end {f sz : Addr} {fd : FuncData} {k : Nat} (F : Fun K "call_end" "call_end" sEnd f fd) (gS : mg "SIZES" = some (.ref sz)) (hz : ∀ H, SqT K H sz (nv sizesL)) (c5 : IsI mg "MAKE" 5) : FnOk P w K mg base CX0 (k + 1) f fd ["calls", "start"] (spEnd K) := by
  refine F.ok scEnd (fun vs H Q E h => ?_) (fun cdv A outer s H vs Q E hr h => ?_)
  · obtain ⟨a, pre, ch, post, X, rfl, _⟩ := h
    rfl
  · obtain ⟨a, pre, ch, post, X, rfl, hS, hc, q⟩ := h
    refine ⟨_, pss_cons (ps_set (i := 2) scEnd.nd rfl (Or.inl rfl) (pe_op op_add (pe_op op_add (pv 1) pe_int) (pe_ix ix_tup (pe_glob (v := .ref sz) rfl gS rfl) (pe_ix ix_list (pv 0) (pv 1) (fun _ _ => rfl)) (fun _ _ => rfl))))
      (pss_cons (ps_if (pt_cmpR op_eq (pe_ix ix_list (pv 0) (pv 1) (fun _ _ => rfl)) (pe_ci c5) (nomark _))
        (pss_one (ps_aug (i := 2) scEnd.nd rfl (Or.inl rfl) (pe_op op_add pe_int (pe_ix ix_list (pv 0) (pv 2) (fun _ _ => rfl))) ip_add)) pss_nil)
      (pss_one (ps_ret (pv 2)))), ?_⟩
    rcases chunk_head hc with ⟨x, s5, rs, rfl⟩ | ⟨p, n, rest, rfl, hp, hn, hl⟩
    · have at0 : (pre ++ ((5 :: x :: s5 :: rs.length :: rs) ++ post))[pre.length]? = some 5 := by
        rw [List.getElem?_append_right (Nat.le_refl _), Nat.sub_self]
        rfl
      have at3 : (pre ++ ((5 :: x :: s5 :: rs.length :: rs) ++ post))[pre.length + 3]? = some rs.length := by
        rw [List.getElem?_append_right (Nat.le_add_right _ _), Nat.add_sub_cancel_left]
        rfl
      have e1 : V.int (((pre.length : Int) + 1) + ((2 : Nat) : Int)) = iv (pre.length + 3) := by
        unfold iv
        congr 1
      refine ⟨_, rfl, _, _, rfl, rfl, _, rfl, _, rfl, a, _, _, _, rfl, rfl, hS, atI_nat (get_nv at0), sz, _, _, _, rfl, rfl, hz H, atI_nat (get_nv (n := 2) rfl), _, _, rfl, rfl, ?_⟩
      refine ⟨_, rfl, _, rfl, a, _, _, _, rfl, rfl, hS, atI_nat (get_nv at0), rfl, _, rfl, iteT ?_⟩
      refine ⟨_, rfl, _, rfl, _, rfl, a, _, _, _, rfl, ?_, hS, atI_nat (get_nv at3), _, _, rfl, rfl, _, _, rfl, rfl, _, rfl, ?_⟩
      · exact e1
      · have e2 : V.int ((((pre.length : Int) + 1) + ((2 : Nat) : Int)) + (1 + (rs.length : Int))) = iv (pre.length + (5 :: x :: s5 :: rs.length :: rs).length) := by
          unfold iv
          congr 1
          simp only [List.length_cons]
          omega
        rw [← e2] at q
        exact q
    · have at0 : (pre ++ ((p :: rest) ++ post))[pre.length]? = some p := by
        rw [List.getElem?_append_right (Nat.le_refl _), Nat.sub_self]
        rfl
      refine ⟨_, rfl, _, _, rfl, rfl, _, rfl, _, rfl, a, _, _, _, rfl, rfl, hS, atI_nat (get_nv at0), sz, _, _, _, rfl, rfl, hz H, atI_nat (get_nv hn), _, _, rfl, rfl, ?_⟩
      refine ⟨_, rfl, _, rfl, a, _, _, _, rfl, rfl, hS, atI_nat (get_nv at0), rfl, _, rfl, ite2 (fun b => ?_) (fun b => ?_)⟩
      · exact absurd (iv_inj.mp (show iv p = iv 5 from of_decide_eq_true b)) hp
      · refine ⟨_, rfl, ?_⟩
        have e2 : V.int (((pre.length : Int) + 1) + (n : Int)) = iv (pre.length + (p :: rest).length) := by
          unfold iv
          congr 1
          simp only [List.length_cons]
          omega
        rw [← e2] at q
        exact q
/-! ### answers -/
def spAnswer (K : PySem.W.Frag) (C : Addr) : Sp := fun vs H Q _ => ∃ (a kl el ca : Addr) (g : Graph) (ch : List Nat) (X : Wm02.Call), vs = [.ref a, .ref ca] ∧ GA K C H a kl el g ∧ Wf g ∧ H ca = some (.lst (nv ch)) ∧ ca ≠ kl ∧ ca ≠ el ∧ Chunk ch X ∧
  ∀ H' p, GA K C H' a kl el (step g X).1 → Fr kl el H H' → H p = none → H' p = some (.lst ((step g X).2.map V.int)) → Q (.ref p) H'
theorem cut_mid (pre ch post : List Nat) : cutV (nv (pre ++ (ch ++ post))) (some (pre.length : Int)) (some ((pre.length + ch.length : Nat) : Int)) = nv ch := by
  unfold cutV
  rw [HT.sIx_nat, HT.sIx_nat, nv_len, List.length_append, List.length_append]
  have e1 : min pre.length (pre.length + (ch.length + post.length)) = pre.length := by omega
  have e2 : min (pre.length + ch.length) (pre.length + (ch.length + post.length)) = pre.length + ch.length := by omega
  rw [e1, e2, nv_app, nv_app]
  have e3 : (nv pre ++ (nv ch ++ nv post)).drop pre.length = nv ch ++ nv post := by
    rw [← nv_len pre]
    exact List.drop_left
  have e4 : (nv ch ++ nv post).take (pre.length + ch.length - pre.length) = nv ch := by
    rw [Nat.add_sub_cancel_left, ← nv_len ch]
    exact List.take_left
  rw [e3, e4]
theorem scAnswers : FnScope ["calls", "graph", "given", "start", "end", "found"] ["calls"] (defScope sAnswers) := ⟨rfl, rfl, rfl, by decide +kernel, rfl, by decide +kernel, by decide +kernel⟩
def flatC (l : List (List Nat × Wm02.Call)) : List Nat := (l.map (·.1)).flatten
theorem flatC_app (l m : List (List Nat × Wm02.Call)) : flatC (l ++ m) = flatC l ++ flatC m := by
  unfold flatC
  rw [List.map_append, List.flatten_append]
def spAnswers (K : PySem.W.Frag) : Sp := fun vs H Q _ => ∃ (a : Addr) (ch : List (List Nat × Wm02.Call)), vs = [.ref a] ∧ SqL K H a (nv (flatC ch)) ∧ (∀ c ∈ ch, Chunk c.1 c.2) ∧ ch.length ≤ 40 ∧
  ∀ (H' : Hp) (p : Addr), H' p = some (.lst ((PyFlat.told (playA Wm02.init (ch.map (·.2)))).map V.int)) → Q (.ref p) H'
theorem chunk_pos {ch : List Nat} {X : Wm02.Call} (h : Chunk ch X) : 0 < ch.length := by
  cases h <;> exact Nat.succ_pos _
theorem ok_answers {f fI fE fA : Addr} {fd fdI fdE fdA : FuncData} {j : Nat} (hj : 1 ≤ j) (F : Fun K "answers" "answers" sAnswers f fd) (T : Txt K mg C) (ml : mg "len" = none) (M : Mk K C fI) (bI : Binds K fdI ["self"] []) (GI : FnOk P w K mg base CX0 1 fI fdI ["self"] (spInit K C))
    (FE : Fun K "call_end" "call_end" sEnd fE fdE) (bE : Binds K fdE ["calls", "start"] []) (gE : mg "call_end" = some (.ref fE)) (GE : FnOk P w K mg base CX0 1 fE fdE ["calls", "start"] (spEnd K))
    (FA : Fun K "answer" "answer" sAnswer fA fdA) (bA : Binds K fdA ["graph", "call"] []) (gA : mg "answer" = some (.ref fA)) (GAn : FnOk P w K mg base CX0 (j + 1) fA fdA ["graph", "call"] (spAnswer K C)) :
    FnOk P w K mg base CX0 (j + 2) f fd ["calls"] (spAnswers K) := by
  refine F.ok scAnswers (fun vs H Q E h => ?_) (fun cdv A outer s H vs Q E hr h => ?_)
  · obtain ⟨a, ch, rfl, _⟩ := h
    rfl
  · obtain ⟨ca, chs, rfl, hS, hch, h40, q⟩ := h
    have hr1 : Room 1 _ := hr.mono (by omega)
    have hr2 : Room 2 _ := hr.mono (by omega)
    refine ⟨_, pss_cons (ps_set (i := 1) scAnswers.nd rfl (Or.inl rfl) (pe_make0 M GI hr2 rfl T.gC bI .nil pass0))
      (pss_cons (ps_set (i := 2) scAnswers.nd rfl (Or.inl rfl) (pe_lst pa_nil))
      (pss_cons (ps_set (i := 3) scAnswers.nd rfl (Or.inl rfl) pe_int)
      (pss_cons (ps_while PassesOwn.never (pt_cmpR op_lt (pv 3) (pe_callB call_len_seq (by rfl) ml PySem.boot_len (pa_cons (pv 0) pa_nil)) (nomark _))
        (pss_cons (ps_set (i := 4) scAnswers.nd rfl (Or.inl rfl) (pe_call GE hr1 (by rfl) gE FE.kp bE .nil pass0 (pa_cons (pv 0) (pa_cons (pv 3) pa_nil))))
        (pss_cons (ps_set (i := 5) scAnswers.nd rfl (Or.inl rfl) (pe_call GAn hr (by rfl) gA FA.kp bA .nil pass0 (pa_cons (pv 1) (pa_cons (pe_slice sl_list (pv 0) (po_some (pv 3)) (po_some (pv 4))) pa_nil))))
        (pss_cons (ps_expr (pe_bm PySem.F.plainAttrs_list PySem.F.slot_list_append PySem.F.type_list_append mt_append (pv 2) (pa_cons (pe_callB call_len_seq (by rfl) ml PySem.boot_len (pa_cons (pv 5) pa_nil)) pa_nil)))
        (pss_cons (ps_expr (pe_bm PySem.F.plainAttrs_list PySem.F.slot_list_extend PySem.F.type_list_extend mt_extend (pv 2) (pa_cons (pv 5) pa_nil)))
        (pss_one (ps_set (i := 3) scAnswers.nd rfl (Or.inl rfl) (pv 4))))))))
      (pss_one (ps_ret (pv 2)))))), ?_⟩
    -- graph = Graph()
    intro x dx nx nd ne
    refine ⟨x, dx, rfl, upd_same, fun H1 kl el G1 nkl nel kp => ⟨rfl, ?_⟩⟩
    have sm1 : Same H H1 := Same.made nx nd kp
    have nklH : H kl = none := by
      cases e : H kl with
      | none => rfl
      | some o =>
        rw [upd_ne (ne_of_none e nx), upd_ne (ne_of_none e nd), e] at nkl
        cases nkl
    have nelH : H el = none := by
      cases e : H el with
      | none => rfl
      | some o =>
        rw [upd_ne (ne_of_none e nx), upd_ne (ne_of_none e nd), e] at nel
        cases nel
    have frs : ∀ {H' : Hp}, Fr kl el H1 H' → Same H H' := fun {H'} f b o e => f b o (sm1 b o e) (ne_of_none e nklH) (ne_of_none e nelH)
    -- given = []
    refine ⟨Nat.zero_le _, fun gv ngv => ?_⟩
    have s2 : Same H1 (upd H1 gv (.lst [])) := same_upd ngv
    have gk : gv ≠ kl := (ne_of_none G1.knd ngv).symm
    have ge : gv ≠ el := by
      obtain ⟨ts, h2, _⟩ := G1.eds
      exact (ne_of_none h2 ngv).symm
    have ngvH : H gv = none := sm1.free ngv
    -- the while
    refine ⟨fun m σ H' => ∃ (i : Nat) (y4 y5 : Option V), σ = [some (.ref ca), some (.ref x), some (.ref gv), some (iv (flatC (chs.take i)).length), y4, y5] ∧ i ≤ chs.length ∧ m = chs.length - i ∧ Same H H' ∧
        GA K C H' x kl el (runG Wm02.init ((chs.take i).map (·.2))) ∧ H' gv = some (.lst ((PyFlat.told (playA Wm02.init ((chs.take i).map (·.2)))).map V.int)),
      ⟨_, 0, none, none, rfl, Nat.zero_le _, rfl, sm1.trans s2, G1.same s2, upd_same⟩, ?_⟩
    rintro m σ H3 ⟨i, y4, y5, rfl, hi, rfl, sm3, G3, hg3⟩
    have hS3 : SqL K H3 ca (nv (flatC chs)) := (le_of_same sm3).sqL hS
    have esplit : flatC chs = flatC (chs.take i) ++ flatC (chs.drop i) := by
      rw [← flatC_app, List.take_append_drop]
    refine ⟨_, rfl, _, rfl, ca, _, rfl, .inl hS3, _, _, rfl, rfl, _, rfl, ite2 (fun b => ?_) (fun b => ?_)⟩
    · have hlt : i < chs.length := by
        refine Classical.byContradiction fun z => ?_
        have b := of_decide_eq_true b
        have e : chs.take i = chs := List.take_of_length_le (by omega)
        rw [nv_len, e] at b
        exact Int.lt_irrefl _ b
      have hget : chs[i]? = some chs[i] := List.getElem?_eq_getElem hlt
      have hck : Chunk chs[i].1 chs[i].2 := hch _ (List.getElem_mem hlt)
      have edrop : flatC (chs.drop i) = chs[i].1 ++ flatC (chs.drop (i + 1)) := by
        rw [List.drop_eq_getElem_cons hlt]
        rfl
      have etake : chs.take (i + 1) = chs.take i ++ [chs[i]] := take_more hget
      have eflat : flatC (chs.take (i + 1)) = flatC (chs.take i) ++ chs[i].1 := by
        rw [etake, flatC_app]
        congr 1
        show chs[i].1 ++ [] = _
        rw [List.append_nil]
      rw [edrop] at esplit
      have hW : Wf (runG Wm02.init ((chs.take i).map (·.2))) := wf_run _ wf_init
      refine ⟨fun σ' H' => ∃ m', m' < chs.length - i ∧ ∃ (i : Nat) (y4 y5 : Option V), σ' = [some (.ref ca), some (.ref x), some (.ref gv), some (iv (flatC (chs.take i)).length), y4, y5] ∧ i ≤ chs.length ∧ m' = chs.length - i ∧ Same H H' ∧
        GA K C H' x kl el (runG Wm02.init ((chs.take i).map (·.2))) ∧ H' gv = some (.lst ((PyFlat.told (playA Wm02.init ((chs.take i).map (·.2)))).map V.int)), fun σ' H' z => z, ?_⟩
      -- end = call_end(calls, start)
      refine ⟨_, rfl, _, rfl, ca, flatC (chs.take i), chs[i].1, flatC (chs.drop (i + 1)), chs[i].2, rfl, by rw [← esplit]; exact hS3, hck, ?_⟩
      -- found = answer(graph, calls[start:end])
      refine ⟨_, rfl, _, rfl, _, rfl, _, rfl, _, rfl, _, rfl, ca, _, rfl, hS3, fun sl nsl => ?_⟩
      have ecut : cutV (nv (flatC chs)) (some ((flatC (chs.take i)).length : Int)) (some (((flatC (chs.take i)).length + chs[i].1.length : Nat) : Int)) = nv chs[i].1 := by
        rw [esplit]
        exact cut_mid _ _ _
      rw [ecut]
      have s4 : Same H3 (upd H3 sl (.lst (nv chs[i].1))) := same_upd nsl
      have slk : sl ≠ kl := (ne_of_none G3.knd nsl).symm
      have sle : sl ≠ el := by
        obtain ⟨ts, h2, _⟩ := G3.eds
        exact (ne_of_none h2 nsl).symm
      refine ⟨x, kl, el, sl, _, chs[i].1, chs[i].2, rfl, G3.same s4, hW, upd_same, slk, sle, hck, fun H5 p G5 f5 np hp => ?_⟩
      have f35 : Fr kl el H3 H5 := (Fr.of_same s4).trans f5
      have hg5 : H5 gv = some (.lst ((PyFlat.told (playA Wm02.init ((chs.take i).map (·.2)))).map V.int)) := f35 _ _ hg3 gk ge
      have pgv : p ≠ gv := fun z => by
        rw [z, upd_ne (fun y => by rw [y] at hg3; rw [hg3] at nsl; cases nsl)] at np
        rw [hg3] at np
        cases np
      have np3 : H3 p = none := s4.free np
      have pkl : p ≠ kl := (ne_of_none G3.knd np3).symm
      have pel : p ≠ el := by
        obtain ⟨ts, h2, _⟩ := G3.eds
        exact (ne_of_none h2 np3).symm
      have hlen := step_len hW chs[i].2
      have htl := told_play_len ((chs.take i).map (·.2)) wf_init
      have hcnt : ((chs.take i).map (·.2)).length ≤ 40 := by
        rw [List.length_map, List.length_take]
        omega
      -- given.append(len(found))
      refine ⟨_, rfl, .inl ⟨rfl, _, SqL.of hg5⟩, _, rfl, p, _, rfl, .inl (SqL.of hp), gv, _, _, rfl, rfl, hg5, ?_, ?_⟩
      · rw [List.length_map]
        exact lt_line (by omega)
      · -- given.extend(found)
        have hp6 : ∀ {o : HO}, (upd H5 gv o) p = some (.lst ((step (runG Wm02.init ((chs.take i).map (·.2))) chs[i].2).2.map V.int)) := fun {o} => by
          rw [upd_ne pgv]
          exact hp
        refine ⟨_, rfl, .inl ⟨rfl, _, SqL.of upd_same⟩, _, rfl, gv, p, _, _, rfl, rfl, upd_same, hp6, ?_, ?_⟩
        · rw [List.length_append, List.length_map, List.length_map]
          have : ((PyFlat.told (playA Wm02.init ((chs.take i).map (·.2)))).length + 1 + (step (runG Wm02.init ((chs.take i).map (·.2))) chs[i].2).2.length) ≤ 100000 := by omega
          exact Nat.le_of_lt (lt_line this)
        · -- start = end
          rw [upd_upd]
          have emap : (chs.take (i + 1)).map (·.2) = (chs.take i).map (·.2) ++ [chs[i].2] := by
            rw [etake, List.map_append]
            rfl
          have frg : ∀ {o : HO} {b : Addr} {u : HO}, H b = some u → (upd H5 gv o) b = some u := fun {o b u} e => by
            rw [upd_ne (ne_of_none e ngvH)]
            exact f35 _ _ (sm3 _ _ e) (ne_of_none e nklH) (ne_of_none e nelH)
          refine ⟨_, rfl, chs.length - (i + 1), by omega, i + 1, some (iv ((flatC (chs.take i)).length + chs[i].1.length)), some (.ref p), ?_, by omega, rfl, fun b u e => frg e, ?_, ?_⟩
          · rw [eflat, List.length_append]
            rfl
          · rw [emap, runG_snoc]
            obtain ⟨dx5, ho5⟩ := G5.obj
            obtain ⟨ts5, he5, ht5⟩ := G5.eds
            have fu : ∀ {o : HO}, LeT H5 (upd H5 gv o) := fun {o} b zs r => by
              rcases r with r | ⟨ob, r⟩
              · exact .inl (by rw [upd_ne (ne_of r hg5 (by intro z; cases z))]; exact r)
              · exact .inr ⟨ob, by rw [upd_ne (ne_of r hg5 (by intro z; cases z))]; exact r⟩
            refine ⟨⟨dx5, ?_⟩, ?_, ⟨ts5, ?_, fu.tups ht5⟩, G5.ne⟩
            · rw [upd_ne (ne_of ho5 hg5 (by intro z; cases z))]
              exact ho5
            · rw [upd_ne gk.symm]
              exact G5.knd
            · rw [upd_ne ge.symm]
              exact he5
          · rw [upd_same, emap, playA_snoc, told_snoc, List.map_append, List.append_assoc]
            congr 3
            show [V.int _] ++ _ = V.int _ :: _
            rw [List.length_map]
            rfl
    · have e : chs.take i = chs := by
        refine List.take_of_length_le ?_
        refine Classical.byContradiction fun z => b (decide_eq_true ?_)
        have hlt : i < chs.length := by omega
        have hck : Chunk chs[i].1 chs[i].2 := hch _ (List.getElem_mem hlt)
        have edrop : flatC (chs.drop i) = chs[i].1 ++ flatC (chs.drop (i + 1)) := by
          rw [List.drop_eq_getElem_cons hlt]
          rfl
        have := chunk_pos hck
        have e2 := congrArg List.length esplit
        rw [edrop, List.length_append, List.length_append] at e2
        rw [nv_len]
        omega
      rw [e] at hg3
      exact ⟨_, rfl, q H3 gv hg3⟩
end
end Tg

set_option Elab.async false
set_option linter.all false
set_option maxRecDepth 100000
set_option maxHeartbeats 1000000
namespace Tg
open PySem PySem.Spec PyProof.Rows L2
open Wm02 (Edge Graph isThere isSubject edge add full flag isEdge rises mayTake mayGive step)
structure CstN (mg : Str → Option Value) : Prop where
  new : IsI mg "NEW" 0
  put : IsI mg "PUT" 1
  cut : IsI mg "CUT" 2
  take : IsI mg "TAKE" 3
  give : IsI mg "GIVE" 4
  make : IsI mg "MAKE" 5
  can : IsI mg "CAN" 6
  steal : IsI mg "STEAL" 7
  who : IsI mg "WHO" 8
  what : IsI mg "WHAT" 9
  near : IsI mg "NEAR" 10
  fewest : IsI mg "FEWEST" 11
/-- a def that may be called by its name -/
def Cal (P : Program) (w : World) (K : PySem.W.Frag) (mg : Str → Option Value) (base : Heap) (nm : Str) (st : Stmt) (k : Nat) (ps : List Str) (sp : Sp) : Prop := ∃ (f : Addr) (fd : FuncData), Fun K nm nm st f fd ∧ Binds K fd ps [] ∧ mg nm = some (.ref f) ∧ FnOk P w K mg base CX0 k f fd ps sp
theorem at1 {ch : List Nat} {n v : Nat} (h : ch[n]? = some v) : atI (nv ch) (n : Int) = some (iv v) := atI_nat (get_nv h)
theorem cut4 (x s k : Nat) (rs : List Nat) : cutV (nv (5 :: x :: s :: k :: rs)) (some ((4 : Nat) : Int)) none = nv rs := by
  unfold cutV
  rw [HT.sIx_nat, HT.sIx_none, nv_len]
  have e1 : min 4 (5 :: x :: s :: k :: rs).length = 4 := by
    simp only [List.length_cons]
    omega
  rw [e1]
  have e2 : (nv (5 :: x :: s :: k :: rs)).drop 4 = nv rs := rfl
  rw [e2]
  refine List.take_of_length_le ?_
  rw [nv_len]
  simp only [List.length_cons]
  omega
section
variable {P : Program} {w : World} {K : PySem.W.Frag} {mg : Str → Option Value} {base : Heap} {C : Addr}
/-! ### answer_change -/
theorem scChange : FnScope ["graph", "call", "number"] ["graph", "call"] (defScope sChange) := ⟨rfl, rfl, rfl, by decide +kernel, rfl, by decide +kernel, by decide +kernel⟩
def spChange (K : PySem.W.Frag) (C : Addr) : Sp := fun vs H Q _ => ∃ (a kl el ca : Addr) (g : Graph) (n : Nat) (ch : List Nat) (X : Wm02.Call), vs = [.ref a, .ref ca] ∧ GA K C H a kl el g ∧ Wf g ∧ H ca = some (.lst (nv (n :: ch))) ∧ ca ≠ kl ∧ ca ≠ el ∧ Chunk (n :: ch) X ∧ n ≤ 5 ∧ Post K C H Q a kl el g X
theorem ok_change {f : Addr} {fd : FuncData} (F : Fun K "answer_change" "answer_change" sChange f fd) (cn : CstN mg) (c0 : Cal P w K mg base "new" sNew 2 ["graph", "s"] (spNew K C)) (c1 : Cal P w K mg base "put" sPut 3 ["graph", "x", "y", "r"] (spPut K C)) (c2 : Cal P w K mg base "cut" sCut 3 ["graph", "x", "y", "r"] (spCut K C))
    (c3 : Cal P w K mg base "take" sTake 3 ["graph", "x", "y", "z", "r"] (spTake K C)) (c4 : Cal P w K mg base "give" sGive 3 ["graph", "x", "y", "z", "r"] (spGive K C)) (c5 : Cal P w K mg base "make" sMake 3 ["graph", "x", "s", "rights"] (spMake K C)) :
    FnOk P w K mg base CX0 4 f fd ["graph", "call"] (spChange K C) := by
  obtain ⟨f0, fd0, F0, b0, g0, G0⟩ := c0
  obtain ⟨f1, fd1, F1, b1, g1, G1⟩ := c1
  obtain ⟨f2, fd2, F2, b2, g2, G2⟩ := c2
  obtain ⟨f3, fd3, F3, b3, g3, G3⟩ := c3
  obtain ⟨f4, fd4, F4, b4, g4, G4⟩ := c4
  obtain ⟨f5, fd5, F5, b5, g5, G5⟩ := c5
  refine F.ok scChange (fun vs H Q E h => ?_) (fun cdv A outer s H vs Q E hr h => ?_)
  · obtain ⟨a, kl, el, ca, g, n, ch, X, rfl, _⟩ := h
    rfl
  · obtain ⟨a, kl, el, ca, g, n, ch, X, rfl, G, W, hca, nk, ne, hc, hn, q⟩ := h
    have hr2 : Room 2 _ := hr.mono (by decide)
    have hS := SqL.of (K := K) hca
    refine ⟨_, pss_cons (ps_set (i := 2) scChange.nd rfl (Or.inl rfl) (pe_ix ix_list (pv 1) pe_int (fun _ _ => rfl)))
      (pss_cons (ps_if (pt_cmpR op_eq (pv 2) (pe_ci cn.new) (nomark _)) (pss_one (ps_ret (pe_call G0 hr2 (by rfl) g0 F0.kp b0 .nil pass0 (pa_cons (pv 0) (pa_cons (pe_ix ix_list (pv 1) pe_int (fun _ _ => rfl)) pa_nil))))) pss_nil)
      (pss_cons (ps_if (pt_cmpR op_eq (pv 2) (pe_ci cn.put) (nomark _)) (pss_one (ps_ret (pe_call G1 hr (by rfl) g1 F1.kp b1 .nil pass0 (pa_cons (pv 0) (pa_cons (pe_ix ix_list (pv 1) pe_int (fun _ _ => rfl)) (pa_cons (pe_ix ix_list (pv 1) pe_int (fun _ _ => rfl)) (pa_cons (pe_ix ix_list (pv 1) pe_int (fun _ _ => rfl)) pa_nil))))))) pss_nil)
      (pss_cons (ps_if (pt_cmpR op_eq (pv 2) (pe_ci cn.cut) (nomark _)) (pss_one (ps_ret (pe_call G2 hr (by rfl) g2 F2.kp b2 .nil pass0 (pa_cons (pv 0) (pa_cons (pe_ix ix_list (pv 1) pe_int (fun _ _ => rfl)) (pa_cons (pe_ix ix_list (pv 1) pe_int (fun _ _ => rfl)) (pa_cons (pe_ix ix_list (pv 1) pe_int (fun _ _ => rfl)) pa_nil))))))) pss_nil)
      (pss_cons (ps_if (pt_cmpR op_eq (pv 2) (pe_ci cn.take) (nomark _)) (pss_one (ps_ret (pe_call G3 hr (by rfl) g3 F3.kp b3 .nil pass0 (pa_cons (pv 0) (pa_cons (pe_ix ix_list (pv 1) pe_int (fun _ _ => rfl)) (pa_cons (pe_ix ix_list (pv 1) pe_int (fun _ _ => rfl)) (pa_cons (pe_ix ix_list (pv 1) pe_int (fun _ _ => rfl)) (pa_cons (pe_ix ix_list (pv 1) pe_int (fun _ _ => rfl)) pa_nil)))))))) pss_nil)
      (pss_cons (ps_if (pt_cmpR op_eq (pv 2) (pe_ci cn.give) (nomark _)) (pss_one (ps_ret (pe_call G4 hr (by rfl) g4 F4.kp b4 .nil pass0 (pa_cons (pv 0) (pa_cons (pe_ix ix_list (pv 1) pe_int (fun _ _ => rfl)) (pa_cons (pe_ix ix_list (pv 1) pe_int (fun _ _ => rfl)) (pa_cons (pe_ix ix_list (pv 1) pe_int (fun _ _ => rfl)) (pa_cons (pe_ix ix_list (pv 1) pe_int (fun _ _ => rfl)) pa_nil)))))))) pss_nil)
      (pss_one (ps_ret (pe_call G5 hr (by rfl) g5 F5.kp b5 .nil pass0 (pa_cons (pv 0) (pa_cons (pe_ix ix_list (pv 1) pe_int (fun _ _ => rfl)) (pa_cons (pe_ix ix_list (pv 1) pe_int (fun _ _ => rfl)) (pa_cons (pe_slice sl_list (pv 1) (po_some pe_int) po_none) pa_nil)))))))))))), ?_⟩
    refine ⟨_, rfl, ca, _, _, _, rfl, rfl, hS, at1 (n := 0) rfl, ?_⟩
    cases hc with
    | newC s =>
      refine ⟨_, rfl, rfl, _, rfl, iteT ?_⟩
      exact ⟨_, rfl, _, rfl, ca, _, _, _, rfl, rfl, hS, at1 (n := 1) rfl, a, kl, el, g, s, rfl, G, W, q⟩
    | putC x y r =>
      refine ⟨_, rfl, rfl, _, rfl, iteF ⟨_, rfl, rfl, _, rfl, iteT ?_⟩⟩
      exact ⟨_, rfl, _, rfl, ca, _, _, _, rfl, rfl, hS, at1 (n := 1) rfl, _, rfl, ca, _, _, _, rfl, rfl, hS, at1 (n := 2) rfl, _, rfl, ca, _, _, _, rfl, rfl, hS, at1 (n := 3) rfl, a, kl, el, g, x, y, r, rfl, G, W, q⟩
    | cutC x y r =>
      refine ⟨_, rfl, rfl, _, rfl, iteF ⟨_, rfl, rfl, _, rfl, iteF ⟨_, rfl, rfl, _, rfl, iteT ?_⟩⟩⟩
      exact ⟨_, rfl, _, rfl, ca, _, _, _, rfl, rfl, hS, at1 (n := 1) rfl, _, rfl, ca, _, _, _, rfl, rfl, hS, at1 (n := 2) rfl, _, rfl, ca, _, _, _, rfl, rfl, hS, at1 (n := 3) rfl, a, kl, el, g, x, y, r, rfl, G, W, q⟩
    | takeC x y z r =>
      refine ⟨_, rfl, rfl, _, rfl, iteF ⟨_, rfl, rfl, _, rfl, iteF ⟨_, rfl, rfl, _, rfl, iteF ⟨_, rfl, rfl, _, rfl, iteT ?_⟩⟩⟩⟩
      exact ⟨_, rfl, _, rfl, ca, _, _, _, rfl, rfl, hS, at1 (n := 1) rfl, _, rfl, ca, _, _, _, rfl, rfl, hS, at1 (n := 2) rfl, _, rfl, ca, _, _, _, rfl, rfl, hS, at1 (n := 3) rfl, _, rfl, ca, _, _, _, rfl, rfl, hS, at1 (n := 4) rfl, a, kl, el, g, x, y, z, r, rfl, G, W, q⟩
    | giveC x y z r =>
      refine ⟨_, rfl, rfl, _, rfl, iteF ⟨_, rfl, rfl, _, rfl, iteF ⟨_, rfl, rfl, _, rfl, iteF ⟨_, rfl, rfl, _, rfl, iteF ⟨_, rfl, rfl, _, rfl, iteT ?_⟩⟩⟩⟩⟩
      exact ⟨_, rfl, _, rfl, ca, _, _, _, rfl, rfl, hS, at1 (n := 1) rfl, _, rfl, ca, _, _, _, rfl, rfl, hS, at1 (n := 2) rfl, _, rfl, ca, _, _, _, rfl, rfl, hS, at1 (n := 3) rfl, _, rfl, ca, _, _, _, rfl, rfl, hS, at1 (n := 4) rfl, a, kl, el, g, x, y, z, r, rfl, G, W, q⟩
    | makeC x s rs =>
      refine ⟨_, rfl, rfl, _, rfl, iteF ⟨_, rfl, rfl, _, rfl, iteF ⟨_, rfl, rfl, _, rfl, iteF ⟨_, rfl, rfl, _, rfl, iteF ⟨_, rfl, rfl, _, rfl, iteF ?_⟩⟩⟩⟩⟩
      refine ⟨_, rfl, _, rfl, ca, _, _, _, rfl, rfl, hS, at1 (n := 1) rfl, _, rfl, ca, _, _, _, rfl, rfl, hS, at1 (n := 2) rfl, _, rfl, _, rfl, ca, _, rfl, hS, fun p np => ?_⟩
      have sm : Same H (upd H p (.lst (cutV (nv (5 :: x :: s :: rs.length :: rs)) (some 4) none))) := same_upd np
      have nkl : p ≠ kl := (ne_of_none G.knd np).symm
      have nel : p ≠ el := by
        obtain ⟨ts, h2, _⟩ := G.eds
        exact (ne_of_none h2 np).symm
      refine ⟨a, kl, el, p, g, x, s, rs, rfl, G.same sm, W, ?_, nkl, nel, fun H' z hG hF e => q H' z hG ((Fr.of_same sm).trans hF) e⟩
      rw [upd_same]
      exact congrArg (fun l => some (HO.lst l)) (cut4 x s rs.length rs)
    | canC => omega
    | stealC => omega
    | whoC => omega
    | whatC => omega
    | nearC => omega
    | fewestC => omega
    | edgesC => omega
/-! ### answer_question -/
theorem scQuestion : FnScope ["graph", "call", "number"] ["graph", "call"] (defScope sQuestion) := ⟨rfl, rfl, rfl, by decide +kernel, rfl, by decide +kernel, by decide +kernel⟩
def spQuestion (K : PySem.W.Frag) (C : Addr) : Sp := fun vs H Q _ => ∃ (a kl el ca : Addr) (g : Graph) (n : Nat) (ch : List Nat) (X : Wm02.Call), vs = [.ref a, .ref ca] ∧ GA K C H a kl el g ∧ Wf g ∧ H ca = some (.lst (nv (n :: ch))) ∧ Chunk (n :: ch) X ∧ ¬ n ≤ 5 ∧ PostL K C H Q a kl el g X
theorem GA.rows {H : Hp} {a kl el : Addr} {g : Graph} (G : GA K C H a kl el g) : ∃ ts, H el = some (.lst ts) ∧ ts.length = (g.edges.map edN).length ∧ ∀ (i : Nat) (v : V), ts[i]? = some v → ∃ t l, (g.edges.map edN)[i]? = some l ∧ v = .ref t ∧ SqT K H t (nv l) := by
  obtain ⟨ts, h1, h2⟩ := G.eds
  exact ⟨ts, h1, tups_rows h2⟩
theorem one_int {g : Graph} {X : Wm02.Call} {z : Int} (h : (step g X).2 = [z]) : (step g X).2.map V.int = [V.int z] := by
  rw [h]
  rfl
theorem ok_question {f : Addr} {fd : FuncData} (F : Fun K "answer_question" "answer_question" sQuestion f fd) (T : Txt K mg C) (cn : CstN mg) (c6 : Cal P w K mg base "can" sCan 5 ["graph", "r", "x", "y"] (spCan K C)) (c7 : Cal P w K mg base "steal" sSteal 6 ["graph", "r", "x", "y"] (spSteal K C)) (c8 : Cal P w K mg base "who" sWho 5 ["graph", "r", "y"] (spWho K C)) (c9 : Cal P w K mg base "what" sWhat 5 ["graph", "x"] (spWhat K C)) (c10 : Cal P w K mg base "near" sNear 4 ["graph", "x"] (spNear K C)) (c11 : Cal P w K mg base "fewest" sFewest 7 ["graph", "r", "x", "y"] (spFewest K C)) (c12 : Cal P w K mg base "counted" sCounted 1 ["rows"] (spCounted K)) :
    FnOk P w K mg base CX0 8 f fd ["graph", "call"] (spQuestion K C) := by
  obtain ⟨f6, fd6, F6, b6, g6, G6⟩ := c6
  obtain ⟨f7, fd7, F7, b7, g7, G7⟩ := c7
  obtain ⟨f8, fd8, F8, b8, g8, G8⟩ := c8
  obtain ⟨f9, fd9, F9, b9, g9, G9⟩ := c9
  obtain ⟨f10, fd10, F10, b10, g10, G10⟩ := c10
  obtain ⟨f11, fd11, F11, b11, g11, G11⟩ := c11
  obtain ⟨f12, fd12, F12, b12, g12, G12⟩ := c12
  refine F.ok scQuestion (fun vs H Q E h => ?_) (fun cdv A outer s H vs Q E hr h => ?_)
  · obtain ⟨a, kl, el, ca, g, n, ch, X, rfl, _⟩ := h
    rfl
  · obtain ⟨a, kl, el, ca, g, n, ch, X, rfl, G, W, hca, hc, hn, q⟩ := h
    have hr1 : Room 1 _ := hr.mono (by decide)
    have hr4 : Room 4 _ := hr.mono (by decide)
    have hr5 : Room 5 _ := hr.mono (by decide)
    have hr6 : Room 6 _ := hr.mono (by decide)
    have hS := SqL.of (K := K) hca
    refine ⟨_, pss_cons (ps_set (i := 2) scQuestion.nd rfl (Or.inl rfl) (pe_ix ix_list (pv 1) pe_int (fun _ _ => rfl)))
      (pss_cons (ps_if (pt_cmpR op_eq (pv 2) (pe_ci cn.can) (nomark _)) (pss_one (ps_ret (pe_lst (pa_cons (pe_call G6 hr5 (by rfl) g6 F6.kp b6 .nil pass0 (pa_cons (pv 0) (pa_cons (pe_ix ix_list (pv 1) pe_int (fun _ _ => rfl)) (pa_cons (pe_ix ix_list (pv 1) pe_int (fun _ _ => rfl)) (pa_cons (pe_ix ix_list (pv 1) pe_int (fun _ _ => rfl)) pa_nil))))) pa_nil)))) pss_nil)
      (pss_cons (ps_if (pt_cmpR op_eq (pv 2) (pe_ci cn.steal) (nomark _)) (pss_one (ps_ret (pe_lst (pa_cons (pe_call G7 hr6 (by rfl) g7 F7.kp b7 .nil pass0 (pa_cons (pv 0) (pa_cons (pe_ix ix_list (pv 1) pe_int (fun _ _ => rfl)) (pa_cons (pe_ix ix_list (pv 1) pe_int (fun _ _ => rfl)) (pa_cons (pe_ix ix_list (pv 1) pe_int (fun _ _ => rfl)) pa_nil))))) pa_nil)))) pss_nil)
      (pss_cons (ps_if (pt_cmpR op_eq (pv 2) (pe_ci cn.who) (nomark _)) (pss_one (ps_ret (pe_call G8 hr5 (by rfl) g8 F8.kp b8 .nil pass0 (pa_cons (pv 0) (pa_cons (pe_ix ix_list (pv 1) pe_int (fun _ _ => rfl)) (pa_cons (pe_ix ix_list (pv 1) pe_int (fun _ _ => rfl)) pa_nil)))))) pss_nil)
      (pss_cons (ps_if (pt_cmpR op_eq (pv 2) (pe_ci cn.what) (nomark _)) (pss_one (ps_ret (pe_call G9 hr5 (by rfl) g9 F9.kp b9 .nil pass0 (pa_cons (pv 0) (pa_cons (pe_ix ix_list (pv 1) pe_int (fun _ _ => rfl)) pa_nil))))) pss_nil)
      (pss_cons (ps_if (pt_cmpR op_eq (pv 2) (pe_ci cn.near) (nomark _)) (pss_one (ps_ret (pe_call G10 hr4 (by rfl) g10 F10.kp b10 .nil pass0 (pa_cons (pv 0) (pa_cons (pe_ix ix_list (pv 1) pe_int (fun _ _ => rfl)) pa_nil))))) pss_nil)
      (pss_cons (ps_if (pt_cmpR op_eq (pv 2) (pe_ci cn.fewest) (nomark _)) (pss_one (ps_ret (pe_call G11 hr (by rfl) g11 F11.kp b11 .nil pass0 (pa_cons (pv 0) (pa_cons (pe_ix ix_list (pv 1) pe_int (fun _ _ => rfl)) (pa_cons (pe_ix ix_list (pv 1) pe_int (fun _ _ => rfl)) (pa_cons (pe_ix ix_list (pv 1) pe_int (fun _ _ => rfl)) pa_nil))))))) pss_nil)
      (pss_one (ps_ret (pe_call G12 hr1 (by rfl) g12 F12.kp b12 .nil pass0 (pa_cons (pe_fld (pv 0) rfl) pa_nil)))))))))), ?_⟩
    refine ⟨_, rfl, ca, _, _, _, rfl, rfl, hS, at1 (n := 0) rfl, ?_⟩
    -- a number alone, in a list of its own
    have one : ∀ {H' : Hp} {z : Int} {p : Addr}, GA K C H' a kl el (step g X).1 → Fr kl el H H' → (step g X).2 = [z] → H' p = none → Q (.ref p) (upd H' p (.lst [V.int z])) := fun {H' z p} hG hF e np => by
      have sm : Same H' (upd H' p (.lst [V.int z])) := same_upd np
      have nH : H p = none := by
        cases e2 : H p with
        | none => rfl
        | some u =>
          by_cases h1 : p = kl
          · rw [h1, hG.knd] at np
            cases np
          · by_cases h2 : p = el
            · obtain ⟨ts, h3, _⟩ := hG.eds
              rw [h2, h3] at np
              cases np
            · rw [hF p u e2 h1 h2] at np
              cases np
      refine q _ p (hG.same sm) (hF.trans (Fr.of_same sm)) nH ?_
      rw [upd_same, one_int e]
    cases hc with
    | canC r x y =>
      refine ⟨_, rfl, rfl, _, rfl, iteT ?_⟩
      exact ⟨_, rfl, _, rfl, ca, _, _, _, rfl, rfl, hS, at1 (n := 1) rfl, _, rfl, ca, _, _, _, rfl, rfl, hS, at1 (n := 2) rfl, _, rfl, ca, _, _, _, rfl, rfl, hS, at1 (n := 3) rfl, a, kl, el, g, r, x, y, rfl, G, W, fun H' z hG hF e => ⟨one_le, fun p np => one hG hF e np⟩⟩
    | stealC r x y =>
      refine ⟨_, rfl, rfl, _, rfl, iteF ⟨_, rfl, rfl, _, rfl, iteT ?_⟩⟩
      exact ⟨_, rfl, _, rfl, ca, _, _, _, rfl, rfl, hS, at1 (n := 1) rfl, _, rfl, ca, _, _, _, rfl, rfl, hS, at1 (n := 2) rfl, _, rfl, ca, _, _, _, rfl, rfl, hS, at1 (n := 3) rfl, a, kl, el, g, r, x, y, rfl, G, W, fun H' z hG hF e => ⟨one_le, fun p np => one hG hF e np⟩⟩
    | whoC r y =>
      refine ⟨_, rfl, rfl, _, rfl, iteF ⟨_, rfl, rfl, _, rfl, iteF ⟨_, rfl, rfl, _, rfl, iteT ?_⟩⟩⟩
      exact ⟨_, rfl, _, rfl, ca, _, _, _, rfl, rfl, hS, at1 (n := 1) rfl, _, rfl, ca, _, _, _, rfl, rfl, hS, at1 (n := 2) rfl, a, kl, el, g, r, y, rfl, G, W, q⟩
    | whatC x =>
      refine ⟨_, rfl, rfl, _, rfl, iteF ⟨_, rfl, rfl, _, rfl, iteF ⟨_, rfl, rfl, _, rfl, iteF ⟨_, rfl, rfl, _, rfl, iteT ?_⟩⟩⟩⟩
      exact ⟨_, rfl, _, rfl, ca, _, _, _, rfl, rfl, hS, at1 (n := 1) rfl, a, kl, el, g, x, rfl, G, W, q⟩
    | nearC x =>
      refine ⟨_, rfl, rfl, _, rfl, iteF ⟨_, rfl, rfl, _, rfl, iteF ⟨_, rfl, rfl, _, rfl, iteF ⟨_, rfl, rfl, _, rfl, iteF ⟨_, rfl, rfl, _, rfl, iteT ?_⟩⟩⟩⟩⟩
      exact ⟨_, rfl, _, rfl, ca, _, _, _, rfl, rfl, hS, at1 (n := 1) rfl, a, kl, el, g, x, rfl, G, W, q⟩
    | fewestC r x y =>
      refine ⟨_, rfl, rfl, _, rfl, iteF ⟨_, rfl, rfl, _, rfl, iteF ⟨_, rfl, rfl, _, rfl, iteF ⟨_, rfl, rfl, _, rfl, iteF ⟨_, rfl, rfl, _, rfl, iteF ⟨_, rfl, rfl, _, rfl, iteT ?_⟩⟩⟩⟩⟩⟩
      exact ⟨_, rfl, _, rfl, ca, _, _, _, rfl, rfl, hS, at1 (n := 1) rfl, _, rfl, ca, _, _, _, rfl, rfl, hS, at1 (n := 2) rfl, _, rfl, ca, _, _, _, rfl, rfl, hS, at1 (n := 3) rfl, a, kl, el, g, r, x, y, rfl, G, W, q⟩
    | edgesC =>
      refine ⟨_, rfl, rfl, _, rfl, iteF ⟨_, rfl, rfl, _, rfl, iteF ⟨_, rfl, rfl, _, rfl, iteF ⟨_, rfl, rfl, _, rfl, iteF ⟨_, rfl, rfl, _, rfl, iteF ⟨_, rfl, rfl, _, rfl, iteF ?_⟩⟩⟩⟩⟩⟩
      obtain ⟨dx, ho⟩ := G.obj
      obtain ⟨ts, h1, h2, h3⟩ := G.rows
      have hl := W.edgesFew
      refine ⟨_, rfl, a, C, dx, _, _, rfl, ho, T.cl, T.nE, gF_edges kl el, el, ts, g.edges.map edN, rfl, SqL.of h1, h2, h3, by rw [edN_flat]; omega, fun H' p sm np hp => ?_⟩
      refine q.at (g' := g) (zs := Wm02.edgesTold g.edges) rfl (G.same sm) (Fr.of_same sm) np ?_
      rw [edgesTold_nv]
      rw [List.length_map] at hp
      exact hp
    | newC => omega
    | putC => omega
    | cutC => omega
    | takeC => omega
    | giveC => omega
    | makeC => omega
/-! ### answer -/
theorem scAnswer : FnScope ["graph", "call"] ["graph", "call"] (defScope sAnswer) := ⟨rfl, rfl, rfl, by decide +kernel, rfl, by decide +kernel, by decide +kernel⟩
theorem change_one {g : Graph} {n : Nat} {ch : List Nat} {X : Wm02.Call} (h : Chunk (n :: ch) X) (hn : n ≤ 5) : ∃ z, (step g X).2 = [z] := by
  have two : ∀ {p : Prop} [Decidable p] {A B : Graph × List Int}, (∃ z, A.2 = [z]) → (∃ z, B.2 = [z]) → ∃ z, (if p then A else B).2 = [z] := by
    intro p _ A B ha hb
    by_cases c : p
    · rw [if_pos c]
      exact ha
    · rw [if_neg c]
      exact hb
  cases h with
  | newC s => exact two ⟨_, rfl⟩ (two ⟨_, rfl⟩ ⟨_, rfl⟩)
  | putC x y r => exact two ⟨_, rfl⟩ (two ⟨_, rfl⟩ ⟨_, rfl⟩)
  | cutC x y r => exact two ⟨_, rfl⟩ (two ⟨_, rfl⟩ ⟨_, rfl⟩)
  | takeC x y z r => exact two ⟨_, rfl⟩ (two ⟨_, rfl⟩ (two ⟨_, rfl⟩ ⟨_, rfl⟩))
  | giveC x y z r => exact two ⟨_, rfl⟩ (two ⟨_, rfl⟩ (two ⟨_, rfl⟩ ⟨_, rfl⟩))
  | makeC x s rs => exact two ⟨_, rfl⟩ (two ⟨_, rfl⟩ (two ⟨_, rfl⟩ ⟨_, rfl⟩))
  | canC => omega
  | stealC => omega
  | whoC => omega
  | whatC => omega
  | nearC => omega
  | fewestC => omega
  | edgesC => omega
theorem ok_answer {f : Addr} {fd : FuncData} (F : Fun K "answer" "answer" sAnswer f fd) (cn : CstN mg) (c0 : Cal P w K mg base "answer_change" sChange 4 ["graph", "call"] (spChange K C)) (c1 : Cal P w K mg base "answer_question" sQuestion 8 ["graph", "call"] (spQuestion K C)) :
    FnOk P w K mg base CX0 9 f fd ["graph", "call"] (spAnswer K C) := by
  obtain ⟨f0, fd0, F0, b0, g0, G0⟩ := c0
  obtain ⟨f1, fd1, F1, b1, g1, G1⟩ := c1
  refine F.ok scAnswer (fun vs H Q E h => ?_) (fun cdv A outer s H vs Q E hr h => ?_)
  · obtain ⟨a, kl, el, ca, g, ch, X, rfl, _⟩ := h
    rfl
  · obtain ⟨a, kl, el, ca, g, ch, X, rfl, G, W, hca, nk, ne, hc, q⟩ := h
    have hr4 : Room 4 _ := hr.mono (by decide)
    have hp := chunk_pos hc
    obtain ⟨n, rest, rfl⟩ : ∃ n rest, ch = n :: rest := by
      cases ch with
      | nil => cases hp
      | cons n rest => exact ⟨n, rest, rfl⟩
    refine ⟨_, pss_one (ps_ret (pe_ifExp (pt_cmpR op_le (pe_ix ix_list (pv 1) pe_int (fun _ _ => rfl)) (pe_ci cn.make) (nomark _))
      (pe_lst (pa_cons (pe_call G0 hr4 (by rfl) g0 F0.kp b0 .nil pass0 (pa_cons (pv 0) (pa_cons (pv 1) pa_nil))) pa_nil))
      (pe_call G1 hr (by rfl) g1 F1.kp b1 .nil pass0 (pa_cons (pv 0) (pa_cons (pv 1) pa_nil))))), ?_⟩
    refine ⟨_, rfl, ca, _, _, _, rfl, rfl, SqL.of hca, at1 (n := 0) rfl, _, _, rfl, rfl, _, rfl, ite2 (fun b => ?_) (fun b => ?_)⟩
    · have hn : n ≤ 5 := by
        have b := of_decide_eq_true b
        omega
      refine ⟨_, rfl, _, rfl, a, kl, el, ca, g, n, rest, X, rfl, G, W, hca, nk, ne, hc, hn, fun H' z hG hF e => ⟨one_le, fun p np => ?_⟩⟩
      have sm : Same H' (upd H' p (.lst [V.int z])) := same_upd np
      have nH : H p = none := by
        cases e2 : H p with
        | none => rfl
        | some u =>
          by_cases h1 : p = kl
          · rw [h1, hG.knd] at np
            cases np
          · by_cases h2 : p = el
            · obtain ⟨ts, h3, _⟩ := hG.eds
              rw [h2, h3] at np
              cases np
            · rw [hF p u e2 h1 h2] at np
              cases np
      refine q _ p (hG.same sm) (hF.trans (Fr.of_same sm)) nH ?_
      rw [upd_same, one_int e]
    · have hn : ¬ n ≤ 5 := fun z => b (decide_eq_true (by omega))
      exact ⟨_, rfl, _, rfl, a, kl, el, ca, g, n, rest, X, rfl, G, W, hca, hc, hn, q⟩
end
end Tg

set_option Elab.async false
set_option linter.all false
set_option maxRecDepth 100000
set_option maxHeartbeats 4000000
namespace Tg
open PySem PySem.Spec PyProof.Rows L2
open PySem.W (Codec)
/-- a written tuple of numbers -/
def numV : Value → Option Nat
  | .int i _ => if 0 ≤ i then some i.toNat else none
  | _ => none
def numsOf : List Value → Option (List Nat)
  | [] => some []
  | u :: us => match numV u, numsOf us with
    | some n, some l => some (n :: l)
    | _, _ => none
theorem numV_rel {u : Value} {n : Nat} (h : numV u = some n) : RelV (iv n) u := by
  cases u with
  | int i t =>
    have h : (if 0 ≤ i then some i.toNat else none) = some n := h
    by_cases h0 : 0 ≤ i
    · rw [if_pos h0] at h
      cases h
      refine ⟨t, ?_⟩
      rw [Int.toNat_of_nonneg h0]
    · rw [if_neg h0] at h
      cases h
  | _ => cases h
theorem nums_vals : ∀ {us : List Value} {l : List Nat}, numsOf us = some l → Vals (nv l) us
  | [], l, h => by
    have h : some [] = some l := h
    cases h
    exact .nil
  | u :: us, l, h => by
    have h : (match numV u, numsOf us with | some n, some l => some (n :: l) | _, _ => none) = some l := h
    cases e1 : numV u with
    | none =>
      rw [e1] at h
      cases h
    | some n =>
      cases e2 : numsOf us with
      | none =>
        rw [e1, e2] at h
        cases h
      | some m =>
        rw [e1, e2] at h
        cases h
        exact .cons (numV_rel e1) (nums_vals e2)
theorem tup_sq {K : PySem.W.Frag} {sz : Addr} {d : Option Addr} {its : Array Value} {n : Nat} {sl : Array (Option Value)} {l : List Nat} (hl : K.lookup sz = some ⟨.type "tuple", d, .seq its n, sl⟩) (h : numsOf its.toList = some l) (hs : l.length ≤ 1000) (H : Hp) : SqT K H sz (nv l) := by
  have hv := nums_vals h
  refine .inr ⟨_, its, n, hl, rfl, rfl, ?_, hv⟩
  have e := hv.length
  rw [nv_len] at e
  have e3 : its.toList.length = its.size := Array.length_toList
  rw [← e3, ← e]
  exact Nat.le_of_lt (small1000 hs)
theorem all_mk {P : Program} {w : World} {K : PySem.W.Frag} {h : Heap} {mg : Str → Option Value} {fa C sz f0 f1 f2 f3 f4 f5 f6 f7 f8 f9 f10 f11 f12 f13 f14 f15 f16 f17 f18 f19 f20 f21 f22 f23 f24 f25 f26 f27 f28 f29 f30 f31 f32 m0 m1 m2 m3 m4 m5 m6 m7 : Addr} (X : K.In h) (G : h.Ns mainGlobals mg) (hfa : mg "answers" = some (.ref fa))
    {odF0 anF0 odF1 anF1 odF2 anF2 odF3 anF3 odF4 anF4 odF5 anF5 odF6 anF6 odF7 anF7 odF8 anF8 odF9 anF9 odF10 anF10 odF11 anF11 odF12 anF12 odF13 anF13 odF14 anF14 odF15 anF15 odF16 anF16 odF17 anF17 odF18 anF18 odF19 anF19 odF20 anF20 odF21 anF21 odF22 anF22 odF23 anF23 odF24 anF24 odF25 anF25 odF26 anF26 odF27 anF27 odF28 anF28 odF29 anF29 odF30 anF30 odF31 anF31 odF32 anF32 odM0 anM0 odM1 anM1 odM2 anM2 odM3 anM3 odM4 anM4 odM5 anM5 odM6 anM6 odM7 anM7 : Option Addr} {slF0 slF1 slF2 slF3 slF4 slF5 slF6 slF7 slF8 slF9 slF10 slF11 slF12 slF13 slF14 slF15 slF16 slF17 slF18 slF19 slF20 slF21 slF22 slF23 slF24 slF25 slF26 slF27 slF28 slF29 slF30 slF31 slF32 slM0 slM1 slM2 slM3 slM4 slM5 slM6 slM7 : Array (Option Value)} {ocF0 kVF0 dcF0 pmF0 cdF0 ctF0 ocF1 kVF1 dcF1 pmF1 cdF1 ctF1 ocF2 kVF2 dcF2 pmF2 cdF2 ctF2 ocF3 kVF3 dcF3 pmF3 cdF3 ctF3 ocF4 kVF4 dcF4 pmF4 cdF4 ctF4 ocF5 kVF5 dcF5 pmF5 cdF5 ctF5 ocF6 kVF6 dcF6 pmF6 cdF6 ctF6 ocF7 kVF7 dcF7 pmF7 cdF7 ctF7 ocF8 kVF8 dcF8 pmF8 cdF8 ctF8 ocF9 kVF9 dcF9 pmF9 cdF9 ctF9 ocF10 kVF10 dcF10 pmF10 cdF10 ctF10 ocF11 kVF11 dcF11 pmF11 cdF11 ctF11 ocF12 kVF12 dcF12 pmF12 cdF12 ctF12 ocF13 kVF13 dcF13 pmF13 cdF13 ctF13 ocF14 kVF14 dcF14 pmF14 cdF14 ctF14 ocF15 kVF15 dcF15 pmF15 cdF15 ctF15 ocF16 kVF16 dcF16 pmF16 cdF16 ctF16 ocF17 kVF17 dcF17 pmF17 cdF17 ctF17 ocF18 kVF18 dcF18 pmF18 cdF18 ctF18 ocF19 kVF19 dcF19 pmF19 cdF19 ctF19 ocF20 kVF20 dcF20 pmF20 cdF20 ctF20 ocF21 kVF21 dcF21 pmF21 cdF21 ctF21 ocF22 kVF22 dcF22 pmF22 cdF22 ctF22 ocF23 kVF23 dcF23 pmF23 cdF23 ctF23 ocF24 kVF24 dcF24 pmF24 cdF24 ctF24 ocF25 kVF25 dcF25 pmF25 cdF25 ctF25 ocF26 kVF26 dcF26 pmF26 cdF26 ctF26 ocF27 kVF27 dcF27 pmF27 cdF27 ctF27 ocF28 kVF28 dcF28 pmF28 cdF28 ctF28 ocF29 kVF29 dcF29 pmF29 cdF29 ctF29 ocF30 kVF30 dcF30 pmF30 cdF30 ctF30 ocF31 kVF31 dcF31 pmF31 cdF31 ctF31 ocF32 kVF32 dcF32 pmF32 cdF32 ctF32 ocM0 kVM0 dcM0 pmM0 cdM0 ctM0 ocM1 kVM1 dcM1 pmM1 cdM1 ctM1 ocM2 kVM2 dcM2 pmM2 cdM2 ctM2 ocM3 kVM3 dcM3 pmM3 cdM3 ctM3 ocM4 kVM4 dcM4 pmM4 cdM4 ctM4 ocM5 kVM5 dcM5 pmM5 cdM5 ctM5 ocM6 kVM6 dcM6 pmM6 cdM6 ctM6 ocM7 kVM7 dcM7 pmM7 cdM7 ctM7 : Value} {tMOST_ONES tMOST_EDGES tHIGHEST_RIGHT tNOT_FIT tNO_EDGE tFULL tMAY_NOT tTOO_MANY tTO_TAKE tTO_GIVE tUP tDOWN tSTART tGOAL tMOST_CUT tNEW tPUT tCUT tTAKE tGIVE tMAKE tCAN tSTEAL tWHO tWHAT tNEAR tFEWEST : Tok} {dSZ : Option Addr} {iSZ : Array Value} {nSZ : Nat} {sSZ : Array (Option Value)} {szl : List Nat}
    (aF0 : PySem.W.nsIn K mainGlobals "holders" = some (some (.ref f0)))
    (lF0 : K.lookup f0 = some ⟨ocF0, odF0, .func (PySem.W.fnOf "holders" "holders" (defArgs sHolders) (defBody sHolders) (defScope sHolders) .none kVF0 dcF0 pmF0 anF0 cdF0 ctF0), slF0⟩)
    (cF0 : PySem.W.codeIn K cdF0 "holders" = true)
    (kF0 : PySem.W.keepIn K (.ref f0) = true)
    (aF1 : PySem.W.nsIn K mainGlobals "add_link" = some (some (.ref f1)))
    (lF1 : K.lookup f1 = some ⟨ocF1, odF1, .func (PySem.W.fnOf "add_link" "add_link" (defArgs sAddLink) (defBody sAddLink) (defScope sAddLink) .none kVF1 dcF1 pmF1 anF1 cdF1 ctF1), slF1⟩)
    (cF1 : PySem.W.codeIn K cdF1 "add_link" = true)
    (kF1 : PySem.W.keepIn K (.ref f1) = true)
    (aF2 : PySem.W.nsIn K mainGlobals "near_links" = some (some (.ref f2)))
    (lF2 : K.lookup f2 = some ⟨ocF2, odF2, .func (PySem.W.fnOf "near_links" "near_links" (defArgs sNearLinks) (defBody sNearLinks) (defScope sNearLinks) .none kVF2 dcF2 pmF2 anF2 cdF2 ctF2), slF2⟩)
    (cF2 : PySem.W.codeIn K cdF2 "near_links" = true)
    (kF2 : PySem.W.keepIn K (.ref f2) = true)
    (aF3 : PySem.W.nsIn K mainGlobals "all_links" = some (some (.ref f3)))
    (lF3 : K.lookup f3 = some ⟨ocF3, odF3, .func (PySem.W.fnOf "all_links" "all_links" (defArgs sAllLinks) (defBody sAllLinks) (defScope sAllLinks) .none kVF3 dcF3 pmF3 anF3 cdF3 ctF3), slF3⟩)
    (cF3 : PySem.W.codeIn K cdF3 "all_links" = true)
    (kF3 : PySem.W.keepIn K (.ref f3) = true)
    (aF4 : PySem.W.nsIn K mainGlobals "walk" = some (some (.ref f4)))
    (lF4 : K.lookup f4 = some ⟨ocF4, odF4, .func (PySem.W.fnOf "walk" "walk" (defArgs sWalk) (defBody sWalk) (defScope sWalk) .none kVF4 dcF4 pmF4 anF4 cdF4 ctF4), slF4⟩)
    (cF4 : PySem.W.codeIn K cdF4 "walk" = true)
    (kF4 : PySem.W.keepIn K (.ref f4) = true)
    (aF5 : PySem.W.nsIn K mainGlobals "can_be" = some (some (.ref f5)))
    (lF5 : K.lookup f5 = some ⟨ocF5, odF5, .func (PySem.W.fnOf "can_be" "can_be" (defArgs sCanBe) (defBody sCanBe) (defScope sCanBe) .none kVF5 dcF5 pmF5 anF5 cdF5 ctF5), slF5⟩)
    (cF5 : PySem.W.codeIn K cdF5 "can_be" = true)
    (kF5 : PySem.W.keepIn K (.ref f5) = true)
    (aF6 : PySem.W.nsIn K mainGlobals "near_ones" = some (some (.ref f6)))
    (lF6 : K.lookup f6 = some ⟨ocF6, odF6, .func (PySem.W.fnOf "near_ones" "near_ones" (defArgs sNearOnes) (defBody sNearOnes) (defScope sNearOnes) .none kVF6 dcF6 pmF6 anF6 cdF6 ctF6), slF6⟩)
    (cF6 : PySem.W.codeIn K cdF6 "near_ones" = true)
    (kF6 : PySem.W.keepIn K (.ref f6) = true)
    (aF7 : PySem.W.nsIn K mainGlobals "takers" = some (some (.ref f7)))
    (lF7 : K.lookup f7 = some ⟨ocF7, odF7, .func (PySem.W.fnOf "takers" "takers" (defArgs sTakers) (defBody sTakers) (defScope sTakers) .none kVF7 dcF7 pmF7 anF7 cdF7 ctF7), slF7⟩)
    (cF7 : PySem.W.codeIn K cdF7 "takers" = true)
    (kF7 : PySem.W.keepIn K (.ref f7) = true)
    (aF8 : PySem.W.nsIn K mainGlobals "bringers" = some (some (.ref f8)))
    (lF8 : K.lookup f8 = some ⟨ocF8, odF8, .func (PySem.W.fnOf "bringers" "bringers" (defArgs sBringers) (defBody sBringers) (defScope sBringers) .none kVF8 dcF8 pmF8 anF8 cdF8 ctF8), slF8⟩)
    (cF8 : PySem.W.codeIn K cdF8 "bringers" = true)
    (kF8 : PySem.W.keepIn K (.ref f8) = true)
    (aF9 : PySem.W.nsIn K mainGlobals "can_steal" = some (some (.ref f9)))
    (lF9 : K.lookup f9 = some ⟨ocF9, odF9, .func (PySem.W.fnOf "can_steal" "can_steal" (defArgs sCanSteal) (defBody sCanSteal) (defScope sCanSteal) .none kVF9 dcF9 pmF9 anF9 cdF9 ctF9), slF9⟩)
    (cF9 : PySem.W.codeIn K cdF9 "can_steal" = true)
    (kF9 : PySem.W.keepIn K (.ref f9) = true)
    (aF10 : PySem.W.nsIn K mainGlobals "first_row" = some (some (.ref f10)))
    (lF10 : K.lookup f10 = some ⟨ocF10, odF10, .func (PySem.W.fnOf "first_row" "first_row" (defArgs sFirstRow) (defBody sFirstRow) (defScope sFirstRow) .none kVF10 dcF10 pmF10 anF10 cdF10 ctF10), slF10⟩)
    (cF10 : PySem.W.codeIn K cdF10 "first_row" = true)
    (kF10 : PySem.W.keepIn K (.ref f10) = true)
    (aF11 : PySem.W.nsIn K mainGlobals "fewest_edges" = some (some (.ref f11)))
    (lF11 : K.lookup f11 = some ⟨ocF11, odF11, .func (PySem.W.fnOf "fewest_edges" "fewest_edges" (defArgs sFewestE) (defBody sFewestE) (defScope sFewestE) .none kVF11 dcF11 pmF11 anF11 cdF11 ctF11), slF11⟩)
    (cF11 : PySem.W.codeIn K cdF11 "fewest_edges" = true)
    (kF11 : PySem.W.keepIn K (.ref f11) = true)
    (aF12 : PySem.W.nsIn K mainGlobals "fits" = some (some (.ref f12)))
    (lF12 : K.lookup f12 = some ⟨ocF12, odF12, .func (PySem.W.fnOf "fits" "fits" (defArgs sFits) (defBody sFits) (defScope sFits) .none kVF12 dcF12 pmF12 anF12 cdF12 ctF12), slF12⟩)
    (cF12 : PySem.W.codeIn K cdF12 "fits" = true)
    (kF12 : PySem.W.keepIn K (.ref f12) = true)
    (aF13 : PySem.W.nsIn K mainGlobals "all_different" = some (some (.ref f13)))
    (lF13 : K.lookup f13 = some ⟨ocF13, odF13, .func (PySem.W.fnOf "all_different" "all_different" (defArgs sDiff) (defBody sDiff) (defScope sDiff) .none kVF13 dcF13 pmF13 anF13 cdF13 ctF13), slF13⟩)
    (cF13 : PySem.W.codeIn K cdF13 "all_different" = true)
    (kF13 : PySem.W.keepIn K (.ref f13) = true)
    (aF14 : PySem.W.nsIn K mainGlobals "rights_fit" = some (some (.ref f14)))
    (lF14 : K.lookup f14 = some ⟨ocF14, odF14, .func (PySem.W.fnOf "rights_fit" "rights_fit" (defArgs sRights) (defBody sRights) (defScope sRights) .none kVF14 dcF14 pmF14 anF14 cdF14 ctF14), slF14⟩)
    (cF14 : PySem.W.codeIn K cdF14 "rights_fit" = true)
    (kF14 : PySem.W.keepIn K (.ref f14) = true)
    (aF15 : PySem.W.nsIn K mainGlobals "new" = some (some (.ref f15)))
    (lF15 : K.lookup f15 = some ⟨ocF15, odF15, .func (PySem.W.fnOf "new" "new" (defArgs sNew) (defBody sNew) (defScope sNew) .none kVF15 dcF15 pmF15 anF15 cdF15 ctF15), slF15⟩)
    (cF15 : PySem.W.codeIn K cdF15 "new" = true)
    (kF15 : PySem.W.keepIn K (.ref f15) = true)
    (aF16 : PySem.W.nsIn K mainGlobals "put" = some (some (.ref f16)))
    (lF16 : K.lookup f16 = some ⟨ocF16, odF16, .func (PySem.W.fnOf "put" "put" (defArgs sPut) (defBody sPut) (defScope sPut) .none kVF16 dcF16 pmF16 anF16 cdF16 ctF16), slF16⟩)
    (cF16 : PySem.W.codeIn K cdF16 "put" = true)
    (kF16 : PySem.W.keepIn K (.ref f16) = true)
    (aF17 : PySem.W.nsIn K mainGlobals "cut" = some (some (.ref f17)))
    (lF17 : K.lookup f17 = some ⟨ocF17, odF17, .func (PySem.W.fnOf "cut" "cut" (defArgs sCut) (defBody sCut) (defScope sCut) .none kVF17 dcF17 pmF17 anF17 cdF17 ctF17), slF17⟩)
    (cF17 : PySem.W.codeIn K cdF17 "cut" = true)
    (kF17 : PySem.W.keepIn K (.ref f17) = true)
    (aF18 : PySem.W.nsIn K mainGlobals "take" = some (some (.ref f18)))
    (lF18 : K.lookup f18 = some ⟨ocF18, odF18, .func (PySem.W.fnOf "take" "take" (defArgs sTake) (defBody sTake) (defScope sTake) .none kVF18 dcF18 pmF18 anF18 cdF18 ctF18), slF18⟩)
    (cF18 : PySem.W.codeIn K cdF18 "take" = true)
    (kF18 : PySem.W.keepIn K (.ref f18) = true)
    (aF19 : PySem.W.nsIn K mainGlobals "give" = some (some (.ref f19)))
    (lF19 : K.lookup f19 = some ⟨ocF19, odF19, .func (PySem.W.fnOf "give" "give" (defArgs sGive) (defBody sGive) (defScope sGive) .none kVF19 dcF19 pmF19 anF19 cdF19 ctF19), slF19⟩)
    (cF19 : PySem.W.codeIn K cdF19 "give" = true)
    (kF19 : PySem.W.keepIn K (.ref f19) = true)
    (aF20 : PySem.W.nsIn K mainGlobals "make" = some (some (.ref f20)))
    (lF20 : K.lookup f20 = some ⟨ocF20, odF20, .func (PySem.W.fnOf "make" "make" (defArgs sMake) (defBody sMake) (defScope sMake) .none kVF20 dcF20 pmF20 anF20 cdF20 ctF20), slF20⟩)
    (cF20 : PySem.W.codeIn K cdF20 "make" = true)
    (kF20 : PySem.W.keepIn K (.ref f20) = true)
    (aF21 : PySem.W.nsIn K mainGlobals "can" = some (some (.ref f21)))
    (lF21 : K.lookup f21 = some ⟨ocF21, odF21, .func (PySem.W.fnOf "can" "can" (defArgs sCan) (defBody sCan) (defScope sCan) .none kVF21 dcF21 pmF21 anF21 cdF21 ctF21), slF21⟩)
    (cF21 : PySem.W.codeIn K cdF21 "can" = true)
    (kF21 : PySem.W.keepIn K (.ref f21) = true)
    (aF22 : PySem.W.nsIn K mainGlobals "steal" = some (some (.ref f22)))
    (lF22 : K.lookup f22 = some ⟨ocF22, odF22, .func (PySem.W.fnOf "steal" "steal" (defArgs sSteal) (defBody sSteal) (defScope sSteal) .none kVF22 dcF22 pmF22 anF22 cdF22 ctF22), slF22⟩)
    (cF22 : PySem.W.codeIn K cdF22 "steal" = true)
    (kF22 : PySem.W.keepIn K (.ref f22) = true)
    (aF23 : PySem.W.nsIn K mainGlobals "counted" = some (some (.ref f23)))
    (lF23 : K.lookup f23 = some ⟨ocF23, odF23, .func (PySem.W.fnOf "counted" "counted" (defArgs sCounted) (defBody sCounted) (defScope sCounted) .none kVF23 dcF23 pmF23 anF23 cdF23 ctF23), slF23⟩)
    (cF23 : PySem.W.codeIn K cdF23 "counted" = true)
    (kF23 : PySem.W.keepIn K (.ref f23) = true)
    (aF24 : PySem.W.nsIn K mainGlobals "who" = some (some (.ref f24)))
    (lF24 : K.lookup f24 = some ⟨ocF24, odF24, .func (PySem.W.fnOf "who" "who" (defArgs sWho) (defBody sWho) (defScope sWho) .none kVF24 dcF24 pmF24 anF24 cdF24 ctF24), slF24⟩)
    (cF24 : PySem.W.codeIn K cdF24 "who" = true)
    (kF24 : PySem.W.keepIn K (.ref f24) = true)
    (aF25 : PySem.W.nsIn K mainGlobals "what" = some (some (.ref f25)))
    (lF25 : K.lookup f25 = some ⟨ocF25, odF25, .func (PySem.W.fnOf "what" "what" (defArgs sWhat) (defBody sWhat) (defScope sWhat) .none kVF25 dcF25 pmF25 anF25 cdF25 ctF25), slF25⟩)
    (cF25 : PySem.W.codeIn K cdF25 "what" = true)
    (kF25 : PySem.W.keepIn K (.ref f25) = true)
    (aF26 : PySem.W.nsIn K mainGlobals "near" = some (some (.ref f26)))
    (lF26 : K.lookup f26 = some ⟨ocF26, odF26, .func (PySem.W.fnOf "near" "near" (defArgs sNear) (defBody sNear) (defScope sNear) .none kVF26 dcF26 pmF26 anF26 cdF26 ctF26), slF26⟩)
    (cF26 : PySem.W.codeIn K cdF26 "near" = true)
    (kF26 : PySem.W.keepIn K (.ref f26) = true)
    (aF27 : PySem.W.nsIn K mainGlobals "fewest" = some (some (.ref f27)))
    (lF27 : K.lookup f27 = some ⟨ocF27, odF27, .func (PySem.W.fnOf "fewest" "fewest" (defArgs sFewest) (defBody sFewest) (defScope sFewest) .none kVF27 dcF27 pmF27 anF27 cdF27 ctF27), slF27⟩)
    (cF27 : PySem.W.codeIn K cdF27 "fewest" = true)
    (kF27 : PySem.W.keepIn K (.ref f27) = true)
    (aF28 : PySem.W.nsIn K mainGlobals "call_end" = some (some (.ref f28)))
    (lF28 : K.lookup f28 = some ⟨ocF28, odF28, .func (PySem.W.fnOf "call_end" "call_end" (defArgs sEnd) (defBody sEnd) (defScope sEnd) .none kVF28 dcF28 pmF28 anF28 cdF28 ctF28), slF28⟩)
    (cF28 : PySem.W.codeIn K cdF28 "call_end" = true)
    (kF28 : PySem.W.keepIn K (.ref f28) = true)
    (aF29 : PySem.W.nsIn K mainGlobals "answer_change" = some (some (.ref f29)))
    (lF29 : K.lookup f29 = some ⟨ocF29, odF29, .func (PySem.W.fnOf "answer_change" "answer_change" (defArgs sChange) (defBody sChange) (defScope sChange) .none kVF29 dcF29 pmF29 anF29 cdF29 ctF29), slF29⟩)
    (cF29 : PySem.W.codeIn K cdF29 "answer_change" = true)
    (kF29 : PySem.W.keepIn K (.ref f29) = true)
    (aF30 : PySem.W.nsIn K mainGlobals "answer_question" = some (some (.ref f30)))
    (lF30 : K.lookup f30 = some ⟨ocF30, odF30, .func (PySem.W.fnOf "answer_question" "answer_question" (defArgs sQuestion) (defBody sQuestion) (defScope sQuestion) .none kVF30 dcF30 pmF30 anF30 cdF30 ctF30), slF30⟩)
    (cF30 : PySem.W.codeIn K cdF30 "answer_question" = true)
    (kF30 : PySem.W.keepIn K (.ref f30) = true)
    (aF31 : PySem.W.nsIn K mainGlobals "answer" = some (some (.ref f31)))
    (lF31 : K.lookup f31 = some ⟨ocF31, odF31, .func (PySem.W.fnOf "answer" "answer" (defArgs sAnswer) (defBody sAnswer) (defScope sAnswer) .none kVF31 dcF31 pmF31 anF31 cdF31 ctF31), slF31⟩)
    (cF31 : PySem.W.codeIn K cdF31 "answer" = true)
    (kF31 : PySem.W.keepIn K (.ref f31) = true)
    (aF32 : PySem.W.nsIn K mainGlobals "answers" = some (some (.ref f32)))
    (lF32 : K.lookup f32 = some ⟨ocF32, odF32, .func (PySem.W.fnOf "answers" "answers" (defArgs sAnswers) (defBody sAnswers) (defScope sAnswers) .none kVF32 dcF32 pmF32 anF32 cdF32 ctF32), slF32⟩)
    (cF32 : PySem.W.codeIn K cdF32 "answers" = true)
    (kF32 : PySem.W.keepIn K (.ref f32) = true)
    (aC : PySem.W.nsIn K mainGlobals "Graph" = some (some (.ref C)))
    (aM0 : PySem.W.findIn K (.ref C) "__init__" = some (some (.ref m0)))
    (iM0 : PySem.W.isFn K (.ref m0) = true)
    (lM0 : K.lookup m0 = some ⟨ocM0, odM0, .func (PySem.W.fnOf "__init__" "Graph.__init__" (defArgs sInit) (defBody sInit) (defScope sInit) .none kVM0 dcM0 pmM0 anM0 cdM0 ctM0), slM0⟩)
    (cM0 : PySem.W.codeIn K cdM0 "Graph.__init__" = true)
    (kM0 : PySem.W.keepIn K (.ref m0) = true)
    (aM1 : PySem.W.findIn K (.ref C) "is_there" = some (some (.ref m1)))
    (iM1 : PySem.W.isFn K (.ref m1) = true)
    (lM1 : K.lookup m1 = some ⟨ocM1, odM1, .func (PySem.W.fnOf "is_there" "Graph.is_there" (defArgs sThere) (defBody sThere) (defScope sThere) .none kVM1 dcM1 pmM1 anM1 cdM1 ctM1), slM1⟩)
    (cM1 : PySem.W.codeIn K cdM1 "Graph.is_there" = true)
    (kM1 : PySem.W.keepIn K (.ref m1) = true)
    (aM2 : PySem.W.findIn K (.ref C) "is_subject" = some (some (.ref m2)))
    (iM2 : PySem.W.isFn K (.ref m2) = true)
    (lM2 : K.lookup m2 = some ⟨ocM2, odM2, .func (PySem.W.fnOf "is_subject" "Graph.is_subject" (defArgs sSubj) (defBody sSubj) (defScope sSubj) .none kVM2 dcM2 pmM2 anM2 cdM2 ctM2), slM2⟩)
    (cM2 : PySem.W.codeIn K cdM2 "Graph.is_subject" = true)
    (kM2 : PySem.W.keepIn K (.ref m2) = true)
    (aM3 : PySem.W.findIn K (.ref C) "ones" = some (some (.ref m3)))
    (iM3 : PySem.W.isFn K (.ref m3) = true)
    (lM3 : K.lookup m3 = some ⟨ocM3, odM3, .func (PySem.W.fnOf "ones" "Graph.ones" (defArgs sOnes) (defBody sOnes) (defScope sOnes) .none kVM3 dcM3 pmM3 anM3 cdM3 ctM3), slM3⟩)
    (cM3 : PySem.W.codeIn K cdM3 "Graph.ones" = true)
    (kM3 : PySem.W.keepIn K (.ref m3) = true)
    (aM4 : PySem.W.findIn K (.ref C) "subjects" = some (some (.ref m4)))
    (iM4 : PySem.W.isFn K (.ref m4) = true)
    (lM4 : K.lookup m4 = some ⟨ocM4, odM4, .func (PySem.W.fnOf "subjects" "Graph.subjects" (defArgs sSubs) (defBody sSubs) (defScope sSubs) .none kVM4 dcM4 pmM4 anM4 cdM4 ctM4), slM4⟩)
    (cM4 : PySem.W.codeIn K cdM4 "Graph.subjects" = true)
    (kM4 : PySem.W.keepIn K (.ref m4) = true)
    (aM5 : PySem.W.findIn K (.ref C) "has" = some (some (.ref m5)))
    (iM5 : PySem.W.isFn K (.ref m5) = true)
    (lM5 : K.lookup m5 = some ⟨ocM5, odM5, .func (PySem.W.fnOf "has" "Graph.has" (defArgs sHas) (defBody sHas) (defScope sHas) .none kVM5 dcM5 pmM5 anM5 cdM5 ctM5), slM5⟩)
    (cM5 : PySem.W.codeIn K cdM5 "Graph.has" = true)
    (kM5 : PySem.W.keepIn K (.ref m5) = true)
    (aM6 : PySem.W.findIn K (.ref C) "add_one" = some (some (.ref m6)))
    (iM6 : PySem.W.isFn K (.ref m6) = true)
    (lM6 : K.lookup m6 = some ⟨ocM6, odM6, .func (PySem.W.fnOf "add_one" "Graph.add_one" (defArgs sAddOne) (defBody sAddOne) (defScope sAddOne) .none kVM6 dcM6 pmM6 anM6 cdM6 ctM6), slM6⟩)
    (cM6 : PySem.W.codeIn K cdM6 "Graph.add_one" = true)
    (kM6 : PySem.W.keepIn K (.ref m6) = true)
    (aM7 : PySem.W.findIn K (.ref C) "add_edge" = some (some (.ref m7)))
    (iM7 : PySem.W.isFn K (.ref m7) = true)
    (lM7 : K.lookup m7 = some ⟨ocM7, odM7, .func (PySem.W.fnOf "add_edge" "Graph.add_edge" (defArgs sAddEdge) (defBody sAddEdge) (defScope sAddEdge) .none kVM7 dcM7 pmM7 anM7 cdM7 ctM7), slM7⟩)
    (cM7 : PySem.W.codeIn K cdM7 "Graph.add_edge" = true)
    (kM7 : PySem.W.keepIn K (.ref m7) = true)
    (pg : PySem.W.plainGet K C Str.empty = true)
    (hd : PySem.W.hasDictIn K C = true)
    (po : PySem.W.plainOver K C = true)
    (sa : PySem.W.findIn K (.ref C) "__setattr__" = some (some (.builtin "object.__setattr__")))
    (mk : PySem.W.makesIn K C = true)
    (kc : PySem.W.keepIn K (.ref C) = true)
    (nK : PySem.W.findIn K (.ref C) "kinds" = some none)
    (nE : PySem.W.findIn K (.ref C) "edges" = some none)
    (vMOST_ONES : PySem.W.nsIn K mainGlobals "MOST_ONES" = some (some (.int (10) tMOST_ONES)))
    (vMOST_EDGES : PySem.W.nsIn K mainGlobals "MOST_EDGES" = some (some (.int (30) tMOST_EDGES)))
    (vHIGHEST_RIGHT : PySem.W.nsIn K mainGlobals "HIGHEST_RIGHT" = some (some (.int (3) tHIGHEST_RIGHT)))
    (vNOT_FIT : PySem.W.nsIn K mainGlobals "NOT_FIT" = some (some (.int (-1) tNOT_FIT)))
    (vNO_EDGE : PySem.W.nsIn K mainGlobals "NO_EDGE" = some (some (.int (-3) tNO_EDGE)))
    (vFULL : PySem.W.nsIn K mainGlobals "FULL" = some (some (.int (-5) tFULL)))
    (vMAY_NOT : PySem.W.nsIn K mainGlobals "MAY_NOT" = some (some (.int (-6) tMAY_NOT)))
    (vTOO_MANY : PySem.W.nsIn K mainGlobals "TOO_MANY" = some (some (.int (-7) tTOO_MANY)))
    (vTO_TAKE : PySem.W.nsIn K mainGlobals "TO_TAKE" = some (some (.int (0) tTO_TAKE)))
    (vTO_GIVE : PySem.W.nsIn K mainGlobals "TO_GIVE" = some (some (.int (1) tTO_GIVE)))
    (vUP : PySem.W.nsIn K mainGlobals "UP" = some (some (.int (0) tUP)))
    (vDOWN : PySem.W.nsIn K mainGlobals "DOWN" = some (some (.int (1) tDOWN)))
    (vSTART : PySem.W.nsIn K mainGlobals "START" = some (some (.int (2) tSTART)))
    (vGOAL : PySem.W.nsIn K mainGlobals "GOAL" = some (some (.int (3) tGOAL)))
    (vMOST_CUT : PySem.W.nsIn K mainGlobals "MOST_CUT" = some (some (.int (3) tMOST_CUT)))
    (vNEW : PySem.W.nsIn K mainGlobals "NEW" = some (some (.int (0) tNEW)))
    (vPUT : PySem.W.nsIn K mainGlobals "PUT" = some (some (.int (1) tPUT)))
    (vCUT : PySem.W.nsIn K mainGlobals "CUT" = some (some (.int (2) tCUT)))
    (vTAKE : PySem.W.nsIn K mainGlobals "TAKE" = some (some (.int (3) tTAKE)))
    (vGIVE : PySem.W.nsIn K mainGlobals "GIVE" = some (some (.int (4) tGIVE)))
    (vMAKE : PySem.W.nsIn K mainGlobals "MAKE" = some (some (.int (5) tMAKE)))
    (vCAN : PySem.W.nsIn K mainGlobals "CAN" = some (some (.int (6) tCAN)))
    (vSTEAL : PySem.W.nsIn K mainGlobals "STEAL" = some (some (.int (7) tSTEAL)))
    (vWHO : PySem.W.nsIn K mainGlobals "WHO" = some (some (.int (8) tWHO)))
    (vWHAT : PySem.W.nsIn K mainGlobals "WHAT" = some (some (.int (9) tWHAT)))
    (vNEAR : PySem.W.nsIn K mainGlobals "NEAR" = some (some (.int (10) tNEAR)))
    (vFEWEST : PySem.W.nsIn K mainGlobals "FEWEST" = some (some (.int (11) tFEWEST)))
    (zlen : PySem.W.nsIn K mainGlobals "len" = some none)
    (zany : PySem.W.nsIn K mainGlobals "any" = some none)
    (zenumerate : PySem.W.nsIn K mainGlobals "enumerate" = some none)
    (zlist : PySem.W.nsIn K mainGlobals "list" = some none)
    (zrange : PySem.W.nsIn K mainGlobals "range" = some none)
    (zsorted : PySem.W.nsIn K mainGlobals "sorted" = some none)
    (aSZ : PySem.W.nsIn K mainGlobals "SIZES" = some (some (.ref sz)))
    (lSZ : K.lookup sz = some ⟨.type "tuple", dSZ, .seq iSZ nSZ, sSZ⟩)
    (tSZ : numsOf iSZ.toList = some szl)
    (eSZ : szl = sizesL) :
    ∃ fd : FuncData, (∀ (s : Shared) (us : List Value), us.length = (["calls"] : List Str).length → BindsTo s fd ⟨us, []⟩ ((["calls"] : List Str).zip us)) ∧ ∀ base : Heap, K.In base → base.Ns mainGlobals mg → FnOk P w K mg base CX0 10 fa fd ["calls"] (spAnswers K) := by
  have e := hfa.symm.trans (PySem.W.mg_of X G aF32)
  cases e
  have T : Txt K mg C := ⟨⟨pg, hd, po, sa⟩, nK, nE, PySem.W.mg_of X G aC⟩
  have c : Cst mg := ⟨⟨_, PySem.W.mg_of X G vMOST_ONES⟩, ⟨_, PySem.W.mg_of X G vMOST_EDGES⟩, ⟨_, PySem.W.mg_of X G vHIGHEST_RIGHT⟩, ⟨_, PySem.W.mg_of X G vNOT_FIT⟩, ⟨_, PySem.W.mg_of X G vNO_EDGE⟩, ⟨_, PySem.W.mg_of X G vFULL⟩, ⟨_, PySem.W.mg_of X G vMAY_NOT⟩, ⟨_, PySem.W.mg_of X G vTO_TAKE⟩, ⟨_, PySem.W.mg_of X G vTO_GIVE⟩, PySem.W.mg_none_of X G zlen⟩
  have cr : CstR mg := ⟨⟨_, PySem.W.mg_of X G vTO_TAKE⟩, ⟨_, PySem.W.mg_of X G vTO_GIVE⟩, ⟨_, PySem.W.mg_of X G vUP⟩, ⟨_, PySem.W.mg_of X G vDOWN⟩, ⟨_, PySem.W.mg_of X G vSTART⟩, ⟨_, PySem.W.mg_of X G vGOAL⟩⟩
  have cn : CstN mg := ⟨⟨_, PySem.W.mg_of X G vNEW⟩, ⟨_, PySem.W.mg_of X G vPUT⟩, ⟨_, PySem.W.mg_of X G vCUT⟩, ⟨_, PySem.W.mg_of X G vTAKE⟩, ⟨_, PySem.W.mg_of X G vGIVE⟩, ⟨_, PySem.W.mg_of X G vMAKE⟩, ⟨_, PySem.W.mg_of X G vCAN⟩, ⟨_, PySem.W.mg_of X G vSTEAL⟩, ⟨_, PySem.W.mg_of X G vWHO⟩, ⟨_, PySem.W.mg_of X G vWHAT⟩, ⟨_, PySem.W.mg_of X G vNEAR⟩, ⟨_, PySem.W.mg_of X G vFEWEST⟩⟩
  have cq : CstQ mg := ⟨⟨_, PySem.W.mg_of X G vTOO_MANY⟩, PySem.W.mg_none_of X G zlist, PySem.W.mg_none_of X G zrange⟩
  have ms := PySem.W.mg_none_of X G zsorted
  subst eSZ
  have ml := PySem.W.mg_none_of X G zlen
  have ma := PySem.W.mg_none_of X G zany
  have me := PySem.W.mg_none_of X G zenumerate
  have F0 := fun_mk (st := sHolders) lF0 cF0 kF0
  have bF0 := F0.binds (ps := ["y", "r", "edges"]) fun _ _ _ _ _ _ us hl => match us, hl with | [_, _, _], _ => rfl
  have gF0 := PySem.W.mg_of X G aF0
  have F1 := fun_mk (st := sAddLink) lF1 cF1 kF1
  have bF1 := F1.binds (ps := ["links", "before", "behind", "edge"]) fun _ _ _ _ _ _ us hl => match us, hl with | [_, _, _, _], _ => rfl
  have gF1 := PySem.W.mg_of X G aF1
  have F2 := fun_mk (st := sNearLinks) lF2 cF2 kF2
  have bF2 := F2.binds (ps := ["subjects", "edges"]) fun _ _ _ _ _ _ us hl => match us, hl with | [_, _], _ => rfl
  have gF2 := PySem.W.mg_of X G aF2
  have F3 := fun_mk (st := sAllLinks) lF3 cF3 kF3
  have bF3 := F3.binds (ps := ["r", "x", "y", "subjects", "edges"]) fun _ _ _ _ _ _ us hl => match us, hl with | [_, _, _, _, _], _ => rfl
  have gF3 := PySem.W.mg_of X G aF3
  have F4 := fun_mk (st := sWalk) lF4 cF4 kF4
  have bF4 := F4.binds (ps := ["start", "links", "gone"]) fun _ _ _ _ _ _ us hl => match us, hl with | [_, _, _], _ => rfl
  have gF4 := PySem.W.mg_of X G aF4
  have F5 := fun_mk (st := sCanBe) lF5 cF5 kF5
  have bF5 := F5.binds (ps := ["r", "x", "y", "subjects", "edges"]) fun _ _ _ _ _ _ us hl => match us, hl with | [_, _, _, _, _], _ => rfl
  have gF5 := PySem.W.mg_of X G aF5
  have F6 := fun_mk (st := sNearOnes) lF6 cF6 kF6
  have bF6 := F6.binds (ps := ["x", "subjects", "edges"]) fun _ _ _ _ _ _ us hl => match us, hl with | [_, _, _], _ => rfl
  have gF6 := PySem.W.mg_of X G aF6
  have F7 := fun_mk (st := sTakers) lF7 cF7 kF7
  have bF7 := F7.binds (ps := ["ones", "edges"]) fun _ _ _ _ _ _ us hl => match us, hl with | [_, _], _ => rfl
  have gF7 := PySem.W.mg_of X G aF7
  have F8 := fun_mk (st := sBringers) lF8 cF8 kF8
  have bF8 := F8.binds (ps := ["x", "subjects", "edges"]) fun _ _ _ _ _ _ us hl => match us, hl with | [_, _, _], _ => rfl
  have gF8 := PySem.W.mg_of X G aF8
  have F9 := fun_mk (st := sCanSteal) lF9 cF9 kF9
  have bF9 := F9.binds (ps := ["r", "x", "y", "subjects", "edges"]) fun _ _ _ _ _ _ us hl => match us, hl with | [_, _, _, _, _], _ => rfl
  have gF9 := PySem.W.mg_of X G aF9
  have F10 := fun_mk (st := sFirstRow) lF10 cF10 kF10
  have bF10 := F10.binds (ps := ["count", "start", "goal", "links", "gone", "edges"]) fun _ _ _ _ _ _ us hl => match us, hl with | [_, _, _, _, _, _], _ => rfl
  have gF10 := PySem.W.mg_of X G aF10
  have F11 := fun_mk (st := sFewestE) lF11 cF11 kF11
  have bF11 := F11.binds (ps := ["r", "x", "y", "subjects", "edges"]) fun _ _ _ _ _ _ us hl => match us, hl with | [_, _, _, _, _], _ => rfl
  have gF11 := PySem.W.mg_of X G aF11
  have F12 := fun_mk (st := sFits) lF12 cF12 kF12
  have bF12 := F12.binds (ps := ["graph", "x", "y", "r"]) fun _ _ _ _ _ _ us hl => match us, hl with | [_, _, _, _], _ => rfl
  have gF12 := PySem.W.mg_of X G aF12
  have F13 := fun_mk (st := sDiff) lF13 cF13 kF13
  have bF13 := F13.binds (ps := ["x", "y", "z"]) fun _ _ _ _ _ _ us hl => match us, hl with | [_, _, _], _ => rfl
  have gF13 := PySem.W.mg_of X G aF13
  have F14 := fun_mk (st := sRights) lF14 cF14 kF14
  have bF14 := F14.binds (ps := ["rights"]) fun _ _ _ _ _ _ us hl => match us, hl with | [_], _ => rfl
  have gF14 := PySem.W.mg_of X G aF14
  have F15 := fun_mk (st := sNew) lF15 cF15 kF15
  have bF15 := F15.binds (ps := ["graph", "s"]) fun _ _ _ _ _ _ us hl => match us, hl with | [_, _], _ => rfl
  have gF15 := PySem.W.mg_of X G aF15
  have F16 := fun_mk (st := sPut) lF16 cF16 kF16
  have bF16 := F16.binds (ps := ["graph", "x", "y", "r"]) fun _ _ _ _ _ _ us hl => match us, hl with | [_, _, _, _], _ => rfl
  have gF16 := PySem.W.mg_of X G aF16
  have F17 := fun_mk (st := sCut) lF17 cF17 kF17
  have bF17 := F17.binds (ps := ["graph", "x", "y", "r"]) fun _ _ _ _ _ _ us hl => match us, hl with | [_, _, _, _], _ => rfl
  have gF17 := PySem.W.mg_of X G aF17
  have F18 := fun_mk (st := sTake) lF18 cF18 kF18
  have bF18 := F18.binds (ps := ["graph", "x", "y", "z", "r"]) fun _ _ _ _ _ _ us hl => match us, hl with | [_, _, _, _, _], _ => rfl
  have gF18 := PySem.W.mg_of X G aF18
  have F19 := fun_mk (st := sGive) lF19 cF19 kF19
  have bF19 := F19.binds (ps := ["graph", "x", "y", "z", "r"]) fun _ _ _ _ _ _ us hl => match us, hl with | [_, _, _, _, _], _ => rfl
  have gF19 := PySem.W.mg_of X G aF19
  have F20 := fun_mk (st := sMake) lF20 cF20 kF20
  have bF20 := F20.binds (ps := ["graph", "x", "s", "rights"]) fun _ _ _ _ _ _ us hl => match us, hl with | [_, _, _, _], _ => rfl
  have gF20 := PySem.W.mg_of X G aF20
  have F21 := fun_mk (st := sCan) lF21 cF21 kF21
  have bF21 := F21.binds (ps := ["graph", "r", "x", "y"]) fun _ _ _ _ _ _ us hl => match us, hl with | [_, _, _, _], _ => rfl
  have gF21 := PySem.W.mg_of X G aF21
  have F22 := fun_mk (st := sSteal) lF22 cF22 kF22
  have bF22 := F22.binds (ps := ["graph", "r", "x", "y"]) fun _ _ _ _ _ _ us hl => match us, hl with | [_, _, _, _], _ => rfl
  have gF22 := PySem.W.mg_of X G aF22
  have F23 := fun_mk (st := sCounted) lF23 cF23 kF23
  have bF23 := F23.binds (ps := ["rows"]) fun _ _ _ _ _ _ us hl => match us, hl with | [_], _ => rfl
  have gF23 := PySem.W.mg_of X G aF23
  have F24 := fun_mk (st := sWho) lF24 cF24 kF24
  have bF24 := F24.binds (ps := ["graph", "r", "y"]) fun _ _ _ _ _ _ us hl => match us, hl with | [_, _, _], _ => rfl
  have gF24 := PySem.W.mg_of X G aF24
  have F25 := fun_mk (st := sWhat) lF25 cF25 kF25
  have bF25 := F25.binds (ps := ["graph", "x"]) fun _ _ _ _ _ _ us hl => match us, hl with | [_, _], _ => rfl
  have gF25 := PySem.W.mg_of X G aF25
  have F26 := fun_mk (st := sNear) lF26 cF26 kF26
  have bF26 := F26.binds (ps := ["graph", "x"]) fun _ _ _ _ _ _ us hl => match us, hl with | [_, _], _ => rfl
  have gF26 := PySem.W.mg_of X G aF26
  have F27 := fun_mk (st := sFewest) lF27 cF27 kF27
  have bF27 := F27.binds (ps := ["graph", "r", "x", "y"]) fun _ _ _ _ _ _ us hl => match us, hl with | [_, _, _, _], _ => rfl
  have gF27 := PySem.W.mg_of X G aF27
  have F28 := fun_mk (st := sEnd) lF28 cF28 kF28
  have bF28 := F28.binds (ps := ["calls", "start"]) fun _ _ _ _ _ _ us hl => match us, hl with | [_, _], _ => rfl
  have gF28 := PySem.W.mg_of X G aF28
  have F29 := fun_mk (st := sChange) lF29 cF29 kF29
  have bF29 := F29.binds (ps := ["graph", "call"]) fun _ _ _ _ _ _ us hl => match us, hl with | [_, _], _ => rfl
  have gF29 := PySem.W.mg_of X G aF29
  have F30 := fun_mk (st := sQuestion) lF30 cF30 kF30
  have bF30 := F30.binds (ps := ["graph", "call"]) fun _ _ _ _ _ _ us hl => match us, hl with | [_, _], _ => rfl
  have gF30 := PySem.W.mg_of X G aF30
  have F31 := fun_mk (st := sAnswer) lF31 cF31 kF31
  have bF31 := F31.binds (ps := ["graph", "call"]) fun _ _ _ _ _ _ us hl => match us, hl with | [_, _], _ => rfl
  have gF31 := PySem.W.mg_of X G aF31
  have F32 := fun_mk (st := sAnswers) lF32 cF32 kF32
  have bF32 := F32.binds (ps := ["calls"]) fun _ _ _ _ _ _ us hl => match us, hl with | [_], _ => rfl
  have gF32 := PySem.W.mg_of X G aF32
  have M0 := fun_mk (st := sInit) lM0 cM0 kM0
  have bM0 := M0.binds (ps := ["self"]) fun _ _ _ _ _ _ us hl => match us, hl with | [_], _ => rfl
  have M1 := fun_mk (st := sThere) lM1 cM1 kM1
  have bM1 := M1.binds (ps := ["self", "x"]) fun _ _ _ _ _ _ us hl => match us, hl with | [_, _], _ => rfl
  have dM1 : Meth K C "is_there" m1 := ⟨aM1, iM1, kM1⟩
  have M2 := fun_mk (st := sSubj) lM2 cM2 kM2
  have bM2 := M2.binds (ps := ["self", "x"]) fun _ _ _ _ _ _ us hl => match us, hl with | [_, _], _ => rfl
  have dM2 : Meth K C "is_subject" m2 := ⟨aM2, iM2, kM2⟩
  have M3 := fun_mk (st := sOnes) lM3 cM3 kM3
  have bM3 := M3.binds (ps := ["self"]) fun _ _ _ _ _ _ us hl => match us, hl with | [_], _ => rfl
  have dM3 : Meth K C "ones" m3 := ⟨aM3, iM3, kM3⟩
  have M4 := fun_mk (st := sSubs) lM4 cM4 kM4
  have bM4 := M4.binds (ps := ["self"]) fun _ _ _ _ _ _ us hl => match us, hl with | [_], _ => rfl
  have dM4 : Meth K C "subjects" m4 := ⟨aM4, iM4, kM4⟩
  have M5 := fun_mk (st := sHas) lM5 cM5 kM5
  have bM5 := M5.binds (ps := ["self", "x", "y", "r"]) fun _ _ _ _ _ _ us hl => match us, hl with | [_, _, _, _], _ => rfl
  have dM5 : Meth K C "has" m5 := ⟨aM5, iM5, kM5⟩
  have M6 := fun_mk (st := sAddOne) lM6 cM6 kM6
  have bM6 := M6.binds (ps := ["self", "s"]) fun _ _ _ _ _ _ us hl => match us, hl with | [_, _], _ => rfl
  have dM6 : Meth K C "add_one" m6 := ⟨aM6, iM6, kM6⟩
  have M7 := fun_mk (st := sAddEdge) lM7 cM7 kM7
  have bM7 := M7.binds (ps := ["self", "x", "y", "r"]) fun _ _ _ _ _ _ us hl => match us, hl with | [_, _, _, _], _ => rfl
  have dM7 : Meth K C "add_edge" m7 := ⟨aM7, iM7, kM7⟩
  refine ⟨PySem.W.fnOf "answers" "answers" (defArgs sAnswers) (defBody sAnswers) (defScope sAnswers) .none kVF32 dcF32 pmF32 anF32 cdF32 ctF32, fun s us hu => match us, hu with | [_], _ => .of_eq rfl, fun base _ _ => ?_⟩
  have Gthere := ok_there (P := P) (w := w) (base := base) (k := 0) M1 T ml
  have Gsubj := ok_subj M2 T dM1 bM1 Gthere
  have Gsubs := ok_subs (P := P) (w := w) (base := base) (k := 0) M4 T me
  have Ghas := ok_has (P := P) (w := w) (mg := mg) (base := base) (k := 0) M5 T
  have Gone := ok_addone (P := P) (w := w) (base := base) (k := 0) M6 T ml
  have Gedge := ok_addedge M7 T dM5 bM5 Ghas ml (PySem.W.mg_of X G vMOST_EDGES) (PySem.W.mg_of X G vFULL)
  have Gones := ok_ones (P := P) (w := w) (base := base) (k := 0) M3 T ml cq
  have GnearL := ok_nearL (P := P) (w := w) (base := base) F2 F1 bF1 gF1 cr
  have GallL := ok_allL (P := P) (w := w) (base := base) F3 F2 bF2 gF2 F1 bF1 gF1 F0 bF0 gF0 cr
  have Gcb := ok_canbe F5 F3 bF3 gF3 GallL F4 bF4 gF4 ml cr
  have GnearO := ok_nearO F6 F2 bF2 gF2 GnearL F4 bF4 gF4 ml cr
  have Gtakers := ok_takers (P := P) (w := w) (base := base) F7 F0 bF0 gF0 ml cq.list cr
  have Gbr := ok_bringers F8 F0 bF0 gF0 F7 bF7 gF7 Gtakers cr
  have Gst0 := ok_steal0 F9 F8 bF8 gF8 Gbr F0 bF0 gF0 F5 bF5 gF5 Gcb ma cr
  have Gfew := ok_few F11 F3 bF3 gF3 GallL F10 bF10 gF10 F4 bF4 gF4 ml ms cq.range ⟨_, PySem.W.mg_of X G vMOST_CUT⟩ cr
  have Gfits := ok_fits F12 T c dM1 bM1 Gthere
  have Gnew := ok_new F15 T c dM6 bM6 Gone
  have Gput := ok_put F16 T c F12 bF12 gF12 Gfits dM7 bM7 Gedge
  have Gcut := ok_cut F17 T c F12 bF12 gF12 Gfits dM5 bM5 Ghas
  have Gtake := ok_take F18 T c dM2 bM2 Gsubj dM5 bM5 Ghas F13 bF13 gF13 dM7 bM7 Gedge
  have Ggive := ok_give F19 T c dM2 bM2 Gsubj dM5 bM5 Ghas F13 bF13 gF13 dM7 bM7 Gedge
  have Gmake := ok_make F20 T c F14 bF14 gF14 dM2 bM2 Gsubj dM6 bM6 Gone dM7 bM7 Gedge
  have Gcan := ok_can F21 T c F12 bF12 gF12 Gfits F5 bF5 gF5 Gcb dM4 bM4 Gsubs
  have Gend := ok_end (P := P) (w := w) (base := base) (k := 0) F28 (PySem.W.mg_of X G aSZ) (tup_sq lSZ tSZ (by decide)) ⟨_, PySem.W.mg_of X G vMAKE⟩
  have Gsteal := ok_steal F22 T c F12 bF12 gF12 Gfits F9 bF9 gF9 Gst0 dM4 bM4 Gsubs
  have Gcounted := ok_counted (P := P) (w := w) (base := base) (k := 0) F23 ml
  have Gwho := ok_who F24 T c dM1 bM1 Gthere F5 bF5 gF5 Gcb dM4 bM4 Gsubs dM3 bM3 Gones
  have Gwhat := ok_what F25 T c cq dM1 bM1 Gthere F5 bF5 gF5 Gcb dM4 bM4 Gsubs dM3 bM3 Gones F23 bF23 gF23
  have Gnear := ok_near F26 T c dM2 bM2 Gsubj F6 bF6 gF6 GnearO dM4 bM4 Gsubs
  have Gfewest := ok_fewest F27 T c cq F12 bF12 gF12 Gfits F11 bF11 gF11 Gfew F23 bF23 gF23 dM4 bM4 Gsubs
  have Gch := ok_change F29 cn ⟨_, _, F15, bF15, gF15, Gnew⟩ ⟨_, _, F16, bF16, gF16, Gput⟩ ⟨_, _, F17, bF17, gF17, Gcut⟩ ⟨_, _, F18, bF18, gF18, Gtake⟩ ⟨_, _, F19, bF19, gF19, Ggive⟩ ⟨_, _, F20, bF20, gF20, Gmake⟩
  have Gqu := ok_question F30 T cn ⟨_, _, F21, bF21, gF21, Gcan⟩ ⟨_, _, F22, bF22, gF22, Gsteal⟩ ⟨_, _, F24, bF24, gF24, Gwho⟩ ⟨_, _, F25, bF25, gF25, Gwhat⟩ ⟨_, _, F26, bF26, gF26, Gnear⟩ ⟨_, _, F27, bF27, gF27, Gfewest⟩ ⟨_, _, F23, bF23, gF23, Gcounted⟩
  have Gans := ok_answer F31 cn ⟨_, _, F29, bF29, gF29, Gch⟩ ⟨_, _, F30, bF30, gF30, Gqu⟩
  have Ginit := ok_init (P := P) (w := w) (base := base) (k := 0) M0 T
  exact ok_answers (j := 8) (by decide) F32 T ml ⟨mk, aM0, iM0, kc⟩ bM0 Ginit F28 bF28 gF28 Gend F31 bF31 gF31 Gans
end Tg
open PySem PySem.W PyProof.Rows
set_option maxRecDepth 100000 in
set_option maxHeartbeats 0 in
theorem PySem.Challenge.cw_takegive_s01_answers_holds : PySem.Challenge.rw_takegive_s01_answers.Holds := by
  w_on; k_headS; (case hw => exact ⟨[.list [.int 12]], by decide +kernel, by decide +kernel⟩)
  k_fillS
  refine L2.walk_specK (r := PySem.Challenge.rw_takegive_s01_answers) (k := 10) (CX := L2.CX0) (ps := ["calls"]) (sp := Tg.spAnswers) (by decide +kernel) rfl rfl ⟨rfl, by decide, by decide⟩ (fun w h Y => PySem.W.kIn_of Y) ?F ?S (fun _ _ _ _ z => z)
  case F =>
    intro w mg fa h Y KX G hmg
    refine' Tg.all_mk KX G hmg ?aF0 ?lF0 ?cF0 ?kF0 ?aF1 ?lF1 ?cF1 ?kF1 ?aF2 ?lF2 ?cF2 ?kF2 ?aF3 ?lF3 ?cF3 ?kF3 ?aF4 ?lF4 ?cF4 ?kF4 ?aF5 ?lF5 ?cF5 ?kF5 ?aF6 ?lF6 ?cF6 ?kF6 ?aF7 ?lF7 ?cF7 ?kF7 ?aF8 ?lF8 ?cF8 ?kF8 ?aF9 ?lF9 ?cF9 ?kF9 ?aF10 ?lF10 ?cF10 ?kF10 ?aF11 ?lF11 ?cF11 ?kF11 ?aF12 ?lF12 ?cF12 ?kF12 ?aF13 ?lF13 ?cF13 ?kF13 ?aF14 ?lF14 ?cF14 ?kF14 ?aF15 ?lF15 ?cF15 ?kF15 ?aF16 ?lF16 ?cF16 ?kF16 ?aF17 ?lF17 ?cF17 ?kF17 ?aF18 ?lF18 ?cF18 ?kF18 ?aF19 ?lF19 ?cF19 ?kF19 ?aF20 ?lF20 ?cF20 ?kF20 ?aF21 ?lF21 ?cF21 ?kF21 ?aF22 ?lF22 ?cF22 ?kF22 ?aF23 ?lF23 ?cF23 ?kF23 ?aF24 ?lF24 ?cF24 ?kF24 ?aF25 ?lF25 ?cF25 ?kF25 ?aF26 ?lF26 ?cF26 ?kF26 ?aF27 ?lF27 ?cF27 ?kF27 ?aF28 ?lF28 ?cF28 ?kF28 ?aF29 ?lF29 ?cF29 ?kF29 ?aF30 ?lF30 ?cF30 ?kF30 ?aF31 ?lF31 ?cF31 ?kF31 ?aF32 ?lF32 ?cF32 ?kF32 ?aC ?aM0 ?iM0 ?lM0 ?cM0 ?kM0 ?aM1 ?iM1 ?lM1 ?cM1 ?kM1 ?aM2 ?iM2 ?lM2 ?cM2 ?kM2 ?aM3 ?iM3 ?lM3 ?cM3 ?kM3 ?aM4 ?iM4 ?lM4 ?cM4 ?kM4 ?aM5 ?iM5 ?lM5 ?cM5 ?kM5 ?aM6 ?iM6 ?lM6 ?cM6 ?kM6 ?aM7 ?iM7 ?lM7 ?cM7 ?kM7 ?pg ?hd ?po ?sa ?mk ?kc ?nK ?nE ?vMOST_ONES ?vMOST_EDGES ?vHIGHEST_RIGHT ?vNOT_FIT ?vNO_EDGE ?vFULL ?vMAY_NOT ?vTOO_MANY ?vTO_TAKE ?vTO_GIVE ?vUP ?vDOWN ?vSTART ?vGOAL ?vMOST_CUT ?vNEW ?vPUT ?vCUT ?vTAKE ?vGIVE ?vMAKE ?vCAN ?vSTEAL ?vWHO ?vWHAT ?vNEAR ?vFEWEST ?zlen ?zany ?zenumerate ?zlist ?zrange ?zsorted ?aSZ ?lSZ ?tSZ ?eSZ
    (case aF0 => k_is)
    (case lF0 => k_is)
    (case cF0 => k_is)
    (case kF0 => k_is)
    (case aF1 => k_is)
    (case lF1 => k_is)
    (case cF1 => k_is)
    (case kF1 => k_is)
    (case aF2 => k_is)
    (case lF2 => k_is)
    (case cF2 => k_is)
    (case kF2 => k_is)
    (case aF3 => k_is)
    (case lF3 => k_is)
    (case cF3 => k_is)
    (case kF3 => k_is)
    (case aF4 => k_is)
    (case lF4 => k_is)
    (case cF4 => k_is)
    (case kF4 => k_is)
    (case aF5 => k_is)
    (case lF5 => k_is)
    (case cF5 => k_is)
    (case kF5 => k_is)
    (case aF6 => k_is)
    (case lF6 => k_is)
    (case cF6 => k_is)
    (case kF6 => k_is)
    (case aF7 => k_is)
    (case lF7 => k_is)
    (case cF7 => k_is)
    (case kF7 => k_is)
    (case aF8 => k_is)
    (case lF8 => k_is)
    (case cF8 => k_is)
    (case kF8 => k_is)
    (case aF9 => k_is)
    (case lF9 => k_is)
    (case cF9 => k_is)
    (case kF9 => k_is)
    (case aF10 => k_is)
    (case lF10 => k_is)
    (case cF10 => k_is)
    (case kF10 => k_is)
    (case aF11 => k_is)
    (case lF11 => k_is)
    (case cF11 => k_is)
    (case kF11 => k_is)
    (case aF12 => k_is)
    (case lF12 => k_is)
    (case cF12 => k_is)
    (case kF12 => k_is)
    (case aF13 => k_is)
    (case lF13 => k_is)
    (case cF13 => k_is)
    (case kF13 => k_is)
    (case aF14 => k_is)
    (case lF14 => k_is)
    (case cF14 => k_is)
    (case kF14 => k_is)
    (case aF15 => k_is)
    (case lF15 => k_is)
    (case cF15 => k_is)
    (case kF15 => k_is)
    (case aF16 => k_is)
    (case lF16 => k_is)
    (case cF16 => k_is)
    (case kF16 => k_is)
    (case aF17 => k_is)
    (case lF17 => k_is)
    (case cF17 => k_is)
    (case kF17 => k_is)
    (case aF18 => k_is)
    (case lF18 => k_is)
    (case cF18 => k_is)
    (case kF18 => k_is)
    (case aF19 => k_is)
    (case lF19 => k_is)
    (case cF19 => k_is)
    (case kF19 => k_is)
    (case aF20 => k_is)
    (case lF20 => k_is)
    (case cF20 => k_is)
    (case kF20 => k_is)
    (case aF21 => k_is)
    (case lF21 => k_is)
    (case cF21 => k_is)
    (case kF21 => k_is)
    (case aF22 => k_is)
    (case lF22 => k_is)
    (case cF22 => k_is)
    (case kF22 => k_is)
    (case aF23 => k_is)
    (case lF23 => k_is)
    (case cF23 => k_is)
    (case kF23 => k_is)
    (case aF24 => k_is)
    (case lF24 => k_is)
    (case cF24 => k_is)
    (case kF24 => k_is)
    (case aF25 => k_is)
    (case lF25 => k_is)
    (case cF25 => k_is)
    (case kF25 => k_is)
    (case aF26 => k_is)
    (case lF26 => k_is)
    (case cF26 => k_is)
    (case kF26 => k_is)
    (case aF27 => k_is)
    (case lF27 => k_is)
    (case cF27 => k_is)
    (case kF27 => k_is)
    (case aF28 => k_is)
    (case lF28 => k_is)
    (case cF28 => k_is)
    (case kF28 => k_is)
    (case aF29 => k_is)
    (case lF29 => k_is)
    (case cF29 => k_is)
    (case kF29 => k_is)
    (case aF30 => k_is)
    (case lF30 => k_is)
    (case cF30 => k_is)
    (case kF30 => k_is)
    (case aF31 => k_is)
    (case lF31 => k_is)
    (case cF31 => k_is)
    (case kF31 => k_is)
    (case aF32 => k_is)
    (case lF32 => k_is)
    (case cF32 => k_is)
    (case kF32 => k_is)
    (case aC => k_is)
    (case aM0 => k_is)
    (case iM0 => k_is)
    (case lM0 => k_is)
    (case cM0 => k_is)
    (case kM0 => k_is)
    (case aM1 => k_is)
    (case iM1 => k_is)
    (case lM1 => k_is)
    (case cM1 => k_is)
    (case kM1 => k_is)
    (case aM2 => k_is)
    (case iM2 => k_is)
    (case lM2 => k_is)
    (case cM2 => k_is)
    (case kM2 => k_is)
    (case aM3 => k_is)
    (case iM3 => k_is)
    (case lM3 => k_is)
    (case cM3 => k_is)
    (case kM3 => k_is)
    (case aM4 => k_is)
    (case iM4 => k_is)
    (case lM4 => k_is)
    (case cM4 => k_is)
    (case kM4 => k_is)
    (case aM5 => k_is)
    (case iM5 => k_is)
    (case lM5 => k_is)
    (case cM5 => k_is)
    (case kM5 => k_is)
    (case aM6 => k_is)
    (case iM6 => k_is)
    (case lM6 => k_is)
    (case cM6 => k_is)
    (case kM6 => k_is)
    (case aM7 => k_is)
    (case iM7 => k_is)
    (case lM7 => k_is)
    (case cM7 => k_is)
    (case kM7 => k_is)
    (case pg => k_is)
    (case hd => k_is)
    (case po => k_is)
    (case sa => k_is)
    (case mk => k_is)
    (case kc => k_is)
    (case nK => k_is)
    (case nE => k_is)
    (case vMOST_ONES => k_is)
    (case vMOST_EDGES => k_is)
    (case vHIGHEST_RIGHT => k_is)
    (case vNOT_FIT => k_is)
    (case vNO_EDGE => k_is)
    (case vFULL => k_is)
    (case vMAY_NOT => k_is)
    (case vTOO_MANY => k_is)
    (case vTO_TAKE => k_is)
    (case vTO_GIVE => k_is)
    (case vUP => k_is)
    (case vDOWN => k_is)
    (case vSTART => k_is)
    (case vGOAL => k_is)
    (case vMOST_CUT => k_is)
    (case vNEW => k_is)
    (case vPUT => k_is)
    (case vCUT => k_is)
    (case vTAKE => k_is)
    (case vGIVE => k_is)
    (case vMAKE => k_is)
    (case vCAN => k_is)
    (case vSTEAL => k_is)
    (case vWHO => k_is)
    (case vWHAT => k_is)
    (case vNEAR => k_is)
    (case vFEWEST => k_is)
    (case zlen => k_is)
    (case zany => k_is)
    (case zenumerate => k_is)
    (case zlist => k_is)
    (case zrange => k_is)
    (case zsorted => k_is)
    (case aSZ => k_is)
    (case lSZ => k_is)
    (case tSZ => rfl)
    (case eSZ => rfl)
  case S =>
    intro K H xs a hO hwi hask hx
    cases hx with
    | cons h1 h2 =>
      cases h2
      cases h1 with
      | lst hs ha =>
        have e := L2.ints_dw a.1 _ ha
        subst e
        have hask : PyWm02.answers_asked a.1 = true := hask
        obtain ⟨ch, e1, e2, _, e4, e5⟩ := Tg.asked_parse hask
        refine ⟨_, ch, rfl, ?_, e2, e4, fun H' p hp => ?_⟩
        · have e6 : a.1.map L2.V.int = Tg.nv (Tg.flatC ch) := by
            rw [e1]
            unfold Tg.cs Tg.nv Tg.flatC
            rw [List.map_map]
            rfl
          rw [← e6]
          exact hs
        · rw [← e5] at hp
          exact .lst (L2.SqL.of hp) (L2.dw_ints _)

