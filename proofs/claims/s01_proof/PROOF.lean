import PyProof.Rows.All
import Wide.All
import OpenK.AllK
import Wide.FinOn
import Open.SpecLaws
import KE.OsGo
import HandS.ForSpec
import HandS.ForMost
import HandS.Rev
import HandS.Zip
import KE.GoesEnum
import KE.GoesMore
import KE.GoesZip
import PySem.Challenge.RW_lookafter_s01_answers
set_option Elab.async false
set_option linter.all false
/-! The program's answers are those of the specification, at every list that is asked. First the mathematics over the specification alone, then how a tree lies in the heap, then each def by its promise, then the end. -/
namespace LA
open Ha03
/-! # The mathematics, 1: trees, frames, halting and starting -/
def nd (N : List Node) (i : Nat) : Node := N.getD (i - 1) noNode
def kids (N : List Node) (i : Nat) : List Nat := ((List.range N.length).map fun k => k + 1).filter fun k => (N.getD (k - 1) noNode).parent == i
theorem children_kids (s : St) (i : Nat) : children s i = kids s.nodes i := rfl
theorem node_nd (s : St) (i : Nat) : node s i = nd s.nodes i := rfl
structure WT (N : List Node) : Prop where
  len1 : 1 ≤ N.length
  len14 : N.length ≤ 14
  root : (nd N 1).parent = 0
  par : ∀ i, 2 ≤ i → i ≤ N.length → 1 ≤ (nd N i).parent ∧ (nd N i).parent < i
  most : ∀ i, (nd N i).most ≤ 5
  kind : ∀ i, (nd N i).kind ≤ 2
  rsup : (nd N 1).isSup = true
  sup : ∀ i, 2 ≤ i → i ≤ N.length → (nd N (nd N i).parent).isSup = true
theorem mem_kids {N : List Node} {i c : Nat} : c ∈ kids N i ↔ 1 ≤ c ∧ c ≤ N.length ∧ (nd N c).parent = i := by
  unfold kids nd
  rw [List.mem_filter, List.mem_map]
  constructor
  · rintro ⟨⟨k, hk, rfl⟩, h⟩
    rw [List.mem_range] at hk
    exact ⟨by omega, by omega, by simpa using h⟩
  · rintro ⟨h1, h2, h3⟩
    exact ⟨⟨c - 1, by rw [List.mem_range]; omega, by omega⟩, by simpa using h3⟩
theorem kid_lt {N : List Node} (W : WT N) {i c : Nat} (hi : 1 ≤ i) (h : c ∈ kids N i) : i < c ∧ c ≤ N.length := by
  obtain ⟨h1, h2, h3⟩ := mem_kids.mp h
  have c2 : 2 ≤ c := by
    rcases Nat.lt_or_ge c 2 with q | q
    · have e : c = 1 := by omega
      subst e
      rw [W.root] at h3
      omega
    · exact q
  have := (W.par c c2 h2).2
  omega
theorem kids_sorted (N : List Node) (i : Nat) : (kids N i).Pairwise (· < ·) := by
  unfold kids
  refine List.Pairwise.filter _ ?_
  rw [List.pairwise_map]
  exact List.Pairwise.imp (fun h => by omega) List.pairwise_lt_range
theorem kids_nodup (N : List Node) (i : Nat) : (kids N i).Nodup := List.Pairwise.imp (fun h => Nat.ne_of_lt h) (kids_sorted N i)
inductive Under (N : List Node) (c : Nat) : Nat → Prop where
  | refl : Under N c c
  | step {k : Nat} : Under N c (nd N k).parent → Under N c k
theorem Under.kid {N : List Node} {c i k : Nat} (h : Under N c i) (hk : k ∈ kids N i) : Under N c k := by
  refine .step ?_
  rw [(mem_kids.mp hk).2.2]
  exact h
theorem par_le {N : List Node} (W : WT N) {k : Nat} (hk : k ≤ N.length) : (nd N k).parent ≤ k := by
  rcases Nat.lt_or_ge k 2 with q | q
  · have e : nd N k = nd N 1 := by
      unfold nd
      rw [show k - 1 = 1 - 1 by omega]
    rw [e, W.root]
    omega
  · exact Nat.le_of_lt (W.par k q hk).2
theorem Under.le {N : List Node} (W : WT N) {c k : Nat} (h : Under N c k) : k ≤ N.length → c ≤ k := by
  induction h with
  | refl => exact fun _ => Nat.le_refl _
  | step h ih =>
    intro hk
    have := par_le W hk
    have := ih (by omega)
    omega
theorem not_under_lt {N : List Node} (W : WT N) {c k : Nat} (h : k < c) (hk : k ≤ N.length) : ¬ Under N c k := fun u => by
  have := u.le W hk
  omega
theorem not_under_sib {N : List Node} (W : WT N) {p c k : Nat} (hp : 1 ≤ p) (hc : c ∈ kids N p) (hk : k ∈ kids N p) (n : c ≠ k) : ¬ Under N c k := fun u => by
  cases u with
  | refl => exact n rfl
  | step u =>
    rw [(mem_kids.mp hk).2.2] at u
    have h1 := (kid_lt W hp hc).1
    have h2 := (kid_lt W hp hc).2
    have := u.le W (by omega)
    omega
/-! ## now, setNow -/
theorem nows_set (s : St) (i : Nat) (x : Now) : (setNow s i x).nows = s.nows.set (i - 1) x := rfl
theorem now_ne {s : St} {i k : Nat} {x : Now} (hi : 1 ≤ i) (hk : 1 ≤ k) (n : i ≠ k) : now (setNow s i x) k = now s k := by
  unfold now setNow
  simp only [List.getD_eq_getElem?_getD]
  rw [List.getElem?_set_ne (by omega)]
theorem now_same {s : St} {i : Nat} {x : Now} (h : i - 1 < s.nows.length) : now (setNow s i x) i = x := by
  unfold now setNow
  simp only [List.getD_eq_getElem?_getD]
  rw [List.getElem?_set_self h]
  rfl
theorem now_out {s : St} {i : Nat} (h : s.nows.length ≤ i - 1) : now s i = noNow := by
  unfold now
  rw [List.getD_eq_getElem?_getD, List.getElem?_eq_none h]
  rfl
theorem set_out {s : St} {i : Nat} {x : Now} (h : s.nows.length ≤ i - 1) : setNow s i x = s := by
  unfold setNow
  rw [List.set_eq_of_length_le h]
/-- a property of all nows behind a store -/
theorem all_set {s : St} {i : Nat} {x : Now} {A : Now → Prop} (h : ∀ k, A (now s k)) (hx : A x) : ∀ k, A (now (setNow s i x) k) := fun k => by
  by_cases e : i - 1 = k - 1
  · by_cases o : s.nows.length ≤ i - 1
    · rw [set_out o]
      exact h k
    · have : now (setNow s i x) k = x := by
        have q := now_same (s := s) (i := i) (x := x) (by omega)
        unfold now at q ⊢
        rw [← e]
        exact q
      rw [this]
      exact hx
  · have : now (setNow s i x) k = now s k := by
      unfold now setNow
      simp only [List.getD_eq_getElem?_getD]
      rw [List.getElem?_set_ne e]
    rw [this]
    exact h k
theorem now_says (s : St) (e : Event) (k : Nat) : now (says s e) k = now s k := rfl
/-! ## What is kept by halting -/
theorem foldl_ind {α β : Type} {P : β → Prop} {f : β → α → β} : ∀ {l : List α}, (∀ s a, a ∈ l → P s → P (f s a)) → ∀ s, P s → P (l.foldl f s)
  | [], _, _, h => h
  | a :: l, hf, s, h => by
    rw [List.foldl_cons]
    exact foldl_ind (fun s b hb => hf s b (List.mem_cons_of_mem _ hb)) _ (hf s a (List.mem_cons_self) h)
def stopAt (t : St) (i r : Nat) : St := setNow (says t ⟨1, i, r⟩) i { now t i with run := none }
theorem halt_ind {N : List Node} (P : St → Prop) (S : Nat → Prop) (hN : ∀ s, P s → s.nodes = N) (hS : ∀ i c, S i → c ∈ kids N i → S c)
    (hst : ∀ t i r, S i → P t → P (stopAt t i r)) : ∀ (f : Nat) (s : St) (i : Nat), S i → P s → P (halt_ f s i)
  | 0, _, _, _, h => h
  | f + 1, s, i, hi, h => by
    unfold halt_
    split
    · exact h
    · refine hst _ _ _ hi ?_
      refine foldl_ind (fun s' c hc hp => ?_) s h
      rw [List.mem_reverse, children_kids, hN s h] at hc
      exact halt_ind P S hN hS hst f s' c (hS i c hi hc) hp
theorem halt_frame {N : List Node} {c k : Nat} (u : ¬ Under N c k) (hc : 1 ≤ c) (hk : 1 ≤ k) (f : Nat) (s : St) (hs : s.nodes = N) : now (halt_ f s c) k = now s k := by
  refine (halt_ind (N := N) (fun t => t.nodes = N ∧ now t k = now s k) (fun i => Under N c i ∧ 1 ≤ i) (fun _ h => h.1) (fun i d hi hd => ⟨hi.1.kid hd, (mem_kids.mp hd).1⟩) ?_ f s c ⟨.refl, hc⟩ ⟨hs, rfl⟩).2
  rintro t i r ⟨ui, hi⟩ ⟨h1, h2⟩
  refine ⟨h1, ?_⟩
  unfold stopAt
  rw [now_ne hi hk (fun e => u (e ▸ ui)), now_says]
  exact h2
theorem halt_nodes (f : Nat) (s : St) (i : Nat) : (halt_ f s i).nodes = s.nodes :=
  halt_ind (N := s.nodes) (fun t => t.nodes = s.nodes) (fun _ => True) (fun _ h => h) (fun _ _ _ _ => trivial) (fun _ _ _ _ h => h) f s i trivial rfl
theorem fold_halt_nodes (f : Nat) (l : List Nat) (s : St) : (l.foldl (halt_ f) s).nodes = s.nodes :=
  foldl_ind (P := fun t => t.nodes = s.nodes) (fun t c _ h => (halt_nodes f t c).trans h) s rfl
/-- the children's halting leaves the node itself -/
theorem fold_halt_now {N : List Node} (W : WT N) {i : Nat} (hi : 1 ≤ i) (hn : i ≤ N.length) (f : Nat) (l : List Nat) (hl : ∀ c ∈ l, c ∈ kids N i) (s : St) (hs : s.nodes = N) : now (l.foldl (halt_ f) s) i = now s i := by
  refine (foldl_ind (P := fun t => t.nodes = N ∧ now t i = now s i) (fun t c hc h => ?_) s ⟨hs, rfl⟩).2
  have hk := kid_lt W hi (hl c hc)
  exact ⟨(halt_nodes f t c).trans h.1, (halt_frame (not_under_lt W hk.1 hn) (by omega) hi f t h.1).trans h.2⟩
/-- the same with the guard: what is stopped runs, in the run that is told -/
theorem halt_ind2 {N : List Node} (W : WT N) (P : St → Prop) (hN : ∀ s, P s → s.nodes = N)
    (hst : ∀ t i r, 1 ≤ i → i ≤ N.length → P t → (now t i).run = some r → P (stopAt t i r)) : ∀ (f : Nat) (s : St) (i : Nat), 1 ≤ i → i ≤ N.length → P s → P (halt_ f s i)
  | 0, _, _, _, _, h => h
  | f + 1, s, i, hi, hn, h => by
    unfold halt_
    split
    · exact h
    · rename_i hr
      have hs := hN s h
      have e := fold_halt_now W hi hn f (children s i).reverse (fun c hc => by rw [List.mem_reverse, children_kids, hs] at hc; exact hc) s hs
      obtain ⟨r, hr⟩ : ∃ r, (now s i).run = some r := by
        unfold running at hr
        cases q : (now s i).run with
        | none => rw [q] at hr; exact absurd rfl hr
        | some r => exact ⟨r, rfl⟩
      have er : runOf s i = r := by
        unfold runOf
        rw [hr]
        rfl
      rw [er]
      refine hst _ _ _ hi hn ?_ (by rw [e]; exact hr)
      refine foldl_ind (fun s' c hc hp => ?_) s h
      rw [List.mem_reverse, children_kids, hs] at hc
      have hk := kid_lt W hi hc
      exact halt_ind2 W P hN hst f s' c (by omega) hk.2 hp
/-! ## Fuel -/
theorem foldl_congr {α β : Type} {P : β → Prop} {f g : β → α → β} : ∀ {l : List α}, (∀ s a, a ∈ l → P s → f s a = g s a) → (∀ s a, a ∈ l → P s → P (f s a)) → ∀ s, P s → l.foldl f s = l.foldl g s
  | [], _, _, _, _ => rfl
  | a :: l, he, hp, s, h => by
    rw [List.foldl_cons, List.foldl_cons, ← he s a (List.mem_cons_self) h]
    exact foldl_congr (fun s b hb => he s b (List.mem_cons_of_mem _ hb)) (fun s b hb => hp s b (List.mem_cons_of_mem _ hb)) _ (hp s a (List.mem_cons_self) h)
theorem halt_fuel {N : List Node} (W : WT N) : ∀ (f g : Nat) (s : St) (i : Nat), s.nodes = N → 1 ≤ i → 15 ≤ f + i → 15 ≤ g + i → i ≤ N.length → halt_ f s i = halt_ g s i
  | 0, _, _, i, _, _, h, _, hn => by have := W.len14; omega
  | _ + 1, 0, _, i, _, _, _, h, hn => by have := W.len14; omega
  | f + 1, g + 1, s, i, hs, hi, hf, hg, hn => by
    unfold halt_
    have e : (children s i).reverse.foldl (halt_ f) s = (children s i).reverse.foldl (halt_ g) s := by
      refine foldl_congr (P := fun t => t.nodes = N) (fun t c hc ht => ?_) (fun t c hc ht => (halt_nodes f t c).trans ht) s hs
      rw [List.mem_reverse, children_kids, hs] at hc
      have hk := kid_lt W hi hc
      exact halt_fuel W f g t c ht (by omega) (by omega) (by omega) hk.2
    rw [e]
abbrev Halt : St → Nat → St := halt_ 20
theorem Halt_off {s : St} {i : Nat} (h : running s i = false) : Halt s i = s := by
  show halt_ (19 + 1) s i = s
  unfold halt_
  rw [if_pos h]
theorem Halt_eq {N : List Node} (W : WT N) {s : St} (hs : s.nodes = N) {i : Nat} (hi : 1 ≤ i) (hn : i ≤ N.length) (h : running s i = true) :
    Halt s i = stopAt ((kids N i).reverse.foldl Halt s) i (runOf s i) := by
  have hn : i ≤ N.length := hn
  show halt_ (19 + 1) s i = _
  unfold halt_
  rw [if_neg (by rw [h]; decide)]
  have e : (children s i).reverse.foldl (halt_ 19) s = (kids N i).reverse.foldl Halt s := by
    rw [children_kids, hs]
    refine foldl_congr (P := fun t => t.nodes = N) (fun t c hc ht => ?_) (fun t c hc ht => (halt_nodes 19 t c).trans ht) s hs
    rw [List.mem_reverse] at hc
    have hk := kid_lt W hi hc
    exact halt_fuel W 19 20 t c ht (by omega) (by omega) (by omega) hk.2
  rw [e]
  rfl
/-! ## Starting -/
theorem inOrder_ind {P : St → Prop} {st : St → Nat → St × Bool} : ∀ {l : List Nat}, (∀ s c, c ∈ l → P s → P (st s c).1) → ∀ s, P s → P (inOrder st s l).1
  | [], _, _, h => h
  | c :: r, hf, s, h => by
    unfold inOrder
    dsimp only
    split
    · exact inOrder_ind (fun s b hb => hf s b (List.mem_cons_of_mem _ hb)) _ (hf s c List.mem_cons_self h)
    · exact hf s c List.mem_cons_self h
def failAt (s : St) (i : Nat) : St := setNow (says s ⟨3, i, 0⟩) i { now s i with fails := (now s i).fails - 1 }
def runAt (s : St) (i : Nat) : St := says { setNow s i { now s i with run := some (s.last + 1), times := [], gone := false } with last := s.last + 1 } ⟨0, i, s.last + 1⟩
def ungone (v : St) (c : Nat) : St := setNow v c { now v c with gone := false }
theorem start_succ (f : Nat) (s : St) (i : Nat) : start (f + 1) s i = if 0 < (now s i).fails then (failAt s i, false) else
    (let u := (children (runAt s i) i).foldl ungone (runAt s i)
     let x := inOrder (start f) u (children u i)
     if x.2 = none then (x.1, true) else (halt_ (f + 1) x.1 i, false)) := rfl
theorem start_ind {N : List Node} (P : St → Prop) (S : Nat → Prop) (hN : ∀ s, P s → s.nodes = N) (hS : ∀ i c, S i → c ∈ kids N i → S c)
    (hh : ∀ f s i, S i → P s → P (halt_ f s i)) (h3 : ∀ s i, S i → P s → 0 < (now s i).fails → P (failAt s i)) (h0 : ∀ s i, S i → P s → P (runAt s i)) (hg : ∀ s c, S c → P s → P (ungone s c)) :
    ∀ (f : Nat) (s : St) (i : Nat), S i → P s → P (start f s i).1
  | 0, _, _, _, h => h
  | f + 1, s, i, hi, h => by
    rw [start_succ]
    split
    · rename_i c
      exact h3 s i hi h c
    · have p1 := h0 s i hi h
      have hu : P ((children (runAt s i) i).foldl ungone (runAt s i)) := foldl_ind (fun t c hc ht => hg t c (hS i c hi (by rw [children_kids, hN _ p1] at hc; exact hc)) ht) _ p1
      have hx := inOrder_ind (st := start f) (l := children ((children (runAt s i) i).foldl ungone (runAt s i)) i) (fun t c hc ht => start_ind P S hN hS hh h3 h0 hg f t c (hS i c hi (by rw [children_kids, hN _ hu] at hc; exact hc)) ht) _ hu
      dsimp only
      split
      · exact hx
      · exact hh _ _ _ hi hx
theorem start_nodes (f : Nat) (s : St) (i : Nat) : (start f s i).1.nodes = s.nodes :=
  start_ind (N := s.nodes) (fun t => t.nodes = s.nodes) (fun _ => True) (fun _ h => h) (fun _ _ _ _ => trivial) (fun f t i _ h => (halt_nodes f t i).trans h) (fun _ _ _ h _ => h) (fun _ _ _ h => h) (fun _ _ _ h => h) f s i trivial rfl
theorem start_frame {N : List Node} {c k : Nat} (u : ¬ Under N c k) (hc : 1 ≤ c) (hk : 1 ≤ k) (f : Nat) (s : St) (hs : s.nodes = N) : now (start f s c).1 k = now s k := by
  refine (start_ind (N := N) (fun t => t.nodes = N ∧ now t k = now s k) (fun i => Under N c i ∧ 1 ≤ i) (fun _ h => h.1) (fun i d hi hd => ⟨hi.1.kid hd, (mem_kids.mp hd).1⟩) ?_ ?_ ?_ ?_ f s c ⟨.refl, hc⟩ ⟨hs, rfl⟩).2
  · rintro f t i ⟨ui, hi⟩ ⟨h1, h2⟩
    refine ⟨(halt_nodes f t i).trans h1, ?_⟩
    refine (halt_ind (N := N) (fun t => t.nodes = N ∧ now t k = now s k) (fun i => Under N c i ∧ 1 ≤ i) (fun _ h => h.1) (fun i d hi hd => ⟨hi.1.kid hd, (mem_kids.mp hd).1⟩) ?_ f t i ⟨ui, hi⟩ ⟨h1, h2⟩).2
    rintro t i r ⟨ui, hi⟩ ⟨h1, h2⟩
    refine ⟨h1, ?_⟩
    unfold stopAt
    rw [now_ne hi hk (fun e => u (e ▸ ui)), now_says]
    exact h2
  · rintro t i ⟨ui, hi⟩ ⟨h1, h2⟩ _
    refine ⟨h1, ?_⟩
    unfold failAt
    rw [now_ne hi hk (fun e => u (e ▸ ui)), now_says]
    exact h2
  · rintro t i ⟨ui, hi⟩ ⟨h1, h2⟩
    refine ⟨h1, ?_⟩
    unfold runAt
    rw [now_says]
    exact (now_ne hi hk (fun e => u (e ▸ ui))).trans h2
  · rintro t i ⟨ui, hi⟩ ⟨h1, h2⟩
    refine ⟨h1, ?_⟩
    unfold ungone
    rw [now_ne hi hk (fun e => u (e ▸ ui))]
    exact h2
theorem inOrder_nodes {st : St → Nat → St × Bool} (h : ∀ s c, (st s c).1.nodes = s.nodes) (s : St) (l : List Nat) : (inOrder st s l).1.nodes = s.nodes :=
  inOrder_ind (P := fun t => t.nodes = s.nodes) (fun t c _ ht => (h t c).trans ht) s rfl
theorem inOrder_congr {P : St → Prop} {f g : St → Nat → St × Bool} : ∀ {l : List Nat}, (∀ s a, a ∈ l → P s → f s a = g s a) → (∀ s a, a ∈ l → P s → P (f s a).1) → ∀ s, P s → inOrder f s l = inOrder g s l
  | [], _, _, _, _ => rfl
  | a :: l, he, hp, s, h => by
    unfold inOrder
    rw [← he s a List.mem_cons_self h]
    dsimp only
    rw [inOrder_congr (fun s b hb => he s b (List.mem_cons_of_mem _ hb)) (fun s b hb => hp s b (List.mem_cons_of_mem _ hb)) _ (hp s a (List.mem_cons_self) h)]
theorem fold_ungone_nodes (l : List Nat) (s : St) : (l.foldl ungone s).nodes = s.nodes := foldl_ind (P := fun t : St => t.nodes = s.nodes) (f := ungone) (fun (t : St) (c : Nat) _ (h : t.nodes = s.nodes) => (show (ungone t c).nodes = s.nodes from h)) s rfl
theorem start_fuel {N : List Node} (W : WT N) : ∀ (f g : Nat) (s : St) (i : Nat), s.nodes = N → 1 ≤ i → 15 ≤ f + i → 15 ≤ g + i → i ≤ N.length → start f s i = start g s i
  | 0, _, _, i, _, _, h, _, hn => by have := W.len14; omega
  | _ + 1, 0, _, i, _, _, _, h, hn => by have := W.len14; omega
  | f + 1, g + 1, s, i, hs, hi, hf, hg, hn => by
    rw [start_succ, start_succ]
    dsimp only
    have hu : ((children (runAt s i) i).foldl ungone (runAt s i)).nodes = N := (fold_ungone_nodes _ _).trans hs
    have e : inOrder (start f) ((children (runAt s i) i).foldl ungone (runAt s i)) (children ((children (runAt s i) i).foldl ungone (runAt s i)) i) = inOrder (start g) ((children (runAt s i) i).foldl ungone (runAt s i)) (children ((children (runAt s i) i).foldl ungone (runAt s i)) i) := by
      refine inOrder_congr (P := fun t => t.nodes = N) (fun t c hc ht => ?_) (fun t c hc ht => (start_nodes f t c).trans ht) _ hu
      rw [children_kids, hu] at hc
      have hk := kid_lt W hi hc
      exact start_fuel W f g t c ht (by omega) (by omega) (by omega) hk.2
    rw [e]
    rw [halt_fuel W (f + 1) (g + 1) _ i ((inOrder_nodes (start_nodes g) _ _).trans hu) hi hf hg hn]
abbrev Start : St → Nat → St × Bool := start 20
theorem Start_eq {N : List Node} (W : WT N) {s : St} (hs : s.nodes = N) {i : Nat} (hi : 1 ≤ i) (hn : i ≤ N.length) (h : (now s i).fails = 0) :
    Start s i = (let x := inOrder Start ((kids N i).foldl ungone (runAt s i)) (kids N i)
      if x.2 = none then (x.1, true) else (Halt x.1 i, false)) := by
  show start (19 + 1) s i = _
  rw [start_succ, if_neg (by omega)]
  have hu : ((children (runAt s i) i).foldl ungone (runAt s i)).nodes = N := (fold_ungone_nodes _ _).trans hs
  have ek : children (runAt s i) i = kids N i := by
    show kids s.nodes i = _
    rw [hs]
  have ek2 : children ((children (runAt s i) i).foldl ungone (runAt s i)) i = kids N i := by
    rw [children_kids, hu]
  dsimp only
  rw [ek2, ek]
  rw [ek] at hu
  have e : inOrder (start 19) ((kids N i).foldl ungone (runAt s i)) (kids N i) = inOrder Start ((kids N i).foldl ungone (runAt s i)) (kids N i) := by
    refine inOrder_congr (P := fun t => t.nodes = N) (fun t c hc ht => ?_) (fun t c hc ht => (start_nodes 19 t c).trans ht) _ hu
    have hk := kid_lt W hi hc
    exact start_fuel W 19 20 t c ht (by omega) (by omega) (by omega) hk.2
  rw [e]
theorem Start_fail {s : St} {i : Nat} (h : 0 < (now s i).fails) : Start s i = (failAt s i, false) := by
  show start (19 + 1) s i = _
  rw [start_succ, if_pos h]
end LA
namespace LA
open Ha03
/-! # The mathematics, 2: what always holds; sums; bounds -/
structure WF (tb : Nat) (s : St) : Prop where
  t : WT s.nodes
  len : s.nows.length = s.nodes.length
  pos : ∀ i r, (now s i).run = some r → 0 < r
  fails : ∀ i, (now s i).fails ≤ 20
  times : ∀ i, (now s i).times.length ≤ tb
  root : (now s 1).gone = false
/-- a store of a now that keeps to it -/
theorem WF.set {s : St} (w : WF tb s) {i : Nat} {x : Now} (h1 : ∀ r, x.run = some r → 0 < r) (h2 : x.fails ≤ 20) (h3 : x.times.length ≤ tb) (h4 : 1 ≤ i) (h5 : i = 1 → x.gone = false) : WF tb (setNow s i x) where
  t := w.t
  len := by rw [nows_set, List.length_set]; exact w.len
  pos := all_set (A := fun y => ∀ r, y.run = some r → 0 < r) w.pos h1
  fails := all_set (A := fun y => y.fails ≤ 20) w.fails h2
  times := all_set (A := fun y => y.times.length ≤ tb) w.times h3
  root := by
    by_cases e : i = 1
    · subst e
      have l1 := w.t.len1
      rw [now_same (by rw [w.len]; omega)]
      exact h5 rfl
    · rw [now_ne h4 (Nat.le_refl _) e]
      exact w.root
theorem WF.mono {s : St} {a b : Nat} (w : WF a s) (h : a ≤ b) : WF b s := ⟨w.t, w.len, w.pos, w.fails, fun i => Nat.le_trans (w.times i) h, w.root⟩
theorem WF.says {s : St} (w : WF tb s) (e : Event) : WF tb (says s e) := ⟨w.t, w.len, w.pos, w.fails, w.times, w.root⟩
theorem WF.last {s : St} (w : WF tb s) (n : Nat) : WF tb { s with last := n } := ⟨w.t, w.len, w.pos, w.fails, w.times, w.root⟩
theorem WF.time {s : St} (w : WF tb s) (n : Nat) : WF tb { s with time := n } := ⟨w.t, w.len, w.pos, w.fails, w.times, w.root⟩
theorem WF.root' {s : St} (w : WF tb s) {i : Nat} (h : i = 1) : (now s i).gone = false := by rw [h]; exact w.root
theorem WF.stopAt {s : St} (w : WF tb s) {i r : Nat} (hi : 1 ≤ i) : WF tb (stopAt s i r) :=
  (w.says _).set (fun r h => by cases h) (w.fails i) (w.times i) hi (fun h => w.root' h)
theorem WF.halt {s : St} (w : WF tb s) (f : Nat) {i : Nat} (hi : 1 ≤ i) : WF tb (halt_ f s i) :=
  (halt_ind (N := s.nodes) (fun t => WF tb t ∧ t.nodes = s.nodes) (fun i => 1 ≤ i) (fun _ h => h.2) (fun _ _ _ h => (mem_kids.mp h).1) (fun t i r hi h => ⟨h.1.stopAt hi, h.2⟩) f s i hi ⟨w, rfl⟩).1
theorem WF.foldHalt {s : St} (w : WF tb s) (l : List Nat) (hl : ∀ c ∈ l, 1 ≤ c) : WF tb (l.foldl Halt s) := foldl_ind (fun t c hc h => h.halt 20 (hl c hc)) s w
theorem WF.failAt {s : St} (w : WF tb s) {i : Nat} (hi : 1 ≤ i) : WF tb (failAt s i) :=
  (w.says _).set (w.pos i) (by have := w.fails i; show (now s i).fails - 1 ≤ 20; omega) (w.times i) hi (fun h => w.root' h)
theorem WF.runAt {s : St} (w : WF tb s) {i : Nat} (hi : 1 ≤ i) : WF tb (runAt s i) :=
  ((w.set (x := { now s i with run := some (s.last + 1), times := [], gone := false }) (fun r h => by cases h; omega) (w.fails i) (Nat.zero_le _) hi (fun _ => rfl)).last _).says _
theorem WF.ungone {s : St} (w : WF tb s) {i : Nat} (hi : 1 ≤ i) : WF tb (ungone s i) := w.set (w.pos i) (w.fails i) (w.times i) hi (fun _ => rfl)
theorem WF.start {s : St} (w : WF tb s) (f : Nat) {i : Nat} (hi : 1 ≤ i) : WF tb (start f s i).1 :=
  (start_ind (N := s.nodes) (fun t => WF tb t ∧ t.nodes = s.nodes) (fun i => 1 ≤ i) (fun _ h => h.2) (fun _ _ _ h => (mem_kids.mp h).1) (fun f t i hi h => ⟨h.1.halt f hi, (halt_nodes f t i).trans h.2⟩)
    (fun t i hi h _ => ⟨h.1.failAt hi, h.2⟩) (fun t i hi h => ⟨h.1.runAt hi, h.2⟩) (fun t i hi h => ⟨h.1.ungone hi, h.2⟩) f s i hi ⟨w, rfl⟩).1
theorem WF.inOrder {s : St} (w : WF tb s) (l : List Nat) (hl : ∀ c ∈ l, 1 ≤ c) : WF tb (inOrder Start s l).1 := inOrder_ind (fun t c hc h => h.start 20 (hl c hc)) s w
/-! ## The log only grows -/
theorem halt_log (f : Nat) (s : St) (i : Nat) : s.log.length ≤ (halt_ f s i).log.length :=
  (halt_ind (N := s.nodes) (fun t => t.nodes = s.nodes ∧ s.log.length ≤ t.log.length) (fun _ => True) (fun _ h => h.1) (fun _ _ _ _ => trivial) (fun t i r _ h => ⟨h.1, by
    show s.log.length ≤ (t.log ++ _).length
    rw [List.length_append]
    have := h.2
    omega⟩) f s i trivial ⟨rfl, Nat.le_refl _⟩).2
theorem fold_halt_log (l : List Nat) (s : St) : s.log.length ≤ (l.foldl Halt s).log.length := foldl_ind (P := fun t => s.log.length ≤ t.log.length) (fun t c _ h => Nat.le_trans h (halt_log 20 t c)) s (Nat.le_refl _)
theorem start_log (f : Nat) (s : St) (i : Nat) : s.log.length ≤ (start f s i).1.log.length :=
  (start_ind (N := s.nodes) (fun t => t.nodes = s.nodes ∧ s.log.length ≤ t.log.length) (fun _ => True) (fun _ h => h.1) (fun _ _ _ _ => trivial) (fun f t i _ h => ⟨(halt_nodes f t i).trans h.1, Nat.le_trans h.2 (halt_log f t i)⟩)
    (fun t i _ h _ => ⟨h.1, by show s.log.length ≤ (t.log ++ _).length; rw [List.length_append]; have := h.2; omega⟩) (fun t i _ h => ⟨h.1, by show s.log.length ≤ (t.log ++ _).length; rw [List.length_append]; have := h.2; omega⟩) (fun t i _ h => h) f s i trivial ⟨rfl, Nat.le_refl _⟩).2
theorem inOrder_log (l : List Nat) (s : St) : s.log.length ≤ (inOrder Start s l).1.log.length := inOrder_ind (P := fun t => s.log.length ≤ t.log.length) (fun t c _ h => Nat.le_trans h (start_log 20 t c)) s (Nat.le_refl _)
/-! ## Sums over the nows -/
def sm (f : Now → Nat) (s : St) : Nat := (s.nows.map f).sum
theorem sum_set (f : Now → Nat) (x d : Now) : ∀ (l : List Now) (i : Nat), i < l.length → ((l.set i x).map f).sum + f (l.getD i d) = (l.map f).sum + f x
  | a :: l, 0, _ => by simp only [List.set_cons_zero, List.map_cons, List.sum_cons, List.getD_cons_zero]; omega
  | a :: l, i + 1, h => by
    have := sum_set f x d l i (by simpa using h)
    simp only [List.set_cons_succ, List.map_cons, List.sum_cons, List.getD_cons_succ]
    omega
theorem sm_set (f : Now → Nat) {s : St} {i : Nat} (x : Now) (h : i - 1 < s.nows.length) : sm f (setNow s i x) + f (now s i) = sm f s + f x := sum_set f x noNow s.nows (i - 1) h
theorem sm_says (f : Now → Nat) (s : St) (e : Event) : sm f (says s e) = sm f s := rfl
def sumF : St → Nat := sm Now.fails
/-- what the fails' sum and the length do -/
structure Keep (N : List Node) (B : Nat) (t : St) : Prop where
  n : t.nodes = N
  l : t.nows.length = N.length
  b : sumF t ≤ B
theorem Keep.setF {N : List Node} {B : Nat} {t : St} (k : Keep N B t) {i : Nat} {x : Now} (hi : 1 ≤ i) (hn : i ≤ N.length) (h : x.fails ≤ (now t i).fails) : Keep N B (setNow t i x) where
  n := k.n
  l := by rw [nows_set, List.length_set]; exact k.l
  b := by
    have := sm_set Now.fails (s := t) (i := i) x (by rw [k.l]; omega)
    have := k.b
    unfold sumF at *
    omega
theorem Keep.says {N : List Node} {B : Nat} {t : St} (k : Keep N B t) (e : Event) : Keep N B (says t e) := ⟨k.n, k.l, k.b⟩
theorem Keep.halt {N : List Node} {B : Nat} {t : St} (k : Keep N B t) (f : Nat) {i : Nat} (hi : 1 ≤ i) (hn : i ≤ N.length) : Keep N B (halt_ f t i) :=
  halt_ind (N := N) (Keep N B) (fun i => 1 ≤ i ∧ i ≤ N.length) (fun _ h => h.n) (fun _ _ _ h => ⟨(mem_kids.mp h).1, (mem_kids.mp h).2.1⟩) (fun t i r hi h => (h.says _).setF hi.1 hi.2 (Nat.le_refl _)) f t i ⟨hi, hn⟩ k
theorem Keep.foldHalt {N : List Node} {B : Nat} {t : St} (k : Keep N B t) (l : List Nat) (hl : ∀ c ∈ l, 1 ≤ c ∧ c ≤ N.length) : Keep N B (l.foldl Halt t) := foldl_ind (fun u c hc h => h.halt 20 (hl c hc).1 (hl c hc).2) t k
theorem Keep.start {N : List Node} {B : Nat} {t : St} (k : Keep N B t) (f : Nat) {i : Nat} (hi : 1 ≤ i) (hn : i ≤ N.length) : Keep N B (start f t i).1 :=
  start_ind (N := N) (Keep N B) (fun i => 1 ≤ i ∧ i ≤ N.length) (fun _ h => h.n) (fun _ _ _ h => ⟨(mem_kids.mp h).1, (mem_kids.mp h).2.1⟩) (fun f t i hi h => h.halt f hi.1 hi.2) (fun t i hi h _ => (h.says _).setF hi.1 hi.2 (Nat.sub_le _ _))
    (fun t i hi h => by
      have q := h.setF (x := { now t i with run := some (t.last + 1), times := [], gone := false }) hi.1 hi.2 (Nat.le_refl _)
      exact ⟨q.n, q.l, q.b⟩) (fun t i hi h => h.setF hi.1 hi.2 (Nat.le_refl _)) f t i ⟨hi, hn⟩ k
theorem Keep.inOrder {N : List Node} {B : Nat} {f : Nat} {t : St} (k : Keep N B t) (l : List Nat) (hl : ∀ c ∈ l, 1 ≤ c ∧ c ≤ N.length) : Keep N B (inOrder (Ha03.start f) t l).1 := inOrder_ind (fun u c hc h => h.start f (hl c hc).1 (hl c hc).2) t k
theorem Keep.of {s : St} (w : WF tb s) : Keep s.nodes (sumF s) s := ⟨rfl, w.len, Nat.le_refl _⟩
/-- a start that fails has used up one that was to fail -/
theorem start_less {N : List Node} (W : WT N) : ∀ (f : Nat) (s : St) (i B : Nat), Keep N B s → 1 ≤ i → i ≤ N.length → 15 ≤ f + i → (start f s i).2 = false → 1 ≤ B ∧ Keep N (B - 1) (start f s i).1
  | 0, _, i, _, _, _, hn, h, _ => by have := W.len14; omega
  | f + 1, s, i, B, k, hi, hn, hf, h => by
    rw [start_succ] at h ⊢
    split at h
    · rename_i c
      rw [if_pos c]
      have q := sm_set Now.fails (s := says s ⟨3, i, 0⟩) (i := i) { now s i with fails := (now s i).fails - 1 } (by show i - 1 < s.nows.length; rw [k.l]; omega)
      have e : sm Now.fails (says s ⟨3, i, 0⟩) = sumF s := rfl
      have e2 : sm Now.fails (setNow (says s ⟨3, i, 0⟩) i { now s i with fails := (now s i).fails - 1 }) = sumF (failAt s i) := rfl
      rw [now_says, e, e2] at q
      dsimp only at q
      have := k.b
      refine ⟨by omega, ⟨k.n, ?_, by dsimp only; omega⟩⟩
      show (s.nows.set _ _).length = _
      rw [List.length_set]
      exact k.l
    · rename_i c
      rw [if_neg c]
      dsimp only at h ⊢
      have ek : children (runAt s i) i = kids N i := by
        show kids s.nodes i = _
        rw [k.n]
      have kr : Keep N B (runAt s i) := by
        have q := k.setF (x := { now s i with run := some (s.last + 1), times := [], gone := false }) hi hn (Nat.le_refl _)
        exact ⟨q.n, q.l, q.b⟩
      have hk : ∀ c ∈ kids N i, 1 ≤ c ∧ c ≤ N.length := fun c hc => ⟨(mem_kids.mp hc).1, (mem_kids.mp hc).2.1⟩
      have ku : Keep N B ((kids N i).foldl ungone (runAt s i)) := foldl_ind (f := ungone) (fun t c hc h => h.setF (hk c hc).1 (hk c hc).2 (Nat.le_refl _)) _ kr
      rw [ek] at h ⊢
      have ek2 : children ((kids N i).foldl ungone (runAt s i)) i = kids N i := by rw [children_kids, ku.n]
      rw [ek2] at h ⊢
      have key : ∀ (l : List Nat) (u : St), (∀ c ∈ l, c ∈ kids N i) → Keep N B u → (inOrder (start f) u l).2 ≠ none → 1 ≤ B ∧ Keep N (B - 1) (inOrder (start f) u l).1 := by
        intro l
        induction l with
        | nil => intro u _ _ h; exact absurd rfl h
        | cons a l ih =>
          intro u hl ku h
          unfold inOrder at h ⊢
          dsimp only at h ⊢
          have ha := hl a List.mem_cons_self
          have lt := kid_lt W hi ha
          split at h
          · rename_i c
            rw [if_pos c]
            exact ih _ (fun c hc => hl c (List.mem_cons_of_mem _ hc)) (ku.start f (hk a ha).1 (hk a ha).2) h
          · rename_i c
            rw [if_neg c]
            exact start_less W f u a B ku (hk a ha).1 (hk a ha).2 (by omega) (Bool.eq_false_iff.mpr c)
      split at h
      · cases h
      · rename_i c2
        rw [if_neg c2]
        have q := key _ _ (fun _ h => h) ku c2
        exact ⟨q.1, q.2.halt _ hi hn⟩
theorem inOrder_less {N : List Node} (W : WT N) : ∀ (l : List Nat) (u : St) (B : Nat), (∀ c ∈ l, 1 ≤ c ∧ c ≤ N.length) → Keep N B u → (inOrder Start u l).2 ≠ none → 1 ≤ B ∧ Keep N (B - 1) (inOrder Start u l).1
  | [], u, _, _, _, h => absurd rfl h
  | a :: l, u, B, hl, ku, h => by
    unfold inOrder at h ⊢
    dsimp only at h ⊢
    have ha := hl a List.mem_cons_self
    split at h
    · rename_i c
      rw [if_pos c]
      exact inOrder_less W l _ B (fun c hc => hl c (List.mem_cons_of_mem _ hc)) (ku.start 20 ha.1 ha.2) h
    · rename_i c
      rw [if_neg c]
      exact start_less W 20 u a B ku ha.1 ha.2 (by omega) (Bool.eq_false_iff.mpr c)
/-! ## How much is told: the log and those that run -/
def up1 (x : Now) : Nat := if x.run.isSome = true then 1 else 0
def Phi (s : St) : Nat := s.log.length + sm up1 s
structure KeepP (N : List Node) (B : Nat) (t : St) : Prop where
  n : t.nodes = N
  l : t.nows.length = N.length
  b : Phi t ≤ B
theorem up1_le (x : Now) : up1 x ≤ 1 := by unfold up1; split <;> omega
theorem KeepP.set {N : List Node} {B : Nat} {t : St} (k : KeepP N B t) {i : Nat} {x : Now} (hi : 1 ≤ i) (hn : i ≤ N.length) (h : up1 x ≤ up1 (now t i)) : KeepP N B (setNow t i x) where
  n := k.n
  l := by rw [nows_set, List.length_set]; exact k.l
  b := by
    have := sm_set up1 (s := t) (i := i) x (by rw [k.l]; omega)
    have := k.b
    have e : (setNow t i x).log = t.log := rfl
    unfold Phi at *
    rw [e]
    omega
theorem KeepP.halt {N : List Node} (W : WT N) {B : Nat} {t : St} (k : KeepP N B t) (f : Nat) {i : Nat} (hi : 1 ≤ i) (hn : i ≤ N.length) : KeepP N B (halt_ f t i) :=
  halt_ind2 W (KeepP N B) (fun _ h => h.n) (fun t i r hi hn h hr => by
    refine ⟨h.n, ?_, ?_⟩
    · show (t.nows.set _ _).length = _
      rw [List.length_set]
      exact h.l
    · have q := sm_set up1 (s := says t ⟨1, i, r⟩) (i := i) { now t i with run := none } (by show i - 1 < t.nows.length; rw [h.l]; omega)
      have e1 : up1 (now (says t ⟨1, i, r⟩) i) = 1 := by
        rw [now_says]
        unfold up1
        rw [hr]
        rfl
      have e2 : up1 { now t i with run := none } = 0 := rfl
      have e3 : sm up1 (says t ⟨1, i, r⟩) = sm up1 t := rfl
      rw [e1, e2, e3] at q
      have b := h.b
      have e4 : (stopAt t i r).log.length = t.log.length + 1 := by
        show (t.log ++ _).length = _
        rw [List.length_append]
        rfl
      unfold Phi at *
      rw [e4]
      unfold stopAt
      omega) f t i hi hn k
theorem KeepP.foldHalt {N : List Node} (W : WT N) {B : Nat} {t : St} (k : KeepP N B t) (l : List Nat) (hl : ∀ c ∈ l, 1 ≤ c ∧ c ≤ N.length) : KeepP N B (l.foldl Halt t) := foldl_ind (fun u c hc h => h.halt W 20 (hl c hc).1 (hl c hc).2) t k
/-- those below a node, itself first -/
def desc (N : List Node) : Nat → Nat → List Nat
  | 0, _ => []
  | f + 1, i => i :: (kids N i).flatMap (desc N f)
theorem KeepP.mono {N : List Node} {B C : Nat} {t : St} (k : KeepP N B t) (h : B ≤ C) : KeepP N C t := ⟨k.n, k.l, Nat.le_trans k.b h⟩
theorem inOrder_P {N : List Node} {st : St → Nat → St × Bool} {g : Nat → List Nat} : ∀ (l : List Nat) (u : St) (B : Nat), (∀ c ∈ l, ∀ u B, KeepP N B u → KeepP N (B + 2 * (g c).length) (st u c).1) → KeepP N B u → KeepP N (B + 2 * (l.flatMap g).length) (inOrder st u l).1
  | [], u, B, _, k => k.mono (Nat.le_add_right _ _)
  | a :: l, u, B, h, k => by
    unfold inOrder
    dsimp only
    rw [List.flatMap_cons, List.length_append]
    have q := h a List.mem_cons_self u B k
    split
    · refine (inOrder_P l _ _ (fun c hc => h c (List.mem_cons_of_mem _ hc)) q).mono (by omega)
    · exact q.mono (by omega)
theorem start_P {N : List Node} (W : WT N) : ∀ (f : Nat) (s : St) (i B : Nat), 1 ≤ i → i ≤ N.length → KeepP N B s → KeepP N (B + 2 * (desc N f i).length) (start f s i).1
  | 0, s, i, B, _, _, k => k.mono (Nat.le_add_right _ _)
  | f + 1, s, i, B, hi, hn, k => by
    rw [start_succ]
    have hlen : (desc N (f + 1) i).length = 1 + ((kids N i).flatMap (desc N f)).length := by
      show (i :: _).length = _
      rw [List.length_cons]
      omega
    rw [hlen]
    split
    · have q := (KeepP.set (N := N) (B := B + 1) (t := says s ⟨3, i, 0⟩) ⟨k.n, k.l, by
        show (s.log ++ _).length + sm up1 s ≤ _
        rw [List.length_append]
        have := k.b
        unfold Phi at this
        simp only [List.length_singleton]
        omega⟩ hi hn (x := { now s i with fails := (now s i).fails - 1 }) (Nat.le_refl _))
      exact q.mono (by omega)
    · have kr : KeepP N (B + 2) (runAt s i) := by
        refine ⟨k.n, ?_, ?_⟩
        · show (s.nows.set _ _).length = _
          rw [List.length_set]
          exact k.l
        · have q := sm_set up1 (s := s) (i := i) (⟨some (s.last + 1), false, [], (now s i).fails⟩ : Now) (by rw [k.l]; omega)
          have u1 := up1_le (⟨some (s.last + 1), false, [], (now s i).fails⟩ : Now)
          show (s.log ++ _).length + sm up1 (setNow s i (⟨some (s.last + 1), false, [], (now s i).fails⟩ : Now)) ≤ _
          rw [List.length_append]
          have := k.b
          unfold Phi at this
          simp only [List.length_singleton]
          omega
      have hk : ∀ c ∈ kids N i, 1 ≤ c ∧ c ≤ N.length := fun c hc => ⟨(mem_kids.mp hc).1, (mem_kids.mp hc).2.1⟩
      have ek : children (runAt s i) i = kids N i := by
        show kids s.nodes i = _
        rw [k.n]
      dsimp only
      rw [ek]
      have ku : KeepP N (B + 2) ((kids N i).foldl ungone (runAt s i)) := foldl_ind (f := ungone) (fun t c hc h => h.set (hk c hc).1 (hk c hc).2 (Nat.le_refl _)) _ kr
      have ek2 : children ((kids N i).foldl ungone (runAt s i)) i = kids N i := by rw [children_kids, ku.n]
      rw [ek2]
      have q := inOrder_P (N := N) (st := start f) (g := desc N f) (kids N i) _ _ (fun c hc u B h => start_P W f u c B (hk c hc).1 (hk c hc).2 h) ku
      split
      · exact q.mono (by omega)
      · exact (q.halt W (f + 1) hi hn).mono (by omega)
theorem desc_under {N : List Node} : ∀ (f i x : Nat), x ∈ desc N f i → Under N i x
  | 0, _, _, h => by cases h
  | f + 1, i, x, h => by
    obtain rfl | h := List.mem_cons.mp h
    · exact .refl
    · obtain ⟨c, hc, hx⟩ := List.mem_flatMap.mp h
      have u := desc_under f c x hx
      have : ∀ {y}, Under N c y → Under N i y := fun {y} w => by
        induction w with
        | refl => exact Under.refl.kid hc
        | step _ ih => exact .step ih
      exact this u
theorem desc_le {N : List Node} : ∀ (f i x : Nat), 1 ≤ i → i ≤ N.length → x ∈ desc N f i → 1 ≤ x ∧ x ≤ N.length
  | 0, _, _, _, _, hh => by cases hh
  | f + 1, i, x, h1, h2, h => by
    obtain rfl | h := List.mem_cons.mp h
    · exact ⟨h1, h2⟩
    · obtain ⟨c, hc, hx⟩ := List.mem_flatMap.mp h
      exact desc_le f c x (mem_kids.mp hc).1 (mem_kids.mp hc).2.1 hx
theorem under_line {N : List Node} {a b x : Nat} (h : Under N a x) : Under N b x → Under N a b ∨ Under N b a := by
  induction h with
  | refl => exact fun h => .inr h
  | step h ih =>
    intro g
    cases g with
    | refl => exact .inl (.step h)
    | step g => exact ih g
theorem flat_nodup {N : List Node} (W : WT N) {p : Nat} (hp : 1 ≤ p) (f : Nat) (l : List Nat) (hl : l.Sublist (kids N p)) (hd : ∀ c ∈ l, (desc N f c).Nodup) : (l.flatMap (desc N f)).Nodup := by
  unfold List.Nodup
  rw [List.pairwise_flatMap]
  refine ⟨hd, ?_⟩
  refine List.Pairwise.imp_of_mem ?_ (List.Pairwise.sublist hl (kids_nodup N p))
  intro a b ha hb n x hx y hy e
  subst e
  have ka := hl.subset ha
  have kb := hl.subset hb
  rcases under_line (desc_under f a x hx) (desc_under f b x hy) with u | u
  · exact not_under_sib W hp ka kb n u
  · exact not_under_sib W hp kb ka (Ne.symm n) u
theorem desc_nodup {N : List Node} (W : WT N) : ∀ (f i : Nat), 1 ≤ i → i ≤ N.length → (desc N f i).Nodup
  | 0, _, _, _ => List.nodup_nil
  | f + 1, i, hi, hn => by
    show (i :: _).Nodup
    rw [List.nodup_cons]
    refine ⟨fun h => ?_, flat_nodup W hi f _ (List.Sublist.refl _) (fun c hc => desc_nodup W f c (mem_kids.mp hc).1 (mem_kids.mp hc).2.1)⟩
    obtain ⟨c, hc, hx⟩ := List.mem_flatMap.mp h
    exact not_under_lt W (kid_lt W hi hc).1 hn (desc_under f c i hx)
theorem nodup_len : ∀ (n : Nat) (l : List Nat), l.Nodup → (∀ x ∈ l, 1 ≤ x ∧ x ≤ n) → l.length ≤ n
  | 0, l, _, h => by
    cases l with
    | nil => exact Nat.le_refl _
    | cons a l => have := h a List.mem_cons_self; omega
  | n + 1, l, hd, h => by
    have q := nodup_len n (l.filter fun x => decide (x ≠ n + 1)) (List.Pairwise.filter _ hd) (fun x hx => by
      rw [List.mem_filter] at hx
      have := h x hx.1
      have := of_decide_eq_true hx.2
      omega)
    have r : l.length ≤ (l.filter fun x => decide (x ≠ n + 1)).length + 1 := by
      clear q h
      induction l with
      | nil => exact Nat.zero_le _
      | cons a l ih =>
        have hd' := List.nodup_cons.mp hd
        by_cases e : a = n + 1
        · have : l.filter (fun x => decide (x ≠ n + 1)) = l := by
            rw [List.filter_eq_self]
            intro x hx
            exact decide_eq_true (fun q => hd'.1 (by rw [e, ← q]; exact hx))
          rw [List.filter_cons_of_neg (by simp [e]), this]
          exact Nat.le_refl _
        · rw [List.filter_cons_of_pos (by simp [e]), List.length_cons, List.length_cons]
          have := ih hd'.2
          omega
    omega
theorem flat_len {N : List Node} (W : WT N) {p : Nat} (hp : 1 ≤ p) (f : Nat) (l : List Nat) (hl : l.Sublist (kids N p)) : (l.flatMap (desc N f)).length ≤ 14 := by
  have hk : ∀ c ∈ l, 1 ≤ c ∧ c ≤ N.length := fun c hc => ⟨(mem_kids.mp (hl.subset hc)).1, (mem_kids.mp (hl.subset hc)).2.1⟩
  refine Nat.le_trans (nodup_len N.length _ (flat_nodup W hp f l hl fun c hc => desc_nodup W f c (hk c hc).1 (hk c hc).2) fun x hx => ?_) W.len14
  obtain ⟨c, hc, hx⟩ := List.mem_flatMap.mp hx
  exact desc_le f c x (hk c hc).1 (hk c hc).2 hx
theorem desc_len {N : List Node} (W : WT N) {i : Nat} (hi : 1 ≤ i) (hn : i ≤ N.length) (f : Nat) : (desc N f i).length ≤ 14 :=
  Nat.le_trans (nodup_len N.length _ (desc_nodup W f i hi hn) fun x hx => desc_le f i x hi hn hx) W.len14
end LA
namespace LA
open Ha03
/-! # The mathematics, 3: what commutes; one turn of beginning again; the whole of it -/
def upd1 (s : St) (k : Nat) (g : Now → Now) : St := { s with nows := s.nows.modify (k - 1) g }
theorem set_modify (g : Now → Now) (l : List Now) (j : Nat) : l.set j (g (l.getD j noNow)) = l.modify j g := by
  apply List.ext_getElem?
  intro n
  rw [List.getElem?_modify]
  by_cases e : j = n
  · subst e
    by_cases h : j < l.length
    · rw [List.getElem?_set_self h, List.getD_eq_getElem?_getD, List.getElem?_eq_getElem h]
      simp
    · rw [List.getElem?_eq_none (by rw [List.length_set]; omega), List.getElem?_eq_none (by omega)]
      rfl
  · rw [List.getElem?_set_ne e]
    simp [e]
theorem setNow_upd (s : St) (k : Nat) (g : Now → Now) : setNow s k (g (now s k)) = upd1 s k g := by
  unfold setNow upd1 now
  rw [set_modify]
theorem modify_comm (g h : Now → Now) (l : List Now) (i j : Nat) (c : i = j → ∀ x, g (h x) = h (g x)) : (l.modify i g).modify j h = (l.modify j h).modify i g := by
  apply List.ext_getElem?
  intro n
  simp only [List.getElem?_modify]
  cases l[n]? with
  | none => rfl
  | some x =>
    by_cases e1 : i = n <;> by_cases e2 : j = n <;> simp [e1, e2]
    subst e1
    subst e2
    exact (c rfl x).symm
theorem modify_twice (g h : Now → Now) (l : List Now) (i : Nat) : (l.modify i g).modify i h = l.modify i (fun x => h (g x)) := by
  apply List.ext_getElem?
  intro n
  simp only [List.getElem?_modify]
  cases l[n]? with
  | none => rfl
  | some x => by_cases e : i = n <;> simp [e]
theorem now_upd_same {s : St} {i : Nat} {g : Now → Now} (h : i - 1 < s.nows.length) : now (upd1 s i g) i = g (now s i) := by
  rw [← setNow_upd, now_same h]
theorem now_upd_ne {s : St} {i k : Nat} {g : Now → Now} (hi : 1 ≤ i) (hk : 1 ≤ k) (n : i ≠ k) : now (upd1 s i g) k = now s k := by
  rw [← setNow_upd, now_ne hi hk n]
def noRun (x : Now) : Now := { x with run := none }
theorem stopAt_upd (t : St) (i r : Nat) : stopAt t i r = upd1 (says t ⟨1, i, r⟩) i noRun := setNow_upd (says t ⟨1, i, r⟩) i noRun
/-- what leaves the run alone -/
structure Calm (g : Now → Now) : Prop where
  run : ∀ x, (g x).run = x.run
  non : ∀ x, g (noRun x) = noRun (g x)
theorem run_upd {g : Now → Now} (c : Calm g) (s : St) (k i : Nat) : (now (upd1 s k g) i).run = (now s i).run := by
  unfold now upd1
  simp only [List.getD_eq_getElem?_getD, List.getElem?_modify]
  cases s.nows[i - 1]? with
  | none => rfl
  | some x => by_cases e : k - 1 = i - 1 <;> simp [e, c.run]
theorem stopAt_comm {g : Now → Now} (c : Calm g) (t : St) (k i r : Nat) : stopAt (upd1 t k g) i r = upd1 (stopAt t i r) k g := by
  rw [stopAt_upd, stopAt_upd]
  unfold upd1 says
  simp only [St.mk.injEq, and_true, true_and]
  exact modify_comm g noRun t.nows (k - 1) (i - 1) fun _ x => c.non x
theorem halt_comm {g : Now → Now} (c : Calm g) (k : Nat) : ∀ (f : Nat) (s : St) (i : Nat), halt_ f (upd1 s k g) i = upd1 (halt_ f s i) k g
  | 0, _, _ => rfl
  | f + 1, s, i => by
    have fold : ∀ (l : List Nat) (s : St), l.foldl (halt_ f) (upd1 s k g) = upd1 (l.foldl (halt_ f) s) k g := by
      intro l
      induction l with
      | nil => intro s; rfl
      | cons a l ih =>
        intro s
        rw [List.foldl_cons, List.foldl_cons, halt_comm c k f s a, ih]
    unfold halt_
    have e1 : running (upd1 s k g) i = running s i := by
      unfold running
      rw [run_upd c]
    have e2 : runOf (upd1 s k g) i = runOf s i := by
      unfold runOf
      rw [run_upd c]
    have e3 : children (upd1 s k g) i = children s i := rfl
    rw [e1, e2, e3, fold]
    split
    · rfl
    · exact stopAt_comm c _ k i _
theorem fold_halt_comm {g : Now → Now} (c : Calm g) (k : Nat) : ∀ (l : List Nat) (s : St), l.foldl Halt (upd1 s k g) = upd1 (l.foldl Halt s) k g
  | [], _ => rfl
  | a :: l, s => by
    rw [List.foldl_cons, List.foldl_cons, show Halt (upd1 s k g) a = upd1 (Halt s a) k g from halt_comm c k 20 s a, fold_halt_comm c k l]
def goner (x : Now) : Now := { x with gone := true }
def timer (l : List Nat) (x : Now) : Now := { x with times := l }
theorem calm_goner : Calm goner := ⟨fun _ => rfl, fun _ => rfl⟩
theorem calm_timer (l : List Nat) : Calm (timer l) := ⟨fun _ => rfl, fun _ => rfl⟩
/-- those of kind 2 are gone -/
def mark (s : St) (c : Nat) : St := if (node s c).kind = 2 then upd1 s c goner else s
theorem mark_nodes (s : St) (c : Nat) : (mark s c).nodes = s.nodes := by unfold mark; split <;> rfl
theorem mark_comm (s : St) (a b : Nat) : mark (mark s a) b = mark (mark s b) a := by
  unfold mark
  by_cases ha : (node s a).kind = 2 <;> by_cases hb : (node s b).kind = 2
  · rw [if_pos ha, if_pos hb, if_pos (show (node (upd1 s a goner) b).kind = 2 from hb), if_pos (show (node (upd1 s b goner) a).kind = 2 from ha)]
    unfold upd1
    simp only [St.mk.injEq, and_true, true_and]
    exact modify_comm goner goner s.nows (a - 1) (b - 1) fun _ _ => rfl
  · rw [if_pos ha, if_neg hb, if_neg (show ¬ (node (upd1 s a goner) b).kind = 2 from hb), if_pos ha]
  · rw [if_neg ha, if_pos hb, if_neg (show ¬ (node (upd1 s b goner) a).kind = 2 from ha)]
  · rw [if_neg ha, if_neg hb, if_neg ha]
theorem fold_comm1 {f : St → Nat → St} (c : ∀ s a b, f (f s a) b = f (f s b) a) : ∀ (l : List Nat) (s : St) (a : Nat), l.foldl f (f s a) = f (l.foldl f s) a
  | [], _, _ => rfl
  | b :: l, s, a => by rw [List.foldl_cons, List.foldl_cons, c, fold_comm1 c l]
theorem fold_rev {f : St → Nat → St} (c : ∀ s a b, f (f s a) b = f (f s b) a) : ∀ (l : List Nat) (s : St), l.reverse.foldl f s = l.foldl f s
  | [], _ => rfl
  | a :: l, s => by rw [List.reverse_cons, List.foldl_append, fold_rev c l, List.foldl_cons, List.foldl_cons, List.foldl_nil, fold_comm1 c]
theorem stopChild_eq (s : St) (c : Nat) : stopChild s c = mark (Halt s c) c := by
  unfold stopChild mark
  have e : (node (Halt s c) c) = node s c := by
    unfold node
    rw [halt_nodes]
  rw [e]
  show (if (node s c).kind = 2 then setNow (Halt s c) c { now (Halt s c) c with gone := true } else Halt s c) = _
  rw [show setNow (Halt s c) c { now (Halt s c) c with gone := true } = upd1 (Halt s c) c goner from setNow_upd (Halt s c) c goner]
theorem fold_halt_mark (l : List Nat) (s : St) (a : Nat) : l.foldl Halt (mark s a) = mark (l.foldl Halt s) a := by
  unfold mark
  have e : node (l.foldl Halt s) a = node s a := by
    unfold node
    rw [fold_halt_nodes]
  rw [e]
  split
  · exact fold_halt_comm calm_goner a l s
  · rfl
theorem fold_stopChild : ∀ (l : List Nat) (s : St), l.foldl stopChild s = l.foldl mark (l.foldl Halt s)
  | [], _ => rfl
  | a :: l, s => by
    rw [List.foldl_cons, stopChild_eq, fold_stopChild l, fold_halt_mark, List.foldl_cons, List.foldl_cons]
/-! ## Those that are begun again, as the program goes -/
/-- those that aren't gone are started in order, till one fails -/
def inOrderG : St → List Nat → St × Option Nat
  | s, [] => (s, none)
  | s, c :: r => if (now s c).gone = true then inOrderG s r else if (Start s c).2 = true then inOrderG (Start s c).1 r else ((Start s c).1, some c)
theorem inOrderG_eq {N : List Node} (W : WT N) {p : Nat} (hp : 1 ≤ p) : ∀ (a : List Nat) (u : St), u.nodes = N → (∀ c ∈ a, c ∈ kids N p) → a.Nodup → inOrderG u a = inOrder Start u (a.filter fun k => !(now u k).gone)
  | [], _, _, _, _ => rfl
  | c :: r, u, hu, hk, hd => by
    have hd' := List.nodup_cons.mp hd
    unfold inOrderG
    by_cases g : (now u c).gone = true
    · rw [if_pos g, List.filter_cons_of_neg (by simp [g])]
      exact inOrderG_eq W hp r u hu (fun d hd => hk d (List.mem_cons_of_mem _ hd)) hd'.2
    · rw [if_neg g, List.filter_cons_of_pos (by simp [g])]
      unfold inOrder
      dsimp only
      by_cases x : (Start u c).2 = true
      · rw [if_pos x, if_pos x]
        rw [inOrderG_eq W hp r (Start u c).1 ((start_nodes 20 u c).trans hu) (fun d hd => hk d (List.mem_cons_of_mem _ hd)) hd'.2]
        have e : (r.filter fun k => !(now (Start u c).1 k).gone) = r.filter fun k => !(now u k).gone := by
          apply List.filter_congr
          intro k hkr
          have kc := hk c List.mem_cons_self
          have kk := hk k (List.mem_cons_of_mem _ hkr)
          rw [start_frame (not_under_sib W hp kc kk (fun e => hd'.1 (by rw [e]; exact hkr))) (mem_kids.mp kc).1 (mem_kids.mp kk).1 20 u hu]
        rw [e]
      · rw [if_neg x, if_neg x]
def theLot (N : List Node) (p c : Nat) : List Nat := match (nd N p).way with
  | 0 => [c]
  | 1 => kids N p
  | _ => (kids N p).filter fun k => decide (c ≤ k)
theorem way3 (n : Nat) : n = 0 ∨ n = 1 ∨ ∃ k, n = k + 2 := by
  rcases n with _ | _ | k
  · exact .inl rfl
  · exact .inr (.inl rfl)
  · exact .inr (.inr ⟨k, rfl⟩)
theorem lot0 {N : List Node} {p c : Nat} (h : (nd N p).way = 0) : theLot N p c = [c] := by unfold theLot; rw [h]; rfl
theorem lot1 {N : List Node} {p c : Nat} (h : (nd N p).way = 1) : theLot N p c = kids N p := by unfold theLot; rw [h]; rfl
theorem lot2 {N : List Node} {p c k : Nat} (h : (nd N p).way = k + 2) : theLot N p c = (kids N p).filter fun k => decide (c ≤ k) := by unfold theLot; rw [h]; rfl
def byWay (s : St) (p c : Nat) : St × Option Nat :=
  inOrderG ((theLot s.nodes p c).foldl mark ((theLot s.nodes p c).reverse.foldl Halt s)) (theLot s.nodes p c)
theorem sorted_cut {c : Nat} : ∀ {l : List Nat}, l.Pairwise (· < ·) → c ∈ l → (l.filter fun k => decide (c ≤ k)) = c :: l.filter fun k => decide (c < k)
  | [], _, h => by cases h
  | a :: l, hs, h => by
    have hs' := List.pairwise_cons.mp hs
    obtain rfl | h := List.mem_cons.mp h
    · rw [List.filter_cons_of_pos (by simp), List.filter_cons_of_neg (by simp)]
      congr 1
      apply List.filter_congr
      intro k hk
      have := hs'.1 k hk
      simp only [decide_eq_decide]
      omega
    · have := hs'.1 c h
      rw [List.filter_cons_of_neg (by simp; omega), List.filter_cons_of_neg (by simp; omega)]
      exact sorted_cut hs'.2 h
theorem running_run {s : St} {i : Nat} : running s i = false ↔ (now s i).run = none := by
  unfold running
  cases (now s i).run <;> simp
theorem theLot_sub (N : List Node) {p c : Nat} (hc : c ∈ kids N p) : (theLot N p c).Sublist (kids N p) := by
  unfold theLot
  split
  · exact List.singleton_sublist.mpr hc
  · exact List.Sublist.refl _
  · exact List.filter_sublist
theorem stop_all {N : List Node} (W : WT N) {s : St} (hs : s.nodes = N) {p c : Nat} (hp : 1 ≤ p) (hc : c ∈ kids N p) (k2 : (nd N c).kind ≠ 2) (hr : running s c = false) :
    (toStop s p c).foldl stopChild s = (theLot N p c).foldl mark ((theLot N p c).reverse.foldl Halt s) := by
  have mk : ∀ t : St, t.nodes = N → mark t c = t := fun t ht => by
    unfold mark
    rw [node_nd, ht, if_neg k2]
  unfold toStop
  rw [node_nd, hs]
  rcases way3 (nd N p).way with e | e | ⟨k, e⟩
  · rw [lot0 e, e]
    show s = mark (Halt s c) c
    rw [Halt_off hr, mk s hs]
  · rw [lot1 e, e]
    show List.foldl stopChild s (children s p).reverse = _
    rw [children_kids, hs, fold_stopChild, fold_rev mark_comm]
  · rw [lot2 e, e]
    show List.foldl stopChild s ((children s p).filter fun k => decide (c < k)).reverse = _
    rw [children_kids, hs, sorted_cut (kids_sorted N p) hc, fold_stopChild, fold_rev mark_comm, List.reverse_cons, List.foldl_append]
    show _ = List.foldl mark (mark (Halt (List.foldl Halt s ((kids N p).filter fun k => decide (c < k)).reverse) c) c) ((kids N p).filter fun k => decide (c < k))
    have ht : (List.foldl Halt s ((kids N p).filter fun k => decide (c < k)).reverse).nodes = N := (fold_halt_nodes 20 _ s).trans hs
    have hz : running (List.foldl Halt s ((kids N p).filter fun k => decide (c < k)).reverse) c = false := by
      rw [running_run] at hr ⊢
      rw [← hr]
      congr 1
      refine (foldl_ind (P := fun t => t.nodes = N ∧ now t c = now s c) (f := Halt) (fun t d hd h => ?_) s ⟨hs, rfl⟩).2
      rw [List.mem_reverse, List.mem_filter] at hd
      have lt := of_decide_eq_true hd.2
      have hcN := (mem_kids.mp hc).2.1
      exact ⟨(halt_nodes 20 t d).trans h.1, (halt_frame (not_under_lt W lt hcN) (by omega) (mem_kids.mp hc).1 20 t h.1).trans h.2⟩
    rw [Halt_off hz, mk _ ht]
theorem byWay_eq {N : List Node} (W : WT N) {s : St} (hs : s.nodes = N) {p c : Nat} (hp : 1 ≤ p) (hc : c ∈ kids N p) (k2 : (nd N c).kind ≠ 2) (hr : running s c = false) :
    byWay s p c = inOrder Start ((toStop s p c).foldl stopChild s) (toStart ((toStop s p c).foldl stopChild s) p c) := by
  rw [stop_all W hs hp hc k2 hr]
  have hu : ((theLot N p c).foldl mark ((theLot N p c).reverse.foldl Halt s)).nodes = N := by
    refine (foldl_ind (P := fun t : St => t.nodes = N) (f := mark) (fun t d _ h => (mark_nodes t d).trans h) _ ?_)
    exact (fold_halt_nodes 20 _ s).trans hs
  unfold byWay
  rw [hs]
  rw [inOrderG_eq W hp _ _ hu (fun d hd => (theLot_sub N hc).subset hd) (List.Pairwise.sublist (theLot_sub N hc) (kids_nodup N p))]
  congr 1
  unfold toStart
  rw [node_nd, hu, children_kids, hu]
  rcases way3 (nd N p).way with e | e | ⟨k, e⟩
  · rw [lot0 e, e]; rfl
  · rw [lot1 e, e]; rfl
  · rw [lot2 e, e]; rfl
/-- who failed in order -/
theorem inOrder_some {N : List Node} : ∀ (l : List Nat) (u : St) (d : Nat), (inOrder Start u l).2 = some d → d ∈ l
  | [], _, _, h => by cases h
  | a :: l, u, d, h => by
    unfold inOrder at h
    dsimp only at h
    split at h
    · exact List.mem_cons_of_mem _ (inOrder_some (N := N) l _ d h)
    · cases h
      exact List.mem_cons_self
theorem Start_down {N : List Node} (W : WT N) {s : St} (hs : s.nodes = N) (hl : s.nows.length = N.length) {i : Nat} (hi : 1 ≤ i) (hn : i ≤ N.length) (hr : running s i = false) (h : (Start s i).2 = false) : running (Start s i).1 i = false := by
  by_cases f : 0 < (now s i).fails
  · rw [Start_fail f]
    rw [running_run] at hr ⊢
    unfold failAt
    rw [now_same (by show i - 1 < s.nows.length; rw [hl]; omega)]
    exact hr
  · rw [Start_eq W hs hi hn (by omega)] at h ⊢
    dsimp only at h ⊢
    split at h
    · cases h
    · rename_i c
      rw [if_neg c]
      have e : (inOrder Start ((kids N i).foldl ungone (runAt s i)) (kids N i)).1.nodes = N := (inOrder_nodes (start_nodes 20) _ _).trans ((fold_ungone_nodes _ _).trans hs)
      show running (halt_ (19 + 1) _ i) i = false
      unfold halt_
      split
      · rename_i q
        exact q
      · rw [running_run]
        generalize hz : (children (inOrder Start ((kids N i).foldl ungone (runAt s i)) (kids N i)).1 i).reverse.foldl (halt_ 19) (inOrder Start ((kids N i).foldl ungone (runAt s i)) (kids N i)).1 = z
        show (now (stopAt z i _) i).run = none
        unfold stopAt
        by_cases o : i - 1 < z.nows.length
        · rw [now_same (by show i - 1 < z.nows.length; exact o)]
        · rw [set_out (by show z.nows.length ≤ i - 1; omega), now_says, now_out (by omega)]
          rfl
theorem inOrder_down {N : List Node} (W : WT N) {p : Nat} (hp : 1 ≤ p) : ∀ (l : List Nat) (u : St) (d : Nat), u.nodes = N → u.nows.length = N.length → (∀ c ∈ l, c ∈ kids N p ∧ running u c = false) → l.Nodup → (inOrder Start u l).2 = some d → running (inOrder Start u l).1 d = false
  | [], _, _, _, _, _, _, h => by cases h
  | a :: l, u, d, hu, hl, hk, hd, h => by
    have hd' := List.nodup_cons.mp hd
    have ka := hk a List.mem_cons_self
    have h1 := (mem_kids.mp ka.1).1
    have h2 := (mem_kids.mp ka.1).2.1
    unfold inOrder at h ⊢
    dsimp only at h ⊢
    split at h
    · rename_i x
      rw [if_pos x]
      have kk := (Keep.start (N := N) (B := sumF u) ⟨hu, hl, Nat.le_refl _⟩ 20 h1 h2)
      refine inOrder_down W hp l _ d kk.n kk.l (fun c hc => ⟨(hk c (List.mem_cons_of_mem _ hc)).1, ?_⟩) hd'.2 h
      have q := hk c (List.mem_cons_of_mem _ hc)
      rw [running_run] at q ⊢
      rw [start_frame (not_under_sib W hp ka.1 q.1 (fun e => hd'.1 (by rw [e]; exact hc))) h1 (mem_kids.mp q.1).1 20 u hu]
      exact q.2
    · rename_i x
      rw [if_neg x]
      cases h
      exact Start_down W hu hl h1 h2 ka.2 (Bool.eq_false_iff.mpr x)
end LA
namespace LA
open Ha03
/-! # The mathematics, 4: begun again, ended -/
def overs (s : St) (p : Nat) : St := upd1 (says ((children s p).reverse.foldl Halt s) ⟨4, p, runOf s p⟩) p (fun x => { x with run := none, times := [] })
def timed (s : St) (p : Nat) : St := upd1 s p (timer (counted s p))
theorem again_over {f : Nat} {s : St} {p c : Nat} (h : (node s p).most < (counted s p).length) : again (f + 1) s p c = ended f (overs s p) (node s p).parent p 2 := by
  rw [again]
  dsimp only
  rw [if_pos h]
  unfold overs
  rw [← setNow_upd]
  rfl
theorem again_else {f : Nat} {s : St} {p c : Nat} (h : ¬ (node s p).most < (counted s p).length) :
    again (f + 1) s p c = (let x := inOrder Start ((toStop (timed s p) p c).foldl stopChild (timed s p)) (toStart ((toStop (timed s p) p c).foldl stopChild (timed s p)) p c)
      match x.2 with
      | none => x.1
      | some d => again f x.1 p d) := by
  rw [again]
  dsimp only
  rw [if_neg h]
  unfold timed
  rw [← setNow_upd]
  rfl
theorem ended_root {f : Nat} {s : St} {c how : Nat} : ended (f + 1) s 0 c how = s := by
  rw [ended, if_pos rfl]
theorem ended_gone {f : Nat} {s : St} {p c how : Nat} (hp : p ≠ 0) (h : (node s c).kind = 2) : ended (f + 1) s p c how = upd1 s c goner := by
  rw [ended, if_neg hp, if_pos h]
  exact setNow_upd s c goner
theorem ended_well {f : Nat} {s : St} {p c how : Nat} (hp : p ≠ 0) (h : (node s c).kind = 1) (hh : how = 0) : ended (f + 1) s p c how = s := by
  rw [ended, if_neg hp, if_neg (by omega), if_pos ⟨h, hh⟩]
theorem ended_again {f : Nat} {s : St} {p c how : Nat} (hp : p ≠ 0) (h2 : (node s c).kind ≠ 2) (h : ¬ ((node s c).kind = 1 ∧ how = 0)) : ended (f + 1) s p c how = again f s p c := by
  rw [ended, if_neg hp, if_neg h2, if_neg h]
theorem toStart_sub {N : List Node} {u : St} (hu : u.nodes = N) {p c : Nat} (hc : c ∈ kids N p) : (toStart u p c).Sublist (kids N p) := by
  unfold toStart
  refine List.Sublist.trans List.filter_sublist ?_
  rw [node_nd, children_kids, hu]
  exact theLot_sub N hc
theorem WF.upd {s : St} (w : WF tb s) {i : Nat} {g : Now → Now} (h1 : ∀ r, (g (now s i)).run = some r → 0 < r) (h2 : (g (now s i)).fails ≤ 20) (h3 : (g (now s i)).times.length ≤ tb) (h4 : 1 ≤ i) (h5 : i = 1 → (g (now s i)).gone = false) : WF tb (upd1 s i g) := by
  rw [← setNow_upd]
  exact w.set h1 h2 h3 h4 h5
theorem WF.timed {s : St} (w : WF 5 s) {p : Nat} (hp : 1 ≤ p) (h : ¬ (node s p).most < (counted s p).length) : WF 5 (timed s p) := by
  refine w.upd (w.pos p) (w.fails p) ?_ hp (fun h => w.root' h)
  show (counted s p).length ≤ 5
  have := w.t.most p
  rw [node_nd] at h
  omega
theorem WF.timed6 {s : St} (w : WF 5 s) {p : Nat} (hp : 1 ≤ p) : WF 6 (LA.timed s p) := by
  refine (w.mono (by decide : 5 ≤ 6)).upd (w.pos p) (w.fails p) ?_ hp (fun h => w.root' h)
  show (counted s p).length ≤ 6
  unfold counted
  rw [List.length_append]
  have := w.times p
  have := List.length_filter_le (fun t => decide (s.time ≤ t + (node s p).span)) (now s p).times
  simp only [List.length_singleton]
  omega
theorem WF.mark {s : St} (w : WF tb s) {c : Nat} (hc : 2 ≤ c) : WF tb (mark s c) := by
  unfold LA.mark
  split
  · exact w.upd (w.pos c) (w.fails c) (w.times c) (by omega) (fun h => by omega)
  · exact w
theorem WF.overs {s : St} (w : WF tb s) {p : Nat} (hp : 1 ≤ p) : WF tb (overs s p) := by
  have w1 : WF tb ((children s p).reverse.foldl Halt s) := w.foldHalt _ fun c hc => by
    rw [List.mem_reverse, children_kids] at hc
    exact (mem_kids.mp hc).1
  refine (w1.says _).upd (fun r h => by cases h) (w1.fails p) (Nat.zero_le _) hp (fun h => by
    subst h
    exact w1.root)
theorem kid2 {N : List Node} (W : WT N) {p c : Nat} (hp : 1 ≤ p) (hc : c ∈ kids N p) : 2 ≤ c := by
  have := (kid_lt W hp hc).1
  omega
theorem toStop_kids {s : St} {p c d : Nat} (hd : d ∈ toStop s p c) : d ∈ kids s.nodes p := by
  unfold toStop at hd
  split at hd
  · cases hd
  · rw [List.mem_reverse] at hd
    exact hd
  · rw [List.mem_reverse] at hd
    exact (List.mem_filter.mp hd).1
theorem overs_nodes (s : St) (p : Nat) : (overs s p).nodes = s.nodes := fold_halt_nodes 20 _ s
theorem stopC_nodes (l : List Nat) (s : St) : (l.foldl stopChild s).nodes = s.nodes := foldl_ind (P := fun t : St => t.nodes = s.nodes) (f := stopChild) (fun t c _ h => by rw [stopChild_eq, mark_nodes, halt_nodes]; exact h) s rfl
theorem WF.stopC {s : St} (w : WF tb s) (l : List Nat) (hl : ∀ c ∈ l, 2 ≤ c) : WF tb (l.foldl stopChild s) := foldl_ind (f := stopChild) (fun t c hc h => by rw [stopChild_eq]; exact (h.halt 20 (by have := hl c hc; omega)).mark (hl c hc)) s w
theorem WF_again (f : Nat) : (∀ (s : St) (p c how : Nat), WF 5 s → p = 0 ∨ (1 ≤ p ∧ c ∈ kids s.nodes p) → WF 5 (ended f s p c how)) ∧ (∀ (s : St) (p c : Nat), WF 5 s → 1 ≤ p → p ≤ s.nodes.length → c ∈ kids s.nodes p → WF 5 (again f s p c)) := by
  induction f with
  | zero =>
    refine ⟨fun s p c how w _ => ?_, fun s p c w _ _ _ => ?_⟩
    · rw [ended]; exact w
    · rw [again]; exact w
  | succ f ih =>
    refine ⟨fun s p c how w hp => ?_, fun s p c w hp hn hc => ?_⟩
    · rcases hp with rfl | ⟨hp, hc⟩
      · rw [ended_root]; exact w
      · have c2 := kid2 w.t hp hc
        have hlt := kid_lt w.t hp hc
        by_cases k2 : (node s c).kind = 2
        · rw [ended_gone (by omega) k2]
          exact w.upd (w.pos c) (w.fails c) (w.times c) (by omega) (fun h => by omega)
        · by_cases k1 : (node s c).kind = 1 ∧ how = 0
          · rw [ended_well (by omega) k1.1 k1.2]; exact w
          · rw [ended_again (by omega) k2 k1]
            exact ih.2 s p c w hp (by omega) hc
    · by_cases o : (node s p).most < (counted s p).length
      · rw [again_over o]
        refine ih.1 _ _ _ _ (w.overs hp) ?_
        rw [overs_nodes]
        by_cases e : p = 1
        · left
          rw [e, node_nd]
          exact w.t.root
        · right
          have q := w.t.par p (by omega) hn
          rw [node_nd]
          exact ⟨q.1, mem_kids.mpr ⟨hp, hn, rfl⟩⟩
      · rw [again_else o]
        have wt := w.timed hp o
        have wu : WF 5 ((toStop (timed s p) p c).foldl stopChild (timed s p)) := wt.stopC _ fun d hd => kid2 w.t hp (toStop_kids hd)
        have nu : ((toStop (timed s p) p c).foldl stopChild (timed s p)).nodes = s.nodes := stopC_nodes _ _
        have wx := wu.inOrder (toStart ((toStop (timed s p) p c).foldl stopChild (timed s p)) p c) fun d hd => (mem_kids.mp ((toStart_sub nu hc).subset hd)).1
        have nx := (inOrder_nodes (start_nodes 20) ((toStop (timed s p) p c).foldl stopChild (timed s p)) (toStart ((toStop (timed s p) p c).foldl stopChild (timed s p)) p c)).trans nu
        dsimp only
        split
        · exact wx
        · rename_i d hd
          refine ih.2 _ p d wx hp (by rw [nx]; exact hn) ?_
          rw [nx]
          exact (toStart_sub nu hc).subset (inOrder_some (N := s.nodes) _ _ d hd)
theorem says_log (s : St) (e : Event) : (says s e).log.length = s.log.length + 1 := by
  show (s.log ++ [e]).length = _
  rw [List.length_append]
  rfl
theorem stopC_log (l : List Nat) (s : St) : s.log.length ≤ (l.foldl stopChild s).log.length := foldl_ind (P := fun t : St => s.log.length ≤ t.log.length) (f := stopChild) (fun t c _ h => by
  rw [stopChild_eq]
  have q := halt_log 20 t c
  have e : (mark (Halt t c) c).log = (Halt t c).log := by unfold mark; split <;> rfl
  rw [e]
  exact Nat.le_trans h q) s (Nat.le_refl _)
theorem overs_log (s : St) (p : Nat) : s.log.length ≤ (overs s p).log.length := by
  have := fold_halt_log (children s p).reverse s
  have e : (overs s p).log.length = ((children s p).reverse.foldl Halt s).log.length + 1 := says_log _ _
  omega
theorem log_again (f : Nat) : (∀ (s : St) (p c how : Nat), s.log.length ≤ (ended f s p c how).log.length) ∧ (∀ (s : St) (p c : Nat), s.log.length ≤ (again f s p c).log.length) := by
  induction f with
  | zero =>
    refine ⟨fun s p c how => ?_, fun s p c => ?_⟩
    · rw [ended]; exact Nat.le_refl _
    · rw [again]; exact Nat.le_refl _
  | succ f ih =>
    refine ⟨fun s p c how => ?_, fun s p c => ?_⟩
    · rw [ended]
      split
      · exact Nat.le_refl _
      · split
        · exact Nat.le_refl _
        · split
          · exact Nat.le_refl _
          · exact ih.2 s p c
    · by_cases o : (node s p).most < (counted s p).length
      · rw [again_over o]
        exact Nat.le_trans (overs_log s p) (ih.1 _ _ _ _)
      · rw [again_else o]
        have h1 := stopC_log (toStop (timed s p) p c) (timed s p)
        have h2 := inOrder_log (toStart ((toStop (timed s p) p c).foldl stopChild (timed s p)) p c) ((toStop (timed s p) p c).foldl stopChild (timed s p))
        have e : (timed s p).log = s.log := rfl
        rw [e] at h1
        dsimp only
        split
        · omega
        · have := ih.2 (inOrder Start ((toStop (timed s p) p c).foldl stopChild (timed s p)) (toStart ((toStop (timed s p) p c).foldl stopChild (timed s p)) p c)).1 p
          rename_i d hd
          have := this d
          omega
theorem KeepP.upd {N : List Node} {B : Nat} {t : St} (k : KeepP N B t) {i : Nat} {g : Now → Now} (hi : 1 ≤ i) (hn : i ≤ N.length) (h : up1 (g (now t i)) ≤ up1 (now t i)) : KeepP N B (upd1 t i g) := by
  rw [← setNow_upd]
  exact k.set hi hn h
theorem KeepP.says {N : List Node} {B : Nat} {t : St} (k : KeepP N B t) (e : Event) : KeepP N (B + 1) (says t e) := ⟨k.n, k.l, by
  show (t.log ++ [e]).length + sm up1 t ≤ _
  rw [List.length_append]
  have := k.b
  unfold Phi at this
  simp only [List.length_singleton]
  omega⟩
theorem KeepP.stopC {N : List Node} (W : WT N) {B : Nat} {t : St} (k : KeepP N B t) (l : List Nat) (hl : ∀ c ∈ l, 1 ≤ c ∧ c ≤ N.length) : KeepP N B (l.foldl stopChild t) := foldl_ind (f := stopChild) (fun u c hc h => by
  rw [stopChild_eq]
  have q := h.halt W 20 (hl c hc).1 (hl c hc).2
  unfold mark
  split
  · exact q.upd (hl c hc).1 (hl c hc).2 (Nat.le_refl _)
  · exact q) t k
theorem P_again {N : List Node} (W : WT N) (f : Nat) : (∀ (s : St) (p c how B : Nat), KeepP N B s → p = 0 ∨ (1 ≤ p ∧ c ∈ kids N p) → KeepP N (B + 30 * f) (ended f s p c how)) ∧ (∀ (s : St) (p c B : Nat), KeepP N B s → 1 ≤ p → p ≤ N.length → c ∈ kids N p → KeepP N (B + 30 * f) (again f s p c)) := by
  induction f with
  | zero =>
    refine ⟨fun s p c how B k _ => ?_, fun s p c B k _ _ _ => ?_⟩
    · rw [ended]; exact k
    · rw [again]; exact k
  | succ f ih =>
    refine ⟨fun s p c how B k hp => ?_, fun s p c B k hp hn hc => ?_⟩
    · rcases hp with rfl | ⟨hp, hc⟩
      · rw [ended_root]; exact k.mono (by omega)
      · have hlt := kid_lt W hp hc
        by_cases k2 : (node s c).kind = 2
        · rw [ended_gone (by omega) k2]
          exact (k.upd (by omega) hlt.2 (Nat.le_refl _)).mono (by omega)
        · by_cases k1 : (node s c).kind = 1 ∧ how = 0
          · rw [ended_well (by omega) k1.1 k1.2]; exact k.mono (by omega)
          · rw [ended_again (by omega) k2 k1]
            exact (ih.2 s p c B k hp (by omega) hc).mono (by omega)
    · by_cases o : (node s p).most < (counted s p).length
      · rw [again_over o]
        have ko : KeepP N (B + 1) (overs s p) := by
          have q := k.foldHalt W (children s p).reverse fun c hc => by
            rw [List.mem_reverse, children_kids, k.n] at hc
            exact ⟨(mem_kids.mp hc).1, (mem_kids.mp hc).2.1⟩
          exact (q.says _).upd hp hn (Nat.zero_le _)
        refine (ih.1 _ _ _ _ (B + 1) ko ?_).mono (by omega)
        by_cases e : p = 1
        · left
          rw [e, node_nd, k.n]
          exact W.root
        · right
          have q := W.par p (by omega) hn
          rw [node_nd, k.n]
          exact ⟨q.1, mem_kids.mpr ⟨hp, hn, rfl⟩⟩
      · rw [again_else o]
        have kt : KeepP N B (timed s p) := k.upd hp hn (Nat.le_refl _)
        have ku := kt.stopC W (toStop (timed s p) p c) fun d hd => by
          have := toStop_kids hd
          rw [kt.n] at this
          exact ⟨(mem_kids.mp this).1, (mem_kids.mp this).2.1⟩
        have sub := toStart_sub ku.n hc
        have kx := inOrder_P (N := N) (st := Start) (g := desc N 20) (toStart ((toStop (timed s p) p c).foldl stopChild (timed s p)) p c) _ B (fun d hd u B h => start_P W 20 u d B (mem_kids.mp (sub.subset hd)).1 (mem_kids.mp (sub.subset hd)).2.1 h) ku
        have fl := flat_len W hp 20 _ sub
        dsimp only
        split
        · exact kx.mono (by omega)
        · rename_i d hd
          have kx' := kx.mono (show _ ≤ B + 28 by omega)
          exact (ih.2 _ p d (B + 28) kx' hp hn (sub.subset (inOrder_some (N := N) _ _ d hd))).mono (by omega)
/-- one turn of the program's loop: where a start failed -/
theorem turn_some {s : St} (w : WF tb s) {p c d : Nat} (hp : 1 ≤ p) (hn : p ≤ s.nodes.length) (hc : c ∈ kids s.nodes p) (k2 : (nd s.nodes c).kind ≠ 2) (hr : running s c = false) (h : (byWay s p c).2 = some d) :
    WF tb (byWay s p c).1 ∧ (byWay s p c).1.nodes = s.nodes ∧ d ∈ kids s.nodes p ∧ (nd s.nodes d).kind ≠ 2 ∧ running (byWay s p c).1 d = false ∧ sumF (byWay s p c).1 + 1 ≤ sumF s := by
  have E := byWay_eq w.t rfl hp hc k2 hr
  have SA := stop_all w.t rfl hp hc k2 hr
  have nu : ((toStop s p c).foldl stopChild s).nodes = s.nodes := stopC_nodes _ _
  have sub := toStart_sub nu hc
  have wu : WF tb ((toStop s p c).foldl stopChild s) := w.stopC _ fun d hd => kid2 w.t hp (toStop_kids hd)
  rw [E] at h
  have hd := inOrder_some (N := s.nodes) _ _ d h
  have ku : Keep s.nodes (sumF s) ((toStop s p c).foldl stopChild s) := foldl_ind (f := stopChild) (fun t e he k => by
    have q := toStop_kids he
    have q1 := (mem_kids.mp q).1
    have q2 := (mem_kids.mp q).2.1
    rw [stopChild_eq]
    have k' := k.halt 20 q1 q2
    unfold mark
    split
    · rw [← setNow_upd]
      exact k'.setF q1 q2 (Nat.le_refl _)
    · exact k') s (Keep.of w)
  have less := inOrder_less w.t _ _ _ (fun e he => ⟨(mem_kids.mp (sub.subset he)).1, (mem_kids.mp (sub.subset he)).2.1⟩) ku (by rw [h]; exact Option.some_ne_none _)
  have wx := wu.inOrder (toStart ((toStop s p c).foldl stopChild s) p c) fun d hd => (mem_kids.mp (sub.subset hd)).1
  -- what stands in the lot
  have mem : ∀ e, e ∈ toStart ((toStop s p c).foldl stopChild s) p c → e ∈ theLot s.nodes p c ∧ (now ((toStop s p c).foldl stopChild s) e).gone = false := fun e he => by
    unfold toStart at he
    rw [node_nd, children_kids, nu, List.mem_filter] at he
    exact ⟨he.1, by simpa using he.2⟩
  -- after the marks
  have markFrame : ∀ (l : List Nat) (t : St) (e : Nat), (∀ x ∈ l, 1 ≤ x) → 1 ≤ e → (now (l.foldl mark t) e).run = (now t e).run := by
    intro l
    induction l with
    | nil => intro t e _ _; rfl
    | cons a l ih =>
      intro t e hl he
      rw [List.foldl_cons, ih _ _ (fun x hx => hl x (List.mem_cons_of_mem _ hx)) he]
      unfold mark
      split
      · exact run_upd calm_goner t a e
      · rfl
  have haltOff : ∀ (l : List Nat) (t : St), t.nodes = s.nodes → l.Nodup → (∀ x ∈ l, x ∈ kids s.nodes p) → ∀ e ∈ l, running (l.foldl Halt t) e = false := by
    intro l
    induction l with
    | nil => intro t _ _ _ e he; cases he
    | cons a l ih =>
      intro t ht hnd hl e he
      have hnd' := List.nodup_cons.mp hnd
      rw [List.foldl_cons]
      obtain rfl | he := List.mem_cons.mp he
      · have ke := hl e List.mem_cons_self
        have e1 := (mem_kids.mp ke).1
        have e2 := (mem_kids.mp ke).2.1
        have fr : now (l.foldl Halt (Halt t e)) e = now (Halt t e) e := by
          refine (foldl_ind (P := fun u => u.nodes = s.nodes ∧ now u e = now (Halt t e) e) (f := Halt) (fun u x hx h => ?_) _ ⟨(halt_nodes 20 t e).trans ht, rfl⟩).2
          have kx := hl x (List.mem_cons_of_mem _ hx)
          exact ⟨(halt_nodes 20 u x).trans h.1, (halt_frame (not_under_sib w.t hp kx ke (fun q => hnd'.1 (by rw [← q]; exact hx))) (mem_kids.mp kx).1 e1 20 u h.1).trans h.2⟩
        rw [running_run, fr]
        by_cases r : running t e = true
        · rw [Halt_eq w.t ht e1 e2 r, stopAt_upd]
          by_cases o : e - 1 < (says (List.foldl Halt t (kids s.nodes e).reverse) ⟨1, e, runOf t e⟩).nows.length
          · rw [now_upd_same o]; rfl
          · rw [← setNow_upd, set_out (by omega), now_out (by omega)]; rfl
        · rw [Halt_off (Bool.eq_false_iff.mpr r)]
          exact running_run.mp (Bool.eq_false_iff.mpr r)
      · exact ih (Halt t a) ((halt_nodes 20 t a).trans ht) hnd'.2 (fun x hx => hl x (List.mem_cons_of_mem _ hx)) e he
  have lotsub := theLot_sub s.nodes hc
  have lotnd : (theLot s.nodes p c).Nodup := List.Pairwise.sublist lotsub (kids_nodup _ p)
  have off : ∀ e, e ∈ theLot s.nodes p c → running ((toStop s p c).foldl stopChild s) e = false := fun e he => by
    have ke := lotsub.subset he
    rw [running_run, SA, markFrame _ _ _ (fun x hx => (mem_kids.mp (lotsub.subset hx)).1) (mem_kids.mp ke).1, ← running_run]
    exact haltOff _ s rfl (List.pairwise_reverse.mpr (List.Pairwise.imp (fun h => Ne.symm h) lotnd)) (fun x hx => lotsub.subset (List.mem_reverse.mp hx)) e (List.mem_reverse.mpr he)
  have goneAll : ∀ (l : List Nat) (t : St), t.nodes = s.nodes → t.nows.length = s.nodes.length → (∀ x ∈ l, 1 ≤ x ∧ x ≤ s.nodes.length) → ∀ e, 1 ≤ e → e ≤ s.nodes.length → ((nd s.nodes e).kind = 2 → e ∈ l ∨ (now t e).gone = true) → (nd s.nodes e).kind = 2 → (now (l.foldl mark t) e).gone = true := by
    intro l
    induction l with
    | nil =>
      intro t _ _ _ e _ _ h k
      rcases h k with h | h
      · cases h
      · exact h
    | cons a l ih =>
      intro t ht hl hx e e1 e2 h k
      have ha := hx a List.mem_cons_self
      rw [List.foldl_cons]
      refine ih (mark t a) ((mark_nodes t a).trans ht) ?_ (fun x hx' => hx x (List.mem_cons_of_mem _ hx')) e e1 e2 (fun _ => ?_) k
      · unfold mark
        split
        · show (t.nows.modify _ _).length = _
          rw [List.length_modify]
          exact hl
        · exact hl
      · have step : e = a ∨ (now t e).gone = true → (now (mark t a) e).gone = true := fun q => by
          unfold mark
          by_cases ea : e = a
          · subst ea
            rw [if_pos (by rw [node_nd, ht]; exact k), now_upd_same (by rw [hl]; omega)]
            rfl
          · have q' := q.resolve_left ea
            split
            · rw [now_upd_ne ha.1 e1 (fun z => ea z.symm)]
              exact q'
            · exact q'
        rcases h k with h | h
        · obtain rfl | h := List.mem_cons.mp h
          · exact .inr (step (.inl rfl))
          · exact .inl h
        · exact .inr (step (.inr h))
  have hm := mem d hd
  have kd := sub.subset hd
  refine ⟨?_, ?_, kd, ?_, ?_, ?_⟩
  · rw [E]; exact wx
  · rw [E]; exact (inOrder_nodes (start_nodes 20) _ _).trans nu
  · intro kk
    have hl := (wu.len).trans (by rw [nu])
    have q := goneAll (theLot s.nodes p c) ((theLot s.nodes p c).reverse.foldl Halt s) (fold_halt_nodes 20 _ s) (by
      have := (w.foldHalt (theLot s.nodes p c).reverse fun x hx => (mem_kids.mp (lotsub.subset (List.mem_reverse.mp hx))).1).len
      rw [fold_halt_nodes] at this
      exact this) (fun x hx => ⟨(mem_kids.mp (lotsub.subset hx)).1, (mem_kids.mp (lotsub.subset hx)).2.1⟩) d (mem_kids.mp kd).1 (mem_kids.mp kd).2.1 (fun _ => .inl hm.1) kk
    rw [← SA, hm.2] at q
    cases q
  · rw [E]
    exact inOrder_down w.t hp _ _ d nu (wu.len.trans (by rw [nu])) (fun e he => ⟨sub.subset he, off e (mem e he).1⟩) (List.Pairwise.sublist sub (kids_nodup _ p)) h
  · rw [E]
    have := less.2.b
    have := less.1
    omega
end LA
namespace LA
open Ha03
/-! # The mathematics, 5: what runs stands below what runs -/
def TRI (s : St) : Prop := ∀ k, 2 ≤ k → k ≤ s.nodes.length → running s k = true → running s (nd s.nodes k).parent = true
def Down (s : St) (i : Nat) : Prop := ∀ k, Under s.nodes i k → k ≤ s.nodes.length → running s k = false
theorem off_of {s t : St} {k : Nat} (h : (now t k).run = (now s k).run) : running t k = running s k := by
  unfold running
  rw [h]
theorem tri_down {s : St} (W : WT s.nodes) (T : TRI s) {i : Nat} (hi : 1 ≤ i) (h : running s i = false) : Down s i := by
  intro k u
  induction u with
  | refl => exact fun _ => h
  | step u ih =>
    rename_i k
    intro hk
    have hp := par_le W hk
    have := u.le W (by omega)
    have k2 : 2 ≤ k := by
      rcases Nat.lt_or_ge k 2 with q | q
      · have e : nd s.nodes k = nd s.nodes 1 := by
          unfold nd
          rw [show k - 1 = 1 - 1 by omega]
        rw [e, W.root] at this
        omega
      · exact q
    have q := ih (by omega)
    cases r : running s k with
    | false => rfl
    | true =>
      have := T k k2 hk r
      rw [q] at this
      cases this
theorem halt_mono {s : St} {k : Nat} (h : running s k = false) (f : Nat) (i : Nat) : running (halt_ f s i) k = false := by
  rw [running_run] at h ⊢
  refine (halt_ind (N := s.nodes) (fun t => t.nodes = s.nodes ∧ (now t k).run = none) (fun _ => True) (fun _ h => h.1) (fun _ _ _ _ => trivial) (fun t i r _ h => ⟨h.1, ?_⟩) f s i trivial ⟨rfl, h⟩).2
  rw [stopAt_upd]
  unfold now upd1 says
  simp only [List.getD_eq_getElem?_getD, List.getElem?_modify]
  have q := h.2
  unfold now at q
  rw [List.getD_eq_getElem?_getD] at q
  cases e : t.nows[k - 1]? with
  | none => rfl
  | some x =>
    rw [e] at q
    by_cases z : i - 1 = k - 1
    · simp [z, noRun]
    · simp only [z, if_false]
      exact q
theorem under_cases {N : List Node} {i k : Nat} (u : Under N i k) : 1 ≤ i → WT N → k ≤ N.length → k = i ∨ ∃ c ∈ kids N i, Under N c k := by
  induction u with
  | refl => exact fun _ _ _ => .inl rfl
  | step u ih =>
    rename_i k
    intro hi W hk
    have hp := par_le W hk
    have := u.le W (by omega)
    rcases ih hi W (by omega) with e | ⟨c, hc, uc⟩
    · exact .inr ⟨k, mem_kids.mpr ⟨by omega, hk, e⟩, .refl⟩
    · exact .inr ⟨c, hc, .step uc⟩
theorem not_under_par {N : List Node} {i k : Nat} (h : ¬ Under N i k) : ¬ Under N i (nd N k).parent := fun u => h (.step u)
theorem tri_of_down {N : List Node} (W : WT N) {s : St} (hs : s.nodes = N) (T : TRI s) {i : Nat} (hi : 1 ≤ i) {f : Nat} (hd : ∀ k, Under N i k → k ≤ N.length → running (halt_ f s i) k = false) : TRI (halt_ f s i) := by
  intro k k2 hk hr
  have hn := halt_nodes f s i
  rw [hn] at hk ⊢
  rw [hs] at hk ⊢
  have nu : ¬ Under N i k := fun u => by
    rw [hd k u hk] at hr
    cases hr
  have rs : running s k = true := by
    cases q : running s k with
    | true => rfl
    | false =>
      rw [halt_mono q] at hr
      cases hr
  have hp := W.par k k2 hk
  have e := halt_frame (not_under_par nu) hi hp.1 f s hs
  have q := T k k2 (by rw [hs]; exact hk) rs
  rw [hs] at q
  rw [← q]
  exact off_of (by rw [e])
theorem halt_tri {N : List Node} (W : WT N) : ∀ (f : Nat) (s : St) (i : Nat), s.nodes = N → TRI s → 1 ≤ i → i ≤ N.length → 15 ≤ f + i → (∀ k, Under N i k → k ≤ N.length → running (halt_ f s i) k = false) ∧ TRI (halt_ f s i)
  | 0, _, i, _, _, _, hn, hf => by have := W.len14; omega
  | f + 1, s, i, hs, T, hi, hn, hf => by
    have down : ∀ k, Under N i k → k ≤ N.length → running (halt_ (f + 1) s i) k = false := by
      intro k u hk
      by_cases r : running s i = false
      · have e : halt_ (f + 1) s i = s := by
          unfold halt_
          rw [if_pos r]
        rw [e]
        subst hs
        exact tri_down W T hi r k u hk
      · unfold halt_
        rw [if_neg r]
        have fold : ∀ (l : List Nat) (t : St), t.nodes = N → TRI t → (∀ c ∈ l, c ∈ kids N i) → ∀ c ∈ l, ∀ k, Under N c k → k ≤ N.length → running (l.foldl (halt_ f) t) k = false := by
          intro l
          induction l with
          | nil => intro t _ _ _ c hc; cases hc
          | cons a l ih =>
            intro t ht Tt hl c hc k u hk
            have ka := hl a List.mem_cons_self
            have la := kid_lt W hi ka
            have q := halt_tri W f t a ht Tt (by omega) la.2 (by omega)
            rw [List.foldl_cons]
            obtain rfl | hc := List.mem_cons.mp hc
            · have z := q.1 k u hk
              exact foldl_ind (P := fun t => running t k = false) (fun t d _ h => halt_mono h f d) _ z
            · exact ih (halt_ f t a) ((halt_nodes f t a).trans ht) q.2 (fun c hc => hl c (List.mem_cons_of_mem _ hc)) c hc k u hk
        have hk' : ∀ c ∈ (children s i).reverse, c ∈ kids N i := fun c hc => by
          rw [List.mem_reverse, children_kids, hs] at hc
          exact hc
        show running (stopAt _ i _) k = false
        rcases under_cases u hi W hk with e | ⟨c, hc, uc⟩
        · subst e
          rw [running_run, stopAt_upd]
          by_cases o : k - 1 < (says (List.foldl (halt_ f) s (children s k).reverse) ⟨1, k, runOf s k⟩).nows.length
          · rw [now_upd_same o]; rfl
          · rw [← setNow_upd, set_out (by omega), now_out (by omega)]; rfl
        · have z := fold _ s hs T hk' c (by rw [List.mem_reverse, children_kids, hs]; exact hc) k uc hk
          have kn : i ≠ k := fun e => by
            have := uc.le W hk
            have := kid_lt W hi hc
            omega
          have k1 : 1 ≤ k := by
            have := uc.le W hk
            have := kid_lt W hi hc
            omega
          rw [running_run] at z ⊢
          rw [stopAt_upd, now_upd_ne hi k1 kn, now_says]
          exact z
    exact ⟨down, tri_of_down W hs T hi down⟩
theorem fold_tri {N : List Node} (W : WT N) : ∀ (l : List Nat) (s : St), s.nodes = N → TRI s → (∀ c ∈ l, 1 ≤ c ∧ c ≤ N.length) → TRI (l.foldl Halt s) ∧ ∀ c ∈ l, running (l.foldl Halt s) c = false
  | [], s, _, T, _ => ⟨T, fun c hc => by cases hc⟩
  | a :: l, s, hs, T, hl => by
    have ha := hl a List.mem_cons_self
    have q := halt_tri W 20 s a hs T ha.1 ha.2 (by omega)
    have ih := fold_tri W l (Halt s a) ((halt_nodes 20 s a).trans hs) q.2 (fun c hc => hl c (List.mem_cons_of_mem _ hc))
    rw [List.foldl_cons]
    refine ⟨ih.1, fun c hc => ?_⟩
    obtain rfl | hc := List.mem_cons.mp hc
    · exact foldl_ind (P := fun t => running t c = false) (f := Halt) (fun t d _ h => halt_mono h 20 d) _ (q.1 c .refl ha.2)
    · exact ih.2 c hc
theorem TRI.same {s t : St} (T : TRI s) (hn : t.nodes = s.nodes) (h : ∀ k, (now t k).run = (now s k).run) : TRI t := by
  intro k k2 hk hr
  rw [hn] at hk ⊢
  rw [off_of (h k)] at hr
  rw [off_of (h _)]
  exact T k k2 hk hr
theorem TRI.upd {s : St} (T : TRI s) {g : Now → Now} (c : Calm g) (k : Nat) : TRI (upd1 s k g) := T.same rfl fun j => run_upd c s k j
theorem TRI.mark {s : St} (T : TRI s) (c : Nat) : TRI (mark s c) := by
  unfold LA.mark
  split
  · exact T.upd calm_goner c
  · exact T
def ungoner (x : Now) : Now := { x with gone := false }
theorem calm_ungoner : Calm ungoner := ⟨fun _ => rfl, fun _ => rfl⟩
theorem ungone_upd (s : St) (c : Nat) : ungone s c = upd1 s c ungoner := setNow_upd s c ungoner
theorem fold_ungone_run (l : List Nat) (s : St) (k : Nat) : (now (l.foldl ungone s) k).run = (now s k).run :=
  foldl_ind (P := fun t : St => (now t k).run = (now s k).run) (f := ungone) (fun t c _ h => by
    rw [ungone_upd, run_upd calm_ungoner]
    exact h) s rfl
theorem runAt_now_ne {s : St} {i k : Nat} (hi : 1 ≤ i) (hk : 1 ≤ k) (n : i ≠ k) : now (runAt s i) k = now s k := now_ne (s := s) hi hk n
theorem runAt_now {s : St} {i : Nat} (h : i - 1 < s.nows.length) : now (runAt s i) i = { now s i with run := some (s.last + 1), times := [], gone := false } := now_same (s := s) h
theorem runAt_run {s : St} {i : Nat} (h : i - 1 < s.nows.length) : running (runAt s i) i = true := by
  unfold running
  rw [runAt_now h]
  rfl
theorem start_tri {N : List Node} (W : WT N) : ∀ (f : Nat) (s : St) (i : Nat), s.nodes = N → s.nows.length = N.length → TRI s → Down s i → (i = 1 ∨ running s (nd N i).parent = true) → 1 ≤ i → i ≤ N.length → 15 ≤ f + i → TRI (start f s i).1
  | 0, _, i, _, _, _, _, _, _, hn, hf => by have := W.len14; omega
  | f + 1, s, i, hs, hl, T, D, hp, hi, hn, hf => by
    rw [start_succ]
    split
    · refine T.same rfl fun k => ?_
      show (now (setNow (says s ⟨3, i, 0⟩) i { now s i with fails := (now s i).fails - 1 }) k).run = _
      have c : Calm (fun x : Now => { x with fails := x.fails - 1 }) := ⟨fun _ => rfl, fun _ => rfl⟩
      rw [show setNow (says s ⟨3, i, 0⟩) i { now s i with fails := (now s i).fails - 1 } = upd1 (says s ⟨3, i, 0⟩) i (fun x : Now => { x with fails := x.fails - 1 }) from setNow_upd (says s ⟨3, i, 0⟩) i (fun x : Now => { x with fails := x.fails - 1 }), run_upd c]
      rfl
    · have ek : children (runAt s i) i = kids N i := by
        show kids s.nodes i = _
        rw [hs]
      have un : ((kids N i).foldl ungone (runAt s i)).nodes = N := (fold_ungone_nodes _ _).trans hs
      have ek2 : children ((kids N i).foldl ungone (runAt s i)) i = kids N i := by rw [children_kids, un]
      dsimp only
      rw [ek, ek2]
      have T1 : TRI (runAt s i) := by
        intro k k2 hk hr
        have hk : k ≤ N.length := by rw [← hs]; exact hk
        show running (runAt s i) (nd s.nodes k).parent = true
        rw [hs]
        have hpk := W.par k k2 hk
        by_cases e : i = (nd N k).parent
        · rw [← e]
          exact runAt_run (by rw [hl]; omega)
        · by_cases ki : i = k
          · subst ki
            rcases hp with rfl | hp
            · omega
            · rw [← hp]
              exact off_of (by rw [runAt_now_ne hi hpk.1 e])
          · have r : running s k = true := by
              rw [← hr]
              exact (off_of (by rw [runAt_now_ne hi (by omega) ki])).symm
            have q := T k k2 (by rw [hs]; exact hk) r
            rw [hs] at q
            rw [← q]
            exact off_of (by rw [runAt_now_ne hi hpk.1 e])
      have Tu : TRI ((kids N i).foldl ungone (runAt s i)) := T1.same (fold_ungone_nodes _ _) fun k => fold_ungone_run _ _ k
      have ru : running ((kids N i).foldl ungone (runAt s i)) i = true := by
        rw [← runAt_run (s := s) (i := i) (by rw [hl]; omega)]
        exact off_of (fold_ungone_run _ _ i)
      have lu : ((kids N i).foldl ungone (runAt s i)).nows.length = N.length := foldl_ind (P := fun t : St => t.nows.length = N.length) (f := ungone) (fun t c _ h => by
        show (t.nows.set _ _).length = _
        rw [List.length_set]
        exact h) _ (by show (s.nows.set _ _).length = _; rw [List.length_set]; exact hl)
      have Du : ∀ c ∈ kids N i, Down ((kids N i).foldl ungone (runAt s i)) c := by
        intro c hc k u hk
        rw [un] at u hk
        have lc := kid_lt W hi hc
        have ck := u.le W hk
        have e0 : running (runAt s i) k = running s k := off_of (by rw [runAt_now_ne hi (by omega) (by omega)])
        rw [off_of (fold_ungone_run _ _ k), e0]
        refine D k ?_ (by rw [hs]; exact hk)
        rw [hs]
        have : ∀ {y}, Under N c y → Under N i y := fun {y} w => by
          induction w with
          | refl => exact Under.refl.kid hc
          | step _ ih => exact .step ih
        exact this u
      have key : ∀ (l : List Nat) (u : St), u.nodes = N → u.nows.length = N.length → TRI u → running u i = true → (∀ c ∈ l, c ∈ kids N i ∧ Down u c) → l.Nodup → TRI (inOrder (start f) u l).1 := by
        intro l
        induction l with
        | nil => intro u _ _ T _ _ _; exact T
        | cons a l ih =>
          intro u hu hlu Tu ru hl nd'
          have nd2 := List.nodup_cons.mp nd'
          have ka := hl a List.mem_cons_self
          have la := kid_lt W hi ka.1
          have q := start_tri W f u a hu hlu Tu ka.2 (.inr (by rw [(mem_kids.mp ka.1).2.2]; exact ru)) (by omega) la.2 (by omega)
          unfold inOrder
          dsimp only
          split
          · refine ih _ ((start_nodes f u a).trans hu) ((Keep.start (N := N) (B := sumF u) ⟨hu, hlu, Nat.le_refl _⟩ f (by omega) la.2).l) q ?_ (fun c hc => ⟨(hl c (List.mem_cons_of_mem _ hc)).1, ?_⟩) nd2.2
            · rw [← ru]
              exact off_of (by rw [start_frame (not_under_lt W la.1 hn) (by omega) hi f u hu])
            · have kc := hl c (List.mem_cons_of_mem _ hc)
              have lc := kid_lt W hi kc.1
              intro k uk hk
              rw [start_nodes, hu] at uk hk
              have ck := uk.le W hk
              have nu : ¬ Under N a k := fun ua => by
                have ne : a ≠ c := fun e => nd2.1 (by rw [e]; exact hc)
                rcases under_line ua uk with z | z
                · exact not_under_sib W hi ka.1 kc.1 ne z
                · exact not_under_sib W hi kc.1 ka.1 (Ne.symm ne) z
              have e0 : running (start f u a).1 k = running u k := off_of (by rw [start_frame nu (by omega) (by omega) f u hu])
              rw [e0]
              exact kc.2 k (by rw [hu]; exact uk) (by rw [hu]; exact hk)
          · exact q
      have Tx := key (kids N i) _ un lu Tu ru (fun c hc => ⟨hc, Du c hc⟩) (kids_nodup N i)
      split
      · exact Tx
      · exact (halt_tri W (f + 1) _ i ((inOrder_nodes (start_nodes f) _ _).trans un) Tx hi hn hf).2
theorem down_sib {N : List Node} (W : WT N) {p : Nat} (hp : 1 ≤ p) {u : St} (hu : u.nodes = N) {a c : Nat} (ka : a ∈ kids N p) (kc : c ∈ kids N p) (ne : a ≠ c) (f : Nat) (D : Down u c) : Down (start f u a).1 c := by
  intro k uk hk
  rw [start_nodes, hu] at uk hk
  have lc := kid_lt W hp kc
  have la := kid_lt W hp ka
  have ck := uk.le W hk
  have nu : ¬ Under N a k := fun ua => by
    rcases under_line ua uk with z | z
    · exact not_under_sib W hp ka kc ne z
    · exact not_under_sib W hp kc ka (Ne.symm ne) z
  have e0 : running (start f u a).1 k = running u k := off_of (by rw [start_frame nu (by omega) (by omega) f u hu])
  rw [e0]
  exact D k (by rw [hu]; exact uk) (by rw [hu]; exact hk)
theorem inOrderG_tri {N : List Node} (W : WT N) {p : Nat} (hp : 1 ≤ p) (hpn : p ≤ N.length) : ∀ (l : List Nat) (u : St), u.nodes = N → u.nows.length = N.length → TRI u → running u p = true → (∀ c ∈ l, c ∈ kids N p ∧ Down u c) → l.Nodup → TRI (inOrderG u l).1 ∧ running (inOrderG u l).1 p = true
  | [], u, _, _, T, r, _, _ => ⟨T, r⟩
  | a :: l, u, hu, hlu, Tu, ru, hl, nd' => by
    have nd2 := List.nodup_cons.mp nd'
    have ka := hl a List.mem_cons_self
    have la := kid_lt W hp ka.1
    unfold inOrderG
    by_cases gn : (now u a).gone = true
    · rw [if_pos gn]
      exact inOrderG_tri W hp hpn l u hu hlu Tu ru (fun c hc => hl c (List.mem_cons_of_mem _ hc)) nd2.2
    · rw [if_neg gn]
      have q := start_tri W 20 u a hu hlu Tu ka.2 (.inr (by rw [(mem_kids.mp ka.1).2.2]; exact ru)) (by omega) la.2 (by omega)
      have rp : running (Start u a).1 p = true := by
        rw [← ru]
        exact off_of (by rw [start_frame (not_under_lt W la.1 hpn) (by omega) hp 20 u hu])
      by_cases x : (Start u a).2 = true
      · rw [if_pos x]
        exact inOrderG_tri W hp hpn l _ ((start_nodes 20 u a).trans hu) ((Keep.start (N := N) (B := sumF u) ⟨hu, hlu, Nat.le_refl _⟩ 20 (by omega) la.2).l) q rp
          (fun c hc => ⟨(hl c (List.mem_cons_of_mem _ hc)).1, down_sib W hp hu ka.1 (hl c (List.mem_cons_of_mem _ hc)).1 (fun e => nd2.1 (by rw [e]; exact hc)) 20 (hl c (List.mem_cons_of_mem _ hc)).2⟩) nd2.2
      · rw [if_neg x]
        exact ⟨q, rp⟩
/-- before the starts of one turn: what is to be started is down, the keeper runs -/
theorem lot_down {s : St} (w : WF tb s) (T : TRI s) {p c : Nat} (hp : 1 ≤ p) (hpn : p ≤ s.nodes.length) (hc : c ∈ kids s.nodes p) (rp : running s p = true) :
    TRI ((theLot s.nodes p c).foldl mark ((theLot s.nodes p c).reverse.foldl Halt s)) ∧ running ((theLot s.nodes p c).foldl mark ((theLot s.nodes p c).reverse.foldl Halt s)) p = true ∧
    ∀ d ∈ theLot s.nodes p c, Down ((theLot s.nodes p c).foldl mark ((theLot s.nodes p c).reverse.foldl Halt s)) d := by
  have sub := theLot_sub s.nodes hc
  have F := fold_tri w.t (theLot s.nodes p c).reverse s rfl T (fun d hd => ⟨(mem_kids.mp (sub.subset (List.mem_reverse.mp hd))).1, (mem_kids.mp (sub.subset (List.mem_reverse.mp hd))).2.1⟩)
  have run : ∀ (l : List Nat) (t : St) (k : Nat), (now (l.foldl mark t) k).run = (now t k).run := fun l t k => foldl_ind (P := fun u : St => (now u k).run = (now t k).run) (f := mark) (fun u d _ h => by
    unfold mark
    split
    · rw [run_upd calm_goner]; exact h
    · exact h) t rfl
  have nm : ∀ (l : List Nat) (t : St), (l.foldl mark t).nodes = t.nodes := fun l t => foldl_ind (P := fun u : St => u.nodes = t.nodes) (f := mark) (fun u d _ h => (mark_nodes u d).trans h) t rfl
  have T2 : TRI ((theLot s.nodes p c).foldl mark ((theLot s.nodes p c).reverse.foldl Halt s)) := F.1.same (nm _ _) (run _ _)
  have n2 : ((theLot s.nodes p c).foldl mark ((theLot s.nodes p c).reverse.foldl Halt s)).nodes = s.nodes := (nm _ _).trans (fold_halt_nodes 20 _ s)
  refine ⟨T2, ?_, fun d hd => ?_⟩
  · rw [off_of (run _ _ p), ← rp]
    exact off_of (by rw [fold_halt_now w.t hp hpn 20 _ (fun d hd => sub.subset (List.mem_reverse.mp hd)) s rfl])
  · refine tri_down (by rw [n2]; exact w.t) T2 (mem_kids.mp (sub.subset hd)).1 ?_
    rw [off_of (run _ _ d)]
    exact F.2 d (List.mem_reverse.mpr hd)
theorem byWay_tri {s : St} (w : WF tb s) (T : TRI s) {p c : Nat} (hp : 1 ≤ p) (hpn : p ≤ s.nodes.length) (hc : c ∈ kids s.nodes p) (rp : running s p = true) : TRI (byWay s p c).1 ∧ running (byWay s p c).1 p = true := by
  have L := lot_down w T hp hpn hc rp
  have sub := theLot_sub s.nodes hc
  have nm : ∀ (l : List Nat) (t : St), (l.foldl mark t).nodes = t.nodes := fun l t => foldl_ind (P := fun u : St => u.nodes = t.nodes) (f := mark) (fun u d _ h => (mark_nodes u d).trans h) t rfl
  have wm : ∀ (l : List Nat) (t : St), WF tb t → (∀ d ∈ l, 2 ≤ d) → WF tb (l.foldl mark t) := fun l t wt hl => foldl_ind (f := mark) (fun u d hd h => h.mark (hl d hd)) t wt
  have w2 := wm (theLot s.nodes p c) ((theLot s.nodes p c).reverse.foldl Halt s) (w.foldHalt _ fun d hd => (mem_kids.mp (sub.subset (List.mem_reverse.mp hd))).1) fun d hd => kid2 w.t hp (sub.subset hd)
  have n2 : ((theLot s.nodes p c).foldl mark ((theLot s.nodes p c).reverse.foldl Halt s)).nodes = s.nodes := (nm _ _).trans (fold_halt_nodes 20 _ s)
  exact inOrderG_tri w.t hp hpn _ _ n2 (by rw [w2.len, n2]) L.1 L.2.1 (fun d hd => ⟨sub.subset hd, L.2.2 d hd⟩) (List.Pairwise.sublist sub (kids_nodup _ p))
theorem overs_tri {s : St} (w : WF tb s) (T : TRI s) {p : Nat} (hp : 1 ≤ p) (hpn : p ≤ s.nodes.length) : TRI (overs s p) := by
  have F := fold_tri w.t (children s p).reverse s rfl T (fun d hd => by
    rw [List.mem_reverse, children_kids] at hd
    exact ⟨(mem_kids.mp hd).1, (mem_kids.mp hd).2.1⟩)
  intro k k2 hk hr
  rw [overs_nodes] at hk ⊢
  have hpk := w.t.par k k2 hk
  have len : p - 1 < (says ((children s p).reverse.foldl Halt s) ⟨4, p, runOf s p⟩).nows.length := by
    have := (w.foldHalt (children s p).reverse fun d hd => by rw [List.mem_reverse, children_kids] at hd; exact (mem_kids.mp hd).1).len
    rw [fold_halt_nodes] at this
    show p - 1 < ((children s p).reverse.foldl Halt s).nows.length
    omega
  have kp : k ≠ p := fun e => by
    subst e
    rw [running] at hr
    unfold overs at hr
    rw [now_upd_same len] at hr
    cases hr
  have ek : running (overs s p) k = running ((children s p).reverse.foldl Halt s) k := off_of (by
    unfold overs
    rw [now_upd_ne hp (by omega) (Ne.symm kp), now_says])
  rw [ek] at hr
  have q := F.1 k k2 (by rw [fold_halt_nodes]; exact hk) hr
  rw [fold_halt_nodes] at q
  by_cases e : (nd s.nodes k).parent = p
  · have := F.2 k (by rw [List.mem_reverse, children_kids]; exact mem_kids.mpr ⟨by omega, hk, e⟩)
    rw [this] at hr
    cases hr
  · rw [← q]
    exact off_of (by
      unfold overs
      rw [now_upd_ne hp hpk.1 (Ne.symm e), now_says])
theorem overs_run {s : St} (w : WF tb s) {p k : Nat} (hp : 1 ≤ p) (hpn : p ≤ s.nodes.length) (hk : 1 ≤ k) (lt : k < p) : running (overs s p) k = running s k := off_of (by
  unfold overs
  rw [now_upd_ne hp hk (by omega), now_says]
  have : now ((children s p).reverse.foldl Halt s) k = now s k := (foldl_ind (P := fun t => t.nodes = s.nodes ∧ now t k = now s k) (f := Halt) (fun t d hd h => by
    rw [List.mem_reverse, children_kids] at hd
    have ld := kid_lt w.t hp hd
    exact ⟨(halt_nodes 20 t d).trans h.1, (halt_frame (not_under_lt w.t (by omega) (by omega)) (by omega) hk 20 t h.1).trans h.2⟩) s ⟨rfl, rfl⟩).2
  rw [this])
end LA
namespace LA
open Ha03
/-! # The mathematics, 6: what holds from call to call; how the calls are read off the list -/
theorem again_by' {u : St} (W : WF 5 u) {p c f1 : Nat} (hp : 1 ≤ p) (hc : c ∈ kids u.nodes p) (k2 : (nd u.nodes c).kind ≠ 2) (rc : running u c = false) (o : ¬ (node u p).most < (counted u p).length) :
    again (f1 + 1) u p c = match (byWay (timed u p) p c).2 with
      | none => (byWay (timed u p) p c).1
      | some d => again f1 (byWay (timed u p) p c).1 p d := by
  rw [again_else o, byWay_eq (s := timed u p) W.t rfl hp hc k2 (by rw [← rc]; exact off_of (run_upd (calm_timer _) u p c))]
  all_goals rfl
theorem overs_off' {s : St} (w : WF 5 s) {p : Nat} (hp : 1 ≤ p) (hpn : p ≤ s.nodes.length) : running (overs s p) p = false := by
  rw [running_run]
  unfold overs
  have := (w.foldHalt (children s p).reverse fun d hd => by rw [List.mem_reverse, children_kids] at hd; exact (mem_kids.mp hd).1).len
  rw [fold_halt_nodes] at this
  rw [now_upd_same (by show p - 1 < ((children s p).reverse.foldl Halt s).nows.length; omega)]
theorem tri_again (f : Nat) : (∀ (s : St) (p c how : Nat), WF 5 s → TRI s → 1 ≤ c → c ≤ s.nodes.length → p = (nd s.nodes c).parent → running s c = false → (p ≠ 0 → running s p = true) → TRI (ended f s p c how)) ∧
    (∀ (s : St) (p c : Nat), WF 5 s → TRI s → 1 ≤ p → p ≤ s.nodes.length → c ∈ kids s.nodes p → (nd s.nodes c).kind ≠ 2 → running s c = false → running s p = true → TRI (again f s p c)) := by
  induction f with
  | zero =>
    refine ⟨fun s p c how w T _ _ _ _ _ => ?_, fun s p c w T _ _ _ _ _ _ => ?_⟩
    · rw [ended]; exact T
    · rw [again]; exact T
  | succ f ih =>
    refine ⟨fun s p c how w T hc hcn ep rc rp => ?_, fun s p c w T hp hpn hc k2 rc rp => ?_⟩
    · by_cases p0 : p = 0
      · rw [p0, ended_root]; exact T
      · have kp : c ∈ kids s.nodes p := mem_kids.mpr ⟨hc, hcn, ep.symm⟩
        by_cases k2 : (node s c).kind = 2
        · rw [ended_gone p0 k2]
          exact T.upd calm_goner c
        · by_cases k1 : (node s c).kind = 1 ∧ how = 0
          · rw [ended_well p0 k1.1 k1.2]; exact T
          · rw [ended_again p0 k2 k1]
            have := par_le w.t hcn
            exact ih.2 s p c w T (by omega) (by omega) kp k2 rc (rp p0)
    · by_cases o : (node s p).most < (counted s p).length
      · rw [again_over o]
        have no := overs_nodes s p
        refine ih.1 _ _ _ _ (w.overs hp) (overs_tri w T hp hpn) hp (by rw [no]; exact hpn) (by rw [no]; rfl) (overs_off' w hp hpn) fun p0 => ?_
        rw [node_nd] at p0 ⊢
        have p2 : 2 ≤ p := by
          rcases Nat.lt_or_ge p 2 with x | x
          · exact absurd (by rw [show p = 1 by omega]; exact w.t.root) p0
          · exact x
        have pp := w.t.par p p2 hpn
        rw [overs_run w hp hpn pp.1 pp.2]
        exact T p p2 hpn rp
      · rw [again_by' w hp hc k2 rc o]
        have Wt := w.timed hp o
        have Tt : TRI (timed s p) := T.upd (calm_timer _) p
        have rct : running (timed s p) c = false := by rw [← rc]; exact off_of (run_upd (calm_timer _) s p c)
        have rpt : running (timed s p) p = true := by rw [← rp]; exact off_of (run_upd (calm_timer _) s p p)
        have BT := byWay_tri Wt Tt hp hpn hc rpt
        cases hx : (byWay (timed s p) p c).2 with
        | none => exact BT.1
        | some d =>
          have TS := turn_some Wt hp hpn hc k2 rct hx
          have ns : (timed s p).nodes = s.nodes := rfl
          rw [ns] at TS
          exact ih.2 _ p d TS.1 BT.1 hp (by rw [TS.2.1]; exact hpn) (by rw [TS.2.1]; exact TS.2.2.1) (by rw [TS.2.1]; exact TS.2.2.2.1) TS.2.2.2.2.1 BT.2
structure Good (k : Nat) (s : St) : Prop where
  w : WF 5 s
  t : TRI s
  p : Phi s ≤ 130000 * k
theorem Good.mono {k j : Nat} {s : St} (g : Good k s) (h : k ≤ j) : Good j s := ⟨g.w, g.t, Nat.le_trans g.p (Nat.mul_le_mul_left _ h)⟩
theorem Good.log {k : Nat} {s : St} (g : Good k s) (h : k ≤ 100) : s.log.length ≤ 16000000 := by
  have := g.p
  unfold Phi at this
  omega
theorem KeepP.of {s : St} {tb : Nat} (w : WF tb s) : KeepP s.nodes (Phi s) s := ⟨rfl, w.len, Nat.le_refl _⟩
end LA
set_option maxRecDepth 100000
namespace LA
open PySem L2
/-! # How a tree lies in the heap -/
theorem zip_lookup {k : Str} {v : V} : ∀ {ks : List Str} {vs : List V} {i : Nat}, ks.Nodup → ks[i]? = some k → vs[i]? = some v → (ks.zip vs).lookup k = some v
  | [], _, i, _, h, _ => by simp at h
  | _ :: _, [], i, _, _, h => by simp at h
  | a :: ks, b :: vs, 0, _, h1, h2 => by
    have e1 : a = k := Option.some.inj h1
    have e2 : b = v := Option.some.inj h2
    subst e1 e2
    have e : (a == a) = true := beq_self_eq_true a
    show List.lookup a ((a, b) :: ks.zip vs) = some b
    simp only [List.lookup, e]
  | a :: ks, b :: vs, i + 1, hn, h1, h2 => by
    have hnd := List.nodup_cons.mp hn
    have h1' : ks[i]? = some k := by simpa using h1
    have ne : (k == a) = false := beq_eq_false_iff_ne.mpr fun e => hnd.1 (by rw [← e]; exact List.mem_of_getElem? h1')
    show List.lookup k ((a, b) :: ks.zip vs) = some v
    simp only [List.lookup, ne]
    exact zip_lookup hnd.2 h1' (by simpa using h2)
theorem zip_none {k : Str} : ∀ {ks : List Str} {vs : List V}, k ∉ ks → (ks.zip vs).lookup k = none
  | [], _, _ => rfl
  | _ :: _, [], _ => rfl
  | a :: ks, b :: vs, h => by
    have ne : (k == a) = false := beq_eq_false_iff_ne.mpr fun e => h (by rw [e]; exact List.mem_cons_self)
    show List.lookup k ((a, b) :: ks.zip vs) = none
    simp only [List.lookup, ne]
    exact zip_none fun q => h (List.mem_cons_of_mem _ q)
theorem zip_put {k : Str} {v : V} : ∀ {ks : List Str} {vs : List V} {i : Nat}, ks.Nodup → ks[i]? = some k → i < vs.length → putF k v (ks.zip vs) = ks.zip (vs.set i v)
  | [], _, i, _, h, _ => by simp at h
  | _ :: _, [], i, _, _, h => by simp at h
  | a :: ks, b :: vs, 0, _, h1, _ => by
    have e1 : a = k := Option.some.inj h1
    show (if a = k then (a, v) :: ks.zip vs else _) = _
    rw [if_pos e1]
    rfl
  | a :: ks, b :: vs, i + 1, hn, h1, h2 => by
    have hnd := List.nodup_cons.mp hn
    have h1' : ks[i]? = some k := by simpa using h1
    have ne : ¬ a = k := fun e => hnd.1 (by rw [e]; exact List.mem_of_getElem? h1')
    show (if a = k then _ else (a, b) :: putF k v (ks.zip vs)) = _
    rw [if_neg ne, zip_put hnd.2 h1' (by simpa using h2)]
    rfl
def nodeK : List Str := ["number", "parent", "keeper", "kind", "way", "often", "span", "children", "place", "run", "gone", "times", "failing"]
def treeK : List Str := ["nodes", "now", "runs", "happened"]
theorem nodeK_nd : nodeK.Nodup := by decide +kernel
theorem treeK_nd : treeK.Nodup := by decide +kernel
/-- where all lies -/
structure G where
  CT : Addr
  CN : Addr
  t : Addr
  dt : Addr
  nl : Addr
  hl : Addr
  as : List Addr
  cs : Nat → Addr
  av : Option Addr
/-- a list that stands apart from what is changed: from what happened, and from a list of another's -/
def Sep (g : G) (a : Addr) : Prop := a ≠ g.hl ∧ ∀ v, g.av = some v → a ≠ v
def G.at (g : G) (i : Nat) : Addr := g.as.getD (i - 1) 0
def parV (g : G) (N : List Ha03.Node) (i : Nat) : V := if (nd N i).parent = 0 then .non else .ref (g.at (nd N i).parent)
def plc (N : List Ha03.Node) (i : Nat) : Nat := (kids N (nd N i).parent).idxOf i
def nodeVs (g : G) (N : List Ha03.Node) (i : Nat) (x : Ha03.Now) (tm : Addr) : List V :=
  [.int (i : Nat), parV g N i, .bl (nd N i).isSup, .int ((nd N i).kind : Nat), .int ((nd N i).way : Nat), .int ((nd N i).most : Nat), .int ((nd N i).span : Nat), .ref (g.cs i), .int (plc N i : Nat), .int (x.run.getD 0 : Nat), .bl x.gone, .ref tm, .int (x.fails : Nat)]
def nodeF (g : G) (N : List Ha03.Node) (i : Nat) (x : Ha03.Now) (tm : Addr) : List (Str × V) := nodeK.zip (nodeVs g N i x tm)
def treeF (g : G) (time last : Nat) : List (Str × V) := treeK.zip [.ref g.nl, .int (time : Nat), .int (last : Nat), .ref g.hl]
section
variable {g : G} {N : List Ha03.Node} {i : Nat} {x : Ha03.Now} {tm : Addr}
theorem nF (j : Nat) {k : Str} {v : V} (h : nodeK[j]? = some k) (h2 : (nodeVs g N i x tm)[j]? = some v) : (nodeF g N i x tm).lookup k = some v := zip_lookup nodeK_nd h h2
theorem nF_number : (nodeF g N i x tm).lookup ("number" : Str) = some (.int (i : Nat)) := nF 0 rfl rfl
theorem nF_parent : (nodeF g N i x tm).lookup ("parent" : Str) = some (parV g N i) := nF 1 rfl rfl
theorem nF_keeper : (nodeF g N i x tm).lookup ("keeper" : Str) = some (.bl (nd N i).isSup) := nF 2 rfl rfl
theorem nF_kind : (nodeF g N i x tm).lookup ("kind" : Str) = some (.int ((nd N i).kind : Nat)) := nF 3 rfl rfl
theorem nF_way : (nodeF g N i x tm).lookup ("way" : Str) = some (.int ((nd N i).way : Nat)) := nF 4 rfl rfl
theorem nF_often : (nodeF g N i x tm).lookup ("often" : Str) = some (.int ((nd N i).most : Nat)) := nF 5 rfl rfl
theorem nF_span : (nodeF g N i x tm).lookup ("span" : Str) = some (.int ((nd N i).span : Nat)) := nF 6 rfl rfl
theorem nF_children : (nodeF g N i x tm).lookup ("children" : Str) = some (.ref (g.cs i)) := nF 7 rfl rfl
theorem nF_place : (nodeF g N i x tm).lookup ("place" : Str) = some (.int (plc N i : Nat)) := nF 8 rfl rfl
theorem nF_run : (nodeF g N i x tm).lookup ("run" : Str) = some (.int (x.run.getD 0 : Nat)) := nF 9 rfl rfl
theorem nF_gone : (nodeF g N i x tm).lookup ("gone" : Str) = some (.bl x.gone) := nF 10 rfl rfl
theorem nF_times : (nodeF g N i x tm).lookup ("times" : Str) = some (.ref tm) := nF 11 rfl rfl
theorem nF_failing : (nodeF g N i x tm).lookup ("failing" : Str) = some (.int (x.fails : Nat)) := nF 12 rfl rfl
theorem nF_len : (nodeF g N i x tm).length < 1000 := by
  unfold nodeF
  rw [List.length_zip]
  show min 13 13 < 1000
  decide
theorem nP_run (o : Option Nat) : putF "run" (.int (o.getD 0 : Nat)) (nodeF g N i x tm) = nodeF g N i { x with run := o } tm := (zip_put (i := 9) nodeK_nd rfl (by show 9 < 13; decide)).trans rfl
theorem nP_gone (b : Bool) : putF "gone" (.bl b) (nodeF g N i x tm) = nodeF g N i { x with gone := b } tm := (zip_put (i := 10) nodeK_nd rfl (by show 10 < 13; decide)).trans rfl
theorem nP_times (l : List Nat) (tm' : Addr) : putF "times" (.ref tm') (nodeF g N i x tm) = nodeF g N i { x with times := l } tm' := (zip_put (i := 11) nodeK_nd rfl (by show 11 < 13; decide)).trans rfl
theorem nP_failing (n : Nat) : putF "failing" (.int (n : Nat)) (nodeF g N i x tm) = nodeF g N i { x with fails := n } tm := (zip_put (i := 12) nodeK_nd rfl (by show 12 < 13; decide)).trans rfl
variable {time last : Nat}
theorem tF_nodes : (treeF g time last).lookup ("nodes" : Str) = some (.ref g.nl) := zip_lookup (i := 0) treeK_nd rfl rfl
theorem tF_now : (treeF g time last).lookup ("now" : Str) = some (.int (time : Nat)) := zip_lookup (i := 1) treeK_nd rfl rfl
theorem tF_runs : (treeF g time last).lookup ("runs" : Str) = some (.int (last : Nat)) := zip_lookup (i := 2) treeK_nd rfl rfl
theorem tF_happened : (treeF g time last).lookup ("happened" : Str) = some (.ref g.hl) := zip_lookup (i := 3) treeK_nd rfl rfl
theorem tF_no {m : Str} (h : m ∉ treeK) : (treeF g time last).lookup m = none := zip_none h
theorem tF_len : (treeF g time last).length < 1000 := by
  unfold treeF
  rw [List.length_zip]
  show min 4 4 < 1000
  decide
theorem tP_now (n : Nat) : putF "now" (.int (n : Nat)) (treeF g time last) = treeF g n last := (zip_put (i := 1) treeK_nd rfl (by show 1 < 4; decide)).trans rfl
theorem tP_runs (n : Nat) : putF "runs" (.int (n : Nat)) (treeF g time last) = treeF g time n := (zip_put (i := 2) treeK_nd rfl (by show 2 < 4; decide)).trans rfl
end
def evV (e : Ha03.Event) : List V := [.int (e.what : Nat), .int (e.who : Nat), .int (e.run : Nat)]
def kidV (g : G) (l : List Nat) : List V := l.map fun k => V.ref (g.at k)
def natV (l : List Nat) : List V := l.map fun n => V.int (n : Nat)
/-- the tree that s tells, by g -/
structure Rep (g : G) (H : Hp) (s : Ha03.St) : Prop where
  tree : H g.t = some (.ins g.CT g.dt (treeF g s.time s.last))
  nodes : H g.nl = some (.lst (g.as.map V.ref))
  len : g.as.length = s.nodes.length
  node : ∀ i, 1 ≤ i → i ≤ s.nodes.length → ∃ dx tm, H (g.at i) = some (.ins g.CN dx (nodeF g s.nodes i (Ha03.now s i) tm)) ∧ H tm = some (.lst (natV (Ha03.now s i).times)) ∧ Sep g tm
  kids : ∀ i, 1 ≤ i → i ≤ s.nodes.length → H (g.cs i) = some (.lst (kidV g (kids s.nodes i))) ∧ Sep g (g.cs i)
  log : ∃ ps : List Addr, H g.hl = some (.lst (ps.map V.ref)) ∧ ps.length = s.log.length ∧ ∀ (k : Nat) (e : Ha03.Event), s.log[k]? = some e → ∃ p : Addr, ps[k]? = some p ∧ H p = some (.tup (evV e))
  nlhl : Sep g g.nl
  av : ∀ v, g.av = some v → v ≠ g.hl ∧ ∃ xs, H v = some (.lst xs)
  inj : ∀ i j, 1 ≤ i → i ≤ s.nodes.length → 1 ≤ j → j ≤ s.nodes.length → g.at i = g.at j → i = j
  nt : ∀ i, 1 ≤ i → i ≤ s.nodes.length → g.at i ≠ g.t
/-- what of the heap is the tree's own, to be changed -/
def foot (g : G) (b : Addr) : Prop := b = g.t ∨ b = g.hl ∨ b ∈ g.as
/-- all else stands as it stood -/
def Fram (g : G) (H H' : Hp) : Prop := ∀ b o, H b = some o → ¬ foot g b → H' b = some o
theorem Fram.refl (g : G) (H : Hp) : Fram g H H := fun _ _ h _ => h
theorem Fram.trans {g : G} {H H1 H2 : Hp} (a : Fram g H H1) (b : Fram g H1 H2) : Fram g H H2 := fun c o h n => b c o (a c o h n) n
theorem Fram.new {g : G} {H : Hp} {p : Addr} (h : H p = none) (o : HO) : Fram g H (upd H p o) := fun b u q _ => by
  rw [upd_ne (ne_of_none q h)]
  exact q
theorem Fram.at {g : G} {H : Hp} {p : Addr} (h : foot g p) (o : HO) : Fram g H (upd H p o) := fun b u q n => by
  rw [upd_ne (fun e => n (by rw [e]; exact h))]
  exact q
theorem at_mem {g : G} {i : Nat} (h1 : 1 ≤ i) (h2 : i ≤ g.as.length) : g.at i ∈ g.as := by
  unfold G.at
  rw [List.getD_eq_getElem?_getD, List.getElem?_eq_getElem (by omega)]
  exact List.getElem_mem _
theorem at_get {g : G} {i : Nat} (h1 : 1 ≤ i) (h2 : i ≤ g.as.length) : g.as[i - 1]? = some (g.at i) := by
  unfold G.at
  rw [List.getD_eq_getElem?_getD, List.getElem?_eq_getElem (by omega)]
  rfl
theorem Rep.foot {g : G} {H : Hp} {s : Ha03.St} (R : Rep g H s) {i : Nat} (h1 : 1 ≤ i) (h2 : i ≤ s.nodes.length) : LA.foot g (g.at i) := .inr (.inr (at_mem h1 (by rw [R.len]; exact h2)))
theorem same_new {H : Hp} {p : Addr} (h : H p = none) (o : HO) : Same H (upd H p o) := fun b u q => by
  rw [upd_ne (ne_of_none q h)]
  exact q
theorem Rep.same {g : G} {H H' : Hp} {s : Ha03.St} (R : Rep g H s) (h_same : Same H H') : Rep g H' s where
  tree := h_same _ _ R.tree
  nodes := h_same _ _ R.nodes
  len := R.len
  node := fun i h1 h2 => by
    obtain ⟨dx, tm, a, b, c⟩ := R.node i h1 h2
    exact ⟨dx, tm, h_same _ _ a, h_same _ _ b, c⟩
  kids := fun i h1 h2 => ⟨h_same _ _ (R.kids i h1 h2).1, (R.kids i h1 h2).2⟩
  log := by
    obtain ⟨ps, a, b, c⟩ := R.log
    exact ⟨ps, h_same _ _ a, b, fun k v h => by
      obtain ⟨p, q1, q2⟩ := c k v h
      exact ⟨p, q1, h_same _ _ q2⟩⟩
  nlhl := R.nlhl
  av := fun v e => by
    obtain ⟨a, xs, b⟩ := R.av v e
    exact ⟨a, xs, h_same _ _ b⟩
  inj := R.inj
  nt := R.nt
theorem Rep.new {g : G} {H : Hp} {s : Ha03.St} (R : Rep g H s) {p : Addr} (h : H p = none) (o : HO) : Rep g (upd H p o) s := R.same (same_new h o)
theorem Rep.sep_new {g : G} {H : Hp} {s : Ha03.St} (R : Rep g H s) {p : Addr} (h : H p = none) : Sep g p := by
  obtain ⟨ps, a, _⟩ := R.log
  refine ⟨(ne_of_none a h).symm, fun v e => ?_⟩
  obtain ⟨_, xs, b⟩ := R.av v e
  exact (ne_of_none b h).symm
theorem ins_lst {C dx : Addr} {fs : List (Str × V)} {xs : List V} : HO.lst xs ≠ HO.ins C dx fs := by intro e; cases e
theorem ins_tup {C dx : Addr} {fs : List (Str × V)} {xs : List V} : HO.tup xs ≠ HO.ins C dx fs := by intro e; cases e
theorem lst_tup {xs ys : List V} : HO.tup xs ≠ HO.lst ys := by intro e; cases e
/-- a node is written -/
theorem Rep.setNode {g : G} {H : Hp} {s : Ha03.St} (R : Rep g H s) (hl : s.nows.length = s.nodes.length) {i : Nat} (h1 : 1 ≤ i) (h2 : i ≤ s.nodes.length) {dx tm : Addr} {y : Ha03.Now} (old : ∃ fs, H (g.at i) = some (.ins g.CN dx fs)) (ht : H tm = some (.lst (natV y.times))) (hh : Sep g tm) :
    Rep g (upd H (g.at i) (.ins g.CN dx (nodeF g s.nodes i y tm))) (Ha03.setNow s i y) := by
  obtain ⟨fs, old⟩ := old
  have nl : ∀ {a : Addr} {xs : List V}, H a = some (.lst xs) → a ≠ g.at i := fun h => ne_of h old ins_lst
  have nt : ∀ {a : Addr} {xs : List V}, H a = some (.tup xs) → a ≠ g.at i := fun h => ne_of h old ins_tup
  refine ⟨?_, ?_, R.len, ?_, ?_, ?_, R.nlhl, (fun v e => by
    obtain ⟨a, xs, b⟩ := R.av v e
    exact ⟨a, xs, by rw [upd_ne (nl b)]; exact b⟩), R.inj, R.nt⟩
  · rw [upd_ne (fun e => R.nt i h1 h2 e.symm)]
    exact R.tree
  · rw [upd_ne (nl R.nodes)]
    exact R.nodes
  · intro j j1 j2
    by_cases e : i = j
    · subst e
      refine ⟨dx, tm, ?_, ?_, hh⟩
      · rw [upd_same, now_same (by rw [hl]; omega)]
        rfl
      · rw [upd_ne (nl ht), now_same (by rw [hl]; omega)]
        exact ht
    · obtain ⟨dx', tm', a, b, c⟩ := R.node j j1 j2
      refine ⟨dx', tm', ?_, ?_, c⟩
      · rw [upd_ne (fun q => e (R.inj i j h1 h2 j1 j2 q.symm)), now_ne h1 j1 e]
        exact a
      · rw [upd_ne (nl b), now_ne h1 j1 e]
        exact b
  · intro j j1 j2
    refine ⟨?_, (R.kids j j1 j2).2⟩
    rw [upd_ne (nl (R.kids j j1 j2).1)]
    exact (R.kids j j1 j2).1
  · obtain ⟨ps, a, b, c⟩ := R.log
    refine ⟨ps, ?_, b, fun k e h => ?_⟩
    · rw [upd_ne (nl a)]
      exact a
    · obtain ⟨p, q1, q2⟩ := c k e h
      refine ⟨p, q1, ?_⟩
      rw [upd_ne (nt q2)]
      exact q2
/-- the tree's own numbers are written -/
theorem Rep.setTree {g : G} {H : Hp} {s : Ha03.St} (R : Rep g H s) (time last : Nat) : Rep g (upd H g.t (.ins g.CT g.dt (treeF g time last))) { s with time := time, last := last } := by
  have nl : ∀ {a : Addr} {xs : List V}, H a = some (.lst xs) → a ≠ g.t := fun h => ne_of h R.tree ins_lst
  have nt : ∀ {a : Addr} {xs : List V}, H a = some (.tup xs) → a ≠ g.t := fun h => ne_of h R.tree ins_tup
  refine ⟨upd_same, ?_, R.len, ?_, ?_, ?_, R.nlhl, (fun v e => by
    obtain ⟨a, xs, b⟩ := R.av v e
    exact ⟨a, xs, by rw [upd_ne (nl b)]; exact b⟩), R.inj, R.nt⟩
  · rw [upd_ne (nl R.nodes)]
    exact R.nodes
  · intro j j1 j2
    obtain ⟨dx', tm', a, b, c⟩ := R.node j j1 j2
    refine ⟨dx', tm', ?_, ?_, c⟩
    · rw [upd_ne (R.nt j j1 j2)]
      exact a
    · rw [upd_ne (nl b)]
      exact b
  · intro j j1 j2
    refine ⟨?_, (R.kids j j1 j2).2⟩
    rw [upd_ne (nl (R.kids j j1 j2).1)]
    exact (R.kids j j1 j2).1
  · obtain ⟨ps, a, b, c⟩ := R.log
    refine ⟨ps, ?_, b, fun k e h => ?_⟩
    · rw [upd_ne (nl a)]
      exact a
    · obtain ⟨p, q1, q2⟩ := c k e h
      refine ⟨p, q1, ?_⟩
      rw [upd_ne (nt q2)]
      exact q2
/-- something is told -/
theorem Rep.says {g : G} {H : Hp} {s : Ha03.St} (R : Rep g H s) {ps : List Addr} (hps : H g.hl = some (.lst (ps.map V.ref))) {p : Addr} {e : Ha03.Event} (hp : H p = some (.tup (evV e))) : Rep g (upd H g.hl (.lst (ps.map V.ref ++ [.ref p]))) (Ha03.says s e) := by
  have ni : ∀ {a C dx : Addr} {fs : List (Str × V)}, H a = some (.ins C dx fs) → a ≠ g.hl := fun h => (ne_of hps h ins_lst).symm
  have nt : ∀ {a : Addr} {xs : List V}, H a = some (.tup xs) → a ≠ g.hl := fun h => ne_of h hps lst_tup
  refine ⟨?_, ?_, R.len, ?_, ?_, ?_, R.nlhl, (fun v e => by
    obtain ⟨a, xs, b⟩ := R.av v e
    exact ⟨a, xs, by rw [upd_ne a]; exact b⟩), R.inj, R.nt⟩
  · rw [upd_ne (ni R.tree)]
    exact R.tree
  · rw [upd_ne R.nlhl.1]
    exact R.nodes
  · intro j j1 j2
    obtain ⟨dx', tm', a, b, c⟩ := R.node j j1 j2
    refine ⟨dx', tm', ?_, ?_, c⟩
    · rw [upd_ne (ni a)]
      exact a
    · rw [upd_ne c.1]
      exact b
  · intro j j1 j2
    refine ⟨?_, (R.kids j j1 j2).2⟩
    rw [upd_ne (R.kids j j1 j2).2.1]
    exact (R.kids j j1 j2).1
  · obtain ⟨qs, a, b, c⟩ := R.log
    have eq : qs = ps := by
      rw [hps] at a
      have z := (HO.lst.inj (Option.some.inj a))
      exact (List.map_inj_right (fun x y h => V.ref.inj h)).mp z.symm
    subst eq
    refine ⟨qs ++ [p], ?_, ?_, fun k f h => ?_⟩
    · rw [upd_same, List.map_append]
      rfl
    · rw [List.length_append]
      show qs.length + 1 = (s.log ++ [e]).length
      rw [List.length_append, b]
      rfl
    · have h' : (s.log ++ [e])[k]? = some f := h
      by_cases lt : k < s.log.length
      · rw [List.getElem?_append_left lt] at h'
        obtain ⟨r, q1, q2⟩ := c k f h'
        refine ⟨r, ?_, ?_⟩
        · rw [List.getElem?_append_left (by rw [b]; exact lt)]
          exact q1
        · rw [upd_ne (nt q2)]
          exact q2
      · rw [List.getElem?_append_right (by omega)] at h'
        have k0 : k - s.log.length = 0 := by
          rcases Nat.eq_zero_or_pos (k - s.log.length) with z | z
          · exact z
          · rw [List.getElem?_eq_none (by rw [List.length_singleton]; omega)] at h'
            cases h'
        rw [k0] at h'
        have ef : e = f := Option.some.inj h'
        subst ef
        refine ⟨p, ?_, ?_⟩
        · rw [List.getElem?_append_right (by omega), b, k0]
          rfl
        · rw [upd_ne (nt hp)]
          exact hp
/-- the other's list is written -/
theorem Rep.setAv {g : G} {H : Hp} {s : Ha03.St} (R : Rep g H s) {v : Addr} (hv : g.av = some v) (ys : List V) : Rep g (upd H v (.lst ys)) s := by
  obtain ⟨vh, xs, hx⟩ := R.av v hv
  have ni : ∀ {a C dx : Addr} {fs : List (Str × V)}, H a = some (.ins C dx fs) → a ≠ v := fun h => (ne_of hx h ins_lst).symm
  have nt : ∀ {a : Addr} {xs : List V}, H a = some (.tup xs) → a ≠ v := fun h => ne_of h hx lst_tup
  refine ⟨?_, ?_, R.len, ?_, ?_, ?_, R.nlhl, ?_, R.inj, R.nt⟩
  · rw [upd_ne (ni R.tree)]
    exact R.tree
  · rw [upd_ne (R.nlhl.2 v hv)]
    exact R.nodes
  · intro j j1 j2
    obtain ⟨dx', tm', a, b, c⟩ := R.node j j1 j2
    refine ⟨dx', tm', ?_, ?_, c⟩
    · rw [upd_ne (ni a)]
      exact a
    · rw [upd_ne (c.2 v hv)]
      exact b
  · intro j j1 j2
    refine ⟨?_, (R.kids j j1 j2).2⟩
    rw [upd_ne ((R.kids j j1 j2).2.2 v hv)]
    exact (R.kids j j1 j2).1
  · obtain ⟨ps, a, b, c⟩ := R.log
    refine ⟨ps, ?_, b, fun k e h => ?_⟩
    · rw [upd_ne (Ne.symm vh)]
      exact a
    · obtain ⟨p, q1, q2⟩ := c k e h
      refine ⟨p, q1, ?_⟩
      rw [upd_ne (nt q2)]
      exact q2
  · intro v' e
    have : v' = v := Option.some.inj (e.symm.trans hv)
    subst this
    exact ⟨vh, ys, upd_same⟩
/-- the other's list is new -/
theorem Rep.newAv {g : G} {H : Hp} {s : Ha03.St} (R : Rep g H s) {v : Addr} (hv : H v = none) (ys : List V) : Rep { g with av := some v } (upd H v (.lst ys)) s := by
  have R2 := R.new hv (.lst ys)
  have sv : ∀ {a : Addr} {o : HO}, H a = some o → ∀ w, some v = some w → a ≠ w := fun h w e => by
    rw [← Option.some.inj e]
    exact ne_of_none h hv
  obtain ⟨ps, hps, _⟩ := R.log
  refine ⟨R2.tree, R2.nodes, R2.len, ?_, ?_, R2.log, ⟨R.nlhl.1, sv R.nodes⟩, ?_, R2.inj, R2.nt⟩
  · intro i h1 h2
    obtain ⟨dx, tm, a, b, c⟩ := R.node i h1 h2
    exact ⟨dx, tm, same_new hv (.lst ys) _ _ a, same_new hv (.lst ys) _ _ b, ⟨c.1, sv b⟩⟩
  · intro i h1 h2
    exact ⟨(R2.kids i h1 h2).1, (R.kids i h1 h2).2.1, sv (R.kids i h1 h2).1⟩
  · intro w e
    rw [← Option.some.inj e]
    exact ⟨(ne_of_none hps hv).symm, ys, upd_same⟩
end LA
set_option maxRecDepth 100000
set_option maxHeartbeats 5000000
namespace LA
open PySem PySem.Spec PyProof.Rows L2 RT
/-! # The text by places, what the top has left, and how calls are read -/
def top (i : Nat) : Stmt := PySem.Challenge.pw_lookafter_s01_answers.main.body.getD i (.Pass ⟨0, 0, 0, 0⟩)
abbrev sTell : Stmt := inClass (top 30) 2
abbrev sStart : Stmt := inClass (top 30) 3
abbrev sInOrder : Stmt := inClass (top 30) 4
abbrev sStop : Stmt := inClass (top 30) 5
abbrev sStopRun : Stmt := inClass (top 30) 6
abbrev sDies : Stmt := inClass (top 30) 7
abbrev sEnded : Stmt := inClass (top 30) 8
abbrev sAgain : Stmt := inClass (top 30) 9
abbrev sRecent : Stmt := inClass (top 30) 10
abbrev sCount : Stmt := inClass (top 30) 11
abbrev sGiveUp : Stmt := inClass (top 30) 12
abbrev sByWay : Stmt := inClass (top 30) 13
/-- the names that hold a number -/
def consts : List (Str × Int) := [("TREE", 0), ("FAIL", 1), ("BEGIN", 2), ("DIE", 3), ("TIME", 4), ("STOP", 5), ("LOG", 6), ("NODE", 7), ("NOT_ALLOWED", -1), ("NOT_NOW", -8), ("STARTED", 0), ("STOPPED", 1), ("DIED", 2), ("START_FAILED", 3), ("GAVE_UP", 4), ("FOR_EVER", 0), ("ONCE", 2), ("ALONE", 0), ("ALL", 1), ("AS_IT_SHOULD", 0), ("OTHERWISE", 1), ("NODE_SIZE", 6), ("MOST_NODES", 14), ("MOST_FAILS", 20), ("LAST_TIME", 1000000)]
def blts : List Str := ["len", "reversed", "list", "range", "enumerate", "zip"]
structure Txt (K : PySem.W.Frag) (mg : Str → Option Value) (CT CN : Addr) : Prop where
  clT : Cls K CT
  clN : Cls K CN
  nT : ∀ f ∈ treeK, NoAttr K CT f
  nN : ∀ f ∈ nodeK, NoAttr K CN f
  gi : ∀ p ∈ consts, ∃ t, mg p.1 = some (.int p.2 t)
  bl : ∀ b ∈ blts, mg b = none
  gT : mg "Tree" = some (.ref CT)
  gN : mg "Node" = some (.ref CN)
theorem pg {X : Cx} {x : Str} {pos : Pos} {i : Int} (h : ∃ t, X.mg x = some (.int i t)) (hg : Gl X x := by rfl) (hd : (x == ("__debug__" : Str)) = false := by decide) (hn : x ≠ "__name__" := by decide) : PE X (.Name x pos) (tC (.int i)) := by
  obtain ⟨t, h⟩ := h
  exact pe_glob hg h ⟨t, rfl⟩ hd
/-- a method, of whatever instance of the class at C -/
structure Mth (P : Program) (w : World) (K : PySem.W.Frag) (mg : Str → Option Value) (base : Heap) (k : Nat) (C : Addr) (m : Str) (sp : Sp) : Prop where
  ex : ∃ (f : Addr) (fd : FuncData) (ps : List Str), Cls K C ∧ Meth K C m f ∧ FnOk P w K mg base CX0 k f fd ps sp ∧ Binds K fd ps []
/-- a def of the top -/
structure Fnc (P : Program) (w : World) (K : PySem.W.Frag) (mg : Str → Option Value) (base : Heap) (k : Nat) (x : Str) (sp : Sp) : Prop where
  ex : ∃ (f : Addr) (fd : FuncData) (ps : List Str), FnOk P w K mg base CX0 k f fd ps sp ∧ mg x = some (.ref f) ∧ PySem.W.keepIn K (.ref f) = true ∧ Binds K fd ps []
section
variable {X : Cx} {k j : Nat} {C : Addr} {x m : Str} {sp : Sp} {p pos apos : Pos} {e o : Expr} {es : List Expr} {ta : TE} {t : TA}
theorem pf (c : Fnc X.prog X.w X.K X.mg X.base k x sp) (hr : Room j X.A) (hk : k ≤ j) (hg : Gl X x) (ha : PA X (e :: es) t)
    (hdb : (x == ("__debug__" : Str)) = false := by decide)
    (he : starEach (e :: es) X.env = (false, eval e X.env) :: starEach es X.env := by rfl)
    (hpl : (backTo pos (starEach es X.env)).any (·.1) = false := by rfl) :
    PE X (.Call (.Name x p) (e :: es) [] pos) (tCall sp [] E0 t) := by
  obtain ⟨f, fd, ps, F, hm, kp, b⟩ := c.ex
  exact pe_call F (hr.mono hk) hg hm kp b .nil pass0 ha hdb he hpl
theorem pm {pl : Sem Bool} (c : Mth X.prog X.w X.K X.mg X.base k C m sp) (hr : Room j X.A) (hk : k ≤ j) (he : PE X o ta) (ha : PA X (e :: es) t)
    (hst : starEach (e :: es) X.env = (false, eval e X.env) :: starEach es X.env := by rfl) (hpl : (backTo pos (starEach es X.env)).any (·.1) = false := by rfl)
    (ht : eval (.Call (.Attribute o m apos) (e :: es) [] pos) X.env = (do
      let ov ← eval o X.env
      standAt apos.atName
      let (f, first) ← holding [ov] (getMethod ov m pl)
      callWith pos f first (backTo pos (starEach (e :: es) X.env)) (backToKw pos (keywordEach [] X.env))) := by rfl) :
    PE X (.Call (.Attribute o m apos) (e :: es) [] pos) (tMeth C m sp [] E0 ta t) := by
  obtain ⟨f, fd, ps, hc, hm, F, b⟩ := c.ex
  exact pe_meth (pl := pl) he hc hm F (hr.mono hk) b .nil pass0 ha hst hpl ht
end
theorem Mth.mono {P : Program} {w : World} {K : PySem.W.Frag} {mg : Str → Option Value} {base : Heap} {k j : Nat} {C : Addr} {m : Str} {sp : Sp} (c : Mth P w K mg base k C m sp) (h : k ≤ j) : Mth P w K mg base j C m sp := by
  obtain ⟨f, fd, ps, hc, hm, F, b⟩ := c.ex
  exact ⟨f, fd, ps, hc, hm, F.mono h, b⟩
/-- a def that stands behind the top as a method -/
structure MDef (K : PySem.W.Frag) (C : Addr) (m qual : Str) (st : Stmt) (ps : List Str) : Prop where
  cl : Cls K C
  ex : ∃ (f : Addr) (fd : FuncData), Meth K C m f ∧ Fun K m qual st f fd ∧ Binds K fd ps []
structure FDef (K : PySem.W.Frag) (mg : Str → Option Value) (x : Str) (st : Stmt) (ps : List Str) : Prop where
  ex : ∃ (f : Addr) (fd : FuncData), Fun K x x st f fd ∧ mg x = some (.ref f) ∧ Binds K fd ps []
section
variable {P : Program} {w : World} {K : PySem.W.Frag} {mg : Str → Option Value} {base : Heap}
theorem MDef.ok {C : Addr} {m qual : Str} {st : Stmt} {N ps : List Str} {k : Nat} {sp : Sp} (M : MDef K C m qual st ps) (S : FnScope N ps (defScope st)) (len : ∀ vs H Q E, sp vs H Q E → vs.length = ps.length)
    (hbody : ∀ (f : Addr) (cdv : Value) (A : Around) (outer : List Env) (s : Shared) (H : Hp) (vs : List V) (Q : VK) (E : XK), Room k (A.deeper (envOfC qual (defScope st) s.heap.objs.size f cdv)) → sp vs H Q E →
      ∃ t, PSs (cxOf CX0 P w K mg base N qual (defScope st) f cdv A outer s H E).nox (defBody st) t ∧ t { nx := fun _ H' => Q .non H', rt := Q } (start N vs) H) : Mth P w K mg base (k + 1) C m sp := by
  obtain ⟨f, fd, me, F, b⟩ := M.ex
  exact ⟨f, fd, ps, M.cl, me, F.ok S len (hbody f), b⟩
theorem FDef.ok {x : Str} {st : Stmt} {N ps : List Str} {k : Nat} {sp : Sp} (M : FDef K mg x st ps) (S : FnScope N ps (defScope st)) (len : ∀ vs H Q E, sp vs H Q E → vs.length = ps.length)
    (hbody : ∀ (f : Addr) (cdv : Value) (A : Around) (outer : List Env) (s : Shared) (H : Hp) (vs : List V) (Q : VK) (E : XK), Room k (A.deeper (envOfC x (defScope st) s.heap.objs.size f cdv)) → sp vs H Q E →
      ∃ t, PSs (cxOf CX0 P w K mg base N x (defScope st) f cdv A outer s H E).nox (defBody st) t ∧ t { nx := fun _ H' => Q .non H', rt := Q } (start N vs) H) : Fnc P w K mg base (k + 1) x sp := by
  obtain ⟨f, fd, F, hm, b⟩ := M.ex
  exact ⟨f, fd, ps, F.ok S len (hbody f), hm, F.kp, b⟩
end
/-- the most that the log may grow to -/
def LOGMAX : Nat := 16000000
theorem log_room {n : Nat} (h : n + 1 ≤ LOGMAX) : n < sizeLine := Nat.lt_of_lt_of_le h (by show 16000000 ≤ 2 ^ 24; decide)
theorem runOf_eq (s : Ha03.St) (i : Nat) : Ha03.runOf s i = (Ha03.now s i).run.getD 0 := rfl
/-! # tell -/
def spTell (CT CN : Addr) : Sp := fun vs H Q _ => ∃ (g : G) (s : Ha03.St) (i what : Nat), g.CT = CT ∧ g.CN = CN ∧ vs = [.ref g.t, .int (what : Nat), .ref (g.at i)] ∧ Rep g H s ∧ 1 ≤ i ∧ i ≤ s.nodes.length ∧ s.log.length + 1 ≤ LOGMAX ∧
  ∀ H', Rep g H' (Ha03.says s ⟨what, i, Ha03.runOf s i⟩) → Fram g H H' → Q .non H'
section
variable {P : Program} {w : World} {K : PySem.W.Frag} {mg : Str → Option Value} {base : Heap} {CT CN : Addr}
theorem scTell : FnScope ["self", "what", "node"] ["self", "what", "node"] (defScope sTell) := ⟨rfl, rfl, rfl, by decide +kernel, rfl, by decide +kernel, by decide +kernel⟩
theorem tT (T : Txt K mg CT CN) (j : Nat) {k : Str} (h : treeK[j]? = some k) : NoAttr K CT k := T.nT k (List.mem_of_getElem? h)
theorem tN (T : Txt K mg CT CN) (j : Nat) {k : Str} (h : nodeK[j]? = some k) : NoAttr K CN k := T.nN k (List.mem_of_getElem? h)
theorem ok_tell (T : Txt K mg CT CN) (M : MDef K CT "tell" "Tree.tell" sTell ["self", "what", "node"]) : Mth P w K mg base 1 CT "tell" (spTell CT CN) := by
  refine M.ok scTell (fun vs H Q E h => ?_) (fun f cdv A outer s H vs Q E hr h => ?_)
  · obtain ⟨g, s, i, what, _, _, rfl, _⟩ := h
    rfl
  obtain ⟨g, z, i, what, rfl, rfl, rfl, R, h1, h2, hL, q⟩ := h
  refine ⟨_, pss_one (ps_expr (pe_bm PySem.F.plainAttrs_list PySem.F.slot_list_append PySem.F.type_list_append mt_append (pe_fld (pv 0) rfl)
    (pa_cons (pe_tup (pa_cons (pv 1) (pa_cons (pe_fld (pv 2) rfl) (pa_cons (pe_fld (pv 2) rfl) pa_nil)))) pa_nil))), ?_⟩
  obtain ⟨ps, hps, hlen, _⟩ := R.log
  obtain ⟨dx, tm, hn, _, _⟩ := R.node i h1 h2
  refine ⟨_, rfl, g.t, g.CT, g.dt, _, _, rfl, R.tree, T.clT, tT T 3 rfl, tF_happened, .inl ⟨rfl, _, SqL.of hps⟩, ?_⟩
  refine ⟨_, rfl, _, rfl, g.at i, g.CN, dx, _, _, rfl, hn, T.clN, tN T 0 rfl, nF_number, _, rfl, g.at i, g.CN, dx, _, _, rfl, hn, T.clN, tN T 9 rfl, nF_run, (by show 3 ≤ sizeLine; decide), fun p hp => ?_⟩
  have hps' : upd H p (.tup [.int (what : Nat), .int (i : Nat), .int ((Ha03.now z i).run.getD 0 : Nat)]) g.hl = some (.lst (ps.map V.ref)) := by
    rw [upd_ne (ne_of_none hps hp)]
    exact hps
  refine ⟨g.hl, _, _, rfl, rfl, hps', (by rw [List.length_map, hlen]; exact log_room hL), ?_⟩
  refine q _ ((R.new hp _).says (e := ⟨what, i, Ha03.runOf z i⟩) hps' upd_same) ((Fram.new hp _).trans (Fram.at (.inr (.inl rfl)) _))
end
end LA
set_option maxRecDepth 100000
set_option maxHeartbeats 5000000
namespace LA
open PySem PySem.Spec PyProof.Rows L2 RT
/-! # stop_node, stop_running -/
theorem fold_take {α β : Type} {f : β → α → β} {l : List α} {i : Nat} {x : α} (h : l[i]? = some x) (s : β) : (l.take (i + 1)).foldl f s = f ((l.take i).foldl f s) x := by
  rw [List.take_add_one, List.foldl_append, h]
  rfl
theorem take_drop_fold {α β : Type} (f : β → α → β) (l : List α) (i : Nat) (s : β) : l.foldl f s = (l.drop i).foldl f ((l.take i).foldl f s) := by
  rw [← List.foldl_append, List.take_append_drop]
theorem Rep.not_foot {g : G} {H : Hp} {s : Ha03.St} (R : Rep g H s) {a : Addr} {xs : List V} (h : H a = some (.lst xs)) (n : a ≠ g.hl) : ¬ LA.foot g a := by
  rintro (e | e | e)
  · exact ne_of h R.tree ins_lst e
  · exact n e
  · obtain ⟨j, hj, e⟩ := List.mem_iff_getElem.mp e
    have j2 : j + 1 ≤ s.nodes.length := by rw [← R.len]; omega
    obtain ⟨dx, tm, q, _⟩ := R.node (j + 1) (by omega) j2
    have e2 : g.at (j + 1) = a := by
      unfold G.at
      rw [List.getD_eq_getElem?_getD, show j + 1 - 1 = j by omega, List.getElem?_eq_getElem hj, e]
      rfl
    rw [e2] at q
    exact ne_of h q ins_lst rfl
theorem run_pos {s : Ha03.St} {tb : Nat} (w : WF tb s) (i : Nat) : decide ((0 : Int) < (((Ha03.now s i).run.getD 0 : Nat) : Int)) = Ha03.running s i := by
  unfold Ha03.running
  cases h : (Ha03.now s i).run with
  | none => rfl
  | some r =>
    have := w.pos i r h
    show decide ((0 : Int) < (r : Int)) = true
    exact decide_eq_true (show _ by omega)
def spStop (CT CN : Addr) (d : Nat) : Sp := fun vs H Q _ => ∃ (g : G) (s : Ha03.St) (i : Nat), g.CT = CT ∧ g.CN = CN ∧ vs = [.ref g.t, .ref (g.at i)] ∧ Rep g H s ∧ WF 6 s ∧ 1 ≤ i ∧ i ≤ s.nodes.length ∧ 15 ≤ d + i ∧ Ha03.running s i = true ∧ (Halt s i).log.length ≤ LOGMAX ∧
  ∀ H', Rep g H' (Halt s i) → Fram g H H' → Q .non H'
def spStopRun (CT CN : Addr) (d : Nat) : Sp := fun vs H Q _ => ∃ (g : G) (s : Ha03.St) (a : Addr) (l : List Nat), g.CT = CT ∧ g.CN = CN ∧ vs = [.ref g.t, .ref a] ∧ Rep g H s ∧ WF 6 s ∧ H a = some (.lst (kidV g l)) ∧ a ≠ g.hl ∧ (∀ c ∈ l, 1 ≤ c ∧ c ≤ s.nodes.length ∧ 15 ≤ d + c) ∧ (l.reverse.foldl Halt s).log.length ≤ LOGMAX ∧
  ∀ H', Rep g H' (l.reverse.foldl Halt s) → Fram g H H' → Q .non H'
section
variable {P : Program} {w : World} {K : PySem.W.Frag} {mg : Str → Option Value} {base : Heap} {CT CN : Addr}
theorem gc (T : Txt K mg CT CN) (j : Nat) {x : Str} {i : Int} (h : consts[j]? = some (x, i)) : ∃ t, mg x = some (.int i t) := T.gi (x, i) (List.mem_of_getElem? h)
theorem bt (T : Txt K mg CT CN) (j : Nat) {x : Str} (h : blts[j]? = some x) : mg x = none := T.bl x (List.mem_of_getElem? h)
theorem scStop : FnScope ["self", "node"] ["self", "node"] (defScope sStop) := ⟨rfl, rfl, rfl, by decide +kernel, rfl, by decide +kernel, by decide +kernel⟩
theorem no_tree (k : Nat) {g : G} {time last : Nat} {m : Str} (h : m ∉ treeK := by decide +kernel) : (treeF g time last).lookup m = none := tF_no h
theorem ok_stop (T : Txt K mg CT CN) (M : MDef K CT "stop_node" "Tree.stop_node" sStop ["self", "node"]) {k d : Nat} (TL : Mth P w K mg base 1 CT "tell" (spTell CT CN)) (SR : Mth P w K mg base k CT "stop_running" (spStopRun CT CN d)) (hk : 1 ≤ k) :
    Mth P w K mg base (k + 1) CT "stop_node" (spStop CT CN (d + 1)) := by
  refine M.ok scStop (fun vs H Q E h => ?_) (fun f cdv A outer s H vs Q E hr h => ?_)
  · obtain ⟨g, s, i, _, _, rfl, _⟩ := h
    rfl
  obtain ⟨g, z, i, rfl, rfl, rfl, R, W, h1, h2, hd, hrun, hL, q⟩ := h
  refine ⟨_, pss_cons (ps_expr (pm SR hr (Nat.le_refl _) (pv 0) (pa_cons (pe_fld (pv 1) rfl) pa_nil)))
    (pss_cons (ps_expr (pm TL hr hk (pv 0) (pa_cons (pg (gc T 11 rfl)) (pa_cons (pv 1) pa_nil)))) (pss_one (ps_fld (pv 1) pe_int rfl))), ?_⟩
  obtain ⟨dx, tm, hn, _, _⟩ := R.node i h1 h2
  have hkids := R.kids i h1 h2
  have E1 := Halt_eq W.t rfl h1 h2 hrun
  have lg : (Halt z i).log.length = ((kids z.nodes i).reverse.foldl Halt z).log.length + 1 := by
    rw [E1]
    exact says_log _ _
  refine ⟨_, rfl, g.t, g.dt, _, rfl, R.tree, no_tree 0, _, rfl, g.at i, g.CN, dx, _, _, rfl, hn, T.clN, tN T 7 rfl, nF_children, ?_⟩
  refine ⟨g, z, g.cs i, kids z.nodes i, rfl, rfl, rfl, R, W, hkids.1, hkids.2.1, fun c hc => ?_, by omega, fun H1 R1 F1 => ?_⟩
  · have := kid_lt W.t h1 hc
    exact ⟨by omega, this.2, by omega⟩
  have n1 : ((kids z.nodes i).reverse.foldl Halt z).nodes = z.nodes := fold_halt_nodes 20 _ z
  have W1 : WF 6 ((kids z.nodes i).reverse.foldl Halt z) := W.foldHalt _ fun c hc => (mem_kids.mp (List.mem_reverse.mp hc)).1
  have now1 : Ha03.now ((kids z.nodes i).reverse.foldl Halt z) i = Ha03.now z i := fold_halt_now W.t h1 h2 20 _ (fun c hc => List.mem_reverse.mp hc) z rfl
  refine ⟨_, rfl, g.t, g.dt, _, rfl, R1.tree, no_tree 0, _, rfl, g, _, i, 1, rfl, rfl, rfl, R1, h1, (by rw [n1]; exact h2), by omega, fun H2 R2 F2 => ?_⟩
  obtain ⟨dx2, tm2, hn2, ht2, hh2⟩ := R2.node i h1 (by show i ≤ ((kids z.nodes i).reverse.foldl Halt z).nodes.length; rw [n1]; exact h2)
  refine ⟨_, rfl, g.at i, g.CN, dx2, _, rfl, hn2, T.clN, tN T 9 rfl, nF_len, ?_⟩
  refine q _ ?_ ((F1.trans F2).trans (Fram.at (R.foot h1 h2) _))
  rw [E1]
  have e := nP_run (g := g) (N := ((kids z.nodes i).reverse.foldl Halt z).nodes) (i := i) (x := Ha03.now (Ha03.says ((kids z.nodes i).reverse.foldl Halt z) ⟨1, i, Ha03.runOf ((kids z.nodes i).reverse.foldl Halt z) i⟩) i) (tm := tm2) none
  have e' : putF "run" (V.int 0) (nodeF g ((kids z.nodes i).reverse.foldl Halt z).nodes i (Ha03.now (Ha03.says ((kids z.nodes i).reverse.foldl Halt z) ⟨1, i, Ha03.runOf ((kids z.nodes i).reverse.foldl Halt z) i⟩) i) tm2) = _ := e
  have hr0 : Ha03.runOf ((kids z.nodes i).reverse.foldl Halt z) i = Ha03.runOf z i := by
    rw [runOf_eq, runOf_eq, now1]
  have S := R2.setNode (i := i) (dx := dx2) (tm := tm2) (y := { Ha03.now ((kids z.nodes i).reverse.foldl Halt z) i with run := none }) W1.len h1 (by show i ≤ ((kids z.nodes i).reverse.foldl Halt z).nodes.length; rw [n1]; exact h2) ⟨_, hn2⟩ ht2 hh2
  rw [hr0] at S
  show Rep g (upd H2 (g.at i) (.ins g.CN dx2 (putF "run" (V.int 0) (nodeF g ((kids z.nodes i).reverse.foldl Halt z).nodes i (Ha03.now (Ha03.says ((kids z.nodes i).reverse.foldl Halt z) ⟨1, i, Ha03.runOf ((kids z.nodes i).reverse.foldl Halt z) i⟩) i) tm2)))) _
  rw [e']
  exact S
theorem scStopRun : FnScope ["self", "nodes", "node"] ["self", "nodes"] (defScope sStopRun) := ⟨rfl, rfl, rfl, by decide +kernel, rfl, by decide +kernel, by decide +kernel⟩
theorem rev_get {l : List Nat} {i : Nat} (h : i < l.length) : l.reverse[i]? = l[l.length - 1 - i]? := List.getElem?_reverse h
theorem ok_stopRun (T : Txt K mg CT CN) (M : MDef K CT "stop_running" "Tree.stop_running" sStopRun ["self", "nodes"]) {k d : Nat} (ST : Mth P w K mg base k CT "stop_node" (spStop CT CN d)) :
    Mth P w K mg base (k + 1) CT "stop_running" (spStopRun CT CN d) := by
  refine M.ok scStopRun (fun vs H Q E h => ?_) (fun f cdv A outer s H vs Q E hr h => ?_)
  · obtain ⟨g, s, a, l, _, _, rfl, _⟩ := h
    rfl
  obtain ⟨g, z, a, l, rfl, rfl, rfl, R, W, ha, hah, hl, hL, q⟩ := h
  refine ⟨_, pss_one (ps_for PassesOwn.never rfl (pi_revA rfl (bt T 1 rfl) (pv 1)) (pg_name (i := 2) scStopRun.nd rfl (.inl rfl))
    (pss_one (ps_if (pt_cmpR op_gt (pe_fld (pv 2) rfl) pe_int (nomark _)) (pss_one (ps_expr (pm ST hr (Nat.le_refl _) (pv 0) (pa_cons (pv 2) pa_nil)))) pss_nil))), ?_⟩
  have nf := R.not_foot ha hah
  have hlen : (kidV g l).length = l.length := List.length_map _
  refine ⟨_, rfl, a, kidV g l, rfl, .inl ⟨SqL.of ha, ?_⟩⟩
  refine for_Itv (K := K) (a := a) (xs := kidV g l) (fun i σ H' => ∃ v : Option V, σ = [some (.ref g.t), some (.ref a), v] ∧ Rep g H' ((l.reverse.take i).foldl Halt z) ∧ Fram g H H') ⟨none, rfl, R, Fram.refl g H⟩
    (fun i σ H' ⟨_, _, _, F⟩ => SqL.of (F _ _ ha nf)) ?_ ?_
  · rintro i y σ H' hi hy ⟨v, rfl, R1, F1⟩
    rw [hlen] at hi hy
    obtain ⟨c, hc, rfl⟩ : ∃ c, l[l.length - 1 - i]? = some c ∧ y = V.ref (g.at c) := by
      unfold kidV at hy
      rw [List.getElem?_map] at hy
      cases e : l[l.length - 1 - i]? with
      | none => rw [e] at hy; cases hy
      | some c => rw [e] at hy; exact ⟨c, rfl, (Option.some.inj hy).symm⟩
    have hcl := hl c (List.mem_of_getElem? hc)
    have hrc : l.reverse[i]? = some c := by rw [rev_get hi]; exact hc
    have n1 : ((l.reverse.take i).foldl Halt z).nodes = z.nodes := fold_halt_nodes 20 _ z
    have W1 : WF 6 ((l.reverse.take i).foldl Halt z) := W.foldHalt _ fun d hd => (hl d (List.mem_reverse.mp (List.mem_of_mem_take hd))).1
    obtain ⟨dx, tm, hn, _, _⟩ := R1.node c hcl.1 (by rw [n1]; exact hcl.2.1)
    have step := fold_take (f := Halt) hrc z
    refine ⟨_, rfl, g.at c, g.CN, dx, _, _, rfl, hn, T.clN, tN T 9 rfl, nF_run, _, _, rfl, rfl, _, rfl, ?_⟩
    have run : ∀ {A B : Prop}, (Ha03.running ((l.reverse.take i).foldl Halt z) c = true → A) → (Ha03.running ((l.reverse.take i).foldl Halt z) c = false → B) → (if decide ((0 : Int) < (((Ha03.now ((l.reverse.take i).foldl Halt z) c).run.getD 0 : Nat) : Int)) = true then A else B) := fun {A B} hA hB => by
      rw [run_pos W1]
      cases e : Ha03.running ((l.reverse.take i).foldl Halt z) c with
      | true => rw [if_pos rfl]; exact hA e
      | false => rw [if_neg (by decide)]; exact hB e
    refine run (fun on => ?_) (fun off => ?_)
    · refine ⟨_, rfl, g.t, g.dt, _, rfl, R1.tree, no_tree 0, _, rfl, g, _, c, rfl, rfl, rfl, R1, W1, hcl.1, (by rw [n1]; exact hcl.2.1), hcl.2.2, on, ?_, fun H2 R2 F2 => ?_⟩
      · refine Nat.le_trans ?_ hL
        rw [take_drop_fold Halt l.reverse (i + 1) z, step]
        exact fold_halt_log _ _
      · exact ⟨_, rfl, by rw [step]; exact R2, F1.trans F2⟩
    · exact ⟨_, rfl, by rw [step, Halt_off off]; exact R1, F1⟩
  · rintro σ H' ⟨v, rfl, R1, F1⟩
    rw [hlen, ← List.length_reverse, List.take_length] at R1
    exact q H' R1 F1
theorem none_stop (M : MDef K CT "stop_node" "Tree.stop_node" sStop ["self", "node"]) : Mth P w K mg base 0 CT "stop_node" (spStop CT CN 0) := by
  have no : ∀ vs H Q E, ¬ spStop CT CN 0 vs H Q E := fun vs H Q E h => by
    obtain ⟨g, s, i, _, _, _, _, W, _, h2, h3, _⟩ := h
    have := W.t.len14
    omega
  obtain ⟨f, fd, me, F, b⟩ := M.ex
  exact ⟨f, fd, _, M.cl, me, ⟨fun vs H Q E h => absurd h (no vs H Q E), fun A outer s H args us vs Q E _ _ _ _ h => absurd h (no vs H Q E)⟩, b⟩
theorem both_stop (T : Txt K mg CT CN) (TL : Mth P w K mg base 1 CT "tell" (spTell CT CN)) (M1 : MDef K CT "stop_node" "Tree.stop_node" sStop ["self", "node"]) (M2 : MDef K CT "stop_running" "Tree.stop_running" sStopRun ["self", "nodes"]) :
    ∀ d : Nat, Mth P w K mg base (2 * d) CT "stop_node" (spStop CT CN d) ∧ Mth P w K mg base (2 * d + 1) CT "stop_running" (spStopRun CT CN d)
  | 0 => ⟨none_stop M1, ok_stopRun T M2 (none_stop M1)⟩
  | d + 1 => by
    have ih := both_stop T TL M1 M2 d
    have a := ok_stop T M1 TL ih.2 (by omega)
    exact ⟨a, ok_stopRun T M2 a⟩
end
end LA
set_option maxRecDepth 100000
set_option maxHeartbeats 5000000
namespace LA
open PySem PySem.Spec PyProof.Rows L2 RT
/-! # start_node, start_in_order -/
theorem iteB {b : Bool} {A B : Prop} (h1 : b = true → A) (h2 : b = false → B) : if b = true then A else B := by
  cases b with
  | true => rw [if_pos rfl]; exact h1 rfl
  | false => rw [if_neg (by decide)]; exact h2 rfl
theorem ungone_gone {s : Ha03.St} {c k : Nat} (h : k = c ∨ (Ha03.now s k).gone = false) : (Ha03.now (ungone s c) k).gone = false := by
  rw [ungone_upd]
  unfold Ha03.now upd1 at *
  simp only [List.getD_eq_getElem?_getD, List.getElem?_modify] at *
  cases e : s.nows[k - 1]? with
  | none => rfl
  | some x =>
    rw [e] at h
    by_cases z : c - 1 = k - 1
    · simp [z, ungoner]
    · rcases h with rfl | h
      · exact absurd rfl z
      · simp only [z, if_false]
        exact h
theorem fold_ungone_gone : ∀ (l : List Nat) (s : Ha03.St) (k : Nat), (k ∈ l ∨ (Ha03.now s k).gone = false) → (Ha03.now (l.foldl ungone s) k).gone = false
  | [], s, k, h => by
    rcases h with h | h
    · cases h
    · exact h
  | a :: l, s, k, h => by
    rw [List.foldl_cons]
    refine fold_ungone_gone l _ k ?_
    rcases h with h | h
    · obtain rfl | h := List.mem_cons.mp h
      · exact .inr (ungone_gone (.inl rfl))
      · exact .inl h
    · exact .inr (ungone_gone (.inr h))
theorem fold_ungone_says : ∀ (l : List Nat) (s : Ha03.St) (e : Ha03.Event), l.foldl ungone (Ha03.says s e) = Ha03.says (l.foldl ungone s) e
  | [], _, _ => rfl
  | a :: l, s, e => by
    rw [List.foldl_cons, List.foldl_cons, show ungone (Ha03.says s e) a = Ha03.says (ungone s a) e from rfl, fold_ungone_says l]
theorem fold_ungone_log (l : List Nat) (s : Ha03.St) : (l.foldl ungone s).log = s.log := foldl_ind (P := fun t : Ha03.St => t.log = s.log) (f := ungone) (fun t c _ h => (show (ungone t c).log = s.log from h)) s rfl
theorem down_kids {s : Ha03.St} (W : WT s.nodes) {i : Nat} (hi : 1 ≤ i) (D : Down s i) {c : Nat} (hc : c ∈ kids s.nodes i) : Down ((kids s.nodes i).foldl ungone (runAt s i)) c := by
  intro k u hk
  have un : ((kids s.nodes i).foldl ungone (runAt s i)).nodes = s.nodes := fold_ungone_nodes _ _
  rw [un] at u hk
  have lc := kid_lt W hi hc
  have ck := u.le W hk
  have e0 : Ha03.running (runAt s i) k = Ha03.running s k := off_of (by rw [runAt_now_ne hi (by omega) (by omega)])
  rw [off_of (fold_ungone_run _ _ k), e0]
  refine D k ?_ hk
  have : ∀ {y}, Under s.nodes c y → Under s.nodes i y := fun {y} w => by
    induction w with
    | refl => exact Under.refl.kid hc
    | step _ ih => exact .step ih
  exact this u
theorem inOrder_frame {N : List Ha03.Node} {k : Nat} (hk : 1 ≤ k) (l : List Nat) (hl : ∀ c ∈ l, 1 ≤ c ∧ ¬ Under N c k) (u : Ha03.St) (hu : u.nodes = N) : Ha03.now (Ha03.inOrder Start u l).1 k = Ha03.now u k :=
  (inOrder_ind (P := fun t => t.nodes = N ∧ Ha03.now t k = Ha03.now u k) (fun t c hc h => ⟨(start_nodes 20 t c).trans h.1, (start_frame (hl c hc).2 (hl c hc).1 hk 20 t h.1).trans h.2⟩) u ⟨hu, rfl⟩).2
def optV (g : G) : Option Nat → V
  | none => .non
  | some c => .ref (g.at c)
def spStart (CT CN : Addr) (d : Nat) : Sp := fun vs H Q _ => ∃ (g : G) (s : Ha03.St) (i : Nat), g.CT = CT ∧ g.CN = CN ∧ vs = [.ref g.t, .ref (g.at i)] ∧ Rep g H s ∧ WF 6 s ∧ 1 ≤ i ∧ i ≤ s.nodes.length ∧ 15 ≤ d + i ∧ Down s i ∧ (Ha03.now s i).gone = false ∧ (Start s i).1.log.length ≤ LOGMAX ∧
  ∀ H', Rep g H' (Start s i).1 → Fram g H H' → Q (.bl (Start s i).2) H'
def spInOrder (CT CN : Addr) (d : Nat) : Sp := fun vs H Q _ => ∃ (g : G) (s : Ha03.St) (a : Addr) (p : Nat) (l : List Nat), g.CT = CT ∧ g.CN = CN ∧ vs = [.ref g.t, .ref a] ∧ Rep g H s ∧ WF 6 s ∧ H a = some (.lst (kidV g l)) ∧ a ≠ g.hl ∧ 1 ≤ p ∧ (∀ c ∈ l, c ∈ kids s.nodes p ∧ Down s c ∧ 15 ≤ d + c) ∧ l.Nodup ∧ (inOrderG s l).1.log.length ≤ LOGMAX ∧
  ∀ H', Rep g H' (inOrderG s l).1 → Fram g H H' → Q (optV g (inOrderG s l).2) H'
section
variable {P : Program} {w : World} {K : PySem.W.Frag} {mg : Str → Option Value} {base : Heap} {CT CN : Addr}
theorem scInOrder : FnScope ["self", "nodes", "node"] ["self", "nodes"] (defScope sInOrder) := ⟨rfl, rfl, rfl, by decide +kernel, rfl, by decide +kernel, by decide +kernel⟩
theorem inOrderG_log : ∀ (l : List Nat) (s : Ha03.St), s.log.length ≤ (inOrderG s l).1.log.length
  | [], _ => Nat.le_refl _
  | a :: l, s => by
    unfold inOrderG
    split
    · exact inOrderG_log l s
    · split
      · exact Nat.le_trans (start_log 20 s a) (inOrderG_log l _)
      · exact start_log 20 s a
theorem kidV_get {g : G} {l : List Nat} {i : Nat} {y : V} (h : (kidV g l)[i]? = some y) : ∃ c, l[i]? = some c ∧ y = V.ref (g.at c) := by
  unfold kidV at h
  rw [List.getElem?_map] at h
  cases e : l[i]? with
  | none =>
    rw [e] at h
    cases h
  | some c => rw [e] at h; exact ⟨c, rfl, (Option.some.inj h).symm⟩
theorem drop_cons {α : Type} {l : List α} {i : Nat} {c : α} (h : l[i]? = some c) : l.drop i = c :: l.drop (i + 1) := by
  obtain ⟨hin, e⟩ := List.getElem?_eq_some_iff.mp h
  rw [List.drop_eq_getElem_cons hin, e]
theorem ok_inOrder (T : Txt K mg CT CN) (M : MDef K CT "start_in_order" "Tree.start_in_order" sInOrder ["self", "nodes"]) {k d : Nat} (ST : Mth P w K mg base k CT "start_node" (spStart CT CN d)) :
    Mth P w K mg base (k + 1) CT "start_in_order" (spInOrder CT CN d) := by
  refine M.ok scInOrder (fun vs H Q E h => ?_) (fun f cdv A outer s H vs Q E hr h => ?_)
  · obtain ⟨g, s, a, p, l, _, _, rfl, _⟩ := h
    rfl
  obtain ⟨g, z, a, p, l, rfl, rfl, rfl, R, W, ha, hah, hp, hl, hnd, hL, q⟩ := h
  refine ⟨_, pss_cons (ps_for PassesOwn.never rfl (pi_list (pv 1)) (pg_name (i := 2) scInOrder.nd rfl (.inl rfl))
    (pss_one (ps_if (PW.pt (pw_and (pt_not (pt_val (pe_fld (pv 2) rfl))) (pw_and1 (pt_not (pt_val (pm ST hr (Nat.le_refl _) (pv 0) (pa_cons (pv 2) pa_nil))))))) (pss_one (ps_ret (pv 2))) pss_nil)))
    (pss_one (ps_ret pe_non)), ?_⟩
  have nf := R.not_foot ha hah
  have hlen : (kidV g l).length = l.length := List.length_map _
  refine ⟨_, rfl, a, rfl, ⟨_, SqL.of ha⟩, ?_⟩
  refine for_list (K := K) (a := a) (xs := kidV g l) (fun i σ H' => ∃ (v : Option V) (u : Ha03.St), σ = [some (.ref g.t), some (.ref a), v] ∧ Rep g H' u ∧ Fram g H H' ∧ WF 6 u ∧ u.nodes = z.nodes ∧ inOrderG z l = inOrderG u (l.drop i) ∧ ∀ c ∈ l.drop i, Down u c) ⟨none, z, rfl, R, Fram.refl g H, W, rfl, rfl, fun c hc => (hl c hc).2.1⟩
    (fun i σ H' _ ⟨_, _, _, _, F, _⟩ => SqL.of (F _ _ ha nf)) ?_ ?_
  · rintro i y σ H' hy ⟨v, u, rfl, R1, F1, W1, n1, E1, D1⟩
    obtain ⟨c, hc, rfl⟩ := kidV_get hy
    have dc := drop_cons hc
    have cm := List.mem_of_getElem? hc
    have hcl := hl c cm
    have c1 := (mem_kids.mp hcl.1).1
    have c2 := (mem_kids.mp hcl.1).2.1
    obtain ⟨dx, tm, hn, _, _⟩ := R1.node c c1 (by rw [n1]; exact c2)
    have nd2 : c ∉ l.drop (i + 1) := by
      have := List.Pairwise.sublist (List.drop_sublist i l) hnd
      rw [dc] at this
      exact (List.nodup_cons.mp this).1
    refine ⟨_, rfl, g.at c, g.CN, dx, _, _, rfl, hn, T.clN, tN T 10 rfl, nF_gone, _, rfl, ?_⟩
    rw [dc] at E1 D1
    refine iteB (fun ng => ?_) (fun gn => ?_)
    · have ng : (Ha03.now u c).gone = false := by simpa using ng
      have E2 : inOrderG z l = if (Start u c).2 = true then inOrderG (Start u c).1 (l.drop (i + 1)) else ((Start u c).1, some c) := by
        rw [E1]
        conv => lhs; unfold inOrderG
        rw [if_neg (by rw [ng]; decide)]
      have lg : (Start u c).1.log.length ≤ LOGMAX := by
        refine Nat.le_trans ?_ hL
        rw [E2]
        split
        · exact inOrderG_log _ _
        · exact Nat.le_refl _
      refine ⟨_, rfl, g.t, g.dt, _, rfl, R1.tree, no_tree 0, _, rfl, g, u, c, rfl, rfl, rfl, R1, W1, c1, (by rw [n1]; exact c2), hcl.2.2, D1 c List.mem_cons_self, ng, lg, fun H2 R2 F2 => ⟨_, rfl, ?_⟩⟩
      refine iteB (fun b => ?_) (fun b => ?_)
      · have b : (Start u c).2 = false := by simpa using b
        rw [b] at E2
        rw [if_neg (by decide)] at E2
        refine ⟨_, rfl, ?_⟩
        have qq := q H2 (by rw [E2]; exact R2) (F1.trans F2)
        rw [E2] at qq
        exact qq
      · have b : (Start u c).2 = true := by simpa using b
        rw [b, if_pos rfl] at E2
        refine ⟨_, _, rfl, R2, F1.trans F2, W1.start 20 c1, (start_nodes 20 u c).trans n1, E2, fun e he => ?_⟩
        have em : e ∈ l := List.mem_of_mem_drop he
        have wt : WT u.nodes := W1.t
        refine down_sib W.t hp n1 hcl.1 (hl e em).1 (fun x => nd2 (by rw [x]; exact he)) 20 (D1 e (List.mem_cons_of_mem _ he))
    · have gn : (Ha03.now u c).gone = true := by simpa using gn
      refine iteF ?_
      refine ⟨_, u, rfl, R1, F1, W1, n1, ?_, fun e he => D1 e (List.mem_cons_of_mem _ he)⟩
      rw [E1]
      conv => lhs; unfold inOrderG
      rw [if_pos gn]
  · rintro σ H' ⟨v, u, rfl, R1, F1, W1, n1, E1, D1⟩
    rw [hlen, List.drop_length] at E1
    have E2 : inOrderG z l = (u, none) := E1
    have qq := q H' (by rw [E2]; exact R1) F1
    rw [E2] at qq
    exact qq
theorem scStart : FnScope ["self", "node", "child"] ["self", "node"] (defScope sStart) := ⟨rfl, rfl, rfl, by decide +kernel, rfl, by decide +kernel, by decide +kernel⟩
theorem setNow_twice (s : Ha03.St) (i : Nat) (x y : Ha03.Now) : Ha03.setNow (Ha03.setNow s i x) i y = Ha03.setNow s i y := by
  unfold Ha03.setNow
  rw [List.set_set]
theorem ok_start (T : Txt K mg CT CN) (M : MDef K CT "start_node" "Tree.start_node" sStart ["self", "node"]) {k j d : Nat} (TL : Mth P w K mg base 1 CT "tell" (spTell CT CN)) (SP : Mth P w K mg base j CT "stop_node" (spStop CT CN 14)) (hj : j ≤ k) (hk : 1 ≤ k)
    (IO : Mth P w K mg base k CT "start_in_order" (spInOrder CT CN d)) : Mth P w K mg base (k + 1) CT "start_node" (spStart CT CN (d + 1)) := by
  refine M.ok scStart (fun vs H Q E h => ?_) (fun f cdv A outer s H vs Q E hr h => ?_)
  · obtain ⟨g, s, i, _, _, rfl, _⟩ := h
    rfl
  obtain ⟨g, z, i, rfl, rfl, rfl, R, W, h1, h2, hd, D, hg, hL, q⟩ := h
  refine ⟨_, pss_cons (ps_if (pt_cmpR op_gt (pe_fld (pv 1) rfl) pe_int (nomark _)) (pss_cons (ps_fldaug (pv 1) pe_int in_sub) (pss_cons (ps_expr (pm TL hr hk (pv 0) (pa_cons (pg (gc T 13 rfl)) (pa_cons (pv 1) pa_nil)))) (pss_one (ps_ret pe_bl)))) pss_nil)
    (pss_cons (ps_fldaug (pv 0) pe_int in_add)
    (pss_cons (ps_fld (pv 1) (pe_fld (pv 0) rfl) rfl)
    (pss_cons (ps_fld (pv 1) (pe_lst pa_nil) rfl)
    (pss_cons (ps_for PassesOwn.never rfl (pi_list (pe_fld (pv 1) rfl)) (pg_name (i := 2) scStart.nd rfl (.inl rfl)) (pss_one (ps_fld (pv 2) pe_bl rfl)))
    (pss_cons (ps_expr (pm TL hr hk (pv 0) (pa_cons (pg (gc T 10 rfl)) (pa_cons (pv 1) pa_nil))))
    (pss_cons (ps_if (pt_cmpR op_isN (pm IO hr (Nat.le_refl _) (pv 0) (pa_cons (pe_fld (pv 1) rfl) pa_nil)) pe_non (nomark _)) (pss_one (ps_ret pe_bl)) pss_nil)
    (pss_cons (ps_expr (pm SP hr hj (pv 0) (pa_cons (pv 1) pa_nil))) (pss_one (ps_ret pe_bl))))))))), ?_⟩
  obtain ⟨dx, tm, hn, ht, hh⟩ := R.node i h1 h2
  have off : Ha03.running z i = false := D i .refl h2
  have off' := running_run.mp off
  refine ⟨_, rfl, g.at i, g.CN, dx, _, _, rfl, hn, T.clN, tN T 12 rfl, nF_failing, _, _, rfl, rfl, _, rfl, ?_⟩
  refine iteB (fun b => ?_) (fun b => ?_)
  · have fl : 0 < (Ha03.now z i).fails := by
      have := of_decide_eq_true b
      omega
    have E := Start_fail fl
    refine ⟨_, rfl, g.at i, g.CN, dx, _, _, rfl, hn, T.clN, tN T 12 rfl, nF_failing, _, _, rfl, rfl, dx, _, hn, nF_len, ?_⟩
    have e1 : ((((Ha03.now z i).fails : Nat) : Int) - 1) = (((Ha03.now z i).fails - 1 : Nat) : Int) := by omega
    rw [e1, nP_failing]
    have R1 := R.setNode (i := i) (dx := dx) (tm := tm) (y := { Ha03.now z i with fails := (Ha03.now z i).fails - 1 }) W.len h1 h2 ⟨_, hn⟩ ht hh
    have lg : z.log.length + 1 ≤ LOGMAX := by
      rw [E] at hL
      have : (failAt z i).log.length = z.log.length + 1 := says_log z _
      have hL : (failAt z i).log.length ≤ LOGMAX := hL
      omega
    refine ⟨_, rfl, g.t, g.dt, _, rfl, R1.tree, no_tree 0, _, rfl, g, _, i, 3, rfl, rfl, rfl, R1, h1, h2, lg, fun H2 R2 F2 => ?_⟩
    have ro : Ha03.runOf (Ha03.setNow z i { Ha03.now z i with fails := (Ha03.now z i).fails - 1 }) i = 0 := by
      rw [runOf_eq, now_same (by rw [W.len]; omega)]
      show (Ha03.now z i).run.getD 0 = 0
      rw [off']
      rfl
    rw [ro] at R2
    have qq := q H2 (by rw [E]; exact R2) ((Fram.at (R.foot h1 h2) _).trans F2)
    rw [E] at qq
    exact qq
  · have fl : (Ha03.now z i).fails = 0 := by
      have := of_decide_eq_false b
      omega
    have E := Start_eq W.t rfl h1 h2 fl
    -- self.runs += 1
    refine ⟨_, rfl, g.t, g.CT, g.dt, _, _, rfl, R.tree, T.clT, tT T 2 rfl, tF_runs, _, _, rfl, rfl, g.dt, _, R.tree, tF_len, ?_⟩
    have e1 : (((z.last : Nat) : Int) + 1) = ((z.last + 1 : Nat) : Int) := by omega
    rw [e1, tP_runs]
    have R1 := R.setTree z.time (z.last + 1)
    have F1 : Fram g H _ := Fram.at (g := g) (H := H) (.inl rfl) (.ins g.CT g.dt (treeF g z.time (z.last + 1)))
    -- node.run = self.runs
    obtain ⟨dx1, tm1, hn1, ht1, hh1⟩ := R1.node i h1 h2
    refine ⟨_, rfl, g.t, g.CT, g.dt, _, _, rfl, R1.tree, T.clT, tT T 2 rfl, tF_runs, _, rfl, g.at i, g.CN, dx1, _, rfl, hn1, T.clN, tN T 9 rfl, nF_len, ?_⟩
    rw [show (V.int ((z.last + 1 : Nat) : Int)) = V.int (((some (z.last + 1) : Option Nat).getD 0 : Nat) : Int) from rfl, nP_run]
    have R2 := R1.setNode (i := i) (dx := dx1) (tm := tm1) (y := { Ha03.now z i with run := some (z.last + 1) }) W.len h1 h2 ⟨_, hn1⟩ ht1 hh1
    have F2 := F1.trans (Fram.at (R.foot h1 h2) (.ins g.CN dx1 (nodeF g z.nodes i { Ha03.now z i with run := some (z.last + 1) } tm1)))
    -- node.times = []
    refine ⟨Nat.zero_le _, fun l hl => ?_⟩
    have R3 := R2.new hl (.lst [])
    have F3 := F2.trans (Fram.new hl (.lst []))
    have hn3 : (upd (upd (upd H g.t (.ins g.CT g.dt (treeF g z.time (z.last + 1)))) (g.at i) (.ins g.CN dx1 (nodeF g z.nodes i { Ha03.now z i with run := some (z.last + 1) } tm1))) l (.lst [])) (g.at i) = some (.ins g.CN dx1 (nodeF g z.nodes i { Ha03.now z i with run := some (z.last + 1) } tm1)) := by
      rw [upd_ne (fun e => by rw [← e, upd_same] at hl; cases hl), upd_same]
    refine ⟨_, rfl, g.at i, g.CN, dx1, _, rfl, hn3, T.clN, tN T 11 rfl, nF_len, ?_⟩
    rw [nP_times []]
    have lh : Sep g l := R2.sep_new hl
    have R4 := R3.setNode (i := i) (dx := dx1) (tm := l) (y := { Ha03.now z i with run := some (z.last + 1), times := [], gone := false }) (by show (z.nows.set _ _).length = _; rw [List.length_set]; exact W.len) h1 h2 ⟨_, hn3⟩ upd_same lh
    rw [setNow_twice] at R4
    have F4 := F3.trans (Fram.at (R.foot h1 h2) (.ins g.CN dx1 (nodeF g z.nodes i { Ha03.now z i with run := some (z.last + 1), times := [], gone := false } l)))
    have eg : ({ Ha03.now z i with run := some (z.last + 1), times := [] } : Ha03.Now) = { Ha03.now z i with run := some (z.last + 1), times := [], gone := false } := by rw [← hg]
    have eg' : nodeF g z.nodes i { Ha03.now z i with run := some (z.last + 1), times := [] } l = nodeF g z.nodes i { Ha03.now z i with run := some (z.last + 1), times := [], gone := false } l := congrArg (fun x => nodeF g z.nodes i x l) eg
    show Ends.nx _ _ (upd _ (g.at i) (HO.ins g.CN dx1 (nodeF g z.nodes i { Ha03.now z i with run := some (z.last + 1), times := [] } l)))
    rw [eg']
    clear hn3 R3 F3 R2 F2 R1 F1
    -- for child in node.children
    obtain ⟨r0, hr0⟩ : ∃ r0 : Ha03.St, r0 = Ha03.setNow { z with time := z.time, last := z.last + 1 } i { Ha03.now z i with run := some (z.last + 1), times := [], gone := false } := ⟨_, rfl⟩
    have hr1 : runAt z i = Ha03.says r0 ⟨0, i, z.last + 1⟩ := by rw [hr0]; rfl
    rw [← hr0] at R4
    have n0 : r0.nodes = z.nodes := by rw [hr0]; rfl
    have l0 : r0.nows.length = z.nodes.length := by
      rw [hr0]
      show (z.nows.set _ _).length = _
      rw [List.length_set]
      exact W.len
    obtain ⟨dx4, tm4, hn4, ht4, hh4⟩ := R4.node i h1 (by rw [n0]; exact h2)
    have hk4 := R.kids i h1 h2
    have nf4 := R.not_foot hk4.1 hk4.2.1
    have hlen : (kidV g (kids z.nodes i)).length = (kids z.nodes i).length := List.length_map _
    refine ⟨_, rfl, g.at i, g.CN, dx4, _, _, rfl, hn4, T.clN, tN T 7 rfl, nF_children, g.cs i, rfl, ⟨_, SqL.of (F4 _ _ hk4.1 nf4)⟩, ?_⟩
    refine for_list (K := K) (a := g.cs i) (xs := kidV g (kids z.nodes i)) (fun j σ H' => ∃ v : Option V, σ = [some (.ref g.t), some (.ref (g.at i)), v] ∧ Rep g H' (((kids z.nodes i).take j).foldl ungone r0) ∧ Fram g H H') ⟨none, rfl, R4, F4⟩
      (fun j σ H' _ ⟨_, _, _, F⟩ => SqL.of (F _ _ hk4.1 nf4)) ?_ ?_
    · rintro j y σ H' hy ⟨v, rfl, R5, F5⟩
      obtain ⟨c, hc, rfl⟩ := kidV_get hy
      have kc := List.mem_of_getElem? hc
      have c1 := (mem_kids.mp kc).1
      have c2 := (mem_kids.mp kc).2.1
      have n5 : (((kids z.nodes i).take j).foldl ungone r0).nodes = z.nodes := (fold_ungone_nodes _ _).trans n0
      have l5 : (((kids z.nodes i).take j).foldl ungone r0).nows.length = z.nodes.length := foldl_ind (P := fun t : Ha03.St => t.nows.length = z.nodes.length) (f := ungone) (fun t c _ h => by
        show (t.nows.set _ _).length = _
        rw [List.length_set]
        exact h) r0 l0
      obtain ⟨dx5, tm5, hn5, ht5, hh5⟩ := R5.node c c1 (by rw [n5]; exact c2)
      refine ⟨_, rfl, g.at c, g.CN, dx5, _, rfl, hn5, T.clN, tN T 10 rfl, nF_len, ?_⟩
      rw [nP_gone]
      refine ⟨_, rfl, ?_, F5.trans (Fram.at (R5.foot c1 (by rw [n5]; exact c2)) _)⟩
      rw [fold_take hc]
      exact R5.setNode (by rw [l5, n5]) c1 (by rw [n5]; exact c2) ⟨_, hn5⟩ ht5 hh5
    · rintro σ H' ⟨v, rfl, R5, F5⟩
      rw [hlen, List.take_length] at R5
      have nu : ((kids z.nodes i).foldl ungone (runAt z i)).nodes = z.nodes := fold_ungone_nodes _ _
      have eu : (kids z.nodes i).foldl ungone (runAt z i) = Ha03.says ((kids z.nodes i).foldl ungone r0) ⟨0, i, z.last + 1⟩ := by rw [hr1, fold_ungone_says]
      have lu : ((kids z.nodes i).foldl ungone (runAt z i)).log.length = z.log.length + 1 := by
        rw [fold_ungone_log]
        exact says_log _ _
      have Wu : WF 6 ((kids z.nodes i).foldl ungone (runAt z i)) := foldl_ind (f := ungone) (fun t c hc h => h.ungone (mem_kids.mp hc).1) _ (W.runAt h1)
      have EG : inOrderG ((kids z.nodes i).foldl ungone (runAt z i)) (kids z.nodes i) = Ha03.inOrder Start ((kids z.nodes i).foldl ungone (runAt z i)) (kids z.nodes i) := by
        rw [inOrderG_eq W.t h1 _ _ nu (fun c hc => hc) (kids_nodup _ _)]
        congr 1
        rw [List.filter_eq_self]
        intro c hc
        rw [fold_ungone_gone _ _ c (.inl hc)]
        rfl
      have lgx : (Ha03.inOrder Start ((kids z.nodes i).foldl ungone (runAt z i)) (kids z.nodes i)).1.log.length ≤ LOGMAX := by
        refine Nat.le_trans ?_ hL
        rw [E]
        dsimp only
        split
        · exact Nat.le_refl _
        · exact halt_log 20 _ _
      have lgu := inOrder_log (kids z.nodes i) ((kids z.nodes i).foldl ungone (runAt z i))
      have n5 : ((kids z.nodes i).foldl ungone r0).nodes = z.nodes := (fold_ungone_nodes _ _).trans n0
      have lg5 : ((kids z.nodes i).foldl ungone r0).log.length = z.log.length := by
        rw [fold_ungone_log, hr0]
        rfl
      -- self.tell(STARTED, node)
      refine ⟨_, rfl, g.t, g.dt, _, rfl, R5.tree, no_tree 0, _, rfl, g, _, i, 0, rfl, rfl, rfl, R5, h1, (by rw [n5]; exact h2), by omega, fun H6 R6 F6 => ?_⟩
      have ro : Ha03.runOf ((kids z.nodes i).foldl ungone r0) i = z.last + 1 := by
        rw [runOf_eq, fold_ungone_run, hr0, now_same (by show i - 1 < z.nows.length; rw [W.len]; omega)]
        rfl
      rw [ro, ← eu] at R6
      -- the children are started
      obtain ⟨dx6, tm6, hn6, ht6, hh6⟩ := R6.node i h1 (by rw [nu]; exact h2)
      have hk6 := R6.kids i h1 (by rw [nu]; exact h2)
      rw [nu] at hk6
      refine ⟨_, rfl, g.t, g.dt, _, rfl, R6.tree, no_tree 0, _, rfl, g.at i, g.CN, dx6, _, _, rfl, hn6, T.clN, tN T 7 rfl, nF_children, ?_⟩
      refine ⟨g, _, g.cs i, i, kids z.nodes i, rfl, rfl, rfl, R6, Wu, hk6.1, hk6.2.1, h1, fun c hc => ⟨by rw [nu]; exact hc, down_kids W.t h1 D hc, by have := kid_lt W.t h1 hc; omega⟩, kids_nodup _ _, by rw [EG]; exact lgx, fun H7 R7 F7 => ?_⟩
      rw [EG] at R7 ⊢
      refine ⟨rfl, _, rfl, ?_⟩
      have FF := (F5.trans F6).trans F7
      cases hx : (Ha03.inOrder Start ((kids z.nodes i).foldl ungone (runAt z i)) (kids z.nodes i)).2 with
      | none =>
        have E2 : Start z i = ((Ha03.inOrder Start ((kids z.nodes i).foldl ungone (runAt z i)) (kids z.nodes i)).1, true) := by
          rw [E]
          dsimp only
          rw [if_pos hx]
        have qq := q H7 (by rw [E2]; exact R7) FF
        rw [E2] at qq
        exact iteT qq
      | some c =>
        have E2 : Start z i = (Halt (Ha03.inOrder Start ((kids z.nodes i).foldl ungone (runAt z i)) (kids z.nodes i)).1 i, false) := by
          rw [E]
          dsimp only
          rw [if_neg (by rw [hx]; exact Option.some_ne_none _)]
        refine iteF ?_
        have nx : (Ha03.inOrder Start ((kids z.nodes i).foldl ungone (runAt z i)) (kids z.nodes i)).1.nodes = z.nodes := (inOrder_nodes (start_nodes 20) _ _).trans nu
        have rx : Ha03.running (Ha03.inOrder Start ((kids z.nodes i).foldl ungone (runAt z i)) (kids z.nodes i)).1 i = true := by
          have fr := inOrder_frame (N := z.nodes) (k := i) h1 (kids z.nodes i) (fun c hc => ⟨(mem_kids.mp hc).1, not_under_lt W.t (kid_lt W.t h1 hc).1 h2⟩) _ nu
          have e0 : Ha03.running (Ha03.inOrder Start ((kids z.nodes i).foldl ungone (runAt z i)) (kids z.nodes i)).1 i = Ha03.running ((kids z.nodes i).foldl ungone (runAt z i)) i := off_of (by rw [fr])
          rw [e0, off_of (fold_ungone_run _ _ i)]
          exact runAt_run (by rw [W.len]; omega)
        have Wx := Wu.inOrder (kids z.nodes i) fun c hc => (mem_kids.mp hc).1
        refine ⟨_, rfl, g.t, g.dt, _, rfl, R7.tree, no_tree 0, _, rfl, g, _, i, rfl, rfl, rfl, R7, Wx, h1, (by rw [nx]; exact h2), by omega, rx, ?_, fun H8 R8 F8 => ?_⟩
        · rw [E2] at hL
          exact hL
        · have qq := q H8 (by rw [E2]; exact R8) (FF.trans F8)
          rw [E2] at qq
          exact qq
theorem none_start (M : MDef K CT "start_node" "Tree.start_node" sStart ["self", "node"]) (k : Nat) : Mth P w K mg base k CT "start_node" (spStart CT CN 0) := by
  have no : ∀ vs H Q E, ¬ spStart CT CN 0 vs H Q E := fun vs H Q E h => by
    obtain ⟨g, s, i, _, _, _, _, W, _, h2, h3, _⟩ := h
    have := W.t.len14
    omega
  obtain ⟨f, fd, me, F, b⟩ := M.ex
  exact ⟨f, fd, _, M.cl, me, ⟨fun vs H Q E h => absurd h (no vs H Q E), fun A outer s H args us vs Q E _ _ _ _ h => absurd h (no vs H Q E)⟩, b⟩
theorem both_start (T : Txt K mg CT CN) (TL : Mth P w K mg base 1 CT "tell" (spTell CT CN)) {j : Nat} (SP : Mth P w K mg base j CT "stop_node" (spStop CT CN 14)) (M1 : MDef K CT "start_node" "Tree.start_node" sStart ["self", "node"]) (M2 : MDef K CT "start_in_order" "Tree.start_in_order" sInOrder ["self", "nodes"]) :
    ∀ d : Nat, Mth P w K mg base (j + 2 * d) CT "start_node" (spStart CT CN d) ∧ Mth P w K mg base (j + 2 * d + 1) CT "start_in_order" (spInOrder CT CN d)
  | 0 => ⟨none_start M1 j, ok_inOrder T M2 (none_start M1 j)⟩
  | d + 1 => by
    have ih := both_start T TL SP M1 M2 d
    have a := ok_start T M1 TL SP (by omega) (by omega) ih.2
    exact ⟨a, ok_inOrder T M2 a⟩
end
end LA
set_option maxRecDepth 100000
set_option maxHeartbeats 5000000
namespace LA
open PySem PySem.Spec PyProof.Rows L2 RT
/-! # recent_times, count_now, give_up -/
def recent (s : Ha03.St) (i : Nat) : List Nat := (Ha03.now s i).times.filter fun t => decide (s.time ≤ t + (nd s.nodes i).span)
theorem counted_recent (s : Ha03.St) (i : Nat) : Ha03.counted s i = recent s i ++ [s.time] := rfl
def spRecent (CT CN : Addr) : Sp := fun vs H Q _ => ∃ (g : G) (s : Ha03.St) (i : Nat), g.CT = CT ∧ g.CN = CN ∧ vs = [.ref g.t, .ref (g.at i)] ∧ Rep g H s ∧ 1 ≤ i ∧ i ≤ s.nodes.length ∧ (Ha03.now s i).times.length ≤ 1000 ∧
  ∀ H' p, Same H H' → H p = none → H' p = some (.lst (natV (recent s i))) → Q (.ref p) H'
section
variable {P : Program} {w : World} {K : PySem.W.Frag} {mg : Str → Option Value} {base : Heap} {CT CN : Addr}
theorem scRecent : FnScope ["self", "node", "moment"] ["self", "node"] (defScope sRecent) := ⟨rfl, rfl, rfl, by decide +kernel, rfl, by decide +kernel, by decide +kernel⟩
theorem filter_take_succ {α : Type} {f : α → Bool} {l : List α} {i : Nat} {x : α} (h : l[i]? = some x) : (l.take (i + 1)).filter f = (l.take i).filter f ++ (if f x = true then [x] else []) := by
  rw [List.take_add_one, List.filter_append, h]
  congr 1
  show List.filter f [x] = _
  by_cases q : f x = true
  · rw [List.filter_cons_of_pos q, if_pos q]; rfl
  · rw [List.filter_cons_of_neg q, if_neg q]; rfl
theorem ok_recent (T : Txt K mg CT CN) (M : MDef K CT "recent_times" "Tree.recent_times" sRecent ["self", "node"]) : Mth P w K mg base 1 CT "recent_times" (spRecent CT CN) := by
  refine M.ok scRecent (fun vs H Q E h => ?_) (fun f cdv A outer s H vs Q E hr h => ?_)
  · obtain ⟨g, s, i, _, _, rfl, _⟩ := h
    rfl
  obtain ⟨g, z, i, rfl, rfl, rfl, R, h1, h2, hT, q⟩ := h
  refine ⟨_, pss_one (ps_ret (pe_lc (own := [("moment", 2)]) (g := gName 2) (tt := tTest (tOp (rI0 fun i j => .bl (decide (i ≤ j))) (tOp (rI0 fun i j => .int (i - j)) (tFld K (tVar 0) "now") (tVar 2)) (tFld K (tVar 1) "span"))) (te := tVar 2) rfl scRecent.nd (pi_list (pe_fld (pv 1) rfl)) (blkOk_by (N := ["self", "node", "moment"]) (sc := defScope sRecent) (by decide +kernel))
    (fun _ _ _ _ _ => pg_name (i := 2) scRecent.nd rfl (.inl rfl)) (fun _ _ _ _ _ => by exact pts_one (pt_cmpR op_le (pe_op op_sub (pe_fld (pv 0) rfl) (pv 2)) (pe_fld (pv 1) rfl) (nomark _))) (fun _ _ _ _ _ => by exact pv 2))), ?_⟩
  obtain ⟨dx, tm, hn, ht, hh⟩ := R.node i h1 h2
  have hlen : (natV (Ha03.now z i).times).length = (Ha03.now z i).times.length := List.length_map _
  refine ⟨_, rfl, g.at i, g.CN, dx, _, _, rfl, hn, T.clN, tN T 11 rfl, nF_times, tm, rfl, ⟨_, SqL.of ht⟩, fun D hD => ?_⟩
  refine lc_list (K := K) (a := tm) (xs := natV (Ha03.now z i).times) (fun j H' => Same H H' ∧ H' D = some (.lst (natV (((Ha03.now z i).times.take j).filter fun t => decide (z.time ≤ t + (nd z.nodes i).span))))) ⟨same_new hD _, upd_same⟩
    (fun j H' _ p => SqL.of (p.1 _ _ ht)) ?_ ?_
  · rintro j y H' hy ⟨S1, hD1⟩
    obtain ⟨n, hn1, rfl⟩ : ∃ n, (Ha03.now z i).times[j]? = some n ∧ y = V.int (n : Nat) := by
      unfold natV at hy
      rw [List.getElem?_map] at hy
      cases e : (Ha03.now z i).times[j]? with
      | none => rw [e] at hy; cases hy
      | some n => rw [e] at hy; exact ⟨n, rfl, (Option.some.inj hy).symm⟩
    refine ⟨rfl, _, rfl, g.t, g.CT, g.dt, _, _, rfl, S1 _ _ R.tree, T.clT, tT T 1 rfl, tF_now, _, rfl, _, _, rfl, rfl, _, rfl, g.at i, g.CN, dx, _, _, rfl, S1 _ _ hn, T.clN, tN T 6 rfl, nF_span, _, _, rfl, rfl, _, rfl, ?_⟩
    have cmp : decide (((z.time : Nat) : Int) - ((n : Nat) : Int) ≤ (((nd z.nodes i).span : Nat) : Int)) = decide (z.time ≤ n + (nd z.nodes i).span) := by
      rw [decide_eq_decide]
      omega
    rw [cmp]
    have ft := filter_take_succ (f := fun t => decide (z.time ≤ t + (nd z.nodes i).span)) hn1
    refine iteB (fun b => ?_) (fun b => ?_)
    · rw [if_pos b] at ft
      refine ⟨_, rfl, _, hD1, ?_, ?_, ?_⟩
      · have : (natV (((Ha03.now z i).times.take j).filter fun t => decide (z.time ≤ t + (nd z.nodes i).span))).length ≤ 1000 := by
          unfold natV
          rw [List.length_map]
          refine Nat.le_trans (List.length_filter_le _ _) ?_
          rw [List.length_take]
          omega
        exact small1000 this
      · intro b o e
        have : b ≠ D := ne_of_none e hD
        rw [upd_ne this]
        exact S1 _ _ e
      · rw [upd_same, ft]
        unfold natV
        rw [List.map_append]
        rfl
    · rw [if_neg (by rw [b]; decide), List.append_nil] at ft
      exact ⟨S1, by rw [ft]; exact hD1⟩
  · rintro H' ⟨S1, hD1⟩
    rw [hlen, List.take_length] at hD1
    exact q H' D S1 hD hD1
/-! count_now -/
def spCount (CT CN : Addr) : Sp := fun vs H Q _ => ∃ (g : G) (s : Ha03.St) (i : Nat), g.CT = CT ∧ g.CN = CN ∧ vs = [.ref g.t, .ref (g.at i)] ∧ Rep g H s ∧ WF 6 s ∧ 1 ≤ i ∧ i ≤ s.nodes.length ∧
  ∀ H', Rep g H' (timed s i) → Fram g H H' → Q .non H'
theorem scCount : FnScope ["self", "keeper"] ["self", "keeper"] (defScope sCount) := ⟨rfl, rfl, rfl, by decide +kernel, rfl, by decide +kernel, by decide +kernel⟩
theorem Fram.same {g : G} {H H' : Hp} (e : Same H H') : Fram g H H' := fun b o h _ => e b o h
theorem ok_count (T : Txt K mg CT CN) (M : MDef K CT "count_now" "Tree.count_now" sCount ["self", "keeper"]) (RC : Mth P w K mg base 1 CT "recent_times" (spRecent CT CN)) : Mth P w K mg base 2 CT "count_now" (spCount CT CN) := by
  refine M.ok scCount (fun vs H Q E h => ?_) (fun f cdv A outer s H vs Q E hr h => ?_)
  · obtain ⟨g, s, i, _, _, rfl, _⟩ := h
    rfl
  obtain ⟨g, z, i, rfl, rfl, rfl, R, W, h1, h2, q⟩ := h
  refine ⟨_, pss_one (ps_fld (pv 1) (pe_op op_cat (pm RC hr (by decide) (pv 0) (pa_cons (pv 1) pa_nil)) (pe_lst (pa_cons (pe_fld (pv 0) rfl) pa_nil))) rfl), ?_⟩
  refine ⟨_, rfl, g.t, g.dt, _, rfl, R.tree, no_tree 0, _, rfl, g, z, i, rfl, rfl, rfl, R, h1, h2, (by have := W.times i; omega), fun H1 p S1 hp hp1 => ?_⟩
  have R1 := R.same S1
  refine ⟨_, rfl, g.t, g.CT, g.dt, _, _, rfl, R1.tree, T.clT, tT T 1 rfl, tF_now, (by show 1 ≤ sizeLine; decide), fun r hr1 => ?_⟩
  have R2 := R1.new hr1 (.lst [.int (z.time : Nat)])
  have hp2 : upd H1 r (.lst [.int (z.time : Nat)]) p = some (.lst (natV (recent z i))) := by
    rw [upd_ne (ne_of_none hp1 hr1)]
    exact hp1
  have lr : (recent z i).length ≤ 6 := Nat.le_trans (List.length_filter_le _ _) (W.times i)
  refine ⟨p, r, _, _, rfl, rfl, hp2, upd_same, ?_, fun t ht => ?_⟩
  · have : (natV (recent z i)).length = (recent z i).length := List.length_map _
    rw [this]
    exact Nat.le_of_lt (small1000 (by show (recent z i).length + 1 ≤ 1000; omega))
  have R3 := R2.new ht (.lst (natV (recent z i) ++ [.int (z.time : Nat)]))
  obtain ⟨dx, tm, hn, _, _⟩ := R3.node i h1 h2
  refine ⟨_, rfl, g.at i, g.CN, dx, _, rfl, hn, T.clN, tN T 11 rfl, nF_len, ?_⟩
  rw [nP_times (Ha03.counted z i)]
  obtain ⟨ps, hps, _⟩ := R2.log
  have eq : natV (recent z i) ++ [.int (z.time : Nat)] = natV (Ha03.counted z i) := by
    rw [counted_recent]
    unfold natV
    rw [List.map_append]
    rfl
  refine q _ ?_ ((Fram.same S1).trans ((Fram.new hr1 _).trans ((Fram.new ht _).trans (Fram.at (R.foot h1 h2) _))))
  unfold timed
  rw [← setNow_upd]
  exact R3.setNode (y := timer (Ha03.counted z i) (Ha03.now z i)) W.len h1 h2 ⟨_, hn⟩ (by rw [upd_same, eq]; rfl) (R2.sep_new ht)
end
end LA
set_option maxRecDepth 100000
set_option maxHeartbeats 5000000
namespace LA
open PySem PySem.Spec PyProof.Rows L2 RT
/-! # begin_by_way -/
theorem sIx_nat (n : Nat) (d k : Nat) : HT.sIx n d (some (k : Int)) = min k n := by
  unfold HT.sIx
  simp
  omega
theorem cut_from (xs : List V) (k : Nat) : cutV xs (some (k : Int)) none = xs.drop k := by
  unfold cutV
  rw [sIx_nat]
  show (xs.drop (min k xs.length)).take (xs.length - min k xs.length) = _
  have h : (xs.drop (min k xs.length)).length = xs.length - min k xs.length := List.length_drop
  rw [← h, List.take_length]
  rcases Nat.le_total k xs.length with q | q
  · rw [Nat.min_eq_left q]
  · rw [Nat.min_eq_right q, List.drop_length, List.drop_eq_nil_of_le q]
theorem kidV_drop (g : G) (l : List Nat) (k : Nat) : (kidV g l).drop k = kidV g (l.drop k) := by
  unfold kidV
  rw [List.map_drop]
theorem sorted_drop {c : Nat} : ∀ {l : List Nat}, l.Pairwise (· < ·) → c ∈ l → l.drop (l.idxOf c) = l.filter fun k => decide (c ≤ k)
  | [], _, h => by cases h
  | a :: l, hs, h => by
    have hs' := List.pairwise_cons.mp hs
    by_cases e : a = c
    · subst e
      rw [List.idxOf_cons_self, List.drop_zero]
      symm
      rw [List.filter_eq_self]
      intro x hx
      obtain rfl | hx := List.mem_cons.mp hx
      · simp
      · have := hs'.1 x hx
        simp
        omega
    · obtain rfl | h := List.mem_cons.mp h
      · exact absurd rfl e
      · have lt := hs'.1 c h
        have ix : (a :: l).idxOf c = l.idxOf c + 1 := by
          have be : (a == c) = false := beq_eq_false_iff_ne.mpr e
          rw [List.idxOf_cons, be]
          rfl
        rw [ix, List.drop_succ_cons, List.filter_cons_of_neg (by simp; omega)]
        exact sorted_drop hs'.2 h
def spByWay (CT CN : Addr) : Sp := fun vs H Q _ => ∃ (g : G) (s : Ha03.St) (p c : Nat), g.CT = CT ∧ g.CN = CN ∧ vs = [.ref g.t, .ref (g.at p), .ref (g.at c)] ∧ Rep g H s ∧ WF 6 s ∧ TRI s ∧ 1 ≤ p ∧ p ≤ s.nodes.length ∧ c ∈ kids s.nodes p ∧ Ha03.running s p = true ∧ (byWay s p c).1.log.length ≤ LOGMAX ∧
  ∀ H', Rep g H' (byWay s p c).1 → Fram g H H' → Q (optV g (byWay s p c).2) H'
def t_rest (K : PySem.W.Frag) (CT : Addr) (spSR spIO : Sp) : TS :=
  tSeq (tDrop (tMeth CT "stop_running" spSR [] E0 (tVar 0) (tCons (tVar 3) tNil)))
    (tSeq (tFor (iList K (tVar 3)) (gName 4) (tIfS (tTest (tOp rEq (tFld K (tVar 4) "kind") (tC (.int 2)))) (sFld K (tVar 4) (tC (.bl true)) "gone") tNext))
    (tRet (tMeth CT "start_in_order" spIO [] E0 (tVar 0) (tCons (tVar 3) tNil))))
section
variable {P : Program} {w : World} {K : PySem.W.Frag} {mg : Str → Option Value} {base : Heap} {CT CN : Addr}
theorem scByWay : FnScope ["self", "keeper", "child", "again", "node"] ["self", "keeper", "child"] (defScope sByWay) := ⟨rfl, rfl, rfl, by decide +kernel, rfl, by decide +kernel, by decide +kernel⟩
theorem int_eq_nat {a : Nat} {b : Nat} : decide (V.int (a : Int) = V.int (b : Int)) = decide (a = b) := by
  rw [decide_eq_decide]
  constructor
  · intro h
    have := V.int.inj h
    omega
  · rintro rfl
    rfl
theorem mark_off {t : Ha03.St} {d : Nat} (h : ¬ (Ha03.node t d).kind = 2) : mark t d = t := by
  unfold mark
  rw [if_neg h]
theorem pure_rest {z : Ha03.St} {g : G} {H H1 : Hp} {Q : VK} {p c a : Nat} (T : Txt K mg g.CT g.CN) (W : WF 6 z) (TR : TRI z) (hp : 1 ≤ p) (hpn : p ≤ z.nodes.length) (hc : c ∈ kids z.nodes p) (rp : Ha03.running z p = true) (hL : (byWay z p c).1.log.length ≤ LOGMAX)
    (q : ∀ H', Rep g H' (byWay z p c).1 → Fram g H H' → Q (optV g (byWay z p c).2) H') (R1 : Rep g H1 z) (F1 : Fram g H H1) (ha : H1 a = some (.lst (kidV g (theLot z.nodes p c)))) (hah : a ≠ g.hl) (D : Ends) (hD : D.rt = Q) :
    t_rest K g.CT (spStopRun g.CT g.CN 14) (spInOrder g.CT g.CN 14) D [some (.ref g.t), some (.ref (g.at p)), some (.ref (g.at c)), some (.ref a), none] H1 := by
  have sub := theLot_sub z.nodes hc
  have nf := R1.not_foot ha hah
  have hk : ∀ d ∈ theLot z.nodes p c, 1 ≤ d ∧ d ≤ z.nodes.length := fun d hd => ⟨(mem_kids.mp (sub.subset hd)).1, (mem_kids.mp (sub.subset hd)).2.1⟩
  have k2 : ∀ d ∈ theLot z.nodes p c, 2 ≤ d := fun d hd => kid2 W.t hp (sub.subset hd)
  have L := lot_down W TR hp hpn hc rp
  have hlen : (kidV g (theLot z.nodes p c)).length = (theLot z.nodes p c).length := List.length_map _
  have nh : ((theLot z.nodes p c).reverse.foldl Halt z).nodes = z.nodes := fold_halt_nodes 20 _ z
  have Wh : WF 6 ((theLot z.nodes p c).reverse.foldl Halt z) := W.foldHalt _ fun d hd => (hk d (List.mem_reverse.mp hd)).1
  have nm : ∀ (l : List Nat) (t : Ha03.St), (l.foldl mark t).nodes = t.nodes := fun l t => foldl_ind (P := fun u : Ha03.St => u.nodes = t.nodes) (f := mark) (fun u d _ h => (mark_nodes u d).trans h) t rfl
  have lm : ∀ (l : List Nat) (t : Ha03.St), (l.foldl mark t).log = t.log := fun l t => foldl_ind (P := fun u : Ha03.St => u.log = t.log) (f := mark) (fun u d _ h => by
    have e : (mark u d).log = u.log := by unfold mark; split <;> rfl
    rw [e]
    exact h) t rfl
  have wm : ∀ (l : List Nat) (t : Ha03.St), WF 6 t → (∀ d ∈ l, 2 ≤ d) → WF 6 (l.foldl mark t) := fun l t wt hl => foldl_ind (f := mark) (fun u d hd h => h.mark (hl d hd)) t wt
  have lg1 : ((theLot z.nodes p c).reverse.foldl Halt z).log.length ≤ LOGMAX := by
    refine Nat.le_trans ?_ hL
    have := inOrderG_log (theLot z.nodes p c) ((theLot z.nodes p c).foldl mark ((theLot z.nodes p c).reverse.foldl Halt z))
    rw [lm] at this
    exact this
  refine ⟨_, rfl, g.t, g.dt, _, rfl, R1.tree, no_tree 0, _, rfl, g, z, a, theLot z.nodes p c, rfl, rfl, rfl, R1, W, ha, hah, fun d hd => ⟨(hk d hd).1, (hk d hd).2, by have := k2 d hd; omega⟩, lg1, fun H2 R2 F2 => ?_⟩
  refine ⟨_, rfl, a, rfl, ⟨_, SqL.of (F2 _ _ ha nf)⟩, ?_⟩
  refine for_list (K := K) (a := a) (xs := kidV g (theLot z.nodes p c)) (fun j σ H' => ∃ v : Option V, σ = [some (.ref g.t), some (.ref (g.at p)), some (.ref (g.at c)), some (.ref a), v] ∧ Rep g H' (((theLot z.nodes p c).take j).foldl mark ((theLot z.nodes p c).reverse.foldl Halt z)) ∧ Fram g H1 H') ⟨none, rfl, R2, F2⟩
    (fun j σ H' _ ⟨_, _, _, F⟩ => SqL.of (F _ _ ha nf)) ?_ ?_
  · rintro j y σ H' hy ⟨v, rfl, R5, F5⟩
    obtain ⟨d, hd, rfl⟩ := kidV_get hy
    have dm := List.mem_of_getElem? hd
    have n5 : (((theLot z.nodes p c).take j).foldl mark ((theLot z.nodes p c).reverse.foldl Halt z)).nodes = z.nodes := (nm _ _).trans nh
    have W5 := wm ((theLot z.nodes p c).take j) _ Wh fun d hd => k2 d (List.mem_of_mem_take hd)
    obtain ⟨dx5, tm5, hn5, ht5, hh5⟩ := R5.node d (hk d dm).1 (by rw [n5]; exact (hk d dm).2)
    refine ⟨_, rfl, g.at d, g.CN, dx5, _, _, rfl, hn5, T.clN, tN T 3 rfl, nF_kind, rfl, _, rfl, ?_⟩
    have st := fold_take (f := mark) hd ((theLot z.nodes p c).reverse.foldl Halt z)
    show if decide (V.int ((nd (((theLot z.nodes p c).take j).foldl mark ((theLot z.nodes p c).reverse.foldl Halt z)).nodes d).kind : Int) = V.int ((2 : Nat) : Int)) = true then _ else _
    rw [int_eq_nat]
    refine iteB (fun b => ?_) (fun b => ?_)
    · have b := of_decide_eq_true b
      refine ⟨_, rfl, g.at d, g.CN, dx5, _, rfl, hn5, T.clN, tN T 10 rfl, nF_len, ?_⟩
      rw [nP_gone]
      refine ⟨_, rfl, ?_, F5.trans (Fram.at (R5.foot (hk d dm).1 (by rw [n5]; exact (hk d dm).2)) _)⟩
      rw [st]
      have S := R5.setNode (y := goner (Ha03.now (((theLot z.nodes p c).take j).foldl mark ((theLot z.nodes p c).reverse.foldl Halt z)) d)) W5.len (hk d dm).1 (by rw [n5]; exact (hk d dm).2) ⟨_, hn5⟩ ht5 hh5
      unfold mark
      rw [if_pos (by rw [node_nd]; exact b), ← setNow_upd]
      exact S
    · have b := of_decide_eq_false b
      refine ⟨_, rfl, ?_, F5⟩
      rw [st]
      have e : mark (((theLot z.nodes p c).take j).foldl mark ((theLot z.nodes p c).reverse.foldl Halt z)) d = ((theLot z.nodes p c).take j).foldl mark ((theLot z.nodes p c).reverse.foldl Halt z) := by
        exact mark_off (by rw [node_nd]; exact b)
      rw [e]
      exact R5
  · rintro σ H' ⟨v, rfl, R5, F5⟩
    rw [hlen, List.take_length] at R5
    have n5 : ((theLot z.nodes p c).foldl mark ((theLot z.nodes p c).reverse.foldl Halt z)).nodes = z.nodes := (nm _ _).trans nh
    have W5 := wm (theLot z.nodes p c) _ Wh k2
    refine ⟨_, rfl, g.t, g.dt, _, rfl, R5.tree, no_tree 0, _, rfl, g, _, a, p, theLot z.nodes p c, rfl, rfl, rfl, R5, W5, F5 _ _ ha nf, hah, hp, fun d hd => ⟨by rw [n5]; exact sub.subset hd, L.2.2 d hd, by have := k2 d hd; omega⟩, List.Pairwise.sublist sub (kids_nodup _ p), hL, fun H6 R6 F6 => ?_⟩
    show D.rt _ _
    rw [hD]
    exact q H6 R6 ((F1.trans F5).trans F6)
theorem ok_byWay (T : Txt K mg CT CN) (M : MDef K CT "begin_by_way" "Tree.begin_by_way" sByWay ["self", "keeper", "child"]) {k : Nat} (SR : Mth P w K mg base k CT "stop_running" (spStopRun CT CN 14)) (IO : Mth P w K mg base k CT "start_in_order" (spInOrder CT CN 14)) :
    Mth P w K mg base (k + 1) CT "begin_by_way" (spByWay CT CN) := by
  refine M.ok scByWay (fun vs H Q E h => ?_) (fun f cdv A outer s H vs Q E hr h => ?_)
  · obtain ⟨g, s, p, c, _, _, rfl, _⟩ := h
    rfl
  obtain ⟨g, z, p, c, rfl, rfl, rfl, R, W, TR, hp, hpn, hc, rp, hL, q⟩ := h
  refine ⟨_, pss_cons (ps_if (pt_cmpR op_eq (pe_fld (pv 1) rfl) (pg (gc T 17 rfl)) (nomark _)) (pss_one (ps_set (i := 3) scByWay.nd rfl (.inl rfl) (pe_lst (pa_cons (pv 2) pa_nil))))
      (pss_one (ps_if (pt_cmpR op_eq (pe_fld (pv 1) rfl) (pg (gc T 18 rfl)) (nomark _)) (pss_one (ps_set (i := 3) scByWay.nd rfl (.inl rfl) (pe_fld (pv 1) rfl)))
        (pss_one (ps_set (i := 3) scByWay.nd rfl (.inl rfl) (pe_slice sl_list (pe_fld (pv 1) rfl) (po_some (pe_fld (pv 2) rfl)) po_none))))))
    (pss_cons (ps_expr (pm SR hr (Nat.le_refl _) (pv 0) (pa_cons (pv 3) pa_nil)))
    (pss_cons (ps_for PassesOwn.never rfl (pi_list (pv 3)) (pg_name (i := 4) scByWay.nd rfl (.inl rfl))
      (pss_one (ps_if (pt_cmpR op_eq (pe_fld (pv 4) rfl) (pg (gc T 16 rfl)) (nomark _)) (pss_one (ps_fld (pv 4) pe_bl rfl)) pss_nil)))
    (pss_one (ps_ret (pm IO hr (Nat.le_refl _) (pv 0) (pa_cons (pv 3) pa_nil)))))), ?_⟩
  obtain ⟨dx, tm, hn, _, _⟩ := R.node p hp hpn
  have hkid := R.kids p hp hpn
  have cm := mem_kids.mp hc
  refine ⟨_, rfl, g.at p, g.CN, dx, _, _, rfl, hn, T.clN, tN T 4 rfl, nF_way, rfl, _, rfl, ?_⟩
  show if decide (V.int ((nd z.nodes p).way : Int) = V.int ((0 : Nat) : Int)) = true then _ else _
  rw [int_eq_nat]
  refine iteB (fun b => ?_) (fun b => ?_)
  · have b := of_decide_eq_true b
    refine ⟨_, rfl, (by show 1 ≤ sizeLine; decide), fun a ha => ?_⟩
    obtain ⟨ps, hps, _⟩ := R.log
    exact pure_rest (a := a) T W TR hp hpn hc rp hL q (R.new ha _) (Fram.new ha _) (by rw [upd_same, lot0 b]; rfl) (ne_of_none hps ha).symm _ rfl
  · have b := of_decide_eq_false b
    refine ⟨_, rfl, g.at p, g.CN, dx, _, _, rfl, hn, T.clN, tN T 4 rfl, nF_way, rfl, _, rfl, ?_⟩
    show if decide (V.int ((nd z.nodes p).way : Int) = V.int ((1 : Nat) : Int)) = true then _ else _
    rw [int_eq_nat]
    refine iteB (fun b1 => ?_) (fun b1 => ?_)
    · have b1 := of_decide_eq_true b1
      refine ⟨_, rfl, g.at p, g.CN, dx, _, _, rfl, hn, T.clN, tN T 7 rfl, nF_children, ?_⟩
      exact pure_rest (a := g.cs p) T W TR hp hpn hc rp hL q R (Fram.refl g H) (by rw [lot1 b1]; exact hkid.1) hkid.2.1 _ rfl
    · have b1 := of_decide_eq_false b1
      obtain ⟨dxc, tmc, hnc, _, _⟩ := R.node c cm.1 cm.2.1
      refine ⟨_, rfl, g.at p, g.CN, dx, _, _, rfl, hn, T.clN, tN T 7 rfl, nF_children, _, rfl, g.at c, g.CN, dxc, _, _, rfl, hnc, T.clN, tN T 8 rfl, nF_place, _, rfl, g.cs p, _, rfl, SqL.of hkid.1, fun a ha => ?_⟩
      obtain ⟨ps, hps, _⟩ := R.log
      have e : cutV (kidV g (kids z.nodes p)) (some ((plc z.nodes c : Nat) : Int)) none = kidV g (theLot z.nodes p c) := by
        obtain ⟨k2, hk2⟩ : ∃ k2, (nd z.nodes p).way = k2 + 2 := ⟨(nd z.nodes p).way - 2, by omega⟩
        rw [cut_from, kidV_drop, lot2 hk2]
        unfold plc
        rw [cm.2.2, sorted_drop (kids_sorted _ _) hc]
      exact pure_rest (a := a) T W TR hp hpn hc rp hL q (R.new ha _) (Fram.new ha _) (by rw [upd_same, ← e]) (ne_of_none hps ha).symm _ rfl
end
end LA
set_option maxRecDepth 100000
set_option maxHeartbeats 5000000
namespace LA
open PySem PySem.Spec PyProof.Rows L2 RT
/-! # give_up, has_ended, begin_again, worker_dies -/
theorem overs_sum {s : Ha03.St} (w : WF 5 s) {p : Nat} (hp : 1 ≤ p) (hpn : p ≤ s.nodes.length) : sumF (overs s p) ≤ sumF s := by
  have k := (Keep.of w).foldHalt (Ha03.children s p).reverse fun c hc => by
    rw [List.mem_reverse, children_kids] at hc
    exact ⟨(mem_kids.mp hc).1, (mem_kids.mp hc).2.1⟩
  have k2 := (k.says ⟨4, p, Ha03.runOf s p⟩).setF (i := p) (x := { Ha03.now ((Ha03.children s p).reverse.foldl Halt s) p with run := none, times := [] }) hp hpn (Nat.le_refl _)
  have e := setNow_upd (Ha03.says ((Ha03.children s p).reverse.foldl Halt s) ⟨4, p, Ha03.runOf s p⟩) p (fun x => { x with run := none, times := [] })
  have b := k2.b
  unfold overs
  rw [← e]
  exact b
theorem overs_eq {s : Ha03.St} (w : WF 5 s) {p : Nat} (hp : 1 ≤ p) (hpn : p ≤ s.nodes.length) (l : List Nat) :
    upd1 (Ha03.says ((kids s.nodes p).reverse.foldl Halt (upd1 s p (timer l))) ⟨4, p, Ha03.runOf ((kids s.nodes p).reverse.foldl Halt (upd1 s p (timer l))) p⟩) p (fun x => { x with run := none, times := [] }) = overs s p := by
  have e1 := fold_halt_comm (calm_timer l) p (kids s.nodes p).reverse s
  have r1 : Ha03.runOf ((kids s.nodes p).reverse.foldl Halt (upd1 s p (timer l))) p = Ha03.runOf s p := by
    rw [e1, runOf_eq, run_upd (calm_timer l), fold_halt_now w.t hp hpn 20 _ (fun c hc => List.mem_reverse.mp hc) s rfl]
    rfl
  rw [r1, e1]
  unfold overs
  rw [children_kids]
  unfold upd1 Ha03.says
  simp only [Ha03.St.mk.injEq, and_true, true_and]
  rw [modify_twice]
  rfl
theorem overs_off {s : Ha03.St} (w : WF 5 s) {p : Nat} (hp : 1 ≤ p) (hpn : p ≤ s.nodes.length) : Ha03.running (overs s p) p = false := by
  rw [running_run]
  unfold overs
  have := (w.foldHalt (Ha03.children s p).reverse fun d hd => by rw [List.mem_reverse, children_kids] at hd; exact (mem_kids.mp hd).1).len
  rw [fold_halt_nodes] at this
  rw [now_upd_same (by show p - 1 < ((Ha03.children s p).reverse.foldl Halt s).nows.length; omega)]
def spEnded (CT CN : Addr) (m : Nat) : Sp := fun vs H Q _ => ∃ (g : G) (s : Ha03.St) (c how f : Nat), g.CT = CT ∧ g.CN = CN ∧ vs = [.ref g.t, .ref (g.at c), .int (how : Nat)] ∧ Rep g H s ∧ WF 5 s ∧ TRI s ∧ 1 ≤ c ∧ c ≤ s.nodes.length ∧ c ≤ m ∧ Ha03.running s c = false ∧ ((nd s.nodes c).parent ≠ 0 → Ha03.running s (nd s.nodes c).parent = true) ∧
  sumF s + 2 * (nd s.nodes c).parent + 2 ≤ f ∧ (Ha03.ended f s (nd s.nodes c).parent c how).log.length ≤ LOGMAX ∧ ∀ H', Rep g H' (Ha03.ended f s (nd s.nodes c).parent c how) → Fram g H H' → Q .non H'
def spGiveUp (CT CN : Addr) (m : Nat) : Sp := fun vs H Q _ => ∃ (g : G) (s : Ha03.St) (p f : Nat), g.CT = CT ∧ g.CN = CN ∧ vs = [.ref g.t, .ref (g.at p)] ∧ Rep g H (timed s p) ∧ WF 5 s ∧ TRI s ∧ 1 ≤ p ∧ p ≤ s.nodes.length ∧ p ≤ m ∧ Ha03.running s p = true ∧
  sumF s + 2 * p ≤ f ∧ (Ha03.ended f (overs s p) (nd s.nodes p).parent p 2).log.length ≤ LOGMAX ∧ ∀ H', Rep g H' (Ha03.ended f (overs s p) (nd s.nodes p).parent p 2) → Fram g H H' → Q .non H'
def spAgain (CT CN : Addr) (m : Nat) : Sp := fun vs H Q _ => ∃ (g : G) (s : Ha03.St) (p c f : Nat), g.CT = CT ∧ g.CN = CN ∧ vs = [.ref g.t, .ref (g.at c)] ∧ Rep g H s ∧ WF 5 s ∧ TRI s ∧ 1 ≤ p ∧ p ≤ s.nodes.length ∧ p ≤ m ∧ c ∈ kids s.nodes p ∧ (nd s.nodes c).kind ≠ 2 ∧ Ha03.running s c = false ∧ Ha03.running s p = true ∧
  sumF s + 2 * p + 1 ≤ f ∧ (Ha03.again f s p c).log.length ≤ LOGMAX ∧ ∀ H', Rep g H' (Ha03.again f s p c) → Fram g H H' → Q .non H'
section
variable {P : Program} {w : World} {K : PySem.W.Frag} {mg : Str → Option Value} {base : Heap} {CT CN : Addr}
theorem ended_how {f : Nat} {s : Ha03.St} {p c : Nat} {a b : Nat} (h : a = 0 ↔ b = 0) : Ha03.ended f s p c a = Ha03.ended f s p c b := by
  cases f with
  | zero => rw [Ha03.ended, Ha03.ended]
  | succ f =>
    rw [Ha03.ended, Ha03.ended]
    by_cases ha : a = 0
    · rw [ha, h.mp ha]
    · have hb : b ≠ 0 := fun q => ha (h.mpr q)
      simp [ha, hb]
theorem scGiveUp : FnScope ["self", "keeper"] ["self", "keeper"] (defScope sGiveUp) := ⟨rfl, rfl, rfl, by decide +kernel, rfl, by decide +kernel, by decide +kernel⟩
theorem ok_giveUp (T : Txt K mg CT CN) (M : MDef K CT "give_up" "Tree.give_up" sGiveUp ["self", "keeper"]) {k j m : Nat} (TL : Mth P w K mg base 1 CT "tell" (spTell CT CN)) (hk : 1 ≤ k) (SR : Mth P w K mg base j CT "stop_running" (spStopRun CT CN 14)) (hj : j ≤ k)
    (EN : Mth P w K mg base k CT "has_ended" (spEnded CT CN m)) : Mth P w K mg base (k + 1) CT "give_up" (spGiveUp CT CN m) := by
  refine M.ok scGiveUp (fun vs H Q E h => ?_) (fun f cdv A outer s H vs Q E hr h => ?_)
  · obtain ⟨g, s, p, f, _, _, rfl, _⟩ := h
    rfl
  obtain ⟨g, z, p, fu, rfl, rfl, rfl, R, W, TR, hp, hpn, hpm, rp, hf, hL, q⟩ := h
  refine ⟨_, pss_cons (ps_expr (pm SR hr hj (pv 0) (pa_cons (pe_fld (pv 1) rfl) pa_nil)))
    (pss_cons (ps_expr (pm TL hr hk (pv 0) (pa_cons (pg (gc T 14 rfl)) (pa_cons (pv 1) pa_nil))))
    (pss_cons (ps_fld (pv 1) pe_int rfl)
    (pss_cons (ps_fld (pv 1) (pe_lst pa_nil) rfl)
    (pss_one (ps_expr (pm EN hr (Nat.le_refl _) (pv 0) (pa_cons (pv 1) (pa_cons (pg (gc T 20 rfl)) pa_nil)))))))), ?_⟩
  have W6 : WF 6 (timed z p) := W.timed6 hp
  obtain ⟨dx, tm, hn, _, _⟩ := R.node p hp hpn
  have hkids := R.kids p hp hpn
  have kk : ∀ c ∈ kids z.nodes p, 1 ≤ c ∧ c ≤ z.nodes.length ∧ 15 ≤ 14 + c := fun c hc => by
    have := kid_lt W.t hp hc
    exact ⟨by omega, this.2, by omega⟩
  have OE := overs_eq W hp hpn (Ha03.counted z p)
  have lgo : (overs z p).log.length ≤ LOGMAX := Nat.le_trans ((log_again fu).1 _ _ _ _) hL
  have lg1 : ((kids z.nodes p).reverse.foldl Halt (timed z p)).log.length + 1 ≤ LOGMAX := by
    refine Nat.le_trans ?_ lgo
    rw [← OE]
    exact Nat.le_of_eq (says_log _ _).symm
  refine ⟨_, rfl, g.t, g.dt, _, rfl, R.tree, no_tree 0, _, rfl, g.at p, g.CN, dx, _, _, rfl, hn, T.clN, tN T 7 rfl, nF_children, ?_⟩
  refine ⟨g, timed z p, g.cs p, kids z.nodes p, rfl, rfl, rfl, R, W6, hkids.1, hkids.2.1, kk, by omega, fun H1 R1 F1 => ?_⟩
  obtain ⟨t1, ht1⟩ : ∃ t1, t1 = (kids z.nodes p).reverse.foldl Halt (timed z p) := ⟨_, rfl⟩
  rw [← ht1] at R1 lg1
  have n1 : t1.nodes = z.nodes := by rw [ht1]; exact fold_halt_nodes 20 _ _
  have W1 : WF 6 t1 := by rw [ht1]; exact W6.foldHalt _ fun c hc => (kk c (List.mem_reverse.mp hc)).1
  refine ⟨_, rfl, g.t, g.dt, _, rfl, R1.tree, no_tree 0, _, rfl, g, _, p, 4, rfl, rfl, rfl, R1, hp, (by rw [n1]; exact hpn), lg1, fun H2 R2 F2 => ?_⟩
  obtain ⟨dx2, tm2, hn2, ht2, hh2⟩ := R2.node p hp (by show p ≤ t1.nodes.length; rw [n1]; exact hpn)
  refine ⟨_, rfl, g.at p, g.CN, dx2, _, rfl, hn2, T.clN, tN T 9 rfl, nF_len, ?_⟩
  rw [show (V.int 0) = V.int (((none : Option Nat).getD 0 : Nat) : Int) from rfl, nP_run]
  have R3 := R2.setNode (i := p) (dx := dx2) (tm := tm2) (y := { Ha03.now t1 p with run := none }) W1.len hp (by show p ≤ t1.nodes.length; rw [n1]; exact hpn) ⟨_, hn2⟩ ht2 hh2
  have F3 := (F1.trans F2).trans (Fram.at (R.foot hp hpn) (.ins g.CN dx2 (nodeF g t1.nodes p { Ha03.now t1 p with run := none } tm2)))
  refine ⟨Nat.zero_le _, fun l hl => ?_⟩
  have R4 := R3.new hl (.lst [])
  have F4 := F3.trans (Fram.new hl (.lst []))
  have hn4 : upd (upd H2 (g.at p) (.ins g.CN dx2 (nodeF g t1.nodes p { Ha03.now t1 p with run := none } tm2))) l (.lst []) (g.at p) = some (.ins g.CN dx2 (nodeF g t1.nodes p { Ha03.now t1 p with run := none } tm2)) := by
    rw [upd_ne (fun e => by rw [← e, upd_same] at hl; cases hl), upd_same]
  refine ⟨_, rfl, g.at p, g.CN, dx2, _, rfl, hn4, T.clN, tN T 11 rfl, nF_len, ?_⟩
  rw [nP_times []]
  obtain ⟨ps3, hps3, _⟩ := R3.log
  have R5 := R4.setNode (i := p) (dx := dx2) (tm := l) (y := { Ha03.now t1 p with run := none, times := [] }) (by show (t1.nows.set _ _).length = _; rw [List.length_set]; exact W1.len) hp (by show p ≤ t1.nodes.length; rw [n1]; exact hpn) ⟨_, hn4⟩ upd_same (R3.sep_new hl)
  rw [setNow_twice] at R5
  have F5 := F4.trans (Fram.at (R.foot hp hpn) (.ins g.CN dx2 (nodeF g t1.nodes p { Ha03.now t1 p with run := none, times := [] } l)))
  have E5 : Ha03.setNow (Ha03.says t1 ⟨4, p, Ha03.runOf t1 p⟩) p { Ha03.now t1 p with run := none, times := [] } = overs z p := by
    have e := setNow_upd (Ha03.says t1 ⟨4, p, Ha03.runOf t1 p⟩) p (fun x => { x with run := none, times := [] })
    refine Eq.trans e ?_
    rw [ht1]
    exact OE
  rw [E5] at R5
  have no := overs_nodes z p
  have par : (nd (overs z p).nodes p).parent = (nd z.nodes p).parent := by rw [no]
  refine ⟨_, rfl, g.t, g.dt, _, rfl, R5.tree, no_tree 0, _, rfl, g, overs z p, p, 1, fu, rfl, rfl, rfl, R5, W.overs hp, overs_tri W TR hp hpn, hp, (by rw [no]; exact hpn), hpm, overs_off W hp hpn, ?_, ?_, ?_, fun H6 R6 F6 => ?_⟩
  · rw [par]
    intro p0
    have p2 : 2 ≤ p := by
      rcases Nat.lt_or_ge p 2 with x | x
      · exact absurd (by rw [show p = 1 by omega]; exact W.t.root) p0
      · exact x
    have pp := W.t.par p p2 hpn
    rw [overs_run W hp hpn pp.1 pp.2]
    exact TR p p2 hpn rp
  · have := overs_sum W hp hpn
    rw [par]
    have pl : (nd z.nodes p).parent + 1 ≤ p := by
      rcases Nat.lt_or_ge p 2 with x | x
      · have e : p = 1 := by omega
        rw [e, W.t.root]
        omega
      · exact (W.t.par p x hpn).2
    omega
  · rw [par, ended_how (show (1 : Nat) = 0 ↔ (2 : Nat) = 0 by decide)]
    exact hL
  · rw [par, ended_how (show (1 : Nat) = 0 ↔ (2 : Nat) = 0 by decide)] at R6
    exact q H6 R6 (F5.trans F6)
theorem scEnded : FnScope ["self", "node", "how"] ["self", "node", "how"] (defScope sEnded) := ⟨rfl, rfl, rfl, by decide +kernel, rfl, by decide +kernel, by decide +kernel⟩
theorem par_none {g : G} {N : List Ha03.Node} {c : Nat} (h : (nd N c).parent = 0) : parV g N c = .non := if_pos h
theorem par_some {g : G} {N : List Ha03.Node} {c : Nat} (h : (nd N c).parent ≠ 0) : parV g N c = .ref (g.at (nd N c).parent) := if_neg h
theorem ok_ended (T : Txt K mg CT CN) (M : MDef K CT "has_ended" "Tree.has_ended" sEnded ["self", "node", "how"]) {k m : Nat} (AG : Mth P w K mg base k CT "begin_again" (spAgain CT CN m)) : Mth P w K mg base (k + 1) CT "has_ended" (spEnded CT CN (m + 1)) := by
  refine M.ok scEnded (fun vs H Q E h => ?_) (fun f cdv A outer s H vs Q E hr h => ?_)
  · obtain ⟨g, s, c, how, f, _, _, rfl, _⟩ := h
    rfl
  obtain ⟨g, z, c, how, fu, rfl, rfl, rfl, R, W, TR, hc, hcn, hcm, rc, rpar, hf, hL, q⟩ := h
  refine ⟨_, pss_cons (ps_if (pt_cmpR op_isN (pe_fld (pv 1) rfl) pe_non (nomark _)) (pss_one ps_retN) pss_nil)
    (pss_one (ps_if (pt_cmpR op_eq (pe_fld (pv 1) rfl) (pg (gc T 16 rfl)) (nomark _)) (pss_one (ps_fld (pv 1) pe_bl rfl))
      (pss_one (ps_if (PW.pt (pw_or (pt_cmpR op_eq (pe_fld (pv 1) rfl) (pg (gc T 15 rfl)) (nomark _)) (pw_or1 (pt_cmpR op_ne (pv 2) (pg (gc T 19 rfl)) (nomark _)))))
        (pss_one (ps_expr (pm AG hr (Nat.le_refl _) (pv 0) (pa_cons (pv 1) pa_nil)))) pss_nil)))), ?_⟩
  obtain ⟨dx, tm, hn, ht, hh⟩ := R.node c hc hcn
  obtain ⟨f1, rfl⟩ : ∃ f1, fu = f1 + 1 := ⟨fu - 1, by omega⟩
  refine ⟨_, rfl, g.at c, g.CN, dx, _, _, rfl, hn, T.clN, tN T 1 rfl, nF_parent, rfl, _, rfl, ?_⟩
  by_cases p0 : (nd z.nodes c).parent = 0
  · rw [par_none p0]
    refine iteT ?_
    have e : Ha03.ended (f1 + 1) z (nd z.nodes c).parent c how = z := by rw [p0, ended_root]
    exact q H (by rw [e]; exact R) (Fram.refl g H)
  · rw [par_some p0]
    refine iteF ?_
    refine ⟨_, rfl, g.at c, g.CN, dx, _, _, rfl, hn, T.clN, tN T 3 rfl, nF_kind, rfl, _, rfl, ?_⟩
    show if decide (V.int ((nd z.nodes c).kind : Int) = V.int ((2 : Nat) : Int)) = true then _ else _
    rw [int_eq_nat]
    refine iteB (fun b => ?_) (fun b => ?_)
    · have b := of_decide_eq_true b
      refine ⟨_, rfl, g.at c, g.CN, dx, _, rfl, hn, T.clN, tN T 10 rfl, nF_len, ?_⟩
      rw [nP_gone]
      refine q _ ?_ (Fram.at (R.foot hc hcn) _)
      rw [ended_gone p0 (by rw [node_nd]; exact b), ← setNow_upd]
      exact R.setNode (y := goner (Ha03.now z c)) W.len hc hcn ⟨_, hn⟩ ht hh
    · have k2 := of_decide_eq_false b
      have kp := mem_kids.mpr ⟨hc, hcn, rfl⟩
      have plt : (nd z.nodes c).parent < c := by
        have c2 : 2 ≤ c := by
          rcases Nat.lt_or_ge c 2 with x | x
          · exact absurd (by rw [show c = 1 by omega]; exact W.t.root) p0
          · exact x
        exact (W.t.par c c2 hcn).2
      -- it is begun again
      have go : (¬ ((nd z.nodes c).kind = 1 ∧ how = 0)) → spAgain g.CT g.CN m [.ref g.t, .ref (g.at c)] H (fun _ H1 => Q .non H1) E0 := fun nw => by
        have e := ended_again (f := f1) (s := z) (p := (nd z.nodes c).parent) (c := c) (how := how) p0 (by rw [node_nd]; exact k2) (by rw [node_nd]; exact nw)
        rw [e] at hL q
        exact ⟨g, z, (nd z.nodes c).parent, c, f1, rfl, rfl, rfl, R, W, TR, by omega, by omega, by omega, kp, k2, rc, rpar p0, by omega, hL, q⟩
      refine ⟨_, rfl, g.at c, g.CN, dx, _, _, rfl, hn, T.clN, tN T 3 rfl, nF_kind, rfl, _, rfl, ?_⟩
      show if decide (V.int ((nd z.nodes c).kind : Int) = V.int ((0 : Nat) : Int)) = true then _ else _
      rw [int_eq_nat]
      refine iteB (fun b0 => ?_) (fun b0 => ?_)
      · have b0 := of_decide_eq_true b0
        refine iteT ?_
        exact ⟨_, rfl, g.t, g.dt, _, rfl, R.tree, no_tree 0, _, rfl, go (by omega)⟩
      · have b0 := of_decide_eq_false b0
        refine ⟨_, rfl, rfl, _, rfl, ?_⟩
        show if (!decide (V.int ((how : Nat) : Int) = V.int ((0 : Nat) : Int))) = true then _ else _
        rw [int_eq_nat]
        refine iteB (fun b1 => ?_) (fun b1 => ?_)
        · have b1 : how ≠ 0 := by simpa using b1
          exact ⟨_, rfl, g.t, g.dt, _, rfl, R.tree, no_tree 0, _, rfl, go (by omega)⟩
        · have b1 : how = 0 := by simpa using b1
          have k1 : (nd z.nodes c).kind = 1 := by
            have := W.t.kind c
            omega
          have e : Ha03.ended (f1 + 1) z (nd z.nodes c).parent c how = z := ended_well p0 (by rw [node_nd]; exact k1) b1
          exact q H (by rw [e]; exact R) (Fram.refl g H)
theorem scAgain : FnScope ["self", "child", "keeper", "ended"] ["self", "child"] (defScope sAgain) := ⟨rfl, rfl, rfl, by decide +kernel, rfl, by decide +kernel, by decide +kernel⟩
theorem timed_sum (s : Ha03.St) (p : Nat) (hp : 1 ≤ p) (hl : p ≤ s.nows.length) : sumF (timed s p) = sumF s := by
  unfold timed
  rw [← setNow_upd]
  have := sm_set Ha03.Now.fails (s := s) (i := p) (timer (Ha03.counted s p) (Ha03.now s p)) (by omega)
  unfold sumF
  have e : (timer (Ha03.counted s p) (Ha03.now s p)).fails = (Ha03.now s p).fails := rfl
  rw [e] at this
  omega
theorem again_by {u : Ha03.St} (W : WF 5 u) {p c f1 : Nat} (hp : 1 ≤ p) (hc : c ∈ kids u.nodes p) (k2 : (nd u.nodes c).kind ≠ 2) (rc : Ha03.running u c = false) (o : ¬ (Ha03.node u p).most < (Ha03.counted u p).length) :
    Ha03.again (f1 + 1) u p c = match (byWay (timed u p) p c).2 with
      | none => (byWay (timed u p) p c).1
      | some d => Ha03.again f1 (byWay (timed u p) p c).1 p d := by
  exact again_by' W hp hc k2 rc o
theorem ok_again (T : Txt K mg CT CN) (M : MDef K CT "begin_again" "Tree.begin_again" sAgain ["self", "child"]) {k j m : Nat} (CN2 : Mth P w K mg base 2 CT "count_now" (spCount CT CN)) (hk : 2 ≤ k) (GU : Mth P w K mg base k CT "give_up" (spGiveUp CT CN m))
    (BW : Mth P w K mg base j CT "begin_by_way" (spByWay CT CN)) (hj : j ≤ k) : Mth P w K mg base (k + 1) CT "begin_again" (spAgain CT CN m) := by
  refine M.ok scAgain (fun vs H Q E h => ?_) (fun f cdv A outer s H vs Q E hr h => ?_)
  · obtain ⟨g, s, p, c, f, _, _, rfl, _⟩ := h
    rfl
  obtain ⟨g, z, p, c0, fu, rfl, rfl, rfl, R, W, TR, hp, hpn, hpm, hc, k2, rc, rp, hf, hL, q⟩ := h
  refine ⟨_, pss_cons (ps_set (i := 2) scAgain.nd rfl (.inl rfl) (pe_fld (pv 1) rfl))
    (pss_cons (ps_set (i := 3) scAgain.nd rfl (.inl rfl) (pv 1))
    (pss_one (ps_while PassesOwn.never (pt_cmpR op_notN (pv 3) pe_non (nomark _))
      (pss_cons (ps_expr (pm CN2 hr hk (pv 0) (pa_cons (pv 2) pa_nil)))
      (pss_cons (ps_if (pt_cmpR op_gt (pe_callB call_len_seq (by rfl) (bt T 0 rfl) PySem.boot_len (pa_cons (pe_fld (pv 2) rfl) pa_nil)) (pe_fld (pv 2) rfl) (nomark _))
        (pss_cons (ps_expr (pm GU hr (Nat.le_refl _) (pv 0) (pa_cons (pv 2) pa_nil))) (pss_one ps_retN)) pss_nil)
      (pss_one (ps_set (i := 3) scAgain.nd rfl (.inl rfl) (pm BW hr hj (pv 0) (pa_cons (pv 2) (pa_cons (pv 3) pa_nil)))))))))), ?_⟩
  have cm := mem_kids.mp hc
  obtain ⟨dx, tm, hn, _, _⟩ := R.node c0 cm.1 cm.2.1
  refine ⟨_, rfl, g.at c0, g.CN, dx, _, _, rfl, hn, T.clN, tN T 1 rfl, nF_parent, ?_⟩
  rw [par_some (by rw [cm.2.2]; omega), cm.2.2]
  refine ⟨_, rfl, ?_⟩
  refine ⟨fun n σ H' => ∃ (o : Option Nat) (u : Ha03.St), σ = [some (.ref g.t), some (.ref (g.at c0)), some (.ref (g.at p)), some (optV g o)] ∧ Rep g H' u ∧ Fram g H H' ∧
      ((o = none ∧ Ha03.again fu z p c0 = u ∧ n = 0) ∨ ∃ c f1, o = some c ∧ Ha03.again fu z p c0 = Ha03.again f1 u p c ∧ WF 5 u ∧ TRI u ∧ u.nodes = z.nodes ∧ c ∈ kids z.nodes p ∧ (nd z.nodes c).kind ≠ 2 ∧ Ha03.running u c = false ∧ Ha03.running u p = true ∧ sumF u + 2 * p + 1 ≤ f1 ∧ n = f1),
    ⟨fu, some c0, z, rfl, R, Fram.refl g H, .inr ⟨c0, fu, rfl, rfl, W, TR, rfl, hc, k2, rc, rp, hf, rfl⟩⟩, ?_⟩
  rintro n σ H' ⟨o, u, rfl, R1, F1, ⟨rfl, E1, rfl⟩ | ⟨c, f1, rfl, E1, W1, T1, n1, hc1, k21, rc1, rp1, hf1, rfl⟩⟩
  · refine ⟨_, rfl, rfl, _, rfl, ?_⟩
    exact iteF (q H' (by rw [E1]; exact R1) F1)
  refine ⟨_, rfl, rfl, _, rfl, ?_⟩
  refine iteT ?_
  obtain ⟨f2, rfl⟩ : ∃ f2, n = f2 + 1 := ⟨n - 1, by omega⟩
  have pn1 : p ≤ u.nodes.length := by rw [n1]; exact hpn
  have hc1' : c ∈ kids u.nodes p := by rw [n1]; exact hc1
  have k21' : (nd u.nodes c).kind ≠ 2 := by rw [n1]; exact k21
  refine ⟨fun σ' H'' => ∃ n', n' < f2 + 1 ∧ ∃ (o : Option Nat) (u : Ha03.St), σ' = [some (.ref g.t), some (.ref (g.at c0)), some (.ref (g.at p)), some (optV g o)] ∧ Rep g H'' u ∧ Fram g H H'' ∧
      ((o = none ∧ Ha03.again fu z p c0 = u ∧ n' = 0) ∨ ∃ c f1, o = some c ∧ Ha03.again fu z p c0 = Ha03.again f1 u p c ∧ WF 5 u ∧ TRI u ∧ u.nodes = z.nodes ∧ c ∈ kids z.nodes p ∧ (nd z.nodes c).kind ≠ 2 ∧ Ha03.running u c = false ∧ Ha03.running u p = true ∧ sumF u + 2 * p + 1 ≤ f1 ∧ n' = f1), fun σ' H'' h => h, ?_⟩
  -- self.count_now(keeper)
  refine ⟨_, rfl, g.t, g.dt, _, rfl, R1.tree, no_tree 0, _, rfl, g, u, p, rfl, rfl, rfl, R1, W1.mono (by decide), hp, pn1, fun H2 R2 F2 => ?_⟩
  obtain ⟨dx2, tm2, hn2, ht2, hh2⟩ := R2.node p hp pn1
  have lenu : p - 1 < u.nows.length := by rw [W1.len]; omega
  have nowp : Ha03.now (timed u p) p = timer (Ha03.counted u p) (Ha03.now u p) := now_upd_same lenu
  have ht2' : H2 tm2 = some (.lst (natV (Ha03.counted u p))) := by
    rw [ht2, nowp]
    rfl
  refine ⟨_, rfl, g.at p, g.CN, dx2, _, _, rfl, hn2, T.clN, tN T 11 rfl, nF_times, tm2, _, rfl, .inl (SqL.of ht2'), _, rfl, g.at p, g.CN, dx2, _, _, rfl, hn2, T.clN, tN T 5 rfl, nF_often, _, _, rfl, rfl, _, rfl, ?_⟩
  have hlen : (natV (Ha03.counted u p)).length = (Ha03.counted u p).length := List.length_map _
  refine iteB (fun b => ?_) (fun b => ?_)
  · have b := of_decide_eq_true b
    rw [hlen] at b
    have ov : (Ha03.node u p).most < (Ha03.counted u p).length := by
      have b' : ((nd u.nodes p).most : Int) < ((Ha03.counted u p).length : Int) := b
      rw [node_nd]
      omega
    rw [again_over ov] at E1
    rw [E1] at hL
    refine ⟨_, rfl, g.t, g.dt, _, rfl, R2.tree, no_tree 0, _, rfl, g, u, p, f2, rfl, rfl, rfl, R2, W1, T1, hp, pn1, hpm, rp1, by omega, hL, fun H3 R3 F3 => ?_⟩
    exact q H3 (by rw [E1]; exact R3) ((F1.trans F2).trans F3)
  · have b := of_decide_eq_false b
    rw [hlen] at b
    have nov : ¬ (Ha03.node u p).most < (Ha03.counted u p).length := by
      have b' : ¬ (((nd u.nodes p).most : Int) < ((Ha03.counted u p).length : Int)) := b
      rw [node_nd]
      omega
    have Wt := W1.timed hp nov
    have Tt : TRI (timed u p) := T1.upd (calm_timer _) p
    have rct : Ha03.running (timed u p) c = false := by rw [← rc1]; exact off_of (run_upd (calm_timer _) u p c)
    have rpt : Ha03.running (timed u p) p = true := by rw [← rp1]; exact off_of (run_upd (calm_timer _) u p p)
    have AB := again_by (f1 := f2) W1 hp hc1' k21' rc1 nov
    have lgb : (byWay (timed u p) p c).1.log.length ≤ LOGMAX := by
      refine Nat.le_trans ?_ hL
      rw [E1, AB]
      split
      · exact Nat.le_refl _
      · exact (log_again f2).2 _ _ _
    refine ⟨_, rfl, g.t, g.dt, _, rfl, R2.tree, no_tree 0, _, rfl, _, rfl, g, timed u p, p, c, rfl, rfl, rfl, R2, Wt.mono (by decide), Tt, hp, pn1, hc1', rpt, lgb, fun H3 R3 F3 => ?_⟩
    have F4 := (F1.trans F2).trans F3
    cases hx : (byWay (timed u p) p c).2 with
    | none =>
      rw [hx] at AB
      exact ⟨0, by omega, none, _, rfl, R3, F4, .inl ⟨rfl, E1.trans AB, rfl⟩⟩
    | some d =>
      rw [hx] at AB
      have TS := turn_some Wt hp pn1 hc1' k21' rct hx
      have BT := byWay_tri Wt Tt hp pn1 hc1' rpt
      have ns : (timed u p).nodes = z.nodes := n1
      rw [ns] at TS
      have sm := timed_sum u p hp (by rw [W1.len]; exact pn1)
      exact ⟨f2, by omega, some d, _, rfl, R3, F4, .inr ⟨d, f2, rfl, E1.trans AB, TS.1, BT.1, TS.2.1, TS.2.2.1, TS.2.2.2.1, TS.2.2.2.2.1, BT.2, by have := TS.2.2.2.2.2; omega, rfl⟩⟩
theorem none_ended (M : MDef K CT "has_ended" "Tree.has_ended" sEnded ["self", "node", "how"]) (k : Nat) : Mth P w K mg base k CT "has_ended" (spEnded CT CN 0) := by
  have no : ∀ vs H Q E, ¬ spEnded CT CN 0 vs H Q E := fun vs H Q E h => by
    obtain ⟨g, s, c, how, f, _, _, _, _, _, _, h1, _, h3, _⟩ := h
    omega
  obtain ⟨f, fd, me, F, b⟩ := M.ex
  exact ⟨f, fd, _, M.cl, me, ⟨fun vs H Q E h => absurd h (no vs H Q E), fun A outer s H args us vs Q E _ _ _ _ h => absurd h (no vs H Q E)⟩, b⟩
theorem all_ended (T : Txt K mg CT CN) (TL : Mth P w K mg base 1 CT "tell" (spTell CT CN)) {j : Nat} (hj : 2 ≤ j) (SR : Mth P w K mg base j CT "stop_running" (spStopRun CT CN 14)) (CN2 : Mth P w K mg base 2 CT "count_now" (spCount CT CN)) (BW : Mth P w K mg base j CT "begin_by_way" (spByWay CT CN))
    (M1 : MDef K CT "has_ended" "Tree.has_ended" sEnded ["self", "node", "how"]) (M2 : MDef K CT "give_up" "Tree.give_up" sGiveUp ["self", "keeper"]) (M3 : MDef K CT "begin_again" "Tree.begin_again" sAgain ["self", "child"]) :
    ∀ m : Nat, Mth P w K mg base (j + 3 * m) CT "has_ended" (spEnded CT CN m)
  | 0 => none_ended M1 j
  | m + 1 => by
    have ih := all_ended T TL hj SR CN2 BW M1 M2 M3 m
    have u := ok_giveUp T M2 TL (by omega) SR (by omega) ih
    have a := ok_again T M3 CN2 (by omega) u BW (by omega)
    exact ok_ended T M1 a
/-! worker_dies -/
def spDies (CT CN : Addr) : Sp := fun vs H Q _ => ∃ (g : G) (s : Ha03.St) (c how : Nat), g.CT = CT ∧ g.CN = CN ∧ vs = [.ref g.t, .ref (g.at c), .int (how : Nat)] ∧ Rep g H s ∧ WF 5 s ∧ TRI s ∧ 1 ≤ c ∧ c ≤ s.nodes.length ∧ Ha03.running s c = true ∧ (nd s.nodes c).isSup = false ∧
  (Ha03.dies s c how).log.length ≤ LOGMAX ∧ ∀ H', Rep g H' (Ha03.dies s c how) → Fram g H H' → Q .non H'
theorem sumF_le : ∀ (l : List Ha03.Now), (∀ x ∈ l, x.fails ≤ 20) → (l.map Ha03.Now.fails).sum ≤ 20 * l.length
  | [], _ => Nat.le_refl _
  | a :: l, h => by
    have := sumF_le l fun x hx => h x (List.mem_cons_of_mem _ hx)
    have := h a List.mem_cons_self
    rw [List.map_cons, List.sum_cons, List.length_cons]
    omega
theorem WF.sum {tb : Nat} {s : Ha03.St} (w : WF tb s) : sumF s ≤ 280 := by
  have h := sumF_le s.nows fun x hx => by
    obtain ⟨n, hn, e⟩ := List.mem_iff_getElem.mp hx
    have := w.fails (n + 1)
    unfold Ha03.now at this
    rw [List.getD_eq_getElem?_getD, show n + 1 - 1 = n by omega, List.getElem?_eq_getElem hn] at this
    rw [← e]
    exact this
  have := w.t.len14
  rw [← w.len] at this
  unfold sumF sm
  omega
def died (s : Ha03.St) (c : Nat) : Ha03.St := Ha03.setNow (Ha03.says s ⟨2, c, Ha03.runOf s c⟩) c { Ha03.now s c with run := none }
theorem dies_eq (s : Ha03.St) (c how : Nat) : Ha03.dies s c how = Ha03.ended 4000 (died s c) (nd s.nodes c).parent c how := rfl
theorem WF.died {tb : Nat} {s : Ha03.St} (w : WF tb s) {c : Nat} (hc : 1 ≤ c) : WF tb (LA.died s c) := (w.says _).set (fun r h => by cases h) (w.fails c) (w.times c) hc (fun h => w.root' h)
theorem worker2 {N : List Ha03.Node} (W : WT N) {c : Nat} (hc : 1 ≤ c) (h : (nd N c).isSup = false) : 2 ≤ c := by
  rcases Nat.lt_or_ge c 2 with x | x
  · have e : c = 1 := by omega
    rw [e, W.rsup] at h
    cases h
  · exact x
theorem died_tri {s : Ha03.St} (w : WF 5 s) (T : TRI s) {c : Nat} (hc : 1 ≤ c) (hcn : c ≤ s.nodes.length) (h : (nd s.nodes c).isSup = false) : TRI (died s c) := by
  intro k k2 hk hr
  have hk : k ≤ s.nodes.length := hk
  show Ha03.running (died s c) (nd s.nodes k).parent = true
  have pk := w.t.par k k2 hk
  have kc : k ≠ c := fun e => by
    subst e
    unfold Ha03.running died at hr
    rw [now_same (by show k - 1 < s.nows.length; rw [w.len]; omega)] at hr
    cases hr
  have pc : (nd s.nodes k).parent ≠ c := fun e => by
    have := w.t.sup k k2 hk
    rw [e, h] at this
    cases this
  have e1 : Ha03.running (died s c) k = Ha03.running s k := off_of (by
    unfold died
    rw [now_ne hc (by omega) (Ne.symm kc), now_says])
  have e2 : Ha03.running (died s c) (nd s.nodes k).parent = Ha03.running s (nd s.nodes k).parent := off_of (by
    unfold died
    rw [now_ne hc pk.1 (Ne.symm pc), now_says])
  rw [e1] at hr
  rw [e2]
  exact T k k2 hk hr
theorem scDies : FnScope ["self", "worker", "how"] ["self", "worker", "how"] (defScope sDies) := ⟨rfl, rfl, rfl, by decide +kernel, rfl, by decide +kernel, by decide +kernel⟩
theorem ok_dies (T : Txt K mg CT CN) (M : MDef K CT "worker_dies" "Tree.worker_dies" sDies ["self", "worker", "how"]) {k : Nat} (TL : Mth P w K mg base 1 CT "tell" (spTell CT CN)) (hk : 1 ≤ k) (EN : Mth P w K mg base k CT "has_ended" (spEnded CT CN 14)) :
    Mth P w K mg base (k + 1) CT "worker_dies" (spDies CT CN) := by
  refine M.ok scDies (fun vs H Q E h => ?_) (fun f cdv A outer s H vs Q E hr h => ?_)
  · obtain ⟨g, s, c, how, _, _, rfl, _⟩ := h
    rfl
  obtain ⟨g, z, c, how, rfl, rfl, rfl, R, W, TR, hc, hcn, rc, ws, hL, q⟩ := h
  refine ⟨_, pss_cons (ps_expr (pm TL hr hk (pv 0) (pa_cons (pg (gc T 12 rfl)) (pa_cons (pv 1) pa_nil))))
    (pss_cons (ps_fld (pv 1) pe_int rfl)
    (pss_one (ps_expr (pm EN hr (Nat.le_refl _) (pv 0) (pa_cons (pv 1) (pa_cons (pv 2) pa_nil)))))), ?_⟩
  have c2 := worker2 W.t hc ws
  have lgd : (died z c).log.length ≤ LOGMAX := Nat.le_trans ((log_again 4000).1 _ _ _ _) hL
  have lg1 : z.log.length + 1 ≤ LOGMAX := by
    have : (died z c).log.length = z.log.length + 1 := says_log _ _
    omega
  refine ⟨_, rfl, g.t, g.dt, _, rfl, R.tree, no_tree 0, _, rfl, g, _, c, 2, rfl, rfl, rfl, R, hc, hcn, lg1, fun H2 R2 F2 => ?_⟩
  obtain ⟨dx2, tm2, hn2, ht2, hh2⟩ := R2.node c hc hcn
  refine ⟨_, rfl, g.at c, g.CN, dx2, _, rfl, hn2, T.clN, tN T 9 rfl, nF_len, ?_⟩
  rw [show (V.int 0) = V.int (((none : Option Nat).getD 0 : Nat) : Int) from rfl, nP_run]
  have R3 := R2.setNode (i := c) (dx := dx2) (tm := tm2) (y := { Ha03.now z c with run := none }) W.len hc hcn ⟨_, hn2⟩ ht2 hh2
  have R3' : Rep g _ (died z c) := R3
  have off : Ha03.running (died z c) c = false := by
    rw [running_run]
    unfold died
    rw [now_same (by show c - 1 < z.nows.length; rw [W.len]; omega)]
  have pp := W.t.par c c2 hcn
  refine ⟨_, rfl, g.t, g.dt, _, rfl, R3.tree, no_tree 0, _, rfl, _, rfl, g, died z c, c, how, 4000, rfl, rfl, rfl, R3', W.died hc, died_tri W TR hc hcn ws, hc, hcn, (Nat.le_trans hcn W.t.len14), off, fun _ => ?_, ?_, hL, fun H4 R4 F4 => ?_⟩
  · have e2 : Ha03.running (died z c) (nd z.nodes c).parent = Ha03.running z (nd z.nodes c).parent := off_of (by
      unfold died
      rw [now_ne hc pp.1 (by omega), now_says])
    show Ha03.running (died z c) (nd z.nodes c).parent = true
    rw [e2]
    exact TR c c2 hcn rc
  · have := (W.died hc).sum
    have := W.t.len14
    show sumF (died z c) + 2 * (nd z.nodes c).parent + 2 ≤ 4000
    omega
  · exact q H4 R4 ((F2.trans (Fram.at (R.foot hc hcn) _)).trans F4)
end
end LA
set_option maxRecDepth 100000
set_option maxHeartbeats 5000000
namespace LA
open PySem PySem.Spec PyProof.Rows L2 RT RZ
/-! # Rules that the layer lacks -/
/-! list.extend, of a tuple -/
theorem ext_tup (l : Addr) (xs : Array Value) (n : Nat) (b : Addr) (ys : Array Value) (m : Nat) (dd : Option Addr) (sl : Array (Option Value)) (h0 : ¬(!xs.isEmpty && Builtin.List.listTooLong (xs.size + ys.size)) = true) (h1 : xs.size ≤ sizeLine) (h2 : xs.size + ys.size ≤ sizeLine + 1) :
    Meets (Builtin.«list.extend» ⟨[.ref l, .ref b], []⟩) (fun _ R s => s.heap.get? l = some ⟨.type "list", none, .seq xs n, #[]⟩ ∧ s.heap.get? b = some ⟨.type "tuple", dd, .seq ys m, sl⟩ ∧
      R (.ok (.ret Value.none)) { s with heap := s.heap.update l (Obj.mapSeq fun x => x ++ ys), toks := s.toks }) :=
  .of_wp fun pr wd A R st h => by
    obtain ⟨hp, gs, d, tk, os⟩ := st
    obtain ⟨hl, hb, h⟩ := h
    have f1 := PySem.AutoSeq1.idx_int
    have f2 := PySem.AutoSeq1.sub_tuple_tuple
    have f3 := PySem.AutoSeq1.sub_list_list
    have f4 := PySem.AutoSeq1.sub_tuple_list
    have f5 := PySem.AutoSeq1.sub_list_tuple
    have hz' : (xs ++ ys).size ≤ sizeLine + 1 := by
      rw [Array.size_append]
      exact h2
    wp_walk using (wpAny_updateSeq hl rfl (hz := h1) (_hz' := hz')), PySem.AutoSeq1.wpAny_loadPart' hl, PySem.AutoSeq1.wpAny_loadPart' hb
    exact ⟨_, rfl, h⟩
def rExtT : V → List V → Hp → VK → Prop := fun x vs H Q => ∃ l b xs ys, x = .ref l ∧ vs = [.ref b] ∧ H l = some (.lst xs) ∧ H b = some (.tup ys) ∧ xs.length + ys.length ≤ sizeLine ∧ Q .non (upd H l (.lst (xs ++ ys)))
theorem mt_extT {X : Cx} : MtR X "list.extend" rExtT := by
  intro pins st σ H x vs v us Q I rx rv h
  obtain ⟨l, b, xs, ys, rfl, rfl, hH, hB, hz, q⟩ := h
  cases rx
  obtain ⟨u, rfl, ru⟩ := rv.one
  cases ru
  obtain ⟨_, its, n, r, hl, e⟩ := I.lstM hH
  obtain ⟨z2, its2, r2, o2, e2, c2, n2, d2⟩ := I.hok b _ hB
  obtain ⟨oc, od, odt, osl⟩ := o2
  obtain rfl : oc = Value.type "tuple" := c2
  obtain rfl : odt = Data.seq its2.toArray n2 := d2
  have l2 := r2.length
  have hs1 : its.toArray.size + its2.toArray.size ≤ sizeLine := by
    simp only [List.size_toArray]
    omega
  have nl : ¬ (!its.toArray.isEmpty && Builtin.List.listTooLong (its.toArray.size + its2.toArray.size)) = true := by
    rw [notLongL hs1, Bool.and_false]
    decide
  refine call_meets F.slot_list_extend ⟨_, e, rfl⟩ F.entry_list_extend (F.args_list_extend_2 _ _) (ext_tup l its.toArray n b its2.toArray n2 od osl nl (by omega) (by omega)) ⟨e, e2, ?_⟩
  exact ⟨.non, _, I.lset (its' := its ++ its2) hH e (by simp) (r.append r2) (by rw [List.length_append]; omega), rfl, q⟩
/-! an item of a dict of the top, its keys ints -/
structure KInts (K : PySem.W.Frag) (a : Addr) (f : Int → Option Int) : Prop where
  ex : ∃ es n, K.lookup a = some ⟨.type "dict", none, .dict es n, #[]⟩ ∧ (∀ e ∈ es.toList, ∃ k t, e.key = Value.int k t ∧ e.hash = hashInt k) ∧ ∀ k v, f k = some v → ∃ t, findBy Value.isInt es k = some (Value.int v t)
def rIxKI (K : PySem.W.Frag) : R2 := fun x y H Q => ∃ a f i v, x = .ref a ∧ y = .int i ∧ KInts K a f ∧ f i = some v ∧ Q (.int v) H
theorem ix_kints {X : Cx} : IxR X (rIxKI X.K) := by
  intro vl sc pins s σ H x y v u Q I rx ry h hs
  obtain ⟨a, f, i, r, rfl, rfl, ⟨es, n, hl, hk, hf⟩, e, q⟩ := h
  obtain rfl : v = .ref a := rx
  obtain ⟨t, rfl⟩ := ry
  have hm : s.heap.MapOf (PySem.intKind X.prog X.w) a (fun k => findBy Value.isInt es k) := ⟨_, es, n, I.kIn _ _ hl, ⟨rfl, rfl, rfl⟩, rfl, fun d hd => by
    obtain ⟨k, t, e1, e2⟩ := hk d (Array.mem_toList_iff.mpr hd)
    refine ⟨k, ?_, e2⟩
    rw [e1]
    show Value.isInt k (Value.int k t) = true
    simp [Value.isInt], fun _ => rfl⟩
  obtain ⟨t2, e3⟩ := hf i r e
  exact tail_any hm.typeIs slot_dict_getitem.lookup (wpAny_getItem_of (knd := PySem.intKind X.prog X.w) (k := i) (by show Value.isInt i (Value.int i t) = true; simp [Value.isInt]) hm e3 ⟨.int r, H, I.tok _, ⟨_, rfl⟩, q⟩) hs
/-! a list comprehension over a range with a step -/
theorem lc_rangeC {lo c : Int} {n : Nat} {g : TG} {tt : TT} {te : TE} {vs : List Nat} {σ : L2.St} {H1 : Hp} {D : Addr} {Qd : Hp → Prop} (Pv : Nat → Hp → Prop) (h0 : Pv 0 (upd H1 D (.lst [])))
    (turn : ∀ i H, i < n → Pv i H → g (.int (lo + (i : Nat) * c)) (wipe σ vs) H fun σ2 H2 => wipe σ2 vs = wipe σ vs ∧ tt σ2 H2 fun b H3 => if b = true then te σ2 H3 fun y H4 => ∃ acc, H4 D = some (.lst acc) ∧ acc.length < sizeLine ∧ Pv (i + 1) (upd H4 D (.lst (acc ++ [y]))) else Pv (i + 1) H3)
    (fin : ∀ H, Pv n H → Qd H) :
    ∃ W : Nat → Nat → Hp → Prop, (∃ m, W 0 m (upd H1 D (.lst []))) ∧ ∀ i m H, W i m H → ((Itc lo c n).stop i H ∧ Qd H) ∨ ((Itc lo c n).go i H ∧ ∃ Nx : Hp → Prop, (∀ H', Nx H' → ∃ m', m' < m ∧ W (i + 1) m' H') ∧ ∀ x H', (Itc lo c n).yld i H x H' →
      g x (wipe σ vs) H' fun σ2 H2 => wipe σ2 vs = wipe σ vs ∧ tt σ2 H2 fun b H3 => if b = true then te σ2 H3 fun y H4 => ∃ acc, H4 D = some (.lst acc) ∧ acc.length < sizeLine ∧ Nx (upd H4 D (.lst (acc ++ [y]))) else Nx H3) := by
  refine ⟨fun i m H => m = n - i ∧ i ≤ n ∧ Pv i H, ⟨n, by omega, Nat.zero_le _, h0⟩, ?_⟩
  rintro i m H ⟨rfl, hi, p⟩
  by_cases lt : i < n
  · refine .inr ⟨lt, Pv (i + 1), fun H' p' => ⟨n - (i + 1), by omega, rfl, lt, p'⟩, fun x H' y => ?_⟩
    obtain ⟨e1, e2⟩ := y
    subst e1 e2
    exact turn i _ lt p
  · have e : i = n := by omega
    subst e
    exact .inl ⟨Nat.le_refl _, fin H p⟩
/-! zip of a list and a tuple -/
def ItzM (K : PySem.W.Frag) (a b : Addr) : It :=
  ⟨fun i H => ∃ (xs ys : List V) (x y : V), SqL K H a xs ∧ SqT K H b ys ∧ xs[i]? = some x ∧ ys[i]? = some y,
   fun i H v H' => ∃ T x y, v = .ref T ∧ H T = none ∧ H' = upd H T (.tup [x, y]) ∧ (∀ xs, SqL K H a xs → xs[i]? = some x) ∧ ∀ ys, SqT K H b ys → ys[i]? = some y,
   fun i H => ∃ xs ys : List V, SqL K H a xs ∧ SqT K H b ys ∧ i ≤ xs.length ∧ i ≤ ys.length ∧ (i = xs.length ∨ i = ys.length)⟩
theorem zipM_sep {N a b : Nat} (ha : a < N) (hb : b < N) : ZipSep2 (N + 4) (N + 2) (N + 3) N (N + 1) [N, a] [N + 1, b] :=
  zip_sep2 (fp1 := [a]) (fp2 := [b]) (fun c hc => by rw [List.mem_singleton.mp hc]; exact ha) (fun c hc => by rw [List.mem_singleton.mp hc]; exact hb)
theorem turn_zipM {P : Program} {w : World} {K : PySem.W.Frag} {elts : List Expr} {kk : Nat} {tpos : Pos} {a b N : Nat} (ha : a < N) (hb : b < N) :
    Turn P w K (.Tuple elts kk tpos) (ItzM K a b) [N + 4, N + 2, N + 3, N, N + 1] (N + 4) (fun i h => IsZip h (N + 4) (N + 2) (N + 3) .none ∧ IsTupOf2 h (N + 2) (.ref N) (.ref (N + 1)) ∧ (∃ x y, IsTupOf2 h (N + 3) x y) ∧ h.IsListIter N a i ∧ h.IsTupleIter (N + 1) b i) where
  mem := List.mem_cons_self
  obj := fun i h st c hc => by
    obtain ⟨hz, hI, ⟨x, y, hO⟩, ⟨o1, e1, _, d1⟩, o2, e2, _, d2⟩ := st
    have e' : c = N + 4 ∨ c = N + 2 ∨ c = N + 3 ∨ c = N ∨ c = N + 1 := by simpa using hc
    rcases e' with rfl | rfl | rfl | rfl | rfl
    · exact ⟨_, hz, fun v q => nomatch q⟩
    · exact ⟨_, hI, fun v q => nomatch q⟩
    · exact ⟨_, hO, fun v q => nomatch q⟩
    · exact ⟨o1, e1, fun v q => by rw [d1] at q; cases q⟩
    · exact ⟨o2, e2, fun v q => by rw [d2] at q; cases q⟩
  keep := fun i h h' st k => by
    obtain ⟨hz, hI, ⟨x, y, hO⟩, h1, h2⟩ := st
    exact ⟨k _ (by simp) _ hz, k _ (by simp) _ hI, ⟨x, y, k _ (by simp) _ hO⟩, h1.at fun o q => k _ (by simp) o q, h2.at fun o q => k _ (by simp) o q⟩
  item := by
    intro X eP ew eK hc i pins s σ H E I hf st hg
    subst eP ew eK
    obtain ⟨hz, hI, ⟨x0, y0, hO⟩, h1, h2⟩ := st
    obtain ⟨xs, ys, x, y, qx, qy, hx, hy⟩ := hg
    obtain ⟨kts, rk, p, _⟩ := I.list qx
    obtain ⟨jts, rw2, p2, _⟩ := I.tuple qy
    obtain ⟨u1, hu, ru⟩ := rk.get hx
    obtain ⟨u2, hv2, rv2'⟩ := rw2.get hy
    have hN : N + 4 < s.heap.objs.size := Heap.lt_size hz
    have hh : X.A.in1.handled = none := I.ok.hd hc
    have D1 := Draws.list (prog := X.prog) (w := X.w) (A := X.A.in1) hh N a (Nat.ne_of_lt ha) kts.toArray
    have D2 := Draws.tuple (prog := X.prog) (w := X.w) (A := X.A.in1) hh (N + 1) b (by show b ≠ N + 1; omega) jts.toArray
    have b1 : i < kts.toArray.size := by
      have := (List.getElem?_eq_some_iff.mp hu).1
      simpa using this
    have b2 : i < jts.toArray.size := by
      have := (List.getElem?_eq_some_iff.mp hv2).1
      simpa using this
    refine wpAny_pyNext_zipD2_item (zipM_sep ha hb) D1 D2 hz hI hO ⟨h1, p.isList⟩ ⟨h2, p2⟩ b1 b2 fun v1 v2 h' tk q1 q2 z' TO' s1' s2' hT hsz hk => ?_
    have e1 : v1 = u1 := Option.some.inj (q1.symm.trans (by simpa using hu))
    have e2 : v2 = u2 := Option.some.inj (q2.symm.trans (by simpa using hv2))
    subst e1 e2
    refine ⟨_, rfl, wpAny_letOwnedTupleGo_zip (s := { s with heap := h', toks := tk }) z' fun h'' z'' sb => ?_⟩
    have ne4 : s.heap.objs.size ≠ N + 4 := by omega
    have hT2 : h''.get? s.heap.objs.size = some { cls := .type "tuple", data := .seq #[v1, v2] } := (sb.2 _ ne4).trans hT
    have new : ObjOk X.prog X.w (upd H s.heap.objs.size (.tup [x, y])) h'' s.heap.objs.size (.tup [x, y]) := ⟨(by show 2 ≤ sizeLine; decide), [v1, v2], .cons ru (.cons rv2' .nil), ⟨_, hT2, rfl, _, rfl⟩⟩
    have kept : ∀ c o, c ∉ [N + 4, N + 2, N + 3, N, N + 1] → s.heap.get? c = some o → h''.get? c = some o := fun c o hb q => by
      have n1 : c ≠ N + 4 := fun z => hb (by simp [z])
      have n2 : c ≠ N + 3 := fun z => hb (by simp [z])
      have n3 : c ≠ N := fun z => hb (by simp [z])
      have n4 : c ≠ N + 1 := fun z => hb (by simp [z])
      exact (sb.2 c n1).trans (hk c o n1 n2 n3 n4 q)
    have I1 : Inv X pins σ (upd H s.heap.objs.size (.tup [x, y])) { s with heap := h'', toks := tk } := I.turnedNew (t' := tk) (ch := [N + 4, N + 2, N + 3, N, N + 1]) kept hf (Nat.le_refl _) new
    refine ⟨.ref s.heap.objs.size, _, I1, rfl, ⟨_, x, y, rfl, I.hok.fresh (Nat.le_refl _), rfl, fun l hl => by rw [I.list_inj hl qx]; exact hx, fun l hl => by rw [I.tuple_inj hl qy]; exact hy⟩, ⟨z'', ?_, ⟨v1, v2, ?_⟩, ?_, ?_⟩, fun c hcm => ?_⟩
    · exact (sb.2 _ (by show N + 2 ≠ N + 4; omega)).trans (hk _ _ (by show N + 2 ≠ N + 4; omega) (by show N + 2 ≠ N + 3; omega) (by show N + 2 ≠ N; omega) (by show N + 2 ≠ N + 1; omega) hI)
    · exact (sb.2 _ (by show N + 3 ≠ N + 4; omega)).trans TO'
    · exact s1'.1.at fun o q => (sb.2 _ (by show N ≠ N + 4; omega)).trans q
    · exact s2'.1.at fun o q => (sb.2 _ (by show N + 1 ≠ N + 4; omega)).trans q
    · have e' : c = N + 4 ∨ c = N + 2 ∨ c = N + 3 ∨ c = N ∨ c = N + 1 := by simpa using hcm
      have hlt : c < s.heap.objs.size := by
        rcases e' with z | z | z | z | z <;> rw [z]
        · exact hN
        · exact Nat.lt_of_le_of_lt (by omega : N + 2 ≤ N + 4) hN
        · exact Nat.lt_of_le_of_lt (by omega : N + 3 ≤ N + 4) hN
        · exact Nat.lt_of_le_of_lt (by omega : N ≤ N + 4) hN
        · exact Nat.lt_of_le_of_lt (by omega : N + 1 ≤ N + 4) hN
      rw [upd_ne (show c ≠ _ from Nat.ne_of_lt hlt)]
      exact (hf c hcm).1
  done := by
    intro X eP ew eK hc i pins s σ H E I hf st hg
    subst eP ew eK
    obtain ⟨hz, hI, ⟨x0, y0, hO⟩, h1, h2⟩ := st
    obtain ⟨xs, ys, qx, qy, i1, i2, hend⟩ := hg
    obtain ⟨kts, rk, p, _⟩ := I.list qx
    obtain ⟨jts, rw2, p2, _⟩ := I.tuple qy
    have l1 := rk.length
    have l2 := rw2.length
    have hh : X.A.in1.handled = none := I.ok.hd hc
    have D1 := Draws.list (prog := X.prog) (w := X.w) (A := X.A.in1) hh N a (Nat.ne_of_lt ha) kts.toArray
    have D2 := Draws.tuple (prog := X.prog) (w := X.w) (A := X.A.in1) hh (N + 1) b (by show b ≠ N + 1; omega) jts.toArray
    refine wpAny_pyNext_zipD2_end (zipM_sep ha hb) D1 D2 hz hI hO ⟨h1, p.isList⟩ ⟨h2, p2⟩ (by rw [List.size_toArray]; omega) (by rw [List.size_toArray]; omega) (by rw [List.size_toArray, List.size_toArray]; omega) fun h' tk hk => ⟨rfl, I.turnedL (t' := tk) (ch := [N + 4, N + 2, N + 3, N, N + 1]) (fun c o hb q => ?_) hf⟩
    exact hk c o (fun z => hb (by simp [z])) (fun z => hb (by simp [z])) (fun z => hb (by simp [z])) (fun z => hb (by simp [z])) q
  self := fun A i s Q E st hh => wpAny_pyIter_zip st.1 hh
def iZipM (K : PySem.W.Frag) (ta : TA) : TI := fun σ H R => ta σ H fun vs H1 => ∃ a b xs ys, vs = [.ref a, .ref b] ∧ SqL K H1 a xs ∧ SqT K H1 b ys ∧ R (ItzM K a b) H1
theorem pi_zipM {X : Cx} {e e2 : Expr} {ta : TA} {p pos tpos : Pos} {elts : List Expr} {kk : Nat} (hg : Gl X "zip") (hm : X.mg "zip" = none) (ha : PA X [e, e2] ta)
    (hs : starEach [e, e2] X.env = (false, eval e X.env) :: starEach [e2] X.env := by rfl) (hpl : (backTo pos (starEach [e2] X.env)).any (·.1) = false := by rfl) : PI X (.Tuple elts kk tpos) (.Call (.Name "zip" p) [e, e2] [] pos) (iZipM X.K ta) := by
  refine ⟨fun pins s σ H R I hw => ?_⟩
  refine Call_ (ld_blt I hg hm PyProof.Rows.boot_zip (PyProof.Rows.callWith_type1 (thn (ha.run pos pins s σ H _ I hw) fun us s1 ⟨vs, H1, I1, r1, q1⟩ => ?_) hs hpl))
  obtain ⟨a, b, xs, ys, rfl, qx, qy, q⟩ := q1
  obtain ⟨u, w', rfl, ru, rw'⟩ := vals2 r1
  cases ru
  cases rw'
  obtain ⟨kts, rk, p1, _⟩ := I1.list qx
  obtain ⟨jts, rw2, p2, _⟩ := I1.tuple qy
  obtain ⟨o2, ho2, _⟩ := id p2
  refine zip_begins2 (begins_list a kts.toArray) (begins_tuple b jts.toArray) p1.isList p2 fun h' hz hI hO g1 g2 hsz hk => wpAny_pyIter_zip hz ?_
  have I2 := I1.kept (h' := h') (t' := s1.toks) hk
  refine ⟨s1.heap.objs.size + 4, [s1.heap.objs.size + 4, s1.heap.objs.size + 2, s1.heap.objs.size + 3, s1.heap.objs.size, s1.heap.objs.size + 1], _, _, H1, rfl, I2, turn_zipM p1.lt (Heap.lt_size ho2), ⟨hz, hI, ⟨_, _, hO⟩, ⟨_, g1, rfl, rfl⟩, ⟨_, g2, rfl, rfl⟩⟩, fun c hcm => ?_, q⟩
  have e' : c = s1.heap.objs.size + 4 ∨ c = s1.heap.objs.size + 2 ∨ c = s1.heap.objs.size + 3 ∨ c = s1.heap.objs.size ∨
      c = s1.heap.objs.size + 1 := by simpa using hcm
  have hge : s1.heap.objs.size ≤ c := by
    rcases e' with z | z | z | z | z <;> rw [z]
    · exact Nat.le_add_right _ _
    · exact Nat.le_add_right _ _
    · exact Nat.le_add_right _ _
    · exact Nat.le_refl _
    · exact Nat.le_add_right _ _
  refine I1.fpOk hge ?_
  exact I1.hok.fresh hge
/-- a loop over zip of a list and a tuple of one length -/
theorem for_zipM {K : PySem.W.Frag} {a b : Addr} {xs ys : List V} {g : TG} {tb : TS} {D : Ends} {σ : L2.St} {H : Hp} (hl : xs.length = ys.length) (Pv : Nat → L2.St → Hp → Prop) (h0 : Pv 0 σ H) (hq : ∀ i σ H, Pv i σ H → SqL K H a xs ∧ SqT K H b ys)
    (turn : ∀ (i : Nat) (x y : V) (T : Addr) (σ : L2.St) (H : Hp), xs[i]? = some x → ys[i]? = some y → H T = none → Pv i σ H → g (.ref T) σ (upd H T (.tup [x, y])) fun σ2 H2 => tb { D with nx := Pv (i + 1), ct := Pv (i + 1), bk := D.nx } σ2 H2) (fin : ∀ σ H, Pv xs.length σ H → D.nx σ H) :
    ∃ W : Nat → Nat → L2.St → Hp → Prop, (∃ m, W 0 m σ H) ∧ ∀ i m σ H, W i m σ H → ((ItzM K a b).stop i H ∧ D.nx σ H) ∨ ((ItzM K a b).go i H ∧ ∃ N : L2.St → Hp → Prop, (∀ σ' H', N σ' H' → ∃ m', m' < m ∧ W (i + 1) m' σ' H') ∧
      ∀ v H', (ItzM K a b).yld i H v H' → g v σ H' fun σ2 H2 => tb { D with nx := N, ct := N, bk := D.nx } σ2 H2) := by
  refine ⟨fun i m σ H => m = xs.length - i ∧ i ≤ xs.length ∧ Pv i σ H, ⟨xs.length, by omega, Nat.zero_le _, h0⟩, ?_⟩
  rintro i m σ H ⟨rfl, hi, p⟩
  have q := hq i σ H p
  by_cases lt : i < xs.length
  · have ex : xs[i]? = some xs[i] := List.getElem?_eq_getElem lt
    have ey : ys[i]? = some (ys[i]'(by omega)) := List.getElem?_eq_getElem (by omega)
    refine .inr ⟨⟨xs, ys, _, _, q.1, q.2, ex, ey⟩, Pv (i + 1), fun σ' H' p' => ⟨xs.length - (i + 1), by omega, rfl, lt, p'⟩, fun v H' y => ?_⟩
    obtain ⟨T, x, y, rfl, hT, rfl, y1, y2⟩ := y
    exact turn i x y T σ H (y1 xs q.1) (y2 ys q.2) hT p
  · obtain rfl : i = xs.length := by omega
    exact .inl ⟨⟨xs, ys, q.1, q.2, Nat.le_refl _, Nat.le_of_eq hl, .inl rfl⟩, fin σ H p⟩
/-- a loop over enumerate of a list -/
theorem for_enumL {K : PySem.W.Frag} {a : Addr} {xs : List V} {g : TG} {tb : TS} {D : Ends} {σ : L2.St} {H : Hp} (Pv : Nat → L2.St → Hp → Prop) (h0 : Pv 0 σ H) (hq : ∀ i σ H, Pv i σ H → SqL K H a xs)
    (turn : ∀ (i : Nat) (x : V) (T : Addr) (σ : L2.St) (H : Hp), xs[i]? = some x → H T = none → Pv i σ H → g (.ref T) σ (upd H T (.tup [.int (i : Nat), x])) fun σ2 H2 => tb { D with nx := Pv (i + 1), ct := Pv (i + 1), bk := D.nx } σ2 H2) (fin : ∀ σ H, Pv xs.length σ H → D.nx σ H) :
    ∃ W : Nat → Nat → L2.St → Hp → Prop, (∃ m, W 0 m σ H) ∧ ∀ i m σ H, W i m σ H → ((Ite K a).stop i H ∧ D.nx σ H) ∨ ((Ite K a).go i H ∧ ∃ N : L2.St → Hp → Prop, (∀ σ' H', N σ' H' → ∃ m', m' < m ∧ W (i + 1) m' σ' H') ∧
      ∀ v H', (Ite K a).yld i H v H' → g v σ H' fun σ2 H2 => tb { D with nx := N, ct := N, bk := D.nx } σ2 H2) := by
  refine ⟨fun i m σ H => m = xs.length - i ∧ i ≤ xs.length ∧ Pv i σ H, ⟨xs.length, by omega, Nat.zero_le _, h0⟩, ?_⟩
  rintro i m σ H ⟨rfl, hi, p⟩
  have q := hq i σ H p
  by_cases lt : i < xs.length
  · refine .inr ⟨⟨xs, _, q, List.getElem?_eq_getElem lt⟩, Pv (i + 1), fun σ' H' p' => ⟨xs.length - (i + 1), by omega, rfl, lt, p'⟩, fun v H' y => ?_⟩
    obtain ⟨T, x, rfl, hT, rfl, y1⟩ := y
    exact turn i x T σ H (y1 xs q) hT p
  · obtain rfl : i = xs.length := by omega
    exact .inl ⟨⟨xs, q, Nat.le_refl _⟩, fin σ H p⟩
end LA
set_option maxRecDepth 100000
set_option maxHeartbeats 5000000
namespace LA
open PySem PySem.Spec PyProof.Rows L2 RT RZ
/-! # rows_of, Node.__init__ -/
abbrev sNodeInit : Stmt := inClass (top 29) 0
abbrev sTreeInit : Stmt := inClass (top 30) 0
abbrev sPlant : Stmt := inClass (top 30) 1
abbrev sRows : Stmt := top 31
abbrev sPlanted : Stmt := top 32
theorem sixes_get : ∀ (m : Nat) (l : List Nat), l.length = 6 * m → (Ha03.sixes l).length = m ∧ ∀ j, j < m → (Ha03.sixes l)[j]? = some ((l.drop (6 * j)).take 6)
  | 0, l, h => by
    have e : l = [] := List.length_eq_zero_iff.mp (by omega)
    subst e
    exact ⟨rfl, fun j hj => by omega⟩
  | m + 1, l, h => by
    match l, h with
    | a :: b :: c :: d :: e :: f :: r, h =>
      have hr : r.length = 6 * m := by
        simp only [List.length_cons] at h
        omega
      have ih := sixes_get m r hr
      have es : Ha03.sixes (a :: b :: c :: d :: e :: f :: r) = [a, b, c, d, e, f] :: Ha03.sixes r := rfl
      rw [es]
      refine ⟨by rw [List.length_cons, ih.1], fun j hj => ?_⟩
      cases j with
      | zero => rfl
      | succ j =>
        rw [List.getElem?_cons_succ, ih.2 j (by omega), show 6 * (j + 1) = 6 * j + 1 + 1 + 1 + 1 + 1 + 1 by omega]
        rfl
theorem rg6 {m : Nat} (h : m ≤ 16) : RgC 0 ((6 * m : Nat) : Int) 6 m := by
  have q : ∀ k : Fin 17, Builtin.Range.small 0 ((6 * k.val : Nat) : Int) 6 = true ∧ Builtin.Range.rangeSize 0 ((6 * k.val : Nat) : Int) 6 = (k.val : Int) := by decide +kernel
  have z := q ⟨m, by omega⟩
  exact ⟨by decide, by decide, z.1, z.2⟩
theorem cut_mid (xs : List V) (a b : Nat) (h1 : a ≤ b) (h2 : b ≤ xs.length) : cutV xs (some (a : Int)) (some (b : Int)) = (xs.drop a).take (b - a) := by
  unfold cutV
  rw [sIx_nat, sIx_nat, Nat.min_eq_left h2, Nat.min_eq_left (Nat.le_trans h1 h2)]
theorem natV_cut (l : List Nat) (a b : Nat) : ((natV l).drop a).take b = natV ((l.drop a).take b) := by
  unfold natV
  rw [← List.map_drop, ← List.map_take]
/-- the rows of l, each a list of its own -/
def RowsAt (H : Hp) (rs : List Addr) (rows : List (List Nat)) : Prop := rs.length = rows.length ∧ ∀ (j : Nat) (row : List Nat), rows[j]? = some row → ∃ r : Addr, rs[j]? = some r ∧ H r = some (.lst (natV row))
def spRows : Sp := fun vs H Q _ => ∃ (a : Addr) (l : List Nat) (m : Nat), vs = [.ref a] ∧ H a = some (.lst (natV l)) ∧ l.length = 6 * m ∧ m ≤ 16 ∧
  ∀ H' p rs, Same H H' → H p = none → H' p = some (.lst (rs.map V.ref)) → RowsAt H' rs (Ha03.sixes l) → (∀ r ∈ rs, H r = none) → Q (.ref p) H'
section
variable {P : Program} {w : World} {K : PySem.W.Frag} {mg : Str → Option Value} {base : Heap} {CT CN : Addr}
theorem scRows : FnScope ["numbers", "first"] ["numbers"] (defScope sRows) := ⟨rfl, rfl, rfl, by decide +kernel, rfl, by decide +kernel, by decide +kernel⟩
theorem ok_rows (T : Txt K mg CT CN) (M : FDef K mg "rows_of" sRows ["numbers"]) : Fnc P w K mg base 1 "rows_of" spRows := by
  refine M.ok scRows (fun vs H Q E h => ?_) (fun f cdv A outer s H vs Q E hr h => ?_)
  · obtain ⟨a, l, m, rfl, _⟩ := h
    rfl
  obtain ⟨a, l, m, rfl, ha, hl, hm, q⟩ := h
  refine ⟨_, pss_one (ps_ret (pe_lc (own := [("first", 1)]) (g := gName 1) (tt := tYes) (te := tSl (rSlL K) (tVar 0) (tPart (tVar 1)) (tPart (tOp (rI0 fun i j => .int (i + j)) (tVar 1) (tC (.int 6))))) rfl scRows.nd
    (pi_range3 rfl (bt T 3 rfl) (pa_cons pe_int (pa_cons (pe_callB call_len_seq (by rfl) (bt T 0 rfl) PySem.boot_len (pa_cons (pv 0) pa_nil)) (pa_cons (pg (gc T 21 rfl)) pa_nil))))
    (blkOk_by (N := ["numbers", "first"]) (sc := defScope sRows) (by decide +kernel))
    (fun _ _ _ _ _ => pg_name (i := 1) scRows.nd rfl (.inl rfl)) (fun _ _ _ _ _ => pts_nil)
    (fun _ _ _ _ _ => by exact pe_slice sl_list (pv 0) (po_some (pv 1)) (po_some (pe_op op_add (pv 1) (pg (gc T 21 rfl))))))), ?_⟩
  have SG := sixes_get m l hl
  have hlen : (natV l).length = 6 * m := by
    unfold natV
    rw [List.length_map, hl]
  refine ⟨_, rfl, a, _, rfl, .inl (SqL.of ha), 0, _, 6, m, rfl, (by rw [hlen]; exact rg6 hm), fun D hD => ?_⟩
  refine lc_rangeC (fun j H' => Same H H' ∧ ∃ rs : List Addr, H' D = some (.lst (rs.map V.ref)) ∧ rs.length = j ∧ (∀ (k : Nat) (row : List Nat), k < j → (Ha03.sixes l)[k]? = some row → ∃ r : Addr, rs[k]? = some r ∧ H' r = some (.lst (natV row))) ∧ ∀ r ∈ rs, H r = none ∧ r ≠ D)
    ⟨same_new hD _, [], upd_same, rfl, fun k row hk => by omega, fun r hr => by cases hr⟩ ?_ ?_
  · rintro j H1 hj ⟨S1, rs, hD1, lr, hrs, fr⟩
    refine ⟨rfl, ?_⟩
    unfold tYes
    dsimp only
    rw [if_pos rfl]
    refine ⟨_, rfl, _, rfl, _, rfl, _, rfl, _, _, rfl, rfl, _, rfl, a, natV l, rfl, SqL.of (S1 _ _ ha), fun p hp => ?_⟩
    have pD : D ≠ p := ne_of_none hD1 hp
    have ec : cutV (natV l) (some (0 + ((j : Nat) : Int) * 6)) (some (0 + ((j : Nat) : Int) * 6 + 6)) = natV ((l.drop (6 * j)).take 6) := by
      have e1 : (0 + ((j : Nat) : Int) * 6) = ((6 * j : Nat) : Int) := by omega
      have e2 : (0 + ((j : Nat) : Int) * 6 + 6) = ((6 * j + 6 : Nat) : Int) := by omega
      rw [e2, e1, cut_mid _ _ _ (by omega) (by rw [hlen]; omega), natV_cut, show 6 * j + 6 - 6 * j = 6 by omega]
    refine ⟨rs.map V.ref, (by rw [upd_ne pD]; exact hD1), ?_, ?_, rs ++ [p], ?_, ?_, ?_, ?_⟩
    · rw [List.length_map, lr]
      exact small1000 (by omega)
    · intro b o e
      have b1 : b ≠ D := ne_of_none e hD
      have b2 := S1 b o e
      rw [upd_ne b1, upd_ne (ne_of_none b2 hp)]
      exact b2
    · rw [upd_same, List.map_append]
      rfl
    · rw [List.length_append, lr]
      rfl
    · intro k row hk e
      by_cases kj : k < j
      · obtain ⟨r, r1, r2⟩ := hrs k row kj e
        have rm := fr r (List.mem_of_getElem? r1)
        refine ⟨r, ?_, ?_⟩
        · rw [List.getElem?_append_left (by rw [lr]; exact kj)]
          exact r1
        · rw [upd_ne rm.2, upd_ne (ne_of_none r2 hp)]
          exact r2
      · have ek : k = j := by omega
        subst ek
        refine ⟨p, ?_, ?_⟩
        · rw [List.getElem?_append_right (by omega), lr, Nat.sub_self]
          rfl
        · rw [upd_ne (Ne.symm pD), upd_same]
          rw [SG.2 k hj] at e
          have e' := Option.some.inj e
          rw [← e']
          exact congrArg (fun x => some (HO.lst x)) ec
    · intro r hr
      rcases List.mem_append.mp hr with h | h
      · exact fr r h
      · rw [List.mem_singleton.mp h]
        exact ⟨S1.free hp, Ne.symm pD⟩
  · rintro H1 ⟨S1, rs, hD1, lr, hrs, fr⟩
    refine q H1 D rs S1 hD hD1 ⟨by rw [lr, SG.1], fun j row e => hrs j row ?_ e⟩ fun r hr => (fr r hr).1
    have := (List.getElem?_eq_some_iff.mp e).1
    rw [SG.1] at this
    exact this
/-! Node.__init__ -/
theorem init_fs (v0 v1 v2 v3 v4 v5 v6 v7 v8 v9 v10 v11 v12 : V) : putF "failing" v12 (putF "times" v11 (putF "gone" v10 (putF "run" v9 (putF "place" v8 (putF "children" v7 (putF "span" v6 (putF "often" v5 (putF "way" v4 (putF "kind" v3 (putF "keeper" v2 (putF "parent" v1 (putF "number" v0 [])))))))))))) =
    nodeK.zip [v0, v1, v2, v3, v4, v5, v6, v7, v8, v9, v10, v11, v12] := by rfl
def newVs (num : Nat) (pv : V) (row : List Nat) (cl tm : Addr) : List V := [.int (num : Nat), pv, .bl (decide (row.getD 1 0 = 1)), .int (row.getD 2 0 : Nat), .int (row.getD 3 0 : Nat), .int (row.getD 4 0 : Nat), .int (row.getD 5 0 : Nat), .ref cl, .int 0, .int 0, .bl false, .ref tm, .int 0]
def spNodeInit (CN : Addr) : Sp := fun vs H Q _ => ∃ (x dx tl : Addr) (num : Nat) (pv : V) (row : List Nat), vs = [.ref x, .int (num : Nat), pv, .ref tl] ∧ H x = some (.ins CN dx []) ∧ H tl = some (.lst (natV row)) ∧ row.length = 6 ∧
  ∀ H' cl tm, H' x = some (.ins CN dx (nodeK.zip (newVs num pv row cl tm))) → H' cl = some (.lst []) → H' tm = some (.lst []) → H cl = none → H tm = none → cl ≠ tm → (∀ b o, H b = some o → b ≠ x → H' b = some o) → Q .non H'
theorem scNodeInit : FnScope ["self", "number", "parent", "told"] ["self", "number", "parent", "told"] (defScope sNodeInit) := ⟨rfl, rfl, rfl, by decide +kernel, rfl, by decide +kernel, by decide +kernel⟩
theorem row_at {row : List Nat} (h : row.length = 6) (j : Nat) (hj : j < 6) : atI (natV row) ((j : Nat) : Int) = some (.int (row.getD j 0 : Nat)) := by
  refine atI_nat ?_
  unfold natV
  rw [List.getElem?_map, List.getD_eq_getElem?_getD, List.getElem?_eq_getElem (by omega)]
  rfl
theorem ok_nodeInit (T : Txt K mg CT CN) {f : Addr} {fd : FuncData} (F : Fun K "__init__" "Node.__init__" sNodeInit f fd) : FnOk P w K mg base CX0 1 f fd ["self", "number", "parent", "told"] (spNodeInit CN) := by
  refine F.ok scNodeInit (fun vs H Q E h => ?_) (fun cdv A outer s H vs Q E hr h => ?_)
  · obtain ⟨x, dx, tl, num, pv', row, rfl, _⟩ := h
    rfl
  obtain ⟨x, dx, tl, num, pv', row, rfl, hx, ht, hrow, q⟩ := h
  refine ⟨_, pss_cons (ps_fld (pv 0) (pv 1) rfl) (pss_cons (ps_fld (pv 0) (pv 2) rfl)
    (pss_cons (ps_fld (pv 0) (pe_cmpR op_eq (pe_ix ix_list (pv 3) pe_int (fun _ _ => rfl)) pe_int (nomark _)) rfl)
    (pss_cons (ps_fld (pv 0) (pe_ix ix_list (pv 3) pe_int (fun _ _ => rfl)) rfl)
    (pss_cons (ps_fld (pv 0) (pe_ix ix_list (pv 3) pe_int (fun _ _ => rfl)) rfl)
    (pss_cons (ps_fld (pv 0) (pe_ix ix_list (pv 3) pe_int (fun _ _ => rfl)) rfl)
    (pss_cons (ps_fld (pv 0) (pe_ix ix_list (pv 3) pe_int (fun _ _ => rfl)) rfl)
    (pss_cons (ps_fld (pv 0) (pe_lst pa_nil) rfl)
    (pss_cons (ps_fld (pv 0) pe_int rfl)
    (pss_cons (ps_fld (pv 0) pe_int rfl)
    (pss_cons (ps_fld (pv 0) pe_bl rfl)
    (pss_cons (ps_fld (pv 0) (pe_lst pa_nil) rfl)
    (pss_one (ps_fld (pv 0) pe_int rfl))))))))))))), ?_⟩
  have tx : tl ≠ x := ne_of ht hx ins_lst
  -- the told row stands while the node is written
  have sq : ∀ {H' : Hp} (o : HO), H' tl = some (.lst (natV row)) → upd H' x o tl = some (.lst (natV row)) := fun {H'} o h => by
    rw [upd_ne tx]
    exact h
  refine ⟨_, rfl, _, rfl, x, CN, dx, [], rfl, hx, T.clN, tN T 0 rfl, (by show 0 < 1000; decide), ?_⟩
  have t1 := sq (H' := H) (.ins CN dx (putF "number" (.int (num : Nat)) [])) ht
  refine ⟨_, rfl, _, rfl, x, CN, dx, _, rfl, upd_same, T.clN, tN T 1 rfl, (by show 1 < 1000; decide), ?_⟩
  rw [upd_upd]
  have t2 := sq (H' := H) (.ins CN dx (putF "parent" pv' (putF "number" (.int (num : Nat)) []))) ht
  refine ⟨_, rfl, tl, _, 1, _, rfl, rfl, SqL.of t2, row_at hrow 1 (by decide), rfl, _, rfl, x, CN, dx, _, rfl, upd_same, T.clN, tN T 2 rfl, (by show 2 < 1000; decide), ?_⟩
  rw [upd_upd]
  refine ⟨_, rfl, tl, _, 2, _, rfl, rfl, SqL.of (sq _ ht), row_at hrow 2 (by decide), _, rfl, x, CN, dx, _, rfl, upd_same, T.clN, tN T 3 rfl, (by show 3 < 1000; decide), ?_⟩
  rw [upd_upd]
  refine ⟨_, rfl, tl, _, 3, _, rfl, rfl, SqL.of (sq _ ht), row_at hrow 3 (by decide), _, rfl, x, CN, dx, _, rfl, upd_same, T.clN, tN T 4 rfl, (by show 4 < 1000; decide), ?_⟩
  rw [upd_upd]
  refine ⟨_, rfl, tl, _, 4, _, rfl, rfl, SqL.of (sq _ ht), row_at hrow 4 (by decide), _, rfl, x, CN, dx, _, rfl, upd_same, T.clN, tN T 5 rfl, (by show 5 < 1000; decide), ?_⟩
  rw [upd_upd]
  refine ⟨_, rfl, tl, _, 5, _, rfl, rfl, SqL.of (sq _ ht), row_at hrow 5 (by decide), _, rfl, x, CN, dx, _, rfl, upd_same, T.clN, tN T 6 rfl, (by show 6 < 1000; decide), ?_⟩
  rw [upd_upd]
  -- self.children = []
  refine ⟨Nat.zero_le _, fun cl hcl => ?_⟩
  have xcl : x ≠ cl := fun e => by
    rw [← e, upd_same] at hcl
    cases hcl
  have cl0 : H cl = none := by
    rw [upd_ne (Ne.symm xcl)] at hcl
    exact hcl
  refine ⟨_, rfl, x, CN, dx, _, rfl, Eq.trans (upd_ne xcl) upd_same, T.clN, tN T 7 rfl, (by show 7 < 1000; decide), ?_⟩
  refine ⟨_, rfl, x, CN, dx, _, rfl, upd_same, T.clN, tN T 8 rfl, (by show 8 < 1000; decide), ?_⟩
  rw [upd_upd]
  refine ⟨_, rfl, x, CN, dx, _, rfl, upd_same, T.clN, tN T 9 rfl, (by show 9 < 1000; decide), ?_⟩
  rw [upd_upd]
  refine ⟨_, rfl, x, CN, dx, _, rfl, upd_same, T.clN, tN T 10 rfl, (by show 10 < 1000; decide), ?_⟩
  rw [upd_upd]
  -- self.times = []
  refine ⟨Nat.zero_le _, fun tm htm => ?_⟩
  have xtm : x ≠ tm := fun e => by
    rw [← e, upd_same] at htm
    cases htm
  have htm1 := htm
  rw [upd_ne (Ne.symm xtm)] at htm1
  have ctm : cl ≠ tm := fun e => by
    rw [← e, upd_same] at htm1
    cases htm1
  have tm0 : H tm = none := by
    rw [upd_ne (Ne.symm ctm), upd_ne (Ne.symm xtm)] at htm1
    exact htm1
  refine ⟨_, rfl, x, CN, dx, _, rfl, Eq.trans (upd_ne xtm) upd_same, T.clN, tN T 11 rfl, (by show 11 < 1000; decide), ?_⟩
  refine ⟨_, rfl, x, CN, dx, _, rfl, upd_same, T.clN, tN T 12 rfl, (by show 12 < 1000; decide), ?_⟩
  rw [upd_upd]
  refine q _ cl tm ?_ ?_ ?_ cl0 tm0 ctm fun b o e hb => ?_
  · rw [upd_same, init_fs]
    have de : decide (V.int ((row.getD 1 0 : Nat) : Int) = V.int 1) = decide (row.getD 1 0 = 1) := int_eq_nat (b := 1)
    unfold newVs
    rw [← de]
  · rw [upd_ne (Ne.symm xcl), upd_ne ctm, upd_ne (Ne.symm xcl), upd_same]
  · rw [upd_ne (Ne.symm xtm), upd_same]
  · rw [upd_ne hb, upd_ne (ne_of_none e tm0), upd_ne hb, upd_ne (ne_of_none e cl0), upd_ne hb]
    exact e
end
end LA
set_option maxRecDepth 100000
set_option maxHeartbeats 5000000
namespace LA
open PySem PySem.Spec PyProof.Rows L2 RT RZ
/-! # The tree that a list tells -/
theorem treeOf_some {l : List Nat} {N : List Ha03.Node} (h : Ha03.treeOf l = some N) : l.length % 6 = 0 ∧ l ≠ [] ∧ l.length ≤ 84 ∧ N = (Ha03.sixes l).map Ha03.nodeOf ∧ ∀ i, i < N.length → Ha03.isNode N (i + 1) ((Ha03.sixes l).getD i []) = true := by
  unfold Ha03.treeOf at h
  split at h
  · cases h
  · rename_i c
    dsimp only at h
    split at h
    · rename_i a
      have e := Option.some.inj h
      refine ⟨by omega, fun z => c (.inr (.inl z)), by omega, e.symm, fun i hi => ?_⟩
      rw [List.all_eq_true] at a
      have := a i (List.mem_range.mpr (by rw [e]; exact hi))
      rw [e] at this
      exact this
    · cases h
structure Rows (l : List Nat) (N : List Ha03.Node) (m : Nat) : Prop where
  len : l.length = 6 * m
  m1 : 1 ≤ m
  m14 : m ≤ 14
  nlen : N.length = m
  rlen : (Ha03.sixes l).length = m
  row : ∀ j, j < m → ∃ row, (Ha03.sixes l)[j]? = some row ∧ row.length = 6 ∧ nd N (j + 1) = Ha03.nodeOf row ∧ Ha03.isNode N (j + 1) row = true
theorem rows_of {l : List Nat} {N : List Ha03.Node} (h : Ha03.treeOf l = some N) : Rows l N (l.length / 6) := by
  obtain ⟨h1, h2, h3, h4, h5⟩ := treeOf_some h
  have hl : l.length = 6 * (l.length / 6) := by omega
  have SG := sixes_get _ l hl
  have l0 : l.length ≠ 0 := fun z => h2 (List.length_eq_zero_iff.mp z)
  have nl : N.length = l.length / 6 := by rw [h4, List.length_map, SG.1]
  refine ⟨hl, by omega, by omega, nl, SG.1, fun j hj => ?_⟩
  have e := SG.2 j hj
  refine ⟨_, e, ?_, ?_, ?_⟩
  · rw [List.length_take, List.length_drop]
    omega
  · unfold nd
    rw [h4, List.getD_eq_getElem?_getD, List.getElem?_map, show j + 1 - 1 = j by omega, e]
    rfl
  · have := h5 j (by omega)
    rw [List.getD_eq_getElem?_getD, e] at this
    exact this
theorem isNode_parts {N : List Ha03.Node} {i : Nat} {row : List Nat} (h : Ha03.isNode N i row = true) : row.getD 1 0 ≤ 1 ∧ row.getD 2 0 ≤ 2 ∧ row.getD 3 0 ≤ 2 ∧ row.getD 4 0 ≤ 5 ∧ row.getD 5 0 ≤ 1000 ∧
    (i = 1 → row.getD 0 1 = 0 ∧ row.getD 1 0 = 1) ∧ (i ≠ 1 → 1 ≤ row.getD 0 0 ∧ row.getD 0 0 < i ∧ (N.getD (row.getD 0 0 - 1) Ha03.noNode).isSup = true) := by
  unfold Ha03.isNode at h
  rw [Bool.and_eq_true, Bool.and_eq_true, Bool.and_eq_true, Bool.and_eq_true, Bool.and_eq_true] at h
  obtain ⟨⟨a, b, c, d, e⟩, f⟩ := h
  refine ⟨of_decide_eq_true a, of_decide_eq_true b, of_decide_eq_true c, of_decide_eq_true d, of_decide_eq_true e, fun q => ?_, fun q => ?_⟩
  · rw [if_pos q, Bool.and_eq_true] at f
    exact ⟨by simpa using f.1, by simpa using f.2⟩
  · rw [if_neg q, Bool.and_eq_true, Bool.and_eq_true] at f
    exact ⟨of_decide_eq_true f.1, of_decide_eq_true f.2.1, f.2.2⟩
theorem getD0 {row : List Nat} (h : row.length = 6) : row.getD 0 1 = row.getD 0 0 := by
  rw [List.getD_eq_getElem?_getD, List.getD_eq_getElem?_getD, List.getElem?_eq_getElem (by omega)]
  rfl
theorem Rows.wt {l : List Nat} {N : List Ha03.Node} {m : Nat} (R : Rows l N m) : WT N := by
  have at_ : ∀ i, 1 ≤ i → i ≤ N.length → ∃ row, row.length = 6 ∧ nd N i = Ha03.nodeOf row ∧ Ha03.isNode N i row = true := fun i h1 h2 => by
    obtain ⟨row, _, a, b, c⟩ := R.row (i - 1) (by have := R.nlen; omega)
    rw [show i - 1 + 1 = i by omega] at b c
    exact ⟨row, a, b, c⟩
  have out : ∀ i, nd N i = Ha03.noNode ∨ ∃ k, 1 ≤ k ∧ k ≤ N.length ∧ nd N i = nd N k := fun i => by
    by_cases h : i - 1 < N.length
    · refine .inr ⟨i - 1 + 1, by omega, by omega, ?_⟩
      unfold nd
      rw [show i - 1 + 1 - 1 = i - 1 by omega]
    · left
      unfold nd
      rw [List.getD_eq_getElem?_getD, List.getElem?_eq_none (show _ ≤ _ by omega)]
      rfl
  have m1 := R.m1
  have nl := R.nlen
  refine ⟨by omega, by have := R.m14; omega, ?_, ?_, ?_, ?_, ?_, ?_⟩
  · obtain ⟨row, a, b, c⟩ := at_ 1 (Nat.le_refl _) (by omega)
    rw [b]
    have := ((isNode_parts c).2.2.2.2.2.1 rfl).1
    rw [getD0 a] at this
    exact this
  · intro i h1 h2
    obtain ⟨row, a, b, c⟩ := at_ i (by omega) h2
    rw [b]
    have := (isNode_parts c).2.2.2.2.2.2 (by omega)
    exact ⟨this.1, this.2.1⟩
  · intro i
    rcases out i with e | ⟨k, k1, k2, e⟩
    · rw [e]; exact Nat.zero_le _
    · obtain ⟨row, a, b, c⟩ := at_ k k1 k2
      rw [e, b]
      exact (isNode_parts c).2.2.2.1
  · intro i
    rcases out i with e | ⟨k, k1, k2, e⟩
    · rw [e]; exact Nat.zero_le _
    · obtain ⟨row, a, b, c⟩ := at_ k k1 k2
      rw [e, b]
      exact (isNode_parts c).2.1
  · obtain ⟨row, a, b, c⟩ := at_ 1 (Nat.le_refl _) (by omega)
    rw [b]
    show (row.getD 1 0 == 1) = true
    rw [((isNode_parts c).2.2.2.2.2.1 rfl).2]
    rfl
  · intro i h1 h2
    obtain ⟨row, a, b, c⟩ := at_ i (by omega) h2
    have := (isNode_parts c).2.2.2.2.2.2 (by omega)
    rw [b]
    exact this.2.2
/-! # The nodes as they are planted, row by row -/
theorem sorted_idx {c : Nat} : ∀ {l : List Nat}, l.Pairwise (· < ·) → c ∈ l → l.idxOf c = (l.filter fun k => decide (k < c)).length
  | [], _, h => by cases h
  | a :: l, hs, h => by
    have hs' := List.pairwise_cons.mp hs
    by_cases e : a = c
    · subst e
      rw [List.idxOf_cons_self, List.filter_cons_of_neg (by simp)]
      have : l.filter (fun k => decide (k < a)) = [] := by
        rw [List.filter_eq_nil_iff]
        intro x hx
        have := hs'.1 x hx
        simp
        omega
      rw [this]
      rfl
    · obtain rfl | h := List.mem_cons.mp h
      · exact absurd rfl e
      · have lt := hs'.1 c h
        have be : (a == c) = false := beq_eq_false_iff_ne.mpr e
        rw [List.filter_cons_of_pos (by simpa using lt), List.length_cons, ← sorted_idx hs'.2 h, List.idxOf_cons, be]
        rfl
theorem sorted_le_succ {j : Nat} : ∀ {l : List Nat}, l.Pairwise (· < ·) → (l.filter fun k => decide (k ≤ j + 1)) = (l.filter fun k => decide (k ≤ j)) ++ (if j + 1 ∈ l then [j + 1] else [])
  | [], _ => rfl
  | a :: l, hs => by
    have hs' := List.pairwise_cons.mp hs
    rcases Nat.lt_trichotomy a (j + 1) with h | h | h
    · have ih := sorted_le_succ (j := j) hs'.2
      rw [List.filter_cons_of_pos (by simp; omega), List.filter_cons_of_pos (by simp; omega), ih, List.cons_append]
      have : (j + 1 ∈ a :: l) ↔ (j + 1 ∈ l) := by
        rw [List.mem_cons]
        constructor
        · rintro (z | z)
          · omega
          · exact z
        · exact .inr
      simp only [this]
    · subst h
      have gt : ∀ x ∈ l, j + 1 < x := hs'.1
      have n1 : l.filter (fun k => decide (k ≤ j + 1)) = [] := by
        rw [List.filter_eq_nil_iff]
        intro x hx
        have := gt x hx
        simp
        omega
      have n2 : l.filter (fun k => decide (k ≤ j)) = [] := by
        rw [List.filter_eq_nil_iff]
        intro x hx
        have := gt x hx
        simp
        omega
      rw [List.filter_cons_of_pos (by simp), List.filter_cons_of_neg (by simp), n1, n2, if_pos List.mem_cons_self]
      rfl
    · have gt : ∀ x ∈ l, j + 1 < x := fun x hx => Nat.lt_trans h (hs'.1 x hx)
      have n1 : (a :: l).filter (fun k => decide (k ≤ j + 1)) = [] := by
        rw [List.filter_eq_nil_iff]
        intro x hx
        obtain rfl | hx := List.mem_cons.mp hx
        · simp; omega
        · have := gt x hx
          simp
          omega
      have n2 : (a :: l).filter (fun k => decide (k ≤ j)) = [] := by
        rw [List.filter_eq_nil_iff]
        intro x hx
        obtain rfl | hx := List.mem_cons.mp hx
        · simp; omega
        · have := gt x hx
          simp
          omega
      have n3 : j + 1 ∉ a :: l := fun z => by
        obtain z | z := List.mem_cons.mp z
        · omega
        · have := gt _ z
          omega
      rw [n1, n2, if_neg n3]
      rfl
def soFar (N : List Ha03.Node) (j i : Nat) : List Nat := (kids N i).filter fun k => decide (k ≤ j)
theorem soFar_le {N : List Ha03.Node} {j i k : Nat} (h : k ∈ soFar N j i) : 1 ≤ k ∧ k ≤ j := by
  have := List.mem_filter.mp h
  exact ⟨(mem_kids.mp this.1).1, of_decide_eq_true this.2⟩
theorem soFar_all {N : List Ha03.Node} (i : Nat) : soFar N N.length i = kids N i := by
  unfold soFar
  rw [List.filter_eq_self]
  intro x hx
  exact decide_eq_true (mem_kids.mp hx).2.1
theorem soFar_succ {N : List Ha03.Node} {j : Nat} (hj : j < N.length) (i : Nat) : soFar N (j + 1) i = soFar N j i ++ (if (nd N (j + 1)).parent = i then [j + 1] else []) := by
  unfold soFar
  rw [sorted_le_succ (kids_sorted N i)]
  have : (j + 1 ∈ kids N i) ↔ (nd N (j + 1)).parent = i := by
    rw [mem_kids]
    constructor
    · exact fun z => z.2.2
    · exact fun z => ⟨by omega, by omega, z⟩
  simp only [this]
theorem plc_soFar {N : List Ha03.Node} {j : Nat} (hj : j < N.length) : plc N (j + 1) = (soFar N j (nd N (j + 1)).parent).length := by
  unfold plc soFar
  rw [sorted_idx (kids_sorted N _) (mem_kids.mpr ⟨by omega, by omega, rfl⟩)]
  congr 1
  apply List.filter_congr
  intro x _
  simp only [decide_eq_decide]
  omega
def gp (CN nl : Addr) (as cls : List Addr) : G := ⟨0, CN, 0, 0, nl, 0, as, fun i => cls.getD (i - 1) 0, none⟩
structure PR (CN : Addr) (N : List Ha03.Node) (H0 H : Hp) (nl : Addr) (j : Nat) (as cls : List Addr) : Prop where
  same : Same H0 H
  nl0 : H0 nl = none
  lst : H nl = some (.lst (as.map V.ref))
  la : as.length = j
  lc : cls.length = j
  node : ∀ i, 1 ≤ i → i ≤ j → ∃ dx tm, H ((gp CN nl as cls).at i) = some (.ins CN dx (nodeF (gp CN nl as cls) N i Ha03.noNow tm)) ∧ H tm = some (.lst []) ∧ H0 tm = none ∧ tm ≠ nl ∧ tm ∉ cls
  kids : ∀ i, 1 ≤ i → i ≤ j → H ((gp CN nl as cls).cs i) = some (.lst (kidV (gp CN nl as cls) (soFar N j i)))
  na : ∀ a ∈ as, H0 a = none
  nc : ∀ c ∈ cls, H0 c = none ∧ c ≠ nl
  nda : as.Nodup
  ndc : cls.Nodup
theorem getD_app {α : Type} {l : List α} {x d : α} {i : Nat} (h : i < l.length) : (l ++ [x]).getD i d = l.getD i d := by
  rw [List.getD_eq_getElem?_getD, List.getD_eq_getElem?_getD, List.getElem?_append_left h]
theorem getD_end {α : Type} {l : List α} {x d : α} : (l ++ [x]).getD l.length d = x := by
  rw [List.getD_eq_getElem?_getD, List.getElem?_append_right (Nat.le_refl _), Nat.sub_self]
  rfl
theorem gp_at {CN nl x cl : Addr} {as cls : List Addr} {i : Nat} (h1 : 1 ≤ i) (h2 : i ≤ as.length) : (gp CN nl (as ++ [x]) (cls ++ [cl])).at i = (gp CN nl as cls).at i := getD_app (by omega)
theorem gp_cs {CN nl x cl : Addr} {as cls : List Addr} {i : Nat} (h1 : 1 ≤ i) (h2 : i ≤ cls.length) : (gp CN nl (as ++ [x]) (cls ++ [cl])).cs i = (gp CN nl as cls).cs i := getD_app (by omega)
theorem gp_kidV {CN nl x cl : Addr} {as cls : List Addr} {l : List Nat} (h : ∀ k ∈ l, 1 ≤ k ∧ k ≤ as.length) : kidV (gp CN nl (as ++ [x]) (cls ++ [cl])) l = kidV (gp CN nl as cls) l := by
  unfold kidV
  apply List.map_congr_left
  intro k hk
  rw [gp_at (h k hk).1 (h k hk).2]
theorem gp_nodeF {CN nl x cl : Addr} {as cls : List Addr} {N : List Ha03.Node} (W : WT N) {i : Nat} {tm : Addr} (h1 : 1 ≤ i) (h2 : i ≤ as.length) (hc : cls.length = as.length) (hn : i ≤ N.length) :
    nodeF (gp CN nl (as ++ [x]) (cls ++ [cl])) N i Ha03.noNow tm = nodeF (gp CN nl as cls) N i Ha03.noNow tm := by
  have e1 : parV (gp CN nl (as ++ [x]) (cls ++ [cl])) N i = parV (gp CN nl as cls) N i := by
    unfold parV
    split
    · rfl
    · rename_i h
      have := par_le W hn
      rw [gp_at (by omega) (by omega)]
  have e2 := gp_cs (CN := CN) (nl := nl) (x := x) (cl := cl) (as := as) (cls := cls) (i := i) h1 (by omega)
  unfold nodeF nodeVs
  rw [e1, e2]
theorem cs_mem {CN nl : Addr} {as cls : List Addr} {i : Nat} (h1 : 1 ≤ i) (h2 : i ≤ cls.length) : (gp CN nl as cls).cs i ∈ cls := by
  show cls.getD (i - 1) 0 ∈ cls
  rw [List.getD_eq_getElem?_getD, List.getElem?_eq_getElem (by omega)]
  exact List.getElem_mem _
theorem cs_inj {CN nl : Addr} {as cls : List Addr} (nd : cls.Nodup) {i k : Nat} (h1 : 1 ≤ i) (h2 : i ≤ cls.length) (k1 : 1 ≤ k) (k2 : k ≤ cls.length) (e : (gp CN nl as cls).cs i = (gp CN nl as cls).cs k) : i = k := by
  have e : cls.getD (i - 1) 0 = cls.getD (k - 1) 0 := e
  rw [List.getD_eq_getElem?_getD, List.getD_eq_getElem?_getD, List.getElem?_eq_getElem (by omega), List.getElem?_eq_getElem (by omega)] at e
  have := (List.getElem_inj (h₀ := by omega) (h₁ := by omega) nd).mp e
  omega
theorem nodup_snoc {l : List Addr} {a : Addr} (h : l.Nodup) (n : a ∉ l) : (l ++ [a]).Nodup := by
  unfold List.Nodup
  rw [List.pairwise_append]
  refine ⟨h, List.pairwise_singleton _ _, fun x hx y hy e => ?_⟩
  rw [List.mem_singleton.mp hy] at e
  exact n (by rw [← e]; exact hx)
/-- one node more -/
theorem PR.step {CN : Addr} {N : List Ha03.Node} (W : WT N) {H0 H H4 : Hp} {nl : Addr} {j : Nat} {as cls : List Addr} (R : PR CN N H0 H nl j as cls) (hj : j < N.length) {x dx cl tm : Addr}
    (hx : H x = none) (hcl : H cl = none) (htm : H tm = none) (ct : cl ≠ tm)
    (h4x : H4 x = some (.ins CN dx (nodeF (gp CN nl (as ++ [x]) (cls ++ [cl])) N (j + 1) Ha03.noNow tm))) (h4c : H4 cl = some (.lst [])) (h4t : H4 tm = some (.lst [])) (h4l : H4 nl = some (.lst ((as ++ [x]).map V.ref)))
    (h4k : ∀ i, 1 ≤ i → i ≤ j → H4 ((gp CN nl as cls).cs i) = some (.lst (kidV (gp CN nl (as ++ [x]) (cls ++ [cl])) (soFar N (j + 1) i))))
    (keep : ∀ b o, H b = some o → b ≠ nl → b ∉ cls → H4 b = some o) : PR CN N H0 H4 nl (j + 1) (as ++ [x]) (cls ++ [cl]) := by
  have la := R.la
  have lc := R.lc
  have cl_nl : cl ≠ nl := (ne_of_none R.lst hcl).symm
  have tm_nl : tm ≠ nl := (ne_of_none R.lst htm).symm
  have clist : ∀ c ∈ cls, ∃ xs, H c = some (.lst xs) := fun c hc => by
    obtain ⟨n, hn, e⟩ := List.mem_iff_getElem.mp hc
    have := R.kids (n + 1) (by omega) (by omega)
    have e2 : (gp CN nl as cls).cs (n + 1) = c := by
      show cls.getD (n + 1 - 1) 0 = c
      rw [List.getD_eq_getElem?_getD, show n + 1 - 1 = n by omega, List.getElem?_eq_getElem hn, e]
      rfl
    rw [e2] at this
    exact ⟨_, this⟩
  have cl_c : cl ∉ cls := fun z => by
    obtain ⟨xs, e⟩ := clist cl z
    rw [hcl] at e
    cases e
  have tm_c : tm ∉ cls := fun z => by
    obtain ⟨xs, e⟩ := clist tm z
    rw [htm] at e
    cases e
  have aobj : ∀ a ∈ as, ∃ dx fs, H a = some (.ins CN dx fs) := fun a ha => by
    obtain ⟨n, hn, e⟩ := List.mem_iff_getElem.mp ha
    obtain ⟨dx, tm', q, _⟩ := R.node (n + 1) (by omega) (by omega)
    have e2 : (gp CN nl as cls).at (n + 1) = a := by
      show as.getD (n + 1 - 1) 0 = a
      rw [List.getD_eq_getElem?_getD, show n + 1 - 1 = n by omega, List.getElem?_eq_getElem hn, e]
      rfl
    rw [e2] at q
    exact ⟨_, _, q⟩
  have x_as : x ∉ as := fun z => by
    obtain ⟨_, _, e⟩ := aobj x z
    rw [hx] at e
    cases e
  refine ⟨?_, R.nl0, h4l, by rw [List.length_append, la]; rfl, by rw [List.length_append, lc]; rfl, ?_, ?_, ?_, ?_, nodup_snoc R.nda x_as, nodup_snoc R.ndc cl_c⟩
  · intro b o e
    refine keep b o (R.same b o e) (ne_of_none e R.nl0) fun z => ?_
    rw [(R.nc b z).1] at e
    cases e
  · intro i i1 i2
    by_cases ij : i ≤ j
    · obtain ⟨dx', tm', q1, q2, q3, q4, q5⟩ := R.node i i1 ij
      refine ⟨dx', tm', ?_, ?_, q3, q4, fun z => ?_⟩
      · rw [gp_at i1 (by omega), gp_nodeF W i1 (by omega) (by omega) (by omega)]
        refine keep _ _ q1 (ne_of R.lst q1 ins_lst).symm fun z => ?_
        obtain ⟨xs, e⟩ := clist _ z
        rw [q1] at e
        cases e
      · exact keep _ _ q2 q4 q5
      · rcases List.mem_append.mp z with z | z
        · exact q5 z
        · rw [List.mem_singleton.mp z, hcl] at q2
          cases q2
    · have e : i = j + 1 := by omega
      subst e
      refine ⟨dx, tm, ?_, h4t, R.same.free htm, tm_nl, fun z => ?_⟩
      · have : (gp CN nl (as ++ [x]) (cls ++ [cl])).at (j + 1) = x := by
          show (as ++ [x]).getD (j + 1 - 1) 0 = x
          rw [show j + 1 - 1 = as.length by omega]
          exact getD_end
        rw [this]
        exact h4x
      · rcases List.mem_append.mp z with z | z
        · exact tm_c z
        · exact ct (List.mem_singleton.mp z).symm
  · intro i i1 i2
    by_cases ij : i ≤ j
    · rw [gp_cs i1 (by omega)]
      exact h4k i i1 ij
    · have e : i = j + 1 := by omega
      subst e
      have ec : (gp CN nl (as ++ [x]) (cls ++ [cl])).cs (j + 1) = cl := by
        show (cls ++ [cl]).getD (j + 1 - 1) 0 = cl
        rw [show j + 1 - 1 = cls.length by omega]
        exact getD_end
      have en : soFar N (j + 1) (j + 1) = [] := by
        unfold soFar
        rw [List.filter_eq_nil_iff]
        intro y hy
        have := kid_lt W (by omega) hy
        simp
        omega
      rw [ec, en]
      exact h4c
  · intro a ha
    rcases List.mem_append.mp ha with z | z
    · exact R.na a z
    · rw [show _ = _ from List.mem_singleton.mp z]
      exact R.same.free hx
  · intro c hc
    rcases List.mem_append.mp hc with z | z
    · exact R.nc c z
    · rw [show _ = _ from List.mem_singleton.mp z]
      exact ⟨R.same.free hcl, cl_nl⟩
end LA
set_option maxRecDepth 100000
set_option maxHeartbeats 5000000
namespace LA
open PySem PySem.Spec PyProof.Rows L2 RT RZ
/-! # planted, plant, Tree.__init__ -/
/-- a class that is made by its name, and the promise of its __init__ -/
structure Mkr (P : Program) (w : World) (K : PySem.W.Frag) (mg : Str → Option Value) (base : Heap) (k : Nat) (x : Str) (C : Addr) (sp : Sp) : Prop where
  ex : ∃ (f : Addr) (fd : FuncData) (ps : List Str), Mk K C f ∧ FnOk P w K mg base CX0 k f fd ps sp ∧ mg x = some (.ref C) ∧ Binds K fd ps []
section
variable {X : Cx} {k j : Nat} {C : Addr} {x : Str} {sp : Sp} {p pos : Pos} {e : Expr} {es : List Expr} {t : TA}
theorem pmk (c : Mkr X.prog X.w X.K X.mg X.base k x C sp) (hr : Room j X.A) (hk : k + 1 ≤ j) (hg : Gl X x) (ha : PA X (e :: es) t)
    (hdb : (x == ("__debug__" : Str)) = false := by decide)
    (he : starEach (e :: es) X.env = (false, eval e X.env) :: starEach es X.env := by rfl)
    (hpl : (backTo pos (starEach es X.env)).any (·.1) = false := by rfl) :
    PE X (.Call (.Name x p) (e :: es) [] pos) (tMake C sp [] E0 t) := by
  obtain ⟨f, fd, ps, M, F, hm, b⟩ := c.ex
  exact pe_make M F (hr.mono hk) hg hm b .nil pass0 ha hdb he hpl
theorem pmk0 (c : Mkr X.prog X.w X.K X.mg X.base k x C sp) (hr : Room j X.A) (hk : k + 1 ≤ j) (hg : Gl X x) (hdb : (x == ("__debug__" : Str)) = false := by decide) : PE X (.Call (.Name x p) [] [] pos) (tMake C sp [] E0 tNil) := by
  obtain ⟨f, fd, ps, M, F, hm, b⟩ := c.ex
  exact pe_make0 M F (hr.mono hk) hg hm b .nil pass0 hdb
end
theorem same_made {H : Hp} {x dx : Addr} (hx : H x = none) (hd : H dx = none) (o o' : HO) : Same H (upd (upd H dx o) x o') := fun b u e => by
  rw [upd_ne (ne_of_none e hx), upd_ne (ne_of_none e hd)]
  exact e
def spPlanted (CN : Addr) : Sp := fun vs H Q _ => ∃ (a : Addr) (l : List Nat) (N : List Ha03.Node), vs = [.ref a] ∧ H a = some (.lst (natV l)) ∧ Ha03.treeOf l = some N ∧
  ∀ H' nl as cls, PR CN N H H' nl N.length as cls → Q (.ref nl) H'
section
variable {P : Program} {w : World} {K : PySem.W.Frag} {mg : Str → Option Value} {base : Heap} {CT CN : Addr}
theorem scPlanted : FnScope ["numbers", "nodes", "row", "parent", "node"] ["numbers"] (defScope sPlanted) := ⟨rfl, rfl, rfl, by decide +kernel, rfl, by decide +kernel, by decide +kernel⟩
theorem newVs_eq {g : G} {N : List Ha03.Node} {i : Nat} {row : List Nat} {tm : Addr} (h : nd N i = Ha03.nodeOf row) (hp : plc N i = 0) {cl : Addr} (hc : g.cs i = cl) : nodeK.zip (newVs i (parV g N i) row cl tm) = nodeF g N i Ha03.noNow tm := by
  unfold nodeF nodeVs newVs
  rw [h, hp, hc]
  have e : decide (row.getD 1 0 = 1) = (Ha03.nodeOf row).isSup := by
    show decide (row.getD 1 0 = 1) = (row.getD 1 0 == 1)
    rw [Bool.eq_iff_iff]
    simp
  rw [e]
  rfl
theorem placed_eq {g : G} {N : List Ha03.Node} {i : Nat} {row : List Nat} {tm : Addr} (h : nd N i = Ha03.nodeOf row) {cl : Addr} (hc : g.cs i = cl) : putF "place" (.int (plc N i : Nat)) (nodeK.zip (newVs i (parV g N i) row cl tm)) = nodeF g N i Ha03.noNow tm := by
  rw [zip_put (i := 8) nodeK_nd rfl (by show 8 < 13; decide)]
  unfold nodeF nodeVs newVs
  rw [h, hc]
  have e : decide (row.getD 1 0 = 1) = (Ha03.nodeOf row).isSup := by
    show decide (row.getD 1 0 = 1) = (row.getD 1 0 == 1)
    rw [Bool.eq_iff_iff]
    simp
  rw [e]
  rfl
theorem ok_planted (T : Txt K mg CT CN) (M : FDef K mg "planted" sPlanted ["numbers"]) (RO : Fnc P w K mg base 1 "rows_of" spRows) (NI : Mkr P w K mg base 1 "Node" CN (spNodeInit CN)) : Fnc P w K mg base 3 "planted" (spPlanted CN) := by
  refine M.ok scPlanted (fun vs H Q E h => ?_) (fun f cdv A outer s H vs Q E hr h => ?_)
  · obtain ⟨a, l, N, rfl, _⟩ := h
    rfl
  obtain ⟨a, l, N, rfl, ha, htree, q⟩ := h
  have RW := rows_of htree
  have W := RW.wt
  generalize hm : l.length / 6 = m at RW
  refine ⟨_, pss_cons (ps_set (i := 1) scPlanted.nd rfl (.inl rfl) (pe_lst pa_nil))
    (pss_cons (ps_for PassesOwn.never rfl (pi_list (pf RO hr (by decide) rfl (pa_cons (pv 0) pa_nil))) (pg_name (i := 2) scPlanted.nd rfl (.inl rfl))
      (pss_one (ps_if (pt_cmpR op_eq (pe_ix ix_list (pv 2) pe_int (fun _ _ => rfl)) pe_int (nomark _))
        (pss_one (ps_expr (pe_bm PySem.F.plainAttrs_list PySem.F.slot_list_append PySem.F.type_list_append mt_append (pv 1) (pa_cons (pmk NI hr (by decide) rfl (pa_cons pe_int (pa_cons pe_non (pa_cons (pv 2) pa_nil)))) pa_nil))))
        (pss_cons (ps_set (i := 3) scPlanted.nd rfl (.inl rfl) (pe_ix ix_list (pv 1) (pe_op op_sub (pe_ix ix_list (pv 2) pe_int (fun _ _ => rfl)) pe_int) (fun _ _ => rfl)))
        (pss_cons (ps_set (i := 4) scPlanted.nd rfl (.inl rfl) (pmk NI hr (by decide) rfl (pa_cons (pe_op op_add (pe_callB call_len_seq (by rfl) (bt T 0 rfl) PySem.boot_len (pa_cons (pv 1) pa_nil)) pe_int) (pa_cons (pv 3) (pa_cons (pv 2) pa_nil)))))
        (pss_cons (ps_fld (pv 4) (pe_callB call_len_seq (by rfl) (bt T 0 rfl) PySem.boot_len (pa_cons (pe_fld (pv 3) rfl) pa_nil)) rfl)
        (pss_cons (ps_expr (pe_bm PySem.F.plainAttrs_list PySem.F.slot_list_append PySem.F.type_list_append mt_append (pe_fld (pv 3) rfl) (pa_cons (pv 4) pa_nil)))
        (pss_one (ps_expr (pe_bm PySem.F.plainAttrs_list PySem.F.slot_list_append PySem.F.type_list_append mt_append (pv 1) (pa_cons (pv 4) pa_nil))))))))))) 
    (pss_one (ps_ret (pv 1)))), ?_⟩
  refine ⟨Nat.zero_le _, fun nl hnl => ?_⟩
  -- rows_of(numbers)
  have m14 := RW.m14
  refine ⟨_, rfl, a, l, m, rfl, (by rw [upd_ne (ne_of_none ha hnl)]; exact ha), RW.len, by omega, fun H1 p rs S1 hp hp1 hrs frs => ?_⟩
  have S01 : Same H H1 := (same_new hnl _).trans S1
  have nl1 : H1 nl = some (.lst []) := S1 _ _ upd_same
  have p_nl : p ≠ nl := (ne_of_none (H := upd H nl (.lst [])) upd_same hp).symm
  have p0 : H p = none := (same_new hnl _).free hp
  have rlen : rs.length = m := by rw [hrs.1, RW.rlen]
  have hlen : (rs.map V.ref).length = m := by rw [List.length_map, rlen]
  refine ⟨p, rfl, ⟨_, SqL.of hp1⟩, ?_⟩
  -- what is old stays: the rows, the list of the rows, what was there
  refine for_list (K := K) (a := p) (xs := rs.map V.ref) (fun j σ H' => ∃ (v2 v3 v4 : Option V) (as cls : List Addr), σ = [some (.ref a), some (.ref nl), v2, v3, v4] ∧ PR CN N H H' nl j as cls ∧ (∀ b o, H1 b = some o → b ≠ nl → H' b = some o) ∧ (∀ c ∈ cls, H1 c = none))
    ⟨none, none, none, [], [], rfl, ⟨S01, hnl, nl1, rfl, rfl, (fun i h1 h2 => by omega), (fun i h1 h2 => by omega), (fun _ h => by cases h), (fun _ h => by cases h), List.nodup_nil, List.nodup_nil⟩, (fun b o e _ => e), (fun _ h => by cases h)⟩
    (fun j σ H' _ ⟨_, _, _, _, _, _, _, k, _⟩ => SqL.of (k _ _ hp1 p_nl)) ?_ ?_
  · rintro j y σ H' hy ⟨v2, v3, v4, as, cls, rfl, R, kp, ncl⟩
    have hj : j < m := by
      have := (List.getElem?_eq_some_iff.mp hy).1
      omega
    have hjN : j < N.length := by rw [RW.nlen]; exact hj
    obtain ⟨row, erow, lrow, endr, isn⟩ := RW.row j hj
    obtain ⟨r, er, hr1⟩ := hrs.2 j row erow
    have ey : y = V.ref r := by
      rw [List.getElem?_map, er] at hy
      exact (Option.some.inj hy).symm
    subst ey
    have r_nl : r ≠ nl := fun e => by
      rw [e, nl1] at hr1
      have := HO.lst.inj (Option.some.inj hr1)
      have l0 : (natV row).length = 6 := by
        unfold natV
        rw [List.length_map, lrow]
      rw [← this] at l0
      cases l0
    have hr' : H' r = some (.lst (natV row)) := kp _ _ hr1 r_nl
    have lrowN : (natV row).length = 6 := by
      unfold natV
      rw [List.length_map, lrow]
    have la := R.la
    have lc := R.lc
    refine ⟨_, rfl, r, _, 0, _, rfl, rfl, SqL.of hr', row_at lrow 0 (by decide), rfl, _, rfl, ?_⟩
    show if decide (V.int ((row.getD 0 0 : Nat) : Int) = V.int ((0 : Nat) : Int)) = true then _ else _
    rw [int_eq_nat]
    have parE : (nd N (j + 1)).parent = row.getD 0 0 := by
      rw [endr]
      rfl
    refine iteB (fun b => ?_) (fun b => ?_)
    · -- the root
      have b := of_decide_eq_true b
      have j0 : j = 0 := by
        rcases Nat.eq_zero_or_pos j with z | z
        · exact z
        · have := (W.par (j + 1) (by omega) (by omega)).1
          omega
      subst j0
      have as0 : as = [] := List.length_eq_zero_iff.mp la
      have cls0 : cls = [] := List.length_eq_zero_iff.mp lc
      subst as0 cls0
      refine ⟨_, rfl, .inl ⟨rfl, _, SqL.of R.lst⟩, _, rfl, ?_⟩
      intro x dx hx hdx ne
      have Sm := same_made hx hdx (.own x) (.ins CN dx [])
      refine ⟨x, dx, r, 1, .non, row, rfl, upd_same, Sm _ _ hr', lrow, fun H2 cl tm h2x h2c h2t c0 t0 ct k2 => ?_⟩
      refine ⟨rfl, nl, _, _, rfl, rfl, k2 _ _ (Sm _ _ R.lst) (ne_of_none R.lst hx), (by show 0 < sizeLine; decide), ?_⟩
      have nlx : nl ≠ x := ne_of_none R.lst hx
      have Sm2 : Same H' H2 := fun b o e => k2 _ _ (Sm _ _ e) (ne_of_none e hx)
      have c0' : H' cl = none := Sm.free c0
      have t0' : H' tm = none := Sm.free t0
      have pv0 : parV (gp CN nl [x] [cl]) N 1 = .non := par_none (by rw [parE]; exact b)
      have plc0 : plc N 1 = 0 := by
        rw [plc_soFar (j := 0) hjN]
        have : soFar N 0 (nd N (0 + 1)).parent = [] := by
          unfold soFar
          rw [List.filter_eq_nil_iff]
          intro y hy
          have := (mem_kids.mp hy).1
          simp
          omega
        rw [this]
        rfl
      have fe := newVs_eq (g := gp CN nl [x] [cl]) (tm := tm) endr plc0 (cl := cl) rfl
      rw [pv0] at fe
      refine ⟨_, _, _, [x], [cl], rfl, ?_, ?_, ?_⟩
      · refine R.step W hjN (x := x) (dx := dx) (cl := cl) (tm := tm) hx c0' t0' ct ?_ ?_ ?_ ?_ (fun i h1 h2 => by omega) (fun b o e n1 n2 => ?_)
        · rw [upd_ne (Ne.symm nlx), h2x]
          exact congrArg (fun z => some (HO.ins CN dx z)) fe
        · rw [upd_ne (ne_of_none R.lst c0').symm]
          exact h2c
        · rw [upd_ne (ne_of_none R.lst t0').symm]
          exact h2t
        · rw [upd_same]
          rfl
        · rw [upd_ne n1]
          exact Sm2 _ _ e
      · intro b o e n1
        rw [upd_ne n1]
        exact Sm2 _ _ (kp _ _ e n1)
      · intro c hc
        rw [List.mem_singleton.mp hc]
        cases z : H1 cl with
        | none => rfl
        | some o =>
          have n1 : cl ≠ nl := (ne_of_none R.lst c0').symm
          rw [kp _ _ z n1] at c0'
          cases c0'
    · -- another
      have b := of_decide_eq_false b
      have p1 : 1 ≤ row.getD 0 0 := by omega
      have j1 : 1 ≤ j := by
        rcases Nat.eq_zero_or_pos j with z | z
        · subst z
          have := W.root
          rw [show (1 : Nat) = 0 + 1 from rfl, parE] at this
          omega
        · exact z
      have plt : row.getD 0 0 < j + 1 := by
        rw [← parE]
        exact (W.par (j + 1) (by omega) (by omega)).2
      generalize hpp : row.getD 0 0 = pp at *
      -- parent = nodes[row[0] - 1]
      have hat : atI (as.map V.ref) ((pp : Nat) - 1 : Int) = some (.ref ((gp CN nl as cls).at pp)) := by
        rw [show ((pp : Nat) : Int) - 1 = ((pp - 1 : Nat) : Int) by omega]
        refine atI_nat ?_
        rw [List.getElem?_map]
        show (as[pp - 1]?).map V.ref = some (.ref (as.getD (pp - 1) 0))
        rw [List.getD_eq_getElem?_getD, List.getElem?_eq_getElem (by omega)]
        rfl
      have h0r : atI (natV row) 0 = some (.int (pp : Nat)) := by
        have := row_at lrow 0 (by decide)
        rw [hpp] at this
        exact this
      refine ⟨_, rfl, _, rfl, r, _, 0, _, rfl, rfl, SqL.of hr', h0r, _, _, rfl, rfl, nl, _, _, _, rfl, rfl, SqL.of R.lst, hat, ?_⟩
      -- node = Node(len(nodes) + 1, parent, row)
      refine ⟨_, rfl, nl, _, rfl, .inl (SqL.of R.lst), _, _, rfl, rfl, _, rfl, _, rfl, ?_⟩
      intro x dx hx hdx ne
      have Sm := same_made hx hdx (.own x) (.ins CN dx [])
      have numE : (((as.map V.ref).length : Nat) : Int) + 1 = ((j + 1 : Nat) : Int) := by
        rw [List.length_map, la]
        omega
      refine ⟨x, dx, r, j + 1, .ref ((gp CN nl as cls).at pp), row, (by show [V.ref x, V.int ((((as.map V.ref).length : Nat) : Int) + 1), V.ref ((gp CN nl as cls).at pp), V.ref r] = _; rw [numE]), upd_same, Sm _ _ hr', lrow, fun H2 cl tm h2x h2c h2t c0 t0 ct k2 => ?_⟩
      refine ⟨rfl, ?_⟩
      have Sm2 : Same H' H2 := fun b o e => k2 _ _ (Sm _ _ e) (ne_of_none e hx)
      have c0' : H' cl = none := Sm.free c0
      have t0' : H' tm = none := Sm.free t0
      have nlx : nl ≠ x := ne_of_none R.lst hx
      have pk := R.kids pp p1 (by omega)
      obtain ⟨dxp, tmp, hnp, _⟩ := R.node pp p1 (by omega)
      have csx : (gp CN nl as cls).cs pp ≠ x := ne_of_none pk hx
      have csm : (gp CN nl as cls).cs pp ∈ cls := cs_mem p1 (by omega)
      have cs_nl := (R.nc _ csm).2
      -- node.place = len(parent.children)
      refine ⟨_, rfl, (gp CN nl as cls).at pp, CN, dxp, _, _, rfl, Sm2 _ _ hnp, T.clN, tN T 7 rfl, nF_children, (gp CN nl as cls).cs pp, _, rfl, .inl (SqL.of (Sm2 _ _ pk)), _, rfl, x, CN, dx, _, rfl, h2x, T.clN, tN T 8 rfl, (by show min 13 13 < 1000; decide), ?_⟩
      have lk : ((((kidV (gp CN nl as cls) (soFar N j pp)).length : Nat) : Int)) = ((plc N (j + 1) : Nat) : Int) := by
        rw [plc_soFar hjN, parE]
        unfold kidV
        rw [List.length_map]
      have fe := placed_eq (g := gp CN nl (as ++ [x]) (cls ++ [cl])) (N := N) (i := j + 1) (row := row) (tm := tm) endr (cl := cl) (by
        show (cls ++ [cl]).getD (j + 1 - 1) 0 = cl
        rw [show j + 1 - 1 = cls.length by omega]
        exact getD_end)
      have pvE : parV (gp CN nl (as ++ [x]) (cls ++ [cl])) N (j + 1) = .ref ((gp CN nl as cls).at pp) := by
        rw [par_some (by rw [parE]; omega), parE, gp_at p1 (by omega)]
      rw [pvE] at fe
      rw [lk, fe]
      -- parent.children.append(node)
      have atx : (gp CN nl as cls).at pp ≠ x := ne_of_none hnp hx
      have hnp3 : upd H2 x (.ins CN dx (nodeF (gp CN nl (as ++ [x]) (cls ++ [cl])) N (j + 1) Ha03.noNow tm)) ((gp CN nl as cls).at pp) = some (.ins CN dxp (nodeF (gp CN nl as cls) N pp Ha03.noNow tmp)) := by
        rw [upd_ne atx]
        exact Sm2 _ _ hnp
      have pk3 : upd H2 x (.ins CN dx (nodeF (gp CN nl (as ++ [x]) (cls ++ [cl])) N (j + 1) Ha03.noNow tm)) ((gp CN nl as cls).cs pp) = some (.lst (kidV (gp CN nl as cls) (soFar N j pp))) := by
        rw [upd_ne csx]
        exact Sm2 _ _ pk
      refine ⟨_, rfl, (gp CN nl as cls).at pp, CN, dxp, _, _, rfl, hnp3, T.clN, tN T 7 rfl, nF_children, .inl ⟨rfl, _, SqL.of pk3⟩, _, rfl, (gp CN nl as cls).cs pp, _, _, rfl, rfl, pk3, ?_, ?_⟩
      · unfold kidV
        rw [List.length_map]
        have : (soFar N j pp).length ≤ 1000 := by
          rw [← parE, ← plc_soFar hjN]
          unfold plc
          have h1 := List.idxOf_lt_length_of_mem (l := kids N (nd N (j + 1)).parent) (a := j + 1) (mem_kids.mpr ⟨by omega, by omega, rfl⟩)
          have h2 : (kids N (nd N (j + 1)).parent).length ≤ N.length := by
            unfold kids
            refine Nat.le_trans (List.length_filter_le _ _) ?_
            rw [show _ = _ from List.length_map _, List.length_range]
            exact Nat.le_refl _
          have h3 := W.len14
          omega
        exact small1000 this
      -- nodes.append(node)
      have nl4 : ∀ o, upd (upd H2 x (.ins CN dx (nodeF (gp CN nl (as ++ [x]) (cls ++ [cl])) N (j + 1) Ha03.noNow tm))) ((gp CN nl as cls).cs pp) o nl = some (.lst (as.map V.ref)) := fun o => by
        rw [upd_ne (Ne.symm cs_nl), upd_ne nlx]
        exact Sm2 _ _ R.lst
      refine ⟨_, rfl, .inl ⟨rfl, _, SqL.of (nl4 _)⟩, _, rfl, nl, _, _, rfl, rfl, nl4 _, (by rw [List.length_map]; exact small1000 (by omega)), ?_⟩
      have cl_cs : cl ≠ (gp CN nl as cls).cs pp := (ne_of_none pk c0').symm
      have tm_cs : tm ≠ (gp CN nl as cls).cs pp := (ne_of_none pk t0').symm
      have cl_nl : cl ≠ nl := (ne_of_none R.lst c0').symm
      have tm_nl : tm ≠ nl := (ne_of_none R.lst t0').symm
      have cl_x : cl ≠ x := fun e => by
        rw [e, upd_same] at c0
        cases c0
      have tm_x : tm ≠ x := fun e => by
        rw [e, upd_same] at t0
        cases t0
      refine ⟨_, _, _, as ++ [x], cls ++ [cl], rfl, ?_, ?_, ?_⟩
      · refine R.step W hjN (x := x) (dx := dx) (cl := cl) (tm := tm) hx c0' t0' ct ?_ ?_ ?_ ?_ (fun i i1 i2 => ?_) (fun b o e n1 n2 => ?_)
        · rw [upd_ne (Ne.symm nlx), upd_ne (Ne.symm csx), upd_same]
        · rw [upd_ne cl_nl, upd_ne cl_cs, upd_ne cl_x]
          exact h2c
        · rw [upd_ne tm_nl, upd_ne tm_cs, upd_ne tm_x]
          exact h2t
        · rw [upd_same, List.map_append]
          rfl
        · have im : (gp CN nl as cls).cs i ∈ cls := cs_mem i1 (by omega)
          rw [upd_ne (R.nc _ im).2, soFar_succ hjN, parE]
          by_cases ip : pp = i
          · subst ip
            rw [upd_same, if_pos rfl]
            have ex : kidV (gp CN nl (as ++ [x]) (cls ++ [cl])) (soFar N j pp ++ [j + 1]) = kidV (gp CN nl as cls) (soFar N j pp) ++ [.ref x] := by
              have e1 := gp_kidV (CN := CN) (nl := nl) (x := x) (cl := cl) (as := as) (cls := cls) (l := soFar N j pp) fun k hk => by
                have := soFar_le hk
                omega
              have e2 : (gp CN nl (as ++ [x]) (cls ++ [cl])).at (j + 1) = x := by
                show (as ++ [x]).getD (j + 1 - 1) 0 = x
                rw [show j + 1 - 1 = as.length by omega]
                exact getD_end
              rw [← e1]
              unfold kidV
              rw [List.map_append, List.map_singleton, e2]
            rw [ex]
          · rw [upd_ne (fun e => ip (cs_inj R.ndc (by omega) (by omega) i1 (by omega) e.symm)), upd_ne (ne_of_none (R.kids i i1 i2) hx), if_neg ip, List.append_nil, gp_kidV fun k hk => by
              have := soFar_le hk
              omega]
            exact Sm2 _ _ (R.kids i i1 i2)
        · have n3 : b ≠ (gp CN nl as cls).cs pp := fun e => n2 (by rw [e]; exact csm)
          rw [upd_ne n1, upd_ne n3, upd_ne (ne_of_none e hx)]
          exact Sm2 _ _ e
      · intro b o e n1
        have e' := kp _ _ e n1
        have n3 : b ≠ (gp CN nl as cls).cs pp := fun z => by
          rw [z, ncl _ csm] at e
          cases e
        rw [upd_ne n1, upd_ne n3, upd_ne (ne_of_none e' hx)]
        exact Sm2 _ _ e'
      · intro c hc
        rcases List.mem_append.mp hc with z | z
        · exact ncl c z
        · rw [show _ = _ from List.mem_singleton.mp z]
          cases z : H1 cl with
          | none => rfl
          | some o =>
            rw [kp _ _ z cl_nl] at c0'
            cases c0'
  · rintro σ H' ⟨v2, v3, v4, as, cls, rfl, R, kp, ncl⟩
    rw [hlen, ← RW.nlen] at R
    exact ⟨_, rfl, q H' nl as cls R⟩
/-! plant -/
theorem fresh_now (N : List Ha03.Node) (i : Nat) : Ha03.now (Ha03.fresh N) i = Ha03.noNow := by
  unfold Ha03.now Ha03.fresh
  rw [List.getD_eq_getElem?_getD, List.getElem?_map]
  cases N[i - 1]? <;> rfl
theorem plant_fs (v0 v1 v2 v3 : V) : putF "happened" v3 (putF "runs" v2 (putF "now" v1 (putF "nodes" v0 []))) = treeK.zip [v0, v1, v2, v3] := by rfl
theorem plant_fs4 (v0 v1 v2 v3 u0 u1 u2 u3 : V) : putF "happened" v3 (putF "runs" v2 (putF "now" v1 (putF "nodes" v0 (treeK.zip [u0, u1, u2, u3])))) = treeK.zip [v0, v1, v2, v3] := by rfl
def spPlant (CT CN : Addr) : Sp := fun vs H Q _ => ∃ (t dt a : Addr) (fs : List (Str × V)) (l : List Nat) (N : List Ha03.Node) (av : Option Addr), (∀ v, av = some v → ∃ xs, H v = some (.lst xs)) ∧ vs = [.ref t, .ref a] ∧ H t = some (.ins CT dt fs) ∧ (fs = [] ∨ ∃ u0 u1 u2 u3, fs = treeK.zip [u0, u1, u2, u3]) ∧ H a = some (.lst (natV l)) ∧ Ha03.treeOf l = some N ∧
  ∀ (g : G) (H' : Hp), g.CT = CT → g.CN = CN → g.t = t → g.av = av → Rep g H' (Ha03.fresh N) → (∀ b o, H b = some o → b ≠ t → H' b = some o) → (∀ b, foot g b → b = t ∨ H b = none) → Q .non H'
theorem scPlant : FnScope ["self", "numbers"] ["self", "numbers"] (defScope sPlant) := ⟨rfl, rfl, rfl, by decide +kernel, rfl, by decide +kernel, by decide +kernel⟩
theorem putF_len {f : Str} {v : V} {fs : List (Str × V)} {n : Nat} (h : fs.length ≤ n) : (putF f v fs).length ≤ n + 1 := Nat.le_trans (length_putF f v fs) (by omega)
theorem ok_plant (T : Txt K mg CT CN) (M : MDef K CT "plant" "Tree.plant" sPlant ["self", "numbers"]) (PL : Fnc P w K mg base 3 "planted" (spPlanted CN)) : Mth P w K mg base 4 CT "plant" (spPlant CT CN) := by
  refine M.ok scPlant (fun vs H Q E h => ?_) (fun f cdv A outer s H vs Q E hr h => ?_)
  · obtain ⟨t, dt, a, fs, l, N, av, _, rfl, _⟩ := h
    rfl
  obtain ⟨t, dt, a, fs, l, N, av, hav, rfl, ht, hfs, ha, htree, q⟩ := h
  refine ⟨_, pss_cons (ps_fld (pv 0) (pf PL hr (by decide) rfl (pa_cons (pv 1) pa_nil)) rfl) (pss_cons (ps_fld (pv 0) pe_int rfl) (pss_cons (ps_fld (pv 0) pe_int rfl) (pss_one (ps_fld (pv 0) (pe_lst pa_nil) rfl)))), ?_⟩
  have W := (rows_of htree).wt
  have fl : fs.length ≤ 4 := by
    rcases hfs with rfl | ⟨u0, u1, u2, u3, rfl⟩
    · exact Nat.zero_le _
    · exact Nat.le_refl 4
  refine ⟨_, rfl, a, l, N, rfl, ha, htree, fun H1 nl as cls R => ?_⟩
  have ht1 := R.same _ _ ht
  refine ⟨_, rfl, t, CT, dt, fs, rfl, ht1, T.clT, tT T 0 rfl, (by omega), ?_⟩
  refine ⟨_, rfl, t, CT, dt, _, rfl, upd_same, T.clT, tT T 1 rfl, Nat.lt_of_le_of_lt (putF_len fl) (by decide), ?_⟩
  rw [upd_upd]
  refine ⟨_, rfl, t, CT, dt, _, rfl, upd_same, T.clT, tT T 2 rfl, Nat.lt_of_le_of_lt (putF_len (putF_len fl)) (by decide), ?_⟩
  rw [upd_upd]
  refine ⟨Nat.zero_le _, fun hl hhl => ?_⟩
  have thl : t ≠ hl := fun e => by
    rw [← e, upd_same] at hhl
    cases hhl
  have hl1 : H1 hl = none := by
    rw [upd_ne (Ne.symm thl)] at hhl
    exact hhl
  refine ⟨_, rfl, t, CT, dt, _, rfl, Eq.trans (upd_ne thl) upd_same, T.clT, tT T 3 rfl, Nat.lt_of_le_of_lt (putF_len (putF_len (putF_len fl))) (by decide), ?_⟩
  have fe : putF "happened" (.ref hl) (putF "runs" (.int 0) (putF "now" (.int 0) (putF "nodes" (.ref nl) fs))) = treeK.zip [.ref nl, .int 0, .int 0, .ref hl] := by
    rcases hfs with rfl | ⟨u0, u1, u2, u3, rfl⟩
    · exact plant_fs _ _ _ _
    · exact plant_fs4 _ _ _ _ _ _ _ _
  rw [fe]
  have Rlen : as.length = N.length := R.la
  -- all but the tree stands as planted left it
  have keep : ∀ b o, H1 b = some o → b ≠ t → upd (upd (upd H1 t (.ins CT dt (putF "runs" (.int 0) (putF "now" (.int 0) (putF "nodes" (.ref nl) fs))))) hl (.lst [])) t (.ins CT dt (treeK.zip [.ref nl, .int 0, .int 0, .ref hl])) b = some o := fun b o e n => by
    rw [upd_ne n, upd_ne (ne_of_none e hl1), upd_ne n]
    exact e
  have nt : ∀ a ∈ as, a ≠ t := fun a ha e => by
    have := R.na a ha
    rw [e, ht] at this
    cases this
  have am : ∀ i, 1 ≤ i → i ≤ N.length → (gp CN nl as cls).at i ∈ as := fun i h1 h2 => by
    show as.getD (i - 1) 0 ∈ as
    rw [List.getD_eq_getElem?_getD, List.getElem?_eq_getElem (by omega)]
    exact List.getElem_mem _
  have nl_t : nl ≠ t := ne_of R.lst ht1 ins_lst
  have sv : ∀ {b : Addr}, H b = none → ∀ v, av = some v → b ≠ v := fun hb v e => by
    obtain ⟨xs, hx⟩ := hav v e
    exact (ne_of_none hx hb).symm
  refine q ⟨CT, CN, t, dt, nl, hl, as, fun i => cls.getD (i - 1) 0, av⟩ _ rfl rfl rfl rfl ⟨?_, ?_, Rlen, ?_, ?_, ?_, ?_, ?_, ?_, ?_⟩ ?_ ?_
  · rw [upd_same]
    rfl
  · exact keep _ _ R.lst nl_t
  · intro i h1 h2
    obtain ⟨dx, tm, q1, q2, q3, q4, q5⟩ := R.node i h1 h2
    refine ⟨dx, tm, ?_, ?_, ⟨ne_of_none q2 hl1, sv q3⟩⟩
    · rw [fresh_now]
      exact keep _ _ q1 (nt _ (am i h1 h2))
    · rw [fresh_now]
      exact keep _ _ q2 (ne_of q2 ht1 ins_lst)
  · intro i h1 h2
    have k := R.kids i h1 h2
    rw [soFar_all] at k
    have cm : (gp CN nl as cls).cs i ∈ cls := cs_mem h1 (by rw [R.lc]; exact h2)
    exact ⟨keep _ _ k (ne_of k ht1 ins_lst), ne_of_none k hl1, sv (R.nc _ cm).1⟩
  · exact ⟨[], by rw [upd_ne (Ne.symm thl), upd_same]; rfl, rfl, fun k e h => by cases h⟩
  · exact ⟨ne_of_none R.lst hl1, sv R.nl0⟩
  · intro v e
    obtain ⟨xs, hx⟩ := hav v e
    have hx1 := R.same _ _ hx
    exact ⟨ne_of_none hx1 hl1, xs, keep _ _ hx1 (ne_of hx1 ht1 ins_lst)⟩
  · intro i j h1 h2 j1 j2 e
    have e : as.getD (i - 1) 0 = as.getD (j - 1) 0 := e
    have h2 : i ≤ N.length := h2
    have j2 : j ≤ N.length := j2
    rw [List.getD_eq_getElem?_getD, List.getD_eq_getElem?_getD, List.getElem?_eq_getElem (by omega), List.getElem?_eq_getElem (by omega)] at e
    have := (List.getElem_inj (h₀ := by omega) (h₁ := by omega) R.nda).mp e
    omega
  · intro i h1 h2
    exact nt _ (am i h1 h2)
  · intro b o e n
    exact keep _ _ (R.same _ _ e) n
  · rintro b (e | e | e)
    · exact .inl e
    · exact .inr (by rw [e]; exact R.same.free hl1)
    · exact .inr (R.na b e)
/-! Tree.__init__ -/
def firstL : List Nat := [0, 1, 0, 0, 2, 10, 1, 0, 0, 0, 0, 0, 1, 0, 0, 0, 0, 0]
def firstN : List Ha03.Node := [⟨0, true, 0, 0, 2, 10⟩, ⟨1, false, 0, 0, 0, 0⟩, ⟨1, false, 0, 0, 0, 0⟩]
theorem first_tree : Ha03.treeOf firstL = some firstN := by decide +kernel
def spTreeInit (CT CN : Addr) : Sp := fun vs H Q _ => ∃ (t dt : Addr), vs = [.ref t] ∧ H t = some (.ins CT dt []) ∧
  ∀ (g : G) (H' : Hp), g.CT = CT → g.CN = CN → g.t = t → g.av = none → Rep g H' Ha03.init → (∀ b o, H b = some o → b ≠ t → H' b = some o) → (∀ b, foot g b → b = t ∨ H b = none) → Q .non H'
theorem scTreeInit : FnScope ["self"] ["self"] (defScope sTreeInit) := ⟨rfl, rfl, rfl, by decide +kernel, rfl, by decide +kernel, by decide +kernel⟩
theorem ok_treeInit (T : Txt K mg CT CN) {b : Addr} (gF : mg "FIRST_TREE" = some (.ref b)) (sF : ∀ H, SqT K H b (natV firstL)) {f : Addr} {fd : FuncData} (F : Fun K "__init__" "Tree.__init__" sTreeInit f fd) (PT : Mth P w K mg base 4 CT "plant" (spPlant CT CN)) : FnOk P w K mg base CX0 5 f fd ["self"] (spTreeInit CT CN) := by
  refine F.ok scTreeInit (fun vs H Q E h => ?_) (fun cdv A outer s H vs Q E hr h => ?_)
  · obtain ⟨t, dt, rfl, _⟩ := h
    rfl
  obtain ⟨t, dt, rfl, ht, q⟩ := h
  refine ⟨_, pss_one (ps_expr (pm PT hr (Nat.le_refl _) (pv 0) (pa_cons (pe_callTy call_list_of rfl (bt T 2 rfl) (by decide +kernel) (pa_cons (pe_glob (v := .ref b) rfl gF rfl) pa_nil)) pa_nil))), ?_⟩
  refine ⟨_, rfl, t, dt, _, rfl, ht, rfl, b, _, rfl, .inr (sF H), fun a ha => ?_⟩
  have ta : t ≠ a := ne_of_none ht ha
  refine ⟨t, dt, a, [], firstL, firstN, none, (fun v e => by cases e), rfl, (by rw [upd_ne ta]; exact ht), .inl rfl, upd_same, first_tree, fun g H' g1 g2 g3 g4 R k fo => ?_⟩
  refine q g H' g1 g2 g3 g4 R (fun b o e n => k b o (same_new ha _ b o e) n) fun b hb => ?_
  rcases fo b hb with z | z
  · exact .inl z
  · exact .inr ((same_new ha _).free z)
end
end LA
set_option maxRecDepth 100000
set_option maxHeartbeats 5000000
namespace LA
open PySem PySem.Spec PyProof.Rows L2 RT RZ
/-! # is_within, is_parent, is_tree, has_node -/
abbrev sIsTree : Stmt := top 33
abbrev sIsWithin : Stmt := top 34
abbrev sIsParent : Stmt := top 35
abbrev sHasNode : Stmt := top 36
def mostL : List Nat := [1, 2, 2, 5, 1000]
def inB (row : List Nat) : Bool := decide (row.getD 1 0 ≤ 1) && (decide (row.getD 2 0 ≤ 2) && (decide (row.getD 3 0 ≤ 2) && (decide (row.getD 4 0 ≤ 5) && decide (row.getD 5 0 ≤ 1000))))
theorem inB_all {row : List Nat} (h : ∀ k, k < 5 → row.getD (k + 1) 0 ≤ mostL.getD k 0) : inB row = true := by
  have a : row.getD 1 0 ≤ 1 := h 0 (by decide)
  have b : row.getD 2 0 ≤ 2 := h 1 (by decide)
  have c : row.getD 3 0 ≤ 2 := h 2 (by decide)
  have d : row.getD 4 0 ≤ 5 := h 3 (by decide)
  have e : row.getD 5 0 ≤ 1000 := h 4 (by decide)
  unfold inB
  rw [decide_eq_true a, decide_eq_true b, decide_eq_true c, decide_eq_true d, decide_eq_true e]
  rfl
theorem inB_not {row : List Nat} {k : Nat} (hk : k < 5) (h : ¬ row.getD (k + 1) 0 ≤ mostL.getD k 0) : inB row = false := by
  rw [Bool.eq_false_iff]
  intro q
  unfold inB at q
  rw [Bool.and_eq_true, Bool.and_eq_true, Bool.and_eq_true, Bool.and_eq_true] at q
  obtain ⟨a, b, c, d, e⟩ := q
  have a := of_decide_eq_true a
  have b := of_decide_eq_true b
  have c := of_decide_eq_true c
  have d := of_decide_eq_true d
  have e := of_decide_eq_true e
  match k, hk with
  | 0, _ => exact h a
  | 1, _ => exact h b
  | 2, _ => exact h c
  | 3, _ => exact h d
  | 4, _ => exact h e
def parB (rows : List (List Nat)) (p : Nat) : Bool := decide (1 ≤ p) && (decide (p ≤ rows.length) && decide ((rows.getD (p - 1) []).getD 1 0 = 1))
def spIsWithin : Sp := fun vs H Q _ => ∃ (r : Addr) (row : List Nat), vs = [.ref r] ∧ H r = some (.lst (natV row)) ∧ row.length = 6 ∧ ∀ H', Same H H' → Q (.bl (inB row)) H'
def spIsParent : Sp := fun vs H Q _ => ∃ (a : Addr) (rs : List Addr) (rows : List (List Nat)) (p : Nat), vs = [.ref a, .int (p : Nat)] ∧ H a = some (.lst (rs.map V.ref)) ∧ RowsAt H rs rows ∧ (∀ row ∈ rows, row.length = 6) ∧ Q (.bl (parB rows p)) H
def spIsTree : Sp := fun vs H Q _ => ∃ (a : Addr) (l : List Nat), vs = [.ref a] ∧ H a = some (.lst (natV l)) ∧ l.length ≤ 96 ∧ ∀ H', Same H H' → Q (.bl (Ha03.treeOf l).isSome) H'
section
variable {P : Program} {w : World} {K : PySem.W.Frag} {mg : Str → Option Value} {base : Heap} {CT CN : Addr}
theorem scIsWithin : FnScope ["row", "told", "most"] ["row"] (defScope sIsWithin) := ⟨rfl, rfl, rfl, by decide +kernel, rfl, by decide +kernel, by decide +kernel⟩
theorem natV_get {l : List Nat} {i : Nat} {y : V} (h : (natV l)[i]? = some y) : i < l.length ∧ y = V.int (l.getD i 0 : Nat) := by
  unfold natV at h
  rw [List.getElem?_map] at h
  cases e : l[i]? with
  | none =>
    rw [e] at h
    cases h
  | some n =>
    rw [e] at h
    refine ⟨(List.getElem?_eq_some_iff.mp e).1, ?_⟩
    rw [show l.getD i 0 = l[i]?.getD 0 from List.getD_eq_getElem?_getD, e]
    exact (Option.some.inj h).symm
theorem ok_isWithin (T : Txt K mg CT CN) {b : Addr} (gF : mg "MOST_TOLD" = some (.ref b)) (sF : ∀ H, SqT K H b (natV mostL)) (M : FDef K mg "is_within" sIsWithin ["row"]) : Fnc P w K mg base 1 "is_within" spIsWithin := by
  refine M.ok scIsWithin (fun vs H Q E h => ?_) (fun f cdv A outer s H vs Q E hr h => ?_)
  · obtain ⟨r, row, rfl, _⟩ := h
    rfl
  obtain ⟨r, row, rfl, hr1, lrow, q⟩ := h
  refine ⟨_, pss_cons (ps_for PassesOwn.never rfl (pi_zipM rfl (bt T 5 rfl) (pa_cons (pe_slice sl_list (pv 0) (po_some pe_int) po_none) (pa_cons (pe_glob (v := .ref b) rfl gF rfl) pa_nil)))
      (pg_tup rfl (pgs_cons (pg_name (i := 1) scIsWithin.nd rfl (.inl rfl)) (pgs_cons (pg_name (i := 2) scIsWithin.nd rfl (.inl rfl)) pgs_nil)))
      (pss_one (ps_if (pt_cmpR op_gt (pv 1) (pv 2) (nomark _)) (pss_one (ps_ret pe_bl)) pss_nil))) (pss_one (ps_ret pe_bl)), ?_⟩
  refine ⟨_, rfl, _, rfl, r, _, rfl, SqL.of hr1, fun c hc => ?_⟩
  have ec : cutV (natV row) (some 1) none = natV (row.drop 1) := by
    have := cut_from (natV row) 1
    unfold natV at this ⊢
    rw [List.map_drop]
    exact this
  have ld : (row.drop 1).length = 5 := by
    rw [List.length_drop, lrow]
  have xl : (natV (row.drop 1)).length = 5 := by
    unfold natV
    rw [List.length_map, ld]
  refine ⟨c, b, natV (row.drop 1), natV mostL, rfl, SqL.of (by rw [upd_same, ec]), sF _, ?_⟩
  refine for_zipM (K := K) (a := c) (b := b) (xs := natV (row.drop 1)) (ys := natV mostL) (by rw [xl]; rfl) (fun i σ H' => ∃ v1 v2 : Option V, σ = [some (.ref r), v1, v2] ∧ Same H H' ∧ H' c = some (.lst (natV (row.drop 1))) ∧ ∀ k, k < i → row.getD (k + 1) 0 ≤ mostL.getD k 0)
    ⟨none, none, rfl, same_new hc _, (by rw [upd_same, ec]), (fun k hk => by omega)⟩ (fun i σ H' ⟨_, _, _, _, e, _⟩ => ⟨SqL.of e, sF _⟩) ?_ ?_
  · rintro i x y Tn σ H' hx hy hT ⟨v1, v2, rfl, S1, hc1, hall⟩
    obtain ⟨i5, rfl⟩ := natV_get hx
    obtain ⟨_, rfl⟩ := natV_get hy
    rw [ld] at i5
    have er : (row.drop 1).getD i 0 = row.getD (i + 1) 0 := by
      rw [List.getD_eq_getElem?_getD, List.getD_eq_getElem?_getD, List.getElem?_drop, Nat.add_comm 1 i]
    rw [er]
    have S2 : Same H (upd H' Tn (.tup [.int (row.getD (i + 1) 0 : Nat), .int (mostL.getD i 0 : Nat)])) := S1.trans (same_new hT _)
    refine ⟨Tn, _, rfl, SqT.of upd_same, rfl, _, _, rfl, _, _, rfl, rfl, ?_⟩
    refine ⟨_, rfl, _, rfl, _, _, rfl, rfl, _, rfl, ?_⟩
    refine iteB (fun b => ?_) (fun b => ?_)
    · have b := of_decide_eq_true b
      have qq := q _ S2
      rw [inB_not i5 (by omega)] at qq
      exact qq
    · have b := of_decide_eq_false b
      refine ⟨_, _, rfl, S2, ?_, fun k hk => ?_⟩
      · rw [upd_ne (ne_of_none hc1 hT)]
        exact hc1
      · by_cases ki : k < i
        · exact hall k ki
        · have e : k = i := by omega
          subst e
          omega
  · rintro σ H' ⟨v1, v2, rfl, S1, hc1, hall⟩
    rw [xl] at hall
    have qq := q H' S1
    rw [inB_all hall] at qq
    exact qq
theorem scIsParent : FnScope ["rows_before", "parent"] ["rows_before", "parent"] (defScope sIsParent) := ⟨rfl, rfl, rfl, by decide +kernel, rfl, by decide +kernel, by decide +kernel⟩
theorem RowsAt.at {H : Hp} {rs : List Addr} {rows : List (List Nat)} (R : RowsAt H rs rows) {j : Nat} (hj : j < rows.length) : ∃ r : Addr, (rs.map V.ref)[j]? = some (.ref r) ∧ H r = some (.lst (natV (rows.getD j []))) := by
  obtain ⟨r, e, h⟩ := R.2 j (rows.getD j []) (by rw [List.getD_eq_getElem?_getD, List.getElem?_eq_getElem hj]; rfl)
  exact ⟨r, by rw [List.getElem?_map, e]; rfl, h⟩
theorem ok_isParent (T : Txt K mg CT CN) (M : FDef K mg "is_parent" sIsParent ["rows_before", "parent"]) : Fnc P w K mg base 1 "is_parent" spIsParent := by
  refine M.ok scIsParent (fun vs H Q E h => ?_) (fun f cdv A outer s H vs Q E hr h => ?_)
  · obtain ⟨a, rs, rows, p, rfl, _⟩ := h
    rfl
  obtain ⟨a, rs, rows, p, rfl, ha, hrs, h6, q⟩ := h
  refine ⟨_, pss_one (ps_ret (pe_and (pe_cmpR op_ge (pv 1) pe_int (nomark _)) (pe_and (pe_cmpR op_le (pv 1) (pe_callB call_len_seq (by rfl) (bt T 0 rfl) PySem.boot_len (pa_cons (pv 0) pa_nil)) (nomark _))
    (pe_one (pe_cmpR op_eq (pe_ix ix_list (pe_ix ix_list (pv 0) (pe_op op_sub (pv 1) pe_int) (fun _ _ => rfl)) pe_int (fun _ _ => rfl)) pe_int (nomark _)))))), ?_⟩
  refine ⟨_, rfl, _, _, rfl, rfl, _, rfl, ?_⟩
  refine iteB (fun b => ?_) (fun b => ?_)
  · have p1 : 1 ≤ p := by
      have := of_decide_eq_true b
      omega
    refine ⟨_, rfl, _, rfl, a, _, rfl, .inl (SqL.of ha), _, _, rfl, rfl, _, rfl, ?_⟩
    have hlen : (rs.map V.ref).length = rows.length := by rw [List.length_map, hrs.1]
    refine iteB (fun b => ?_) (fun b => ?_)
    · have b := of_decide_eq_true b
      rw [hlen] at b
      have p2 : p ≤ rows.length := by omega
      obtain ⟨r, e, hr1⟩ := hrs.at (j := p - 1) (by omega)
      have l6 : (rows.getD (p - 1) []).length = 6 := by
        rw [List.getD_eq_getElem?_getD, List.getElem?_eq_getElem (by omega)]
        exact h6 _ (List.getElem_mem _)
      refine ⟨_, rfl, _, rfl, _, _, rfl, rfl, a, _, _, _, rfl, rfl, SqL.of ha, (by rw [show ((p : Nat) : Int) - 1 = ((p - 1 : Nat) : Int) by omega]; exact atI_nat e), r, _, 1, _, rfl, rfl, SqL.of hr1, row_at l6 1 (by decide), rfl, ?_⟩
      have qq := q
      unfold parB at qq
      rw [decide_eq_true p1, decide_eq_true p2, Bool.true_and, Bool.true_and] at qq
      have de : decide (V.int (((rows.getD (p - 1) []).getD 1 0 : Nat) : Int) = V.int 1) = decide ((rows.getD (p - 1) []).getD 1 0 = 1) := int_eq_nat (b := 1)
      rw [de]
      exact qq
    · have b := of_decide_eq_false b
      rw [hlen] at b
      have qq := q
      unfold parB at qq
      rw [decide_eq_false (show ¬ p ≤ rows.length by omega), Bool.false_and, Bool.and_false] at qq
      exact qq
  · have b := of_decide_eq_false b
    have qq := q
    unfold parB at qq
    rw [decide_eq_false (show ¬ 1 ≤ p by omega), Bool.false_and] at qq
    exact qq
/-! is_tree -/
def nsOf (l : List Nat) : List Ha03.Node := (Ha03.sixes l).map Ha03.nodeOf
theorem treeOf_yes {l : List Nat} {m : Nat} (hl : l.length = 6 * m) (h1 : 1 ≤ m) (h14 : m ≤ 14) (h : ∀ j, j < m → Ha03.isNode (nsOf l) (j + 1) ((Ha03.sixes l).getD j []) = true) : (Ha03.treeOf l).isSome = true := by
  have SG := sixes_get m l hl
  unfold Ha03.treeOf
  rw [if_neg (by
    rintro (z | z | z)
    · omega
    · rw [z] at hl
      simp only [List.length_nil] at hl
      omega
    · omega)]
  dsimp only
  rw [if_pos]
  · rfl
  · rw [List.all_eq_true]
    intro j hj
    rw [List.mem_range, List.length_map, SG.1] at hj
    exact h j hj
theorem treeOf_no {l : List Nat} {m j : Nat} (hl : l.length = 6 * m) (hj : j < m) (h : Ha03.isNode (nsOf l) (j + 1) ((Ha03.sixes l).getD j []) = false) : (Ha03.treeOf l).isSome = false := by
  have SG := sixes_get m l hl
  unfold Ha03.treeOf
  split
  · rfl
  · dsimp only
    rw [if_neg]
    · rfl
    · intro a
      rw [List.all_eq_true] at a
      have := a j (List.mem_range.mpr (by rw [List.length_map, SG.1]; exact hj))
      have h' : Ha03.isNode ((Ha03.sixes l).map Ha03.nodeOf) (j + 1) ((Ha03.sixes l).getD j []) = false := h
      rw [h'] at this
      cases this
theorem isNode_first (N : List Ha03.Node) {row : List Nat} (h6 : row.length = 6) : Ha03.isNode N 1 row = (inB row && (decide (row.getD 0 0 = 0) && decide (row.getD 1 0 = 1))) := by
  unfold Ha03.isNode inB
  rw [if_pos rfl, getD0 h6]
  congr 1
theorem isNode_later (rows : List (List Nat)) {j : Nat} (hj : 1 ≤ j) (hjm : j < rows.length) {row : List Nat} : Ha03.isNode (rows.map Ha03.nodeOf) (j + 1) row = (inB row && parB (rows.take j) (row.getD 0 0)) := by
  unfold Ha03.isNode inB parB
  rw [if_neg (by omega)]
  congr 1
  generalize row.getD 0 0 = pp
  by_cases p1 : 1 ≤ pp
  · rw [decide_eq_true p1, Bool.true_and, Bool.true_and]
    have lt : (rows.take j).length = j := by
      rw [List.length_take]
      omega
    rw [lt]
    by_cases p2 : pp ≤ j
    · rw [decide_eq_true p2, decide_eq_true (show pp < j + 1 by omega), Bool.true_and, Bool.true_and]
      have e1 : (rows.map Ha03.nodeOf).getD (pp - 1) Ha03.noNode = Ha03.nodeOf (rows.getD (pp - 1) []) := by
        rw [List.getD_eq_getElem?_getD, List.getElem?_map, List.getD_eq_getElem?_getD, List.getElem?_eq_getElem (by omega)]
        rfl
      have e2 : (rows.take j).getD (pp - 1) [] = rows.getD (pp - 1) [] := by
        rw [List.getD_eq_getElem?_getD, List.getD_eq_getElem?_getD, List.getElem?_take, if_pos (by omega)]
      rw [e1, e2]
      show ((rows.getD (pp - 1) []).getD 1 0 == 1) = _
      rw [Bool.eq_iff_iff]
      simp
    · rw [decide_eq_false p2, decide_eq_false (show ¬ pp < j + 1 by omega), Bool.false_and, Bool.false_and]
  · rw [decide_eq_false p1, Bool.false_and, Bool.false_and]
theorem scIsTree : FnScope ["numbers", "rows", "place", "row"] ["numbers"] (defScope sIsTree) := ⟨rfl, rfl, rfl, by decide +kernel, rfl, by decide +kernel, by decide +kernel⟩
theorem cut_to (xs : List V) (k : Nat) (h : k ≤ xs.length) : cutV xs none (some (k : Int)) = xs.take k := by
  unfold cutV
  rw [sIx_nat, Nat.min_eq_left h]
  show (xs.drop 0).take (k - 0) = _
  rw [List.drop_zero, Nat.sub_zero]
theorem RowsAt.take {H : Hp} {rs : List Addr} {rows : List (List Nat)} (R : RowsAt H rs rows) (j : Nat) : RowsAt H (rs.take j) (rows.take j) := by
  refine ⟨by rw [List.length_take, List.length_take, R.1], fun k row e => ?_⟩
  rw [List.getElem?_take] at e ⊢
  split at e
  · rename_i h
    rw [if_pos h]
    exact R.2 k row e
  · cases e
theorem RowsAt.same {H H' : Hp} {rs : List Addr} {rows : List (List Nat)} (R : RowsAt H rs rows) (e : Same H H') : RowsAt H' rs rows := ⟨R.1, fun k row h => by
  obtain ⟨r, a, b⟩ := R.2 k row h
  exact ⟨r, a, e _ _ b⟩⟩
theorem ok_isTree (T : Txt K mg CT CN) (M : FDef K mg "is_tree" sIsTree ["numbers"]) (RO : Fnc P w K mg base 1 "rows_of" spRows) (IW : Fnc P w K mg base 1 "is_within" spIsWithin) (IP : Fnc P w K mg base 1 "is_parent" spIsParent) : Fnc P w K mg base 2 "is_tree" spIsTree := by
  refine M.ok scIsTree (fun vs H Q E h => ?_) (fun f cdv A outer s H vs Q E hr h => ?_)
  · obtain ⟨a, l, rfl, _⟩ := h
    rfl
  obtain ⟨a, l, rfl, ha, l96, q⟩ := h
  refine ⟨_, pss_cons (ps_if (pt_cmpR op_ne (pe_op op_mod (pe_callB call_len_seq (by rfl) (bt T 0 rfl) PySem.boot_len (pa_cons (pv 0) pa_nil)) (pg (gc T 21 rfl))) pe_int (nomark _)) (pss_one (ps_ret pe_bl)) pss_nil)
    (pss_cons (ps_set (i := 1) scIsTree.nd rfl (.inl rfl) (pf RO hr (by decide) rfl (pa_cons (pv 0) pa_nil)))
    (pss_cons (ps_if (PW.pt (pw_or (pt_cmpR op_lt (pe_callB call_len_seq (by rfl) (bt T 0 rfl) PySem.boot_len (pa_cons (pv 1) pa_nil)) pe_int (nomark _)) (pw_or1 (pt_cmpR op_gt (pe_callB call_len_seq (by rfl) (bt T 0 rfl) PySem.boot_len (pa_cons (pv 1) pa_nil)) (pg (gc T 22 rfl)) (nomark _))))) (pss_one (ps_ret pe_bl)) pss_nil)
    (pss_cons (ps_if (PW.pt (pw_or (pt_cmpR op_ne (pe_ix ix_list (pe_ix ix_list (pv 1) pe_int (fun _ _ => rfl)) pe_int (fun _ _ => rfl)) pe_int (nomark _)) (pw_or1 (pt_cmpR op_ne (pe_ix ix_list (pe_ix ix_list (pv 1) pe_int (fun _ _ => rfl)) pe_int (fun _ _ => rfl)) pe_int (nomark _))))) (pss_one (ps_ret pe_bl)) pss_nil)
    (pss_cons (ps_for PassesOwn.never rfl (pi_enum rfl (bt T 4 rfl) (pa_cons (pv 1) pa_nil)) (pg_tup rfl (pgs_cons (pg_name (i := 2) scIsTree.nd rfl (.inl rfl)) (pgs_cons (pg_name (i := 3) scIsTree.nd rfl (.inl rfl)) pgs_nil)))
      (pss_cons (ps_if (pt_not (pt_val (pf IW hr (by decide) rfl (pa_cons (pv 3) pa_nil)))) (pss_one (ps_ret pe_bl)) pss_nil)
      (pss_one (ps_if (PW.pt (pw_and (pt_cmpR op_gt (pv 2) pe_int (nomark _)) (pw_and1 (pt_not (pt_val (pf IP hr (by decide) rfl (pa_cons (pe_slice sl_list (pv 1) po_none (po_some (pv 2))) (pa_cons (pe_ix ix_list (pv 3) pe_int (fun _ _ => rfl)) pa_nil)))))))) (pss_one (ps_ret pe_bl)) pss_nil))))
    (pss_one (ps_ret pe_bl)))))), ?_⟩
  have hlen : (natV l).length = l.length := List.length_map _
  refine ⟨_, rfl, a, _, rfl, .inl (SqL.of ha), _, _, rfl, rfl, (by show (0 : Int) < 6; decide), rfl, _, rfl, ?_⟩
  have e6 : (((natV l).length : Nat) : Int) % 6 = ((l.length % 6 : Nat) : Int) := by
    rw [hlen]
    omega
  show if (!decide (V.int ((((natV l).length : Nat) : Int) % 6) = V.int ((0 : Nat) : Int))) = true then _ else _
  rw [e6, int_eq_nat]
  refine iteB (fun b => ?_) (fun b => ?_)
  · have b : ¬ l.length % 6 = 0 := by simpa using b
    have e : (Ha03.treeOf l).isSome = false := by
      unfold Ha03.treeOf
      rw [if_pos (.inl b)]
      rfl
    have qq := q H (Same.refl H)
    rw [e] at qq
    exact qq
  have b6 : l.length % 6 = 0 := by simpa using b
  obtain ⟨m, hm⟩ : ∃ m, l.length = 6 * m := ⟨l.length / 6, by omega⟩
  have SG := sixes_get m l hm
  have row6 : ∀ row ∈ Ha03.sixes l, row.length = 6 := fun row h => by
    obtain ⟨j, hj, e⟩ := List.mem_iff_getElem.mp h
    rw [SG.1] at hj
    have e2 := SG.2 j hj
    rw [List.getElem?_eq_getElem (by rw [SG.1]; exact hj), e] at e2
    rw [Option.some.inj e2, List.length_take, List.length_drop]
    omega
  refine ⟨_, rfl, a, l, m, rfl, ha, hm, by omega, fun H1 p rs S1 hp hp1 hrs frs => ?_⟩
  have lr : (rs.map V.ref).length = m := by rw [List.length_map, hrs.1, SG.1]
  refine ⟨_, rfl, p, _, rfl, .inl (SqL.of hp1), _, _, rfl, rfl, _, rfl, ?_⟩
  refine iteB (fun b => ?_) (fun b => ?_)
  · -- no node at all
    have b := of_decide_eq_true b
    rw [lr] at b
    refine iteT ?_
    have e : (Ha03.treeOf l).isSome = false := by
      unfold Ha03.treeOf
      rw [if_pos (.inr (.inl (List.length_eq_zero_iff.mp (by omega))))]
      rfl
    have qq := q H1 S1
    rw [e] at qq
    exact qq
  have b := of_decide_eq_false b
  rw [lr] at b
  refine ⟨_, rfl, p, _, rfl, .inl (SqL.of hp1), _, _, rfl, rfl, _, rfl, ?_⟩
  refine iteB (fun b2 => ?_) (fun b2 => ?_)
  · have b2 := of_decide_eq_true b2
    rw [lr] at b2
    have e : (Ha03.treeOf l).isSome = false := by
      unfold Ha03.treeOf
      rw [if_pos (.inr (.inr (by omega)))]
      rfl
    have qq := q H1 S1
    rw [e] at qq
    exact qq
  have b2 := of_decide_eq_false b2
  rw [lr] at b2
  have m1 : 1 ≤ m := by omega
  have m14 : m ≤ 14 := by omega
  -- the first row
  obtain ⟨r0, er0, hr0⟩ := hrs.at (j := 0) (by rw [SG.1]; omega)
  have r06 : ((Ha03.sixes l).getD 0 []).length = 6 := by
    rw [List.getD_eq_getElem?_getD, List.getElem?_eq_getElem (by rw [SG.1]; omega)]
    exact row6 _ (List.getElem_mem _)
  generalize hrow0 : (Ha03.sixes l).getD 0 [] = row0 at hr0 r06
  refine ⟨_, rfl, p, _, 0, _, rfl, rfl, SqL.of hp1, atI_nat er0, r0, _, 0, _, rfl, rfl, SqL.of hr0, row_at r06 0 (by decide), rfl, _, rfl, ?_⟩
  show if (!decide (V.int ((row0.getD 0 0 : Nat) : Int) = V.int ((0 : Nat) : Int))) = true then _ else _
  rw [int_eq_nat]
  have no0 : ¬ (row0.getD 0 0 = 0 ∧ row0.getD 1 0 = 1) → (Ha03.treeOf l).isSome = false := fun h => by
    refine treeOf_no (j := 0) hm (by omega) ?_
    rw [hrow0, isNode_first _ r06]
    by_cases z : row0.getD 0 0 = 0
    · rw [decide_eq_false (fun y => h ⟨z, y⟩), Bool.and_false, Bool.and_false]
    · rw [decide_eq_false z, Bool.false_and, Bool.and_false]
  refine iteB (fun c0 => ?_) (fun c0 => ?_)
  · have c0 : ¬ row0.getD 0 0 = 0 := by simpa using c0
    refine iteT ?_
    have qq := q H1 S1
    rw [no0 (fun z => c0 z.1)] at qq
    exact qq
  have c0 : row0.getD 0 0 = 0 := by simpa using c0
  refine ⟨_, rfl, p, _, 0, _, rfl, rfl, SqL.of hp1, atI_nat er0, r0, _, 1, _, rfl, rfl, SqL.of hr0, row_at r06 1 (by decide), rfl, _, rfl, ?_⟩
  show if (!decide (V.int ((row0.getD 1 0 : Nat) : Int) = V.int ((1 : Nat) : Int))) = true then _ else _
  rw [int_eq_nat]
  refine iteB (fun c1 => ?_) (fun c1 => ?_)
  · have c1 : ¬ row0.getD 1 0 = 1 := by simpa using c1
    have qq := q H1 S1
    rw [no0 (fun z => c1 z.2)] at qq
    exact qq
  have c1 : row0.getD 1 0 = 1 := by simpa using c1
  -- each row
  refine ⟨_, rfl, p, _, rfl, SqL.of hp1, ?_⟩
  refine for_enumL (K := K) (a := p) (xs := rs.map V.ref) (fun j σ H' => ∃ v2 v3 : Option V, σ = [some (.ref a), some (.ref p), v2, v3] ∧ Same H1 H' ∧ ∀ k, k < j → Ha03.isNode (nsOf l) (k + 1) ((Ha03.sixes l).getD k []) = true)
    ⟨none, none, rfl, Same.refl _, (fun k hk => by omega)⟩ (fun j σ H' ⟨_, _, _, S, _⟩ => SqL.of (S _ _ hp1)) ?_ ?_
  · rintro j y Tn σ H' hy hT ⟨v2, v3, rfl, S2, hall⟩
    have hj : j < m := by
      have := (List.getElem?_eq_some_iff.mp hy).1
      omega
    obtain ⟨r, er, hr1⟩ := hrs.at (j := j) (by rw [SG.1]; exact hj)
    rw [er] at hy
    have ey : y = V.ref r := (Option.some.inj hy).symm
    subst ey
    have rj6 : ((Ha03.sixes l).getD j []).length = 6 := by
      rw [List.getD_eq_getElem?_getD, List.getElem?_eq_getElem (by rw [SG.1]; exact hj)]
      exact row6 _ (List.getElem_mem _)
    generalize hrow : (Ha03.sixes l).getD j [] = row at hr1 rj6
    have S3 : Same H1 (upd H' Tn (.tup [.int (j : Nat), .ref r])) := S2.trans (same_new hT _)
    refine ⟨Tn, _, rfl, SqT.of upd_same, rfl, _, _, rfl, _, _, rfl, rfl, ?_⟩
    refine ⟨_, rfl, r, row, rfl, S3 _ _ hr1, rj6, fun H4 S4 => ⟨_, rfl, ?_⟩⟩
    have S5 := S3.trans S4
    refine iteB (fun d0 => ?_) (fun d0 => ?_)
    · have d0 : inB row = false := by simpa using d0
      have e : (Ha03.treeOf l).isSome = false := by
        refine treeOf_no hm hj ?_
        rw [hrow]
        rcases Nat.eq_zero_or_pos j with z | z
        · subst z
          rw [isNode_first _ rj6, d0, Bool.false_and]
        · unfold nsOf
          rw [isNode_later _ z (by rw [SG.1]; exact hj), d0, Bool.false_and]
      have qq := q H4 (S1.trans S5)
      rw [e] at qq
      exact qq
    have d0 : inB row = true := by simpa using d0
    refine ⟨_, rfl, _, _, rfl, rfl, _, rfl, ?_⟩
    refine iteB (fun d1 => ?_) (fun d1 => ?_)
    · have j1 : 1 ≤ j := by
        have := of_decide_eq_true d1
        omega
      -- rows[:place], row[0]
      refine ⟨_, rfl, _, rfl, _, rfl, p, _, rfl, SqL.of (S5 _ _ hp1), fun c hc => ?_⟩
      have S6 := S5.trans (same_new hc (.lst (cutV (rs.map V.ref) none (some ((j : Nat) : Int)))))
      refine ⟨_, rfl, r, _, 0, _, rfl, rfl, SqL.of (S6 _ _ hr1), row_at rj6 0 (by decide), ?_⟩
      refine ⟨c, rs.take j, (Ha03.sixes l).take j, row.getD 0 0, rfl, ?_, (hrs.take j).same S6, fun row h => row6 row (List.mem_of_mem_take h), ⟨_, rfl, ?_⟩⟩
      · rw [upd_same, cut_to _ _ (by rw [lr]; omega), List.map_take]
      have ij : Ha03.isNode (nsOf l) (j + 1) row = (inB row && parB ((Ha03.sixes l).take j) (row.getD 0 0)) := isNode_later _ j1 (by rw [SG.1]; exact hj)
      refine iteB (fun d2 => ?_) (fun d2 => ?_)
      · have d2 : parB ((Ha03.sixes l).take j) (row.getD 0 0) = false := by simpa using d2
        have e : (Ha03.treeOf l).isSome = false := by
          refine treeOf_no hm hj ?_
          rw [hrow, ij, d2, Bool.and_false]
        have qq := q _ (S1.trans S6)
        rw [e] at qq
        exact qq
      · have d2 : parB ((Ha03.sixes l).take j) (row.getD 0 0) = true := by simpa using d2
        refine ⟨_, _, rfl, S6, fun k hk => ?_⟩
        by_cases kj : k < j
        · exact hall k kj
        · have e : k = j := by omega
          subst e
          rw [hrow, ij, d0, d2]
          rfl
    · have j0 : j = 0 := by
        have := of_decide_eq_false d1
        omega
      subst j0
      refine iteF ?_
      refine ⟨_, _, rfl, S5, fun k hk => ?_⟩
      have e : k = 0 := by omega
      subst e
      have er : row = row0 := hrow.symm.trans hrow0
      rw [hrow, isNode_first _ rj6, d0, er, c0, c1]
      rfl
  · rintro σ H' ⟨v2, v3, rfl, S2, hall⟩
    rw [lr] at hall
    have qq := q H' (S1.trans S2)
    rw [treeOf_yes hm m1 m14 hall] at qq
    exact qq
end
end LA
set_option maxRecDepth 100000
set_option maxHeartbeats 5000000
namespace LA
open PySem PySem.Spec PyProof.Rows L2 RT RZ
/-! # The calls' answers, 1 -/
abbrev sAnsTree : Stmt := top 37
abbrev sAnsFail : Stmt := top 38
abbrev sAnsBegin : Stmt := top 39
abbrev sAnsDie : Stmt := top 40
abbrev sAnsTime : Stmt := top 41
abbrev sAnsStop : Stmt := top 42
abbrev sAnsLog : Stmt := top 43
abbrev sAnsNode : Stmt := top 44
abbrev sAnsUp : Stmt := top 45
abbrev sAnsCall : Stmt := top 46
abbrev sAnswers : Stmt := top 47
theorem Rep.foot_some {g : G} {H : Hp} {s : Ha03.St} (R : Rep g H s) {b : Addr} (h : LA.foot g b) : ∃ o, H b = some o := by
  rcases h with e | e | e
  · rw [e]; exact ⟨_, R.tree⟩
  · rw [e]
    obtain ⟨ps, q, _⟩ := R.log
    exact ⟨_, q⟩
  · obtain ⟨j, hj, e⟩ := List.mem_iff_getElem.mp e
    have j2 : j + 1 ≤ s.nodes.length := by rw [← R.len]; omega
    obtain ⟨dx, tm, q, _⟩ := R.node (j + 1) (by omega) j2
    have e2 : g.at (j + 1) = b := by
      unfold G.at
      rw [List.getD_eq_getElem?_getD, show j + 1 - 1 = j by omega, List.getElem?_eq_getElem hj, e]
      rfl
    rw [e2] at q
    exact ⟨_, q⟩
theorem Rep.fresh {g : G} {H H2 : Hp} {s : Ha03.St} (R : Rep g H2 s) (F : Fram g H H2) {p : Addr} (hp : H2 p = none) : H p = none := by
  cases e : H p with
  | none => rfl
  | some o =>
    by_cases f : LA.foot g p
    · obtain ⟨o', q⟩ := R.foot_some f
      rw [hp] at q
      cases q
    · rw [F _ _ e f] at hp
      cases hp
theorem Rep.nofoot {g : G} {H : Hp} {s : Ha03.St} (R : Rep g H s) {p : Addr} (hp : H p = none) : ¬ LA.foot g p := fun f => by
  obtain ⟨o', q⟩ := R.foot_some f
  rw [hp] at q
  cases q
/-- an answer: a new list; the tree behind it tells s' -/
def Gives (g : G) (H : Hp) (s' : Ha03.St) (ans : List Int) (Q : VK) : Prop := ∀ H' p, Rep g H' s' → Fram g H H' → H p = none → ¬ foot g p → H' p = some (.lst (ans.map V.int)) → Q (.ref p) H'
/-- .. a list that is laid at the end -/
theorem Gives.lst {g : G} {H H1 : Hp} {s' : Ha03.St} {ans : List Int} {Q : VK} (G : Gives g H s' ans Q) (R : Rep g H1 s') (F : Fram g H H1) {xs : List V} (e : xs = ans.map V.int) : ∀ p, H1 p = none → Q (.ref p) (upd H1 p (.lst xs)) := fun p hp => by
  refine G _ p (R.new hp _) (F.trans (Fram.new hp _)) (R.fresh F hp) (R.nofoot hp) ?_
  rw [upd_same, e]
def spHas (CT : Addr) : Sp := fun vs H Q _ => ∃ (g : G) (s : Ha03.St) (i : Nat), g.CT = CT ∧ vs = [.ref g.t, .int (i : Nat)] ∧ Rep g H s ∧ Q (.bl (Ha03.isThere s i)) H
def spAns1 (CT CN : Addr) (c : Ha03.Call) (vs0 : List V) : Sp := fun vs H Q _ => ∃ (g : G) (s : Ha03.St), g.CT = CT ∧ g.CN = CN ∧ vs = .ref g.t :: vs0 ∧ Rep g H s ∧ WF 5 s ∧ TRI s ∧ (Ha03.step s c).1.log.length ≤ LOGMAX ∧ (Ha03.step s c).2.length ≤ 1000000 ∧ Gives g H (Ha03.step s c).1 (Ha03.step s c).2 Q
section
variable {P : Program} {w : World} {K : PySem.W.Frag} {mg : Str → Option Value} {base : Heap} {CT CN : Addr}
theorem scHas : FnScope ["tree", "number"] ["tree", "number"] (defScope sHasNode) := ⟨rfl, rfl, rfl, by decide +kernel, rfl, by decide +kernel, by decide +kernel⟩
theorem ok_has (T : Txt K mg CT CN) (M : FDef K mg "has_node" sHasNode ["tree", "number"]) : Fnc P w K mg base 1 "has_node" (spHas CT) := by
  refine M.ok scHas (fun vs H Q E h => ?_) (fun f cdv A outer s H vs Q E hr h => ?_)
  · obtain ⟨g, s, i, _, rfl, _⟩ := h
    rfl
  obtain ⟨g, z, i, rfl, rfl, R, q⟩ := h
  refine ⟨_, pss_one (ps_ret (pe_and (pe_cmpR op_ge (pv 1) pe_int (nomark _)) (pe_one (pe_cmpR op_le (pv 1) (pe_callB call_len_seq (by rfl) (bt T 0 rfl) PySem.boot_len (pa_cons (pe_fld (pv 0) rfl) pa_nil)) (nomark _))))), ?_⟩
  have hlen : (g.as.map V.ref).length = z.nodes.length := by rw [List.length_map, R.len]
  refine ⟨_, rfl, _, _, rfl, rfl, _, rfl, ?_⟩
  unfold Ha03.isThere at q
  refine iteB (fun b => ?_) (fun b => ?_)
  · have b := of_decide_eq_true b
    rw [decide_eq_true (show 1 ≤ i by omega), Bool.true_and] at q
    refine ⟨_, rfl, _, rfl, g.t, g.CT, g.dt, _, _, rfl, R.tree, T.clT, tT T 0 rfl, tF_nodes, g.nl, _, rfl, .inl (SqL.of R.nodes), _, _, rfl, rfl, ?_⟩
    have e : decide (((i : Nat) : Int) ≤ (((g.as.map V.ref).length : Nat) : Int)) = decide (i ≤ z.nodes.length) := by
      rw [hlen, decide_eq_decide]
      omega
    show Q (.bl (decide (((i : Nat) : Int) ≤ (((g.as.map V.ref).length : Nat) : Int)))) H
    rw [e]
    exact q
  · have b := of_decide_eq_false b
    rw [decide_eq_false (show ¬ 1 ≤ i by omega), Bool.false_and] at q
    exact q
theorem node_at {g : G} {H : Hp} {s : Ha03.St} (R : Rep g H s) {i : Nat} (h1 : 1 ≤ i) (h2 : i ≤ s.nodes.length) : atI (g.as.map V.ref) (((i : Nat) : Int) - 1) = some (.ref (g.at i)) := by
  rw [show ((i : Nat) : Int) - 1 = ((i - 1 : Nat) : Int) by omega]
  refine atI_nat ?_
  rw [List.getElem?_map, at_get h1 (by rw [R.len]; exact h2)]
  rfl
theorem root_at {g : G} {H : Hp} {s : Ha03.St} (R : Rep g H s) (h2 : 1 ≤ s.nodes.length) : atI (g.as.map V.ref) 0 = some (.ref (g.at 1)) := node_at R (Nat.le_refl _) h2
theorem there_iff {s : Ha03.St} {i : Nat} : Ha03.isThere s i = true ↔ 1 ≤ i ∧ i ≤ s.nodes.length := by
  unfold Ha03.isThere
  simp only [Bool.and_eq_true, decide_eq_true_eq (p := _)]
/-! fail -/
theorem scFail : FnScope ["tree", "number", "starts", "node"] ["tree", "number", "starts"] (defScope sAnsFail) := ⟨rfl, rfl, rfl, by decide +kernel, rfl, by decide +kernel, by decide +kernel⟩
theorem ok_fail (T : Txt K mg CT CN) (M : FDef K mg "answer_fail" sAnsFail ["tree", "number", "starts"]) (HN : Fnc P w K mg base 1 "has_node" (spHas CT)) (i n : Nat) : Fnc P w K mg base 2 "answer_fail" (spAns1 CT CN (.fail i n) [.int (i : Nat), .int (n : Nat)]) := by
  refine M.ok scFail (fun vs H Q E h => ?_) (fun f cdv A outer s H vs Q E hr h => ?_)
  · obtain ⟨g, s, _, _, rfl, _⟩ := h
    rfl
  obtain ⟨g, z, rfl, rfl, rfl, R, W, TR, hL, _, q⟩ := h
  refine ⟨_, pss_cons (ps_if (PW.pt (pw_or (pt_not (pt_val (pf HN hr (by decide) rfl (pa_cons (pv 0) (pa_cons (pv 1) pa_nil))))) (pw_or1 (pt_cmpR op_gt (pv 2) (pg (gc T 23 rfl)) (nomark _))))) (pss_one (ps_ret (pe_lst (pa_cons (pg (gc T 8 rfl)) pa_nil)))) pss_nil)
    (pss_cons (ps_set (i := 3) scFail.nd rfl (.inl rfl) (pe_ix ix_list (pe_fld (pv 0) rfl) (pe_op op_sub (pv 1) pe_int) (fun _ _ => rfl)))
    (pss_cons (ps_fld (pv 3) (pv 2) rfl) (pss_one (ps_ret (pe_lst (pa_cons pe_int pa_nil)))))), ?_⟩
  refine ⟨_, rfl, _, rfl, g, z, i, rfl, rfl, R, _, rfl, ?_⟩
  have no : Ha03.isThere z i = false ∨ 20 < n → Q = Q → Gives g H z [-1] Q := fun h _ => by
    have e : Ha03.step z (.fail i n) = (z, [-1]) := if_pos h
    rw [e] at q
    exact q
  refine iteB (fun b => ?_) (fun b => ?_)
  · have b : Ha03.isThere z i = false := by simpa using b
    refine iteT ?_
    exact ⟨(by show 1 ≤ sizeLine; decide), (no (.inl b) rfl).lst R (Fram.refl g H) rfl⟩
  have b : Ha03.isThere z i = true := by simpa using b
  have hi := there_iff.mp b
  refine ⟨_, rfl, _, _, rfl, rfl, _, rfl, ?_⟩
  refine iteB (fun c => ?_) (fun c => ?_)
  · have c := of_decide_eq_true c
    exact ⟨(by show 1 ≤ sizeLine; decide), (no (.inr (by omega)) rfl).lst R (Fram.refl g H) rfl⟩
  have c := of_decide_eq_false c
  have e : Ha03.step z (.fail i n) = (Ha03.setNow z i { Ha03.now z i with fails := n }, [0]) := if_neg (by
    rintro (x | x)
    · rw [b] at x; cases x
    · omega)
  rw [e] at q
  refine ⟨_, rfl, g.t, g.CT, g.dt, _, _, rfl, R.tree, T.clT, tT T 0 rfl, tF_nodes, _, rfl, _, _, rfl, rfl, g.nl, _, _, _, rfl, rfl, SqL.of R.nodes, node_at R hi.1 hi.2, ?_⟩
  obtain ⟨dx, tm, hn, ht, hh⟩ := R.node i hi.1 hi.2
  refine ⟨_, rfl, _, rfl, g.at i, g.CN, dx, _, rfl, hn, T.clN, tN T 12 rfl, nF_len, ?_⟩
  rw [nP_failing]
  have R2 := R.setNode (y := { Ha03.now z i with fails := n }) W.len hi.1 hi.2 ⟨_, hn⟩ ht hh
  exact ⟨(by show 1 ≤ sizeLine; decide), q.lst R2 (Fram.at (R.foot hi.1 hi.2) _) rfl⟩
/-! time -/
theorem scTime : FnScope ["tree", "moment"] ["tree", "moment"] (defScope sAnsTime) := ⟨rfl, rfl, rfl, by decide +kernel, rfl, by decide +kernel, by decide +kernel⟩
theorem ok_time (T : Txt K mg CT CN) (M : FDef K mg "answer_time" sAnsTime ["tree", "moment"]) (t : Nat) : Fnc P w K mg base 1 "answer_time" (spAns1 CT CN (.time t) [.int (t : Nat)]) := by
  refine M.ok scTime (fun vs H Q E h => ?_) (fun f cdv A outer s H vs Q E hr h => ?_)
  · obtain ⟨g, s, _, _, rfl, _⟩ := h
    rfl
  obtain ⟨g, z, rfl, rfl, rfl, R, W, TR, hL, _, q⟩ := h
  refine ⟨_, pss_cons (ps_if (PW.pt (pw_or (pt_cmpR op_lt (pv 1) (pe_fld (pv 0) rfl) (nomark _)) (pw_or1 (pt_cmpR op_gt (pv 1) (pg (gc T 24 rfl)) (nomark _))))) (pss_one (ps_ret (pe_lst (pa_cons (pg (gc T 8 rfl)) pa_nil)))) pss_nil)
    (pss_cons (ps_fld (pv 0) (pv 1) rfl) (pss_one (ps_ret (pe_lst (pa_cons (pv 1) pa_nil))))), ?_⟩
  have no : t < z.time ∨ 1000000 < t → Gives g H z [-1] Q := fun h => by
    have e : Ha03.step z (.time t) = (z, [-1]) := if_pos h
    rw [e] at q
    exact q
  refine ⟨_, rfl, _, rfl, g.t, g.CT, g.dt, _, _, rfl, R.tree, T.clT, tT T 1 rfl, tF_now, _, _, rfl, rfl, _, rfl, ?_⟩
  refine iteB (fun b => ?_) (fun b => ?_)
  · have b := of_decide_eq_true b
    refine iteT ?_
    exact ⟨(by show 1 ≤ sizeLine; decide), (no (.inl (by omega))).lst R (Fram.refl g H) rfl⟩
  have b := of_decide_eq_false b
  refine ⟨_, rfl, _, _, rfl, rfl, _, rfl, ?_⟩
  refine iteB (fun c => ?_) (fun c => ?_)
  · have c := of_decide_eq_true c
    exact ⟨(by show 1 ≤ sizeLine; decide), (no (.inr (by omega))).lst R (Fram.refl g H) rfl⟩
  have c := of_decide_eq_false c
  have e : Ha03.step z (.time t) = ({ z with time := t }, Ha03.ints [t]) := if_neg (by
    rintro (x | x)
    · omega
    · omega)
  rw [e] at q
  refine ⟨_, rfl, _, rfl, g.t, g.CT, g.dt, _, rfl, R.tree, T.clT, tT T 1 rfl, tF_len, ?_⟩
  rw [tP_now]
  have R2 := R.setTree t z.last
  exact ⟨_, rfl, (by show 1 ≤ sizeLine; decide), q.lst R2 (Fram.at (.inl rfl) _) rfl⟩
/-! begin -/
theorem scBegin : FnScope ["tree", "root", "before", "started"] ["tree"] (defScope sAnsBegin) := ⟨rfl, rfl, rfl, by decide +kernel, rfl, by decide +kernel, by decide +kernel⟩
theorem log_len {g : G} {H : Hp} {s : Ha03.St} (R : Rep g H s) : ∃ ps : List Addr, H g.hl = some (.lst (ps.map V.ref)) ∧ (ps.map V.ref).length = s.log.length := by
  obtain ⟨ps, a, b, _⟩ := R.log
  exact ⟨ps, a, by rw [List.length_map, b]⟩
theorem ok_begin (T : Txt K mg CT CN) (M : FDef K mg "answer_begin" sAnsBegin ["tree"]) {k : Nat} (ST : Mth P w K mg base k CT "start_node" (spStart CT CN 14)) : Fnc P w K mg base (k + 1) "answer_begin" (spAns1 CT CN .begin_ []) := by
  refine M.ok scBegin (fun vs H Q E h => ?_) (fun f cdv A outer s H vs Q E hr h => ?_)
  · obtain ⟨g, s, _, _, rfl, _⟩ := h
    rfl
  obtain ⟨g, z, rfl, rfl, rfl, R, W, TR, hL, _, q⟩ := h
  refine ⟨_, pss_cons (ps_set (i := 1) scBegin.nd rfl (.inl rfl) (pe_ix ix_list (pe_fld (pv 0) rfl) pe_int (fun _ _ => rfl)))
    (pss_cons (ps_if (pt_cmpR op_gt (pe_fld (pv 1) rfl) pe_int (nomark _)) (pss_one (ps_ret (pe_lst (pa_cons (pg (gc T 9 rfl)) pa_nil)))) pss_nil)
    (pss_cons (ps_set (i := 2) scBegin.nd rfl (.inl rfl) (pe_callB call_len_seq (by rfl) (bt T 0 rfl) PySem.boot_len (pa_cons (pe_fld (pv 0) rfl) pa_nil)))
    (pss_cons (ps_set (i := 3) scBegin.nd rfl (.inl rfl) (pm ST hr (Nat.le_refl _) (pv 0) (pa_cons (pv 1) pa_nil)))
    (pss_one (ps_ret (pe_lst (pa_cons (pe_ifExp (pt_val (pv 3)) pe_int pe_int) (pa_cons (pe_op op_sub (pe_callB call_len_seq (by rfl) (bt T 0 rfl) PySem.boot_len (pa_cons (pe_fld (pv 0) rfl) pa_nil)) (pv 2)) pa_nil)))))))), ?_⟩
  have l1 := W.t.len1
  obtain ⟨dx, tm, hn, ht, hh⟩ := R.node 1 (Nat.le_refl _) l1
  refine ⟨_, rfl, g.t, g.CT, g.dt, _, _, rfl, R.tree, T.clT, tT T 0 rfl, tF_nodes, g.nl, _, _, _, rfl, rfl, SqL.of R.nodes, root_at R l1, ?_⟩
  refine ⟨_, rfl, g.at 1, g.CN, dx, _, _, rfl, hn, T.clN, tN T 9 rfl, nF_run, _, _, rfl, rfl, _, rfl, ?_⟩
  rw [run_pos W]
  refine iteB (fun b => ?_) (fun b => ?_)
  · have e : Ha03.step z .begin_ = (z, [-8]) := if_pos b
    rw [e] at q
    exact ⟨(by show 1 ≤ sizeLine; decide), q.lst R (Fram.refl g H) rfl⟩
  have e : Ha03.step z .begin_ = ((Start z 1).1, Ha03.ints [Ha03.flag (Start z 1).2, (Start z 1).1.log.length - z.log.length]) := if_neg (by rw [b]; decide)
  rw [e] at q hL
  obtain ⟨ps, hps, lps⟩ := log_len R
  refine ⟨_, rfl, g.t, g.CT, g.dt, _, _, rfl, R.tree, T.clT, tT T 3 rfl, tF_happened, g.hl, _, rfl, .inl (SqL.of hps), ?_⟩
  refine ⟨_, rfl, g.t, g.dt, _, rfl, R.tree, no_tree 0, _, rfl, g, z, 1, rfl, rfl, rfl, R, W.mono (by decide), Nat.le_refl _, l1, (by decide), tri_down W.t TR (Nat.le_refl _) b, W.root, hL, fun H2 R2 F2 => ?_⟩
  obtain ⟨ps2, hps2, lps2⟩ := log_len R2
  have key : ∀ n : Int, n = ((Ha03.flag (Start z 1).2 : Nat) : Int) → ∀ p, H2 p = none → Q (.ref p) (upd H2 p (.lst [V.int n, V.int ((((ps2.map V.ref).length : Nat) : Int) - (((ps.map V.ref).length : Nat) : Int))])) := fun n hn => by
    refine q.lst R2 F2 ?_
    have : z.log.length ≤ (Start z 1).1.log.length := start_log 20 z 1
    have z1 : ((((ps2.map V.ref).length : Nat) : Int) - (((ps.map V.ref).length : Nat) : Int)) = (((Start z 1).1.log.length - z.log.length : Nat) : Int) := by
      rw [lps, lps2]
      omega
    rw [z1, hn]
    rfl
  refine ⟨_, rfl, _, rfl, ?_⟩
  refine iteB (fun c => ?_) (fun c => ?_)
  · exact ⟨_, rfl, g.t, g.CT, g.dt, _, _, rfl, R2.tree, T.clT, tT T 3 rfl, tF_happened, g.hl, _, rfl, .inl (SqL.of hps2), _, rfl, _, _, rfl, rfl, (by show 2 ≤ sizeLine; decide), key 1 (by rw [c]; rfl)⟩
  · exact ⟨_, rfl, g.t, g.CT, g.dt, _, _, rfl, R2.tree, T.clT, tT T 3 rfl, tF_happened, g.hl, _, rfl, .inl (SqL.of hps2), _, rfl, _, _, rfl, rfl, (by show 2 ≤ sizeLine; decide), key 0 (by rw [c]; rfl)⟩
/-! stop -/
theorem scAStop : FnScope ["tree", "root", "before"] ["tree"] (defScope sAnsStop) := ⟨rfl, rfl, rfl, by decide +kernel, rfl, by decide +kernel, by decide +kernel⟩
theorem run_zero {tb : Nat} {s : Ha03.St} (w : WF tb s) (i : Nat) : decide (V.int (((Ha03.now s i).run.getD 0 : Nat) : Int) = V.int 0) = !Ha03.running s i := by
  have e : decide (V.int (((Ha03.now s i).run.getD 0 : Nat) : Int) = V.int 0) = decide ((Ha03.now s i).run.getD 0 = 0) := int_eq_nat (b := 0)
  rw [e]
  unfold Ha03.running
  cases h : (Ha03.now s i).run with
  | none => rfl
  | some r =>
    have := w.pos i r h
    show decide (r = 0) = false
    exact decide_eq_false (show _ by omega)
theorem ok_aStop (T : Txt K mg CT CN) (M : FDef K mg "answer_stop" sAnsStop ["tree"]) {k : Nat} (ST : Mth P w K mg base k CT "stop_node" (spStop CT CN 14)) : Fnc P w K mg base (k + 1) "answer_stop" (spAns1 CT CN .stop_ []) := by
  refine M.ok scAStop (fun vs H Q E h => ?_) (fun f cdv A outer s H vs Q E hr h => ?_)
  · obtain ⟨g, s, _, _, rfl, _⟩ := h
    rfl
  obtain ⟨g, z, rfl, rfl, rfl, R, W, TR, hL, _, q⟩ := h
  refine ⟨_, pss_cons (ps_set (i := 1) scAStop.nd rfl (.inl rfl) (pe_ix ix_list (pe_fld (pv 0) rfl) pe_int (fun _ _ => rfl)))
    (pss_cons (ps_if (pt_cmpR op_eq (pe_fld (pv 1) rfl) pe_int (nomark _)) (pss_one (ps_ret (pe_lst (pa_cons (pg (gc T 9 rfl)) pa_nil)))) pss_nil)
    (pss_cons (ps_set (i := 2) scAStop.nd rfl (.inl rfl) (pe_callB call_len_seq (by rfl) (bt T 0 rfl) PySem.boot_len (pa_cons (pe_fld (pv 0) rfl) pa_nil)))
    (pss_cons (ps_expr (pm ST hr (Nat.le_refl _) (pv 0) (pa_cons (pv 1) pa_nil)))
    (pss_one (ps_ret (pe_lst (pa_cons (pe_op op_sub (pe_callB call_len_seq (by rfl) (bt T 0 rfl) PySem.boot_len (pa_cons (pe_fld (pv 0) rfl) pa_nil)) (pv 2)) pa_nil))))))), ?_⟩
  have l1 := W.t.len1
  obtain ⟨dx, tm, hn, ht, hh⟩ := R.node 1 (Nat.le_refl _) l1
  refine ⟨_, rfl, g.t, g.CT, g.dt, _, _, rfl, R.tree, T.clT, tT T 0 rfl, tF_nodes, g.nl, _, _, _, rfl, rfl, SqL.of R.nodes, root_at R l1, ?_⟩
  refine ⟨_, rfl, g.at 1, g.CN, dx, _, _, rfl, hn, T.clN, tN T 9 rfl, nF_run, rfl, _, rfl, ?_⟩
  rw [run_zero W]
  refine iteB (fun b => ?_) (fun b => ?_)
  · have b : Ha03.running z 1 = false := by simpa using b
    have e : Ha03.step z .stop_ = (z, [-8]) := if_pos b
    rw [e] at q
    exact ⟨(by show 1 ≤ sizeLine; decide), q.lst R (Fram.refl g H) rfl⟩
  have b : Ha03.running z 1 = true := by simpa using b
  have e : Ha03.step z .stop_ = (Halt z 1, Ha03.ints [(Halt z 1).log.length - z.log.length]) := if_neg (by rw [b]; decide)
  rw [e] at q hL
  obtain ⟨ps, hps, lps⟩ := log_len R
  refine ⟨_, rfl, g.t, g.CT, g.dt, _, _, rfl, R.tree, T.clT, tT T 3 rfl, tF_happened, g.hl, _, rfl, .inl (SqL.of hps), ?_⟩
  refine ⟨_, rfl, g.t, g.dt, _, rfl, R.tree, no_tree 0, _, rfl, g, z, 1, rfl, rfl, rfl, R, W.mono (by decide), Nat.le_refl _, l1, (by decide), b, hL, fun H2 R2 F2 => ?_⟩
  obtain ⟨ps2, hps2, lps2⟩ := log_len R2
  refine ⟨_, rfl, g.t, g.CT, g.dt, _, _, rfl, R2.tree, T.clT, tT T 3 rfl, tF_happened, g.hl, _, rfl, .inl (SqL.of hps2), _, rfl, _, _, rfl, rfl, (by show 1 ≤ sizeLine; decide), ?_⟩
  refine q.lst R2 F2 ?_
  have : z.log.length ≤ (Halt z 1).log.length := halt_log 20 z 1
  have z1 : ((((ps2.map V.ref).length : Nat) : Int) - (((ps.map V.ref).length : Nat) : Int)) = (((Halt z 1).log.length - z.log.length : Nat) : Int) := by
    rw [lps, lps2]
    omega
  show [V.int ((((ps2.map V.ref).length : Nat) : Int) - (((ps.map V.ref).length : Nat) : Int))] = _
  rw [z1]
  rfl
/-! die -/
theorem scDie : FnScope ["tree", "number", "how", "node", "before"] ["tree", "number", "how"] (defScope sAnsDie) := ⟨rfl, rfl, rfl, by decide +kernel, rfl, by decide +kernel, by decide +kernel⟩
theorem dies_log (s : Ha03.St) (c how : Nat) : s.log.length ≤ (Ha03.dies s c how).log.length := by
  rw [dies_eq]
  refine Nat.le_trans ?_ ((log_again 4000).1 _ _ _ _)
  have : (died s c).log.length = s.log.length + 1 := says_log _ _
  omega
theorem WF_dies {s : Ha03.St} (W : WF 5 s) {c how : Nat} (hc : 1 ≤ c) (hcn : c ≤ s.nodes.length) (h : (nd s.nodes c).isSup = false) : WF 5 (Ha03.dies s c how) := by
  rw [dies_eq]
  have c2 := worker2 W.t hc h
  have pp := W.t.par c c2 hcn
  exact (WF_again 4000).1 _ _ _ _ (W.died hc) (.inr ⟨pp.1, mem_kids.mpr ⟨hc, hcn, rfl⟩⟩)
theorem ok_die (T : Txt K mg CT CN) (M : FDef K mg "answer_die" sAnsDie ["tree", "number", "how"]) {k : Nat} (HN : Fnc P w K mg base 1 "has_node" (spHas CT)) (hk : 1 ≤ k) (WD : Mth P w K mg base k CT "worker_dies" (spDies CT CN)) (i how : Nat) : Fnc P w K mg base (k + 1) "answer_die" (spAns1 CT CN (.die i how) [.int (i : Nat), .int (how : Nat)]) := by
  refine M.ok scDie (fun vs H Q E h => ?_) (fun f cdv A outer s H vs Q E hr h => ?_)
  · obtain ⟨g, s, _, _, rfl, _⟩ := h
    rfl
  obtain ⟨g, z, rfl, rfl, rfl, R, W, TR, hL, _, q⟩ := h
  refine ⟨_, pss_cons (ps_if (PW.pt (pw_or (pt_not (pt_val (pf HN hr hk rfl (pa_cons (pv 0) (pa_cons (pv 1) pa_nil))))) (pw_or1 (pt_cmpR op_gt (pv 2) (pg (gc T 20 rfl)) (nomark _))))) (pss_one (ps_ret (pe_lst (pa_cons (pg (gc T 8 rfl)) pa_nil)))) pss_nil)
    (pss_cons (ps_set (i := 3) scDie.nd rfl (.inl rfl) (pe_ix ix_list (pe_fld (pv 0) rfl) (pe_op op_sub (pv 1) pe_int) (fun _ _ => rfl)))
    (pss_cons (ps_if (pt_val (pe_fld (pv 3) rfl)) (pss_one (ps_ret (pe_lst (pa_cons (pg (gc T 8 rfl)) pa_nil)))) pss_nil)
    (pss_cons (ps_if (pt_cmpR op_eq (pe_fld (pv 3) rfl) pe_int (nomark _)) (pss_one (ps_ret (pe_lst (pa_cons (pg (gc T 9 rfl)) pa_nil)))) pss_nil)
    (pss_cons (ps_set (i := 4) scDie.nd rfl (.inl rfl) (pe_callB call_len_seq (by rfl) (bt T 0 rfl) PySem.boot_len (pa_cons (pe_fld (pv 0) rfl) pa_nil)))
    (pss_cons (ps_expr (pm WD hr (Nat.le_refl _) (pv 0) (pa_cons (pv 3) (pa_cons (pv 2) pa_nil))))
    (pss_one (ps_ret (pe_lst (pa_cons (pe_op op_sub (pe_callB call_len_seq (by rfl) (bt T 0 rfl) PySem.boot_len (pa_cons (pe_fld (pv 0) rfl) pa_nil)) (pv 4))
      (pa_cons (pe_ifExp (pt_cmpR op_gt (pe_fld (pe_ix ix_list (pe_fld (pv 0) rfl) pe_int (fun _ _ => rfl)) rfl) pe_int (nomark _)) pe_int pe_int) pa_nil)))))))))), ?_⟩
  have no : Ha03.isThere z i = false ∨ 1 < how ∨ (Ha03.node z i).isSup = true → Gives g H z [-1] Q := fun h => by
    have e : Ha03.step z (.die i how) = (z, [-1]) := if_pos h
    rw [e] at q
    exact q
  refine ⟨_, rfl, _, rfl, g, z, i, rfl, rfl, R, _, rfl, ?_⟩
  refine iteB (fun b => ?_) (fun b => ?_)
  · have b : Ha03.isThere z i = false := by simpa using b
    refine iteT ?_
    exact ⟨(by show 1 ≤ sizeLine; decide), (no (.inl b)).lst R (Fram.refl g H) rfl⟩
  have b : Ha03.isThere z i = true := by simpa using b
  have hi := there_iff.mp b
  refine ⟨_, rfl, _, _, rfl, rfl, _, rfl, ?_⟩
  refine iteB (fun c => ?_) (fun c => ?_)
  · have c := of_decide_eq_true c
    exact ⟨(by show 1 ≤ sizeLine; decide), (no (.inr (.inl (by omega)))).lst R (Fram.refl g H) rfl⟩
  have c := of_decide_eq_false c
  refine ⟨_, rfl, g.t, g.CT, g.dt, _, _, rfl, R.tree, T.clT, tT T 0 rfl, tF_nodes, _, rfl, _, _, rfl, rfl, g.nl, _, _, _, rfl, rfl, SqL.of R.nodes, node_at R hi.1 hi.2, ?_⟩
  obtain ⟨dx, tm, hn, ht, hh⟩ := R.node i hi.1 hi.2
  refine ⟨_, rfl, g.at i, g.CN, dx, _, _, rfl, hn, T.clN, tN T 2 rfl, nF_keeper, _, rfl, ?_⟩
  refine iteB (fun d => ?_) (fun d => ?_)
  · exact ⟨(by show 1 ≤ sizeLine; decide), (no (.inr (.inr d))).lst R (Fram.refl g H) rfl⟩
  have nno : ¬ (Ha03.isThere z i = false ∨ 1 < how ∨ (Ha03.node z i).isSup = true) := by
    rintro (x | x | x)
    · rw [b] at x; cases x
    · omega
    · rw [node_nd, d] at x; cases x
  refine ⟨_, rfl, g.at i, g.CN, dx, _, _, rfl, hn, T.clN, tN T 9 rfl, nF_run, rfl, _, rfl, ?_⟩
  rw [run_zero W]
  refine iteB (fun r => ?_) (fun r => ?_)
  · have r : Ha03.running z i = false := by simpa using r
    have e : Ha03.step z (.die i how) = (z, [-8]) := (if_neg nno).trans (if_pos r)
    rw [e] at q
    exact ⟨(by show 1 ≤ sizeLine; decide), q.lst R (Fram.refl g H) rfl⟩
  have r : Ha03.running z i = true := by simpa using r
  have e : Ha03.step z (.die i how) = (Ha03.dies z i how, Ha03.ints [(Ha03.dies z i how).log.length - z.log.length, Ha03.flag (Ha03.running (Ha03.dies z i how) 1)]) := (if_neg nno).trans (if_neg (by rw [r]; decide))
  rw [e] at q hL
  obtain ⟨ps, hps, lps⟩ := log_len R
  refine ⟨_, rfl, g.t, g.CT, g.dt, _, _, rfl, R.tree, T.clT, tT T 3 rfl, tF_happened, g.hl, _, rfl, .inl (SqL.of hps), ?_⟩
  refine ⟨_, rfl, g.t, g.dt, _, rfl, R.tree, no_tree 0, _, rfl, _, rfl, g, z, i, how, rfl, rfl, rfl, R, W, TR, hi.1, hi.2, r, d, hL, fun H2 R2 F2 => ?_⟩
  obtain ⟨ps2, hps2, lps2⟩ := log_len R2
  have W2 : WF 5 (Ha03.dies z i how) := WF_dies W hi.1 hi.2 d
  have l12 := W2.t.len1
  obtain ⟨dx2, tm2, hn2, _, _⟩ := R2.node 1 (Nat.le_refl _) l12
  have key : ∀ n : Int, n = ((Ha03.flag (Ha03.running (Ha03.dies z i how) 1) : Nat) : Int) → ∀ p, H2 p = none → Q (.ref p) (upd H2 p (.lst [V.int ((((ps2.map V.ref).length : Nat) : Int) - (((ps.map V.ref).length : Nat) : Int)), V.int n])) := fun n hn => by
    refine q.lst R2 F2 ?_
    have := dies_log z i how
    have z1 : ((((ps2.map V.ref).length : Nat) : Int) - (((ps.map V.ref).length : Nat) : Int)) = (((Ha03.dies z i how).log.length - z.log.length : Nat) : Int) := by
      rw [lps, lps2]
      omega
    rw [z1, hn]
    rfl
  refine ⟨_, rfl, g.t, g.CT, g.dt, _, _, rfl, R2.tree, T.clT, tT T 3 rfl, tF_happened, g.hl, _, rfl, .inl (SqL.of hps2), _, rfl, _, _, rfl, rfl, ?_⟩
  refine ⟨_, rfl, g.t, g.CT, g.dt, _, _, rfl, R2.tree, T.clT, tT T 0 rfl, tF_nodes, g.nl, _, _, _, rfl, rfl, SqL.of R2.nodes, root_at R2 l12, g.at 1, g.CN, dx2, _, _, rfl, hn2, T.clN, tN T 9 rfl, nF_run, _, _, rfl, rfl, _, rfl, ?_⟩
  rw [run_pos W2]
  refine iteB (fun c => ?_) (fun c => ?_)
  · exact ⟨(by show 2 ≤ sizeLine; decide), key 1 (by rw [c]; rfl)⟩
  · exact ⟨(by show 2 ≤ sizeLine; decide), key 0 (by rw [c]; rfl)⟩
end
end LA
set_option maxRecDepth 100000
set_option maxHeartbeats 5000000
namespace LA
open PySem PySem.Spec PyProof.Rows L2 RT RZ
/-! # The calls' answers, 2 -/
theorem ints_V (L : List Nat) : (Ha03.ints L).map V.int = natV L := by
  unfold Ha03.ints natV
  rw [List.map_map]
  rfl
section
variable {P : Program} {w : World} {K : PySem.W.Frag} {mg : Str → Option Value} {base : Heap} {CT CN : Addr}
/-! log -/
theorem scLog : FnScope ["tree", "known", "behind", "answer", "thing"] ["tree", "known"] (defScope sAnsLog) := ⟨rfl, rfl, rfl, by decide +kernel, rfl, by decide +kernel, by decide +kernel⟩
def evN (e : Ha03.Event) : List Nat := [e.what, e.who, e.run]
theorem flat_len3 (l : List Ha03.Event) : (l.flatMap evN).length = 3 * l.length := by
  induction l with
  | nil => rfl
  | cons a l ih =>
    rw [List.flatMap_cons, List.length_append, ih, List.length_cons]
    show 3 + 3 * l.length = _
    omega
theorem ok_log (T : Txt K mg CT CN) (M : FDef K mg "answer_log" sAnsLog ["tree", "known"]) (n : Nat) : Fnc P w K mg base 1 "answer_log" (spAns1 CT CN (.log n) [.int (n : Nat)]) := by
  refine M.ok scLog (fun vs H Q E h => ?_) (fun f cdv A outer s H vs Q E hr h => ?_)
  · obtain ⟨g, s, _, _, rfl, _⟩ := h
    rfl
  obtain ⟨g, z, rfl, rfl, rfl, R, W, TR, hL, hA, q⟩ := h
  refine ⟨_, pss_cons (ps_set (i := 2) scLog.nd rfl (.inl rfl) (pe_slice sl_list (pe_fld (pv 0) rfl) (po_some (pv 1)) po_none))
    (pss_cons (ps_set (i := 3) scLog.nd rfl (.inl rfl) (pe_lst (pa_cons (pe_callB call_len_seq (by rfl) (bt T 0 rfl) PySem.boot_len (pa_cons (pv 2) pa_nil)) pa_nil)))
    (pss_cons (ps_for PassesOwn.never rfl (pi_list (pv 2)) (pg_name (i := 4) scLog.nd rfl (.inl rfl)) (pss_one (ps_expr (pe_bm PySem.F.plainAttrs_list PySem.F.slot_list_extend PySem.F.type_list_extend mt_extT (pv 3) (pa_cons (pv 4) pa_nil)))))
    (pss_one (ps_ret (pv 3))))), ?_⟩
  have e : Ha03.step z (.log n) = (z, Ha03.ints ((z.log.drop n).length :: (z.log.drop n).flatMap evN)) := rfl
  rw [e] at q hA
  have hA : (Ha03.ints ((z.log.drop n).length :: (z.log.drop n).flatMap evN)).length ≤ 1000000 := hA
  have la : (Ha03.ints ((z.log.drop n).length :: (z.log.drop n).flatMap evN)).length = 1 + 3 * (z.log.drop n).length := by
    unfold Ha03.ints
    rw [List.length_map, List.length_cons, flat_len3]
    omega
  obtain ⟨ps, hps, lps, evs⟩ := R.log
  refine ⟨_, rfl, g.t, g.CT, g.dt, _, _, rfl, R.tree, T.clT, tT T 3 rfl, tF_happened, _, rfl, _, rfl, g.hl, _, rfl, SqL.of hps, fun bl hbl => ?_⟩
  have ec : cutV (ps.map V.ref) (some ((n : Nat) : Int)) none = (ps.drop n).map V.ref := by
    rw [cut_from, List.map_drop]
  rw [ec]
  have lb : ((ps.drop n).map V.ref).length = (z.log.drop n).length := by rw [List.length_map, List.length_drop, List.length_drop, lps]
  refine ⟨_, rfl, bl, _, rfl, .inl (SqL.of upd_same), (by show 1 ≤ sizeLine; decide), fun al hal => ?_⟩
  have S1 : Same H (upd H bl (.lst ((ps.drop n).map V.ref))) := same_new hbl _
  have S2 := S1.trans (same_new hal (.lst [V.int (((ps.drop n).map V.ref).length : Nat)]))
  have blal : bl ≠ al := ne_of_none (H := upd H bl (.lst ((ps.drop n).map V.ref))) upd_same hal
  have al0 : H al = none := S1.free hal
  refine ⟨_, rfl, bl, rfl, ⟨_, SqL.of (by rw [upd_ne blal, upd_same])⟩, ?_⟩
  refine for_list (K := K) (a := bl) (xs := (ps.drop n).map V.ref) (fun j σ H' => ∃ v : Option V, σ = [some (.ref g.t), some (.int (n : Nat)), some (.ref bl), some (.ref al), v] ∧ Same H H' ∧ H' bl = some (.lst ((ps.drop n).map V.ref)) ∧ H' al = some (.lst (natV ((z.log.drop n).length :: ((z.log.drop n).take j).flatMap evN))))
    ⟨none, rfl, S2, (by rw [upd_ne blal, upd_same]), (by rw [upd_same, lb]; rfl)⟩ (fun j σ H' _ ⟨_, _, _, h, _⟩ => SqL.of h) ?_ ?_
  · rintro j y σ H' hy ⟨v, rfl, S3, hb3, ha3⟩
    have hj : j < (z.log.drop n).length := by
      have := (List.getElem?_eq_some_iff.mp hy).1
      omega
    have ej : (z.log.drop n)[j]? = some ((z.log.drop n)[j]'hj) := List.getElem?_eq_getElem hj
    generalize hev : (z.log.drop n)[j]'hj = ev at ej
    obtain ⟨r, er, hr1⟩ := evs (n + j) ev (by rw [List.getElem?_drop] at ej; exact ej)
    have ey : y = V.ref r := by
      rw [List.getElem?_map, List.getElem?_drop, er] at hy
      exact (Option.some.inj hy).symm
    subst ey
    refine ⟨_, rfl, .inl ⟨rfl, _, SqL.of ha3⟩, _, rfl, al, r, _, _, rfl, rfl, ha3, S3 _ _ hr1, ?_, ?_⟩
    · show (natV _).length + 3 ≤ sizeLine
      unfold natV
      rw [List.length_map, List.length_cons, flat_len3, List.length_take]
      refine Nat.le_trans ?_ (show 1000010 ≤ sizeLine by decide)
      omega
    · refine ⟨_, rfl, ?_, ?_, ?_⟩
      · intro b o e
        have : b ≠ al := ne_of_none e al0
        rw [upd_ne this]
        exact S3 _ _ e
      · rw [upd_ne blal]
        exact hb3
      · rw [upd_same, List.take_add_one, ej]
        unfold natV
        rw [List.flatMap_append, ← List.cons_append, List.map_append]
        rfl
  · rintro σ H' ⟨v, rfl, S3, hb3, ha3⟩
    rw [lb, List.take_length] at ha3
    refine ⟨_, rfl, q H' al (R.same S3) (Fram.same S3) al0 (R.nofoot al0) ?_⟩
    rw [ha3, ints_V]
/-! node -/
theorem scNode : FnScope ["tree", "number", "node"] ["tree", "number"] (defScope sAnsNode) := ⟨rfl, rfl, rfl, by decide +kernel, rfl, by decide +kernel, by decide +kernel⟩
theorem ok_node (T : Txt K mg CT CN) (M : FDef K mg "answer_node" sAnsNode ["tree", "number"]) (HN : Fnc P w K mg base 1 "has_node" (spHas CT)) (RC : Mth P w K mg base 1 CT "recent_times" (spRecent CT CN)) (i : Nat) : Fnc P w K mg base 2 "answer_node" (spAns1 CT CN (.node i) [.int (i : Nat)]) := by
  refine M.ok scNode (fun vs H Q E h => ?_) (fun f cdv A outer s H vs Q E hr h => ?_)
  · obtain ⟨g, s, _, _, rfl, _⟩ := h
    rfl
  obtain ⟨g, z, rfl, rfl, rfl, R, W, TR, hL, hA, q⟩ := h
  refine ⟨_, pss_cons (ps_if (pt_not (pt_val (pf HN hr (by decide) rfl (pa_cons (pv 0) (pa_cons (pv 1) pa_nil))))) (pss_one (ps_ret (pe_lst (pa_cons (pg (gc T 8 rfl)) pa_nil)))) pss_nil)
    (pss_cons (ps_set (i := 2) scNode.nd rfl (.inl rfl) (pe_ix ix_list (pe_fld (pv 0) rfl) (pe_op op_sub (pv 1) pe_int) (fun _ _ => rfl)))
    (pss_one (ps_ret (pe_lst (pa_cons (pe_fld (pv 2) rfl) (pa_cons (pe_ifExp (pt_val (pe_fld (pv 2) rfl)) pe_int pe_int) (pa_cons (pe_callB call_len_seq (by rfl) (bt T 0 rfl) PySem.boot_len (pa_cons (pm RC hr (by decide) (pv 0) (pa_cons (pv 2) pa_nil)) pa_nil)) (pa_cons (pe_fld (pv 2) rfl) pa_nil)))))))), ?_⟩
  refine ⟨_, rfl, _, rfl, g, z, i, rfl, rfl, R, _, rfl, ?_⟩
  refine iteB (fun b => ?_) (fun b => ?_)
  · have b : Ha03.isThere z i = false := by simpa using b
    have e : Ha03.step z (.node i) = (z, [-1]) := by
      show (z, if Ha03.isThere z i = false then [-1] else _) = _
      rw [if_pos b]
    rw [e] at q
    exact ⟨(by show 1 ≤ sizeLine; decide), q.lst R (Fram.refl g H) rfl⟩
  have b : Ha03.isThere z i = true := by simpa using b
  have hi := there_iff.mp b
  have e : Ha03.step z (.node i) = (z, Ha03.ints [Ha03.runOf z i, Ha03.flag (Ha03.now z i).gone, (recent z i).length, (Ha03.now z i).fails]) := by
    show (z, if Ha03.isThere z i = false then [-1] else _) = _
    rw [if_neg (by rw [b]; decide)]
    rfl
  rw [e] at q
  refine ⟨_, rfl, g.t, g.CT, g.dt, _, _, rfl, R.tree, T.clT, tT T 0 rfl, tF_nodes, _, rfl, _, _, rfl, rfl, g.nl, _, _, _, rfl, rfl, SqL.of R.nodes, node_at R hi.1 hi.2, ?_⟩
  obtain ⟨dx, tm, hn, ht, hh⟩ := R.node i hi.1 hi.2
  refine ⟨_, rfl, g.at i, g.CN, dx, _, _, rfl, hn, T.clN, tN T 9 rfl, nF_run, _, rfl, g.at i, g.CN, dx, _, _, rfl, hn, T.clN, tN T 10 rfl, nF_gone, _, rfl, ?_⟩
  have key : ∀ (fl : Int), fl = ((Ha03.flag (Ha03.now z i).gone : Nat) : Int) → ∀ (H1 : Hp) (p : Addr), Same H H1 → H1 p = some (.lst (natV (recent z i))) → ∀ r, H1 r = none → Q (.ref r) (upd H1 r (.lst [V.int (((Ha03.now z i).run.getD 0 : Nat) : Int), V.int fl, V.int (((natV (recent z i)).length : Nat) : Int), V.int (((Ha03.now z i).fails : Nat) : Int)])) := fun fl hfl H1 p S1 hp1 => by
    refine q.lst (R.same S1) (Fram.same S1) ?_
    have : (natV (recent z i)).length = (recent z i).length := List.length_map _
    rw [this, hfl]
    rfl
  refine iteB (fun c => ?_) (fun c => ?_)
  · refine ⟨_, rfl, g.t, g.dt, _, rfl, R.tree, no_tree 0, _, rfl, g, z, i, rfl, rfl, rfl, R, hi.1, hi.2, (by have := W.times i; omega), fun H1 p S1 hp hp1 => ?_⟩
    refine ⟨p, _, rfl, .inl (SqL.of hp1), _, rfl, g.at i, g.CN, dx, _, _, rfl, S1 _ _ hn, T.clN, tN T 12 rfl, nF_failing, (by show 4 ≤ sizeLine; decide), key 1 (by rw [c]; rfl) H1 p S1 hp1⟩
  · refine ⟨_, rfl, g.t, g.dt, _, rfl, R.tree, no_tree 0, _, rfl, g, z, i, rfl, rfl, rfl, R, hi.1, hi.2, (by have := W.times i; omega), fun H1 p S1 hp hp1 => ?_⟩
    refine ⟨p, _, rfl, .inl (SqL.of hp1), _, rfl, g.at i, g.CN, dx, _, _, rfl, S1 _ _ hn, T.clN, tN T 12 rfl, nF_failing, (by show 4 ≤ sizeLine; decide), key 0 (by rw [c]; rfl) H1 p S1 hp1⟩
/-! up -/
theorem scUp : FnScope ["tree", "running", "node"] ["tree"] (defScope sAnsUp) := ⟨rfl, rfl, rfl, by decide +kernel, rfl, by decide +kernel, by decide +kernel⟩
def upsTo (s : Ha03.St) (j : Nat) : List Nat := ((List.range j).map fun k => k + 1).filter (Ha03.running s)
theorem upsTo_succ (s : Ha03.St) (j : Nat) : upsTo s (j + 1) = upsTo s j ++ (if Ha03.running s (j + 1) = true then [j + 1] else []) := by
  unfold upsTo
  rw [List.range_succ, List.map_append, List.filter_append]
  congr 1
  show List.filter (Ha03.running s) [j + 1] = _
  by_cases h : Ha03.running s (j + 1) = true
  · rw [List.filter_cons_of_pos h, if_pos h]; rfl
  · rw [List.filter_cons_of_neg h, if_neg h]; rfl
theorem upsTo_len (s : Ha03.St) (j : Nat) : (upsTo s j).length ≤ j := by
  unfold upsTo
  refine Nat.le_trans (List.length_filter_le _ _) ?_
  rw [show _ = _ from List.length_map _, List.length_range]
  exact Nat.le_refl _
theorem ok_up (T : Txt K mg CT CN) (M : FDef K mg "answer_up" sAnsUp ["tree"]) : Fnc P w K mg base 1 "answer_up" (spAns1 CT CN .up []) := by
  refine M.ok scUp (fun vs H Q E h => ?_) (fun f cdv A outer s H vs Q E hr h => ?_)
  · obtain ⟨g, s, _, _, rfl, _⟩ := h
    rfl
  obtain ⟨g, z, rfl, rfl, rfl, R, W, TR, hL, hA, q⟩ := h
  refine ⟨_, pss_cons (ps_setLc (i := 1) (own := [("node", 2)]) (g := gName 2) (tt := tTest (tOp (rI0 fun i j => .bl (decide (j < i))) (tFld K (tVar 2) "run") (tC (.int 0)))) (te := tFld K (tVar 2) "number") rfl scUp.nd rfl rfl (sw_true rfl rfl rfl (by decide +kernel))
      (pi_list (pe_fld (pv 0) rfl)) (blkOk_by (N := ["tree", "running", "node"]) (sc := defScope sAnsUp) (by decide +kernel))
      (fun _ _ _ _ _ => pg_name (i := 2) scUp.nd rfl (.inl rfl)) (fun _ _ _ _ _ => by exact pts_one (pt_cmpR op_gt (pe_fld (pv 2) rfl) pe_int (nomark _))) (fun _ _ _ _ _ => by exact pe_fld (pv 2) rfl))
    (pss_one (ps_ret (pe_op op_cat (pe_lst (pa_cons (pe_callB call_len_seq (by rfl) (bt T 0 rfl) PySem.boot_len (pa_cons (pv 1) pa_nil)) pa_nil)) (pv 1)))), ?_⟩
  have e : Ha03.step z .up = (z, Ha03.ints ((upsTo z z.nodes.length).length :: upsTo z z.nodes.length)) := rfl
  rw [e] at q
  have l14 := W.t.len14
  have hlen : (g.as.map V.ref).length = z.nodes.length := by rw [List.length_map, R.len]
  refine ⟨_, rfl, g.t, g.CT, g.dt, _, _, rfl, R.tree, T.clT, tT T 0 rfl, tF_nodes, g.nl, rfl, ⟨_, SqL.of R.nodes⟩, fun D hD => ?_⟩
  refine lc_list (K := K) (a := g.nl) (xs := g.as.map V.ref) (fun j H' => Same H H' ∧ H' D = some (.lst (natV (upsTo z j)))) ⟨same_new hD _, upd_same⟩ (fun j H' _ p => SqL.of (p.1 _ _ R.nodes)) ?_ ?_
  · rintro j y H' hy ⟨S1, hD1⟩
    have hj : j < z.nodes.length := by
      have := (List.getElem?_eq_some_iff.mp hy).1
      omega
    have ey : y = V.ref (g.at (j + 1)) := by
      have a := at_get (g := g) (i := j + 1) (by omega) (by rw [R.len]; omega)
      rw [show j + 1 - 1 = j by omega] at a
      rw [List.getElem?_map, a] at hy
      exact (Option.some.inj hy).symm
    subst ey
    obtain ⟨dx, tm, hn, _, _⟩ := R.node (j + 1) (by omega) (by omega)
    refine ⟨rfl, _, rfl, g.at (j + 1), g.CN, dx, _, _, rfl, S1 _ _ hn, T.clN, tN T 9 rfl, nF_run, _, _, rfl, rfl, _, rfl, ?_⟩
    rw [run_pos W]
    have us := upsTo_succ z j
    refine iteB (fun b => ?_) (fun b => ?_)
    · rw [if_pos b] at us
      refine ⟨_, rfl, g.at (j + 1), g.CN, dx, _, _, rfl, S1 _ _ hn, T.clN, tN T 0 rfl, nF_number, _, hD1, ?_, ?_, ?_⟩
      · unfold natV
        rw [List.length_map]
        exact small1000 (Nat.le_trans (upsTo_len z j) (by omega))
      · intro b o e
        have : b ≠ D := ne_of_none e hD
        rw [upd_ne this]
        exact S1 _ _ e
      · rw [upd_same, us]
        unfold natV
        rw [List.map_append]
        rfl
    · rw [if_neg (by rw [b]; decide), List.append_nil] at us
      exact ⟨S1, by rw [us]; exact hD1⟩
  · rintro H' ⟨S1, hD1⟩
    rw [hlen] at hD1
    have ul := upsTo_len z z.nodes.length
    have nl : (natV (upsTo z z.nodes.length)).length = (upsTo z z.nodes.length).length := List.length_map _
    refine ⟨_, rfl, D, _, rfl, .inl (SqL.of hD1), (by show 1 ≤ sizeLine; decide), fun c hc => ?_⟩
    have R2 := (R.same S1).new hc (.lst [V.int ((natV (upsTo z z.nodes.length)).length : Nat)])
    have F2 : Fram g H _ := (Fram.same S1).trans (Fram.new hc (.lst [V.int ((natV (upsTo z z.nodes.length)).length : Nat)]))
    refine ⟨_, rfl, c, D, _, _, rfl, rfl, upd_same, (by rw [upd_ne (ne_of_none hD1 hc)]; exact hD1), ?_, ?_⟩
    · rw [nl]
      exact Nat.le_of_lt (small1000 (by show 1 + (upsTo z z.nodes.length).length ≤ 1000; omega))
    · refine q.lst R2 F2 ?_
      rw [ints_V, nl]
      rfl
/-! tree -/
def GivesG (g : G) (H : Hp) (s' : Ha03.St) (ans : List Int) (Q : VK) : Prop := ∀ (g' : G) (H' : Hp) (p : Addr), g'.CT = g.CT → g'.CN = g.CN → g'.t = g.t → g'.av = g.av → Rep g' H' s' → Fram g H H' → (∀ b, foot g' b → foot g b ∨ H b = none) → H p = none → ¬ foot g' p → H' p = some (.lst (ans.map V.int)) → Q (.ref p) H'
theorem GivesG.one {g : G} {H : Hp} {s' : Ha03.St} {ans : List Int} {Q : VK} (q : GivesG g H s' ans Q) : Gives g H s' ans Q := fun H' p R F hp nf e => q g H' p rfl rfl rfl rfl R F (fun b h => .inl h) hp nf e
theorem scATree : FnScope ["tree", "numbers"] ["tree", "numbers"] (defScope sAnsTree) := ⟨rfl, rfl, rfl, by decide +kernel, rfl, by decide +kernel, by decide +kernel⟩
def spATree (CT CN : Addr) : Sp := fun vs H Q _ => ∃ (g : G) (s : Ha03.St) (a : Addr) (l : List Nat), g.CT = CT ∧ g.CN = CN ∧ vs = [.ref g.t, .ref a] ∧ H a = some (.lst (natV l)) ∧ l.length ≤ 96 ∧ Rep g H s ∧ GivesG g H (Ha03.step s (.tree l)).1 (Ha03.step s (.tree l)).2 Q
theorem ok_aTree (T : Txt K mg CT CN) (M : FDef K mg "answer_tree" sAnsTree ["tree", "numbers"]) (IT : Fnc P w K mg base 2 "is_tree" spIsTree) (PT : Mth P w K mg base 4 CT "plant" (spPlant CT CN)) : Fnc P w K mg base 5 "answer_tree" (spATree CT CN) := by
  refine M.ok scATree (fun vs H Q E h => ?_) (fun f cdv A outer s H vs Q E hr h => ?_)
  · obtain ⟨g, s, a, l, _, _, rfl, _⟩ := h
    rfl
  obtain ⟨g, z, a, l, rfl, rfl, rfl, ha, l96, R, q⟩ := h
  refine ⟨_, pss_cons (ps_if (pt_not (pt_val (pf IT hr (by decide) rfl (pa_cons (pv 1) pa_nil)))) (pss_one (ps_ret (pe_lst (pa_cons (pg (gc T 8 rfl)) pa_nil)))) pss_nil)
    (pss_cons (ps_expr (pm PT hr (by decide) (pv 0) (pa_cons (pv 1) pa_nil)))
    (pss_one (ps_ret (pe_lst (pa_cons (pe_callB call_len_seq (by rfl) (bt T 0 rfl) PySem.boot_len (pa_cons (pe_fld (pv 0) rfl) pa_nil)) pa_nil))))), ?_⟩
  refine ⟨_, rfl, a, l, rfl, ha, l96, fun H1 S1 => ⟨_, rfl, ?_⟩⟩
  have R1 := R.same S1
  cases ht : Ha03.treeOf l with
  | none =>
    refine iteT ?_
    have e : Ha03.step z (.tree l) = (z, [-1]) := by
      show (match Ha03.treeOf l with | none => (z, [-1]) | some ns => (Ha03.fresh ns, Ha03.ints [ns.length])) = _
      rw [ht]
    rw [e] at q
    exact ⟨(by show 1 ≤ sizeLine; decide), q.one.lst R1 (Fram.same S1) rfl⟩
  | some N =>
    refine iteF ?_
    have e : Ha03.step z (.tree l) = (Ha03.fresh N, Ha03.ints [N.length]) := by
      show (match Ha03.treeOf l with | none => (z, [-1]) | some ns => (Ha03.fresh ns, Ha03.ints [ns.length])) = _
      rw [ht]
    rw [e] at q
    refine ⟨_, rfl, g.t, g.dt, _, rfl, R1.tree, no_tree 0, _, rfl, g.t, g.dt, a, _, l, N, g.av, (fun v e => (R1.av v e).2), rfl, R1.tree, .inr ⟨_, _, _, _, rfl⟩, S1 _ _ ha, ht, fun g' H2 g1 g2 g3 g4 R2 k2 fo => ?_⟩
    have hl : (g'.as.map V.ref).length = N.length := by rw [List.length_map, R2.len]; rfl
    have tr : H2 g.t = some (.ins g.CT g'.dt (treeF g' (Ha03.fresh N).time (Ha03.fresh N).last)) := by
      rw [← g3, ← g1]
      exact R2.tree
    refine ⟨_, rfl, g.t, g.CT, g'.dt, _, _, rfl, tr, T.clT, tT T 0 rfl, tF_nodes, g'.nl, _, rfl, .inl (SqL.of R2.nodes), (by show 1 ≤ sizeLine; decide), fun p hp => ?_⟩
    have F2 : Fram g H H2 := fun b o e nf => k2 b o (S1 b o e) (fun x => nf (.inl x))
    have p0 : H p = none := by
      cases e : H p with
      | none => rfl
      | some o =>
        by_cases pt : p = g.t
        · rw [pt, tr] at hp
          cases hp
        · rw [k2 p o (S1 p o e) pt] at hp
          cases hp
    refine q g' _ p g1 g2 g3 g4 (R2.new hp _) (F2.trans (Fram.new hp _)) (fun b hb => ?_) p0 (R2.nofoot hp) ?_
    · rcases fo b hb with x | x
      · exact .inl (.inl x)
      · exact .inr (S1.free x)
    · rw [upd_same, hl]
      rfl
end
end LA
set_option maxRecDepth 100000
set_option maxHeartbeats 5000000
namespace LA
open PySem PySem.Spec PyProof.Rows L2 RT RZ
/-! # answer_call -/
def noOf : Ha03.Call → Nat
  | .tree _ => 0
  | .fail _ _ => 1
  | .begin_ => 2
  | .die _ _ => 3
  | .time _ => 4
  | .stop_ => 5
  | .log _ => 6
  | .node _ => 7
  | .up => 8
def argsOf : Ha03.Call → List Nat
  | .tree l => l
  | .fail i n => [i, n]
  | .begin_ => []
  | .die i h => [i, h]
  | .time t => [t]
  | .stop_ => []
  | .log n => [n]
  | .node i => [i]
  | .up => []
def spCall (CT CN : Addr) : Sp := fun vs H Q _ => ∃ (g : G) (s : Ha03.St) (tl : Addr) (c : Ha03.Call), g.CT = CT ∧ g.CN = CN ∧ vs = [.ref g.t, .int (noOf c : Nat), .ref tl] ∧ H tl = some (.lst (natV (argsOf c))) ∧ (argsOf c).length ≤ 96 ∧ Rep g H s ∧ WF 5 s ∧ TRI s ∧ (Ha03.step s c).1.log.length ≤ LOGMAX ∧ (Ha03.step s c).2.length ≤ 1000000 ∧ GivesG g H (Ha03.step s c).1 (Ha03.step s c).2 Q
/-- all the defs that it calls -/
structure Answers (P : Program) (w : World) (K : PySem.W.Frag) (mg : Str → Option Value) (base : Heap) (CT CN : Addr) (k : Nat) : Prop where
  tree : Fnc P w K mg base k "answer_tree" (spATree CT CN)
  fail : ∀ i n, Fnc P w K mg base k "answer_fail" (spAns1 CT CN (.fail i n) [.int (i : Nat), .int (n : Nat)])
  begin_ : Fnc P w K mg base k "answer_begin" (spAns1 CT CN .begin_ [])
  die : ∀ i h, Fnc P w K mg base k "answer_die" (spAns1 CT CN (.die i h) [.int (i : Nat), .int (h : Nat)])
  time : ∀ t, Fnc P w K mg base k "answer_time" (spAns1 CT CN (.time t) [.int (t : Nat)])
  stop_ : Fnc P w K mg base k "answer_stop" (spAns1 CT CN .stop_ [])
  log : ∀ n, Fnc P w K mg base k "answer_log" (spAns1 CT CN (.log n) [.int (n : Nat)])
  node : ∀ i, Fnc P w K mg base k "answer_node" (spAns1 CT CN (.node i) [.int (i : Nat)])
  up : Fnc P w K mg base k "answer_up" (spAns1 CT CN .up [])
theorem Fnc.mono {P : Program} {w : World} {K : PySem.W.Frag} {mg : Str → Option Value} {base : Heap} {k j : Nat} {x : Str} {sp : Sp} (c : Fnc P w K mg base k x sp) (h : k ≤ j) : Fnc P w K mg base j x sp := by
  obtain ⟨f, fd, ps, F, hm, kp, b⟩ := c.ex
  exact ⟨f, fd, ps, F.mono h, hm, kp, b⟩
def tEqN (n : Int) : TT := tTest (tOp rEq (tVar 1) (tC (.int n)))
def tArg (K : PySem.W.Frag) (j : Int) : TE := tOp (rIxL K) (tVar 2) (tC (.int j))
def t_call (K : PySem.W.Frag) (s0 s1 s2 s3 s4 s5 s6 s7 s8 : Sp) : TS :=
  tSeq (tIfS (tEqN 0) (tRet (tCall s0 [] E0 (tCons (tVar 0) (tCons (tVar 2) tNil)))) tNext)
  (tSeq (tIfS (tEqN 1) (tRet (tCall s1 [] E0 (tCons (tVar 0) (tCons (tArg K 0) (tCons (tArg K 1) tNil))))) tNext)
  (tSeq (tIfS (tEqN 2) (tRet (tCall s2 [] E0 (tCons (tVar 0) tNil))) tNext)
  (tSeq (tIfS (tEqN 3) (tRet (tCall s3 [] E0 (tCons (tVar 0) (tCons (tArg K 0) (tCons (tArg K 1) tNil))))) tNext)
  (tSeq (tIfS (tEqN 4) (tRet (tCall s4 [] E0 (tCons (tVar 0) (tCons (tArg K 0) tNil)))) tNext)
  (tSeq (tIfS (tEqN 5) (tRet (tCall s5 [] E0 (tCons (tVar 0) tNil))) tNext)
  (tSeq (tIfS (tEqN 6) (tRet (tCall s6 [] E0 (tCons (tVar 0) (tCons (tArg K 0) tNil)))) tNext)
  (tSeq (tIfS (tEqN 7) (tRet (tCall s7 [] E0 (tCons (tVar 0) (tCons (tArg K 0) tNil)))) tNext)
  (tRet (tCall s8 [] E0 (tCons (tVar 0) tNil)))))))))) 
section
variable {P : Program} {w : World} {K : PySem.W.Frag} {mg : Str → Option Value} {base : Heap} {CT CN : Addr}
theorem scCall : FnScope ["tree", "call", "told"] ["tree", "call", "told"] (defScope sAnsCall) := ⟨rfl, rfl, rfl, by decide +kernel, rfl, by decide +kernel, by decide +kernel⟩
theorem eqN_is {n : Nat} {D : Ends} {t u : TS} {σ : L2.St} {H : Hp} {a b : Addr} {k : Nat} (hσ : σ = [some (.ref a), some (.int (k : Nat)), some (.ref b)]) (h : if k = n then t D σ H else u D σ H) : tIfS (tEqN ((n : Nat) : Int)) t u D σ H := by
  subst hσ
  refine ⟨_, rfl, rfl, _, rfl, ?_⟩
  show if decide (V.int ((k : Nat) : Int) = V.int ((n : Nat) : Int)) = true then _ else _
  rw [int_eq_nat]
  by_cases e : k = n
  · rw [if_pos e] at h
    rw [decide_eq_true e, if_pos rfl]
    exact h
  · rw [if_neg e] at h
    rw [decide_eq_false e, if_neg (by decide)]
    exact h
theorem skipN {n : Nat} {D : Ends} {t u : TS} {σ : L2.St} {H : Hp} {a b : Addr} {k : Nat} (hσ : σ = [some (.ref a), some (.int (k : Nat)), some (.ref b)]) (hn : Nat.beq k n = false) (h : u D σ H) : tSeq (tIfS (tEqN ((n : Nat) : Int)) t tNext) u D σ H := eqN_is hσ (by rw [if_neg (Nat.ne_of_beq_eq_false hn)]; exact h)
theorem takeN {n : Nat} {D : Ends} {t u : TS} {σ : L2.St} {H : Hp} {a b : Addr} {k : Nat} (hσ : σ = [some (.ref a), some (.int (k : Nat)), some (.ref b)]) (hn : k = n) (h : t { D with nx := u D } σ H) : tSeq (tIfS (tEqN ((n : Nat) : Int)) t tNext) u D σ H := eqN_is hσ (by rw [if_pos hn]; exact h)
theorem arg0 {l : List Nat} {x : Nat} (h : l[0]? = some x) : atI (natV l) 0 = some (.int (x : Nat)) := atI_nat (j := 0) (by unfold natV; rw [List.getElem?_map, h]; rfl)
theorem arg1 {l : List Nat} {x : Nat} (h : l[1]? = some x) : atI (natV l) 1 = some (.int (x : Nat)) := atI_nat (j := 1) (by unfold natV; rw [List.getElem?_map, h]; rfl)
theorem ok_call (T : Txt K mg CT CN) (M : FDef K mg "answer_call" sAnsCall ["tree", "call", "told"]) {k : Nat} (AN : Answers P w K mg base CT CN k) : Fnc P w K mg base (k + 1) "answer_call" (spCall CT CN) := by
  refine M.ok scCall (fun vs H Q E h => ?_) (fun f cdv A outer s H vs Q E hr h => ?_)
  · obtain ⟨g, s, tl, c, _, _, rfl, _⟩ := h
    rfl
  obtain ⟨g, z, tl, c, rfl, rfl, rfl, htl, l96, R, W, TR, hL, hA, q⟩ := h
  have B : ∀ (i n di dh t ln ni : Nat), PSs (cxOf CX0 P w K mg base ["tree", "call", "told"] "answer_call" (defScope sAnsCall) f cdv A outer s H E).nox (defBody sAnsCall)
      (t_call K (spATree g.CT g.CN) (spAns1 g.CT g.CN (.fail i n) [.int (i : Nat), .int (n : Nat)]) (spAns1 g.CT g.CN .begin_ []) (spAns1 g.CT g.CN (.die di dh) [.int (di : Nat), .int (dh : Nat)]) (spAns1 g.CT g.CN (.time t) [.int (t : Nat)]) (spAns1 g.CT g.CN .stop_ []) (spAns1 g.CT g.CN (.log ln) [.int (ln : Nat)]) (spAns1 g.CT g.CN (.node ni) [.int (ni : Nat)]) (spAns1 g.CT g.CN .up [])) := fun i n di dh t ln ni =>
    pss_cons (ps_if (pt_cmpR op_eq (pv 1) (pg (gc T 0 rfl)) (nomark _)) (pss_one (ps_ret (pf AN.tree hr (Nat.le_refl _) rfl (pa_cons (pv 0) (pa_cons (pv 2) pa_nil))))) pss_nil)
    (pss_cons (ps_if (pt_cmpR op_eq (pv 1) (pg (gc T 1 rfl)) (nomark _)) (pss_one (ps_ret (pf (AN.fail i n) hr (Nat.le_refl _) rfl (pa_cons (pv 0) (pa_cons (pe_ix ix_list (pv 2) pe_int (fun _ _ => rfl)) (pa_cons (pe_ix ix_list (pv 2) pe_int (fun _ _ => rfl)) pa_nil)))))) pss_nil)
    (pss_cons (ps_if (pt_cmpR op_eq (pv 1) (pg (gc T 2 rfl)) (nomark _)) (pss_one (ps_ret (pf AN.begin_ hr (Nat.le_refl _) rfl (pa_cons (pv 0) pa_nil)))) pss_nil)
    (pss_cons (ps_if (pt_cmpR op_eq (pv 1) (pg (gc T 3 rfl)) (nomark _)) (pss_one (ps_ret (pf (AN.die di dh) hr (Nat.le_refl _) rfl (pa_cons (pv 0) (pa_cons (pe_ix ix_list (pv 2) pe_int (fun _ _ => rfl)) (pa_cons (pe_ix ix_list (pv 2) pe_int (fun _ _ => rfl)) pa_nil)))))) pss_nil)
    (pss_cons (ps_if (pt_cmpR op_eq (pv 1) (pg (gc T 4 rfl)) (nomark _)) (pss_one (ps_ret (pf (AN.time t) hr (Nat.le_refl _) rfl (pa_cons (pv 0) (pa_cons (pe_ix ix_list (pv 2) pe_int (fun _ _ => rfl)) pa_nil))))) pss_nil)
    (pss_cons (ps_if (pt_cmpR op_eq (pv 1) (pg (gc T 5 rfl)) (nomark _)) (pss_one (ps_ret (pf AN.stop_ hr (Nat.le_refl _) rfl (pa_cons (pv 0) pa_nil)))) pss_nil)
    (pss_cons (ps_if (pt_cmpR op_eq (pv 1) (pg (gc T 6 rfl)) (nomark _)) (pss_one (ps_ret (pf (AN.log ln) hr (Nat.le_refl _) rfl (pa_cons (pv 0) (pa_cons (pe_ix ix_list (pv 2) pe_int (fun _ _ => rfl)) pa_nil))))) pss_nil)
    (pss_cons (ps_if (pt_cmpR op_eq (pv 1) (pg (gc T 7 rfl)) (nomark _)) (pss_one (ps_ret (pf (AN.node ni) hr (Nat.le_refl _) rfl (pa_cons (pv 0) (pa_cons (pe_ix ix_list (pv 2) pe_int (fun _ _ => rfl)) pa_nil))))) pss_nil)
    (pss_one (ps_ret (pf AN.up hr (Nat.le_refl _) rfl (pa_cons (pv 0) pa_nil)))))))))))
  cases c with
  | tree l =>
    refine ⟨_, B 0 0 0 0 0 0 0, ?_⟩
    refine takeN (n := 0) rfl rfl ?_
    exact ⟨_, rfl, _, rfl, g, z, tl, l, rfl, rfl, rfl, htl, l96, R, q⟩
  | fail i n =>
    refine ⟨_, B i n 0 0 0 0 0, ?_⟩
    refine skipN (n := 0) rfl rfl (takeN (n := 1) rfl rfl ?_)
    exact ⟨_, rfl, _, rfl, tl, _, 0, _, rfl, rfl, SqL.of htl, arg0 rfl, _, rfl, tl, _, 1, _, rfl, rfl, SqL.of htl, arg1 rfl, g, z, rfl, rfl, rfl, R, W, TR, hL, hA, q.one⟩
  | begin_ =>
    refine ⟨_, B 0 0 0 0 0 0 0, ?_⟩
    refine skipN (n := 0) rfl rfl (skipN (n := 1) rfl rfl (takeN (n := 2) rfl rfl ?_))
    exact ⟨_, rfl, g, z, rfl, rfl, rfl, R, W, TR, hL, hA, q.one⟩
  | die i h =>
    refine ⟨_, B 0 0 i h 0 0 0, ?_⟩
    refine skipN (n := 0) rfl rfl (skipN (n := 1) rfl rfl (skipN (n := 2) rfl rfl (takeN (n := 3) rfl rfl ?_)))
    exact ⟨_, rfl, _, rfl, tl, _, 0, _, rfl, rfl, SqL.of htl, arg0 rfl, _, rfl, tl, _, 1, _, rfl, rfl, SqL.of htl, arg1 rfl, g, z, rfl, rfl, rfl, R, W, TR, hL, hA, q.one⟩
  | time t =>
    refine ⟨_, B 0 0 0 0 t 0 0, ?_⟩
    refine skipN (n := 0) rfl rfl (skipN (n := 1) rfl rfl (skipN (n := 2) rfl rfl (skipN (n := 3) rfl rfl (takeN (n := 4) rfl rfl ?_))))
    exact ⟨_, rfl, _, rfl, tl, _, 0, _, rfl, rfl, SqL.of htl, arg0 rfl, g, z, rfl, rfl, rfl, R, W, TR, hL, hA, q.one⟩
  | stop_ =>
    refine ⟨_, B 0 0 0 0 0 0 0, ?_⟩
    refine skipN (n := 0) rfl rfl (skipN (n := 1) rfl rfl (skipN (n := 2) rfl rfl (skipN (n := 3) rfl rfl (skipN (n := 4) rfl rfl (takeN (n := 5) rfl rfl ?_)))))
    exact ⟨_, rfl, g, z, rfl, rfl, rfl, R, W, TR, hL, hA, q.one⟩
  | log n =>
    refine ⟨_, B 0 0 0 0 0 n 0, ?_⟩
    refine skipN (n := 0) rfl rfl (skipN (n := 1) rfl rfl (skipN (n := 2) rfl rfl (skipN (n := 3) rfl rfl (skipN (n := 4) rfl rfl (skipN (n := 5) rfl rfl (takeN (n := 6) rfl rfl ?_))))))
    exact ⟨_, rfl, _, rfl, tl, _, 0, _, rfl, rfl, SqL.of htl, arg0 rfl, g, z, rfl, rfl, rfl, R, W, TR, hL, hA, q.one⟩
  | node i =>
    refine ⟨_, B 0 0 0 0 0 0 i, ?_⟩
    refine skipN (n := 0) rfl rfl (skipN (n := 1) rfl rfl (skipN (n := 2) rfl rfl (skipN (n := 3) rfl rfl (skipN (n := 4) rfl rfl (skipN (n := 5) rfl rfl (skipN (n := 6) rfl rfl (takeN (n := 7) rfl rfl ?_)))))))
    exact ⟨_, rfl, _, rfl, tl, _, 0, _, rfl, rfl, SqL.of htl, arg0 rfl, g, z, rfl, rfl, rfl, R, W, TR, hL, hA, q.one⟩
  | up =>
    refine ⟨_, B 0 0 0 0 0 0 0, ?_⟩
    refine skipN (n := 0) rfl rfl (skipN (n := 1) rfl rfl (skipN (n := 2) rfl rfl (skipN (n := 3) rfl rfl (skipN (n := 4) rfl rfl (skipN (n := 5) rfl rfl (skipN (n := 6) rfl rfl (skipN (n := 7) rfl rfl ?_)))))))
    exact ⟨_, rfl, g, z, rfl, rfl, rfl, R, W, TR, hL, hA, q.one⟩
end
end LA
set_option maxRecDepth 100000
namespace LA
/-! # From call to call -/
theorem now_fresh_run (N : List Ha03.Node) (i : Nat) : (Ha03.now (Ha03.fresh N) i).run = none := by rw [fresh_now]; rfl
theorem sum_zero : ∀ (l : List Ha03.Node), ((l.map fun _ => Ha03.noNow).map up1).sum = 0
  | [] => rfl
  | a :: l => by
    rw [List.map_cons, List.map_cons, List.sum_cons, sum_zero l]
    rfl
theorem good_fresh {N : List Ha03.Node} (W : WT N) : Good 0 (Ha03.fresh N) := by
  refine ⟨⟨W, by show (N.map _).length = _; rw [List.length_map]; rfl, ?_, ?_, ?_, ?_⟩, ?_, ?_⟩
  · intro i r h
    rw [now_fresh_run] at h
    cases h
  · intro i
    rw [fresh_now]
    exact Nat.zero_le _
  · intro i
    rw [fresh_now]
    exact Nat.zero_le _
  · rw [fresh_now]
    rfl
  · intro k _ _ h
    unfold Ha03.running at h
    rw [now_fresh_run] at h
    cases h
  · show 0 + (((N.map fun _ => Ha03.noNow).map up1).sum) ≤ _
    rw [sum_zero]
    exact Nat.le_refl _
theorem good_step {k : Nat} {s : Ha03.St} (g : Good k s) (c : Ha03.Call) : Good (k + 1) (Ha03.step s c).1 := by
  have W := g.w
  have same : Good (k + 1) s := g.mono (by omega)
  have K := KeepP.of W
  have l1 := W.t.len1
  have pk := g.p
  cases c with
  | tree l =>
    show Good (k + 1) (match Ha03.treeOf l with | none => (s, [-1]) | some ns => (Ha03.fresh ns, Ha03.ints [ns.length])).1
    cases h : Ha03.treeOf l with
    | none => exact same
    | some N => exact (good_fresh (rows_of h).wt).mono (by omega)
  | fail i n =>
    show Good (k + 1) (if Ha03.isThere s i = false ∨ 20 < n then (s, [-1]) else (Ha03.setNow s i { Ha03.now s i with fails := n }, [0])).1
    split
    · exact same
    · rename_i h
      have hi : 1 ≤ i ∧ i ≤ s.nodes.length := there_iff.mp (by
        cases e : Ha03.isThere s i with
        | true => rfl
        | false => exact absurd (.inl e) h)
      have h20 : n ≤ 20 := by omega
      have e : Ha03.setNow s i { Ha03.now s i with fails := n } = upd1 s i (fun x => { x with fails := n }) := setNow_upd s i (fun x => { x with fails := n })
      refine ⟨W.set (W.pos i) h20 (W.times i) hi.1 (fun z => W.root' z), ?_, ?_⟩
      · show TRI (Ha03.setNow s i { Ha03.now s i with fails := n })
        rw [e]
        exact TRI.upd (g := fun x => { x with fails := n }) g.t ⟨fun _ => rfl, fun _ => rfl⟩ i
      · have := (K.set (x := { Ha03.now s i with fails := n }) hi.1 hi.2 (Nat.le_refl _)).b
        exact Nat.le_trans this (by omega)
  | begin_ =>
    show Good (k + 1) (if Ha03.running s 1 = true then (s, [-8]) else ((Start s 1).1, _)).1
    split
    · exact same
    · rename_i h
      have off : Ha03.running s 1 = false := Bool.eq_false_iff.mpr h
      refine ⟨W.start 20 (Nat.le_refl _), start_tri W.t 20 s 1 rfl W.len g.t (tri_down W.t g.t (Nat.le_refl _) off) (.inl rfl) (Nat.le_refl _) l1 (by decide), ?_⟩
      have b := (start_P W.t 20 s 1 _ (Nat.le_refl _) l1 K).b
      have d := desc_len W.t (Nat.le_refl 1) l1 20
      refine Nat.le_trans b ?_
      omega
  | die i how =>
    show Good (k + 1) (if Ha03.isThere s i = false ∨ 1 < how ∨ (Ha03.node s i).isSup = true then (s, [-1]) else if Ha03.running s i = false then (s, [-8]) else (Ha03.dies s i how, _)).1
    split
    · exact same
    · rename_i h
      split
      · exact same
      · rename_i hr
        have hi : 1 ≤ i ∧ i ≤ s.nodes.length := there_iff.mp (by
          cases e : Ha03.isThere s i with
          | true => rfl
          | false => exact absurd (.inl e) h)
        have ws : (nd s.nodes i).isSup = false := by
          cases e : (nd s.nodes i).isSup with
          | false => rfl
          | true => exact absurd (.inr (.inr e)) h
        have rt : Ha03.running s i = true := by
          cases e : Ha03.running s i with
          | true => rfl
          | false => exact absurd e hr
        have i2 := worker2 W.t hi.1 ws
        have pp := W.t.par i i2 hi.2
        have off : Ha03.running (died s i) i = false := by
          rw [running_run]
          unfold died
          rw [now_same (by show i - 1 < s.nows.length; rw [W.len]; omega)]
        refine ⟨WF_dies W hi.1 hi.2 ws, ?_, ?_⟩
        · show TRI (Ha03.dies s i how)
          rw [dies_eq]
          refine (tri_again 4000).1 _ _ _ _ (W.died hi.1) (died_tri W g.t hi.1 hi.2 ws) hi.1 hi.2 rfl off fun _ => ?_
          have e2 : Ha03.running (died s i) (nd s.nodes i).parent = Ha03.running s (nd s.nodes i).parent := off_of (by
            unfold died
            rw [now_ne hi.1 pp.1 (by omega), now_says])
          rw [e2]
          exact g.t i i2 hi.2 rt
        · show Phi (Ha03.dies s i how) ≤ _
          rw [dies_eq]
          have kd : KeepP s.nodes (Phi s + 1) (died s i) := (K.says ⟨2, i, Ha03.runOf s i⟩).set hi.1 hi.2 (Nat.zero_le _)
          have b := ((P_again W.t 4000).1 (died s i) (nd s.nodes i).parent i how _ kd (.inr ⟨pp.1, mem_kids.mpr ⟨hi.1, hi.2, rfl⟩⟩)).b
          refine Nat.le_trans b ?_
          omega
  | time t =>
    show Good (k + 1) (if t < s.time ∨ 1000000 < t then (s, [-1]) else ({ s with time := t }, _)).1
    split
    · exact same
    · exact ⟨W.time t, g.t.same rfl fun _ => rfl, Nat.le_trans pk (by omega)⟩
  | stop_ =>
    show Good (k + 1) (if Ha03.running s 1 = false then (s, [-8]) else (Halt s 1, _)).1
    split
    · exact same
    · refine ⟨W.halt 20 (Nat.le_refl _), (halt_tri W.t 20 s 1 rfl g.t (Nat.le_refl _) l1 (by decide)).2, ?_⟩
      exact Nat.le_trans (K.halt W.t 20 (Nat.le_refl _) l1).b (by omega)
  | log n => exact same
  | node i => exact same
  | up => exact same
/-! # The calls, read off the list -/
theorem whole_id (c : List (List Int)) : PyHa03.whole c = c := by
  unfold PyHa03.whole
  split <;> rfl
theorem map_whole : ∀ (cs : List (List (List Int))), cs.map PyHa03.whole = cs
  | [] => rfl
  | c :: cs => by rw [List.map_cons, whole_id, map_whole cs]
def sizeTab : List (Int × Int) := [(1, 2), (2, 0), (3, 2), (4, 1), (5, 0), (6, 1), (7, 1), (8, 0)]
/-- one call, as it stands in the list: its header, its numbers -/
structure Reads (rest hdr args t : List Int) (x : Ha03.Call) : Prop where
  eq : rest = hdr ++ (args ++ t)
  ar : args = (argsOf x).map fun (n : Nat) => (n : Int)
  hdr : (noOf x = 0 ∧ hdr = [0, (args.length : Int)]) ∨ (noOf x ≠ 0 ∧ hdr = [((noOf x : Nat) : Int)] ∧ (((noOf x : Nat) : Int), (args.length : Int)) ∈ sizeTab)
  le : (argsOf x).length ≤ 96
theorem nat_back : ∀ {l : List Int}, l.all Ha03Neutral.nat = true → l = (l.map Int.toNat).map fun (n : Nat) => (n : Int)
  | [], _ => rfl
  | z :: l, h => by
    rw [List.all_cons] at h
    rw [Bool.and_eq_true] at h
    have e := nat_back h.2
    have q := h.1
    unfold Ha03Neutral.nat at q
    rw [Bool.and_eq_true, decide_eq_true_eq] at q
    rw [List.map_cons, List.map_cons, ← e, show ((z.toNat : Nat) : Int) = z by omega]
theorem callOf_parts {c : List (List Int)} {x : Ha03.Call} (h : Ha03Neutral.callOf c = some x) : c.all (fun r => r.all Ha03Neutral.nat) = true ∧ Ha03Neutral.callIn (c.map fun r => r.map Int.toNat) = some x := by
  unfold Ha03Neutral.callOf at h
  split at h
  · cases h
  · rename_i q
    exact ⟨by simpa using q, h⟩
theorem calls_cons {f : Nat} {rest : List Int} {c : List (List Int)} {cs : List (List (List Int))} (h : PyFlat.calls PyHa03.shape f rest = some (c :: cs)) :
    ∃ p r t f', rest = p :: r ∧ PyFlat.call PyHa03.shape (p :: r) = some (c, t) ∧ PyFlat.calls PyHa03.shape f' t = some cs := by
  cases rest with
  | nil =>
    rw [PyFlat.calls] at h
    cases h
  | cons p r =>
    cases f with
    | zero =>
      rw [PyFlat.calls] at h
      cases h
    | succ f =>
      rw [PyFlat.calls] at h
      cases e : PyFlat.call PyHa03.shape (p :: r) with
      | none =>
        rw [e] at h
        cases h
      | some q =>
        obtain ⟨c', t⟩ := q
        rw [e] at h
        dsimp only at h
        cases e2 : PyFlat.calls PyHa03.shape f t with
        | none => rw [e2] at h; cases h
        | some cs' =>
          rw [e2] at h
          dsimp only at h
          have := Option.some.inj h
          injection this with a b
          subst a b
          exact ⟨p, r, t, f, rfl, e, e2⟩
theorem call_parts {p : Int} {r : List Int} {c : List (List Int)} {t : List Int} {n k : Nat} (hs : PyHa03.shape p = some (n, k)) (h : PyFlat.call PyHa03.shape (p :: r) = some (c, t)) : n ≤ r.length ∧ ∃ xs, PyFlat.rows k (r.drop n) = some (xs, t) ∧ c = (p :: r.take n) :: xs := by
  rw [PyFlat.call, hs] at h
  dsimp only at h
  split at h
  · cases h
  · rename_i q
    cases e : PyFlat.rows k (r.drop n) with
    | none =>
      rw [e] at h
      cases h
    | some y =>
      obtain ⟨xs, t'⟩ := y
      rw [e] at h
      dsimp only at h
      have := Option.some.inj h
      injection this with a b
      subst a b
      exact ⟨by omega, xs, rfl, rfl⟩
theorem reads_tree {p : Int} {r : List Int} {c : List (List Int)} {t : List Int} {x : Ha03.Call} (hp : p = 0) (h : PyFlat.call PyHa03.shape (p :: r) = some (c, t)) (hx : Ha03Neutral.callOf c = some x) (hb : PyInside.call PyHa03.bound c = true) : ∃ hdr args, Reads (p :: r) hdr args t x := by
  subst hp
  obtain ⟨_, xs, hr, rfl⟩ := call_parts (n := 0) (k := 1) (by decide) h
  rw [List.drop_zero] at hr
  cases r with
  | nil =>
    rw [PyFlat.rows, PyFlat.row] at hr
    cases hr
  | cons m r =>
    rw [PyFlat.rows, PyFlat.row] at hr
    by_cases q : 0 ≤ m ∧ m.toNat ≤ r.length
    · rw [if_pos q] at hr
      dsimp only at hr
      rw [PyFlat.rows] at hr
      dsimp only at hr
      have e := Option.some.inj hr
      injection e with a b
      subst a b
      obtain ⟨all, ci⟩ := callOf_parts hx
      have ci' : some (Ha03.Call.tree ((r.take m.toNat).map Int.toNat)) = some x := ci
      have ex := Option.some.inj ci'
      subst ex
      have na : (r.take m.toNat).all Ha03Neutral.nat = true := by
        have all' : ([(0 : Int)].all Ha03Neutral.nat && ((r.take m.toNat).all Ha03Neutral.nat && true)) = true := all
        rw [Bool.and_eq_true, Bool.and_true] at all'
        exact all'.2
      have lt : (r.take m.toNat).length = m.toNat := by
        rw [List.length_take]
        omega
      refine ⟨[0, m], r.take m.toNat, ⟨?_, nat_back na, .inl ⟨rfl, ?_⟩, ?_⟩⟩
      · rw [List.take_append_drop]
        rfl
      · rw [lt, show ((m.toNat : Nat) : Int) = m by omega]
      · have hb' : (PyInside.each [] [] && PyInside.lists [(0, 4294967295, 0, 96)] [r.take m.toNat]) = true := hb
        rw [Bool.and_eq_true, PyInside.lists, Bool.and_eq_true, Bool.and_eq_true, Bool.and_eq_true, decide_eq_true_eq, decide_eq_true_eq] at hb'
        show ((r.take m.toNat).map Int.toNat).length ≤ 96
        rw [List.length_map]
        exact hb'.2.1.1.2
    · rw [if_neg q] at hr
      cases hr
theorem reads_0 {p : Int} {pn : Nat} {r : List Int} {c : List (List Int)} {t : List Int} {x y : Ha03.Call} (hs : PyHa03.shape p = some (0, 0)) (h : PyFlat.call PyHa03.shape (p :: r) = some (c, t)) (hx : Ha03Neutral.callOf c = some x)
    (hc : Ha03Neutral.callIn [[p.toNat]] = some y) (hn : noOf y = pn) (ha : argsOf y = []) (hp : p = ((pn : Nat) : Int)) (h0 : pn ≠ 0) (tab : (((pn : Nat) : Int), ((0 : Nat) : Int)) ∈ sizeTab) : ∃ hdr args, Reads (p :: r) hdr args t x := by
  obtain ⟨_, xs, hr, rfl⟩ := call_parts hs h
  rw [PyFlat.rows] at hr
  have e := Option.some.inj hr
  injection e with a b
  subst a b
  obtain ⟨all, ci⟩ := callOf_parts hx
  have ex : x = y := Option.some.inj (ci.symm.trans hc)
  subst ex
  subst hn
  refine ⟨[p], [], ⟨rfl, by rw [ha]; rfl, .inr ⟨h0, by rw [hp], tab⟩, by rw [ha]; exact Nat.zero_le _⟩⟩
theorem reads_1 {p : Int} {pn : Nat} {r : List Int} {c : List (List Int)} {t : List Int} {x : Ha03.Call} {y : Nat → Ha03.Call} (hs : PyHa03.shape p = some (1, 0)) (h : PyFlat.call PyHa03.shape (p :: r) = some (c, t)) (hx : Ha03Neutral.callOf c = some x)
    (hc : ∀ a, Ha03Neutral.callIn [[p.toNat, a]] = some (y a)) (hn : ∀ a, noOf (y a) = pn) (ha : ∀ a, argsOf (y a) = [a]) (hp : p = ((pn : Nat) : Int)) (h0 : pn ≠ 0) (tab : (((pn : Nat) : Int), ((1 : Nat) : Int)) ∈ sizeTab) : ∃ hdr args, Reads (p :: r) hdr args t x := by
  obtain ⟨l1, xs, hr, rfl⟩ := call_parts hs h
  rw [PyFlat.rows] at hr
  have e := Option.some.inj hr
  injection e with a b
  subst a b
  match r, l1 with
  | a :: r, _ =>
    obtain ⟨all, ci⟩ := callOf_parts hx
    have ex : x = y a.toNat := Option.some.inj (ci.symm.trans (hc a.toNat))
    subst ex
    have na : [a].all Ha03Neutral.nat = true := by
      have all' : ([p, a].all Ha03Neutral.nat && true) = true := all
      rw [Bool.and_true, List.all_cons, Bool.and_eq_true] at all'
      exact all'.2
    refine ⟨[p], [a], ⟨rfl, by rw [ha]; exact nat_back na, .inr ⟨by rw [hn]; exact h0, by rw [hn, hp], by rw [hn]; exact tab⟩, by rw [ha]; show 1 ≤ 96; decide⟩⟩
theorem reads_2 {p : Int} {pn : Nat} {r : List Int} {c : List (List Int)} {t : List Int} {x : Ha03.Call} {y : Nat → Nat → Ha03.Call} (hs : PyHa03.shape p = some (2, 0)) (h : PyFlat.call PyHa03.shape (p :: r) = some (c, t)) (hx : Ha03Neutral.callOf c = some x)
    (hc : ∀ a b, Ha03Neutral.callIn [[p.toNat, a, b]] = some (y a b)) (hn : ∀ a b, noOf (y a b) = pn) (ha : ∀ a b, argsOf (y a b) = [a, b]) (hp : p = ((pn : Nat) : Int)) (h0 : pn ≠ 0) (tab : (((pn : Nat) : Int), ((2 : Nat) : Int)) ∈ sizeTab) : ∃ hdr args, Reads (p :: r) hdr args t x := by
  obtain ⟨l1, xs, hr, rfl⟩ := call_parts hs h
  rw [PyFlat.rows] at hr
  have e := Option.some.inj hr
  injection e with a b
  subst a b
  match r, l1 with
  | a :: b :: r, _ =>
    obtain ⟨all, ci⟩ := callOf_parts hx
    have ex : x = y a.toNat b.toNat := Option.some.inj (ci.symm.trans (hc a.toNat b.toNat))
    subst ex
    have na : [a, b].all Ha03Neutral.nat = true := by
      have all' : ([p, a, b].all Ha03Neutral.nat && true) = true := all
      rw [Bool.and_true, List.all_cons, Bool.and_eq_true] at all'
      exact all'.2
    refine ⟨[p], [a, b], ⟨rfl, by rw [ha]; exact nat_back na, .inr ⟨by rw [hn]; exact h0, by rw [hn, hp], by rw [hn]; exact tab⟩, by rw [ha]; show 2 ≤ 96; decide⟩⟩
theorem reads_of {f : Nat} {rest : List Int} {c : List (List Int)} {cs : List (List (List Int))} {x : Ha03.Call} (h : PyFlat.calls PyHa03.shape f rest = some (c :: cs)) (hx : Ha03Neutral.callOf c = some x) (hb : PyInside.call PyHa03.bound c = true) :
    ∃ hdr args t f', Reads rest hdr args t x ∧ PyFlat.calls PyHa03.shape f' t = some cs := by
  obtain ⟨p, r, t, f', rfl, hc, ht⟩ := calls_cons h
  have key : ∃ hdr args, Reads (p :: r) hdr args t x := by
    by_cases p0 : p = 0
    · exact reads_tree p0 hc hx hb
    by_cases p1 : p = 1
    · subst p1
      exact reads_2 (pn := 1) (y := .fail) (by decide) hc hx (fun _ _ => rfl) (fun _ _ => rfl) (fun _ _ => rfl) rfl (by decide) (by decide)
    by_cases p2 : p = 2
    · subst p2
      exact reads_0 (pn := 2) (y := .begin_) (by decide) hc hx rfl rfl rfl rfl (by decide) (by decide)
    by_cases p3 : p = 3
    · subst p3
      exact reads_2 (pn := 3) (y := .die) (by decide) hc hx (fun _ _ => rfl) (fun _ _ => rfl) (fun _ _ => rfl) rfl (by decide) (by decide)
    by_cases p4 : p = 4
    · subst p4
      exact reads_1 (pn := 4) (y := .time) (by decide) hc hx (fun _ => rfl) (fun _ => rfl) (fun _ => rfl) rfl (by decide) (by decide)
    by_cases p5 : p = 5
    · subst p5
      exact reads_0 (pn := 5) (y := .stop_) (by decide) hc hx rfl rfl rfl rfl (by decide) (by decide)
    by_cases p6 : p = 6
    · subst p6
      exact reads_1 (pn := 6) (y := .log) (by decide) hc hx (fun _ => rfl) (fun _ => rfl) (fun _ => rfl) rfl (by decide) (by decide)
    by_cases p7 : p = 7
    · subst p7
      exact reads_1 (pn := 7) (y := .node) (by decide) hc hx (fun _ => rfl) (fun _ => rfl) (fun _ => rfl) rfl (by decide) (by decide)
    by_cases p8 : p = 8
    · subst p8
      exact reads_0 (pn := 8) (y := .up) (by decide) hc hx rfl rfl rfl rfl (by decide) (by decide)
    have hs : PyHa03.shape p = none := by
      unfold PyHa03.shape
      rw [if_neg p0, if_neg p1, if_neg p2, if_neg p3, if_neg p4, if_neg p5, if_neg p6, if_neg p7, if_neg p8]
    rw [PyFlat.call, hs] at hc
    cases hc
  obtain ⟨hdr, args, R⟩ := key
  exact ⟨hdr, args, t, f', R, ht⟩
theorem calls_nil {f : Nat} {rest : List Int} (h : PyFlat.calls PyHa03.shape f rest = some []) : rest = [] := by
  cases rest with
  | nil => rfl
  | cons p r =>
    cases f with
    | zero => rw [PyFlat.calls] at h; cases h
    | succ f =>
      rw [PyFlat.calls] at h
      split at h
      · cases h
      · split at h
        · cases h
        · cases h
/-- what is asked, in parts -/
theorem asked_parts {ns : List Int} (h : PyHa03.answers_asked ns = true) : ∃ raw, PyFlat.calls PyHa03.shape ns.length ns = some raw ∧ raw.length ≤ 60 ∧ raw.all (PyInside.call PyHa03.bound) = true ∧ raw.all Ha03Neutral.asked1 = true ∧ Ha03Neutral.many Ha03Neutral.start raw ≤ 1000000 ∧
    PyHa03.answers ns = PyFlat.told (PyFlat.played Ha03Neutral.step Ha03Neutral.start raw) ∧ (PyHa03.answers ns).length ≤ 10000000 := by
  unfold PyHa03.answers_asked at h
  split at h
  · cases h
  · rename_i raw e
    rw [Bool.and_eq_true, Bool.and_eq_true, Bool.and_eq_true, Bool.and_eq_true, map_whole] at h
    obtain ⟨⟨⟨⟨_, h60⟩, hin⟩, hask⟩, hshort⟩ := h
    unfold Ha03Neutral.asked at hask
    rw [Bool.and_eq_true, Bool.and_eq_true, Bool.and_eq_true] at hask
    refine ⟨raw, e, of_decide_eq_true h60, hin, hask.1, of_decide_eq_true hask.2.2.2, ?_, of_decide_eq_true hshort⟩
    unfold PyHa03.answers PyHa03.calls
    rw [e]
    dsimp only
    rw [map_whole]
end LA
set_option maxRecDepth 100000
set_option maxHeartbeats 5000000
namespace LA
open PySem PySem.Spec PyProof.Rows L2 RT RZ
/-! # answers -/
theorem join {t1 rest : TS} {D : Ends} {σ σ' : L2.St} {H : Hp} (h1 : ∀ D' : Ends, D'.nx σ' H → t1 D' σ H) (h2 : rest D σ' H) : tSeq t1 rest D σ H := h1 { D with nx := rest D } h2
/-- what is handed in: it stands apart from the tree and from the answers -/
def Arg (K : PySem.W.Frag) (g : G) (al : Addr) (H : Hp) (a : Addr) (xs : List V) : Prop := (Rd H a (.lst xs) ∧ ¬ foot g a ∧ a ≠ al) ∨ SqL K (fun _ => none) a xs
theorem rd_some {H : Hp} {a : Addr} {u : HO} (h : Rd H a u) : ∃ o, H a = some o := by
  rcases h with h | ⟨o, h⟩
  · exact ⟨_, h⟩
  · exact ⟨_, h⟩
/-- what the top has written stands whatever is tracked -/
theorem sq_top {K : PySem.W.Frag} {H : Hp} {a : Addr} {xs : List V} (h : SqL K (fun _ => none) a xs) : SqL K H a xs := by
  rcases h with h | h
  · obtain ⟨_, q⟩ := rd_some h
    cases q
  · exact .inr h
theorem Arg.sq {K : PySem.W.Frag} {g : G} {al : Addr} {H : Hp} {a : Addr} {xs : List V} (h : Arg K g al H a xs) : SqL K H a xs := by
  rcases h with h | h
  · exact .inl h.1
  · exact sq_top h
theorem Arg.to {K : PySem.W.Frag} {g g' : G} {al : Addr} {H H' : Hp} {a : Addr} {xs : List V} (h : Arg K g al H a xs) (F : Fram g H H') (fo : ∀ b, foot g' b → foot g b ∨ H b = none) : Arg K g' al H' a xs := by
  rcases h with ⟨h1, h2, h3⟩ | h
  · refine .inl ⟨?_, fun z => ?_, h3⟩
    · rcases h1 with h1 | ⟨o, h1⟩
      · exact .inl (F _ _ h1 h2)
      · exact .inr ⟨o, F _ _ h1 h2⟩
    · obtain ⟨o, e⟩ := rd_some h1
      rcases fo a z with q | q
      · exact h2 q
      · rw [e] at q
        cases q
  · exact .inr h
theorem Arg.upd {K : PySem.W.Frag} {g : G} {al : Addr} {H : Hp} {a : Addr} {xs : List V} (h : Arg K g al H a xs) (o : HO) : Arg K g al (L2.upd H al o) a xs := by
  rcases h with ⟨h1, h2, h3⟩ | h
  · refine .inl ⟨?_, h2, h3⟩
    rcases h1 with h1 | ⟨o', h1⟩
    · exact .inl (by rw [upd_ne h3]; exact h1)
    · exact .inr ⟨o', by rw [upd_ne h3]; exact h1⟩
  · exact .inr h
theorem tab_look : ∀ q ∈ sizeTab, sizeTab.lookup q.1 = some q.2 := by decide
theorem map_get {ns : List Int} {j : Nat} {z : Int} (h : ns[j]? = some z) : atI (ns.map V.int) ((j : Nat) : Int) = some (.int z) := atI_nat (by rw [List.getElem?_map, h]; rfl)
def spAns (K : PySem.W.Frag) : Sp := fun vs H Q _ => ∃ (a : Addr) (ns : List Int), vs = [.ref a] ∧ SqL K H a (ns.map V.int) ∧ PyHa03.answers_asked ns = true ∧
  ∀ (H' : Hp) (p : Addr), H' p = some (.lst ((PyHa03.answers ns).map V.int)) → Q (.ref p) H'
section
variable {P : Program} {w : World} {K : PySem.W.Frag} {mg : Str → Option Value} {base : Heap} {CT CN : Addr}
theorem scAnswers : FnScope ["calls", "tree", "answered", "place", "call", "first", "size", "answer"] ["calls"] (defScope sAnswers) := ⟨rfl, rfl, rfl, by decide +kernel, rfl, by decide +kernel, by decide +kernel⟩
theorem ok_answers (T : Txt K mg CT CN) {f : Addr} {fd : FuncData} (F : Fun K "answers" "answers" sAnswers f fd) {k : Nat} (hk : 6 ≤ k) (TI : Mkr P w K mg base 5 "Tree" CT (spTreeInit CT CN)) (AC : Fnc P w K mg base k "answer_call" (spCall CT CN)) {d : Addr} (gS : mg "CALL_SIZES" = some (.ref d)) (kS : KInts K d (fun i => sizeTab.lookup i)) :
    FnOk P w K mg base CX0 (k + 1) f fd ["calls"] (spAns K) := by
  refine F.ok scAnswers (fun vs H Q E h => ?_) (fun cdv A outer s H vs Q E hr h => ?_)
  · obtain ⟨a, ns, rfl, _⟩ := h
    rfl
  obtain ⟨a, ns, rfl, hS, hask, q⟩ := h
  obtain ⟨raw, hraw, h60, hin, hask1, hmany, hans, hlen⟩ := asked_parts hask
  refine ⟨_, pss_cons (ps_set (i := 1) scAnswers.nd rfl (.inl rfl) (pmk0 TI hr hk rfl))
    (pss_cons (ps_set (i := 2) scAnswers.nd rfl (.inl rfl) (pe_lst pa_nil))
    (pss_cons (ps_set (i := 3) scAnswers.nd rfl (.inl rfl) pe_int)
    (pss_cons (ps_while PassesOwn.never (pt_cmpR op_lt (pv 3) (pe_callB call_len_seq (by rfl) (bt T 0 rfl) PySem.boot_len (pa_cons (pv 0) pa_nil)) (nomark _))
      (pss_cons (ps_set (i := 4) scAnswers.nd rfl (.inl rfl) (pe_ix ix_list (pv 0) (pv 3) (fun _ _ => rfl)))
      (pss_cons (ps_set (i := 5) scAnswers.nd rfl (.inl rfl) (pe_op op_add (pv 3) pe_int))
      (pss_cons (ps_if (pt_cmpR op_eq (pv 4) (pg (gc T 0 rfl)) (nomark _))
        (pss_cons (ps_set (i := 6) scAnswers.nd rfl (.inl rfl) (pe_ix ix_list (pv 0) (pv 5) (fun _ _ => rfl))) (pss_one (ps_aug (i := 5) scAnswers.nd rfl (.inl rfl) pe_int ip_add)))
        (pss_one (ps_set (i := 6) scAnswers.nd rfl (.inl rfl) (pe_ix ix_kints (pe_glob (v := .ref d) rfl gS rfl) (pv 4) (fun _ _ => rfl)))))
      (pss_cons (ps_set (i := 3) scAnswers.nd rfl (.inl rfl) (pe_op op_add (pv 5) (pv 6)))
      (pss_cons (ps_set (i := 7) scAnswers.nd rfl (.inl rfl) (pf AC hr (Nat.le_refl _) rfl (pa_cons (pv 1) (pa_cons (pv 4) (pa_cons (pe_slice sl_list (pv 0) (po_some (pv 5)) (po_some (pv 3))) pa_nil)))))
      (pss_cons (ps_expr (pe_bm PySem.F.plainAttrs_list PySem.F.slot_list_append PySem.F.type_list_append mt_append (pv 2) (pa_cons (pe_callB call_len_seq (by rfl) (bt T 0 rfl) PySem.boot_len (pa_cons (pv 7) pa_nil)) pa_nil)))
      (pss_one (ps_expr (pe_bm PySem.F.plainAttrs_list PySem.F.slot_list_extend PySem.F.type_list_extend mt_extend (pv 2) (pa_cons (pv 7) pa_nil)))))))))))
    (pss_one (ps_ret (pv 2)))))), ?_⟩
  -- tree = Tree()
  intro t dt ht hdt ne
  have Sm := same_made ht hdt (.own t) (.ins CT dt [])
  refine ⟨t, dt, rfl, upd_same, fun g H1 g1 g2 g3 g4 R1 k1 fo => ⟨rfl, ?_⟩⟩
  subst g3
  have S1 : ∀ b o, H b = some o → H1 b = some o := fun b o e => k1 b o (Sm b o e) (ne_of_none e ht)
  have fo1 : ∀ b, foot g b → H b = none := fun b hb => by
    rcases fo b hb with z | z
    · rw [z]; exact ht
    · exact Sm.free z
  -- answered = []
  refine ⟨Nat.zero_le _, fun al hal => ?_⟩
  have R2 := R1.newAv hal []
  have arg0 : Arg K { g with av := some al } al (L2.upd H1 al (.lst [])) a (ns.map V.int) := by
    rcases hS with h | h
    · obtain ⟨o, e⟩ := rd_some h
      have aal : a ≠ al := ne_of_none (S1 _ _ e) hal
      refine .inl ⟨?_, fun z => ?_, aal⟩
      · rcases h with h | ⟨o', h⟩
        · exact .inl (by rw [upd_ne aal]; exact S1 _ _ h)
        · exact .inr ⟨o', by rw [upd_ne aal]; exact S1 _ _ h⟩
      · have := fo1 a z
        rw [e] at this
        cases this
    · exact .inr (.inr h)
  refine ⟨fun m σ H' => ∃ (g : G) (s : Ha03.St) (j fu : Nat) (cs : List (List (List Int))) (pre rest out : List Int) (v4 v5 v6 v7 : Option V), σ = [some (.ref a), some (.ref g.t), some (.ref al), some (.int (pre.length : Nat)), v4, v5, v6, v7] ∧ g.CT = CT ∧ g.CN = CN ∧ g.av = some al ∧ Rep g H' s ∧ Good j s ∧ j + cs.length ≤ 60 ∧
      ns = pre ++ rest ∧ PyFlat.calls PyHa03.shape fu rest = some cs ∧ cs.all (PyInside.call PyHa03.bound) = true ∧ cs.all Ha03Neutral.asked1 = true ∧ Ha03Neutral.many s cs ≤ 1000000 ∧ PyHa03.answers ns = out ++ PyFlat.told (PyFlat.played Ha03Neutral.step s cs) ∧ H' al = some (.lst (out.map V.int)) ∧ Arg K g al H' a (ns.map V.int) ∧ m = cs.length,
    ⟨raw.length, { g with av := some al }, Ha03.init, 0, ns.length, raw, [], ns, [], none, none, none, none, rfl, g1, g2, rfl, R2, ?_, by omega, rfl, hraw, hin, hask1, hmany, hans, upd_same, arg0, rfl⟩, ?_⟩
  · exact good_fresh (N := firstN) (rows_of first_tree).wt
  rintro m σ H' ⟨g, z, j, fu, cs, pre, rest, out, v4, v5, v6, v7, rfl, rfl, rfl, gav, R, Gd, hj, ens, hcs, hin', hask', hmany', hans', hal', harg, rfl⟩
  have lns : (ns.map V.int).length = ns.length := List.length_map _
  refine ⟨_, rfl, _, rfl, a, _, rfl, .inl harg.sq, _, _, rfl, rfl, _, rfl, ?_⟩
  rw [lns]
  cases cs with
  | nil =>
    have er := calls_nil hcs
    have el : ns.length = pre.length := by rw [ens, er, List.append_nil]
    rw [decide_eq_false (by rw [el]; omega), if_neg (by decide)]
    refine ⟨_, rfl, q H' al ?_⟩
    rw [hal', hans']
    show some (HO.lst (out.map V.int)) = some (HO.lst ((out ++ []).map V.int))
    rw [List.append_nil]
  | cons c cs =>
    rw [List.all_cons, Bool.and_eq_true] at hin' hask'
    obtain ⟨x, hx⟩ : ∃ x, Ha03Neutral.callOf c = some x := Option.isSome_iff_exists.mp hask'.1
    obtain ⟨hdr, args, tl, fu', Rd', htl⟩ := reads_of hcs hx hin'.1
    have estep : Ha03Neutral.step z c = Ha03.step z x := by
      unfold Ha03Neutral.step
      rw [hx]
    have hdr1 : 1 ≤ hdr.length ∧ hdr[0]? = some ((noOf x : Nat) : Int) := by
      rcases Rd'.hdr with ⟨n0, e⟩ | ⟨n0, e, _⟩
      · rw [e, n0]
        exact ⟨by show 1 ≤ 2; decide, rfl⟩
      · rw [e]
        exact ⟨Nat.le_refl 1, rfl⟩
    have ens2 : ns = pre ++ (hdr ++ (args ++ tl)) := by rw [ens, Rd'.eq]
    have nlen : ns.length = pre.length + hdr.length + args.length + tl.length := by
      rw [ens2, List.length_append, List.length_append, List.length_append]
      omega
    have lt : pre.length < ns.length := by omega
    rw [decide_eq_true (show ((pre.length : Nat) : Int) < ((ns.length : Nat) : Int) by omega), if_pos rfl]
    have at0 : ns[pre.length]? = some ((noOf x : Nat) : Int) := by
      rw [ens2, List.getElem?_append_right (Nat.le_refl _), Nat.sub_self, List.getElem?_append_left (by omega)]
      exact hdr1.2
    refine ⟨fun σ' H'' => ∃ m', m' < (c :: cs).length ∧ ∃ (g2 : G) (s : Ha03.St) (j fu : Nat) (cs : List (List (List Int))) (pre rest out : List Int) (v4 v5 v6 v7 : Option V), σ' = [some (.ref a), some (.ref g2.t), some (.ref al), some (.int (pre.length : Nat)), v4, v5, v6, v7] ∧ g2.CT = g.CT ∧ g2.CN = g.CN ∧ g2.av = some al ∧ Rep g2 H'' s ∧ Good j s ∧ j + cs.length ≤ 60 ∧
      ns = pre ++ rest ∧ PyFlat.calls PyHa03.shape fu rest = some cs ∧ cs.all (PyInside.call PyHa03.bound) = true ∧ cs.all Ha03Neutral.asked1 = true ∧ Ha03Neutral.many s cs ≤ 1000000 ∧ PyHa03.answers ns = out ++ PyFlat.told (PyFlat.played Ha03Neutral.step s cs) ∧ H'' al = some (.lst (out.map V.int)) ∧ Arg K g2 al H'' a (ns.map V.int) ∧ m' = cs.length, fun σ' H'' h => h, ?_⟩
    -- call = calls[place]; first = place + 1
    refine ⟨_, rfl, _, rfl, a, _, _, _, rfl, rfl, harg.sq, map_get at0, ?_⟩
    refine ⟨_, rfl, _, _, rfl, rfl, ?_⟩
    -- the header
    dsimp only [gName]
    refine join (σ' := [some (.ref a), some (.ref g.t), some (.ref al), some (.int (pre.length : Nat)), some (.int (noOf x : Nat)), some (.int ((pre.length + hdr.length : Nat) : Int)), some (.int (args.length : Nat)), v7]) (fun D' hD' => ?_) ?_
    · refine ⟨_, rfl, rfl, _, rfl, ?_⟩
      show if decide (V.int ((noOf x : Nat) : Int) = V.int ((0 : Nat) : Int)) = true then _ else _
      rw [int_eq_nat]
      rcases Rd'.hdr with ⟨n0, e⟩ | ⟨n0, e, tab⟩
      · rw [decide_eq_true n0, if_pos rfl]
        have l2 : hdr.length = 2 := by rw [e]; rfl
        have at1 : ns[pre.length + 1]? = some (args.length : Int) := by
          rw [ens2, List.getElem?_append_right (by omega), show pre.length + 1 - pre.length = 1 by omega, List.getElem?_append_left (by omega), e]
          rfl
        refine ⟨_, rfl, _, rfl, a, _, _, _, rfl, rfl, harg.sq, (by rw [show ((pre.length : Nat) : Int) + 1 = ((pre.length + 1 : Nat) : Int) by omega]; exact map_get at1), ?_⟩
        refine ⟨_, rfl, _, _, rfl, rfl, ?_⟩
        have e2 : ((pre.length : Nat) : Int) + 1 + 1 = ((pre.length + hdr.length : Nat) : Int) := by omega
        show D'.nx [some (.ref a), some (.ref g.t), some (.ref al), some (.int (pre.length : Nat)), some (.int (noOf x : Nat)), some (.int (((pre.length : Nat) : Int) + 1 + 1)), some (.int (args.length : Nat)), v7] H'
        rw [e2]
        exact hD'
      · rw [decide_eq_false n0, if_neg (by decide)]
        have l1 : hdr.length = 1 := by rw [e]; rfl
        refine ⟨_, rfl, d, _, _, _, rfl, rfl, kS, tab_look _ tab, ?_⟩
        have e2 : ((pre.length : Nat) : Int) + 1 = ((pre.length + hdr.length : Nat) : Int) := by omega
        show D'.nx [some (.ref a), some (.ref g.t), some (.ref al), some (.int (pre.length : Nat)), some (.int (noOf x : Nat)), some (.int (((pre.length : Nat) : Int) + 1)), some (.int (args.length : Nat)), v7] H'
        rw [e2]
        exact hD'
    -- place = first + size
    refine ⟨_, rfl, _, rfl, _, _, rfl, rfl, ?_⟩
    -- answer_call(tree, call, calls[first:place])
    refine ⟨_, rfl, _, rfl, _, rfl, _, rfl, _, rfl, _, rfl, _, rfl, a, _, rfl, harg.sq, fun tt htt => ?_⟩
    have ecut : cutV (ns.map V.int) (some ((pre.length + hdr.length : Nat) : Int)) (some (((pre.length + hdr.length : Nat) : Int) + (args.length : Int))) = natV (argsOf x) := by
      have e3 : (((pre.length + hdr.length : Nat) : Int) + (args.length : Int)) = ((pre.length + hdr.length + args.length : Nat) : Int) := by omega
      rw [e3, cut_mid _ _ _ (by omega) (by rw [lns]; omega), ← List.map_drop, ← List.map_take]
      have e4 : (ns.drop (pre.length + hdr.length)).take (pre.length + hdr.length + args.length - (pre.length + hdr.length)) = args := by
        rw [ens2, ← List.append_assoc, ← List.length_append, List.drop_left, show (pre ++ hdr).length + args.length - (pre ++ hdr).length = args.length by omega, List.take_left]
      rw [e4, Rd'.ar, List.map_map]
      rfl
    have many2 : (Ha03.step z x).2.length + Ha03Neutral.many (Ha03.step z x).1 cs ≤ 1000000 := by
      have e : Ha03Neutral.many z (c :: cs) = (Ha03Neutral.step z c).2.length + Ha03Neutral.many (Ha03Neutral.step z c).1 cs := rfl
      rw [e, estep] at hmany'
      exact hmany'
    have Gd2 := good_step Gd x
    have hj' : j + (cs.length + 1) ≤ 60 := hj
    have lgx : (Ha03.step z x).1.log.length ≤ LOGMAX := Gd2.log (by omega)
    have R3 := R.new htt (.lst (cutV (ns.map V.int) (some ((pre.length + hdr.length : Nat) : Int)) (some (((pre.length + hdr.length : Nat) : Int) + (args.length : Int)))))
    have nfal : ¬ foot g al := R.not_foot hal' (R.av al gav).1
    have arg3 : Arg K g al _ a (ns.map V.int) := harg.to (Fram.new htt (.lst (cutV (ns.map V.int) (some ((pre.length + hdr.length : Nat) : Int)) (some (((pre.length + hdr.length : Nat) : Int) + (args.length : Int)))))) (fun b h => .inl h)
    have al3 : L2.upd H' tt (.lst (cutV (ns.map V.int) (some ((pre.length + hdr.length : Nat) : Int)) (some (((pre.length + hdr.length : Nat) : Int) + (args.length : Int))))) al = some (.lst (out.map V.int)) := by
      rw [upd_ne (ne_of_none hal' htt)]
      exact hal'
    refine ⟨g, z, tt, x, rfl, rfl, rfl, (by rw [upd_same, ecut]), Rd'.le, R3, Gd.w, Gd.t, lgx, by omega, fun g2 H4 p c1 c2 c3 c4 R4 F4 fo4 hp nfp hp4 => ?_⟩
    have al4 := F4 _ _ al3 nfal
    have arg4 := arg3.to F4 fo4
    have pal : p ≠ al := (ne_of_none al3 hp).symm
    have gav2 : g2.av = some al := c4.trans gav
    -- how long it all is
    have told2 : PyFlat.told (PyFlat.played Ha03Neutral.step z (c :: cs)) = ((((Ha03.step z x).2.length : Nat) : Int) :: (Ha03.step z x).2) ++ PyFlat.told (PyFlat.played Ha03Neutral.step (Ha03.step z x).1 cs) := by
      show PyFlat.told ((Ha03Neutral.step z c).2 :: PyFlat.played Ha03Neutral.step (Ha03Neutral.step z c).1 cs) = _
      rw [estep]
      rfl
    rw [told2] at hans'
    have lenall : out.length + (1 + (Ha03.step z x).2.length) ≤ 10000000 := by
      rw [hans', List.length_append, List.length_append, List.length_cons] at hlen
      omega
    have big : ∀ {n : Nat}, n ≤ 10000000 → n < sizeLine := fun h => Nat.lt_of_le_of_lt h (by decide)
    have lal : (out.map V.int).length = out.length := List.length_map _
    have lan : ((Ha03.step z x).2.map V.int).length = (Ha03.step z x).2.length := List.length_map _
    -- answered.append(len(answer))
    refine ⟨_, rfl, .inl ⟨rfl, _, SqL.of al4⟩, _, rfl, p, _, rfl, .inl (SqL.of hp4), al, _, _, rfl, rfl, al4, big (by rw [lal]; omega), ?_⟩
    have R5 := R4.setAv gav2 (out.map V.int ++ [V.int (((Ha03.step z x).2.map V.int).length : Nat)])
    have al5 : L2.upd H4 al (.lst (out.map V.int ++ [V.int (((Ha03.step z x).2.map V.int).length : Nat)])) al = some (.lst (out.map V.int ++ [V.int (((Ha03.step z x).2.map V.int).length : Nat)])) := upd_same
    have p5 : L2.upd H4 al (.lst (out.map V.int ++ [V.int (((Ha03.step z x).2.map V.int).length : Nat)])) p = some (.lst ((Ha03.step z x).2.map V.int)) := by
      rw [upd_ne pal]
      exact hp4
    -- answered.extend(answer)
    refine ⟨_, rfl, .inl ⟨rfl, _, SqL.of al5⟩, _, rfl, al, p, _, _, rfl, rfl, al5, p5, ?_, ?_⟩
    · rw [List.length_append, lal, lan, List.length_singleton]
      exact Nat.le_of_lt (big (by omega))
    have R6 := R5.setAv gav2 (out.map V.int ++ [V.int (((Ha03.step z x).2.map V.int).length : Nat)] ++ (Ha03.step z x).2.map V.int)
    refine ⟨cs.length, Nat.lt_succ_self _, g2, (Ha03.step z x).1, j + 1, fu', cs, pre ++ (hdr ++ args), tl, out ++ ((((Ha03.step z x).2.length : Nat) : Int) :: (Ha03.step z x).2), some (V.int (noOf x : Nat)), some (V.int ((pre.length + hdr.length : Nat) : Int)), some (V.int (args.length : Nat)), some (V.ref p), ?_, c1, c2, gav2, R6, Gd2, by omega, ?_, htl, hin'.2, hask'.2, by omega, ?_, ?_, (arg4.upd _).upd _, rfl⟩
    · have e5 : (((pre.length + hdr.length : Nat) : Int) + (args.length : Int)) = (((pre ++ (hdr ++ args)).length : Nat) : Int) := by
        rw [List.length_append, List.length_append]
        omega
      show [some (V.ref a), some (V.ref g.t), some (V.ref al), some (V.int (((pre.length + hdr.length : Nat) : Int) + (args.length : Int))), some (V.int (noOf x : Nat)), some (V.int ((pre.length + hdr.length : Nat) : Int)), some (V.int (args.length : Nat)), some (V.ref p)] = _
      rw [e5, c3]
    · rw [ens2, List.append_assoc, List.append_assoc]
    · rw [hans', List.append_assoc]
    · rw [upd_same, lan, List.map_append, List.append_assoc]
      rfl
end
end LA
set_option maxRecDepth 100000
set_option maxHeartbeats 8000000
namespace LA
open PySem PySem.Spec PyProof.Rows L2 RT RZ
/-! # What the top has left, gathered -/
theorem vals_size {xs : List V} {its : Array Value} (h : Vals xs its.toList) (hl : xs.length ≤ 1000) : its.size ≤ sizeLine := by
  have e1 : xs.length = its.toList.length := h.length
  have e2 : its.toList.length = its.size := by simp
  exact Nat.le_of_lt (small1000 (by omega))
theorem kints_mk {K : PySem.W.Frag} {bS : Addr} {nS' : Nat} {x0 y0 x1 y1 x2 y2 x3 y3 x4 y4 x5 y5 x6 y6 x7 y7 : Tok} (h : K.lookup bS = some ⟨.type "dict", none, .dict #[⟨1, .int 1 x0, .int 2 y0⟩, ⟨2, .int 2 x1, .int 0 y1⟩, ⟨3, .int 3 x2, .int 2 y2⟩, ⟨4, .int 4 x3, .int 1 y3⟩, ⟨5, .int 5 x4, .int 0 y4⟩, ⟨6, .int 6 x5, .int 1 y5⟩, ⟨7, .int 7 x6, .int 1 y6⟩, ⟨8, .int 8 x7, .int 0 y7⟩] nS', #[]⟩) : KInts K bS (fun i => sizeTab.lookup i) := by
  refine ⟨_, _, h, ?_, ?_⟩
  · intro e he
    simp only [List.mem_cons, List.not_mem_nil, or_false] at he
    rcases he with rfl | rfl | rfl | rfl | rfl | rfl | rfl | rfl
    · exact ⟨1, _, rfl, (by decide +kernel : (1 : Int) = hashInt 1)⟩
    · exact ⟨2, _, rfl, (by decide +kernel : (2 : Int) = hashInt 2)⟩
    · exact ⟨3, _, rfl, (by decide +kernel : (3 : Int) = hashInt 3)⟩
    · exact ⟨4, _, rfl, (by decide +kernel : (4 : Int) = hashInt 4)⟩
    · exact ⟨5, _, rfl, (by decide +kernel : (5 : Int) = hashInt 5)⟩
    · exact ⟨6, _, rfl, (by decide +kernel : (6 : Int) = hashInt 6)⟩
    · exact ⟨7, _, rfl, (by decide +kernel : (7 : Int) = hashInt 7)⟩
    · exact ⟨8, _, rfl, (by decide +kernel : (8 : Int) = hashInt 8)⟩
  · intro k v hk
    have mem : (k, v) ∈ sizeTab := by
      have : ∀ (l : List (Int × Int)), l.lookup k = some v → (k, v) ∈ l := by
        intro l
        induction l with
        | nil => intro h; cases h
        | cons a l ih =>
          intro h
          obtain ⟨p, r⟩ := a
          rw [List.lookup_cons] at h
          by_cases e : k = p
          · subst e
            have b : (k == k) = true := beq_self_eq_true k
            rw [b] at h
            have h : some r = some v := h
            rw [Option.some.inj h]
            exact List.mem_cons_self
          · have b : (k == p) = false := beq_eq_false_iff_ne.mpr e
            rw [b] at h
            refine List.mem_cons_of_mem _ ?_
            exact ih h
      exact this _ hk
    unfold sizeTab at mem
    simp only [List.mem_cons, List.not_mem_nil, or_false, Prod.mk.injEq] at mem
    rcases mem with ⟨rfl, rfl⟩ | ⟨rfl, rfl⟩ | ⟨rfl, rfl⟩ | ⟨rfl, rfl⟩ | ⟨rfl, rfl⟩ | ⟨rfl, rfl⟩ | ⟨rfl, rfl⟩ | ⟨rfl, rfl⟩
    all_goals exact ⟨_, rfl⟩

theorem all_mk {P : Program} {w : World} {K : PySem.W.Frag} {h : Heap} {mg : Str → Option Value} {fa CT CN : Addr} (X : K.In h) (G : h.Ns mainGlobals mg) (hfa : mg "answers" = some (.ref fa))
    {f1 : Addr} {od1 an1 : Option Addr} {sl1 : Array (Option Value)} {oc1 kV1 dc1 pm1 cd1 ct1 : Value}
    {f2 : Addr} {od2 an2 : Option Addr} {sl2 : Array (Option Value)} {oc2 kV2 dc2 pm2 cd2 ct2 : Value}
    {f3 : Addr} {od3 an3 : Option Addr} {sl3 : Array (Option Value)} {oc3 kV3 dc3 pm3 cd3 ct3 : Value}
    {f4 : Addr} {od4 an4 : Option Addr} {sl4 : Array (Option Value)} {oc4 kV4 dc4 pm4 cd4 ct4 : Value}
    {f5 : Addr} {od5 an5 : Option Addr} {sl5 : Array (Option Value)} {oc5 kV5 dc5 pm5 cd5 ct5 : Value}
    {f6 : Addr} {od6 an6 : Option Addr} {sl6 : Array (Option Value)} {oc6 kV6 dc6 pm6 cd6 ct6 : Value}
    {f7 : Addr} {od7 an7 : Option Addr} {sl7 : Array (Option Value)} {oc7 kV7 dc7 pm7 cd7 ct7 : Value}
    {f8 : Addr} {od8 an8 : Option Addr} {sl8 : Array (Option Value)} {oc8 kV8 dc8 pm8 cd8 ct8 : Value}
    {f9 : Addr} {od9 an9 : Option Addr} {sl9 : Array (Option Value)} {oc9 kV9 dc9 pm9 cd9 ct9 : Value}
    {f10 : Addr} {od10 an10 : Option Addr} {sl10 : Array (Option Value)} {oc10 kV10 dc10 pm10 cd10 ct10 : Value}
    {f11 : Addr} {od11 an11 : Option Addr} {sl11 : Array (Option Value)} {oc11 kV11 dc11 pm11 cd11 ct11 : Value}
    {f12 : Addr} {od12 an12 : Option Addr} {sl12 : Array (Option Value)} {oc12 kV12 dc12 pm12 cd12 ct12 : Value}
    {f13 : Addr} {od13 an13 : Option Addr} {sl13 : Array (Option Value)} {oc13 kV13 dc13 pm13 cd13 ct13 : Value}
    {f14 : Addr} {od14 an14 : Option Addr} {sl14 : Array (Option Value)} {oc14 kV14 dc14 pm14 cd14 ct14 : Value}
    {f15 : Addr} {od15 an15 : Option Addr} {sl15 : Array (Option Value)} {oc15 kV15 dc15 pm15 cd15 ct15 : Value}
    {f16 : Addr} {od16 an16 : Option Addr} {sl16 : Array (Option Value)} {oc16 kV16 dc16 pm16 cd16 ct16 : Value}
    {f17 : Addr} {od17 an17 : Option Addr} {sl17 : Array (Option Value)} {oc17 kV17 dc17 pm17 cd17 ct17 : Value}
    {f18 : Addr} {od18 an18 : Option Addr} {sl18 : Array (Option Value)} {oc18 kV18 dc18 pm18 cd18 ct18 : Value}
    {f19 : Addr} {od19 an19 : Option Addr} {sl19 : Array (Option Value)} {oc19 kV19 dc19 pm19 cd19 ct19 : Value}
    {f20 : Addr} {od20 an20 : Option Addr} {sl20 : Array (Option Value)} {oc20 kV20 dc20 pm20 cd20 ct20 : Value}
    {f21 : Addr} {od21 an21 : Option Addr} {sl21 : Array (Option Value)} {oc21 kV21 dc21 pm21 cd21 ct21 : Value}
    {f22 : Addr} {od22 an22 : Option Addr} {sl22 : Array (Option Value)} {oc22 kV22 dc22 pm22 cd22 ct22 : Value}
    {f23 : Addr} {od23 an23 : Option Addr} {sl23 : Array (Option Value)} {oc23 kV23 dc23 pm23 cd23 ct23 : Value}
    {f24 : Addr} {od24 an24 : Option Addr} {sl24 : Array (Option Value)} {oc24 kV24 dc24 pm24 cd24 ct24 : Value}
    {f25 : Addr} {od25 an25 : Option Addr} {sl25 : Array (Option Value)} {oc25 kV25 dc25 pm25 cd25 ct25 : Value}
    {f26 : Addr} {od26 an26 : Option Addr} {sl26 : Array (Option Value)} {oc26 kV26 dc26 pm26 cd26 ct26 : Value}
    {f27 : Addr} {od27 an27 : Option Addr} {sl27 : Array (Option Value)} {oc27 kV27 dc27 pm27 cd27 ct27 : Value}
    {f28 : Addr} {od28 an28 : Option Addr} {sl28 : Array (Option Value)} {oc28 kV28 dc28 pm28 cd28 ct28 : Value}
    {f29 : Addr} {od29 an29 : Option Addr} {sl29 : Array (Option Value)} {oc29 kV29 dc29 pm29 cd29 ct29 : Value}
    {f30 : Addr} {od30 an30 : Option Addr} {sl30 : Array (Option Value)} {oc30 kV30 dc30 pm30 cd30 ct30 : Value}
    {f31 : Addr} {od31 an31 : Option Addr} {sl31 : Array (Option Value)} {oc31 kV31 dc31 pm31 cd31 ct31 : Value}
    {f32 : Addr} {od32 an32 : Option Addr} {sl32 : Array (Option Value)} {oc32 kV32 dc32 pm32 cd32 ct32 : Value}
    {tg0 : Tok}
    {tg1 : Tok}
    {tg2 : Tok}
    {tg3 : Tok}
    {tg4 : Tok}
    {tg5 : Tok}
    {tg6 : Tok}
    {tg7 : Tok}
    {tg8 : Tok}
    {tg9 : Tok}
    {tg10 : Tok}
    {tg11 : Tok}
    {tg12 : Tok}
    {tg13 : Tok}
    {tg14 : Tok}
    {tg15 : Tok}
    {tg16 : Tok}
    {tg17 : Tok}
    {tg18 : Tok}
    {tg19 : Tok}
    {tg20 : Tok}
    {tg21 : Tok}
    {tg22 : Tok}
    {tg23 : Tok}
    {tg24 : Tok}
    {bF bM bS : Addr} {oF oM : Obj} {iF iM : Array Value} {nF' nM' nS' : Nat}
    {x0 y0 x1 y1 x2 y2 x3 y3 x4 y4 x5 y5 x6 y6 x7 y7 : Tok}
    (aT : PySem.W.nsIn K mainGlobals "Tree" = some (some (.ref CT)))
    (aN : PySem.W.nsIn K mainGlobals "Node" = some (some (.ref CN)))
    (pgT : PySem.W.plainGet K CT Str.empty = true)
    (hdT : PySem.W.hasDictIn K CT = true)
    (poT : PySem.W.plainOver K CT = true)
    (saT : PySem.W.findIn K (.ref CT) "__setattr__" = some (some (.builtin "object.__setattr__")))
    (mkT : PySem.W.makesIn K CT = true)
    (kcT : PySem.W.keepIn K (.ref CT) = true)
    (pgN : PySem.W.plainGet K CN Str.empty = true)
    (hdN : PySem.W.hasDictIn K CN = true)
    (poN : PySem.W.plainOver K CN = true)
    (saN : PySem.W.findIn K (.ref CN) "__setattr__" = some (some (.builtin "object.__setattr__")))
    (mkN : PySem.W.makesIn K CN = true)
    (kcN : PySem.W.keepIn K (.ref CN) = true)
    (a1 : PySem.W.findIn K (.ref CN) "__init__" = some (some (.ref f1)))
    (l1 : K.lookup f1 = some ⟨oc1, od1, .func (PySem.W.fnOf "__init__" "Node.__init__" (defArgs sNodeInit) (defBody sNodeInit) (defScope sNodeInit) .none kV1 dc1 pm1 an1 cd1 ct1), sl1⟩)
    (c1 : PySem.W.codeIn K cd1 "Node.__init__" = true)
    (k1 : PySem.W.keepIn K (.ref f1) = true)
    (i1 : PySem.W.isFn K (.ref f1) = true)
    (a2 : PySem.W.findIn K (.ref CT) "__init__" = some (some (.ref f2)))
    (l2 : K.lookup f2 = some ⟨oc2, od2, .func (PySem.W.fnOf "__init__" "Tree.__init__" (defArgs sTreeInit) (defBody sTreeInit) (defScope sTreeInit) .none kV2 dc2 pm2 an2 cd2 ct2), sl2⟩)
    (c2 : PySem.W.codeIn K cd2 "Tree.__init__" = true)
    (k2 : PySem.W.keepIn K (.ref f2) = true)
    (i2 : PySem.W.isFn K (.ref f2) = true)
    (a3 : PySem.W.findIn K (.ref CT) "plant" = some (some (.ref f3)))
    (l3 : K.lookup f3 = some ⟨oc3, od3, .func (PySem.W.fnOf "plant" "Tree.plant" (defArgs sPlant) (defBody sPlant) (defScope sPlant) .none kV3 dc3 pm3 an3 cd3 ct3), sl3⟩)
    (c3 : PySem.W.codeIn K cd3 "Tree.plant" = true)
    (k3 : PySem.W.keepIn K (.ref f3) = true)
    (i3 : PySem.W.isFn K (.ref f3) = true)
    (a4 : PySem.W.findIn K (.ref CT) "tell" = some (some (.ref f4)))
    (l4 : K.lookup f4 = some ⟨oc4, od4, .func (PySem.W.fnOf "tell" "Tree.tell" (defArgs sTell) (defBody sTell) (defScope sTell) .none kV4 dc4 pm4 an4 cd4 ct4), sl4⟩)
    (c4 : PySem.W.codeIn K cd4 "Tree.tell" = true)
    (k4 : PySem.W.keepIn K (.ref f4) = true)
    (i4 : PySem.W.isFn K (.ref f4) = true)
    (a5 : PySem.W.findIn K (.ref CT) "start_node" = some (some (.ref f5)))
    (l5 : K.lookup f5 = some ⟨oc5, od5, .func (PySem.W.fnOf "start_node" "Tree.start_node" (defArgs sStart) (defBody sStart) (defScope sStart) .none kV5 dc5 pm5 an5 cd5 ct5), sl5⟩)
    (c5 : PySem.W.codeIn K cd5 "Tree.start_node" = true)
    (k5 : PySem.W.keepIn K (.ref f5) = true)
    (i5 : PySem.W.isFn K (.ref f5) = true)
    (a6 : PySem.W.findIn K (.ref CT) "start_in_order" = some (some (.ref f6)))
    (l6 : K.lookup f6 = some ⟨oc6, od6, .func (PySem.W.fnOf "start_in_order" "Tree.start_in_order" (defArgs sInOrder) (defBody sInOrder) (defScope sInOrder) .none kV6 dc6 pm6 an6 cd6 ct6), sl6⟩)
    (c6 : PySem.W.codeIn K cd6 "Tree.start_in_order" = true)
    (k6 : PySem.W.keepIn K (.ref f6) = true)
    (i6 : PySem.W.isFn K (.ref f6) = true)
    (a7 : PySem.W.findIn K (.ref CT) "stop_node" = some (some (.ref f7)))
    (l7 : K.lookup f7 = some ⟨oc7, od7, .func (PySem.W.fnOf "stop_node" "Tree.stop_node" (defArgs sStop) (defBody sStop) (defScope sStop) .none kV7 dc7 pm7 an7 cd7 ct7), sl7⟩)
    (c7 : PySem.W.codeIn K cd7 "Tree.stop_node" = true)
    (k7 : PySem.W.keepIn K (.ref f7) = true)
    (i7 : PySem.W.isFn K (.ref f7) = true)
    (a8 : PySem.W.findIn K (.ref CT) "stop_running" = some (some (.ref f8)))
    (l8 : K.lookup f8 = some ⟨oc8, od8, .func (PySem.W.fnOf "stop_running" "Tree.stop_running" (defArgs sStopRun) (defBody sStopRun) (defScope sStopRun) .none kV8 dc8 pm8 an8 cd8 ct8), sl8⟩)
    (c8 : PySem.W.codeIn K cd8 "Tree.stop_running" = true)
    (k8 : PySem.W.keepIn K (.ref f8) = true)
    (i8 : PySem.W.isFn K (.ref f8) = true)
    (a9 : PySem.W.findIn K (.ref CT) "worker_dies" = some (some (.ref f9)))
    (l9 : K.lookup f9 = some ⟨oc9, od9, .func (PySem.W.fnOf "worker_dies" "Tree.worker_dies" (defArgs sDies) (defBody sDies) (defScope sDies) .none kV9 dc9 pm9 an9 cd9 ct9), sl9⟩)
    (c9 : PySem.W.codeIn K cd9 "Tree.worker_dies" = true)
    (k9 : PySem.W.keepIn K (.ref f9) = true)
    (i9 : PySem.W.isFn K (.ref f9) = true)
    (a10 : PySem.W.findIn K (.ref CT) "has_ended" = some (some (.ref f10)))
    (l10 : K.lookup f10 = some ⟨oc10, od10, .func (PySem.W.fnOf "has_ended" "Tree.has_ended" (defArgs sEnded) (defBody sEnded) (defScope sEnded) .none kV10 dc10 pm10 an10 cd10 ct10), sl10⟩)
    (c10 : PySem.W.codeIn K cd10 "Tree.has_ended" = true)
    (k10 : PySem.W.keepIn K (.ref f10) = true)
    (i10 : PySem.W.isFn K (.ref f10) = true)
    (a11 : PySem.W.findIn K (.ref CT) "begin_again" = some (some (.ref f11)))
    (l11 : K.lookup f11 = some ⟨oc11, od11, .func (PySem.W.fnOf "begin_again" "Tree.begin_again" (defArgs sAgain) (defBody sAgain) (defScope sAgain) .none kV11 dc11 pm11 an11 cd11 ct11), sl11⟩)
    (c11 : PySem.W.codeIn K cd11 "Tree.begin_again" = true)
    (k11 : PySem.W.keepIn K (.ref f11) = true)
    (i11 : PySem.W.isFn K (.ref f11) = true)
    (a12 : PySem.W.findIn K (.ref CT) "recent_times" = some (some (.ref f12)))
    (l12 : K.lookup f12 = some ⟨oc12, od12, .func (PySem.W.fnOf "recent_times" "Tree.recent_times" (defArgs sRecent) (defBody sRecent) (defScope sRecent) .none kV12 dc12 pm12 an12 cd12 ct12), sl12⟩)
    (c12 : PySem.W.codeIn K cd12 "Tree.recent_times" = true)
    (k12 : PySem.W.keepIn K (.ref f12) = true)
    (i12 : PySem.W.isFn K (.ref f12) = true)
    (a13 : PySem.W.findIn K (.ref CT) "count_now" = some (some (.ref f13)))
    (l13 : K.lookup f13 = some ⟨oc13, od13, .func (PySem.W.fnOf "count_now" "Tree.count_now" (defArgs sCount) (defBody sCount) (defScope sCount) .none kV13 dc13 pm13 an13 cd13 ct13), sl13⟩)
    (c13 : PySem.W.codeIn K cd13 "Tree.count_now" = true)
    (k13 : PySem.W.keepIn K (.ref f13) = true)
    (i13 : PySem.W.isFn K (.ref f13) = true)
    (a14 : PySem.W.findIn K (.ref CT) "give_up" = some (some (.ref f14)))
    (l14 : K.lookup f14 = some ⟨oc14, od14, .func (PySem.W.fnOf "give_up" "Tree.give_up" (defArgs sGiveUp) (defBody sGiveUp) (defScope sGiveUp) .none kV14 dc14 pm14 an14 cd14 ct14), sl14⟩)
    (c14 : PySem.W.codeIn K cd14 "Tree.give_up" = true)
    (k14 : PySem.W.keepIn K (.ref f14) = true)
    (i14 : PySem.W.isFn K (.ref f14) = true)
    (a15 : PySem.W.findIn K (.ref CT) "begin_by_way" = some (some (.ref f15)))
    (l15 : K.lookup f15 = some ⟨oc15, od15, .func (PySem.W.fnOf "begin_by_way" "Tree.begin_by_way" (defArgs sByWay) (defBody sByWay) (defScope sByWay) .none kV15 dc15 pm15 an15 cd15 ct15), sl15⟩)
    (c15 : PySem.W.codeIn K cd15 "Tree.begin_by_way" = true)
    (k15 : PySem.W.keepIn K (.ref f15) = true)
    (i15 : PySem.W.isFn K (.ref f15) = true)
    (a16 : PySem.W.nsIn K mainGlobals "rows_of" = some (some (.ref f16)))
    (l16 : K.lookup f16 = some ⟨oc16, od16, .func (PySem.W.fnOf "rows_of" "rows_of" (defArgs sRows) (defBody sRows) (defScope sRows) .none kV16 dc16 pm16 an16 cd16 ct16), sl16⟩)
    (c16 : PySem.W.codeIn K cd16 "rows_of" = true)
    (k16 : PySem.W.keepIn K (.ref f16) = true)
    (a17 : PySem.W.nsIn K mainGlobals "planted" = some (some (.ref f17)))
    (l17 : K.lookup f17 = some ⟨oc17, od17, .func (PySem.W.fnOf "planted" "planted" (defArgs sPlanted) (defBody sPlanted) (defScope sPlanted) .none kV17 dc17 pm17 an17 cd17 ct17), sl17⟩)
    (c17 : PySem.W.codeIn K cd17 "planted" = true)
    (k17 : PySem.W.keepIn K (.ref f17) = true)
    (a18 : PySem.W.nsIn K mainGlobals "is_tree" = some (some (.ref f18)))
    (l18 : K.lookup f18 = some ⟨oc18, od18, .func (PySem.W.fnOf "is_tree" "is_tree" (defArgs sIsTree) (defBody sIsTree) (defScope sIsTree) .none kV18 dc18 pm18 an18 cd18 ct18), sl18⟩)
    (c18 : PySem.W.codeIn K cd18 "is_tree" = true)
    (k18 : PySem.W.keepIn K (.ref f18) = true)
    (a19 : PySem.W.nsIn K mainGlobals "is_within" = some (some (.ref f19)))
    (l19 : K.lookup f19 = some ⟨oc19, od19, .func (PySem.W.fnOf "is_within" "is_within" (defArgs sIsWithin) (defBody sIsWithin) (defScope sIsWithin) .none kV19 dc19 pm19 an19 cd19 ct19), sl19⟩)
    (c19 : PySem.W.codeIn K cd19 "is_within" = true)
    (k19 : PySem.W.keepIn K (.ref f19) = true)
    (a20 : PySem.W.nsIn K mainGlobals "is_parent" = some (some (.ref f20)))
    (l20 : K.lookup f20 = some ⟨oc20, od20, .func (PySem.W.fnOf "is_parent" "is_parent" (defArgs sIsParent) (defBody sIsParent) (defScope sIsParent) .none kV20 dc20 pm20 an20 cd20 ct20), sl20⟩)
    (c20 : PySem.W.codeIn K cd20 "is_parent" = true)
    (k20 : PySem.W.keepIn K (.ref f20) = true)
    (a21 : PySem.W.nsIn K mainGlobals "has_node" = some (some (.ref f21)))
    (l21 : K.lookup f21 = some ⟨oc21, od21, .func (PySem.W.fnOf "has_node" "has_node" (defArgs sHasNode) (defBody sHasNode) (defScope sHasNode) .none kV21 dc21 pm21 an21 cd21 ct21), sl21⟩)
    (c21 : PySem.W.codeIn K cd21 "has_node" = true)
    (k21 : PySem.W.keepIn K (.ref f21) = true)
    (a22 : PySem.W.nsIn K mainGlobals "answer_tree" = some (some (.ref f22)))
    (l22 : K.lookup f22 = some ⟨oc22, od22, .func (PySem.W.fnOf "answer_tree" "answer_tree" (defArgs sAnsTree) (defBody sAnsTree) (defScope sAnsTree) .none kV22 dc22 pm22 an22 cd22 ct22), sl22⟩)
    (c22 : PySem.W.codeIn K cd22 "answer_tree" = true)
    (k22 : PySem.W.keepIn K (.ref f22) = true)
    (a23 : PySem.W.nsIn K mainGlobals "answer_fail" = some (some (.ref f23)))
    (l23 : K.lookup f23 = some ⟨oc23, od23, .func (PySem.W.fnOf "answer_fail" "answer_fail" (defArgs sAnsFail) (defBody sAnsFail) (defScope sAnsFail) .none kV23 dc23 pm23 an23 cd23 ct23), sl23⟩)
    (c23 : PySem.W.codeIn K cd23 "answer_fail" = true)
    (k23 : PySem.W.keepIn K (.ref f23) = true)
    (a24 : PySem.W.nsIn K mainGlobals "answer_begin" = some (some (.ref f24)))
    (l24 : K.lookup f24 = some ⟨oc24, od24, .func (PySem.W.fnOf "answer_begin" "answer_begin" (defArgs sAnsBegin) (defBody sAnsBegin) (defScope sAnsBegin) .none kV24 dc24 pm24 an24 cd24 ct24), sl24⟩)
    (c24 : PySem.W.codeIn K cd24 "answer_begin" = true)
    (k24 : PySem.W.keepIn K (.ref f24) = true)
    (a25 : PySem.W.nsIn K mainGlobals "answer_die" = some (some (.ref f25)))
    (l25 : K.lookup f25 = some ⟨oc25, od25, .func (PySem.W.fnOf "answer_die" "answer_die" (defArgs sAnsDie) (defBody sAnsDie) (defScope sAnsDie) .none kV25 dc25 pm25 an25 cd25 ct25), sl25⟩)
    (c25 : PySem.W.codeIn K cd25 "answer_die" = true)
    (k25 : PySem.W.keepIn K (.ref f25) = true)
    (a26 : PySem.W.nsIn K mainGlobals "answer_time" = some (some (.ref f26)))
    (l26 : K.lookup f26 = some ⟨oc26, od26, .func (PySem.W.fnOf "answer_time" "answer_time" (defArgs sAnsTime) (defBody sAnsTime) (defScope sAnsTime) .none kV26 dc26 pm26 an26 cd26 ct26), sl26⟩)
    (c26 : PySem.W.codeIn K cd26 "answer_time" = true)
    (k26 : PySem.W.keepIn K (.ref f26) = true)
    (a27 : PySem.W.nsIn K mainGlobals "answer_stop" = some (some (.ref f27)))
    (l27 : K.lookup f27 = some ⟨oc27, od27, .func (PySem.W.fnOf "answer_stop" "answer_stop" (defArgs sAnsStop) (defBody sAnsStop) (defScope sAnsStop) .none kV27 dc27 pm27 an27 cd27 ct27), sl27⟩)
    (c27 : PySem.W.codeIn K cd27 "answer_stop" = true)
    (k27 : PySem.W.keepIn K (.ref f27) = true)
    (a28 : PySem.W.nsIn K mainGlobals "answer_log" = some (some (.ref f28)))
    (l28 : K.lookup f28 = some ⟨oc28, od28, .func (PySem.W.fnOf "answer_log" "answer_log" (defArgs sAnsLog) (defBody sAnsLog) (defScope sAnsLog) .none kV28 dc28 pm28 an28 cd28 ct28), sl28⟩)
    (c28 : PySem.W.codeIn K cd28 "answer_log" = true)
    (k28 : PySem.W.keepIn K (.ref f28) = true)
    (a29 : PySem.W.nsIn K mainGlobals "answer_node" = some (some (.ref f29)))
    (l29 : K.lookup f29 = some ⟨oc29, od29, .func (PySem.W.fnOf "answer_node" "answer_node" (defArgs sAnsNode) (defBody sAnsNode) (defScope sAnsNode) .none kV29 dc29 pm29 an29 cd29 ct29), sl29⟩)
    (c29 : PySem.W.codeIn K cd29 "answer_node" = true)
    (k29 : PySem.W.keepIn K (.ref f29) = true)
    (a30 : PySem.W.nsIn K mainGlobals "answer_up" = some (some (.ref f30)))
    (l30 : K.lookup f30 = some ⟨oc30, od30, .func (PySem.W.fnOf "answer_up" "answer_up" (defArgs sAnsUp) (defBody sAnsUp) (defScope sAnsUp) .none kV30 dc30 pm30 an30 cd30 ct30), sl30⟩)
    (c30 : PySem.W.codeIn K cd30 "answer_up" = true)
    (k30 : PySem.W.keepIn K (.ref f30) = true)
    (a31 : PySem.W.nsIn K mainGlobals "answer_call" = some (some (.ref f31)))
    (l31 : K.lookup f31 = some ⟨oc31, od31, .func (PySem.W.fnOf "answer_call" "answer_call" (defArgs sAnsCall) (defBody sAnsCall) (defScope sAnsCall) .none kV31 dc31 pm31 an31 cd31 ct31), sl31⟩)
    (c31 : PySem.W.codeIn K cd31 "answer_call" = true)
    (k31 : PySem.W.keepIn K (.ref f31) = true)
    (a32 : PySem.W.nsIn K mainGlobals "answers" = some (some (.ref f32)))
    (l32 : K.lookup f32 = some ⟨oc32, od32, .func (PySem.W.fnOf "answers" "answers" (defArgs sAnswers) (defBody sAnswers) (defScope sAnswers) .none kV32 dc32 pm32 an32 cd32 ct32), sl32⟩)
    (c32 : PySem.W.codeIn K cd32 "answers" = true)
    (k32 : PySem.W.keepIn K (.ref f32) = true)
    (nt0 : PySem.W.findIn K (.ref CT) "nodes" = some none)
    (nt1 : PySem.W.findIn K (.ref CT) "now" = some none)
    (nt2 : PySem.W.findIn K (.ref CT) "runs" = some none)
    (nt3 : PySem.W.findIn K (.ref CT) "happened" = some none)
    (nn0 : PySem.W.findIn K (.ref CN) "number" = some none)
    (nn1 : PySem.W.findIn K (.ref CN) "parent" = some none)
    (nn2 : PySem.W.findIn K (.ref CN) "keeper" = some none)
    (nn3 : PySem.W.findIn K (.ref CN) "kind" = some none)
    (nn4 : PySem.W.findIn K (.ref CN) "way" = some none)
    (nn5 : PySem.W.findIn K (.ref CN) "often" = some none)
    (nn6 : PySem.W.findIn K (.ref CN) "span" = some none)
    (nn7 : PySem.W.findIn K (.ref CN) "children" = some none)
    (nn8 : PySem.W.findIn K (.ref CN) "place" = some none)
    (nn9 : PySem.W.findIn K (.ref CN) "run" = some none)
    (nn10 : PySem.W.findIn K (.ref CN) "gone" = some none)
    (nn11 : PySem.W.findIn K (.ref CN) "times" = some none)
    (nn12 : PySem.W.findIn K (.ref CN) "failing" = some none)
    (g0 : PySem.W.nsIn K mainGlobals "TREE" = some (some (.int (0) tg0)))
    (g1 : PySem.W.nsIn K mainGlobals "FAIL" = some (some (.int (1) tg1)))
    (g2 : PySem.W.nsIn K mainGlobals "BEGIN" = some (some (.int (2) tg2)))
    (g3 : PySem.W.nsIn K mainGlobals "DIE" = some (some (.int (3) tg3)))
    (g4 : PySem.W.nsIn K mainGlobals "TIME" = some (some (.int (4) tg4)))
    (g5 : PySem.W.nsIn K mainGlobals "STOP" = some (some (.int (5) tg5)))
    (g6 : PySem.W.nsIn K mainGlobals "LOG" = some (some (.int (6) tg6)))
    (g7 : PySem.W.nsIn K mainGlobals "NODE" = some (some (.int (7) tg7)))
    (g8 : PySem.W.nsIn K mainGlobals "NOT_ALLOWED" = some (some (.int (-1) tg8)))
    (g9 : PySem.W.nsIn K mainGlobals "NOT_NOW" = some (some (.int (-8) tg9)))
    (g10 : PySem.W.nsIn K mainGlobals "STARTED" = some (some (.int (0) tg10)))
    (g11 : PySem.W.nsIn K mainGlobals "STOPPED" = some (some (.int (1) tg11)))
    (g12 : PySem.W.nsIn K mainGlobals "DIED" = some (some (.int (2) tg12)))
    (g13 : PySem.W.nsIn K mainGlobals "START_FAILED" = some (some (.int (3) tg13)))
    (g14 : PySem.W.nsIn K mainGlobals "GAVE_UP" = some (some (.int (4) tg14)))
    (g15 : PySem.W.nsIn K mainGlobals "FOR_EVER" = some (some (.int (0) tg15)))
    (g16 : PySem.W.nsIn K mainGlobals "ONCE" = some (some (.int (2) tg16)))
    (g17 : PySem.W.nsIn K mainGlobals "ALONE" = some (some (.int (0) tg17)))
    (g18 : PySem.W.nsIn K mainGlobals "ALL" = some (some (.int (1) tg18)))
    (g19 : PySem.W.nsIn K mainGlobals "AS_IT_SHOULD" = some (some (.int (0) tg19)))
    (g20 : PySem.W.nsIn K mainGlobals "OTHERWISE" = some (some (.int (1) tg20)))
    (g21 : PySem.W.nsIn K mainGlobals "NODE_SIZE" = some (some (.int (6) tg21)))
    (g22 : PySem.W.nsIn K mainGlobals "MOST_NODES" = some (some (.int (14) tg22)))
    (g23 : PySem.W.nsIn K mainGlobals "MOST_FAILS" = some (some (.int (20) tg23)))
    (g24 : PySem.W.nsIn K mainGlobals "LAST_TIME" = some (some (.int (1000000) tg24)))
    (z0 : PySem.W.nsIn K mainGlobals "len" = some none)
    (z1 : PySem.W.nsIn K mainGlobals "reversed" = some none)
    (z2 : PySem.W.nsIn K mainGlobals "list" = some none)
    (z3 : PySem.W.nsIn K mainGlobals "range" = some none)
    (z4 : PySem.W.nsIn K mainGlobals "enumerate" = some none)
    (z5 : PySem.W.nsIn K mainGlobals "zip" = some none)
    (tF : PySem.W.nsIn K mainGlobals "FIRST_TREE" = some (some (.ref bF)))
    (tFl : K.lookup bF = some oF)
    (tFc : oF.cls = .type "tuple")
    (tFd : oF.data = .seq iF nF')
    (tFv : Vals (natV firstL) iF.toList)
    (tM : PySem.W.nsIn K mainGlobals "MOST_TOLD" = some (some (.ref bM)))
    (tMl : K.lookup bM = some oM)
    (tMc : oM.cls = .type "tuple")
    (tMd : oM.data = .seq iM nM')
    (tMv : Vals (natV mostL) iM.toList)
    (tS : PySem.W.nsIn K mainGlobals "CALL_SIZES" = some (some (.ref bS)))
    (tSl : K.lookup bS = some ⟨.type "dict", none, .dict #[⟨1, .int 1 x0, .int 2 y0⟩, ⟨2, .int 2 x1, .int 0 y1⟩, ⟨3, .int 3 x2, .int 2 y2⟩, ⟨4, .int 4 x3, .int 1 y3⟩, ⟨5, .int 5 x4, .int 0 y4⟩, ⟨6, .int 6 x5, .int 1 y5⟩, ⟨7, .int 7 x6, .int 1 y6⟩, ⟨8, .int 8 x7, .int 0 y7⟩] nS', #[]⟩)
    : ∃ fd : FuncData, (∀ (s : Shared) (us : List Value), us.length = (["calls"] : List Str).length → BindsTo s fd ⟨us, []⟩ ((["calls"] : List Str).zip us)) ∧ ∀ base : Heap, K.In base → base.Ns mainGlobals mg → FnOk P w K mg base CX0 104 fa fd ["calls"] (spAns K) := by
  have e := hfa.symm.trans (PySem.W.mg_of X G a32)
  cases e
  have T : Txt K mg CT CN := by
    refine ⟨⟨pgT, hdT, poT, saT⟩, ⟨pgN, hdN, poN, saN⟩, ?_, ?_, ?_, ?_, PySem.W.mg_of X G aT, PySem.W.mg_of X G aN⟩
    · intro f hf
      simp only [treeK, List.mem_cons, List.not_mem_nil, or_false] at hf
      rcases hf with rfl | rfl | rfl | rfl
      · exact nt0
      · exact nt1
      · exact nt2
      · exact nt3
    · intro f hf
      simp only [nodeK, List.mem_cons, List.not_mem_nil, or_false] at hf
      rcases hf with rfl | rfl | rfl | rfl | rfl | rfl | rfl | rfl | rfl | rfl | rfl | rfl | rfl
      · exact nn0
      · exact nn1
      · exact nn2
      · exact nn3
      · exact nn4
      · exact nn5
      · exact nn6
      · exact nn7
      · exact nn8
      · exact nn9
      · exact nn10
      · exact nn11
      · exact nn12
    · intro p hp
      simp only [consts, List.mem_cons, List.not_mem_nil, or_false] at hp
      rcases hp with rfl | rfl | rfl | rfl | rfl | rfl | rfl | rfl | rfl | rfl | rfl | rfl | rfl | rfl | rfl | rfl | rfl | rfl | rfl | rfl | rfl | rfl | rfl | rfl | rfl
      · exact ⟨_, PySem.W.mg_of X G g0⟩
      · exact ⟨_, PySem.W.mg_of X G g1⟩
      · exact ⟨_, PySem.W.mg_of X G g2⟩
      · exact ⟨_, PySem.W.mg_of X G g3⟩
      · exact ⟨_, PySem.W.mg_of X G g4⟩
      · exact ⟨_, PySem.W.mg_of X G g5⟩
      · exact ⟨_, PySem.W.mg_of X G g6⟩
      · exact ⟨_, PySem.W.mg_of X G g7⟩
      · exact ⟨_, PySem.W.mg_of X G g8⟩
      · exact ⟨_, PySem.W.mg_of X G g9⟩
      · exact ⟨_, PySem.W.mg_of X G g10⟩
      · exact ⟨_, PySem.W.mg_of X G g11⟩
      · exact ⟨_, PySem.W.mg_of X G g12⟩
      · exact ⟨_, PySem.W.mg_of X G g13⟩
      · exact ⟨_, PySem.W.mg_of X G g14⟩
      · exact ⟨_, PySem.W.mg_of X G g15⟩
      · exact ⟨_, PySem.W.mg_of X G g16⟩
      · exact ⟨_, PySem.W.mg_of X G g17⟩
      · exact ⟨_, PySem.W.mg_of X G g18⟩
      · exact ⟨_, PySem.W.mg_of X G g19⟩
      · exact ⟨_, PySem.W.mg_of X G g20⟩
      · exact ⟨_, PySem.W.mg_of X G g21⟩
      · exact ⟨_, PySem.W.mg_of X G g22⟩
      · exact ⟨_, PySem.W.mg_of X G g23⟩
      · exact ⟨_, PySem.W.mg_of X G g24⟩
    · intro b hb
      simp only [blts, List.mem_cons, List.not_mem_nil, or_false] at hb
      rcases hb with rfl | rfl | rfl | rfl | rfl | rfl
      · exact PySem.W.mg_none_of X G z0
      · exact PySem.W.mg_none_of X G z1
      · exact PySem.W.mg_none_of X G z2
      · exact PySem.W.mg_none_of X G z3
      · exact PySem.W.mg_none_of X G z4
      · exact PySem.W.mg_none_of X G z5
  have F1 := fun_mk (st := sNodeInit) l1 c1 k1
  have b1 := F1.binds (ps := ["self", "number", "parent", "told"]) fun _ _ _ _ _ _ us hl => match us, hl with | [_, _, _, _], _ => rfl
  have F2 := fun_mk (st := sTreeInit) l2 c2 k2
  have b2 := F2.binds (ps := ["self"]) fun _ _ _ _ _ _ us hl => match us, hl with | [_], _ => rfl
  have F3 := fun_mk (st := sPlant) l3 c3 k3
  have b3 := F3.binds (ps := ["self", "numbers"]) fun _ _ _ _ _ _ us hl => match us, hl with | [_, _], _ => rfl
  have D3 : MDef K CT "plant" "Tree.plant" sPlant ["self", "numbers"] := ⟨T.clT, f3, _, ⟨a3, i3, k3⟩, F3, b3⟩
  have F4 := fun_mk (st := sTell) l4 c4 k4
  have b4 := F4.binds (ps := ["self", "what", "node"]) fun _ _ _ _ _ _ us hl => match us, hl with | [_, _, _], _ => rfl
  have D4 : MDef K CT "tell" "Tree.tell" sTell ["self", "what", "node"] := ⟨T.clT, f4, _, ⟨a4, i4, k4⟩, F4, b4⟩
  have F5 := fun_mk (st := sStart) l5 c5 k5
  have b5 := F5.binds (ps := ["self", "node"]) fun _ _ _ _ _ _ us hl => match us, hl with | [_, _], _ => rfl
  have D5 : MDef K CT "start_node" "Tree.start_node" sStart ["self", "node"] := ⟨T.clT, f5, _, ⟨a5, i5, k5⟩, F5, b5⟩
  have F6 := fun_mk (st := sInOrder) l6 c6 k6
  have b6 := F6.binds (ps := ["self", "nodes"]) fun _ _ _ _ _ _ us hl => match us, hl with | [_, _], _ => rfl
  have D6 : MDef K CT "start_in_order" "Tree.start_in_order" sInOrder ["self", "nodes"] := ⟨T.clT, f6, _, ⟨a6, i6, k6⟩, F6, b6⟩
  have F7 := fun_mk (st := sStop) l7 c7 k7
  have b7 := F7.binds (ps := ["self", "node"]) fun _ _ _ _ _ _ us hl => match us, hl with | [_, _], _ => rfl
  have D7 : MDef K CT "stop_node" "Tree.stop_node" sStop ["self", "node"] := ⟨T.clT, f7, _, ⟨a7, i7, k7⟩, F7, b7⟩
  have F8 := fun_mk (st := sStopRun) l8 c8 k8
  have b8 := F8.binds (ps := ["self", "nodes"]) fun _ _ _ _ _ _ us hl => match us, hl with | [_, _], _ => rfl
  have D8 : MDef K CT "stop_running" "Tree.stop_running" sStopRun ["self", "nodes"] := ⟨T.clT, f8, _, ⟨a8, i8, k8⟩, F8, b8⟩
  have F9 := fun_mk (st := sDies) l9 c9 k9
  have b9 := F9.binds (ps := ["self", "worker", "how"]) fun _ _ _ _ _ _ us hl => match us, hl with | [_, _, _], _ => rfl
  have D9 : MDef K CT "worker_dies" "Tree.worker_dies" sDies ["self", "worker", "how"] := ⟨T.clT, f9, _, ⟨a9, i9, k9⟩, F9, b9⟩
  have F10 := fun_mk (st := sEnded) l10 c10 k10
  have b10 := F10.binds (ps := ["self", "node", "how"]) fun _ _ _ _ _ _ us hl => match us, hl with | [_, _, _], _ => rfl
  have D10 : MDef K CT "has_ended" "Tree.has_ended" sEnded ["self", "node", "how"] := ⟨T.clT, f10, _, ⟨a10, i10, k10⟩, F10, b10⟩
  have F11 := fun_mk (st := sAgain) l11 c11 k11
  have b11 := F11.binds (ps := ["self", "child"]) fun _ _ _ _ _ _ us hl => match us, hl with | [_, _], _ => rfl
  have D11 : MDef K CT "begin_again" "Tree.begin_again" sAgain ["self", "child"] := ⟨T.clT, f11, _, ⟨a11, i11, k11⟩, F11, b11⟩
  have F12 := fun_mk (st := sRecent) l12 c12 k12
  have b12 := F12.binds (ps := ["self", "node"]) fun _ _ _ _ _ _ us hl => match us, hl with | [_, _], _ => rfl
  have D12 : MDef K CT "recent_times" "Tree.recent_times" sRecent ["self", "node"] := ⟨T.clT, f12, _, ⟨a12, i12, k12⟩, F12, b12⟩
  have F13 := fun_mk (st := sCount) l13 c13 k13
  have b13 := F13.binds (ps := ["self", "keeper"]) fun _ _ _ _ _ _ us hl => match us, hl with | [_, _], _ => rfl
  have D13 : MDef K CT "count_now" "Tree.count_now" sCount ["self", "keeper"] := ⟨T.clT, f13, _, ⟨a13, i13, k13⟩, F13, b13⟩
  have F14 := fun_mk (st := sGiveUp) l14 c14 k14
  have b14 := F14.binds (ps := ["self", "keeper"]) fun _ _ _ _ _ _ us hl => match us, hl with | [_, _], _ => rfl
  have D14 : MDef K CT "give_up" "Tree.give_up" sGiveUp ["self", "keeper"] := ⟨T.clT, f14, _, ⟨a14, i14, k14⟩, F14, b14⟩
  have F15 := fun_mk (st := sByWay) l15 c15 k15
  have b15 := F15.binds (ps := ["self", "keeper", "child"]) fun _ _ _ _ _ _ us hl => match us, hl with | [_, _, _], _ => rfl
  have D15 : MDef K CT "begin_by_way" "Tree.begin_by_way" sByWay ["self", "keeper", "child"] := ⟨T.clT, f15, _, ⟨a15, i15, k15⟩, F15, b15⟩
  have F16 := fun_mk (st := sRows) l16 c16 k16
  have b16 := F16.binds (ps := ["numbers"]) fun _ _ _ _ _ _ us hl => match us, hl with | [_], _ => rfl
  have D16 : FDef K mg "rows_of" sRows ["numbers"] := ⟨f16, _, F16, PySem.W.mg_of X G a16, b16⟩
  have F17 := fun_mk (st := sPlanted) l17 c17 k17
  have b17 := F17.binds (ps := ["numbers"]) fun _ _ _ _ _ _ us hl => match us, hl with | [_], _ => rfl
  have D17 : FDef K mg "planted" sPlanted ["numbers"] := ⟨f17, _, F17, PySem.W.mg_of X G a17, b17⟩
  have F18 := fun_mk (st := sIsTree) l18 c18 k18
  have b18 := F18.binds (ps := ["numbers"]) fun _ _ _ _ _ _ us hl => match us, hl with | [_], _ => rfl
  have D18 : FDef K mg "is_tree" sIsTree ["numbers"] := ⟨f18, _, F18, PySem.W.mg_of X G a18, b18⟩
  have F19 := fun_mk (st := sIsWithin) l19 c19 k19
  have b19 := F19.binds (ps := ["row"]) fun _ _ _ _ _ _ us hl => match us, hl with | [_], _ => rfl
  have D19 : FDef K mg "is_within" sIsWithin ["row"] := ⟨f19, _, F19, PySem.W.mg_of X G a19, b19⟩
  have F20 := fun_mk (st := sIsParent) l20 c20 k20
  have b20 := F20.binds (ps := ["rows_before", "parent"]) fun _ _ _ _ _ _ us hl => match us, hl with | [_, _], _ => rfl
  have D20 : FDef K mg "is_parent" sIsParent ["rows_before", "parent"] := ⟨f20, _, F20, PySem.W.mg_of X G a20, b20⟩
  have F21 := fun_mk (st := sHasNode) l21 c21 k21
  have b21 := F21.binds (ps := ["tree", "number"]) fun _ _ _ _ _ _ us hl => match us, hl with | [_, _], _ => rfl
  have D21 : FDef K mg "has_node" sHasNode ["tree", "number"] := ⟨f21, _, F21, PySem.W.mg_of X G a21, b21⟩
  have F22 := fun_mk (st := sAnsTree) l22 c22 k22
  have b22 := F22.binds (ps := ["tree", "numbers"]) fun _ _ _ _ _ _ us hl => match us, hl with | [_, _], _ => rfl
  have D22 : FDef K mg "answer_tree" sAnsTree ["tree", "numbers"] := ⟨f22, _, F22, PySem.W.mg_of X G a22, b22⟩
  have F23 := fun_mk (st := sAnsFail) l23 c23 k23
  have b23 := F23.binds (ps := ["tree", "number", "starts"]) fun _ _ _ _ _ _ us hl => match us, hl with | [_, _, _], _ => rfl
  have D23 : FDef K mg "answer_fail" sAnsFail ["tree", "number", "starts"] := ⟨f23, _, F23, PySem.W.mg_of X G a23, b23⟩
  have F24 := fun_mk (st := sAnsBegin) l24 c24 k24
  have b24 := F24.binds (ps := ["tree"]) fun _ _ _ _ _ _ us hl => match us, hl with | [_], _ => rfl
  have D24 : FDef K mg "answer_begin" sAnsBegin ["tree"] := ⟨f24, _, F24, PySem.W.mg_of X G a24, b24⟩
  have F25 := fun_mk (st := sAnsDie) l25 c25 k25
  have b25 := F25.binds (ps := ["tree", "number", "how"]) fun _ _ _ _ _ _ us hl => match us, hl with | [_, _, _], _ => rfl
  have D25 : FDef K mg "answer_die" sAnsDie ["tree", "number", "how"] := ⟨f25, _, F25, PySem.W.mg_of X G a25, b25⟩
  have F26 := fun_mk (st := sAnsTime) l26 c26 k26
  have b26 := F26.binds (ps := ["tree", "moment"]) fun _ _ _ _ _ _ us hl => match us, hl with | [_, _], _ => rfl
  have D26 : FDef K mg "answer_time" sAnsTime ["tree", "moment"] := ⟨f26, _, F26, PySem.W.mg_of X G a26, b26⟩
  have F27 := fun_mk (st := sAnsStop) l27 c27 k27
  have b27 := F27.binds (ps := ["tree"]) fun _ _ _ _ _ _ us hl => match us, hl with | [_], _ => rfl
  have D27 : FDef K mg "answer_stop" sAnsStop ["tree"] := ⟨f27, _, F27, PySem.W.mg_of X G a27, b27⟩
  have F28 := fun_mk (st := sAnsLog) l28 c28 k28
  have b28 := F28.binds (ps := ["tree", "known"]) fun _ _ _ _ _ _ us hl => match us, hl with | [_, _], _ => rfl
  have D28 : FDef K mg "answer_log" sAnsLog ["tree", "known"] := ⟨f28, _, F28, PySem.W.mg_of X G a28, b28⟩
  have F29 := fun_mk (st := sAnsNode) l29 c29 k29
  have b29 := F29.binds (ps := ["tree", "number"]) fun _ _ _ _ _ _ us hl => match us, hl with | [_, _], _ => rfl
  have D29 : FDef K mg "answer_node" sAnsNode ["tree", "number"] := ⟨f29, _, F29, PySem.W.mg_of X G a29, b29⟩
  have F30 := fun_mk (st := sAnsUp) l30 c30 k30
  have b30 := F30.binds (ps := ["tree"]) fun _ _ _ _ _ _ us hl => match us, hl with | [_], _ => rfl
  have D30 : FDef K mg "answer_up" sAnsUp ["tree"] := ⟨f30, _, F30, PySem.W.mg_of X G a30, b30⟩
  have F31 := fun_mk (st := sAnsCall) l31 c31 k31
  have b31 := F31.binds (ps := ["tree", "call", "told"]) fun _ _ _ _ _ _ us hl => match us, hl with | [_, _, _], _ => rfl
  have D31 : FDef K mg "answer_call" sAnsCall ["tree", "call", "told"] := ⟨f31, _, F31, PySem.W.mg_of X G a31, b31⟩
  have F32 := fun_mk (st := sAnswers) l32 c32 k32
  have sF : ∀ H, SqT K H bF (natV firstL) := fun H => .inr ⟨oF, iF, _, tFl, tFc, tFd, vals_size tFv (by decide), tFv⟩
  have sM : ∀ H, SqT K H bM (natV mostL) := fun H => .inr ⟨oM, iM, _, tMl, tMc, tMd, vals_size tMv (by decide), tMv⟩
  have kS := kints_mk tSl
  refine ⟨PySem.W.fnOf "answers" "answers" (defArgs sAnswers) (defBody sAnswers) (defScope sAnswers) .none kV32 dc32 pm32 an32 cd32 ct32, fun s us hu => match us, hu with | [_], _ => .of_eq rfl, fun base _ _ => ?_⟩
  have TL := ok_tell (P := P) (w := w) (base := base) T D4
  have SB := both_stop T TL D7 D8 14
  have ST := both_start T TL SB.1 D5 D6 14
  have RC := ok_recent (P := P) (w := w) (base := base) T D12
  have CO := ok_count T D13 RC
  have BW := ok_byWay T D15 (k := 57) (SB.2.mono (by decide)) ST.2
  have EN := all_ended T TL (j := 58) (by decide) (SB.2.mono (by decide)) CO BW D10 D14 D11 14
  have WD := ok_dies T D9 TL (k := 100) (by decide) EN
  have RO := ok_rows (P := P) (w := w) (base := base) T D16
  have NI : Mkr P w K mg base 1 "Node" CN (spNodeInit CN) := ⟨f1, _, _, ⟨mkN, a1, i1, kcN⟩, ok_nodeInit T F1, PySem.W.mg_of X G aN, b1⟩
  have PL := ok_planted T D17 RO NI
  have PT := ok_plant T D3 PL
  have TI : Mkr P w K mg base 5 "Tree" CT (spTreeInit CT CN) := ⟨f2, _, _, ⟨mkT, a2, i2, kcT⟩, ok_treeInit T (PySem.W.mg_of X G tF) sF F2 PT, PySem.W.mg_of X G aT, b2⟩
  have IW := ok_isWithin (P := P) (w := w) (base := base) T (PySem.W.mg_of X G tM) sM D19
  have IP := ok_isParent (P := P) (w := w) (base := base) T D20
  have IT := ok_isTree T D18 RO IW IP
  have HN := ok_has (P := P) (w := w) (base := base) T D21
  have AN : Answers P w K mg base CT CN 102 := by
    refine ⟨(ok_aTree T D22 IT PT).mono (by decide), fun i n => (ok_fail T D23 HN i n).mono (by decide), (ok_begin T D24 ST.1).mono (by decide), fun i n => (ok_die T D25 HN (by decide) WD i n).mono (by decide), fun t => (ok_time T D26 t).mono (by decide), (ok_aStop T D27 SB.1).mono (by decide), fun n => (ok_log T D28 n).mono (by decide), fun i => (ok_node T D29 HN RC i).mono (by decide), (ok_up T D30).mono (by decide)⟩
  have AC := ok_call T D31 AN
  exact ok_answers T F32 (k := 103) (by decide) TI AC (PySem.W.mg_of X G tS) kS
end LA
open PySem PySem.W PyProof.Rows
set_option maxRecDepth 100000 in
set_option maxHeartbeats 0 in
theorem PySem.Challenge.cw_lookafter_s01_answers_holds : PySem.Challenge.rw_lookafter_s01_answers.Holds := by
  w_on; k_headS; (case hw => exact ⟨[.list [.int 2]], by decide +kernel, by decide +kernel⟩)
  k_fillS
  refine L2.walk_specK (r := PySem.Challenge.rw_lookafter_s01_answers) (k := 104) (CX := L2.CX0) (ps := ["calls"]) (sp := LA.spAns) (by decide +kernel) rfl rfl ⟨rfl, by decide, by decide⟩ (fun w h Y => PySem.W.kIn_of Y) ?F ?S (fun _ _ _ _ z => z)
  case F =>
    intro w mg fa h Y KX G hmg
    refine' LA.all_mk KX G hmg ?la_aT ?la_aN ?la_pgT ?la_hdT ?la_poT ?la_saT ?la_mkT ?la_kcT ?la_pgN ?la_hdN ?la_poN ?la_saN ?la_mkN ?la_kcN ?la_a1 ?la_l1 ?la_c1 ?la_k1 ?la_i1 ?la_a2 ?la_l2 ?la_c2 ?la_k2 ?la_i2 ?la_a3 ?la_l3 ?la_c3 ?la_k3 ?la_i3 ?la_a4 ?la_l4 ?la_c4 ?la_k4 ?la_i4 ?la_a5 ?la_l5 ?la_c5 ?la_k5 ?la_i5 ?la_a6 ?la_l6 ?la_c6 ?la_k6 ?la_i6 ?la_a7 ?la_l7 ?la_c7 ?la_k7 ?la_i7 ?la_a8 ?la_l8 ?la_c8 ?la_k8 ?la_i8 ?la_a9 ?la_l9 ?la_c9 ?la_k9 ?la_i9 ?la_a10 ?la_l10 ?la_c10 ?la_k10 ?la_i10 ?la_a11 ?la_l11 ?la_c11 ?la_k11 ?la_i11 ?la_a12 ?la_l12 ?la_c12 ?la_k12 ?la_i12 ?la_a13 ?la_l13 ?la_c13 ?la_k13 ?la_i13 ?la_a14 ?la_l14 ?la_c14 ?la_k14 ?la_i14 ?la_a15 ?la_l15 ?la_c15 ?la_k15 ?la_i15 ?la_a16 ?la_l16 ?la_c16 ?la_k16 ?la_a17 ?la_l17 ?la_c17 ?la_k17 ?la_a18 ?la_l18 ?la_c18 ?la_k18 ?la_a19 ?la_l19 ?la_c19 ?la_k19 ?la_a20 ?la_l20 ?la_c20 ?la_k20 ?la_a21 ?la_l21 ?la_c21 ?la_k21 ?la_a22 ?la_l22 ?la_c22 ?la_k22 ?la_a23 ?la_l23 ?la_c23 ?la_k23 ?la_a24 ?la_l24 ?la_c24 ?la_k24 ?la_a25 ?la_l25 ?la_c25 ?la_k25 ?la_a26 ?la_l26 ?la_c26 ?la_k26 ?la_a27 ?la_l27 ?la_c27 ?la_k27 ?la_a28 ?la_l28 ?la_c28 ?la_k28 ?la_a29 ?la_l29 ?la_c29 ?la_k29 ?la_a30 ?la_l30 ?la_c30 ?la_k30 ?la_a31 ?la_l31 ?la_c31 ?la_k31 ?la_a32 ?la_l32 ?la_c32 ?la_k32 ?la_nt0 ?la_nt1 ?la_nt2 ?la_nt3 ?la_nn0 ?la_nn1 ?la_nn2 ?la_nn3 ?la_nn4 ?la_nn5 ?la_nn6 ?la_nn7 ?la_nn8 ?la_nn9 ?la_nn10 ?la_nn11 ?la_nn12 ?la_g0 ?la_g1 ?la_g2 ?la_g3 ?la_g4 ?la_g5 ?la_g6 ?la_g7 ?la_g8 ?la_g9 ?la_g10 ?la_g11 ?la_g12 ?la_g13 ?la_g14 ?la_g15 ?la_g16 ?la_g17 ?la_g18 ?la_g19 ?la_g20 ?la_g21 ?la_g22 ?la_g23 ?la_g24 ?la_z0 ?la_z1 ?la_z2 ?la_z3 ?la_z4 ?la_z5 ?la_tF ?la_tFl ?la_tFc ?la_tFd ?la_tFv ?la_tM ?la_tMl ?la_tMc ?la_tMd ?la_tMv ?la_tS ?la_tSl
    (case la_aT => k_is)
    (case la_aN => k_is)
    (case la_pgT => k_is)
    (case la_hdT => k_is)
    (case la_poT => k_is)
    (case la_saT => k_is)
    (case la_mkT => k_is)
    (case la_kcT => k_is)
    (case la_pgN => k_is)
    (case la_hdN => k_is)
    (case la_poN => k_is)
    (case la_saN => k_is)
    (case la_mkN => k_is)
    (case la_kcN => k_is)
    (case la_a1 => k_is)
    (case la_l1 => k_is)
    (case la_c1 => k_is)
    (case la_k1 => k_is)
    (case la_i1 => k_is)
    (case la_a2 => k_is)
    (case la_l2 => k_is)
    (case la_c2 => k_is)
    (case la_k2 => k_is)
    (case la_i2 => k_is)
    (case la_a3 => k_is)
    (case la_l3 => k_is)
    (case la_c3 => k_is)
    (case la_k3 => k_is)
    (case la_i3 => k_is)
    (case la_a4 => k_is)
    (case la_l4 => k_is)
    (case la_c4 => k_is)
    (case la_k4 => k_is)
    (case la_i4 => k_is)
    (case la_a5 => k_is)
    (case la_l5 => k_is)
    (case la_c5 => k_is)
    (case la_k5 => k_is)
    (case la_i5 => k_is)
    (case la_a6 => k_is)
    (case la_l6 => k_is)
    (case la_c6 => k_is)
    (case la_k6 => k_is)
    (case la_i6 => k_is)
    (case la_a7 => k_is)
    (case la_l7 => k_is)
    (case la_c7 => k_is)
    (case la_k7 => k_is)
    (case la_i7 => k_is)
    (case la_a8 => k_is)
    (case la_l8 => k_is)
    (case la_c8 => k_is)
    (case la_k8 => k_is)
    (case la_i8 => k_is)
    (case la_a9 => k_is)
    (case la_l9 => k_is)
    (case la_c9 => k_is)
    (case la_k9 => k_is)
    (case la_i9 => k_is)
    (case la_a10 => k_is)
    (case la_l10 => k_is)
    (case la_c10 => k_is)
    (case la_k10 => k_is)
    (case la_i10 => k_is)
    (case la_a11 => k_is)
    (case la_l11 => k_is)
    (case la_c11 => k_is)
    (case la_k11 => k_is)
    (case la_i11 => k_is)
    (case la_a12 => k_is)
    (case la_l12 => k_is)
    (case la_c12 => k_is)
    (case la_k12 => k_is)
    (case la_i12 => k_is)
    (case la_a13 => k_is)
    (case la_l13 => k_is)
    (case la_c13 => k_is)
    (case la_k13 => k_is)
    (case la_i13 => k_is)
    (case la_a14 => k_is)
    (case la_l14 => k_is)
    (case la_c14 => k_is)
    (case la_k14 => k_is)
    (case la_i14 => k_is)
    (case la_a15 => k_is)
    (case la_l15 => k_is)
    (case la_c15 => k_is)
    (case la_k15 => k_is)
    (case la_i15 => k_is)
    (case la_a16 => k_is)
    (case la_l16 => k_is)
    (case la_c16 => k_is)
    (case la_k16 => k_is)
    (case la_a17 => k_is)
    (case la_l17 => k_is)
    (case la_c17 => k_is)
    (case la_k17 => k_is)
    (case la_a18 => k_is)
    (case la_l18 => k_is)
    (case la_c18 => k_is)
    (case la_k18 => k_is)
    (case la_a19 => k_is)
    (case la_l19 => k_is)
    (case la_c19 => k_is)
    (case la_k19 => k_is)
    (case la_a20 => k_is)
    (case la_l20 => k_is)
    (case la_c20 => k_is)
    (case la_k20 => k_is)
    (case la_a21 => k_is)
    (case la_l21 => k_is)
    (case la_c21 => k_is)
    (case la_k21 => k_is)
    (case la_a22 => k_is)
    (case la_l22 => k_is)
    (case la_c22 => k_is)
    (case la_k22 => k_is)
    (case la_a23 => k_is)
    (case la_l23 => k_is)
    (case la_c23 => k_is)
    (case la_k23 => k_is)
    (case la_a24 => k_is)
    (case la_l24 => k_is)
    (case la_c24 => k_is)
    (case la_k24 => k_is)
    (case la_a25 => k_is)
    (case la_l25 => k_is)
    (case la_c25 => k_is)
    (case la_k25 => k_is)
    (case la_a26 => k_is)
    (case la_l26 => k_is)
    (case la_c26 => k_is)
    (case la_k26 => k_is)
    (case la_a27 => k_is)
    (case la_l27 => k_is)
    (case la_c27 => k_is)
    (case la_k27 => k_is)
    (case la_a28 => k_is)
    (case la_l28 => k_is)
    (case la_c28 => k_is)
    (case la_k28 => k_is)
    (case la_a29 => k_is)
    (case la_l29 => k_is)
    (case la_c29 => k_is)
    (case la_k29 => k_is)
    (case la_a30 => k_is)
    (case la_l30 => k_is)
    (case la_c30 => k_is)
    (case la_k30 => k_is)
    (case la_a31 => k_is)
    (case la_l31 => k_is)
    (case la_c31 => k_is)
    (case la_k31 => k_is)
    (case la_a32 => k_is)
    (case la_l32 => k_is)
    (case la_c32 => k_is)
    (case la_k32 => k_is)
    (case la_nt0 => k_is)
    (case la_nt1 => k_is)
    (case la_nt2 => k_is)
    (case la_nt3 => k_is)
    (case la_nn0 => k_is)
    (case la_nn1 => k_is)
    (case la_nn2 => k_is)
    (case la_nn3 => k_is)
    (case la_nn4 => k_is)
    (case la_nn5 => k_is)
    (case la_nn6 => k_is)
    (case la_nn7 => k_is)
    (case la_nn8 => k_is)
    (case la_nn9 => k_is)
    (case la_nn10 => k_is)
    (case la_nn11 => k_is)
    (case la_nn12 => k_is)
    (case la_g0 => k_is)
    (case la_g1 => k_is)
    (case la_g2 => k_is)
    (case la_g3 => k_is)
    (case la_g4 => k_is)
    (case la_g5 => k_is)
    (case la_g6 => k_is)
    (case la_g7 => k_is)
    (case la_g8 => k_is)
    (case la_g9 => k_is)
    (case la_g10 => k_is)
    (case la_g11 => k_is)
    (case la_g12 => k_is)
    (case la_g13 => k_is)
    (case la_g14 => k_is)
    (case la_g15 => k_is)
    (case la_g16 => k_is)
    (case la_g17 => k_is)
    (case la_g18 => k_is)
    (case la_g19 => k_is)
    (case la_g20 => k_is)
    (case la_g21 => k_is)
    (case la_g22 => k_is)
    (case la_g23 => k_is)
    (case la_g24 => k_is)
    (case la_z0 => k_is)
    (case la_z1 => k_is)
    (case la_z2 => k_is)
    (case la_z3 => k_is)
    (case la_z4 => k_is)
    (case la_z5 => k_is)
    (case la_tF => k_is)
    (case la_tFl => k_is)
    (case la_tFc => rfl)
    (case la_tFd => rfl)
    (case la_tFv => exact .cons ⟨_, rfl⟩ (.cons ⟨_, rfl⟩ (.cons ⟨_, rfl⟩ (.cons ⟨_, rfl⟩ (.cons ⟨_, rfl⟩ (.cons ⟨_, rfl⟩ (.cons ⟨_, rfl⟩ (.cons ⟨_, rfl⟩ (.cons ⟨_, rfl⟩ (.cons ⟨_, rfl⟩ (.cons ⟨_, rfl⟩ (.cons ⟨_, rfl⟩ (.cons ⟨_, rfl⟩ (.cons ⟨_, rfl⟩ (.cons ⟨_, rfl⟩ (.cons ⟨_, rfl⟩ (.cons ⟨_, rfl⟩ (.cons ⟨_, rfl⟩ (.nil)))))))))))))))))))
    (case la_tM => k_is)
    (case la_tMl => k_is)
    (case la_tMc => rfl)
    (case la_tMd => rfl)
    (case la_tMv => exact .cons ⟨_, rfl⟩ (.cons ⟨_, rfl⟩ (.cons ⟨_, rfl⟩ (.cons ⟨_, rfl⟩ (.cons ⟨_, rfl⟩ (.nil))))))
    (case la_tS => k_is)
    (case la_tSl => k_is)
  case S =>
    intro K H xs a hO hwi hask hx
    cases hx with
    | cons h1 h2 =>
      cases h2
      cases h1 with
      | lst hs ha =>
        have e := L2.ints_dw a.1 _ ha
        subst e
        exact ⟨_, a.1, rfl, hs, hask, fun H' p hp => .lst (L2.SqL.of hp) (L2.dw_ints _)⟩
#print axioms PySem.Challenge.cw_lookafter_s01_answers_holds
