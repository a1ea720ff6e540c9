import PyProof.Rows.All
import Wide.All
import OpenK.AllK
import Wide.FinOn
import Open.SpecLaws
import KE.OsGo
import HandS.ForSpec
import HandS.ForMost
import HandS.Walk
import HandS.Deep
import HandS.TupLe
import PySem.Challenge.RW_pebblemoves_s04_unsolvable_configuration
set_option Elab.async false
set_option linter.all false
namespace Pb
open Ks577 (Graph)
/-! ### the edges -/
def pairs : List Int → List (Int × Int)
  | x :: y :: r => (x, y) :: pairs r
  | _ => []
def lexLe (p e : Int × Int) : Bool := if p.1 = e.1 then (if p.2 = e.2 then true else decide (p.2 ≤ e.2)) else decide (p.1 ≤ e.1)
def goE (n : Int) : Int × Int → List (Int × Int) → Bool
  | _, [] => true
  | e, p :: r => if p.2 ≤ p.1 then false else if n ≤ p.2 then false else if lexLe p e = true then false else goE n p r
def areEdges (n : Int) (ns : List Int) : Bool := if ns.length % 2 = 0 then goE n (0, 0) (pairs ns) else false
def castP (e : Nat × Nat) : Int × Int := ((e.1 : Int), (e.2 : Int))
def headOk (e : Int × Int) : List (Nat × Nat) → Prop
  | [] => True
  | x :: _ => e.1 < x.1 ∨ (e.1 = x.1 ∧ e.2 < x.2)
def Bd (n : Nat) (es : List (Nat × Nat)) : Prop := ∀ e ∈ es, e.1 < e.2 ∧ e.2 < n
theorem lexLe_false {p e : Int × Int} : lexLe p e = false ↔ (e.1 < p.1 ∨ (e.1 = p.1 ∧ e.2 < p.2)) := by
  unfold lexLe
  split
  · split
    · simp; omega
    · simp; omega
  · simp; omega
theorem parse_fwd (n : Nat) : ∀ (ns : List Int) (e : Int × Int), (∀ x ∈ ns, 0 ≤ x) → ns.length % 2 = 0 → goE n e (pairs ns) = true →
    ∃ es, Ks577.parseEdges n (ns.map Int.toNat) = some es ∧ headOk e es ∧ pairs ns = es.map castP ∧ Bd n es
  | [], e, _, _, _ => ⟨[], rfl, trivial, rfl, by intro e he; cases he⟩
  | [x], e, _, h, _ => by simp at h
  | u :: v :: r, e, h0, h, hg => by
    have hu : 0 ≤ u := h0 u (by simp)
    have hv : 0 ≤ v := h0 v (by simp)
    have hl : r.length % 2 = 0 := by simp only [List.length_cons] at h; omega
    simp only [pairs, goE] at hg
    split at hg
    · cases hg
    split at hg
    · cases hg
    split at hg
    · cases hg
    rename_i c1 c2 c3
    obtain ⟨es, e1, e2, e3, e4⟩ := parse_fwd n r (u, v) (fun x hx => h0 x (by simp [hx])) hl hg
    have c3' := lexLe_false.mp (by simpa using c3)
    obtain ⟨u', rfl⟩ := Int.eq_ofNat_of_zero_le hu
    obtain ⟨v', rfl⟩ := Int.eq_ofNat_of_zero_le hv
    simp only at c1 c2 c3'
    have b : ¬ (v' ≤ u' ∨ n ≤ v') := by omega
    refine ⟨(u', v') :: es, ?_, c3', ?_, ?_⟩
    · simp only [List.map_cons, Int.toNat_natCast, Ks577.parseEdges, if_neg b, e1]
      cases es with
      | nil => rfl
      | cons x r' =>
        simp only [headOk] at e2
        have b2 : u' < x.1 ∨ (u' = x.1 ∧ v' < x.2) := by omega
        simp only [if_pos b2]
    · simp only [pairs, List.map_cons, e3]; rfl
    · intro y hy
      rcases List.mem_cons.mp hy with rfl | hy
      · simp only; omega
      · exact e4 y hy
theorem parse_bwd (n : Nat) : ∀ (ns : List Int) (es : List (Nat × Nat)), (∀ x ∈ ns, 0 ≤ x) → Ks577.parseEdges n (ns.map Int.toNat) = some es →
    ns.length % 2 = 0 ∧ ∀ e, headOk e es → goE n e (pairs ns) = true
  | [], es, _, h => by
    simp only [List.map_nil, Ks577.parseEdges, Option.some.injEq] at h
    subst h
    exact ⟨rfl, fun _ _ => rfl⟩
  | [x], es, _, h => by simp [Ks577.parseEdges] at h
  | u :: v :: r, es, h0, h => by
    have hu : 0 ≤ u := h0 u (by simp)
    have hv : 0 ≤ v := h0 v (by simp)
    obtain ⟨u', rfl⟩ := Int.eq_ofNat_of_zero_le hu
    obtain ⟨v', rfl⟩ := Int.eq_ofNat_of_zero_le hv
    simp only [List.map_cons, Int.toNat_natCast, Ks577.parseEdges] at h
    split at h
    · cases h
    rename_i b
    cases hp : Ks577.parseEdges n (r.map Int.toNat) with
    | none => rw [hp] at h; cases h
    | some es' =>
      rw [hp] at h
      obtain ⟨hl, hg⟩ := parse_bwd n r es' (fun x hx => h0 x (by simp [hx])) hp
      have key : es = (u', v') :: es' ∧ headOk ((u' : Int), (v' : Int)) es' := by
        cases es' with
        | nil => simp only [Option.some.injEq] at h; exact ⟨h.symm, trivial⟩
        | cons x r' =>
          simp only at h
          split at h
          · rename_i b2
            simp only [Option.some.injEq] at h
            refine ⟨h.symm, ?_⟩
            simp only [headOk]
            omega
          · cases h
      obtain ⟨rfl, hh⟩ := key
      refine ⟨by simp only [List.length_cons]; omega, fun e he => ?_⟩
      simp only [headOk] at he
      simp only [pairs, goE]
      rw [if_neg (by omega), if_neg (by omega), if_neg (by
        have := lexLe_false (p := ((u' : Int), (v' : Int))) (e := e) |>.mpr he
        simp [this])]
      exact hg _ hh
theorem parse_ok {n : Nat} {ns : List Int} (h0 : ∀ x ∈ ns, 0 ≤ x) (h : areEdges n ns = true) : ∃ es, Ks577.parseEdges n (ns.map Int.toNat) = some es ∧ pairs ns = es.map castP ∧ Bd n es := by
  unfold areEdges at h
  split at h
  · rename_i hl
    obtain ⟨es, e1, _, e3, e4⟩ := parse_fwd n ns (0, 0) h0 hl h
    exact ⟨es, e1, e3, e4⟩
  · cases h
theorem bd_parse (n : Nat) : ∀ (l : List Nat) (es : List (Nat × Nat)), Ks577.parseEdges n l = some es → Bd n es
  | [], es, h => by
    simp only [Ks577.parseEdges, Option.some.injEq] at h
    subst h
    intro e he; cases he
  | [x], es, h => by simp [Ks577.parseEdges] at h
  | u :: v :: r, es, h => by
    simp only [Ks577.parseEdges] at h
    split at h
    · cases h
    rename_i b
    cases hp : Ks577.parseEdges n r with
    | none => rw [hp] at h; cases h
    | some es' =>
      rw [hp] at h
      have ih := bd_parse n r es' hp
      have key : es = (u, v) :: es' := by
        cases es' with
        | nil => simp only [Option.some.injEq] at h; exact h.symm
        | cons x r' =>
          simp only at h
          split at h
          · simp only [Option.some.injEq] at h; exact h.symm
          · cases h
      subst key
      intro e he
      rcases List.mem_cons.mp he with rfl | he
      · simp only; omega
      · exact ih e he
theorem parse_none {n : Nat} {ns : List Int} (h0 : ∀ x ∈ ns, 0 ≤ x) (h : areEdges n ns = false) : Ks577.parseEdges n (ns.map Int.toNat) = none := by
  cases hp : Ks577.parseEdges n (ns.map Int.toNat) with
  | none => rfl
  | some es =>
    obtain ⟨hl, hg⟩ := parse_bwd n ns es h0 hp
    have hb := bd_parse n _ es hp
    have : areEdges n ns = true := by
      unfold areEdges
      rw [if_pos hl]
      refine hg _ ?_
      cases es with
      | nil => trivial
      | cons x r =>
        have := hb x (by simp)
        simp only [headOk]
        omega
    rw [h] at this
    cases this
theorem pairs_len : ∀ ns : List Int, (pairs ns).length = ns.length / 2
  | [] => rfl
  | [x] => by simp [pairs]
  | x :: y :: r => by
    simp only [pairs, List.length_cons, pairs_len r]
    omega
theorem pairs_get : ∀ (ns : List Int) (i : Nat) (x y : Int), ns[2 * i]? = some x → ns[2 * i + 1]? = some y → (pairs ns)[i]? = some (x, y)
  | [], i, x, y, h, _ => by simp at h
  | [z], i, x, y, _, h => by simp at h
  | a :: b :: r, 0, x, y, h1, h2 => by
    simp at h1 h2
    subst h1 h2
    rfl
  | a :: b :: r, i + 1, x, y, h1, h2 => by
    have e1 : 2 * (i + 1) = (2 * i + 1) + 1 := by omega
    have e2 : 2 * (i + 1) + 1 = (2 * i + 1 + 1) + 1 := by omega
    rw [e1, List.getElem?_cons_succ, List.getElem?_cons_succ] at h1
    rw [e2, List.getElem?_cons_succ, List.getElem?_cons_succ] at h2
    exact pairs_get r i x y h1 h2
/-! ### distances -/
def swapP (e : Nat × Nat) : Nat × Nat := (e.2, e.1)
def stepsOf (es : List (Nat × Nat)) : List (Nat × Nat) := es ++ es.map swapP
def relax (i : Nat) (D : List (Option Nat)) (s : Nat × Nat) : List (Option Nat) :=
  if D.getD s.1 none = some i ∧ D.getD s.2 none = none then D.set s.2 (some (i + 1)) else D
def round (S : List (Nat × Nat)) (D : List (Option Nat)) (i : Nat) : List (Option Nat) := S.foldl (relax i) D
def start0 (n s : Nat) : List (Option Nat) := (List.replicate n none).set s (some 0)
def dists (n : Nat) (S : List (Nat × Nat)) (s : Nat) : List (Option Nat) := (List.range (n - 1)).foldl (round S) (start0 n s)
def startL (n : Nat) (ss : List Nat) : List (Option Nat) := ss.foldl (fun D s => D.set s (some 0)) (List.replicate n none)
def distL (n : Nat) (S : List (Nat × Nat)) (ss : List Nat) : List (Option Nat) := (List.range (n - 1)).foldl (round S) (startL n ss)
theorem distL_one (n : Nat) (S : List (Nat × Nat)) (s : Nat) : distL n S [s] = dists n S s := rfl
theorem startL_len (n : Nat) (ss : List Nat) : (startL n ss).length = n := by
  unfold startL
  have : ∀ (ss : List Nat) (D : List (Option Nat)), (ss.foldl (fun D s => D.set s (some 0)) D).length = D.length := by
    intro ss
    induction ss with
    | nil => intro D; rfl
    | cons s ss ih => intro D; rw [List.foldl_cons, ih, List.length_set]
  rw [this, List.length_replicate]
theorem adj_steps {g : Graph} {u v : Nat} : Ks577.isAdjacent g u v = true ↔ (u, v) ∈ stepsOf g.edges := by
  unfold Ks577.isAdjacent stepsOf
  simp only [List.any_eq_true, List.mem_append, List.mem_map, Bool.or_eq_true, Bool.and_eq_true, beq_iff_eq]
  constructor
  · rintro ⟨⟨a, b⟩, h, ⟨rfl, rfl⟩ | ⟨rfl, rfl⟩⟩
    · exact .inl h
    · exact .inr ⟨_, h, rfl⟩
  · rintro (h | ⟨⟨a, b⟩, h, e⟩)
    · exact ⟨_, h, .inl ⟨rfl, rfl⟩⟩
    · simp only [swapP, Prod.mk.injEq] at e
      exact ⟨_, h, .inr ⟨e.2, e.1⟩⟩
theorem adj_comm {g : Graph} {u v : Nat} (h : Ks577.isAdjacent g u v = true) : Ks577.isAdjacent g v u = true := by
  unfold Ks577.isAdjacent at h ⊢
  simp only [List.any_eq_true, Bool.or_eq_true, Bool.and_eq_true, beq_iff_eq] at h ⊢
  obtain ⟨e, he, h⟩ := h
  exact ⟨e, he, h.symm⟩
theorem adj_lt {g : Graph} {n : Nat} (hb : Bd n g.edges) {u v : Nat} (h : Ks577.isAdjacent g u v = true) : u < n ∧ v < n ∧ u ≠ v := by
  unfold Ks577.isAdjacent at h
  simp only [List.any_eq_true, Bool.or_eq_true, Bool.and_eq_true, beq_iff_eq] at h
  obtain ⟨e, he, h⟩ := h
  have := hb e he
  omega
theorem steps_lt {n : Nat} {es : List (Nat × Nat)} (hb : Bd n es) {s : Nat × Nat} (h : s ∈ stepsOf es) : s.1 < n ∧ s.2 < n ∧ s.1 ≠ s.2 := by
  have := adj_lt (g := ⟨n, es⟩) hb (u := s.1) (v := s.2) (adj_steps.mpr h)
  exact this
def nbh (g : Graph) (s k : Nat) : List Nat := Ks577.neighbourhood g k [s]
def expand (g : Graph) (vs : List Nat) : List Nat := (List.range g.vertexCount).filter fun v => vs.contains v || vs.any fun u => Ks577.isAdjacent g u v
theorem nb_succ (g : Graph) : ∀ (k : Nat) (vs : List Nat), Ks577.neighbourhood g (k + 1) vs = expand g (Ks577.neighbourhood g k vs)
  | 0, vs => rfl
  | k + 1, vs => nb_succ g k (expand g vs)
theorem R_zero {g : Graph} {s v : Nat} : v ∈ nbh g s 0 ↔ v = s := by simp [nbh, Ks577.neighbourhood]
theorem R_succ {g : Graph} {s k v : Nat} : v ∈ nbh g s (k + 1) ↔ v < g.vertexCount ∧ (v ∈ nbh g s k ∨ ∃ u, u ∈ nbh g s k ∧ Ks577.isAdjacent g u v = true) := by
  unfold nbh
  rw [nb_succ]
  simp only [expand, List.mem_filter, List.mem_range, Bool.or_eq_true, List.contains_iff_mem, List.any_eq_true]
theorem R_lt {g : Graph} {s v : Nat} (hs : s < g.vertexCount) : ∀ {k : Nat}, v ∈ nbh g s k → v < g.vertexCount
  | 0, h => by rw [R_zero] at h; omega
  | k + 1, h => (R_succ.mp h).1
theorem R_mono {g : Graph} {s k v : Nat} (hs : s < g.vertexCount) (h : v ∈ nbh g s k) : v ∈ nbh g s (k + 1) := R_succ.mpr ⟨R_lt hs h, .inl h⟩
theorem R_le {g : Graph} {s v : Nat} (hs : s < g.vertexCount) {k j : Nat} (h : v ∈ nbh g s k) (hj : k ≤ j) : v ∈ nbh g s j := by
  obtain ⟨d, rfl⟩ := Nat.exists_eq_add_of_le hj
  induction d with
  | zero => exact h
  | succ d ih => exact R_mono hs (ih (by omega))
def lev (g : Graph) (s m v : Nat) : Option Nat := (List.range m).find? fun k => (nbh g s k).contains v
theorem dist_lev (g : Graph) (s v : Nat) : Ks577.distance g s v = lev g s g.vertexCount v := rfl
theorem lev_none {g : Graph} {s m v : Nat} : lev g s m v = none ↔ ∀ k, k < m → v ∉ nbh g s k := by
  unfold lev
  simp only [List.find?_eq_none, List.mem_range, List.contains_iff_mem]
theorem lev_some {g : Graph} {s m v i : Nat} : lev g s m v = some i ↔ i < m ∧ v ∈ nbh g s i ∧ ∀ j, j < i → v ∉ nbh g s j := by
  unfold lev
  rw [List.find?_range_eq_some]
  simp only [List.mem_range, List.contains_iff_mem, Bool.not_eq_true', List.contains_eq_mem, decide_eq_false_iff_not, decide_eq_true_eq]
  constructor
  · rintro ⟨a, b, c⟩; exact ⟨b, a, c⟩
  · rintro ⟨a, b, c⟩; exact ⟨b, a, c⟩
theorem lev_succ_of_some {g : Graph} {s m v i : Nat} (h : lev g s m v = some i) : lev g s (m + 1) v = some i := by
  rw [lev_some] at h ⊢
  exact ⟨by omega, h.2⟩
theorem lev_succ_of_none {g : Graph} {s m v : Nat} (h : lev g s m v = none) : lev g s (m + 1) v = if v ∈ nbh g s m then some m else none := by
  rw [lev_none] at h
  split
  · rename_i hm
    rw [lev_some]
    exact ⟨by omega, hm, h⟩
  · rename_i hm
    rw [lev_none]
    intro k hk
    by_cases e : k = m
    · subst e; exact hm
    · exact h k (by omega)
theorem next_level {g : Graph} {s i v : Nat} (hs : s < g.vertexCount) (hb : Bd g.vertexCount g.edges) (h : lev g s (i + 1) v = none) :
    v ∈ nbh g s (i + 1) ↔ ∃ u, (u, v) ∈ stepsOf g.edges ∧ lev g s (i + 1) u = some i := by
  rw [lev_none] at h
  constructor
  · intro hv
    obtain ⟨hv, hq | ⟨u, hu, ha⟩⟩ := R_succ.mp hv
    · exact absurd hq (h i (by omega))
    · refine ⟨u, adj_steps.mp ha, lev_some.mpr ⟨by omega, hu, fun j hj hj' => ?_⟩⟩
      exact h (j + 1) (by omega) (R_succ.mpr ⟨hv, .inr ⟨u, hj', ha⟩⟩)
  · rintro ⟨u, hu, hl⟩
    have ha := adj_steps.mpr hu
    exact R_succ.mpr ⟨(adj_lt hb ha).2.1, .inr ⟨u, (lev_some.mp hl).2.1, ha⟩⟩
theorem relax_len (i : Nat) (D : List (Option Nat)) (s : Nat × Nat) : (relax i D s).length = D.length := by
  unfold relax; split <;> simp
theorem round_len : ∀ (S : List (Nat × Nat)) (D : List (Option Nat)) (i : Nat), (round S D i).length = D.length
  | [], D, i => rfl
  | s :: S, D, i => by
    show (round S (relax i D s) i).length = D.length
    rw [round_len S, relax_len]
theorem getD_set {D : List (Option Nat)} {a v : Nat} {x : Option Nat} (ha : a < D.length) : (D.set a x).getD v none = if v = a then x else D.getD v none := by
  simp only [List.getD_eq_getElem?_getD, List.getElem?_set]
  by_cases e : a = v
  · subst e; simp [ha]
  · have e' : ¬ v = a := fun q => e q.symm
    simp [e, e']
/-! what a round makes of the distances -/
open Classical in
theorem round_get (D : List (Option Nat)) (i : Nat) : ∀ (S P : List (Nat × Nat)) (E : List (Option Nat)), E.length = D.length → (∀ s ∈ S, s.2 < D.length) →
    (∀ v, E.getD v none = if D.getD v none = none ∧ ∃ u, (u, v) ∈ P ∧ D.getD u none = some i then some (i + 1) else D.getD v none) →
    ∀ v, (round S E i).getD v none = if D.getD v none = none ∧ ∃ u, (u, v) ∈ P ++ S ∧ D.getD u none = some i then some (i + 1) else D.getD v none
  | [], P, E, _, _, h, v => by
    show E.getD v none = _
    rw [h v, List.append_nil]
  | (a, b) :: S, P, E, hl, hS, h, v => by
    show (round S (relax i E (a, b)) i).getD v none = _
    have key : ∀ v, (relax i E (a, b)).getD v none = if D.getD v none = none ∧ ∃ u, (u, v) ∈ P ++ [(a, b)] ∧ D.getD u none = some i then some (i + 1) else D.getD v none := by
      intro v
      have hA : E.getD a none = some i ↔ D.getD a none = some i := by
        rw [h a]
        split
        · rename_i c
          rw [c.1]
          constructor
          · intro q; have := Option.some.inj q; omega
          · intro q; cases q
        · exact Iff.rfl
      have hB : E.getD b none = none ↔ D.getD b none = none ∧ ¬ ∃ u, (u, b) ∈ P ∧ D.getD u none = some i := by
        rw [h b]
        split
        · rename_i c
          constructor
          · intro q; cases q
          · intro q; exact absurd c.2 q.2
        · rename_i c
          constructor
          · intro q; exact ⟨q, fun z => c ⟨q, z⟩⟩
          · intro q; exact q.1
      unfold relax
      simp only
      split
      · rename_i c
        have hbl : b < E.length := by rw [hl]; exact hS (a, b) (by simp)
        rw [getD_set hbl]
        by_cases e : v = b
        · subst e
          rw [if_pos rfl, if_pos]
          exact ⟨(hB.mp c.2).1, a, by simp, hA.mp c.1⟩
        · rw [if_neg e, h v]
          have : (∃ u, (u, v) ∈ P ++ [(a, b)] ∧ D.getD u none = some i) ↔ ∃ u, (u, v) ∈ P ∧ D.getD u none = some i := by
            constructor
            · rintro ⟨u, hu, q⟩
              simp only [List.mem_append, List.mem_singleton, Prod.mk.injEq] at hu
              rcases hu with hu | hu
              · exact ⟨u, hu, q⟩
              · exact absurd hu.2 e
            · rintro ⟨u, hu, q⟩
              exact ⟨u, by simp [hu], q⟩
          simp only [this]
      · rename_i c
        rw [h v]
        by_cases e : v = b
        · subst e
          by_cases hn : D.getD v none = none
          · by_cases hP : ∃ u, (u, v) ∈ P ∧ D.getD u none = some i
            · obtain ⟨u, hu, q⟩ := hP
              rw [if_pos ⟨hn, u, hu, q⟩, if_pos ⟨hn, u, by simp [hu], q⟩]
            · rw [if_neg (fun z => hP z.2), if_neg]
              rintro ⟨_, u, hu, q⟩
              simp only [List.mem_append, List.mem_singleton, Prod.mk.injEq] at hu
              rcases hu with hu | hu
              · exact hP ⟨u, hu, q⟩
              · refine c ⟨hA.mpr ?_, hB.mpr ⟨hn, hP⟩⟩
                rw [← hu.1]; exact q
          · rw [if_neg (fun z => hn z.1), if_neg (fun z => hn z.1)]
        · have : (∃ u, (u, v) ∈ P ++ [(a, b)] ∧ D.getD u none = some i) ↔ ∃ u, (u, v) ∈ P ∧ D.getD u none = some i := by
            constructor
            · rintro ⟨u, hu, q⟩
              simp only [List.mem_append, List.mem_singleton, Prod.mk.injEq] at hu
              rcases hu with hu | hu
              · exact ⟨u, hu, q⟩
              · exact absurd hu.2 e
            · rintro ⟨u, hu, q⟩
              exact ⟨u, by simp [hu], q⟩
          simp only [this]
    have ih := round_get D i S (P ++ [(a, b)]) (relax i E (a, b)) (by rw [relax_len]; exact hl) (fun s hs => hS s (by simp [hs])) key v
    rw [ih, List.append_assoc]
    rfl
open Classical in
theorem dists_inv (g : Graph) (s : Nat) (hs : s < g.vertexCount) (hb : Bd g.vertexCount g.edges) : ∀ m : Nat,
    ((List.range m).foldl (round (stepsOf g.edges)) (start0 g.vertexCount s)).length = g.vertexCount ∧
    ∀ v, v < g.vertexCount → ((List.range m).foldl (round (stepsOf g.edges)) (start0 g.vertexCount s)).getD v none = lev g s (m + 1) v
  | 0 => by
    refine ⟨by simp [start0], fun v hv => ?_⟩
    show (start0 g.vertexCount s).getD v none = _
    unfold start0
    rw [getD_set (by simpa using hs)]
    have e : lev g s 1 v = if v = s then some 0 else none := by
      split
      · rename_i c; subst c
        exact lev_some.mpr ⟨by omega, R_zero.mpr rfl, fun j hj => by omega⟩
      · rename_i c
        refine lev_none.mpr fun k hk => ?_
        have : k = 0 := by omega
        subst this
        exact fun z => c (R_zero.mp z)
    rw [e]
    split
    · rfl
    · simp only [List.getD_eq_getElem?_getD, List.getElem?_replicate]
      split <;> rfl
  | m + 1 => by
    obtain ⟨l, ih⟩ := dists_inv g s hs hb m
    rw [List.range_succ, List.foldl_append]
    show (round _ _ m).length = _ ∧ ∀ v, v < _ → (round _ _ m).getD v none = _
    refine ⟨by rw [round_len, l], fun v hv => ?_⟩
    rw [round_get _ m _ [] _ rfl (fun z hz => by rw [l]; exact (steps_lt hb hz).2.1) (fun v => by simp) v]
    rw [ih v hv]
    cases hL : lev g s (m + 1) v with
    | some i => rw [if_neg (fun z => by cases z.1), lev_succ_of_some hL]
    | none =>
      rw [lev_succ_of_none hL]
      have nl := next_level hs hb hL
      have e : (∃ u, (u, v) ∈ ([] : List (Nat × Nat)) ++ stepsOf g.edges ∧ ((List.range m).foldl (round (stepsOf g.edges)) (start0 g.vertexCount s)).getD u none = some m) ↔ v ∈ nbh g s (m + 1) := by
        rw [nl]
        constructor
        · rintro ⟨u, hu, q⟩
          rw [List.nil_append] at hu
          rw [ih u (steps_lt hb hu).1] at q
          exact ⟨u, hu, q⟩
        · rintro ⟨u, hu, q⟩
          refine ⟨u, by rw [List.nil_append]; exact hu, ?_⟩
          rw [ih u (steps_lt hb hu).1]
          exact q
      simp only [e, true_and]
theorem ext_getD {A B : List (Option Nat)} (hl : A.length = B.length) (h : ∀ v, v < A.length → A.getD v none = B.getD v none) : A = B := by
  refine List.ext_getElem hl fun i h1 h2 => ?_
  have := h i h1
  simpa [List.getD_eq_getElem?_getD, h1, h2] using this
theorem dists_is {g : Graph} {s : Nat} (hs : s < g.vertexCount) (hb : Bd g.vertexCount g.edges) :
    dists g.vertexCount (stepsOf g.edges) s = (List.range g.vertexCount).map (Ks577.distance g s) := by
  obtain ⟨l, h⟩ := dists_inv g s hs hb (g.vertexCount - 1)
  refine ext_getD (by rw [dists, l]; simp) fun v hv => ?_
  have hv' : v < g.vertexCount := by rw [dists, l] at hv; exact hv
  rw [dists, h v hv', show g.vertexCount - 1 + 1 = g.vertexCount by omega]
  simp [List.getD_eq_getElem?_getD, hv', dist_lev]
/-! ### connected -/
theorem filter_lt {p q : Nat → Bool} : ∀ (l : List Nat), (∀ x ∈ l, p x = true → q x = true) → (∃ x ∈ l, p x = false ∧ q x = true) → (l.filter p).length < (l.filter q).length
  | [], _, h => by obtain ⟨x, hx, _⟩ := h; cases hx
  | a :: l, hs, h => by
    have le : ∀ (l : List Nat), (∀ x ∈ l, p x = true → q x = true) → (l.filter p).length ≤ (l.filter q).length := by
      intro l
      induction l with
      | nil => intro _; exact Nat.le_refl _
      | cons b l ih =>
        intro hs
        have := ih fun x hx => hs x (by simp [hx])
        have hb := hs b (by simp)
        simp only [List.filter_cons]
        cases hp : p b
        · cases hq : q b <;> simp <;> omega
        · rw [hb hp]; simp; omega
    obtain ⟨x, hx, hpx, hqx⟩ := h
    have hs' : ∀ x ∈ l, p x = true → q x = true := fun x hx => hs x (by simp [hx])
    simp only [List.filter_cons]
    rcases List.mem_cons.mp hx with rfl | hx
    · rw [hpx, hqx]
      have := le l hs'
      simp; omega
    · have ih := filter_lt l hs' ⟨x, hx, hpx, hqx⟩
      have hb := hs a (by simp)
      cases hp : p a
      · cases hq : q a <;> simp <;> omega
      · rw [hb hp]; simp; omega
theorem stable {g : Graph} {s k : Nat} (hs : s < g.vertexCount) (h : ∀ v, v ∈ nbh g s (k + 1) → v ∈ nbh g s k) : ∀ d v, v ∈ nbh g s (k + d) → v ∈ nbh g s k
  | 0, v, hv => hv
  | d + 1, v, hv => by
    have hv' : v ∈ nbh g s ((k + d) + 1) := hv
    obtain ⟨h1, h2 | ⟨u, hu, ha⟩⟩ := R_succ.mp hv'
    · exact stable hs h d v h2
    · exact h v (R_succ.mpr ⟨h1, .inr ⟨u, stable hs h d u hu, ha⟩⟩)
def card (g : Graph) (s k : Nat) : Nat := ((List.range g.vertexCount).filter fun v => (nbh g s k).contains v).length
theorem grows {g : Graph} {s : Nat} (hs : s < g.vertexCount) : ∀ k, (∃ j, j < k ∧ ∀ v, v ∈ nbh g s (j + 1) → v ∈ nbh g s j) ∨ k + 1 ≤ card g s k
  | 0 => by
    right
    have : 0 < ((List.range g.vertexCount).filter fun v => (nbh g s 0).contains v).length := by
      refine List.length_pos_of_mem (a := s) ?_
      simp [List.mem_filter, hs, R_zero]
    unfold card; omega
  | k + 1 => by
    rcases grows hs k with ⟨j, hj, h⟩ | h
    · exact .inl ⟨j, by omega, h⟩
    · by_cases hst : ∀ v, v ∈ nbh g s (k + 1) → v ∈ nbh g s k
      · exact .inl ⟨k, by omega, hst⟩
      · right
        have : ∃ v, v ∈ nbh g s (k + 1) ∧ v ∉ nbh g s k := by
          apply Classical.byContradiction
          intro hne
          exact hst fun v hv => Classical.byContradiction fun q => hne ⟨v, hv, q⟩
        obtain ⟨v, h1, h2⟩ := this
        have := filter_lt (p := fun v => (nbh g s k).contains v) (q := fun v => (nbh g s (k + 1)).contains v) (List.range g.vertexCount)
          (fun x _ hx => by
            simp only [List.contains_iff_mem] at hx ⊢
            exact R_mono hs hx)
          ⟨v, by simp [R_lt hs h1], by simp [h2], by simp [h1]⟩
        unfold card at h ⊢
        omega
theorem all_of_card : ∀ {p : Nat → Bool} (l : List Nat), l.length ≤ (l.filter p).length → ∀ x ∈ l, p x = true
  | p, [], _, x, hx => by cases hx
  | p, a :: l, h, x, hx => by
    have hle : (l.filter p).length ≤ l.length := List.length_filter_le _ _
    simp only [List.filter_cons, List.length_cons] at h
    cases hp : p a
    · rw [hp] at h
      simp at h
      omega
    · rw [hp] at h
      simp at h
      rcases List.mem_cons.mp hx with rfl | hx
      · exact hp
      · exact all_of_card l h x hx
/-- whatever is reached is reached within vertexCount - 1 steps -/
theorem short {g : Graph} {s v j : Nat} (hs : s < g.vertexCount) (h : v ∈ nbh g s j) : v ∈ nbh g s (g.vertexCount - 1) := by
  rcases grows hs (g.vertexCount - 1) with ⟨k, hk, hst⟩ | hc
  · by_cases c : j ≤ k
    · exact R_le hs h (by omega)
    · obtain ⟨d, rfl⟩ := Nat.exists_eq_add_of_le (show k ≤ j by omega)
      exact R_le hs (stable hs hst d v h) (by omega)
  · have hv := R_lt hs h
    have := all_of_card (p := fun v => (nbh g s (g.vertexCount - 1)).contains v) (List.range g.vertexCount) (by
      unfold card at hc
      simp only [List.length_range]
      omega) v (by simp [hv])
    simpa using this
def Reach (g : Graph) (u v : Nat) : Prop := ∃ k, v ∈ nbh g u k
theorem Reach.trans {g : Graph} {u w : Nat} (hu : u < g.vertexCount) (h : Reach g u w) : ∀ {j v : Nat}, v ∈ nbh g w j → Reach g u v
  | 0, v, hv => by rw [R_zero] at hv; subst hv; exact h
  | j + 1, v, hv => by
    obtain ⟨h1, h2 | ⟨x, hx, ha⟩⟩ := R_succ.mp hv
    · exact Reach.trans hu h h2
    · obtain ⟨k, hk⟩ := Reach.trans hu h hx
      exact ⟨k + 1, R_succ.mpr ⟨h1, .inr ⟨x, hk, ha⟩⟩⟩
theorem Reach.symm {g : Graph} (hb : Bd g.vertexCount g.edges) {u : Nat} (hu : u < g.vertexCount) : ∀ {k v : Nat}, v ∈ nbh g u k → Reach g v u
  | 0, v, hv => by rw [R_zero] at hv; subst hv; exact ⟨0, R_zero.mpr rfl⟩
  | k + 1, v, hv => by
    obtain ⟨h1, h2 | ⟨x, hx, ha⟩⟩ := R_succ.mp hv
    · exact Reach.symm hb hu h2
    · obtain ⟨j, hj⟩ := Reach.symm hb hu hx
      have hx1 : x ∈ nbh g v 1 := R_succ.mpr ⟨(adj_lt hb ha).1, .inr ⟨v, R_zero.mpr rfl, adj_comm ha⟩⟩
      exact Reach.trans h1 ⟨1, hx1⟩ hj
theorem dist_some_of {g : Graph} {u v : Nat} (hu : u < g.vertexCount) (h : Reach g u v) : (Ks577.distance g u v).isSome = true := by
  obtain ⟨k, hk⟩ := h
  have := short hu hk
  cases e : Ks577.distance g u v with
  | some _ => rfl
  | none =>
    rw [dist_lev, lev_none] at e
    exact absurd this (e _ (by omega))
theorem reach_of_dist {g : Graph} {u v : Nat} (h : (Ks577.distance g u v).isSome = true) : Reach g u v := by
  obtain ⟨i, hi⟩ := Option.isSome_iff_exists.mp h
  rw [dist_lev, lev_some] at hi
  exact ⟨i, hi.2.1⟩
theorem conn_all {g : Graph} (hb : Bd g.vertexCount g.edges) (hn : 0 < g.vertexCount) (hc : Ks578.isConnected g = true) {u v : Nat} (hu : u < g.vertexCount) (hv : v < g.vertexCount) : (Ks577.distance g u v).isSome = true := by
  unfold Ks578.isConnected at hc
  simp only [List.all_eq_true, List.mem_range] at hc
  obtain ⟨k1, r1⟩ := reach_of_dist (hc u hu)
  obtain ⟨k2, r2⟩ := reach_of_dist (hc v hv)
  exact dist_some_of hu (Reach.trans hu (Reach.symm hb hn r1) r2)
/-! ### the largest distance -/
def big1 (acc d : Option Nat) : Option Nat := match acc, d with
  | some m, some k => some (max m k)
  | _, _ => none
def big (ds : List (Option Nat)) : Option Nat := ds.foldl big1 (some 0)
theorem big_none : ∀ (ds : List (Option Nat)), ds.foldl big1 none = none
  | [] => rfl
  | d :: ds => big_none ds
theorem big_some : ∀ (ds : List (Option Nat)) (m : Nat), (∀ d ∈ ds, d.isSome = true) → ds.foldl big1 (some m) = some ((ds.map fun d => d.getD 0).foldl max m)
  | [], m, _ => rfl
  | none :: ds, m, h => by have := h none (by simp); cases this
  | some k :: ds, m, h => big_some ds (max m k) fun d hd => h d (by simp [hd])
theorem big_bad : ∀ (ds : List (Option Nat)) (a : Option Nat), none ∈ ds → ds.foldl big1 a = none
  | none :: ds, a, _ => by
    have e : big1 a none = none := by cases a <;> rfl
    show ds.foldl big1 (big1 a none) = none
    rw [e, big_none]
  | some k :: ds, a, h => by
    show ds.foldl big1 (big1 a (some k)) = none
    exact big_bad ds _ (by simpa using h)
def largest (n : Nat) (S : List (Nat × Nat)) : Option Nat := big ((List.range n).flatMap (dists n S))
theorem flat_congr {α β : Type} {f h : α → List β} : ∀ (l : List α), (∀ x ∈ l, f x = h x) → l.flatMap f = l.flatMap h
  | [], _ => rfl
  | a :: l, e => by
    rw [List.flatMap_cons, List.flatMap_cons, e a (by simp), flat_congr l fun x hx => e x (by simp [hx])]
theorem largest_conn {g : Graph} (hb : Bd g.vertexCount g.edges) (hn : 0 < g.vertexCount) (hc : Ks578.isConnected g = true) : largest g.vertexCount (stepsOf g.edges) = some (Ks578.diameter g) := by
  unfold largest big Ks578.diameter
  rw [flat_congr (h := fun u => (List.range g.vertexCount).map (Ks577.distance g u)) _ fun u hu => dists_is (List.mem_range.mp hu) hb]
  rw [big_some]
  · rw [List.map_flatMap]
    simp only [List.map_map]
    rfl
  · intro d hd
    obtain ⟨u, hu, hd⟩ := List.mem_flatMap.mp hd
    obtain ⟨v, hv, rfl⟩ := List.mem_map.mp hd
    exact conn_all hb hn hc (List.mem_range.mp hu) (List.mem_range.mp hv)
theorem largest_not {g : Graph} (hb : Bd g.vertexCount g.edges) (hn : 0 < g.vertexCount) (hc : Ks578.isConnected g = false) : largest g.vertexCount (stepsOf g.edges) = none := by
  unfold largest big
  refine big_bad _ _ ?_
  rw [flat_congr (h := fun u => (List.range g.vertexCount).map (Ks577.distance g u)) _ fun u hu => dists_is (List.mem_range.mp hu) hb]
  have : ∃ v, v < g.vertexCount ∧ Ks577.distance g 0 v = none := by
    apply Classical.byContradiction
    intro hne
    have : Ks578.isConnected g = true := by
      unfold Ks578.isConnected
      simp only [List.all_eq_true, List.mem_range]
      intro v hv
      cases e : Ks577.distance g 0 v with
      | some _ => rfl
      | none => exact absurd ⟨v, hv, e⟩ hne
    rw [hc] at this; cases this
  obtain ⟨v, hv, e⟩ := this
  refine List.mem_flatMap.mpr ⟨0, by simp [hn], List.mem_map.mpr ⟨v, by simp [hv], e⟩⟩
end Pb

set_option Elab.async false
set_option linter.all false
namespace Pb
open Ks577 (Graph)
/-! ### configurations: beginnings that grow -/
def ext (p : Nat) (b : List Nat) : List (List Nat) := (List.range (p - b.sum + 1)).map fun x => b ++ [x]
def longer (p : Nat) (bs : List (List Nat)) : List (List Nat) := bs.flatMap (ext p)
def fin (p : Nat) (b : List Nat) : List Nat := b ++ [p - b.sum]
def iter (p : Nat) : Nat → List (List Nat) → List (List Nat)
  | 0, bs => bs
  | k + 1, bs => iter p k (longer p bs)
def confs (n p : Nat) : List (List Nat) := (iter p (n - 1) [[]]).map (fin p)
theorem conf_zero (q : Nat) : Ks578.configurations 0 q = if q = 0 then [[]] else [] := by rw [Ks578.configurations]
theorem conf_succ (m q : Nat) : Ks578.configurations (m + 1) q = (List.range (q + 1)).flatMap fun x => (Ks578.configurations m (q - x)).map fun r => x :: r := by rw [Ks578.configurations]
theorem conf_one (q : Nat) : Ks578.configurations 1 q = [[q]] := by
  rw [conf_succ, List.range_succ, List.flatMap_append]
  have e : (List.range q).flatMap (fun x => (Ks578.configurations 0 (q - x)).map fun r => x :: r) = [] := by
    rw [List.flatMap_eq_nil_iff]
    intro x hx
    have : ¬ q - x = 0 := by have := List.mem_range.mp hx; omega
    rw [conf_zero, if_neg this]; rfl
  rw [e]
  simp [conf_zero]
theorem flat_map_map {α β γ : Type} (f : α → List β) (h : β → γ) (l : List α) : (l.flatMap f).map h = l.flatMap fun x => (f x).map h := List.map_flatMap ..
theorem iter_fin (p : Nat) : ∀ (m : Nat) (bs : List (List Nat)), (∀ b ∈ bs, b.sum ≤ p) → (iter p m bs).map (fin p) = bs.flatMap fun b => (Ks578.configurations (m + 1) (p - b.sum)).map fun r => b ++ r
  | 0, bs, h => by
    show bs.map (fin p) = _
    simp only [Nat.zero_add, conf_one, List.map_cons, List.map_nil]
    rw [List.flatMap_def]
    induction bs with
    | nil => rfl
    | cons b bs ih =>
      simp only [List.map_cons, List.flatten_cons, List.singleton_append]
      rw [ih fun x hx => h x (by simp [hx])]
      rfl
  | m + 1, bs, h => by
    show (iter p m (longer p bs)).map (fin p) = _
    rw [iter_fin p m]
    · unfold longer
      rw [List.flatMap_assoc]
      refine flat_congr _ fun b hb => ?_
      unfold ext
      rw [List.flatMap_map, conf_succ (m + 1), List.map_flatMap]
      refine flat_congr _ fun x hx => ?_
      have hx' := List.mem_range.mp hx
      rw [List.sum_append, List.map_map]
      simp only [List.sum_cons, List.sum_nil, Nat.add_zero]
      rw [show p - (b.sum + x) = p - b.sum - x by omega]
      refine List.map_congr_left fun r _ => ?_
      simp
    · intro c hc
      unfold longer at hc
      obtain ⟨b, hb, hc⟩ := List.mem_flatMap.mp hc
      obtain ⟨x, hx, rfl⟩ := List.mem_map.mp hc
      have := h b hb
      have hx' := List.mem_range.mp hx
      rw [List.sum_append]
      simp only [List.sum_cons, List.sum_nil]
      omega
theorem confs_is {n p : Nat} (hn : 0 < n) : confs n p = Ks578.configurations n p := by
  unfold confs
  rw [iter_fin p (n - 1) [[]] (by simp)]
  rw [show n - 1 + 1 = n by omega]
  simp
theorem iter_last (p : Nat) : ∀ (k : Nat) (bs : List (List Nat)), iter p (k + 1) bs = longer p (iter p k bs)
  | 0, bs => rfl
  | k + 1, bs => iter_last p k (longer p bs)
theorem conf_mem : ∀ (n p : Nat) (c : List Nat), c ∈ Ks578.configurations n p ↔ c.length = n ∧ c.sum = p
  | 0, p, c => by
    rw [conf_zero]
    split
    · rename_i h; subst h
      simp only [List.mem_singleton]
      constructor
      · rintro rfl; exact ⟨rfl, rfl⟩
      · rintro ⟨h, _⟩; exact List.length_eq_zero_iff.mp h
    · rename_i h
      constructor
      · intro z; cases z
      · rintro ⟨h1, h2⟩
        have := List.length_eq_zero_iff.mp h1
        subst this
        exact absurd h2.symm h
  | n + 1, p, c => by
    rw [conf_succ]
    simp only [List.mem_flatMap, List.mem_map, List.mem_range]
    constructor
    · rintro ⟨x, hx, r, hr, rfl⟩
      have := (conf_mem n _ r).mp hr
      simp only [List.length_cons, List.sum_cons]
      omega
    · rintro ⟨h1, h2⟩
      cases c with
      | nil => simp at h1
      | cons x r =>
        simp only [List.length_cons, List.sum_cons] at h1 h2
        exact ⟨x, by omega, r, (conf_mem n _ r).mpr ⟨by omega, by omega⟩, rfl⟩
/-! ### unsolvable -/
def afterMove (c : List Nat) (a b : Nat) : List Nat := (c.set a (c.getD a 0 - 2)).set b ((c.set a (c.getD a 0 - 2)).getD b 0 + 1)
theorem move_is (c : List Nat) (a b : Nat) : Ks577.move c a b = afterMove c a b := rfl
def isUns (t : Nat) (S : List (Nat × Nat)) (fewer : List (List Nat)) (c : List Nat) : Bool :=
  decide (c.getD t 0 = 0) && S.all fun s => decide (c.getD s.1 0 < 2) || fewer.contains (afterMove c s.1 s.2)
def uns (n t : Nat) (S : List (Nat × Nat)) : Nat → List (List Nat)
  | 0 => [List.replicate n 0]
  | p + 1 => (confs n (p + 1)).filter (isUns t S (uns n t S p))
theorem conf_nought : ∀ n, Ks578.configurations n 0 = [List.replicate n 0]
  | 0 => by rw [conf_zero]; rfl
  | n + 1 => by
    rw [conf_succ]
    simp [conf_nought n, List.replicate_succ]
theorem isUns_is {g : Graph} (hb : Bd g.vertexCount g.edges) (t : Nat) (F : List (List Nat)) (c : List Nat) :
    isUns t (stepsOf g.edges) F c = (Ks577.pebblesAt c t == 0 && (Ks577.successors g c).all fun d => F.contains d) := by
  rw [Bool.eq_iff_iff]
  unfold isUns Ks577.successors Ks577.possibleMoves Ks577.pebblesAt
  simp only [Bool.and_eq_true, decide_eq_true_eq, beq_iff_eq, List.all_eq_true, Bool.or_eq_true, List.mem_map, List.mem_flatMap, List.mem_filter, List.mem_range]
  refine and_congr Iff.rfl ⟨fun h d => ?_, fun h s hs => ?_⟩
  · rintro ⟨m, ⟨u, hu, v, ⟨hv, hm⟩, rfl⟩, rfl⟩
    unfold Ks577.canMove Ks577.pebblesAt at hm
    simp only [Bool.and_eq_true, decide_eq_true_eq] at hm
    rcases h (u, v) (adj_steps.mp hm.1) with q | q
    · simp only at q; omega
    · exact q
  · by_cases q : c.getD s.1 0 < 2
    · exact .inl q
    · refine .inr (h _ ⟨(s.1, s.2), ⟨s.1, (steps_lt hb hs).1, s.2, ⟨(steps_lt hb hs).2.1, ?_⟩, rfl⟩, rfl⟩)
      unfold Ks577.canMove Ks577.pebblesAt
      simp only [Bool.and_eq_true, decide_eq_true_eq]
      exact ⟨adj_steps.mpr hs, by omega⟩
theorem unsolvable_zero (g : Graph) (t : Nat) : Ks578.unsolvable g t 0 = Ks578.configurations g.vertexCount 0 := by rw [Ks578.unsolvable]
theorem unsolvable_succ (g : Graph) (t p : Nat) : Ks578.unsolvable g t (p + 1) = (Ks578.configurations g.vertexCount (p + 1)).filter fun c => Ks577.pebblesAt c t == 0 && (Ks577.successors g c).all fun d => (Ks578.unsolvable g t p).contains d := by rw [Ks578.unsolvable]
theorem uns_is {g : Graph} (hb : Bd g.vertexCount g.edges) (hn : 0 < g.vertexCount) (t : Nat) : ∀ p, uns g.vertexCount t (stepsOf g.edges) p = Ks578.unsolvable g t p
  | 0 => by rw [unsolvable_zero, conf_nought]; rfl
  | p + 1 => by
    rw [unsolvable_succ, uns, confs_is hn, uns_is hb hn t p]
    refine List.filter_congr fun c _ => ?_
    exact isUns_is hb t _ c
/-! ### nothing is unsolvable with ten pebbles -/
def U (g : Graph) (t p : Nat) (c : List Nat) : Prop := c ∈ Ks578.unsolvable g t p
theorem U_len {g : Graph} {t p : Nat} {c : List Nat} (h : U g t p c) : c.length = g.vertexCount ∧ c.sum = p := by
  unfold U at h
  cases p with
  | zero => rw [unsolvable_zero] at h; exact (conf_mem _ _ _).mp h
  | succ p => rw [unsolvable_succ] at h; exact (conf_mem _ _ _).mp (List.mem_filter.mp h).1
theorem zero_of_sum : ∀ (c : List Nat) (v : Nat), c.sum = 0 → c.getD v 0 = 0
  | [], v, _ => by simp
  | x :: c, 0, h => by simp at h ⊢; omega
  | x :: c, v + 1, h => by
    simp only [List.sum_cons] at h
    have := zero_of_sum c v (by omega)
    simpa using this
theorem U_target {g : Graph} {t p : Nat} {c : List Nat} (h : U g t p c) : c.getD t 0 = 0 := by
  cases p with
  | zero => exact zero_of_sum c t (U_len h).2
  | succ p =>
    unfold U at h
    rw [unsolvable_succ] at h
    have := (List.mem_filter.mp h).2
    simp only [Bool.and_eq_true, beq_iff_eq] at this
    exact this.1
theorem getD_le_sum : ∀ (c : List Nat) (v : Nat), c.getD v 0 ≤ c.sum
  | [], v => by simp
  | x :: c, 0 => by simp
  | x :: c, v + 1 => by
    have := getD_le_sum c v
    simp only [List.getD_cons_succ, List.sum_cons]
    omega
theorem U_move {g : Graph} {t p a b : Nat} {c : List Nat} (hb : Bd g.vertexCount g.edges) (h : U g t p c) (ha : Ks577.isAdjacent g a b = true) (h2 : 2 ≤ c.getD a 0) : U g t (p - 1) (afterMove c a b) ∧ 2 ≤ p := by
  have hs := getD_le_sum c a
  have hp : 2 ≤ p := by rw [(U_len h).2] at hs; omega
  obtain ⟨q, rfl⟩ : ∃ q, p = q + 1 := ⟨p - 1, by omega⟩
  unfold U at h
  rw [unsolvable_succ] at h
  have := (List.mem_filter.mp h).2
  simp only [Bool.and_eq_true, beq_iff_eq, List.all_eq_true] at this
  refine ⟨?_, hp⟩
  have h3 := this.2 (Ks577.move c a b) (by
    unfold Ks577.successors Ks577.possibleMoves
    simp only [List.mem_map, List.mem_flatMap, List.mem_filter, List.mem_range]
    refine ⟨(a, b), ⟨a, (adj_lt hb ha).1, b, ⟨(adj_lt hb ha).2.1, ?_⟩, rfl⟩, rfl⟩
    unfold Ks577.canMove Ks577.pebblesAt
    simp only [Bool.and_eq_true, decide_eq_true_eq]
    exact ⟨ha, h2⟩)
  rw [List.contains_iff_mem] at h3
  exact h3
theorem getD_setN {D : List Nat} {a v : Nat} {x : Nat} (ha : a < D.length) : (D.set a x).getD v 0 = if v = a then x else D.getD v 0 := by
  simp only [List.getD_eq_getElem?_getD, List.getElem?_set]
  by_cases e : a = v
  · subst e; simp [ha]
  · have e' : ¬ v = a := fun q => e q.symm
    simp [e, e']
theorem after_get {c : List Nat} {a b v : Nat} (ha : a < c.length) (hb : b < c.length) (ne : a ≠ b) : (afterMove c a b).getD v 0 = if v = b then c.getD b 0 + 1 else if v = a then c.getD a 0 - 2 else c.getD v 0 := by
  unfold afterMove
  rw [getD_setN (by simpa using hb), getD_setN ha, getD_setN ha]
  by_cases e : v = b
  · rw [if_pos e, if_pos e, if_neg (fun z => ne z.symm)]
  · rw [if_neg e, if_neg e]
/-- k moves along one edge -/
theorem U_push {g : Graph} {t a b : Nat} (hb : Bd g.vertexCount g.edges) (ha : Ks577.isAdjacent g a b = true) : ∀ (k p : Nat) (c : List Nat), U g t p c → 2 * k ≤ c.getD a 0 →
    ∃ q c', U g t q c' ∧ ∀ v, c'.getD v 0 = if v = b then c.getD b 0 + k else if v = a then c.getD a 0 - 2 * k else c.getD v 0
  | 0, p, c, h, _ => ⟨p, c, h, fun v => by
      split
      · rename_i e; subst e; rfl
      · split
        · rename_i e; subst e; rfl
        · rfl⟩
  | k + 1, p, c, h, hk => by
    have al := adj_lt hb ha
    have hl := (U_len h).1
    have h1 := (U_move hb h ha (by omega)).1
    have gt := fun v => after_get (c := c) (v := v) (by rw [hl]; exact al.1) (by rw [hl]; exact al.2.1) al.2.2
    obtain ⟨q, c', h2, e⟩ := U_push hb ha k (p - 1) (afterMove c a b) h1 (by
      rw [gt a, if_neg al.2.2, if_pos rfl]; omega)
    refine ⟨q, c', h2, fun v => ?_⟩
    rw [e v, gt b, if_pos rfl, gt a, if_neg al.2.2, if_pos rfl, gt v]
    split
    · omega
    · split
      · omega
      · rfl
/-- sums over a list of vertices -/
def S (l : List Nat) (f : Nat → Nat) : Nat := (l.map f).sum
theorem S_nil (f : Nat → Nat) : S [] f = 0 := rfl
theorem S_cons (a : Nat) (l : List Nat) (f : Nat → Nat) : S (a :: l) f = f a + S l f := by simp [S]
theorem S_congr {f h : Nat → Nat} : ∀ {l : List Nat}, (∀ v ∈ l, f v = h v) → S l f = S l h
  | [], _ => rfl
  | a :: l, e => by rw [S_cons, S_cons, e a (by simp), S_congr fun v hv => e v (by simp [hv])]
theorem S_le {f h : Nat → Nat} : ∀ {l : List Nat}, (∀ v ∈ l, f v ≤ h v) → S l f ≤ S l h
  | [], _ => Nat.le_refl _
  | a :: l, e => by
    rw [S_cons, S_cons]
    have := e a (by simp)
    have := S_le (l := l) fun v hv => e v (by simp [hv])
    omega
theorem S_add (f h : Nat → Nat) : ∀ l : List Nat, S l (fun v => f v + h v) = S l f + S l h
  | [] => rfl
  | a :: l => by rw [S_cons, S_cons, S_cons, S_add f h l]; omega
theorem S_mul (k : Nat) (f : Nat → Nat) : ∀ l : List Nat, S l (fun v => k * f v) = k * S l f
  | [] => rfl
  | a :: l => by rw [S_cons, S_cons, S_mul k f l, Nat.mul_add]
theorem S_zero : ∀ l : List Nat, S l (fun _ => 0) = 0
  | [] => rfl
  | a :: l => by rw [S_cons, S_zero l]
theorem S_swap (f : Nat → Nat → Nat) : ∀ (l m : List Nat), S l (fun a => S m fun b => f a b) = S m fun b => S l fun a => f a b
  | [], m => by simp only [S_nil]; rw [S_zero]
  | a :: l, m => by
    rw [S_cons, S_swap f l m, ← S_add]
    exact S_congr fun b _ => (S_cons a l fun a => f a b).symm
theorem S_pick {a k : Nat} : ∀ {l : List Nat}, l.Nodup → S l (fun v => if v = a then k else 0) = if a ∈ l then k else 0
  | [], _ => by simp [S_nil]
  | b :: l, hn => by
    rw [S_cons]
    have hn' := List.nodup_cons.mp hn
    rw [S_pick hn'.2]
    by_cases e : b = a
    · subst e
      rw [if_pos rfl, if_neg hn'.1, if_pos (by simp)]; rfl
    · rw [if_neg e]
      by_cases m : a ∈ l
      · rw [if_pos m, if_pos (by simp [m])]; omega
      · rw [if_neg m, if_neg]
        intro z
        rcases List.mem_cons.mp z with z | z
        · exact e z.symm
        · exact m z
theorem S_filter (p : Nat → Bool) (f : Nat → Nat) : ∀ l : List Nat, S (l.filter p) f = S l fun v => if p v = true then f v else 0
  | [] => rfl
  | a :: l => by
    rw [List.filter_cons, S_cons]
    split
    · rename_i h
      rw [S_cons, S_filter p f l]
    · rw [S_filter p f l]; omega
theorem S_range_eq_sum : ∀ (c : List Nat), S (List.range c.length) (fun v => c.getD v 0) = c.sum := by
  intro c
  unfold S
  congr 1
  refine List.ext_getElem (by simp) fun i h1 h2 => ?_
  have : i < c.length := by simpa using h1
  simp [List.getD_eq_getElem?_getD, this]
/-- every vertex of L hands on half of what it has to its parent -/
theorem U_level {g : Graph} {t : Nat} (hb : Bd g.vertexCount g.edges) (par : Nat → Nat) : ∀ (L : List Nat) (p : Nat) (c : List Nat), L.Nodup → (∀ v ∈ L, Ks577.isAdjacent g v (par v) = true ∧ par v ∉ L) → U g t p c →
    ∃ q c', U g t q c' ∧ ∀ v, c'.getD v 0 = (if v ∈ L then c.getD v 0 % 2 else c.getD v 0) + S L fun u => if par u = v then c.getD u 0 / 2 else 0
  | [], p, c, _, _, h => ⟨p, c, h, fun v => by simp [S_nil]⟩
  | a :: L, p, c, hn, ha, h => by
    have hn' := List.nodup_cons.mp hn
    have h1 := ha a (by simp)
    have al := adj_lt hb h1.1
    obtain ⟨q, c', u', e'⟩ := U_push hb h1.1 (c.getD a 0 / 2) p c h (by omega)
    obtain ⟨q2, c2, u2, e2⟩ := U_level hb par L q c' hn'.2 (fun v hv => ⟨(ha v (by simp [hv])).1, fun z => (ha v (by simp [hv])).2 (by simp [z])⟩) u'
    refine ⟨q2, c2, u2, fun v => ?_⟩
    have keep : ∀ u, u ∈ L → c'.getD u 0 = c.getD u 0 := fun u hu => by
      rw [e' u, if_neg, if_neg]
      · intro z; subst z; exact hn'.1 hu
      · intro z; subst z; exact h1.2 (by simp [hu])
    rw [e2 v, S_cons, S_congr (l := L) (h := fun u => if par u = v then c.getD u 0 / 2 else 0) fun u hu => by rw [keep u hu]]
    by_cases m : v ∈ L
    · have ne : v ≠ a := fun z => by subst z; exact hn'.1 m
      have nb : ¬ par a = v := fun z => h1.2 (by rw [z]; simp [m])
      rw [if_pos m, if_pos (by simp [m]), keep v m, if_neg nb]; omega
    · rw [if_neg m, e' v]
      by_cases ea : v = a
      · subst ea
        rw [if_neg (fun z => al.2.2 z), if_pos rfl, if_pos (by simp), if_neg (fun z => al.2.2 z.symm)]
        omega
      · rw [if_neg (show ¬ v ∈ a :: L by simp [ea, m])]
        by_cases eb : v = par a
        · rw [if_pos eb, if_pos eb.symm, eb]; omega
        · rw [if_neg eb, if_neg ea, if_neg (fun z => eb z.symm)]; omega

theorem S_mem {a : Nat} {f : Nat → Nat} : ∀ {l : List Nat}, a ∈ l → f a ≤ S l f
  | b :: l, h => by
    rw [S_cons]
    rcases List.mem_cons.mp h with rfl | h
    · omega
    · have := S_mem (f := f) h; omega
theorem S_one : ∀ l : List Nat, S l (fun _ => 1) = l.length
  | [] => rfl
  | a :: l => by rw [S_cons, S_one l, List.length_cons]; omega
theorem le_foldl_max : ∀ (l : List Nat) (m x : Nat), (x = m ∨ x ∈ l) → x ≤ l.foldl max m
  | [], m, x, h => by
    rcases h with h | h
    · simp [h]
    · cases h
  | a :: l, m, x, h => by
    show x ≤ l.foldl max (max m a)
    rcases h with h | h
    · exact Nat.le_trans (by omega) (le_foldl_max l (max m a) (max m a) (.inl rfl))
    · rcases List.mem_cons.mp h with h | h
      · exact Nat.le_trans (by omega) (le_foldl_max l (max m a) (max m a) (.inl rfl))
      · exact le_foldl_max l (max m a) x (.inr h)
def depth (g : Graph) (t v : Nat) : Nat := (Ks577.distance g t v).getD 0
theorem depth_le {g : Graph} (hd : Ks578.diameter g < 4) {t v : Nat} (ht : t < g.vertexCount) (hv : v < g.vertexCount) : depth g t v ≤ 3 := by
  have : depth g t v ≤ Ks578.diameter g := by
    unfold Ks578.diameter
    refine le_foldl_max _ 0 _ (.inr ?_)
    exact List.mem_flatMap.mpr ⟨t, by simp [ht], List.mem_map.mpr ⟨v, by simp [hv], rfl⟩⟩
  omega
theorem depth_zero {g : Graph} {t v : Nat} (hs : (Ks577.distance g t v).isSome = true) (h : depth g t v = 0) : v = t := by
  obtain ⟨i, hi⟩ := Option.isSome_iff_exists.mp hs
  unfold depth at h
  rw [hi] at h
  simp only [Option.getD_some] at h
  subst h
  rw [dist_lev, lev_some] at hi
  exact R_zero.mp hi.2.1
theorem depth_self {g : Graph} {t : Nat} (ht : t < g.vertexCount) : depth g t t = 0 := by
  have : Ks577.distance g t t = some 0 := by
    rw [dist_lev]
    exact lev_some.mpr ⟨by omega, R_zero.mpr rfl, fun j hj => by omega⟩
  unfold depth
  rw [this]; rfl
theorem parent {g : Graph} (hb : Bd g.vertexCount g.edges) {t v : Nat} (ht : t < g.vertexCount) (hs : (Ks577.distance g t v).isSome = true) (hv : v ≠ t) :
    ∃ u, Ks577.isAdjacent g v u = true ∧ depth g t u + 1 = depth g t v := by
  obtain ⟨i, hi⟩ := Option.isSome_iff_exists.mp hs
  have hi' := hi
  rw [dist_lev, lev_some] at hi'
  cases i with
  | zero => exact absurd (R_zero.mp hi'.2.1) hv
  | succ k =>
    obtain ⟨h1, h2 | ⟨u, hu, ha⟩⟩ := R_succ.mp hi'.2.1
    · exact absurd h2 (hi'.2.2 k (by omega))
    · have hl : Ks577.distance g t u = some k := by
        rw [dist_lev]
        exact lev_some.mpr ⟨by omega, hu, fun j hj z => hi'.2.2 (j + 1) (by omega) (R_succ.mpr ⟨h1, .inr ⟨u, z, ha⟩⟩)⟩
      refine ⟨u, adj_comm ha, ?_⟩
      unfold depth
      rw [hl, hi]; rfl
theorem ten {g : Graph} (hb : Bd g.vertexCount g.edges) (hn5 : g.vertexCount ≤ 5) {t : Nat} (ht : t < g.vertexCount) (hc : Ks578.isConnected g = true) (hd : Ks578.diameter g < 4) {p : Nat} {c : List Nat} (hU : U g t p c) : p ≤ 9 := by
  have hn : 0 < g.vertexCount := by omega
  have hsome := fun v (hv : v < g.vertexCount) => conn_all hb hn hc ht hv
  have hpar : ∀ v, ∃ u, v < g.vertexCount → v ≠ t → Ks577.isAdjacent g v u = true ∧ depth g t u + 1 = depth g t v := by
    intro v
    by_cases h1 : v < g.vertexCount
    · by_cases h2 : v = t
      · exact ⟨0, fun _ z => absurd h2 z⟩
      · obtain ⟨u, hu⟩ := parent hb ht (hsome v h1) h2
        exact ⟨u, fun _ _ => hu⟩
    · exact ⟨0, fun z => absurd z h1⟩
  let par : Nat → Nat := fun v => Classical.choose (hpar v)
  have hp : ∀ v, v < g.vertexCount → v ≠ t → Ks577.isAdjacent g v (par v) = true ∧ depth g t (par v) + 1 = depth g t v := fun v => Classical.choose_spec (hpar v)
  let lv : Nat → List Nat := fun d => (List.range g.vertexCount).filter fun v => depth g t v == d
  have mem : ∀ {d v}, v ∈ lv d ↔ v < g.vertexCount ∧ depth g t v = d := by
    intro d v
    simp [lv, List.mem_filter]
  have nd : ∀ d, (lv d).Nodup := fun d => (List.nodup_range).sublist List.filter_sublist
  have net : ∀ {d v}, v ∈ lv (d + 1) → v ≠ t := by
    intro d v hv e
    have := (mem.mp hv).2
    rw [e, depth_self ht] at this
    omega
  have up : ∀ {d v}, v ∈ lv (d + 1) → par v ∈ lv d := by
    intro d v hv
    have h1 := hp v (mem.mp hv).1 (net hv)
    exact mem.mpr ⟨(adj_lt hb h1.1).2.1, by have := (mem.mp hv).2; omega⟩
  have lvok : ∀ d, ∀ v ∈ lv (d + 1), Ks577.isAdjacent g v (par v) = true ∧ par v ∉ lv (d + 1) := by
    intro d v hv
    refine ⟨(hp v (mem.mp hv).1 (net hv)).1, fun z => ?_⟩
    have h1 := (mem.mp (up hv)).2
    have h2 := (mem.mp z).2
    omega
  obtain ⟨q1, c1, u1, e1⟩ := U_level hb par (lv 3) p c (nd 3) (lvok 2) hU
  obtain ⟨q2, c2, u2, e2⟩ := U_level hb par (lv 2) q1 c1 (nd 2) (lvok 1) u1
  have one : ∀ v, v ∈ lv 1 → c2.getD v 0 ≤ 1 := by
    intro v hv
    apply Classical.byContradiction
    intro hne
    have hpv := up hv
    have hpt : par v = t := depth_zero (hsome _ (mem.mp hpv).1) (mem.mp hpv).2
    have ha := (lvok 0 v hv).1
    rw [hpt] at ha
    have al := adj_lt hb ha
    have hm := (U_move hb u2 ha (by omega)).1
    have := U_target hm
    rw [after_get (by rw [(U_len u2).1]; exact al.1) (by rw [(U_len u2).1]; exact al.2.1) al.2.2, if_pos rfl] at this
    omega
  let k3 : Nat → Nat := fun u => c.getD u 0 / 2
  let k2 : Nat → Nat := fun u => c1.getD u 0 / 2
  let i3 : Nat → Nat := fun v => S (lv 3) fun u => if par u = v then k3 u else 0
  let i2 : Nat → Nat := fun v => S (lv 2) fun u => if par u = v then k2 u else 0
  have sw : ∀ (d : Nat) (k : Nat → Nat), S (lv d) (fun v => S (lv (d + 1)) fun u => if par u = v then k u else 0) = S (lv (d + 1)) k := by
    intro d k
    rw [S_swap]
    refine S_congr fun u hu => ?_
    rw [S_congr (h := fun v => if v = par u then k u else 0) fun v _ => by
      by_cases e : par u = v
      · rw [if_pos e, if_pos e.symm]
      · rw [if_neg e, if_neg fun z => e z.symm]]
    rw [S_pick (nd d), if_pos (up hu)]
  have P3 : S (lv 2) i3 = S (lv 3) k3 := sw 2 k3
  have P2 : S (lv 1) i2 = S (lv 2) k2 := sw 1 k2
  have f3 : S (lv 3) (fun v => c.getD v 0) ≤ 2 * S (lv 3) k3 + (lv 3).length := by
    rw [← S_mul, ← S_one, ← S_add]
    exact S_le fun v _ => by simp only [k3]; omega
  have f2 : S (lv 2) (fun v => c.getD v 0) + S (lv 2) i3 ≤ 2 * S (lv 2) k2 + (lv 2).length := by
    rw [← S_mul, ← S_one, ← S_add, ← S_add]
    refine S_le fun v hv => ?_
    have h1 := e1 v
    have : v ∉ lv 3 := fun z => by have := (mem.mp z).2; have := (mem.mp hv).2; omega
    rw [if_neg this] at h1
    have h1' : c1.getD v 0 = c.getD v 0 + i3 v := h1
    simp only [k2]
    omega
  have i2one : ∀ v, v ∈ lv 1 → c.getD v 0 + i2 v ≤ 1 := by
    intro v hv
    have h1 := e1 v
    have h2 := e2 v
    rw [if_neg (fun z => by have := (mem.mp z).2; have := (mem.mp hv).2; omega)] at h1 h2
    have h2' : c2.getD v 0 = c1.getD v 0 + i2 v := h2
    have := one v hv
    omega
  have f1 : S (lv 1) (fun v => c.getD v 0) + S (lv 1) i2 ≤ (lv 1).length := by
    rw [← S_one, ← S_add]
    exact S_le i2one
  have k2n2 : S (lv 2) k2 ≤ (lv 2).length := by
    rw [← S_one]
    refine S_le fun u hu => ?_
    have h1 := i2one (par u) (up hu)
    have h2 : k2 u ≤ i2 (par u) := by
      have := S_mem (f := fun w => if par w = par u then k2 w else 0) hu
      simpa using this
    omega
  have part : ∀ f : Nat → Nat, S (List.range g.vertexCount) f = f t + S (lv 1) f + S (lv 2) f + S (lv 3) f := by
    intro f
    simp only [lv]
    rw [S_filter, S_filter, S_filter]
    have hpick := S_pick (a := t) (k := f t) (List.nodup_range (n := g.vertexCount))
    rw [if_pos (by simp [ht])] at hpick
    rw [← hpick, ← S_add, ← S_add, ← S_add]
    refine S_congr fun v hv => ?_
    have hv' := List.mem_range.mp hv
    by_cases e : v = t
    · subst e
      rw [depth_self ht]
      simp
    · have h1 : depth g t v ≠ 0 := fun z => e (depth_zero (hsome v hv') z)
      have h2 := depth_le hd ht hv'
      rw [if_neg e]
      have : depth g t v = 1 ∨ depth g t v = 2 ∨ depth g t v = 3 := by omega
      rcases this with h | h | h <;> simp [h]
  have hsum : S (List.range g.vertexCount) (fun v => c.getD v 0) = p := by
    have := S_range_eq_sum c
    rw [(U_len hU).1, (U_len hU).2] at this
    exact this
  have hct := U_target hU
  have p1 := part fun v => c.getD v 0
  have pn := part fun _ => 1
  rw [S_one, S_one, S_one, S_one, List.length_range] at pn
  rw [hsum] at p1
  rw [hct] at p1
  have n3 : (lv 3).length = 0 → S (lv 3) k3 = 0 := by
    intro z
    rw [List.length_eq_zero_iff.mp z]; rfl
  rw [P3] at f2
  rw [P2] at f1
  by_cases z : (lv 3).length = 0
  · have := n3 z
    omega
  · omega
theorem ten_nil {g : Graph} (hb : Bd g.vertexCount g.edges) (hn5 : g.vertexCount ≤ 5) {t : Nat} (ht : t < g.vertexCount) (hc : Ks578.isConnected g = true) (hd : Ks578.diameter g < 4) {p : Nat} (hp : 10 ≤ p) : Ks578.unsolvable g t p = [] := by
  cases e : Ks578.unsolvable g t p with
  | nil => rfl
  | cons c r =>
    have : U g t p c := by unfold U; rw [e]; simp
    have := ten hb hn5 ht hc hd this
    omega
/-- the pebbling number: the first that leaves nothing unsolvable -/
theorem number_is {g : Graph} (hb : Bd g.vertexCount g.edges) (hn5 : g.vertexCount ≤ 5) {t : Nat} (ht : t < g.vertexCount) (hc : Ks578.isConnected g = true) (hd : Ks578.diameter g < 4) :
    ∃ k, 1 ≤ k ∧ k ≤ 10 ∧ uns g.vertexCount t (stepsOf g.edges) k = [] ∧ (∀ j, 1 ≤ j → j < k → uns g.vertexCount t (stepsOf g.edges) j ≠ []) ∧ Ks578.pebblingNumber g t = some k := by
  have hn : 0 < g.vertexCount := by omega
  simp only [uns_is hb hn]
  cases e : Ks578.pebblingNumber g t with
  | none =>
    unfold Ks578.pebblingNumber at e
    rw [List.find?_eq_none] at e
    have := e 10 (by simp [Ks578.maxSearchedPebbles])
    rw [ten_nil hb hn5 ht hc hd (Nat.le_refl _)] at this
    simp at this
  | some k =>
    unfold Ks578.pebblingNumber at e
    rw [List.find?_range_eq_some] at e
    simp only [Bool.and_eq_true, decide_eq_true_eq, List.isEmpty_iff, List.mem_range, Ks578.maxSearchedPebbles] at e
    obtain ⟨⟨h1, h2⟩, h3, h4⟩ := e
    refine ⟨k, h1, by omega, h2, fun j j1 jk z => ?_, rfl⟩
    have := h4 j jk
    simp [j1, z] at this
end Pb

set_option Elab.async false
set_option linter.all false
set_option maxRecDepth 100000
namespace Pb
open PySem PySem.Spec PyProof.Rows L2
/-! ### the text -/
def topS (i : Nat) : Stmt := PySem.Challenge.pw_pebblemoves_s04_unsolvable_configuration.main.body.getD i (.Pass ⟨0, 0, 0, 0⟩)
abbrev sEdgePairs : Stmt := topS 6
abbrev nEdgePairs : List Str := ["edges", "place"]
abbrev pEdgePairs : List Str := ["edges"]
theorem scEdgePairs : FnScope nEdgePairs pEdgePairs (defScope sEdgePairs) := ⟨rfl, rfl, rfl, by decide +kernel, rfl, by decide +kernel, by decide +kernel⟩
abbrev sAreEdges : Stmt := topS 7
abbrev nAreEdges : List Str := ["vertex_count", "edges", "earlier", "pair"]
abbrev pAreEdges : List Str := ["vertex_count", "edges"]
theorem scAreEdges : FnScope nAreEdges pAreEdges (defScope sAreEdges) := ⟨rfl, rfl, rfl, by decide +kernel, rfl, by decide +kernel, by decide +kernel⟩
abbrev sLimits : Stmt := topS 8
abbrev nLimits : List Str := ["vertex_count", "edges"]
abbrev pLimits : List Str := ["vertex_count", "edges"]
theorem scLimits : FnScope nLimits pLimits (defScope sLimits) := ⟨rfl, rfl, rfl, by decide +kernel, rfl, by decide +kernel, by decide +kernel⟩
abbrev sStepsOf : Stmt := topS 9
abbrev nStepsOf : List Str := ["edges", "pairs", "u", "v"]
abbrev pStepsOf : List Str := ["edges"]
theorem scStepsOf : FnScope nStepsOf pStepsOf (defScope sStepsOf) := ⟨rfl, rfl, rfl, by decide +kernel, rfl, by decide +kernel, by decide +kernel⟩
abbrev sDist : Stmt := topS 10
abbrev nDist : List Str := ["vertex_count", "starts", "edges", "steps", "distances", "start", "distance", "near", "far"]
abbrev pDist : List Str := ["vertex_count", "starts", "edges"]
theorem scDist : FnScope nDist pDist (defScope sDist) := ⟨rfl, rfl, rfl, by decide +kernel, rfl, by decide +kernel, by decide +kernel⟩
abbrev sLargest : Stmt := topS 11
abbrev nLargest : List Str := ["vertex_count", "edges", "largest", "start", "distance"]
abbrev pLargest : List Str := ["vertex_count", "edges"]
theorem scLargest : FnScope nLargest pLargest (defScope sLargest) := ⟨rfl, rfl, rfl, by decide +kernel, rfl, by decide +kernel, by decide +kernel⟩
abbrev sCRef : Stmt := topS 12
abbrev nCRef : List Str := ["vertex_count", "edges"]
abbrev pCRef : List Str := ["vertex_count", "edges"]
theorem scCRef : FnScope nCRef pCRef (defScope sCRef) := ⟨rfl, rfl, rfl, by decide +kernel, rfl, by decide +kernel, by decide +kernel⟩
abbrev sRefusal : Stmt := topS 13
abbrev nRefusal : List Str := ["vertex_count", "edges", "refusal"]
abbrev pRefusal : List Str := ["vertex_count", "edges"]
theorem scRefusal : FnScope nRefusal pRefusal (defScope sRefusal) := ⟨rfl, rfl, rfl, by decide +kernel, rfl, by decide +kernel, by decide +kernel⟩
abbrev sConf : Stmt := topS 18
abbrev nConf : List Str := ["vertex_count", "pebbles", "beginnings", "length", "longer", "beginning", "placed"]
abbrev pConf : List Str := ["vertex_count", "pebbles"]
theorem scConf : FnScope nConf pConf (defScope sConf) := ⟨rfl, rfl, rfl, by decide +kernel, rfl, by decide +kernel, by decide +kernel⟩
abbrev sAfter : Stmt := topS 19
abbrev nAfter : List Str := ["configuration", "start", "end", "moved"]
abbrev pAfter : List Str := ["configuration", "start", "end"]
theorem scAfter : FnScope nAfter pAfter (defScope sAfter) := ⟨rfl, rfl, rfl, by decide +kernel, rfl, by decide +kernel, by decide +kernel⟩
abbrev sIsUns : Stmt := topS 20
abbrev nIsUns : List Str := ["configuration", "target", "steps", "fewer", "start", "end"]
abbrev pIsUns : List Str := ["configuration", "target", "steps", "fewer"]
theorem scIsUns : FnScope nIsUns pIsUns (defScope sIsUns) := ⟨rfl, rfl, rfl, by decide +kernel, rfl, by decide +kernel, by decide +kernel⟩
abbrev sWithout : Stmt := topS 21
abbrev nWithout : List Str := ["vertex_count"]
abbrev pWithout : List Str := ["vertex_count"]
theorem scWithout : FnScope nWithout pWithout (defScope sWithout) := ⟨rfl, rfl, rfl, by decide +kernel, rfl, by decide +kernel, by decide +kernel⟩
abbrev sUnsWith : Stmt := topS 22
abbrev nUnsWith : List Str := ["pebbles", "vertex_count", "target", "steps", "fewer", "placings", "placing"]
abbrev pUnsWith : List Str := ["pebbles", "vertex_count", "target", "steps", "fewer"]
theorem scUnsWith : FnScope nUnsWith pUnsWith (defScope sUnsWith) := ⟨rfl, rfl, rfl, by decide +kernel, rfl, by decide +kernel, by decide +kernel⟩
abbrev sAll : Stmt := topS 23
abbrev nAll : List Str := ["vertex_count", "target", "pebbles", "edges", "steps", "unsolvable", "placed"]
abbrev pAll : List Str := ["vertex_count", "target", "pebbles", "edges"]
theorem scAll : FnScope nAll pAll (defScope sAll) := ⟨rfl, rfl, rfl, by decide +kernel, rfl, by decide +kernel, by decide +kernel⟩
abbrev sTRef : Stmt := topS 24
abbrev nTRef : List Str := ["vertex_count", "target", "edges", "refusal"]
abbrev pTRef : List Str := ["vertex_count", "target", "edges"]
theorem scTRef : FnScope nTRef pTRef (defScope sTRef) := ⟨rfl, rfl, rfl, by decide +kernel, rfl, by decide +kernel, by decide +kernel⟩
abbrev sPRef : Stmt := topS 25
abbrev nPRef : List Str := ["vertex_count", "target", "pebbles", "edges", "refusal"]
abbrev pPRef : List Str := ["vertex_count", "target", "pebbles", "edges"]
theorem scPRef : FnScope nPRef pPRef (defScope sPRef) := ⟨rfl, rfl, rfl, by decide +kernel, rfl, by decide +kernel, by decide +kernel⟩
abbrev sAns : Stmt := topS 26
abbrev nAns : List Str := ["vertex_count", "target", "pebbles", "index", "edges", "refusal", "unsolvable"]
abbrev pAns : List Str := ["vertex_count", "target", "pebbles", "index", "edges"]
theorem scAns : FnScope nAns pAns (defScope sAns) := ⟨rfl, rfl, rfl, by decide +kernel, rfl, by decide +kernel, by decide +kernel⟩
end Pb

set_option Elab.async false
set_option linter.all false
set_option maxRecDepth 100000
namespace Pb
open PySem PySem.Spec PyProof.Rows L2
/-! ### heaps and values -/
abbrev iv (x : Nat) : V := V.int (x : Int)
abbrev rowO (c : List Nat) : HO := .lst (c.map iv)
def oV : Option Nat → V
  | none => .non
  | some k => .int (k : Int)
def rV : Option Int → V
  | none => .non
  | some k => .int k
def Row (H : Hp) (v : V) (c : List Nat) : Prop := ∃ q, v = .ref q ∧ H q = some (rowO c)
def Pair (H : Hp) (v : V) (p : Int × Int) : Prop := ∃ q, v = .ref q ∧ H q = some (.tup [.int p.1, .int p.2])
theorem Row.mono {H H' : Hp} (s : Same H H') {v : V} {c : List Nat} (h : Row H v c) : Row H' v c := by
  obtain ⟨q, e, h⟩ := h
  exact ⟨q, e, s _ _ h⟩
theorem Pair.mono {H H' : Hp} (s : Same H H') {v : V} {c : Int × Int} (h : Pair H v c) : Pair H' v c := by
  obtain ⟨q, e, h⟩ := h
  exact ⟨q, e, s _ _ h⟩
theorem Paired.get {α β : Type} {F : α → β → Prop} : ∀ {xs : List α} {us : List β} {i : Nat} {x : α}, Paired F xs us → xs[i]? = some x → ∃ u, us[i]? = some u ∧ F x u
  | _, _, _, _, .nil, e => by simp at e
  | _, _, 0, _, .cons r _, e => by simp at e; subst e; exact ⟨_, rfl, r⟩
  | _, _, i + 1, x, .cons _ t, e => by
    obtain ⟨u, h1, h2⟩ := Paired.get (i := i) (x := x) t (by simpa using e)
    exact ⟨u, by simpa using h1, h2⟩
theorem Paired.append {α β : Type} {F : α → β → Prop} : ∀ {xs ys : List α} {us ws : List β}, Paired F xs us → Paired F ys ws → Paired F (xs ++ ys) (us ++ ws)
  | _, _, _, _, .nil, s => s
  | _, _, _, _, .cons r t, s => .cons r (Paired.append t s)
/-- the heap without what stands at D -/
def del (H : Hp) (D : Addr) : Hp := fun b => if b = D then none else H b
theorem del_upd {H : Hp} {D : Addr} {o : HO} : del (upd H D o) D = del H D := by
  funext b
  unfold del upd
  split <;> rfl
theorem del_ne {H : Hp} {D b : Addr} (h : b ≠ D) : del H D b = H b := by unfold del; rw [if_neg h]
theorem same_del {H : Hp} {D : Addr} : Same (del H D) H := fun b o h => by
  unfold del at h
  split at h
  · cases h
  · exact h
theorem same_upd {H : Hp} {p : Addr} {o : HO} (h : H p = none) : Same H (upd H p o) := fun b x e => by
  rw [upd_ne (ne_of_none e h)]
  exact e
theorem Same.del {H H' : Hp} {D : Addr} (h : Same H H') : Same (del H D) (del H' D) := fun b o e => by
  unfold Pb.del at e ⊢
  split
  · rename_i c
    rw [if_pos c] at e
    cases e
  · rename_i c
    rw [if_neg c] at e
    exact h b o e
theorem same_into {H H' : Hp} {D : Addr} (s : Same H H') (h : H D = none) : Same H (del H' D) := fun b o e => by
  rw [del_ne (ne_of_none e h)]
  exact s b o e
theorem same_set {H H' : Hp} {D : Addr} {o : HO} (s : Same H H') (h : H D = none) : Same H (upd H' D o) := fun b x e => by
  rw [upd_ne (ne_of_none e h)]
  exact s b x e
theorem same_delset {H : Hp} {D : Addr} {o : HO} : Same (del H D) (upd H D o) := fun b x e => by
  unfold del at e
  split at e
  · cases e
  · rename_i c
    rw [upd_ne c]
    exact e
theorem take_more {α : Type} : ∀ {l : List α} {i : Nat} {x : α}, l[i]? = some x → l.take (i + 1) = l.take i ++ [x]
  | [], i, x, h => by simp at h
  | a :: l, 0, x, h => by
    have e : a = x := Option.some.inj h
    subst e
    rfl
  | a :: l, i + 1, x, h => by
    have ih := take_more (l := l) (i := i) (x := x) h
    show a :: l.take (i + 1) = a :: l.take i ++ [x]
    rw [ih]
    rfl
theorem lc_yes {σ σ2 : L2.St} {vs : List Nat} {H2 : Hp} {te : TE} {Y : V → Hp → Prop} {Z : Hp → Prop} (h0 : wipe σ2 vs = wipe σ vs) (h : te σ2 H2 Y) :
    wipe σ2 vs = wipe σ vs ∧ tYes σ2 H2 fun b H3 => if b = true then te σ2 H3 Y else Z H3 := by
  refine ⟨h0, ?_⟩
  show if true = true then te σ2 H2 Y else Z H2
  rw [if_pos rfl]
  exact h
theorem small_line {n : Nat} (h : n ≤ 20000) : n < sizeLine := Nat.lt_of_le_of_lt h (by decide)
end Pb

set_option Elab.async false
set_option linter.all false
set_option maxRecDepth 100000
set_option maxHeartbeats 4000000
namespace Pb
open PySem PySem.Spec PyProof.Rows L2
section
variable {P : Program} {w : World} {K : PySem.W.Frag} {mg : Str → Option Value} {base : Heap}
def spPairs (K : PySem.W.Frag) : Sp := fun vs H Q _ => ∃ (a : Addr) (ns : List Int), vs = [.ref a] ∧ SqL K H a (ns.map V.int) ∧ ns.length ≤ 22 ∧
  ∀ (H' : Hp) (p : Addr) (xs : List V), Same H H' → H p = none → H' p = some (.lst xs) → Paired (Pair H') xs (pairs ns) → Q (.ref p) H'
theorem rgC2 (n : Nat) (hn : n ≤ 22) : RgC 0 ((n : Int) - 1) 2 (n / 2) := by
  have h : ∀ m : Fin 23, Builtin.Range.small 0 ((m.val : Int) - 1) 2 = true ∧ Builtin.Range.rangeSize 0 ((m.val : Int) - 1) 2 = ((m.val / 2 : Nat) : Int) := by decide +kernel
  have := h ⟨n, by omega⟩
  exact ⟨by decide, by decide, this.1, this.2⟩
theorem ok_pairs {f : Addr} {fd : FuncData} {k : Nat} (F : Fun K "edge_pairs" "edge_pairs" sEdgePairs f fd) (ml : mg "len" = none) (mr : mg "range" = none) : FnOk P w K mg base CX0 (k + 1) f fd pEdgePairs (spPairs K) := by
  refine F.ok scEdgePairs (fun vs H Q E h => ?_) (fun cdv A outer s H vs Q E hr h => ?_)
  · obtain ⟨a, ns, rfl, _⟩ := h
    rfl
  · obtain ⟨a, ns, rfl, hS, hlen, q⟩ := h
    refine ⟨_, pss_one (ps_ret (pe_lc (own := [("place", 1)]) (g := gName 1) (tt := tYes) rfl scEdgePairs.nd
      (pi_range3 (by rfl) mr (pa_cons pe_int (pa_cons (pe_op op_sub (pe_callB call_len_seq (by rfl) ml PySem.boot_len (pa_cons (pv 0) pa_nil)) pe_int) (pa_cons pe_int pa_nil))))
      (blkOk_by (N := nEdgePairs) (sc := defScope sEdgePairs) (by decide +kernel)) (fun _ _ _ _ _ => pg_name (i := 1) scEdgePairs.nd rfl (Or.inl rfl)) (fun _ _ _ _ _ => pts_nil)
      (fun _ _ _ _ _ => pe_tup (pa_cons (pe_ix (r := rIxL K) ix_list (pv 0) (pv 1) (fun _ _ => rfl)) (pa_cons (pe_ix (r := rIxL K) ix_list (pv 0) (pe_op op_add (pv 1) pe_int) (fun _ _ => rfl)) pa_nil))))), ?_⟩
    refine ⟨.ref a, rfl, a, _, rfl, .inl hS, _, _, rfl, rfl, 0, _, 2, ns.length / 2, rfl, by rw [List.length_map]; exact rgC2 _ hlen, fun D nD => ?_⟩
    refine lc_it walk_rangeC (fun i H' => Same H H' ∧ ∃ acc, H' D = some (.lst acc) ∧ acc.length = i ∧ Paired (Pair (del H' D)) acc ((pairs ns).take i)) ?_ (fun _ _ _ _ => trivial) ?_ ?_
    · exact ⟨same_upd nD, [], upd_same, rfl, .nil⟩
    · rintro i x H1 H2 hi ⟨sm, acc, hD, hl, hp⟩ ⟨rfl, rfl⟩
      have h1 : 2 * i < ns.length := by omega
      have h2 : 2 * i + 1 < ns.length := by omega
      have g1 : (ns.map V.int)[2 * i]? = some (.int ns[2 * i]) := by
        rw [List.getElem?_map, List.getElem?_eq_getElem h1]
        rfl
      have g2 : (ns.map V.int)[2 * i + 1]? = some (.int ns[2 * i + 1]) := by
        rw [List.getElem?_map, List.getElem?_eq_getElem h2]
        rfl
      have gp := pairs_get ns i _ _ (List.getElem?_eq_getElem h1) (List.getElem?_eq_getElem h2)
      refine lc_yes rfl ?_
      refine ⟨_, rfl, _, rfl, a, _, _, _, rfl, rfl, sm.seq hS, at_of (j := 2 * i) (by omega) g1, _, rfl, _, rfl, _, _, rfl, rfl, a, _, _, _, rfl, rfl, sm.seq hS, at_of (j := 2 * i + 1) (by omega) g2, (by show 2 ≤ sizeLine; decide), fun T nT => ?_⟩
      have nTD : D ≠ T := ne_of_none hD nT
      refine ⟨acc, by rw [upd_ne nTD]; exact hD, small_line (by omega), same_set (sm.trans (same_upd nT)) nD, acc ++ [.ref T], upd_same, by simp [hl], ?_⟩
      rw [take_more gp, del_upd]
      refine Paired.snoc (Paired.mono (fun v c => Pair.mono (Same.del (same_upd nT))) hp) ⟨T, rfl, ?_⟩
      rw [del_ne nTD.symm, upd_same]
    · rintro H1 ⟨sm, acc, hD, hl, hp⟩
      rw [List.take_of_length_le (by rw [pairs_len]; exact Nat.le_refl _)] at hp
      exact q H1 D acc sm nD hD (Paired.mono (fun v c => Pair.mono same_del) hp)
end
end Pb

set_option Elab.async false
set_option linter.all false
set_option maxRecDepth 100000
set_option maxHeartbeats 4000000
namespace Pb
open PySem PySem.Spec PyProof.Rows L2
section
variable {P : Program} {w : World} {K : PySem.W.Frag} {mg : Str → Option Value} {base : Heap}
def spEdges (K : PySem.W.Frag) : Sp := fun vs H Q _ => ∃ (n : Int) (a : Addr) (ns : List Int), vs = [.int n, .ref a] ∧ SqL K H a (ns.map V.int) ∧ ns.length ≤ 22 ∧
  ∀ (H' : Hp), Same H H' → Q (.bl (areEdges n ns)) H'
theorem drop_get {α : Type} {l : List α} {i : Nat} {x : α} (h : l[i]? = some x) : l.drop i = x :: l.drop (i + 1) := by
  obtain ⟨hl, e⟩ := List.getElem?_eq_some_iff.mp h
  rw [List.drop_eq_getElem_cons hl, e]
theorem lexAt_pair (p e : Int × Int) : Ob.lexAt (fun j => decide ([p.1, p.2].getD j 0 = [e.1, e.2].getD j 0)) (fun j => decide ([p.1, p.2].getD j 0 ≤ [e.1, e.2].getD j 0)) (decide ([p.1, p.2].length ≤ [e.1, e.2].length)) 0 (min [p.1, p.2].length [e.1, e.2].length) = lexLe p e := by
  show (if decide (p.1 = e.1) = true then (if decide (p.2 = e.2) = true then decide (2 ≤ 2) else decide (p.2 ≤ e.2)) else decide (p.1 ≤ e.1)) = lexLe p e
  unfold lexLe
  simp
theorem ok_edges {f fP : Addr} {fd fdP : FuncData} {k : Nat} (F : Fun K "are_edges" "are_edges" sAreEdges f fd) (ml : mg "len" = none)
    (GP : FnOk P w K mg base CX0 (k + 1) fP fdP pEdgePairs (spPairs K)) (gP : mg "edge_pairs" = some (.ref fP)) (kP : PySem.W.keepIn K (.ref fP) = true) (bP : Binds K fdP pEdgePairs []) :
    FnOk P w K mg base CX0 (k + 2) f fd pAreEdges (spEdges K) := by
  refine F.ok scAreEdges (fun vs H Q E h => ?_) (fun cdv A outer s H vs Q E hr h => ?_)
  · obtain ⟨n, a, ns, rfl, _⟩ := h
    rfl
  · obtain ⟨n, a, ns, rfl, hS, hlen, q⟩ := h
    refine ⟨_, pss_cons (ps_if (pt_cmpR op_ne (pe_op op_mod (pe_callB call_len_seq (by rfl) ml PySem.boot_len (pa_cons (pv 1) pa_nil)) pe_int) pe_int (nomark _)) (pss_one (ps_ret pe_bl)) pss_nil)
      (pss_cons (ps_set (i := 2) scAreEdges.nd rfl (Or.inl rfl) (pe_tup (pa_cons pe_int (pa_cons pe_int pa_nil))))
      (pss_cons (ps_for PassesOwn.never rfl (pi_list (pe_call GP hr (by rfl) gP kP bP .nil pass0 (pa_cons (pv 1) pa_nil))) (pg_name (i := 3) scAreEdges.nd rfl (Or.inl rfl))
        (pss_cons (ps_if (PW.pt (pw_or (pt_cmpR op_ge (pe_ix ix_tup (pv 3) pe_int (fun _ _ => rfl)) (pe_ix ix_tup (pv 3) pe_int (fun _ _ => rfl)) (nomark _))
            (pw_or (pt_cmpR op_ge (pe_ix ix_tup (pv 3) pe_int (fun _ _ => rfl)) (pv 0) (nomark _)) (pw_or1 (pt_cmpR (op_leT hr.units0) (pv 3) (pv 2) (nomark _)))))) (pss_one (ps_ret pe_bl)) pss_nil)
        (pss_one (ps_set (i := 2) scAreEdges.nd rfl (Or.inl rfl) (pv 3)))))
      (pss_one (ps_ret pe_bl)))), ?_⟩
    refine ⟨.ref a, rfl, a, _, rfl, .inl hS, _, _, rfl, rfl, (by show (0 : Int) < 2; decide), rfl, _, rfl, ite2 (fun e => ?_) (fun e => ?_)⟩
    · have e' : ¬ ns.length % 2 = 0 := by
        intro z
        have e2 : (!decide (V.int (((ns.map V.int).length : Int) % 2) = V.int 0)) = true := e
        rw [List.length_map, show (ns.length : Int) % 2 = 0 by omega] at e2
        exact absurd e2 (by decide)
      have : areEdges n ns = false := by unfold areEdges; rw [if_neg e']
      show Q (.bl false) H
      rw [← this]
      exact q H (Same.refl H)
    · have e' : ns.length % 2 = 0 := by
        apply Classical.byContradiction
        intro z
        apply e
        show (!decide (V.int (((ns.map V.int).length : Int) % 2) = V.int 0)) = true
        rw [List.length_map]
        have : ¬ (ns.length : Int) % 2 = 0 := by omega
        simp only [V.int.injEq, this, decide_false, Bool.not_false]
      have ea : areEdges n ns = goE n (0, 0) (pairs ns) := by unfold areEdges; rw [if_pos e']
      refine ⟨(by show 2 ≤ sizeLine; decide), fun T nT => ?_⟩
      refine ⟨.ref a, rfl, a, ns, rfl, (same_upd nT).seq hS, hlen, fun H1 L xs sm nL hL hp => ?_⟩
      refine ⟨L, rfl, ⟨_, SqL.of hL⟩, for_list (K := K) (a := L) (xs := xs) (fun i σ H' => H' = H1 ∧ ∃ (t : Addr) (e : Int × Int) (y3 : Option V), σ = [some (.int n), some (.ref a), some (.ref t), y3] ∧ H1 t = some (.tup [.int e.1, .int e.2]) ∧ goE n (0, 0) (pairs ns) = goE n e ((pairs ns).drop i))
        ⟨rfl, T, (0, 0), none, rfl, sm _ _ upd_same, rfl⟩ (fun i σ H' _ h => by rw [h.1]; exact SqL.of hL) ?_ ?_⟩
      · rintro i x σ H' hx ⟨rfl, t, e, y3, rfl, ht, eg⟩
        obtain ⟨p, hpi, u, rfl, hu⟩ := Paired.get hp hx
        have eg' := drop_get hpi
        rw [eg', goE] at eg
        have sq : SqT K H' u ([p.1, p.2].map V.int) := SqT.of hu
        refine ⟨_, rfl, u, _, 0, _, rfl, rfl, sq, atI_nat (j := 0) rfl, _, rfl, u, _, 1, _, rfl, rfl, sq, atI_nat (j := 1) rfl, _, _, rfl, rfl, _, rfl, ite2 (fun c => ?_) (fun c => ?_)⟩
        · refine iteT ?_
          rw [if_pos (of_decide_eq_true c)] at eg
          show Q (.bl false) H'
          rw [← eg, ← ea]
          exact q H' (Same.trans (same_upd nT) sm)
        · rw [if_neg (fun z => c (decide_eq_true z))] at eg
          refine ⟨_, rfl, u, _, 1, _, rfl, rfl, sq, atI_nat (j := 1) rfl, _, rfl, _, _, rfl, rfl, _, rfl, ite2 (fun c => ?_) (fun c => ?_)⟩
          · refine iteT ?_
            rw [if_pos (of_decide_eq_true c)] at eg
            show Q (.bl false) H'
            rw [← eg, ← ea]
            exact q H' (Same.trans (same_upd nT) sm)
          · rw [if_neg (fun z => c (decide_eq_true z))] at eg
            refine ⟨_, rfl, _, rfl, u, t, [p.1, p.2], [e.1, e.2], rfl, rfl, sq, SqT.of ht, _, rfl, ?_⟩
            rw [lexAt_pair]
            refine ite2 (fun c => ?_) (fun c => ?_)
            · rw [if_pos c] at eg
              show Q (.bl false) H'
              rw [← eg, ← ea]
              exact q H' (Same.trans (same_upd nT) sm)
            · rw [if_neg c] at eg
              refine ⟨_, rfl, rfl, u, p, some (.ref u), rfl, hu, ?_⟩
              rw [eg]
      · rintro σ H' ⟨rfl, t, e, y3, rfl, ht, eg⟩
        rw [hp.length, List.drop_length, goE] at eg
        show Q (.bl true) H'
        rw [← eg, ← ea]
        exact q H' (Same.trans (same_upd nT) sm)
def lim (n : Int) (ns : List Int) : Bool := decide (1 ≤ n) && (decide (n ≤ 5) && areEdges n ns)
def spLim (K : PySem.W.Frag) : Sp := fun vs H Q _ => ∃ (n : Int) (a : Addr) (ns : List Int), vs = [.int n, .ref a] ∧ SqL K H a (ns.map V.int) ∧ ns.length ≤ 22 ∧
  ∀ (H' : Hp), Same H H' → Q (.bl (lim n ns)) H'
theorem ok_lim {f fP : Addr} {fd fdP : FuncData} {k : Nat} {tk : Tok} (F : Fun K "is_within_limits" "is_within_limits" sLimits f fd)
    (GP : FnOk P w K mg base CX0 (k + 2) fP fdP pAreEdges (spEdges K)) (gP : mg "are_edges" = some (.ref fP)) (kP : PySem.W.keepIn K (.ref fP) = true) (bP : Binds K fdP pAreEdges []) (mN : mg "LARGEST_VERTEX_COUNT" = some (.int 5 tk)) :
    FnOk P w K mg base CX0 (k + 3) f fd pLimits (spLim K) := by
  refine F.ok scLimits (fun vs H Q E h => ?_) (fun cdv A outer s H vs Q E hr h => ?_)
  · obtain ⟨n, a, ns, rfl, _⟩ := h
    rfl
  · obtain ⟨n, a, ns, rfl, hS, hlen, q⟩ := h
    refine ⟨_, pss_one (ps_ret (pe_and (pe_cmp (pc_le pe_int (pv 0)) rfl) (pe_and (pe_cmp (pc_le (pv 0) (pe_glob (v := .int 5) rfl mN ⟨_, rfl⟩)) rfl) (pe_one (pe_call GP hr (by rfl) gP kP bP .nil pass0 (pa_cons (pv 0) (pa_cons (pv 1) pa_nil))))))), ?_⟩
    unfold lim at q
    refine ⟨_, rfl, _, _, rfl, rfl, _, rfl, ite2 (fun (c : decide (1 ≤ n) = true) => ?_) (fun (c : ¬ decide (1 ≤ n) = true) => ?_)⟩
    · rw [c, Bool.true_and] at q
      refine ⟨_, rfl, _, _, rfl, rfl, _, rfl, ite2 (fun (c : decide (n ≤ 5) = true) => ?_) (fun (c : ¬ decide (n ≤ 5) = true) => ?_)⟩
      · rw [c, Bool.true_and] at q
        exact ⟨_, rfl, _, rfl, n, a, ns, rfl, hS, hlen, fun H' sm => q H' sm⟩
      · rw [Bool.eq_false_iff.mpr c, Bool.false_and] at q
        exact q H (Same.refl H)
    · rw [Bool.eq_false_iff.mpr c, Bool.false_and] at q
      exact q H (Same.refl H)
end
end Pb

set_option Elab.async false
set_option linter.all false
set_option maxRecDepth 100000
set_option maxHeartbeats 4000000
namespace Pb
open PySem PySem.Spec PyProof.Rows L2
section
variable {P : Program} {w : World} {K : PySem.W.Frag} {mg : Str → Option Value} {base : Heap}
def swapI (p : Int × Int) : Int × Int := (p.2, p.1)
def spStepsOf (K : PySem.W.Frag) : Sp := fun vs H Q _ => ∃ (a : Addr) (ns : List Int), vs = [.ref a] ∧ SqL K H a (ns.map V.int) ∧ ns.length ≤ 22 ∧
  ∀ (H' : Hp) (p : Addr) (xs : List V), Same H H' → H p = none → H' p = some (.lst xs) → Paired (Pair H') xs (pairs ns ++ (pairs ns).map swapI) → Q (.ref p) H'
theorem ok_steps {f fP : Addr} {fd fdP : FuncData} {k : Nat} (F : Fun K "steps_of" "steps_of" sStepsOf f fd)
    (GP : FnOk P w K mg base CX0 (k + 1) fP fdP pEdgePairs (spPairs K)) (gP : mg "edge_pairs" = some (.ref fP)) (kP : PySem.W.keepIn K (.ref fP) = true) (bP : Binds K fdP pEdgePairs []) :
    FnOk P w K mg base CX0 (k + 2) f fd pStepsOf (spStepsOf K) := by
  refine F.ok scStepsOf (fun vs H Q E h => ?_) (fun cdv A outer s H vs Q E hr h => ?_)
  · obtain ⟨a, ns, rfl, _⟩ := h
    rfl
  · obtain ⟨a, ns, rfl, hS, hlen, q⟩ := h
    refine ⟨_, pss_cons (ps_set (i := 1) scStepsOf.nd rfl (Or.inl rfl) (pe_call GP hr (by rfl) gP kP bP .nil pass0 (pa_cons (pv 0) pa_nil)))
      (pss_one (ps_ret (pe_op op_cat (pv 1) (pe_lc (own := [("u", 2), ("v", 3)]) (g := gTup K 2 (gCons (gName 2) (gCons (gName 3) gNil))) (tt := tYes) rfl scStepsOf.nd (pi_list (pv 1))
        (blkOk_by (N := nStepsOf) (sc := defScope sStepsOf) (by decide +kernel)) (fun _ _ _ _ _ => pg_tup rfl (pgs_cons (pg_name (i := 2) scStepsOf.nd rfl (Or.inl rfl)) (pgs_cons (pg_name (i := 3) scStepsOf.nd rfl (Or.inl rfl)) pgs_nil)))
        (fun _ _ _ _ _ => pts_nil) (fun _ _ _ _ _ => pe_tup (pa_cons (pv 3) (pa_cons (pv 2) pa_nil))))))), ?_⟩
    refine ⟨.ref a, rfl, a, ns, rfl, hS, hlen, fun H1 L xs sm nL hL hp => ?_⟩
    refine ⟨_, rfl, _, rfl, L, rfl, ⟨_, SqL.of hL⟩, fun D nD => ?_⟩
    have hDL : L ≠ D := ne_of_none hL nD
    refine lc_it (walk_list (K := K) (a := L) (xs := xs)) (fun i H' => Same H1 H' ∧ ∃ acc, H' D = some (.lst acc) ∧ acc.length = i ∧ Paired (Pair (del H' D)) acc (((pairs ns).map swapI).take i)) ?_ ?_ ?_ ?_
    · exact ⟨same_upd nD, [], upd_same, rfl, .nil⟩
    · exact fun i H' _ h => h.1.seq (SqL.of hL)
    · rintro i x H2 H3 hi ⟨sm2, acc, hD, hl, hpp⟩ ⟨rfl, hx⟩
      obtain ⟨p, hpi, u, rfl, hu⟩ := Paired.get hp hx
      refine ⟨u, _, rfl, SqT.of (sm2 _ _ hu), rfl, _, _, rfl, _, _, rfl, rfl, ?_⟩
      refine lc_yes rfl ?_
      refine ⟨_, rfl, _, rfl, (by show 2 ≤ sizeLine; decide), fun T nT => ?_⟩
      have nTD : D ≠ T := ne_of_none hD nT
      have hlen2 : acc.length ≤ 11 := by
        have := hpp.length
        rw [List.length_take, List.length_map, pairs_len] at this
        omega
      refine ⟨acc, by rw [upd_ne nTD]; exact hD, small_line (by omega), same_set (sm2.trans (same_upd nT)) nD, acc ++ [.ref T], upd_same, by simp [hl], ?_⟩
      have gp : ((pairs ns).map swapI)[i]? = some (swapI p) := by rw [List.getElem?_map, hpi]; rfl
      rw [take_more gp, del_upd]
      refine Paired.snoc (Paired.mono (fun v c => Pair.mono (Same.del (same_upd nT))) hpp) ⟨T, rfl, ?_⟩
      rw [del_ne nTD.symm, upd_same]
      rfl
    · rintro H2 ⟨sm2, acc, hD, hl, hpp⟩
      have hxl := hp.length
      rw [List.take_of_length_le (by rw [List.length_map, hxl]; exact Nat.le_refl _)] at hpp
      have hal : acc.length ≤ 11 := by
        rw [hl, hxl, pairs_len]; omega
      refine ⟨L, D, xs, acc, rfl, rfl, sm2 _ _ hL, hD, Nat.le_of_lt (small_line (by rw [hxl, pairs_len]; omega)), fun p np => ?_⟩
      have smp : Same H2 (upd H2 p (.lst (xs ++ acc))) := same_upd np
      refine q _ p _ ((sm.trans sm2).trans smp) (Same.free sm (Same.free sm2 np)) upd_same ?_
      exact Paired.append (Paired.mono (fun v c => Pair.mono (sm2.trans smp)) hp) (Paired.mono (fun v c => Pair.mono (same_del.trans smp)) hpp)
/-! ### distances -/
theorem oV_get {D : List (Option Nat)} {u : Nat} (h : u < D.length) : (D.map oV)[u]? = some (oV (D.getD u none)) := by
  rw [List.getElem?_map, List.getD_eq_getElem?_getD, List.getElem?_eq_getElem h]
  rfl
theorem ixN_nat {n j : Nat} (h : j < n) : ixN n (j : Int) = some j := by
  unfold ixN
  rw [if_pos (by omega), if_pos (by omega)]; simp
theorem rep_non (n : Nat) : (List.replicate n [V.non]).flatten = (List.replicate n (none : Option Nat)).map oV := by
  induction n with
  | zero => rfl
  | succ n ih =>
    rw [List.replicate_succ, List.flatten_cons, ih, List.replicate_succ]
    rfl
def spDist (K : PySem.W.Frag) : Sp := fun vs H Q _ => ∃ (n : Nat) (b : Addr) (ss : List Nat) (a : Addr) (ns : List Int) (es : List (Nat × Nat)), vs = [iv n, .ref b, .ref a] ∧ SqL K H b (ss.map iv) ∧ (∀ s ∈ ss, s < n) ∧ SqL K H a (ns.map V.int) ∧ ns.length ≤ 22 ∧
  pairs ns = es.map castP ∧ Bd n es ∧ n ≤ 5 ∧
  ∀ (H' : Hp) (p : Addr), Same H H' → H p = none → H' p = some (.lst ((distL n (stepsOf es) ss).map oV)) → Q (.ref p) H'
theorem pairs_steps {ns : List Int} {es : List (Nat × Nat)} (h : pairs ns = es.map castP) : pairs ns ++ (pairs ns).map swapI = (stepsOf es).map castP := by
  rw [h, stepsOf, List.map_append, List.map_map, List.map_map]
  rfl
theorem ok_dist {f fP : Addr} {fd fdP : FuncData} {k : Nat} (F : Fun K "distances_from" "distances_from" sDist f fd) (mr : mg "range" = none)
    (GP : FnOk P w K mg base CX0 (k + 2) fP fdP pStepsOf (spStepsOf K)) (gP : mg "steps_of" = some (.ref fP)) (kP : PySem.W.keepIn K (.ref fP) = true) (bP : Binds K fdP pStepsOf []) :
    FnOk P w K mg base CX0 (k + 3) f fd pDist (spDist K) := by
  refine F.ok scDist (fun vs H Q E h => ?_) (fun cdv A outer s H vs Q E hr h => ?_)
  · obtain ⟨n, b, ss, a, ns, es, rfl, _⟩ := h
    rfl
  · obtain ⟨n, b, ss, a, ns, es, rfl, hB, hss, hS, hlen, hes, hb, hn5, q⟩ := h
    refine ⟨_, pss_cons (ps_set (i := 3) scDist.nd rfl (Or.inl rfl) (pe_call GP hr (by rfl) gP kP bP .nil pass0 (pa_cons (pv 2) pa_nil)))
      (pss_cons (ps_set (i := 4) scDist.nd rfl (Or.inl rfl) (pe_op op_rep (pe_lst (pa_cons pe_non pa_nil)) (pv 0)))
      (pss_cons (ps_for PassesOwn.never rfl (pi_list (pv 1)) (pg_name (i := 5) scDist.nd rfl (Or.inl rfl))
        (pss_one (ps_asg pe_int (pg_sub (pv 4) (pv 5) set_list))))
      (pss_cons (ps_for PassesOwn.never rfl (pi_range2 (by rfl) mr (pa_cons pe_int (pa_cons (pv 0) pa_nil))) (pg_name (i := 6) scDist.nd rfl (Or.inl rfl))
        (pss_one (ps_for PassesOwn.never rfl (pi_list (pv 3)) (pg_tup rfl (pgs_cons (pg_name (i := 7) scDist.nd rfl (Or.inl rfl)) (pgs_cons (pg_name (i := 8) scDist.nd rfl (Or.inl rfl)) pgs_nil)))
          (pss_one (ps_if (PW.pt (pw_and (pt_cmpR op_eq (pe_ix ix_list (pv 4) (pv 7) (fun _ _ => rfl)) (pe_op op_sub (pv 6) pe_int) (nomark _)) (pw_and1 (pt_cmpR op_isN (pe_ix ix_list (pv 4) (pv 8) (fun _ _ => rfl)) pe_non (nomark _)))))
            (pss_one (ps_asg (pv 6) (pg_sub (pv 4) (pv 8) set_list))) pss_nil)))))
      (pss_one (ps_ret (pv 4)))))), ?_⟩
    refine ⟨.ref a, rfl, a, ns, rfl, hS, hlen, fun H1 L xs sm nL hL hp => ?_⟩
    rw [pairs_steps hes] at hp
    refine ⟨(by show 1 ≤ sizeLine; decide), fun l nl => ⟨_, rfl, l, (n : Int), _, rfl, rfl, upd_same, by omega, by omega, Nat.le_of_lt (small_line (by simp; omega)), fun D nD => ?_⟩⟩
    have nDl : D ≠ l := fun e => by rw [e, upd_same] at nD; cases nD
    have nD1 : H1 D = none := by rw [upd_ne nDl] at nD; exact nD
    have hB1 := sm.seq hB
    have sm0 : Same H1 (upd H1 l (.lst [V.non])) := same_upd nl
    refine ⟨_, rfl, b, rfl, ⟨_, (sm0.trans (same_upd nD)).seq hB1⟩, for_list (K := K) (a := b) (xs := ss.map iv) (fun i σ H' => ∃ y5, σ = [some (iv n), some (.ref b), some (.ref a), some (.ref L), some (.ref D), y5, none, none, none] ∧ Same H1 H' ∧
      H' D = some (.lst ((startL n (ss.take i)).map oV))) ⟨none, rfl, same_set sm0 nD1, ?_⟩ (fun i σ H' _ h => by
        obtain ⟨_, _, s3, _⟩ := h
        exact s3.seq hB1) ?_ ?_⟩
    · rw [upd_same, show (Int.toNat (n : Int)) = n from rfl, rep_non]
      rfl
    · rintro i x σ H2 hx ⟨y5, rfl, sm2, hD⟩
      rw [List.getElem?_map] at hx
      obtain ⟨st, hst, rfl⟩ : ∃ st, ss[i]? = some st ∧ iv st = x := by
        cases e : ss[i]? with
        | none => rw [e] at hx; cases hx
        | some p => rw [e] at hx; exact ⟨p, rfl, Option.some.inj hx⟩
      have hs := hss st (List.mem_of_getElem? hst)
      refine ⟨_, rfl, _, rfl, D, _, (st : Int), st, rfl, rfl, hD, ixN_nat (by rw [List.length_map, startL_len]; exact hs), ?_⟩
      refine ⟨_, rfl, same_set sm2 nD1, ?_⟩
      rw [upd_same]
      have e0 : startL n (ss.take (i + 1)) = (startL n (ss.take i)).set st (some 0) := by
        unfold startL
        rw [take_more hst, List.foldl_append]
        rfl
      rw [e0, List.map_set]
      rfl
    rintro σ H2 ⟨y5, rfl, sm2, hD⟩
    rw [List.take_of_length_le (by rw [List.length_map]; exact Nat.le_refl _)] at hD
    refine ⟨_, rfl, 1, (n : Int), rfl, ⟨by omega, by omega, by omega, by omega⟩, ?_⟩
    have ln : ∀ i, ((List.range i).foldl (round (stepsOf es)) (startL n ss)).length = n := by
      intro i
      induction i with
      | zero => exact startL_len n ss
      | succ i ih => rw [List.range_succ, List.foldl_append]; exact (round_len _ _ _).trans ih
    refine for_range (lo := 1) (n := ((n : Int) - 1).toNat) (fun i σ H' => ∃ y5 y6 y7 y8, σ = [some (iv n), some (.ref b), some (.ref a), some (.ref L), some (.ref D), y5, y6, y7, y8] ∧ Same H1 H' ∧
      H' D = some (.lst (((List.range i).foldl (round (stepsOf es)) (startL n ss)).map oV))) ⟨y5, none, none, none, rfl, sm2, hD⟩ ?_ ?_
    · rintro i σ H2 hi ⟨y5, y6, y7, y8, rfl, sm2, hD⟩
      refine ⟨_, rfl, L, rfl, ⟨_, sm2.seq (SqL.of hL)⟩, for_list (K := K) (a := L) (xs := xs) (fun j σ H' => ∃ y7 y8, σ = [some (iv n), some (.ref b), some (.ref a), some (.ref L), some (.ref D), y5, some (.int (1 + i)), y7, y8] ∧ Same H1 H' ∧
        H' D = some (.lst ((((stepsOf es).take j).foldl (relax i) ((List.range i).foldl (round (stepsOf es)) (startL n ss))).map oV))) ⟨y7, y8, rfl, sm2, hD⟩ (fun j σ H' _ h => by
          obtain ⟨_, _, _, s3, _⟩ := h
          exact s3.seq (SqL.of hL)) ?_ ?_⟩
      · rintro j x σ H3 hx ⟨z6, z7, rfl, sm3, hD3⟩
        obtain ⟨c, hc, u, rfl, hu⟩ := Paired.get hp hx
        rw [List.getElem?_map] at hc
        obtain ⟨p, hpj, rfl⟩ : ∃ p, (stepsOf es)[j]? = some p ∧ castP p = c := by
          cases e : (stepsOf es)[j]? with
          | none => rw [e] at hc; cases hc
          | some p => rw [e] at hc; exact ⟨p, rfl, Option.some.inj hc⟩
        have hpm : p ∈ stepsOf es := List.mem_of_getElem? hpj
        have bnd := steps_lt hb hpm
        have lE : (((stepsOf es).take j).foldl (relax i) ((List.range i).foldl (round (stepsOf es)) (startL n ss))).length = n := (round_len _ _ i).trans (ln i)
        have nxt : ((stepsOf es).take (j + 1)).foldl (relax i) ((List.range i).foldl (round (stepsOf es)) (startL n ss)) = relax i (((stepsOf es).take j).foldl (relax i) ((List.range i).foldl (round (stepsOf es)) (startL n ss))) p := by
          rw [take_more hpj, List.foldl_append]
          rfl
        generalize hEE : ((stepsOf es).take j).foldl (relax i) ((List.range i).foldl (round (stepsOf es)) (startL n ss)) = EE at *
        refine ⟨u, _, rfl, SqT.of (sm3 _ _ hu), rfl, _, _, rfl, _, _, rfl, rfl, ?_⟩
        have gu : (EE.map oV)[p.1]? = some (oV (EE.getD p.1 none)) := oV_get (by rw [lE]; exact bnd.1)
        have gv : (EE.map oV)[p.2]? = some (oV (EE.getD p.2 none)) := oV_get (by rw [lE]; exact bnd.2.1)
        refine ⟨_, rfl, _, rfl, D, _, _, _, rfl, rfl, SqL.of hD3, atI_nat gu, _, rfl, _, _, rfl, rfl, ?_, _, rfl, ?_⟩
        · cases EE.getD p.1 none <;> rfl
        have dec1 : decide (oV (EE.getD p.1 none) = V.int (1 + (i : Int) - 1)) = decide (EE.getD p.1 none = some i) := by
          cases EE.getD p.1 none with
          | none => simp [oV]
          | some k =>
            simp only [oV, V.int.injEq, Option.some.injEq]
            rw [Bool.eq_iff_iff]
            simp only [decide_eq_true_eq]
            omega
        have dec2 : decide (oV (EE.getD p.2 none) = V.non) = decide (EE.getD p.2 none = none) := by
          cases EE.getD p.2 none <;> simp [oV]
        refine ite2 (fun c => ?_) (fun c => ?_)
        · have c1 : EE.getD p.1 none = some i := of_decide_eq_true (dec1.symm.trans c)
          refine ⟨_, rfl, _, rfl, D, _, _, _, rfl, rfl, SqL.of hD3, atI_nat gv, rfl, _, rfl, ite2 (fun c => ?_) (fun c => ?_)⟩
          · have c2 : EE.getD p.2 none = none := of_decide_eq_true (dec2.symm.trans c)
            refine ⟨_, rfl, _, rfl, _, rfl, D, _, _, p.2, rfl, rfl, hD3, ixN_nat (by rw [List.length_map, lE]; exact bnd.2.1), ?_⟩
            refine ⟨_, _, rfl, same_set sm3 nD1, ?_⟩
            rw [nxt, relax, if_pos ⟨c1, c2⟩, upd_same, List.map_set]
            simp only [oV]
            rw [show (1 : Int) + (i : Int) = ((i + 1 : Nat) : Int) by omega]
          · have c2 : ¬ EE.getD p.2 none = none := fun z => c (dec2.trans (decide_eq_true z))
            refine ⟨_, _, rfl, sm3, ?_⟩
            rw [nxt, relax, if_neg (fun z => c2 z.2)]
            exact hD3
        · have c1 : ¬ EE.getD p.1 none = some i := fun z => c (dec1.trans (decide_eq_true z))
          refine iteF ?_
          refine ⟨_, _, rfl, sm3, ?_⟩
          rw [nxt, relax, if_neg (fun z => c1 z.1)]
          exact hD3
      · rintro σ H3 ⟨z6, z7, rfl, sm3, hD3⟩
        refine ⟨_, _, _, _, rfl, sm3, ?_⟩
        have hxl := hp.length
        rw [List.length_map] at hxl
        rw [hxl, List.take_length] at hD3
        rw [List.range_succ, List.foldl_append]
        exact hD3
    · rintro σ H2 ⟨y5, y6, y7, y8, rfl, sm2, hD⟩
      refine ⟨_, rfl, ?_⟩
      rw [show ((n : Int) - 1).toNat = n - 1 by omega] at hD
      exact q H2 D (sm.trans sm2) (Same.free sm nD1) hD
end
end Pb

set_option Elab.async false
set_option linter.all false
set_option maxRecDepth 100000
set_option maxHeartbeats 4000000
namespace Pb
open PySem PySem.Spec PyProof.Rows L2
section
variable {P : Program} {w : World} {K : PySem.W.Frag} {mg : Str → Option Value} {base : Heap}
def spLargest (K : PySem.W.Frag) : Sp := fun vs H Q _ => ∃ (n : Nat) (a : Addr) (ns : List Int) (es : List (Nat × Nat)), vs = [iv n, .ref a] ∧ SqL K H a (ns.map V.int) ∧ ns.length ≤ 22 ∧
  pairs ns = es.map castP ∧ Bd n es ∧ n ≤ 5 ∧ ∀ (H' : Hp), Same H H' → Q (oV (largest n (stepsOf es))) H'
theorem max_nat (m k : Nat) : (if (k : Int) > (m : Int) then (k : Int) else (m : Int)) = ((max m k : Nat) : Int) := by
  split <;> omega
theorem ok_largest {f fP : Addr} {fd fdP : FuncData} {k : Nat} (F : Fun K "largest_distance" "largest_distance" sLargest f fd) (mr : mg "range" = none) (mm : mg "max" = none)
    (GP : FnOk P w K mg base CX0 (k + 3) fP fdP pDist (spDist K)) (gP : mg "distances_from" = some (.ref fP)) (kP : PySem.W.keepIn K (.ref fP) = true) (bP : Binds K fdP pDist []) :
    FnOk P w K mg base CX0 (k + 4) f fd pLargest (spLargest K) := by
  refine F.ok scLargest (fun vs H Q E h => ?_) (fun cdv A outer s H vs Q E hr h => ?_)
  · obtain ⟨n, a, ns, es, rfl, _⟩ := h
    rfl
  · obtain ⟨n, a, ns, es, rfl, hS, hlen, hes, hb, hn5, q⟩ := h
    refine ⟨_, pss_cons (ps_set (i := 2) scLargest.nd rfl (Or.inl rfl) pe_int)
      (pss_cons (ps_for PassesOwn.never rfl (pi_range1 (by rfl) mr (pa_cons (pv 0) pa_nil)) (pg_name (i := 3) scLargest.nd rfl (Or.inl rfl))
        (pss_one (ps_for PassesOwn.never rfl (pi_list (pe_call GP hr (by rfl) gP kP bP .nil pass0 (pa_cons (pv 0) (pa_cons (pe_lst (pa_cons (pv 3) pa_nil)) (pa_cons (pv 1) pa_nil))))) (pg_name (i := 4) scLargest.nd rfl (Or.inl rfl))
          (pss_cons (ps_if (pt_cmpR op_isN (pv 4) pe_non (nomark _)) (pss_one (ps_ret pe_non)) pss_nil)
          (pss_one (ps_set (i := 2) scLargest.nd rfl (Or.inl rfl) (pe_callB (call_max2 rfl) (by rfl) mm (by decide +kernel) (pa_cons (pv 2) (pa_cons (pv 4) pa_nil)))))))))
      (pss_one (ps_ret (pv 2)))), ?_⟩
    refine ⟨_, rfl, (n : Int), rfl, by omega, by omega, ?_⟩
    refine for_range (lo := 0) (n := (n : Int).toNat) (fun i σ H' => Same H H' ∧ ∃ (m : Nat) (y3 y4 : Option V), σ = [some (iv n), some (.ref a), some (iv m), y3, y4] ∧ ((List.range i).flatMap (dists n (stepsOf es))).foldl big1 (some 0) = some m)
      ⟨Same.refl H, 0, none, none, rfl, rfl⟩ ?_ ?_
    · rintro i σ H2 hi ⟨sm, m, y3, y4, rfl, em⟩
      have hi' : i < n := hi
      refine ⟨_, rfl, _, rfl, (by show 1 ≤ sizeLine; decide), fun b nb => ⟨_, rfl, n, b, [i], a, ns, es, rfl, SqL.of (by rw [upd_same]; simp [iv]), (fun s hs => by simp only [List.mem_singleton] at hs; omega), (sm.trans (same_upd nb)).seq hS, hlen, hes, hb, hn5, fun H3 L smb nL hL => ?_⟩⟩
      have sm3 : Same H2 H3 := (same_upd nb).trans smb
      rw [distL_one] at hL
      have nxt : ((List.range (i + 1)).flatMap (dists n (stepsOf es))).foldl big1 (some 0) = (dists n (stepsOf es) i).foldl big1 (some m) := by
        rw [List.range_succ, List.flatMap_append, List.foldl_append, em]
        simp
      refine ⟨L, rfl, ⟨_, SqL.of hL⟩, for_list (K := K) (a := L) (xs := (dists n (stepsOf es) i).map oV) (fun j σ H' => H' = H3 ∧ ∃ (m2 : Nat) (y4 : Option V), σ = [some (iv n), some (.ref a), some (iv m2), some (.int (0 + i)), y4] ∧ ((dists n (stepsOf es) i).take j).foldl big1 (some m) = some m2)
        ⟨rfl, m, y4, rfl, rfl⟩ (fun j σ H' _ h => by rw [h.1]; exact SqL.of hL) ?_ ?_⟩
      · rintro j x σ H4 hx ⟨rfl, m2, z4, rfl, em2⟩
        rw [List.getElem?_map] at hx
        obtain ⟨d, hd, rfl⟩ : ∃ d, (dists n (stepsOf es) i)[j]? = some d ∧ oV d = x := by
          cases e : (dists n (stepsOf es) i)[j]? with
          | none => rw [e] at hx; cases hx
          | some p => rw [e] at hx; exact ⟨p, rfl, Option.some.inj hx⟩
        cases d with
        | none =>
          refine ⟨_, rfl, rfl, _, rfl, iteT ?_⟩
          have : largest n (stepsOf es) = none := by
            unfold largest big
            refine big_bad _ _ (List.mem_flatMap.mpr ⟨i, List.mem_range.mpr hi', List.mem_of_getElem? hd⟩)
          show Q .non H4
          rw [this] at q
          exact q H4 (sm.trans sm3)
        | some d =>
          refine ⟨_, rfl, rfl, _, rfl, iteF ?_⟩
          refine ⟨_, rfl, _, rfl, _, _, rfl, ?_⟩
          refine ⟨rfl, max m2 d, some (iv d), ?_, ?_⟩
          · rw [max_nat]; rfl
          · rw [take_more hd, List.foldl_append, em2]; rfl
      · rintro σ H4 ⟨rfl, m2, z4, rfl, em2⟩
        rw [List.length_map, List.take_length] at em2
        exact ⟨sm.trans sm3, m2, _, _, rfl, nxt.trans em2⟩
    · rintro σ H2 ⟨sm, m, y3, y4, rfl, em⟩
      refine ⟨_, rfl, ?_⟩
      have : largest n (stepsOf es) = some m := em
      rw [this] at q
      exact q H2 sm
/-! ### the refusal -/
def cRef (n : Int) (ns : List Int) : Option Int := match Ks577.parseGraph n.toNat (ns.map Int.toNat) with
  | none => some (-22)
  | some g => if Ks578.isConnected g = false then some (-33) else none
def refusal (n : Int) (ns : List Int) : Option Int := match Ks577.parseGraph n.toNat (ns.map Int.toNat) with
  | none => some (-22)
  | some g => if Ks578.isConnected g = false then some (-33) else if 4 ≤ Ks578.diameter g then some (-75) else none
theorem lim_true {n : Int} {ns : List Int} (h0 : ∀ x ∈ ns, 0 ≤ x) (h : lim n ns = true) : ∃ (m : Nat) (es : List (Nat × Nat)), n = (m : Int) ∧ 1 ≤ m ∧ m ≤ 5 ∧ Bd m es ∧ pairs ns = es.map castP ∧
    Ks577.parseGraph n.toNat (ns.map Int.toNat) = some ⟨m, es⟩ := by
  unfold lim at h
  simp only [Bool.and_eq_true, decide_eq_true_eq] at h
  obtain ⟨h1, h2, h3⟩ := h
  obtain ⟨m, rfl⟩ := Int.eq_ofNat_of_zero_le (show 0 ≤ n by omega)
  obtain ⟨es, e1, e2, e3⟩ := parse_ok h0 h3
  refine ⟨m, es, rfl, by omega, by omega, e3, e2, ?_⟩
  unfold Ks577.parseGraph
  rw [if_neg (by simp only [Ks577.maxVertices, Int.toNat_natCast]; omega), Int.toNat_natCast, e1]
  rfl
theorem lim_false {n : Int} {ns : List Int} (hn : 0 ≤ n) (h0 : ∀ x ∈ ns, 0 ≤ x) (h : lim n ns = false) : Ks577.parseGraph n.toNat (ns.map Int.toNat) = none := by
  obtain ⟨m, rfl⟩ := Int.eq_ofNat_of_zero_le hn
  unfold Ks577.parseGraph
  split
  · rfl
  · rename_i c
    simp only [Ks577.maxVertices, Int.toNat_natCast] at c
    have : areEdges (m : Int) ns = false := by
      unfold lim at h
      rw [decide_eq_true (show (1 : Int) ≤ (m : Int) by omega), decide_eq_true (show (m : Int) ≤ 5 by omega)] at h
      simpa using h
    rw [Int.toNat_natCast, parse_none h0 this]
    rfl
def spCRef (K : PySem.W.Frag) : Sp := fun vs H Q _ => ∃ (n : Int) (a : Addr) (ns : List Int), vs = [.int n, .ref a] ∧ SqL K H a (ns.map V.int) ∧ ns.length ≤ 22 ∧ 0 ≤ n ∧ (∀ x ∈ ns, 0 ≤ x) ∧
  ∀ (H' : Hp), Same H H' → Q (rV (cRef n ns)) H'
theorem ok_cRef {f fP fL : Addr} {fd fdP fdL : FuncData} {k : Nat} {t1 t2 : Tok} (F : Fun K "connection_refusal" "connection_refusal" sCRef f fd)
    (GP : FnOk P w K mg base CX0 (k + 3) fP fdP pLimits (spLim K)) (gP : mg "is_within_limits" = some (.ref fP)) (kP : PySem.W.keepIn K (.ref fP) = true) (bP : Binds K fdP pLimits [])
    (GL : FnOk P w K mg base CX0 (k + 4) fL fdL pLargest (spLargest K)) (gL : mg "largest_distance" = some (.ref fL)) (kL : PySem.W.keepIn K (.ref fL) = true) (bL : Binds K fdL pLargest [])
    (m1 : mg "OUTSIDE_LIMITS" = some (.int (-22) t1)) (m2 : mg "NOT_CONNECTED" = some (.int (-33) t2)) :
    FnOk P w K mg base CX0 (k + 5) f fd pCRef (spCRef K) := by
  refine F.ok scCRef (fun vs H Q E h => ?_) (fun cdv A outer s H vs Q E hr h => ?_)
  · obtain ⟨n, a, ns, rfl, _⟩ := h
    rfl
  · obtain ⟨n, a, ns, rfl, hS, hlen, hn0, h0, q⟩ := h
    have hr3 : Room (k + 3) _ := hr.mono (by omega)
    refine ⟨_, pss_cons (ps_if (pt_not (pt_val (pe_call GP hr3 (by rfl) gP kP bP .nil pass0 (pa_cons (pv 0) (pa_cons (pv 1) pa_nil))))) (pss_one (ps_ret (pe_glob (v := .int (-22)) rfl m1 ⟨_, rfl⟩))) pss_nil)
      (pss_cons (ps_if (pt_cmpR op_isN (pe_call GL hr (by rfl) gL kL bL .nil pass0 (pa_cons (pv 0) (pa_cons (pv 1) pa_nil))) pe_non (nomark _)) (pss_one (ps_ret (pe_glob (v := .int (-33)) rfl m2 ⟨_, rfl⟩))) pss_nil)
      (pss_one (ps_ret pe_non))), ?_⟩
    refine ⟨_, rfl, _, rfl, n, a, ns, rfl, hS, hlen, fun H1 s1 => ⟨_, rfl, ?_⟩⟩
    cases hl : lim n ns with
    | false =>
      refine iteT ?_
      have : cRef n ns = some (-22) := by unfold cRef; rw [lim_false hn0 h0 hl]
      rw [this] at q
      exact q H1 s1
    | true =>
      refine iteF ?_
      obtain ⟨m, es, rfl, h1, h5, hb, hes, hg⟩ := lim_true h0 hl
      have er : cRef (m : Int) ns = if Ks578.isConnected ⟨m, es⟩ = false then some (-33) else none := by unfold cRef; rw [hg]
      refine ⟨_, rfl, _, rfl, m, a, ns, es, rfl, s1.seq hS, hlen, hes, hb, h5, fun H2 s2 => ?_⟩
      refine ⟨rfl, _, rfl, ?_⟩
      cases hc : Ks578.isConnected ⟨m, es⟩ with
      | false =>
        have el : largest m (stepsOf es) = none := largest_not (g := ⟨m, es⟩) hb h1 hc
        rw [el]
        refine iteT ?_
        rw [er, hc, if_pos rfl] at q
        exact q H2 (s1.trans s2)
      | true =>
        have el : largest m (stepsOf es) = some (Ks578.diameter ⟨m, es⟩) := largest_conn (g := ⟨m, es⟩) hb h1 hc
        rw [el]
        refine iteF ?_
        rw [er, hc, if_neg (by decide)] at q
        exact q H2 (s1.trans s2)
theorem cRef_none {n : Int} {ns : List Int} (hn : 0 ≤ n) (h0 : ∀ x ∈ ns, 0 ≤ x) (h : cRef n ns = none) : ∃ (m : Nat) (es : List (Nat × Nat)), n = (m : Int) ∧ 1 ≤ m ∧ m ≤ 5 ∧ Bd m es ∧ pairs ns = es.map castP ∧
    largest m (stepsOf es) = some (Ks578.diameter ⟨m, es⟩) ∧ refusal n ns = if 4 ≤ Ks578.diameter ⟨m, es⟩ then some (-75) else none := by
  cases hl : lim n ns with
  | false =>
    unfold cRef at h
    rw [lim_false hn h0 hl] at h
    cases h
  | true =>
    obtain ⟨m, es, rfl, h1, h5, hb, hes, hg⟩ := lim_true h0 hl
    unfold cRef at h
    rw [hg] at h
    simp only at h
    split at h
    · cases h
    · rename_i c
      refine ⟨m, es, rfl, h1, h5, hb, hes, largest_conn (g := ⟨m, es⟩) hb h1 (by simpa using c), ?_⟩
      unfold refusal
      rw [hg]
      simp only
      rw [if_neg c]
theorem cRef_some {n r : Int} {ns : List Int} (h : cRef n ns = some r) : refusal n ns = some r := by
  unfold cRef at h
  unfold refusal
  split at h
  · exact h
  · split at h
    · rename_i c
      rw [if_pos c]
      exact h
    · cases h
end
end Pb

set_option Elab.async false
set_option linter.all false
set_option maxRecDepth 100000
set_option maxHeartbeats 4000000
namespace Pb
open PySem PySem.Spec PyProof.Rows L2
section
variable {P : Program} {w : World} {K : PySem.W.Frag} {mg : Str → Option Value} {base : Heap}
/-! ### the refusal of a graph -/
def spRefusal (K : PySem.W.Frag) : Sp := fun vs H Q _ => ∃ (n : Int) (a : Addr) (ns : List Int), vs = [.int n, .ref a] ∧ SqL K H a (ns.map V.int) ∧ ns.length ≤ 22 ∧ 0 ≤ n ∧ (∀ x ∈ ns, 0 ≤ x) ∧
  ∀ (H' : Hp), Same H H' → Q (rV (refusal n ns)) H'
theorem ok_refusal {f fP fL : Addr} {fd fdP fdL : FuncData} {k : Nat} {t3 t4 : Tok} (F : Fun K "graph_refusal" "graph_refusal" sRefusal f fd)
    (GP : FnOk P w K mg base CX0 (k + 5) fP fdP pCRef (spCRef K)) (gP : mg "connection_refusal" = some (.ref fP)) (kP : PySem.W.keepIn K (.ref fP) = true) (bP : Binds K fdP pCRef [])
    (GL : FnOk P w K mg base CX0 (k + 4) fL fdL pLargest (spLargest K)) (gL : mg "largest_distance" = some (.ref fL)) (kL : PySem.W.keepIn K (.ref fL) = true) (bL : Binds K fdL pLargest [])
    (m3 : mg "TOO_WIDE" = some (.int (-75) t3)) (m4 : mg "LARGEST_DIAMETER" = some (.int 3 t4)) :
    FnOk P w K mg base CX0 (k + 6) f fd pRefusal (spRefusal K) := by
  refine F.ok scRefusal (fun vs H Q E h => ?_) (fun cdv A outer s H vs Q E hr h => ?_)
  · obtain ⟨n, a, ns, rfl, _⟩ := h
    rfl
  · obtain ⟨n, a, ns, rfl, hS, hlen, hn0, h0, q⟩ := h
    have hr4 : Room (k + 4) _ := hr.mono (by omega)
    refine ⟨_, pss_cons (ps_set (i := 2) scRefusal.nd rfl (Or.inl rfl) (pe_call GP hr (by rfl) gP kP bP .nil pass0 (pa_cons (pv 0) (pa_cons (pv 1) pa_nil))))
      (pss_cons (ps_if (PW.pt (pw_and (pt_cmpR op_isN (pv 2) pe_non (nomark _)) (pw_and1 (pt_cmpR op_gt (pe_call GL hr4 (by rfl) gL kL bL .nil pass0 (pa_cons (pv 0) (pa_cons (pv 1) pa_nil))) (pe_glob (v := .int 3) rfl m4 ⟨_, rfl⟩) (nomark _))))) (pss_one (ps_ret (pe_glob (v := .int (-75)) rfl m3 ⟨_, rfl⟩))) pss_nil)
      (pss_one (ps_ret (pv 2)))), ?_⟩
    refine ⟨_, rfl, _, rfl, n, a, ns, rfl, hS, hlen, hn0, h0, fun H1 s1 => ⟨_, rfl, rfl, _, rfl, ?_⟩⟩
    cases hc : cRef n ns with
    | some r =>
      rw [cRef_some hc] at q
      exact iteF ⟨_, rfl, q H1 s1⟩
    | none =>
      refine iteT ?_
      obtain ⟨m, es, rfl, h1, h5, hb, hes, el, er⟩ := cRef_none hn0 h0 hc
      rw [er] at q
      refine ⟨_, rfl, _, rfl, m, a, ns, es, rfl, s1.seq hS, hlen, hes, hb, h5, fun H2 s2 => ?_⟩
      rw [el]
      refine ⟨_, _, rfl, rfl, _, rfl, ite2 (fun (z : decide ((3 : Int) < (Ks578.diameter ⟨m, es⟩ : Int)) = true) => ?_) (fun (z : ¬ decide ((3 : Int) < (Ks578.diameter ⟨m, es⟩ : Int)) = true) => ?_)⟩
      · have z' := of_decide_eq_true z
        rw [if_pos (by omega)] at q
        exact q H2 (s1.trans s2)
      · have z' : ¬ (3 : Int) < (Ks578.diameter ⟨m, es⟩ : Int) := fun y => z (decide_eq_true y)
        rw [if_neg (by omega)] at q
        exact ⟨_, rfl, q H2 (s1.trans s2)⟩
end
end Pb

set_option Elab.async false
set_option linter.all false
set_option maxRecDepth 100000
set_option maxHeartbeats 4000000
namespace Pb
open PySem PySem.Spec PyProof.Rows L2
section
variable {P : Program} {w : World} {K : PySem.W.Frag} {mg : Str → Option Value} {base : Heap}
theorem room65 {k : Nat} {A : Around} (hr : Room k A) : A.units + 65 < cLine := by have := hr.un; omega
/-! ### configurations -/
theorem iter_ok (p : Nat) (hp : p ≤ 10) : ∀ k, (iter p k [[]]).length ≤ 11 ^ k ∧ ∀ b ∈ iter p k [[]], b.sum ≤ p ∧ b.length = k
  | 0 => by simp [iter]
  | k + 1 => by
    obtain ⟨h1, h2⟩ := iter_ok p hp k
    rw [iter_last]
    refine ⟨?_, ?_⟩
    · have gen : ∀ bs : List (List Nat), (longer p bs).length ≤ bs.length * 11 := by
        intro bs
        induction bs with
        | nil => simp [longer]
        | cons b bs ih =>
          have : longer p (b :: bs) = ext p b ++ longer p bs := rfl
          rw [this, List.length_append, List.length_cons]
          have : (ext p b).length = p - b.sum + 1 := by simp [ext]
          omega
      have := gen (iter p k [[]])
      rw [Nat.pow_succ]
      omega
    · intro c hc
      obtain ⟨b, hb, hc⟩ := List.mem_flatMap.mp hc
      obtain ⟨x, hx, rfl⟩ := List.mem_map.mp hc
      have := h2 b hb
      have hx' := List.mem_range.mp hx
      rw [List.sum_append, List.length_append]
      simp only [List.sum_cons, List.sum_nil, List.length_cons, List.length_nil]
      omega
theorem pow11 {k : Nat} (h : k ≤ 4) : 11 ^ k ≤ 14641 := by
  have : k = 0 ∨ k = 1 ∨ k = 2 ∨ k = 3 ∨ k = 4 := by omega
  rcases this with rfl | rfl | rfl | rfl | rfl <;> decide
theorem flat_take {α β : Type} (f : α → List β) {l : List α} {j : Nat} {b : α} (h : l[j]? = some b) : (l.take (j + 1)).flatMap f = (l.take j).flatMap f ++ f b := by
  rw [take_more h, List.flatMap_append]
  simp
theorem flat_take_le {α β : Type} (f : α → List β) (l : List α) (j : Nat) : ((l.take j).flatMap f).length ≤ (l.flatMap f).length := by
  have : l.flatMap f = (l.take j).flatMap f ++ (l.drop j).flatMap f := by
    rw [← List.flatMap_append, List.take_append_drop]
  rw [this, List.length_append]
  omega
def castL (c : List Nat) : List Int := c.map fun (x : Nat) => ((x : Nat) : Int)
theorem row_int (c : List Nat) : c.map iv = (castL c).map V.int := by unfold castL; rw [List.map_map]; rfl
theorem sum_cast : ∀ c : List Nat, (castL c).sum = ((c.sum : Nat) : Int)
  | [] => rfl
  | x :: c => by
    show ((x : Int) :: castL c).sum = _
    rw [List.sum_cons, sum_cast c, List.sum_cons]
    omega
def spConf : Sp := fun vs H Q _ => ∃ (n p : Nat), vs = [iv n, iv p] ∧ n ≤ 5 ∧ p ≤ 10 ∧
  ∀ (H' : Hp) (q : Addr) (xs : List V), Same H H' → H q = none → H' q = some (.lst xs) → Paired (Row H') xs (confs n p) → Q (.ref q) H'
theorem ok_conf {f : Addr} {fd : FuncData} {k : Nat} (F : Fun K "configurations" "configurations" sConf f fd) (mr : mg "range" = none) (ms : mg "sum" = none) : FnOk P w K mg base CX0 (k + 1) f fd pConf spConf := by
  refine F.ok scConf (fun vs H Q E h => ?_) (fun cdv A outer s H vs Q E hr h => ?_)
  · obtain ⟨n, p, rfl, _⟩ := h
    rfl
  · obtain ⟨n, p, rfl, hn5, hp10, q⟩ := h
    refine ⟨_, pss_cons (ps_set (i := 2) scConf.nd rfl (Or.inl rfl) (pe_lst (pa_cons (pe_lst pa_nil) pa_nil)))
      (pss_cons (ps_for PassesOwn.never rfl (pi_range2 (by rfl) mr (pa_cons pe_int (pa_cons (pv 0) pa_nil))) (pg_name (i := 3) scConf.nd rfl (Or.inl rfl))
        (pss_cons (ps_set (i := 4) scConf.nd rfl (Or.inl rfl) (pe_lst pa_nil))
        (pss_cons (ps_for PassesOwn.never rfl (pi_list (pv 2)) (pg_name (i := 5) scConf.nd rfl (Or.inl rfl))
          (pss_one (ps_for PassesOwn.never rfl (pi_range1 (by rfl) mr (pa_cons (pe_op op_add (pe_op op_sub (pv 1) (pe_callB (cr_sum rfl) (by rfl) ms (by decide +kernel) (pa_cons (pv 5) pa_nil))) pe_int) pa_nil)) (pg_name (i := 6) scConf.nd rfl (Or.inl rfl))
            (pss_one (ps_expr (pe_bm PySem.F.plainAttrs_list PySem.F.slot_list_append PySem.F.type_list_append mt_append (pv 4) (pa_cons (pe_op op_cat (pv 5) (pe_lst (pa_cons (pv 6) pa_nil))) pa_nil)))))))
        (pss_one (ps_set (i := 2) scConf.nd rfl (Or.inl rfl) (pv 4))))))
      (pss_one (ps_ret (pe_lc (own := [("beginning", 5)]) (g := gName 5) (tt := tYes) rfl scConf.nd (pi_list (pv 2)) (blkOk_by (N := nConf) (sc := defScope sConf) (by decide +kernel)) (fun _ _ _ _ _ => pg_name (i := 5) scConf.nd rfl (Or.inl rfl)) (fun _ _ _ _ _ => pts_nil)
        (fun _ _ _ _ _ => pe_op op_cat (pv 5) (pe_lst (pa_cons (pe_op op_sub (pv 1) (pe_callB (r := rSum K) (cr_sum rfl) (by rfl) ms (by decide +kernel) (pa_cons (pv 5) pa_nil))) pa_nil))))))), ?_⟩
    -- beginnings = [[]]
    refine ⟨Nat.zero_le _, fun e ne => ⟨(by show 1 ≤ sizeLine; decide), fun L0 nL0 => ?_⟩⟩
    have ne0 : L0 ≠ e := fun z => by rw [z, upd_same] at nL0; cases nL0
    have sm0 : Same H (upd (upd H e (.lst [])) L0 (.lst [V.ref e])) := (same_upd ne).trans (same_upd nL0)
    refine ⟨_, rfl, 1, (n : Int), rfl, ⟨by omega, by omega, by omega, by omega⟩, ?_⟩
    refine for_range (lo := 1) (n := ((n : Int) - 1).toNat) (fun i σ H' => Same H H' ∧ ∃ (L : Addr) (xs : List V) (y3 y4 y5 y6 : Option V), σ = [some (iv n), some (iv p), some (.ref L), y3, y4, y5, y6] ∧ H' L = some (.lst xs) ∧ Paired (Row H') xs (iter p i [[]]))
      ⟨sm0, L0, _, none, none, none, none, rfl, upd_same, .cons ⟨e, rfl, by rw [upd_ne ne0.symm, upd_same]; rfl⟩ .nil⟩ ?_ ?_
    · rintro i σ H1 hi ⟨sm, L, xs, y3, y4, y5, y6, rfl, hL, hp⟩
      have hi4 : i + 1 ≤ 4 := by omega
      obtain ⟨bl, bs⟩ := iter_ok p hp10 i
      have bl2 := (iter_ok p hp10 (i + 1)).1
      have p11 := pow11 hi4
      rw [iter_last] at bl2
      generalize hB : iter p i [[]] = B at *
      -- longer = []
      refine ⟨Nat.zero_le _, fun D nD => ?_⟩
      have nDL : L ≠ D := ne_of_none hL nD
      refine ⟨_, rfl, L, rfl, ⟨_, (same_upd nD).seq (SqL.of hL)⟩, for_list (K := K) (a := L) (xs := xs) (fun j σ H' => Same H1 H' ∧ ∃ (acc : List V) (y5 y6 : Option V), σ = [some (iv n), some (iv p), some (.ref L), some (.int (1 + i)), some (.ref D), y5, y6] ∧ H' D = some (.lst acc) ∧ Paired (Row (del H' D)) acc ((B.take j).flatMap (ext p)))
        ⟨same_upd nD, [], y5, y6, rfl, upd_same, .nil⟩ (fun j σ H' _ h => h.1.seq (SqL.of hL)) ?_ ?_⟩
      · rintro j x σ H2 hx ⟨sm2, acc, z5, z6, rfl, hD, hacc⟩
        obtain ⟨b, hb, u, rfl, hu⟩ := Paired.get hp hx
        have hu2 := sm2 _ _ hu
        have hbs := bs b (List.mem_of_getElem? hb)
        refine ⟨_, rfl, _, rfl, u, castL b, rfl, SqL.of (by rw [← row_int]; exact hu2), _, _, rfl, rfl, _, _, rfl, rfl, _, rfl, ?_, ?_, ?_⟩
        · rw [sum_cast]; omega
        · rw [sum_cast]; omega
        have hturn : ((p : Int) - (castL b).sum + 1).toNat = p - b.sum + 1 := by rw [sum_cast]; omega
        rw [hturn]
        have le : (ext p b).length = p - b.sum + 1 := by simp [ext]
        have flt := flat_take (ext p) hb
        have fle := flat_take_le (ext p) B (j + 1)
        rw [flt, List.length_append] at fle
        refine for_range (lo := 0) (n := p - b.sum + 1) (fun m σ H' => Same H1 H' ∧ ∃ (acc : List V) (y6 : Option V), σ = [some (iv n), some (iv p), some (.ref L), some (.int (1 + i)), some (.ref D), some (.ref u), y6] ∧ H' D = some (.lst acc) ∧ Paired (Row (del H' D)) acc ((B.take j).flatMap (ext p) ++ (ext p b).take m))
          ⟨sm2, acc, z6, rfl, hD, by rw [List.take_zero, List.append_nil]; exact hacc⟩ ?_ ?_
        · rintro m σ H3 hm ⟨sm3, acc3, w6, rfl, hD3, hacc3⟩
          have hu3 := sm3 _ _ hu
          have hal : acc3.length < 14641 := by
            rw [hacc3.length, List.length_append, List.length_take]
            unfold longer at bl2
            omega
          refine ⟨_, rfl, .inl ⟨rfl, _, SqL.of hD3⟩, _, rfl, _, rfl, (by show 1 ≤ sizeLine; decide), fun l nl => ?_⟩
          have nlD : D ≠ l := ne_of_none hD3 nl
          have nlu : u ≠ l := ne_of_none hu3 nl
          have blen : b.length ≤ 1000 := by omega
          refine ⟨u, l, _, _, rfl, rfl, by rw [upd_ne nlu]; exact hu3, upd_same, ?_, fun r nr => ?_⟩
          · exact Nat.le_of_lt (small_line (by simp; omega))
          have nrD : D ≠ r := ne_of_none (by rw [upd_ne nlD]; exact hD3) nr
          have sm4 : Same H3 (upd (upd H3 l (.lst [V.int (0 + (m : Int))])) r (.lst (b.map iv ++ [V.int (0 + (m : Int))]))) := (same_upd nl).trans (same_upd nr)
          refine ⟨D, acc3, _, rfl, rfl, sm4 _ _ hD3, small_line (by omega), ?_⟩
          refine ⟨same_set (sm3.trans sm4) nD, _, _, rfl, upd_same, ?_⟩
          have gm : (ext p b)[m]? = some (b ++ [m]) := by
            unfold ext
            rw [List.getElem?_map, List.getElem?_range (by omega)]
            rfl
          rw [take_more gm, ← List.append_assoc, del_upd]
          refine Paired.snoc (Paired.mono (fun v c => Row.mono (Same.del sm4)) hacc3) ⟨r, rfl, ?_⟩
          rw [del_ne nrD.symm, upd_same, rowO, List.map_append]
          simp only [Int.zero_add]
          rfl
        · rintro σ H3 ⟨sm3, acc3, w6, rfl, hD3, hacc3⟩
          refine ⟨sm3, acc3, _, _, rfl, hD3, ?_⟩
          rw [flt]
          rw [List.take_of_length_le (l := ext p b) (by omega)] at hacc3
          exact hacc3
      · rintro σ H2 ⟨sm2, acc, z5, z6, rfl, hD, hacc⟩
        refine ⟨_, rfl, ?_⟩
        rw [hp.length, List.take_length] at hacc
        refine ⟨sm.trans sm2, D, acc, _, _, _, _, rfl, hD, ?_⟩
        rw [iter_last, hB]
        exact Paired.mono (fun v c => Row.mono same_del) hacc
    · rintro σ H1 ⟨sm, L, xs, y3, y4, y5, y6, rfl, hL, hp⟩
      rw [show ((n : Int) - 1).toNat = n - 1 by omega] at hp
      obtain ⟨bl, bs⟩ := iter_ok p hp10 (n - 1)
      have p11 := pow11 (show n - 1 ≤ 4 by omega)
      refine ⟨_, rfl, L, rfl, ⟨_, SqL.of hL⟩, fun D nD => ?_⟩
      refine lc_it (walk_list (K := K) (a := L) (xs := xs)) (fun i H' => Same H1 H' ∧ ∃ acc, H' D = some (.lst acc) ∧ acc.length = i ∧ Paired (Row (del H' D)) acc (((iter p (n - 1) [[]]).map (fin p)).take i)) ?_ (fun i H' _ h => h.1.seq (SqL.of hL)) ?_ ?_
      · exact ⟨same_upd nD, [], upd_same, rfl, .nil⟩
      · rintro i x H2 H3 hi ⟨sm2, acc, hD, hl, hacc⟩ ⟨rfl, hx⟩
        obtain ⟨b, hb, u, rfl, hu⟩ := Paired.get hp hx
        have hu2 := sm2 _ _ hu
        have hbs := bs b (List.mem_of_getElem? hb)
        refine lc_yes rfl ?_
        refine ⟨_, rfl, _, rfl, _, rfl, u, castL b, rfl, SqL.of (by rw [← row_int]; exact hu2), _, _, rfl, rfl, (by show 1 ≤ sizeLine; decide), fun l nl => ?_⟩
        have nlD : D ≠ l := ne_of_none hD nl
        have nlu : u ≠ l := ne_of_none hu2 nl
        have blen : b.length ≤ 1000 := by omega
        refine ⟨u, l, _, _, rfl, rfl, by rw [upd_ne nlu]; exact hu2, upd_same, ?_, fun r nr => ?_⟩
        · exact Nat.le_of_lt (small_line (by simp; omega))
        have nrD : D ≠ r := ne_of_none (by rw [upd_ne nlD]; exact hD) nr
        have sm4 : Same H3 (upd (upd H3 l (.lst [V.int ((p : Int) - (castL b).sum)])) r (.lst (b.map iv ++ [V.int ((p : Int) - (castL b).sum)]))) := (same_upd nl).trans (same_upd nr)
        have hxl := hp.length
        refine ⟨acc, sm4 _ _ hD, small_line (by omega), same_set (sm2.trans sm4) nD, acc ++ [.ref r], upd_same, by simp [hl], ?_⟩
        have gm : ((iter p (n - 1) [[]]).map (fin p))[i]? = some (fin p b) := by
          rw [List.getElem?_map, hb]
          rfl
        rw [take_more gm, del_upd]
        refine Paired.snoc (Paired.mono (fun v c => Row.mono (Same.del sm4)) hacc) ⟨r, rfl, ?_⟩
        rw [del_ne nrD.symm, upd_same, rowO, fin, List.map_append]
        show some (HO.lst (b.map iv ++ [V.int ((p : Int) - (castL b).sum)])) = _
        rw [sum_cast]
        rw [show (p : Int) - (b.sum : Int) = ((p - b.sum : Nat) : Int) by omega]
        rfl
      · rintro H2 ⟨sm2, acc, hD, hl, hacc⟩
        have hxl := hp.length
        rw [List.take_of_length_le (by rw [List.length_map, hxl]; exact Nat.le_refl _)] at hacc
        exact q H2 D acc (sm.trans sm2) (Same.free sm nD) hD (Paired.mono (fun v c => Row.mono same_del) hacc)
end
end Pb

set_option Elab.async false
set_option linter.all false
set_option maxRecDepth 100000
set_option maxHeartbeats 4000000
namespace Pb
open PySem PySem.Spec PyProof.Rows L2
section
variable {P : Program} {w : World} {K : PySem.W.Frag} {mg : Str → Option Value} {base : Heap}
/-! ### rows as data -/
def intsD (c : List Nat) : List PyData := c.map fun (x : Nat) => PyData.int ((x : Nat) : Int)
def rowD (c : List Nat) : PyData := .list (intsD c)
theorem dp_ints {H : Hp} : ∀ c : List Nat, DpAll K H (c.map iv) (intsD c)
  | [] => .nil
  | x :: c => .cons (.int _) (dp_ints c)
theorem dp_row {H : Hp} {v : V} {c : List Nat} (h : Row H v c) : Dp K H v (rowD c) := by
  obtain ⟨q, rfl, h⟩ := h
  exact .lst (SqL.of h) (dp_ints c)
theorem dp_rows {H : Hp} : ∀ {xs : List V} {F : List (List Nat)}, Paired (Row H) xs F → DpAll K H xs (F.map rowD)
  | _, _, .nil => .nil
  | _, _, .cons r t => .cons (dp_row r) (dp_rows t)
theorem ints_lay : ∀ c : List Nat, PyData.canLayAll0 (intsD c) = true
  | [] => by simp [intsD, PyData.canLayAll0]
  | x :: c => by
    have := ints_lay c
    simp only [intsD, List.map_cons, PyData.canLayAll0, PyData.canLay0, Bool.true_and] at this ⊢
    exact this
theorem ints_depth : ∀ c : List Nat, PyData.depthAll (intsD c) = 0
  | [] => by simp [intsD, PyData.depthAll]
  | x :: c => by
    have := ints_depth c
    simp only [intsD, List.map_cons, PyData.depthAll, PyData.depth] at this ⊢
    omega
theorem rowD_lay (c : List Nat) : (rowD c).canLay0 = true := by
  simp only [rowD, PyData.canLay0]
  exact ints_lay c
theorem rowD_depth (c : List Nat) : (rowD c).depth = 1 := by
  simp only [rowD, PyData.depth, ints_depth]
theorem rowsD_lay : ∀ F : List (List Nat), PyData.canLayAll0 (F.map rowD) = true
  | [] => by simp [PyData.canLayAll0]
  | c :: F => by simp [PyData.canLayAll0, rowD_lay c, rowsD_lay F]
theorem rowsD_depth : ∀ F : List (List Nat), PyData.depthAll (F.map rowD) ≤ 1
  | [] => by simp [PyData.depthAll]
  | c :: F => by
    have h1 := rowsD_depth F
    have h2 := rowD_depth c
    simp only [List.map_cons, PyData.depthAll]
    omega
theorem rowD_shaped (c : List Nat) : SeqAt.shaped (rowD c) = true := by
  have h := rowD_depth c
  show ((rowD c).canLay0 && decide ((rowD c).depth ≤ 64)) = true
  rw [Bool.and_eq_true]
  exact ⟨rowD_lay c, decide_eq_true (by omega)⟩
theorem rowsD_shaped (F : List (List Nat)) : SeqAt.shaped (.list (F.map rowD)) = true := by
  have h1 := rowsD_depth F
  have h2 : PyData.depth (.list (F.map rowD)) ≤ 64 := by
    simp only [PyData.depth]
    omega
  show (PyData.canLay0 (.list (F.map rowD)) && decide (PyData.depth (.list (F.map rowD)) ≤ 64)) = true
  rw [Bool.and_eq_true]
  exact ⟨by simp only [PyData.canLay0]; exact rowsD_lay F, decide_eq_true h2⟩
theorem ints_eqv : ∀ a b : List Nat, PyData.eqvAll (intsD a) (intsD b) = decide (a = b)
  | [], [] => by simp [intsD, PyData.eqvAll]
  | [], y :: b => by simp [intsD, PyData.eqvAll]
  | x :: a, [] => by simp [intsD, PyData.eqvAll]
  | x :: a, y :: b => by
    have ih := ints_eqv a b
    simp only [intsD] at ih
    simp only [intsD, List.map_cons, PyData.eqvAll, PyData.eqv, ih]
    rw [Bool.eq_iff_iff]
    simp only [Bool.and_eq_true, beq_iff_eq, decide_eq_true_eq, List.cons.injEq]
    exact and_congr ⟨fun h => by omega, fun h => by omega⟩ Iff.rfl
theorem rowD_eqv (a b : List Nat) : PyData.eqv (rowD a) (rowD b) = decide (a = b) := by
  simp only [rowD, PyData.eqv, ints_eqv]
theorem any_contains (F : List (List Nat)) (c : List Nat) : ((F.map rowD).any fun z => PyData.eqv z (rowD c)) = F.contains c := by
  rw [Bool.eq_iff_iff]
  simp only [List.any_eq_true, List.mem_map, List.contains_iff_mem]
  constructor
  · rintro ⟨z, ⟨d, hd, rfl⟩, e⟩
    rw [rowD_eqv] at e
    rw [← of_decide_eq_true e]
    exact hd
  · intro h
    exact ⟨_, ⟨c, h, rfl⟩, by rw [rowD_eqv]; exact decide_eq_true rfl⟩
theorem row_get {c : List Nat} {a : Nat} (h : a < c.length) : (c.map iv)[a]? = some (iv (c.getD a 0)) := by
  rw [List.getElem?_map, List.getD_eq_getElem?_getD, List.getElem?_eq_getElem h]
  rfl
/-! ### after_move -/
def spAfter : Sp := fun vs H Q _ => ∃ (r : Addr) (a b : Nat) (c : List Nat), vs = [.ref r, iv a, iv b] ∧ H r = some (rowO c) ∧ a < c.length ∧ b < c.length ∧ 2 ≤ c.getD a 0 ∧
  ∀ (H' : Hp) (q : Addr), Same H H' → H q = none → H' q = some (rowO (afterMove c a b)) → Q (.ref q) H'
theorem ok_after {f : Addr} {fd : FuncData} {k : Nat} (F : Fun K "after_move" "after_move" sAfter f fd) (ml : mg "list" = none) : FnOk P w K mg base CX0 (k + 1) f fd pAfter spAfter := by
  refine F.ok scAfter (fun vs H Q E h => ?_) (fun cdv A outer s H vs Q E hr h => ?_)
  · obtain ⟨r, a, b, c, rfl, _⟩ := h
    rfl
  · obtain ⟨r, a, b, c, rfl, hR, ha, hb, h2, q⟩ := h
    refine ⟨_, pss_cons (ps_set (i := 3) scAfter.nd rfl (Or.inl rfl) (pe_callTy call_list_of (by rfl) ml (by decide +kernel) (pa_cons (pv 0) pa_nil)))
      (pss_cons (ps_asg (pe_op op_sub (pe_ix ix_list (pv 3) (pv 1) (fun _ _ => rfl)) pe_int) (pg_sub (pv 3) (pv 1) set_list))
      (pss_cons (ps_asg (pe_op op_add (pe_ix ix_list (pv 3) (pv 2) (fun _ _ => rfl)) pe_int) (pg_sub (pv 3) (pv 2) set_list))
      (pss_one (ps_ret (pv 3))))), ?_⟩
    refine ⟨_, rfl, r, _, rfl, .inl (SqL.of hR), fun l nl => ?_⟩
    have e1 : (c.map iv).set a (V.int ((c.getD a 0 : Nat) - 2)) = (c.set a (c.getD a 0 - 2)).map iv := by
      rw [List.map_set]
      congr 2
      omega
    refine ⟨_, rfl, _, rfl, l, _, _, _, rfl, rfl, SqL.of upd_same, atI_nat (row_get ha), _, _, rfl, rfl, _, rfl, _, rfl, l, _, _, a, rfl, rfl, upd_same, ixN_nat (by simpa using ha), ?_⟩
    rw [upd_upd, e1]
    have hb2 : b < (c.set a (c.getD a 0 - 2)).length := by simpa using hb
    have e2 : ((c.set a (c.getD a 0 - 2)).map iv).set b (V.int (((c.set a (c.getD a 0 - 2)).getD b 0 : Nat) + 1)) = (afterMove c a b).map iv := by
      unfold afterMove
      generalize c.set a (c.getD a 0 - 2) = d
      rw [List.map_set]
      rfl
    refine ⟨_, rfl, _, rfl, l, _, _, _, rfl, rfl, SqL.of upd_same, atI_nat (row_get hb2), _, _, rfl, rfl, _, rfl, _, rfl, l, _, _, b, rfl, rfl, upd_same, ixN_nat (by simpa using hb2), ?_⟩
    rw [upd_upd, e2]
    exact ⟨_, rfl, q _ l (same_upd nl) nl upd_same⟩
/-! ### is_unsolvable -/
def unsStep (c : List Nat) (F : List (List Nat)) (s : Nat × Nat) : Bool := decide (c.getD s.1 0 < 2) || F.contains (afterMove c s.1 s.2)
def spIsUns : Sp := fun vs H Q _ => ∃ (r s f : Addr) (t : Nat) (c : List Nat) (S : List (Nat × Nat)) (xs ys : List V) (F : List (List Nat)), vs = [.ref r, iv t, .ref s, .ref f] ∧ H r = some (rowO c) ∧ t < c.length ∧
  H s = some (.lst xs) ∧ Paired (Pair H) xs (S.map castP) ∧ (∀ z ∈ S, z.1 < c.length ∧ z.2 < c.length) ∧ H f = some (.lst ys) ∧ Paired (Row H) ys F ∧
  ∀ (H' : Hp), Same H H' → Q (.bl (isUns t S F c)) H'
theorem ok_isUns {f fA : Addr} {fd fdA : FuncData} {k : Nat} (F : Fun K "is_unsolvable" "is_unsolvable" sIsUns f fd)
    (GA : FnOk P w K mg base CX0 (k + 1) fA fdA pAfter spAfter) (gA : mg "after_move" = some (.ref fA)) (kA : PySem.W.keepIn K (.ref fA) = true) (bA : Binds K fdA pAfter []) :
    FnOk P w K mg base CX0 (k + 2) f fd pIsUns spIsUns := by
  refine F.ok scIsUns (fun vs H Q E h => ?_) (fun cdv A outer s H vs Q E hr h => ?_)
  · obtain ⟨r, s, f, t, c, S, xs, ys, F, rfl, _⟩ := h
    rfl
  · obtain ⟨r, sa, fa, t, c, S, xs, ys, F, rfl, hR, ht, hs, hp, hb, hf, hF, q⟩ := h
    refine ⟨_, pss_cons (ps_if (pt_cmpR op_gt (pe_ix ix_list (pv 0) (pv 1) (fun _ _ => rfl)) pe_int (nomark _)) (pss_one (ps_ret pe_bl)) pss_nil)
      (pss_cons (ps_for PassesOwn.never rfl (pi_list (pv 2)) (pg_tup rfl (pgs_cons (pg_name (i := 4) scIsUns.nd rfl (Or.inl rfl)) (pgs_cons (pg_name (i := 5) scIsUns.nd rfl (Or.inl rfl)) pgs_nil)))
        (pss_one (ps_if (PW.pt (pw_and (pt_cmpR op_ge (pe_ix ix_list (pv 0) (pv 4) (fun _ _ => rfl)) pe_int (nomark _))
          (pw_and1 (pt_cmpR (op_notInD (room65 hr)) (pe_call GA hr (by rfl) gA kA bA .nil pass0 (pa_cons (pv 0) (pa_cons (pv 4) (pa_cons (pv 5) pa_nil)))) (pv 3) (by rfl))))) (pss_one (ps_ret pe_bl)) pss_nil)))
      (pss_one (ps_ret pe_bl))), ?_⟩
    refine ⟨_, rfl, _, rfl, r, _, _, _, rfl, rfl, SqL.of hR, atI_nat (row_get ht), _, _, rfl, rfl, _, rfl, ite2 (fun (z : decide ((0 : Int) < ((c.getD t 0 : Nat) : Int)) = true) => ?_) (fun (z : ¬ decide ((0 : Int) < ((c.getD t 0 : Nat) : Int)) = true) => ?_)⟩
    · have z' := of_decide_eq_true z
      have : isUns t S F c = false := by
        unfold isUns
        rw [decide_eq_false (by omega), Bool.false_and]
      show Q (.bl false) H
      rw [← this]
      exact q H (Same.refl H)
    · have z' : c.getD t 0 = 0 := by
        have : ¬ ((0 : Int) < ((c.getD t 0 : Nat) : Int)) := fun y => z (decide_eq_true y)
        omega
      have eu : isUns t S F c = S.all (unsStep c F) := by
        unfold isUns
        rw [decide_eq_true z', Bool.true_and]
        rfl
      refine ⟨_, rfl, sa, rfl, ⟨_, SqL.of hs⟩, for_list (K := K) (a := sa) (xs := xs) (fun j σ H' => Same H H' ∧ ∃ (y4 y5 : Option V), σ = [some (.ref r), some (iv t), some (.ref sa), some (.ref fa), y4, y5] ∧ S.all (unsStep c F) = (S.drop j).all (unsStep c F))
        ⟨Same.refl H, none, none, rfl, rfl⟩ (fun j σ H' _ h => h.1.seq (SqL.of hs)) ?_ ?_⟩
      · rintro j x σ H1 hx ⟨sm, y4, y5, rfl, ea⟩
        obtain ⟨cp, hcp, u, rfl, hu⟩ := Paired.get hp hx
        rw [List.getElem?_map] at hcp
        obtain ⟨p, hpj, rfl⟩ : ∃ p, S[j]? = some p ∧ castP p = cp := by
          cases e : S[j]? with
          | none => rw [e] at hcp; cases hcp
          | some p => rw [e] at hcp; exact ⟨p, rfl, Option.some.inj hcp⟩
        have bnd := hb p (List.mem_of_getElem? hpj)
        rw [drop_get hpj, List.all_cons] at ea
        refine ⟨u, _, rfl, SqT.of (sm _ _ hu), rfl, _, _, rfl, _, _, rfl, rfl, ?_⟩
        refine ⟨_, rfl, _, rfl, r, _, _, _, rfl, rfl, SqL.of (sm _ _ hR), atI_nat (row_get bnd.1), _, _, rfl, rfl, _, rfl, ite2 (fun (z : decide ((2 : Int) ≤ ((c.getD p.1 0 : Nat) : Int)) = true) => ?_) (fun (z : ¬ decide ((2 : Int) ≤ ((c.getD p.1 0 : Nat) : Int)) = true) => ?_)⟩
        · have z' := of_decide_eq_true z
          refine ⟨_, rfl, _, rfl, _, rfl, r, p.1, p.2, c, rfl, sm _ _ hR, bnd.1, bnd.2, by omega, fun H2 m sm2 nm hm => ?_⟩
          have sm3 := sm.trans sm2
          refine ⟨_, rfl, rowD (afterMove c p.1 p.2), F.map rowD, dp_row ⟨m, rfl, hm⟩, .lst (SqL.of (sm3 _ _ hf)) (dp_rows (Paired.mono (fun v c => Row.mono sm3) hF)), rowD_shaped _, rowsD_shaped _, _, rfl, ?_⟩
          rw [any_contains]
          have ez : unsStep c F p = F.contains (afterMove c p.1 p.2) := by
            unfold unsStep
            rw [decide_eq_false (by omega), Bool.false_or]
          rw [ez] at ea
          cases hcn : F.contains (afterMove c p.1 p.2) with
          | true =>
            refine iteF ?_
            rw [hcn, Bool.true_and] at ea
            exact ⟨sm3, _, _, rfl, ea⟩
          | false =>
            refine iteT ?_
            rw [hcn, Bool.false_and] at ea
            show Q (.bl false) H2
            rw [← ea, ← eu]
            exact q H2 sm3
        · refine iteF ?_
          have ez : unsStep c F p = true := by
            unfold unsStep
            rw [decide_eq_true (show c.getD p.1 0 < 2 by
              have : ¬ ((2 : Int) ≤ ((c.getD p.1 0 : Nat) : Int)) := fun y => z (decide_eq_true y)
              omega), Bool.true_or]
          rw [ez, Bool.true_and] at ea
          exact ⟨sm, _, _, rfl, ea⟩
      · rintro σ H1 ⟨sm, y4, y5, rfl, ea⟩
        have hxl := hp.length
        rw [List.length_map] at hxl
        rw [hxl, List.drop_length, List.all_nil] at ea
        show Q (.bl true) H1
        rw [← ea, ← eu]
        exact q H1 sm
end
end Pb

set_option Elab.async false
set_option linter.all false
set_option maxRecDepth 100000
set_option maxHeartbeats 4000000
namespace Pb
open PySem PySem.Spec PyProof.Rows L2
section
variable {P : Program} {w : World} {K : PySem.W.Frag} {mg : Str → Option Value} {base : Heap}
theorem take_filter {α : Type} (f : α → Bool) {l : List α} {j : Nat} {b : α} (h : l[j]? = some b) : (l.take (j + 1)).filter f = (l.take j).filter f ++ if f b = true then [b] else [] := by
  rw [take_more h, List.filter_append]
  simp only [List.filter_cons, List.filter_nil]
theorem confs_len {n p : Nat} (hn : n ≤ 5) (hp : p ≤ 10) : (confs n p).length ≤ 14641 := by
  unfold confs
  rw [List.length_map]
  have h1 := (iter_ok p hp (n - 1)).1
  have h2 := pow11 (show n - 1 ≤ 4 by omega)
  omega
def spUnsWith : Sp := fun vs H Q _ => ∃ (p n t : Nat) (s f : Addr) (S : List (Nat × Nat)) (xs ys : List V) (F : List (List Nat)), vs = [iv p, iv n, iv t, .ref s, .ref f] ∧ n ≤ 5 ∧ p ≤ 10 ∧ t < n ∧
  H s = some (.lst xs) ∧ Paired (Pair H) xs (S.map castP) ∧ (∀ z ∈ S, z.1 < n ∧ z.2 < n) ∧ H f = some (.lst ys) ∧ Paired (Row H) ys F ∧
  ∀ (H' : Hp) (q : Addr) (zs : List V), Same H H' → H q = none → H' q = some (.lst zs) → Paired (Row H') zs ((confs n p).filter (isUns t S F)) → Q (.ref q) H'
theorem ok_unsWith {f fC fI : Addr} {fd fdC fdI : FuncData} {k : Nat} (F : Fun K "unsolvable_with" "unsolvable_with" sUnsWith f fd)
    (GC : FnOk P w K mg base CX0 (k + 1) fC fdC pConf spConf) (gC : mg "configurations" = some (.ref fC)) (kC : PySem.W.keepIn K (.ref fC) = true) (bC : Binds K fdC pConf [])
    (GI : FnOk P w K mg base CX0 (k + 2) fI fdI pIsUns spIsUns) (gI : mg "is_unsolvable" = some (.ref fI)) (kI : PySem.W.keepIn K (.ref fI) = true) (bI : Binds K fdI pIsUns []) :
    FnOk P w K mg base CX0 (k + 3) f fd pUnsWith spUnsWith := by
  refine F.ok scUnsWith (fun vs H Q E h => ?_) (fun cdv A outer s H vs Q E hr h => ?_)
  · obtain ⟨p, n, t, s, f, S, xs, ys, F, rfl, _⟩ := h
    rfl
  · obtain ⟨p, n, t, sa, fa, S, xs, ys, F, rfl, hn5, hp10, ht, hs, hp, hb, hf, hF, q⟩ := h
    have hr1 : Room (k + 1) _ := hr.mono (by omega)
    refine ⟨_, pss_cons (ps_set (i := 5) scUnsWith.nd rfl (Or.inl rfl) (pe_call GC hr1 (by rfl) gC kC bC .nil pass0 (pa_cons (pv 1) (pa_cons (pv 0) pa_nil))))
      (pss_one (ps_ret (pe_lc (own := [("placing", 6)]) (g := gName 6) (tt := tB (tCall spIsUns [] E0 (tCons (tVar 6) (tCons (tVar 2) (tCons (tVar 3) (tCons (tVar 4) tNil)))))) rfl scUnsWith.nd (pi_list (pv 5)) (blkOk_by (N := nUnsWith) (sc := defScope sUnsWith) (by decide +kernel))
        (fun _ _ _ _ _ => pg_name (i := 6) scUnsWith.nd rfl (Or.inl rfl)) (fun _ _ _ _ _ => pts_one (pt_val (pe_call GI hr (by rfl) gI kI bI .nil pass0 (pa_cons (pv 6) (pa_cons (pv 2) (pa_cons (pv 3) (pa_cons (pv 4) pa_nil)))))))
        (fun _ _ _ _ _ => pv 6)))), ?_⟩
    refine ⟨_, rfl, _, rfl, n, p, rfl, hn5, hp10, fun H1 L zs sm nL hL hz => ?_⟩
    have cl := confs_len hn5 hp10
    have cmem : ∀ c ∈ confs n p, c.length = n := fun c hc => by
      rw [confs_is (by omega)] at hc
      exact ((conf_mem _ _ _).mp hc).1
    refine ⟨_, rfl, L, rfl, ⟨_, SqL.of hL⟩, fun D nD => ?_⟩
    refine lc_it (walk_list (K := K) (a := L) (xs := zs)) (fun i H' => Same H1 H' ∧ ∃ acc, H' D = some (.lst acc) ∧ Paired (Row (del H' D)) acc (((confs n p).take i).filter (isUns t S F))) ?_ (fun i H' _ h => h.1.seq (SqL.of hL)) ?_ ?_
    · exact ⟨same_upd nD, [], upd_same, .nil⟩
    · rintro i x H2 H3 hi ⟨sm2, acc, hD, hacc⟩ ⟨rfl, hx⟩
      obtain ⟨c, hc, u, rfl, hu⟩ := Paired.get hz hx
      have hlc := cmem c (List.mem_of_getElem? hc)
      have sm02 := sm.trans sm2
      have hal : acc.length ≤ 14641 := by
        rw [hacc.length]
        refine Nat.le_trans (List.length_filter_le _ _) ?_
        rw [List.length_take]
        omega
      refine ⟨rfl, _, rfl, _, rfl, _, rfl, _, rfl, u, sa, fa, t, c, S, xs, ys, F, rfl, sm2 _ _ hu, by omega, sm02 _ _ hs, Paired.mono (fun v c => Pair.mono sm02) hp, fun z hz => by rw [hlc]; exact hb z hz, sm02 _ _ hf, Paired.mono (fun v c => Row.mono sm02) hF, fun H4 sm4 => ⟨_, rfl, ?_⟩⟩
      have hD4 := sm4 _ _ hD
      have tf := take_filter (isUns t S F) hc
      have sm24 := sm2.trans sm4
      cases hu2 : isUns t S F c with
      | true =>
        refine iteT ⟨_, rfl, acc, hD4, small_line (by omega), same_set sm24 nD, _, upd_same, ?_⟩
        rw [tf, hu2, if_pos rfl, del_upd]
        refine Paired.snoc (Paired.mono (fun v c => Row.mono (Same.del sm4)) hacc) ⟨u, rfl, ?_⟩
        rw [del_ne (ne_of_none hu nD)]
        exact sm24 _ _ hu
      | false =>
        refine iteF ⟨sm24, acc, hD4, ?_⟩
        rw [tf, hu2, if_neg (by decide), List.append_nil]
        exact Paired.mono (fun v c => Row.mono (Same.del sm4)) hacc
    · rintro H2 ⟨sm2, acc, hD, hacc⟩
      rw [List.take_of_length_le (by rw [hz.length]; exact Nat.le_refl _)] at hacc
      exact q H2 D acc (sm.trans sm2) (Same.free sm nD) hD (Paired.mono (fun v c => Row.mono same_del) hacc)
/-! ### without pebbles -/
def spWithout : Sp := fun vs H Q _ => ∃ (n : Nat), vs = [iv n] ∧ n ≤ 5 ∧ 0 < n ∧
  ∀ (H' : Hp) (q : Addr) (xs : List V), Same H H' → H q = none → H' q = some (.lst xs) → Paired (Row H') xs [List.replicate n 0] → Q (.ref q) H'
theorem ok_without {f fC : Addr} {fd fdC : FuncData} {k : Nat} (F : Fun K "unsolvable_without_pebbles" "unsolvable_without_pebbles" sWithout f fd)
    (GC : FnOk P w K mg base CX0 (k + 1) fC fdC pConf spConf) (gC : mg "configurations" = some (.ref fC)) (kC : PySem.W.keepIn K (.ref fC) = true) (bC : Binds K fdC pConf []) :
    FnOk P w K mg base CX0 (k + 2) f fd pWithout spWithout := by
  refine F.ok scWithout (fun vs H Q E h => ?_) (fun cdv A outer s H vs Q E hr h => ?_)
  · obtain ⟨n, rfl, _⟩ := h
    rfl
  · obtain ⟨n, rfl, hn5, hn, q⟩ := h
    refine ⟨_, pss_one (ps_ret (pe_call GC hr (by rfl) gC kC bC .nil pass0 (pa_cons (pv 0) (pa_cons pe_int pa_nil)))), ?_⟩
    refine ⟨_, rfl, n, 0, rfl, hn5, by omega, fun H1 L xs sm nL hL hz => q H1 L xs sm nL hL ?_⟩
    rw [confs_is hn, conf_nought] at hz
    exact hz
end
end Pb

set_option Elab.async false
set_option linter.all false
set_option maxRecDepth 100000
set_option maxHeartbeats 4000000
namespace Pb
open PySem PySem.Spec PyProof.Rows L2
section
variable {P : Program} {w : World} {K : PySem.W.Frag} {mg : Str → Option Value} {base : Heap}
/-! ### the refusal of a target -/
def tRef (n t : Int) (ns : List Int) : Option Int := match refusal n ns with
  | some r => some r
  | none => if n ≤ t then some (-2) else none
theorem tRef_none {n t : Int} {ns : List Int} (h : tRef n t ns = none) : refusal n ns = none ∧ t < n := by
  unfold tRef at h
  split at h
  · cases h
  · rename_i e
    split at h
    · cases h
    · exact ⟨e, by omega⟩
def spTRef (K : PySem.W.Frag) : Sp := fun vs H Q _ => ∃ (n t : Int) (a : Addr) (ns : List Int), vs = [.int n, .int t, .ref a] ∧ SqL K H a (ns.map V.int) ∧ ns.length ≤ 22 ∧ 0 ≤ n ∧ (∀ x ∈ ns, 0 ≤ x) ∧
  ∀ (H' : Hp), Same H H' → Q (rV (tRef n t ns)) H'
theorem ok_tRef {f fR : Addr} {fd fdR : FuncData} {k : Nat} {t1 : Tok} (F : Fun K "target_refusal" "target_refusal" sTRef f fd)
    (GR : FnOk P w K mg base CX0 (k + 6) fR fdR pRefusal (spRefusal K)) (gR : mg "graph_refusal" = some (.ref fR)) (kR : PySem.W.keepIn K (.ref fR) = true) (bR : Binds K fdR pRefusal [])
    (m1 : mg "NO_SUCH_TARGET" = some (.int (-2) t1)) : FnOk P w K mg base CX0 (k + 7) f fd pTRef (spTRef K) := by
  refine F.ok scTRef (fun vs H Q E h => ?_) (fun cdv A outer s H vs Q E hr h => ?_)
  · obtain ⟨n, t, a, ns, rfl, _⟩ := h
    rfl
  · obtain ⟨n, t, a, ns, rfl, hS, hlen, hn, h0, q⟩ := h
    refine ⟨_, pss_cons (ps_set (i := 3) scTRef.nd rfl (Or.inl rfl) (pe_call GR hr (by rfl) gR kR bR .nil pass0 (pa_cons (pv 0) (pa_cons (pv 2) pa_nil))))
      (pss_cons (ps_if (PW.pt (pw_and (pt_cmpR op_isN (pv 3) pe_non (nomark _)) (pw_and1 (pt_cmpR op_ge (pv 1) (pv 0) (nomark _))))) (pss_one (ps_ret (pe_glob (v := .int (-2)) rfl m1 ⟨_, rfl⟩))) pss_nil)
      (pss_one (ps_ret (pv 3)))), ?_⟩
    refine ⟨_, rfl, _, rfl, n, a, ns, rfl, hS, hlen, hn, h0, fun H1 s1 => ⟨_, rfl, rfl, _, rfl, ?_⟩⟩
    unfold tRef at q
    cases hrf : refusal n ns with
    | some r =>
      rw [hrf] at q
      exact iteF ⟨_, rfl, q H1 s1⟩
    | none =>
      rw [hrf] at q
      simp only at q
      refine iteT ?_
      refine ⟨_, rfl, _, rfl, _, _, rfl, rfl, _, rfl, ite2 (fun (z : decide (n ≤ t) = true) => ?_) (fun (z : ¬ decide (n ≤ t) = true) => ?_)⟩
      · rw [if_pos (of_decide_eq_true z)] at q
        exact q H1 s1
      · rw [if_neg (fun y => z (decide_eq_true y))] at q
        exact ⟨_, rfl, q H1 s1⟩
end
end Pb

set_option Elab.async false
set_option linter.all false
set_option maxRecDepth 100000
set_option maxHeartbeats 4000000
namespace Pb
open PySem PySem.Spec PyProof.Rows L2
section
variable {P : Program} {w : World} {K : PySem.W.Frag} {mg : Str → Option Value} {base : Heap}
/-! ### all that is unsolvable -/
def spAll (K : PySem.W.Frag) : Sp := fun vs H Q _ => ∃ (n t p : Nat) (a : Addr) (ns : List Int) (es : List (Nat × Nat)), vs = [iv n, iv t, iv p, .ref a] ∧ SqL K H a (ns.map V.int) ∧ ns.length ≤ 22 ∧
  pairs ns = es.map castP ∧ Bd n es ∧ n ≤ 5 ∧ t < n ∧ p ≤ 10 ∧
  ∀ (H' : Hp) (q : Addr) (zs : List V), Same H H' → H' q = some (.lst zs) → Paired (Row H') zs (uns n t (stepsOf es) p) → Q (.ref q) H'
theorem ok_all {f fS fW fU : Addr} {fd fdS fdW fdU : FuncData} {k : Nat} (F : Fun K "all_unsolvable" "all_unsolvable" sAll f fd) (mr : mg "range" = none)
    (GS : FnOk P w K mg base CX0 (k + 2) fS fdS pStepsOf (spStepsOf K)) (gS : mg "steps_of" = some (.ref fS)) (kS : PySem.W.keepIn K (.ref fS) = true) (bS : Binds K fdS pStepsOf [])
    (GW : FnOk P w K mg base CX0 (k + 2) fW fdW pWithout spWithout) (gW : mg "unsolvable_without_pebbles" = some (.ref fW)) (kW : PySem.W.keepIn K (.ref fW) = true) (bW : Binds K fdW pWithout [])
    (GU : FnOk P w K mg base CX0 (k + 3) fU fdU pUnsWith spUnsWith) (gU : mg "unsolvable_with" = some (.ref fU)) (kU : PySem.W.keepIn K (.ref fU) = true) (bU : Binds K fdU pUnsWith []) :
    FnOk P w K mg base CX0 (k + 4) f fd pAll (spAll K) := by
  refine F.ok scAll (fun vs H Q E h => ?_) (fun cdv A outer s H vs Q E hr h => ?_)
  · obtain ⟨n, t, p, a, ns, es, rfl, _⟩ := h
    rfl
  · obtain ⟨n, t, p, a, ns, es, rfl, hS, hlen, hes, hb, hn5, ht, hp10, q⟩ := h
    have hr2 : Room (k + 2) _ := hr.mono (by omega)
    refine ⟨_, pss_cons (ps_set (i := 4) scAll.nd rfl (Or.inl rfl) (pe_call GS hr2 (by rfl) gS kS bS .nil pass0 (pa_cons (pv 3) pa_nil)))
      (pss_cons (ps_set (i := 5) scAll.nd rfl (Or.inl rfl) (pe_call GW hr2 (by rfl) gW kW bW .nil pass0 (pa_cons (pv 0) pa_nil)))
      (pss_cons (ps_for PassesOwn.never rfl (pi_range2 (by rfl) mr (pa_cons pe_int (pa_cons (pe_op op_add (pv 2) pe_int) pa_nil))) (pg_name (i := 6) scAll.nd rfl (Or.inl rfl))
        (pss_one (ps_set (i := 5) scAll.nd rfl (Or.inl rfl) (pe_call GU hr (by rfl) gU kU bU .nil pass0 (pa_cons (pv 6) (pa_cons (pv 0) (pa_cons (pv 1) (pa_cons (pv 4) (pa_cons (pv 5) pa_nil)))))))))
      (pss_one (ps_ret (pv 5))))), ?_⟩
    refine ⟨.ref a, rfl, a, ns, rfl, hS, hlen, fun H1 L xs sm nL hL hp => ?_⟩
    rw [pairs_steps hes] at hp
    refine ⟨_, rfl, n, rfl, hn5, by omega, fun H2 u zs0 smA nu hu hz0 => ?_⟩
    refine ⟨_, rfl, _, _, rfl, rfl, 1, _, rfl, ⟨by omega, by omega, by omega, by omega⟩, ?_⟩
    refine for_range (lo := 1) (n := ((p : Int) + 1 - 1).toNat) (fun i σ H' => Same H1 H' ∧ ∃ (U : Addr) (zs : List V) (y6 : Option V), σ = [some (iv n), some (iv t), some (iv p), some (.ref a), some (.ref L), some (.ref U), y6] ∧ H' U = some (.lst zs) ∧ Paired (Row H') zs (uns n t (stepsOf es) i))
      ⟨smA, u, zs0, none, rfl, hu, hz0⟩ ?_ ?_
    · rintro i σ H3 hi ⟨sm3, U, zs, y6, rfl, hU, hz⟩
      have hi' : i + 1 ≤ 10 := by omega
      refine ⟨_, rfl, _, rfl, _, rfl, _, rfl, _, rfl, i + 1, n, t, L, U, stepsOf es, xs, zs, uns n t (stepsOf es) i, (by rw [show (1 : Int) + (i : Int) = ((i + 1 : Nat) : Int) by omega]; rfl), hn5, hi', ht, sm3 _ _ hL, Paired.mono (fun v c => Pair.mono sm3) hp, fun z hz => ⟨(steps_lt hb hz).1, (steps_lt hb hz).2.1⟩, hU, hz, fun H4 U3 zs3 sm4 nU3 hU3 hz3 => ?_⟩
      exact ⟨sm3.trans sm4, U3, zs3, _, rfl, hU3, hz3⟩
    · rintro σ H3 ⟨sm3, U, zs, y6, rfl, hU, hz⟩
      rw [show ((p : Int) + 1 - 1).toNat = p by omega] at hz
      exact ⟨_, rfl, q H3 U zs (sm.trans sm3) hU hz⟩
/-! ### the refusal of a placing -/
def pRef (n t p : Int) (ns : List Int) : Option Int := match tRef n t ns with
  | some r => some r
  | none => if 10 < p then some (-22) else none
theorem pRef_none {n t p : Int} {ns : List Int} (h : pRef n t p ns = none) : tRef n t ns = none ∧ p ≤ 10 := by
  unfold pRef at h
  split at h
  · cases h
  · rename_i e
    split at h
    · cases h
    · exact ⟨e, by omega⟩
def spPRef (K : PySem.W.Frag) : Sp := fun vs H Q _ => ∃ (n t p : Int) (a : Addr) (ns : List Int), vs = [.int n, .int t, .int p, .ref a] ∧ SqL K H a (ns.map V.int) ∧ ns.length ≤ 22 ∧ 0 ≤ n ∧ (∀ x ∈ ns, 0 ≤ x) ∧
  ∀ (H' : Hp), Same H H' → Q (rV (pRef n t p ns)) H'
theorem ok_pRef {f fR : Addr} {fd fdR : FuncData} {k : Nat} {t1 t2 : Tok} (F : Fun K "placing_refusal" "placing_refusal" sPRef f fd)
    (GR : FnOk P w K mg base CX0 (k + 7) fR fdR pTRef (spTRef K)) (gR : mg "target_refusal" = some (.ref fR)) (kR : PySem.W.keepIn K (.ref fR) = true) (bR : Binds K fdR pTRef [])
    (m1 : mg "OUTSIDE_LIMITS" = some (.int (-22) t1)) (m2 : mg "MOST_PEBBLES" = some (.int 10 t2)) : FnOk P w K mg base CX0 (k + 8) f fd pPRef (spPRef K) := by
  refine F.ok scPRef (fun vs H Q E h => ?_) (fun cdv A outer s H vs Q E hr h => ?_)
  · obtain ⟨n, t, p, a, ns, rfl, _⟩ := h
    rfl
  · obtain ⟨n, t, p, a, ns, rfl, hS, hlen, hn, h0, q⟩ := h
    refine ⟨_, pss_cons (ps_set (i := 4) scPRef.nd rfl (Or.inl rfl) (pe_call GR hr (by rfl) gR kR bR .nil pass0 (pa_cons (pv 0) (pa_cons (pv 1) (pa_cons (pv 3) pa_nil)))))
      (pss_cons (ps_if (PW.pt (pw_and (pt_cmpR op_isN (pv 4) pe_non (nomark _)) (pw_and1 (pt_cmpR op_gt (pv 2) (pe_glob (v := .int 10) rfl m2 ⟨_, rfl⟩) (nomark _))))) (pss_one (ps_ret (pe_glob (v := .int (-22)) rfl m1 ⟨_, rfl⟩))) pss_nil)
      (pss_one (ps_ret (pv 4)))), ?_⟩
    refine ⟨_, rfl, _, rfl, _, rfl, n, t, a, ns, rfl, hS, hlen, hn, h0, fun H1 s1 => ⟨_, rfl, rfl, _, rfl, ?_⟩⟩
    unfold pRef at q
    cases hrf : tRef n t ns with
    | some r =>
      rw [hrf] at q
      exact iteF ⟨_, rfl, q H1 s1⟩
    | none =>
      rw [hrf] at q
      simp only at q
      refine iteT ?_
      refine ⟨_, rfl, _, _, rfl, rfl, _, rfl, ite2 (fun (z : decide (10 < p) = true) => ?_) (fun (z : ¬ decide (10 < p) = true) => ?_)⟩
      · rw [if_pos (of_decide_eq_true z)] at q
        exact q H1 s1
      · rw [if_neg (fun y => z (decide_eq_true y))] at q
        exact ⟨_, rfl, q H1 s1⟩
end
end Pb

set_option Elab.async false
set_option linter.all false
set_option maxRecDepth 100000
set_option maxHeartbeats 4000000
namespace Pb
open PySem PySem.Spec PyProof.Rows L2
section
variable {P : Program} {w : World} {K : PySem.W.Frag} {mg : Str → Option Value} {base : Heap}
/-! ### the answer -/
theorem refusal_some {n : Int} {ns : List Int} {r : Int} (h : refusal n ns = some r) (f : Ks577.Graph → Ks578.Result) : Ks578.withSmallDiameter n.toNat (ns.map Int.toNat) f = Ks578.number r := by
  unfold refusal at h
  unfold Ks578.withSmallDiameter Ks577.withGraph
  split at h
  · rename_i e
    rw [e, ← Option.some.inj h]
    rfl
  · rename_i g e
    rw [e]
    simp only
    split at h
    · rename_i c
      rw [if_pos c, ← Option.some.inj h]
    · rename_i c
      rw [if_neg c]
      split at h
      · rename_i c2
        rw [if_pos c2, ← Option.some.inj h]
      · cases h
theorem refusal_none {n : Int} {ns : List Int} (hn : 0 ≤ n) (h0 : ∀ x ∈ ns, 0 ≤ x) (h : refusal n ns = none) : ∃ (m : Nat) (es : List (Nat × Nat)), n = (m : Int) ∧ 1 ≤ m ∧ m ≤ 5 ∧ Bd m es ∧ pairs ns = es.map castP ∧
    Ks578.isConnected ⟨m, es⟩ = true ∧ Ks578.diameter ⟨m, es⟩ < 4 ∧ ∀ f : Ks577.Graph → Ks578.Result, Ks578.withSmallDiameter n.toNat (ns.map Int.toNat) f = f ⟨m, es⟩ := by
  cases hl : lim n ns with
  | false =>
    unfold refusal at h
    rw [lim_false hn h0 hl] at h
    cases h
  | true =>
    obtain ⟨m, es, rfl, h1, h5, hb, hes, hg⟩ := lim_true h0 hl
    unfold refusal at h
    rw [hg] at h
    simp only at h
    split at h
    · cases h
    · rename_i c1
      split at h
      · cases h
      · rename_i c2
        refine ⟨m, es, rfl, h1, h5, hb, hes, by simpa using c1, by omega, fun f => ?_⟩
        unfold Ks578.withSmallDiameter Ks577.withGraph
        rw [hg]
        simp only
        rw [if_neg c1, if_neg c2]
theorem tRef_some {n t r : Int} {ns : List Int} (hn : 0 ≤ n) (ht : 0 ≤ t) (h0 : ∀ x ∈ ns, 0 ≤ x) (h : tRef n t ns = some r) (f : Ks577.Graph → Ks578.Result) :
    Ks578.withSmallDiameter n.toNat (ns.map Int.toNat) (fun g => if n.toNat ≤ t.toNat then Ks578.number (-2) else f g) = Ks578.number r := by
  unfold tRef at h
  cases hrf : refusal n ns with
  | some r' =>
    rw [hrf] at h
    cases h
    exact refusal_some hrf _
  | none =>
    rw [hrf] at h
    simp only at h
    split at h
    · rename_i c
      cases h
      obtain ⟨m, es, rfl, h1, h5, hb, hes, hc, hd, hw⟩ := refusal_none hn h0 hrf
      rw [hw, if_pos (by omega)]
    · cases h
theorem pRef_some {n t p r : Int} {ns : List Int} (hn : 0 ≤ n) (ht : 0 ≤ t) (hp : 0 ≤ p) (h0 : ∀ x ∈ ns, 0 ≤ x) (h : pRef n t p ns = some r) (f : Ks577.Graph → Ks578.Result) :
    Ks578.withSmallDiameter n.toNat (ns.map Int.toNat) (fun g => if n.toNat ≤ t.toNat then Ks578.number (-2) else if Ks578.maxSearchedPebbles < p.toNat then Ks578.number (-22) else f g) = Ks578.number r := by
  unfold pRef at h
  cases hrf : tRef n t ns with
  | some r' =>
    rw [hrf] at h
    cases h
    exact tRef_some hn ht h0 hrf _
  | none =>
    rw [hrf] at h
    simp only at h
    split at h
    · rename_i c
      cases h
      obtain ⟨e, lt⟩ := tRef_none hrf
      obtain ⟨m, es, rfl, h1, h5, hb, hes, hc, hd, hw⟩ := refusal_none hn h0 e
      rw [hw, if_neg (by omega), if_pos (by unfold Ks578.maxSearchedPebbles; omega)]
    · cases h
/-- behind all checks -/
theorem pRef_ok {n t p : Int} {ns : List Int} (hn : 0 ≤ n) (ht : 0 ≤ t) (hp : 0 ≤ p) (h0 : ∀ x ∈ ns, 0 ≤ x) (h : pRef n t p ns = none) : ∃ (m u q : Nat) (es : List (Nat × Nat)), n = (m : Int) ∧ t = (u : Int) ∧ p = (q : Int) ∧ u < m ∧ q ≤ 10 ∧ m ≤ 5 ∧ Bd m es ∧ pairs ns = es.map castP ∧
    ∀ f : Ks577.Graph → Ks578.Result, Ks578.withSmallDiameter n.toNat (ns.map Int.toNat) (fun g => if n.toNat ≤ t.toNat then Ks578.number (-2) else if Ks578.maxSearchedPebbles < p.toNat then Ks578.number (-22) else f g) = f ⟨m, es⟩ := by
  obtain ⟨e, hp10⟩ := pRef_none h
  obtain ⟨e, lt⟩ := tRef_none e
  obtain ⟨m, es, rfl, h1, h5, hb, hes, hc, hd, hw⟩ := refusal_none hn h0 e
  obtain ⟨u, rfl⟩ := Int.eq_ofNat_of_zero_le ht
  obtain ⟨q, rfl⟩ := Int.eq_ofNat_of_zero_le hp
  refine ⟨m, u, q, es, rfl, rfl, rfl, by omega, by omega, h5, hb, hes, fun f => ?_⟩
  rw [hw, if_neg (by omega), if_neg (by unfold Ks578.maxSearchedPebbles; omega)]
theorem f1 (n t p i : Int) (ns : List Int) : PyKs578.unsolvable_configuration n t p i ns = Ks578Neutral.integers (Ks578.answer (.unsolvableConfiguration n.toNat t.toNat p.toNat i.toNat (ns.map Int.toNat))) := rfl
theorem ans_some {n t p i r : Int} {ns : List Int} (hn : 0 ≤ n) (ht : 0 ≤ t) (hp : 0 ≤ p) (h0 : ∀ x ∈ ns, 0 ≤ x) (h : pRef n t p ns = some r) : PyKs578.unsolvable_configuration n t p i ns = [r] := by
  rw [f1]
  exact congrArg Ks578Neutral.integers (pRef_some hn ht hp h0 h _)
def spAns (K : PySem.W.Frag) : Sp := fun vs H Q _ => ∃ (n t p i : Int) (a : Addr) (ns : List Int), vs = [.int n, .int t, .int p, .int i, .ref a] ∧ SqL K H a (ns.map V.int) ∧ ns.length ≤ 22 ∧ 0 ≤ n ∧ 0 ≤ t ∧ 0 ≤ p ∧ 0 ≤ i ∧ (∀ x ∈ ns, 0 ≤ x) ∧
  ∀ (H' : Hp) (l : Addr), H' l = some (.lst ((PyKs578.unsolvable_configuration n t p i ns).map V.int)) → Q (.ref l) H'
theorem ok_ans {f fR fN : Addr} {fd fdR fdN : FuncData} {t1 : Tok} (F : Fun K "unsolvable_configuration" "unsolvable_configuration" sAns f fd) (ml : mg "len" = none)
    (GR : FnOk P w K mg base CX0 8 fR fdR pPRef (spPRef K)) (gR : mg "placing_refusal" = some (.ref fR)) (kR : PySem.W.keepIn K (.ref fR) = true) (bR : Binds K fdR pPRef [])
    (GN : FnOk P w K mg base CX0 4 fN fdN pAll (spAll K)) (gN : mg "all_unsolvable" = some (.ref fN)) (kN : PySem.W.keepIn K (.ref fN) = true) (bN : Binds K fdN pAll [])
    (m1 : mg "NO_SUCH_INDEX" = some (.int (-33) t1)) :
    FnOk P w K mg base CX0 9 f fd pAns (spAns K) := by
  refine F.ok scAns (fun vs H Q E h => ?_) (fun cdv A outer s H vs Q E hr h => ?_)
  · obtain ⟨n, t, p, i, a, ns, rfl, _⟩ := h
    rfl
  · obtain ⟨n, t, p, i, a, ns, rfl, hS, hlen, hn, ht, hp, hi, h0, q⟩ := h
    have hr4 : Room 4 _ := hr.mono (by decide)
    refine ⟨_, pss_cons (ps_set (i := 5) scAns.nd rfl (Or.inl rfl) (pe_call GR hr (by rfl) gR kR bR .nil pass0 (pa_cons (pv 0) (pa_cons (pv 1) (pa_cons (pv 2) (pa_cons (pv 4) pa_nil))))))
      (pss_cons (ps_if (pt_cmpR op_notN (pv 5) pe_non (nomark _)) (pss_one (ps_ret (pe_lst (pa_cons (pv 5) pa_nil)))) pss_nil)
      (pss_cons (ps_set (i := 6) scAns.nd rfl (Or.inl rfl) (pe_call GN hr4 (by rfl) gN kN bN .nil pass0 (pa_cons (pv 0) (pa_cons (pv 1) (pa_cons (pv 2) (pa_cons (pv 4) pa_nil))))))
      (pss_cons (ps_if (pt_cmpR op_ge (pv 3) (pe_callB call_len_seq (by rfl) ml PySem.boot_len (pa_cons (pv 6) pa_nil)) (nomark _)) (pss_one (ps_ret (pe_lst (pa_cons (pe_glob (v := .int (-33)) rfl m1 ⟨_, rfl⟩) pa_nil)))) pss_nil)
      (pss_one (ps_ret (pe_op op_cat (pe_lst (pa_cons (pv 0) pa_nil)) (pe_ix ix_list (pv 6) (pv 3) (fun _ _ => rfl)))))))), ?_⟩
    refine ⟨_, rfl, _, rfl, _, rfl, _, rfl, n, t, p, a, ns, rfl, hS, hlen, hn, h0, fun H1 s1 => ⟨_, rfl, rfl, _, rfl, ?_⟩⟩
    cases hrf : pRef n t p ns with
    | some r =>
      refine iteT ⟨_, rfl, (by show 1 ≤ sizeLine; decide), fun l nl => q _ l ?_⟩
      rw [ans_some hn ht hp h0 hrf, upd_same]
      rfl
    | none =>
      refine iteF ?_
      obtain ⟨m, u, k, es, rfl, rfl, rfl, hu, hk, h5, hb, hes, hw⟩ := pRef_ok hn ht hp h0 hrf
      obtain ⟨j, rfl⟩ := Int.eq_ofNat_of_zero_le hi
      have ev : PyKs578.unsolvable_configuration (m : Int) (u : Int) (k : Int) (j : Int) ns = Ks578Neutral.integers (match (Ks578.unsolvable ⟨m, es⟩ u k)[j]? with | none => Ks578.number (-33) | some c => Ks577.listResult c) := by
        rw [f1]
        exact congrArg Ks578Neutral.integers (hw fun g => match (Ks578.unsolvable g u k)[j]? with | none => Ks578.number (-33) | some c => Ks577.listResult c)
      rw [← uns_is (g := ⟨m, es⟩) hb (by show 0 < m; omega)] at ev
      have ulen : ∀ c ∈ uns m u (stepsOf es) k, c.length = m := fun c hc => by
        rw [uns_is (g := ⟨m, es⟩) hb (by show 0 < m; omega)] at hc
        exact (U_len (g := ⟨m, es⟩) hc).1
      refine ⟨_, rfl, _, rfl, _, rfl, _, rfl, m, u, k, a, ns, es, rfl, s1.seq hS, hlen, hes, hb, h5, hu, hk, fun H2 U zs s2 hU hz => ?_⟩
      have hzl := hz.length
      refine ⟨_, rfl, _, rfl, U, zs, rfl, .inl (SqL.of hU), _, _, rfl, rfl, _, rfl, ite2 (fun (z : decide (((zs.length : Nat) : Int) ≤ (j : Int)) = true) => ?_) (fun (z : ¬ decide (((zs.length : Nat) : Int) ≤ (j : Int)) = true) => ?_)⟩
      · have z' := of_decide_eq_true z
        refine ⟨(by show 1 ≤ sizeLine; decide), fun l nl => q _ l ?_⟩
        have : (uns m u (stepsOf es) k)[j]? = none := List.getElem?_eq_none (by omega)
        rw [ev, upd_same, this]
        rfl
      · have z' : ¬ (((zs.length : Nat) : Int) ≤ (j : Int)) := fun y => z (decide_eq_true y)
        obtain ⟨v, hv⟩ : ∃ v, zs[j]? = some v := ⟨_, List.getElem?_eq_getElem (by omega)⟩
        obtain ⟨c, hc, r, rfl, hr⟩ := Paired.get hz hv
        have cl := ulen c (List.mem_of_getElem? hc)
        refine ⟨_, rfl, (by show 1 ≤ sizeLine; decide), fun l nl => ?_⟩
        have nlr : r ≠ l := ne_of_none hr nl
        have nlU : U ≠ l := ne_of_none hU nl
        refine ⟨_, rfl, _, rfl, U, _, _, _, rfl, rfl, SqL.of (by rw [upd_ne nlU]; exact hU), atI_nat hv, ?_⟩
        refine ⟨l, r, _, _, rfl, rfl, upd_same, by rw [upd_ne nlr]; exact hr, Nat.le_of_lt (small_line (by simp; omega)), fun o no => q _ o ?_⟩
        rw [ev, upd_same, hc]
        show some (HO.lst ([V.int (m : Int)] ++ c.map iv)) = _
        simp only [Ks577.listResult, Ks578Neutral.integers, Ks577.integers, cl]
        simp
theorem ans_request {H : Hp} {xs : List V} {a : PySem.W.Codec.denoteAll PySem.Challenge.rw_pebblemoves_s04_unsolvable_configuration.args} (hwi : PySem.W.Codec.withinAll PySem.Challenge.rw_pebblemoves_s04_unsolvable_configuration.args a = true)
    (hx : DwAll K H xs (PySem.W.Codec.encAll PySem.Challenge.rw_pebblemoves_s04_unsolvable_configuration.args a)) :
    spAns K xs H (fun v H' => Dw K H' v (PySem.Challenge.rw_pebblemoves_s04_unsolvable_configuration.ret.enc (PySem.W.Codec.app PySem.Challenge.rw_pebblemoves_s04_unsolvable_configuration.args PySem.Challenge.rw_pebblemoves_s04_unsolvable_configuration.f a))) fun _ _ _ => False := by
  obtain ⟨x0, x1, x2, x3, ns, u⟩ := a
  have hw : (PySem.W.Codec.inInt 0 4294967295 x0 && (PySem.W.Codec.inInt 0 4294967295 x1 && (PySem.W.Codec.inInt 0 4294967295 x2 && (PySem.W.Codec.inInt 0 4294967295 x3 && ((PySem.W.Codec.inLen 0 22 ns && ns.all (PySem.W.Codec.inInt 0 4294967295)) && true))))) = true := hwi
  simp only [Bool.and_eq_true, Bool.and_true, List.all_eq_true] at hw
  obtain ⟨w0, w1, w2, w3, w8, w9⟩ := hw
  rcases hx with _ | ⟨h0, hx⟩
  rcases hx with _ | ⟨h1, hx⟩
  rcases hx with _ | ⟨h2, hx⟩
  rcases hx with _ | ⟨h3, hx⟩
  rcases hx with _ | ⟨hl, hx⟩
  cases hx
  cases h0
  cases h1
  cases h2
  cases h3
  cases hl with
  | lst hs ha =>
    have e := L2.ints_dw ns _ ha
    subst e
    exact ⟨x0, x1, x2, x3, _, ns, rfl, hs, (PySem.W.Codec.inNat_iff.mp w8).2, (PySem.W.Codec.inInt_iff.mp w0).1, (PySem.W.Codec.inInt_iff.mp w1).1, (PySem.W.Codec.inInt_iff.mp w2).1, (PySem.W.Codec.inInt_iff.mp w3).1, fun x hx => (PySem.W.Codec.inInt_iff.mp (w9 x hx)).1, fun H' p hp => .lst (L2.SqL.of hp) (L2.dw_ints _)⟩
end
/-! ### the end: what the top has written -/
theorem all_mk {P : Program} {w : World} {K : PySem.W.Frag} {h : Heap} {mg : Str → Option Value} {fa f1 f2 f3 f4 f5 f6 f7 f8 f9 f10 f11 f12 f13 f14 f15 f16 f17 : Addr} {t1 t2 t3 t4 t5 t6 t7 t8 : Tok} (X : K.In h) (G : h.Ns mainGlobals mg) (hfa : mg "unsolvable_configuration" = some (.ref fa))
    {od1 an1 od2 an2 od3 an3 od4 an4 od5 an5 od6 an6 od7 an7 od8 an8 od9 an9 od10 an10 od11 an11 od12 an12 od13 an13 od14 an14 od15 an15 od16 an16 od17 an17 : Option Addr} {sl1 sl2 sl3 sl4 sl5 sl6 sl7 sl8 sl9 sl10 sl11 sl12 sl13 sl14 sl15 sl16 sl17 : Array (Option Value)} {oc1 kV1 dc1 pm1 cd1 ct1 oc2 kV2 dc2 pm2 cd2 ct2 oc3 kV3 dc3 pm3 cd3 ct3 oc4 kV4 dc4 pm4 cd4 ct4 oc5 kV5 dc5 pm5 cd5 ct5 oc6 kV6 dc6 pm6 cd6 ct6 oc7 kV7 dc7 pm7 cd7 ct7 oc8 kV8 dc8 pm8 cd8 ct8 oc9 kV9 dc9 pm9 cd9 ct9 oc10 kV10 dc10 pm10 cd10 ct10 oc11 kV11 dc11 pm11 cd11 ct11 oc12 kV12 dc12 pm12 cd12 ct12 oc13 kV13 dc13 pm13 cd13 ct13 oc14 kV14 dc14 pm14 cd14 ct14 oc15 kV15 dc15 pm15 cd15 ct15 oc16 kV16 dc16 pm16 cd16 ct16 oc17 kV17 dc17 pm17 cd17 ct17 : Value}
    (a1 : PySem.W.nsIn K mainGlobals "edge_pairs" = some (some (.ref f1))) (l1 : K.lookup f1 = some ⟨oc1, od1, .func (PySem.W.fnOf "edge_pairs" "edge_pairs" (defArgs sEdgePairs) (defBody sEdgePairs) (defScope sEdgePairs) .none kV1 dc1 pm1 an1 cd1 ct1), sl1⟩) (c1 : PySem.W.codeIn K cd1 "edge_pairs" = true) (k1 : PySem.W.keepIn K (.ref f1) = true)
    (a2 : PySem.W.nsIn K mainGlobals "are_edges" = some (some (.ref f2))) (l2 : K.lookup f2 = some ⟨oc2, od2, .func (PySem.W.fnOf "are_edges" "are_edges" (defArgs sAreEdges) (defBody sAreEdges) (defScope sAreEdges) .none kV2 dc2 pm2 an2 cd2 ct2), sl2⟩) (c2 : PySem.W.codeIn K cd2 "are_edges" = true) (k2 : PySem.W.keepIn K (.ref f2) = true)
    (a3 : PySem.W.nsIn K mainGlobals "is_within_limits" = some (some (.ref f3))) (l3 : K.lookup f3 = some ⟨oc3, od3, .func (PySem.W.fnOf "is_within_limits" "is_within_limits" (defArgs sLimits) (defBody sLimits) (defScope sLimits) .none kV3 dc3 pm3 an3 cd3 ct3), sl3⟩) (c3 : PySem.W.codeIn K cd3 "is_within_limits" = true) (k3 : PySem.W.keepIn K (.ref f3) = true)
    (a4 : PySem.W.nsIn K mainGlobals "steps_of" = some (some (.ref f4))) (l4 : K.lookup f4 = some ⟨oc4, od4, .func (PySem.W.fnOf "steps_of" "steps_of" (defArgs sStepsOf) (defBody sStepsOf) (defScope sStepsOf) .none kV4 dc4 pm4 an4 cd4 ct4), sl4⟩) (c4 : PySem.W.codeIn K cd4 "steps_of" = true) (k4 : PySem.W.keepIn K (.ref f4) = true)
    (a5 : PySem.W.nsIn K mainGlobals "distances_from" = some (some (.ref f5))) (l5 : K.lookup f5 = some ⟨oc5, od5, .func (PySem.W.fnOf "distances_from" "distances_from" (defArgs sDist) (defBody sDist) (defScope sDist) .none kV5 dc5 pm5 an5 cd5 ct5), sl5⟩) (c5 : PySem.W.codeIn K cd5 "distances_from" = true) (k5 : PySem.W.keepIn K (.ref f5) = true)
    (a6 : PySem.W.nsIn K mainGlobals "largest_distance" = some (some (.ref f6))) (l6 : K.lookup f6 = some ⟨oc6, od6, .func (PySem.W.fnOf "largest_distance" "largest_distance" (defArgs sLargest) (defBody sLargest) (defScope sLargest) .none kV6 dc6 pm6 an6 cd6 ct6), sl6⟩) (c6 : PySem.W.codeIn K cd6 "largest_distance" = true) (k6 : PySem.W.keepIn K (.ref f6) = true)
    (a7 : PySem.W.nsIn K mainGlobals "connection_refusal" = some (some (.ref f7))) (l7 : K.lookup f7 = some ⟨oc7, od7, .func (PySem.W.fnOf "connection_refusal" "connection_refusal" (defArgs sCRef) (defBody sCRef) (defScope sCRef) .none kV7 dc7 pm7 an7 cd7 ct7), sl7⟩) (c7 : PySem.W.codeIn K cd7 "connection_refusal" = true) (k7 : PySem.W.keepIn K (.ref f7) = true)
    (a8 : PySem.W.nsIn K mainGlobals "graph_refusal" = some (some (.ref f8))) (l8 : K.lookup f8 = some ⟨oc8, od8, .func (PySem.W.fnOf "graph_refusal" "graph_refusal" (defArgs sRefusal) (defBody sRefusal) (defScope sRefusal) .none kV8 dc8 pm8 an8 cd8 ct8), sl8⟩) (c8 : PySem.W.codeIn K cd8 "graph_refusal" = true) (k8 : PySem.W.keepIn K (.ref f8) = true)
    (a9 : PySem.W.nsIn K mainGlobals "configurations" = some (some (.ref f9))) (l9 : K.lookup f9 = some ⟨oc9, od9, .func (PySem.W.fnOf "configurations" "configurations" (defArgs sConf) (defBody sConf) (defScope sConf) .none kV9 dc9 pm9 an9 cd9 ct9), sl9⟩) (c9 : PySem.W.codeIn K cd9 "configurations" = true) (k9 : PySem.W.keepIn K (.ref f9) = true)
    (a10 : PySem.W.nsIn K mainGlobals "after_move" = some (some (.ref f10))) (l10 : K.lookup f10 = some ⟨oc10, od10, .func (PySem.W.fnOf "after_move" "after_move" (defArgs sAfter) (defBody sAfter) (defScope sAfter) .none kV10 dc10 pm10 an10 cd10 ct10), sl10⟩) (c10 : PySem.W.codeIn K cd10 "after_move" = true) (k10 : PySem.W.keepIn K (.ref f10) = true)
    (a11 : PySem.W.nsIn K mainGlobals "is_unsolvable" = some (some (.ref f11))) (l11 : K.lookup f11 = some ⟨oc11, od11, .func (PySem.W.fnOf "is_unsolvable" "is_unsolvable" (defArgs sIsUns) (defBody sIsUns) (defScope sIsUns) .none kV11 dc11 pm11 an11 cd11 ct11), sl11⟩) (c11 : PySem.W.codeIn K cd11 "is_unsolvable" = true) (k11 : PySem.W.keepIn K (.ref f11) = true)
    (a12 : PySem.W.nsIn K mainGlobals "unsolvable_without_pebbles" = some (some (.ref f12))) (l12 : K.lookup f12 = some ⟨oc12, od12, .func (PySem.W.fnOf "unsolvable_without_pebbles" "unsolvable_without_pebbles" (defArgs sWithout) (defBody sWithout) (defScope sWithout) .none kV12 dc12 pm12 an12 cd12 ct12), sl12⟩) (c12 : PySem.W.codeIn K cd12 "unsolvable_without_pebbles" = true) (k12 : PySem.W.keepIn K (.ref f12) = true)
    (a13 : PySem.W.nsIn K mainGlobals "unsolvable_with" = some (some (.ref f13))) (l13 : K.lookup f13 = some ⟨oc13, od13, .func (PySem.W.fnOf "unsolvable_with" "unsolvable_with" (defArgs sUnsWith) (defBody sUnsWith) (defScope sUnsWith) .none kV13 dc13 pm13 an13 cd13 ct13), sl13⟩) (c13 : PySem.W.codeIn K cd13 "unsolvable_with" = true) (k13 : PySem.W.keepIn K (.ref f13) = true)
    (a14 : PySem.W.nsIn K mainGlobals "all_unsolvable" = some (some (.ref f14))) (l14 : K.lookup f14 = some ⟨oc14, od14, .func (PySem.W.fnOf "all_unsolvable" "all_unsolvable" (defArgs sAll) (defBody sAll) (defScope sAll) .none kV14 dc14 pm14 an14 cd14 ct14), sl14⟩) (c14 : PySem.W.codeIn K cd14 "all_unsolvable" = true) (k14 : PySem.W.keepIn K (.ref f14) = true)
    (a15 : PySem.W.nsIn K mainGlobals "target_refusal" = some (some (.ref f15))) (l15 : K.lookup f15 = some ⟨oc15, od15, .func (PySem.W.fnOf "target_refusal" "target_refusal" (defArgs sTRef) (defBody sTRef) (defScope sTRef) .none kV15 dc15 pm15 an15 cd15 ct15), sl15⟩) (c15 : PySem.W.codeIn K cd15 "target_refusal" = true) (k15 : PySem.W.keepIn K (.ref f15) = true)
    (a16 : PySem.W.nsIn K mainGlobals "placing_refusal" = some (some (.ref f16))) (l16 : K.lookup f16 = some ⟨oc16, od16, .func (PySem.W.fnOf "placing_refusal" "placing_refusal" (defArgs sPRef) (defBody sPRef) (defScope sPRef) .none kV16 dc16 pm16 an16 cd16 ct16), sl16⟩) (c16 : PySem.W.codeIn K cd16 "placing_refusal" = true) (k16 : PySem.W.keepIn K (.ref f16) = true)
    (a17 : PySem.W.nsIn K mainGlobals "unsolvable_configuration" = some (some (.ref f17))) (l17 : K.lookup f17 = some ⟨oc17, od17, .func (PySem.W.fnOf "unsolvable_configuration" "unsolvable_configuration" (defArgs sAns) (defBody sAns) (defScope sAns) .none kV17 dc17 pm17 an17 cd17 ct17), sl17⟩) (c17 : PySem.W.codeIn K cd17 "unsolvable_configuration" = true) (k17 : PySem.W.keepIn K (.ref f17) = true)
    (z1 : PySem.W.nsIn K mainGlobals "OUTSIDE_LIMITS" = some (some (.int (-22) t1)))
    (z2 : PySem.W.nsIn K mainGlobals "NOT_CONNECTED" = some (some (.int (-33) t2)))
    (z3 : PySem.W.nsIn K mainGlobals "TOO_WIDE" = some (some (.int (-75) t3)))
    (z4 : PySem.W.nsIn K mainGlobals "LARGEST_VERTEX_COUNT" = some (some (.int 5 t4)))
    (z5 : PySem.W.nsIn K mainGlobals "LARGEST_DIAMETER" = some (some (.int 3 t5)))
    (z6 : PySem.W.nsIn K mainGlobals "NO_SUCH_TARGET" = some (some (.int (-2) t6)))
    (z7 : PySem.W.nsIn K mainGlobals "NO_SUCH_INDEX" = some (some (.int (-33) t7)))
    (z8 : PySem.W.nsIn K mainGlobals "MOST_PEBBLES" = some (some (.int 10 t8)))
    (m_len : PySem.W.nsIn K mainGlobals "len" = some none)
    (m_range : PySem.W.nsIn K mainGlobals "range" = some none)
    (m_max : PySem.W.nsIn K mainGlobals "max" = some none)
    (m_sum : PySem.W.nsIn K mainGlobals "sum" = some none)
    (m_list : PySem.W.nsIn K mainGlobals "list" = some none)
    : ∃ fd : FuncData, (∀ (s : Shared) (us : List Value), us.length = (["vertex_count", "target", "pebbles", "index", "edges"] : List Str).length → BindsTo s fd ⟨us, []⟩ ((["vertex_count", "target", "pebbles", "index", "edges"] : List Str).zip us)) ∧ ∀ base : Heap, K.In base → base.Ns mainGlobals mg → FnOk P w K mg base CX0 9 fa fd ["vertex_count", "target", "pebbles", "index", "edges"] (spAns K) := by
  have e := hfa.symm.trans (PySem.W.mg_of X G a17)
  cases e
  have F1 := fun_mk (st := sEdgePairs) l1 c1 k1
  have F2 := fun_mk (st := sAreEdges) l2 c2 k2
  have F3 := fun_mk (st := sLimits) l3 c3 k3
  have F4 := fun_mk (st := sStepsOf) l4 c4 k4
  have F5 := fun_mk (st := sDist) l5 c5 k5
  have F6 := fun_mk (st := sLargest) l6 c6 k6
  have F7 := fun_mk (st := sCRef) l7 c7 k7
  have F8 := fun_mk (st := sRefusal) l8 c8 k8
  have F9 := fun_mk (st := sConf) l9 c9 k9
  have F10 := fun_mk (st := sAfter) l10 c10 k10
  have F11 := fun_mk (st := sIsUns) l11 c11 k11
  have F12 := fun_mk (st := sWithout) l12 c12 k12
  have F13 := fun_mk (st := sUnsWith) l13 c13 k13
  have F14 := fun_mk (st := sAll) l14 c14 k14
  have F15 := fun_mk (st := sTRef) l15 c15 k15
  have F16 := fun_mk (st := sPRef) l16 c16 k16
  have F17 := fun_mk (st := sAns) l17 c17 k17
  have b1 := F1.binds (ps := pEdgePairs) fun _ _ _ _ _ _ us hl => match us, hl with | [_], _ => rfl
  have g1 := PySem.W.mg_of X G a1
  have b2 := F2.binds (ps := pAreEdges) fun _ _ _ _ _ _ us hl => match us, hl with | [_, _], _ => rfl
  have g2 := PySem.W.mg_of X G a2
  have b3 := F3.binds (ps := pLimits) fun _ _ _ _ _ _ us hl => match us, hl with | [_, _], _ => rfl
  have g3 := PySem.W.mg_of X G a3
  have b4 := F4.binds (ps := pStepsOf) fun _ _ _ _ _ _ us hl => match us, hl with | [_], _ => rfl
  have g4 := PySem.W.mg_of X G a4
  have b5 := F5.binds (ps := pDist) fun _ _ _ _ _ _ us hl => match us, hl with | [_, _, _], _ => rfl
  have g5 := PySem.W.mg_of X G a5
  have b6 := F6.binds (ps := pLargest) fun _ _ _ _ _ _ us hl => match us, hl with | [_, _], _ => rfl
  have g6 := PySem.W.mg_of X G a6
  have b7 := F7.binds (ps := pCRef) fun _ _ _ _ _ _ us hl => match us, hl with | [_, _], _ => rfl
  have g7 := PySem.W.mg_of X G a7
  have b8 := F8.binds (ps := pRefusal) fun _ _ _ _ _ _ us hl => match us, hl with | [_, _], _ => rfl
  have g8 := PySem.W.mg_of X G a8
  have b9 := F9.binds (ps := pConf) fun _ _ _ _ _ _ us hl => match us, hl with | [_, _], _ => rfl
  have g9 := PySem.W.mg_of X G a9
  have b10 := F10.binds (ps := pAfter) fun _ _ _ _ _ _ us hl => match us, hl with | [_, _, _], _ => rfl
  have g10 := PySem.W.mg_of X G a10
  have b11 := F11.binds (ps := pIsUns) fun _ _ _ _ _ _ us hl => match us, hl with | [_, _, _, _], _ => rfl
  have g11 := PySem.W.mg_of X G a11
  have b12 := F12.binds (ps := pWithout) fun _ _ _ _ _ _ us hl => match us, hl with | [_], _ => rfl
  have g12 := PySem.W.mg_of X G a12
  have b13 := F13.binds (ps := pUnsWith) fun _ _ _ _ _ _ us hl => match us, hl with | [_, _, _, _, _], _ => rfl
  have g13 := PySem.W.mg_of X G a13
  have b14 := F14.binds (ps := pAll) fun _ _ _ _ _ _ us hl => match us, hl with | [_, _, _, _], _ => rfl
  have g14 := PySem.W.mg_of X G a14
  have b15 := F15.binds (ps := pTRef) fun _ _ _ _ _ _ us hl => match us, hl with | [_, _, _], _ => rfl
  have g15 := PySem.W.mg_of X G a15
  have b16 := F16.binds (ps := pPRef) fun _ _ _ _ _ _ us hl => match us, hl with | [_, _, _, _], _ => rfl
  have g16 := PySem.W.mg_of X G a16
  have y1 := PySem.W.mg_of X G z1
  have y2 := PySem.W.mg_of X G z2
  have y3 := PySem.W.mg_of X G z3
  have y4 := PySem.W.mg_of X G z4
  have y5 := PySem.W.mg_of X G z5
  have y6 := PySem.W.mg_of X G z6
  have y7 := PySem.W.mg_of X G z7
  have y8 := PySem.W.mg_of X G z8
  have n_len := PySem.W.mg_none_of X G m_len
  have n_range := PySem.W.mg_none_of X G m_range
  have n_max := PySem.W.mg_none_of X G m_max
  have n_sum := PySem.W.mg_none_of X G m_sum
  have n_list := PySem.W.mg_none_of X G m_list
  refine ⟨PySem.W.fnOf "unsolvable_configuration" "unsolvable_configuration" (defArgs sAns) (defBody sAns) (defScope sAns) .none kV17 dc17 pm17 an17 cd17 ct17, fun s us hu => match us, hu with | [_, _, _, _, _], _ => .of_eq rfl, fun base _ _ => ?_⟩
  have G1 : FnOk P w K mg base CX0 1 _ _ _ _ := ok_pairs (k := 0) F1 n_len n_range
  have G2 : FnOk P w K mg base CX0 2 _ _ _ _ := ok_edges (k := 0) F2 n_len G1 g1 F1.kp b1
  have G3 : FnOk P w K mg base CX0 3 _ _ _ _ := ok_lim (k := 0) F3 G2 g2 F2.kp b2 y4
  have G4 : FnOk P w K mg base CX0 2 _ _ _ _ := ok_steps (k := 0) F4 G1 g1 F1.kp b1
  have G5 : FnOk P w K mg base CX0 3 _ _ _ _ := ok_dist (k := 0) F5 n_range G4 g4 F4.kp b4
  have G6 : FnOk P w K mg base CX0 4 _ _ _ _ := ok_largest (k := 0) F6 n_range n_max G5 g5 F5.kp b5
  have G7 : FnOk P w K mg base CX0 5 _ _ _ _ := ok_cRef (k := 0) F7 G3 g3 F3.kp b3 G6 g6 F6.kp b6 y1 y2
  have G8 : FnOk P w K mg base CX0 6 _ _ _ _ := ok_refusal (k := 0) F8 G7 g7 F7.kp b7 G6 g6 F6.kp b6 y3 y5
  have G9 : FnOk P w K mg base CX0 1 _ _ _ _ := ok_conf (k := 0) F9 n_range n_sum
  have G10 : FnOk P w K mg base CX0 1 _ _ _ _ := ok_after (k := 0) F10 n_list
  have G11 : FnOk P w K mg base CX0 2 _ _ _ _ := ok_isUns (k := 0) F11 G10 g10 F10.kp b10
  have G12 : FnOk P w K mg base CX0 2 _ _ _ _ := ok_without (k := 0) F12 G9 g9 F9.kp b9
  have G13 : FnOk P w K mg base CX0 3 _ _ _ _ := ok_unsWith (k := 0) F13 G9 g9 F9.kp b9 G11 g11 F11.kp b11
  have G14 : FnOk P w K mg base CX0 4 _ _ _ _ := ok_all (k := 0) F14 n_range G4 g4 F4.kp b4 G12 g12 F12.kp b12 G13 g13 F13.kp b13
  have G15 : FnOk P w K mg base CX0 7 _ _ _ _ := ok_tRef (k := 0) F15 G8 g8 F8.kp b8 y6
  have G16 : FnOk P w K mg base CX0 8 _ _ _ _ := ok_pRef (k := 0) F16 G15 g15 F15.kp b15 y1 y8
  exact ok_ans F17 n_len G16 g16 F16.kp b16 G14 g14 F14.kp b14 y7
end Pb
open PySem PySem.W PyProof.Rows
set_option maxRecDepth 100000 in
set_option maxHeartbeats 8000000 in
theorem PySem.Challenge.cw_pebblemoves_s04_unsolvable_configuration_holds : PySem.Challenge.rw_pebblemoves_s04_unsolvable_configuration.Holds := by
  w_on; k_headS; (case hw => exact ⟨[.int 0, .int 0, .int 0, .int 0, .list []], by decide +kernel, by decide +kernel⟩)
  k_fillS
  refine L2.walk_specK (r := PySem.Challenge.rw_pebblemoves_s04_unsolvable_configuration) (k := 9) (CX := L2.CX0) (ps := ["vertex_count", "target", "pebbles", "index", "edges"]) (sp := Pb.spAns) (by decide +kernel) rfl rfl ⟨rfl, by decide, by decide⟩ (fun w h Y => PySem.W.kIn_of Y) ?F ?S (fun _ _ _ _ z => z)
  case F =>
    intro w mg fa h Y KX G hmg
    refine' Pb.all_mk KX G hmg ?a1 ?l1 ?c1 ?k1 ?a2 ?l2 ?c2 ?k2 ?a3 ?l3 ?c3 ?k3 ?a4 ?l4 ?c4 ?k4 ?a5 ?l5 ?c5 ?k5 ?a6 ?l6 ?c6 ?k6 ?a7 ?l7 ?c7 ?k7 ?a8 ?l8 ?c8 ?k8 ?a9 ?l9 ?c9 ?k9 ?a10 ?l10 ?c10 ?k10 ?a11 ?l11 ?c11 ?k11 ?a12 ?l12 ?c12 ?k12 ?a13 ?l13 ?c13 ?k13 ?a14 ?l14 ?c14 ?k14 ?a15 ?l15 ?c15 ?k15 ?a16 ?l16 ?c16 ?k16 ?a17 ?l17 ?c17 ?k17 ?z1 ?z2 ?z3 ?z4 ?z5 ?z6 ?z7 ?z8 ?m_len ?m_range ?m_max ?m_sum ?m_list
    (case a1 => k_is); (case l1 => k_is); (case c1 => k_is); (case k1 => k_is); (case a2 => k_is); (case l2 => k_is); (case c2 => k_is); (case k2 => k_is); (case a3 => k_is); (case l3 => k_is); (case c3 => k_is); (case k3 => k_is); (case a4 => k_is); (case l4 => k_is); (case c4 => k_is); (case k4 => k_is); (case a5 => k_is); (case l5 => k_is); (case c5 => k_is); (case k5 => k_is); (case a6 => k_is); (case l6 => k_is); (case c6 => k_is); (case k6 => k_is); (case a7 => k_is); (case l7 => k_is); (case c7 => k_is); (case k7 => k_is); (case a8 => k_is); (case l8 => k_is); (case c8 => k_is); (case k8 => k_is); (case a9 => k_is); (case l9 => k_is); (case c9 => k_is); (case k9 => k_is); (case a10 => k_is); (case l10 => k_is); (case c10 => k_is); (case k10 => k_is); (case a11 => k_is); (case l11 => k_is); (case c11 => k_is); (case k11 => k_is); (case a12 => k_is); (case l12 => k_is); (case c12 => k_is); (case k12 => k_is); (case a13 => k_is); (case l13 => k_is); (case c13 => k_is); (case k13 => k_is); (case a14 => k_is); (case l14 => k_is); (case c14 => k_is); (case k14 => k_is); (case a15 => k_is); (case l15 => k_is); (case c15 => k_is); (case k15 => k_is); (case a16 => k_is); (case l16 => k_is); (case c16 => k_is); (case k16 => k_is); (case a17 => k_is); (case l17 => k_is); (case c17 => k_is); (case k17 => k_is); (case z1 => k_is); (case z2 => k_is); (case z3 => k_is); (case z4 => k_is); (case z5 => k_is); (case z6 => k_is); (case z7 => k_is); (case z8 => k_is); (case m_len => k_is); (case m_range => k_is); (case m_max => k_is); (case m_sum => k_is); (case m_list => k_is)
  case S =>
    intro K H xs a hO hwi hask hx
    exact Pb.ans_request hwi hx
