import PyProof.Rows.All
import Wide.All
import OpenK.AllK
import Wide.FinOn
import PyProof.MinMaxWalk
import KE.DataCmp
import HandS.List
import HandS.Base
import HandS.Call
import HandS.Comp
import HandS.Dict
import HandS.Iter
import HandS.Text
import HandS.Words
import HandS.Evl
import KE.SortData
import HandS.Walk
import HandS.IsInst
import HandS.TupAny
import HandS.TupLen
import HandS.Small
import HandS.Style
import HandS.Rev
import HandS.NoneIn
import HandS.TryOnly
import HandS.WordsDict
import HandS.WordsList
import HandS.Head0
import HandS.Head1
import HandS.Head2
import HandS.HeadEnd
import HandS.HeadHook1
import HandS.HeadHook2
import HandS.Defaults
import HandS.Conv
import HandS.More
import KE.DataMinKey
import HandS.SortKw
import HandS.Codes
import HandS.DictComp
import HandS.Deep
import KE.GoesEnum
import PyProof.Draws
import HandS.DictTup
import PySem.Challenge.RW_slipworth_k07_whole_tables_alike
import HandS.WordsExc
import HandS.Head3
import KE.KStateDown
set_option Elab.async false
set_option linter.all false
set_option maxRecDepth 100000
set_option maxHeartbeats 4000000
/-! heaps: an array in the order that heapq keeps, pure part -/
namespace Slip
namespace Hq
variable {γ : Type} {lt : γ → γ → Bool} {P : γ → Prop} {xs ys : Array γ}
def par (i : Nat) : Nat := (i - 1) / 2
def leAt (lt : γ → γ → Bool) (xs : Array γ) (i j : Nat) : Prop := ∀ x y, xs[i]? = some x → xs[j]? = some y → lt y x = false
/-- all in order -/
def HP (lt : γ → γ → Bool) (xs : Array γ) : Prop := ∀ i, 0 < i → leAt lt xs (par i) i
/-- .. but p against what is above it -/
def HX (lt : γ → γ → Bool) (xs : Array γ) (p : Nat) : Prop := (∀ i, 0 < i → i ≠ p → leAt lt xs (par i) i) ∧ ∀ i, 0 < i → par i = p → 0 < p → leAt lt xs (par p) i
/-- .. but p against what is above and below it -/
def HD (lt : γ → γ → Bool) (xs : Array γ) (p : Nat) : Prop := (∀ i, 0 < i → i ≠ p → par i ≠ p → leAt lt xs (par i) i) ∧ ∀ i, 0 < i → par i = p → 0 < p → leAt lt xs (par p) i
/-- an order of what stands in it -/
structure Ord (lt : γ → γ → Bool) (P : γ → Prop) : Prop where
  tr : ∀ x y z, P x → P y → P z → lt y x = false → lt z y = false → lt z x = false
  asy : ∀ x y, P x → P y → lt x y = true → lt y x = false
def AllP (P : γ → Prop) (xs : Array γ) : Prop := ∀ (i : Nat) (x : γ), xs[i]? = some x → P x
theorem par_lt {i : Nat} (h : 0 < i) : par i < i := by unfold par; omega
theorem leAt.trans (o : Ord lt P) (a : AllP P xs) {i j k : Nat} (hj : ∃ y, xs[j]? = some y) (h1 : leAt lt xs i j) (h2 : leAt lt xs j k) : leAt lt xs i k := by
  obtain ⟨y, hy⟩ := hj
  intro x z hx hz
  exact o.tr x y z (a _ _ hx) (a _ _ hy) (a _ _ hz) (h1 _ _ hx hy) (h2 _ _ hy hz)
theorem some_of_lt {i : Nat} (h : i < xs.size) : ∃ y, xs[i]? = some y := ⟨xs[i], Array.getElem?_eq_getElem h⟩
theorem lt_of_some {i : Nat} {x : γ} (h : xs[i]? = some x) : i < xs.size := by
  rcases Nat.lt_or_ge i xs.size with q | q
  · exact q
  · rw [Array.getElem?_eq_none q] at h
    cases h
section
variable {c p : Nat} (hc : c < xs.size) (hp : p < xs.size)
theorem sw_c : (xs.swap c p hc hp)[c]? = xs[p]? := by
  rw [Array.getElem?_swap]
  by_cases h : p = c
  · subst h
    rw [if_pos rfl, Array.getElem?_eq_getElem hp]
  · rw [if_neg h, if_pos rfl, Array.getElem?_eq_getElem hp]
theorem sw_p : (xs.swap c p hc hp)[p]? = xs[c]? := by
  rw [Array.getElem?_swap, if_pos rfl, Array.getElem?_eq_getElem hc]
theorem sw_o {i : Nat} (h1 : i ≠ c) (h2 : i ≠ p) : (xs.swap c p hc hp)[i]? = xs[i]? := by
  rw [Array.getElem?_swap, if_neg (Ne.symm h2), if_neg (Ne.symm h1)]
theorem sw_all (a : AllP P xs) : AllP P (xs.swap c p hc hp) := by
  intro i x h
  by_cases h1 : i = c
  · subst h1; rw [sw_c] at h; exact a _ _ h
  · by_cases h2 : i = p
    · subst h2; rw [sw_p] at h; exact a _ _ h
    · rw [sw_o hc hp h1 h2] at h; exact a _ _ h
end
/-- one turn upwards -/
theorem up_step (o : Ord lt P) (a : AllP P xs) {p : Nat} (h0 : 0 < p) (hp : p < xs.size) (hq : par p < xs.size) (h : HX lt xs p) (hl : ∀ x y, xs[p]? = some x → xs[par p]? = some y → lt x y = true) : HX lt (xs.swap (par p) p hq hp) (par p) := by
  have hpp := par_lt h0
  have hle : leAt lt xs p (par p) := fun x y hx hy => o.asy _ _ (a _ _ hx) (a _ _ hy) (hl _ _ hx hy)
  have ep := some_of_lt hp
  have eq := some_of_lt hq
  refine ⟨fun i hi hne => ?_, fun i hi hpi hq0 => ?_⟩
  · unfold leAt
    by_cases h1 : i = p
    · subst h1
      rw [sw_c, sw_p]
      exact hle
    · by_cases h2 : par i = par p
      · rw [h2, sw_c, sw_o hq hp hne h1]
        exact (hle.trans o a eq (by rw [← h2]; exact h.1 i hi h1) : leAt lt xs p i)
      · by_cases h3 : par i = p
        · rw [h3, sw_p, sw_o hq hp hne h1]
          exact h.2 i hi h3 h0
        · rw [sw_o hq hp h2 h3, sw_o hq hp hne h1]
          exact h.1 i hi h1
  · have n1 : par (par p) ≠ par p := fun e => by have := par_lt hq0; omega
    have n2 : par (par p) ≠ p := fun e => by have := par_lt hq0; omega
    have up1 : leAt lt xs (par (par p)) (par p) := h.1 _ hq0 (by omega)
    unfold leAt
    rw [sw_o hq hp n1 n2]
    by_cases h1 : i = p
    · subst h1
      rw [sw_p]
      exact up1
    · have n3 : i ≠ par p := fun e => by subst e; exact n1 hpi
      rw [sw_o hq hp n3 h1]
      exact (up1.trans o a eq (by rw [← hpi]; exact h.1 i hi h1) : leAt lt xs (par (par p)) i)
theorem up_done (o : Ord lt P) (a : AllP P xs) {p : Nat} (h : HX lt xs p) (hl : 0 < p → ∀ x y, xs[p]? = some x → xs[par p]? = some y → lt x y = false) : HP lt xs := by
  intro i hi
  by_cases h1 : i = p
  · subst h1
    exact fun x y hx hy => hl hi _ _ hy hx
  · exact h.1 i hi h1
/-- one turn downwards: c the lesser one below p -/
theorem down_step (o : Ord lt P) (a : AllP P xs) {p c : Nat} (hp : p < xs.size) (hc : c < xs.size) (h0 : 0 < c) (hcp : par c = p) (h : HD lt xs p) (hl : ∀ i, 0 < i → par i = p → i ≠ c → leAt lt xs c i) : HD lt (xs.swap c p hc hp) c := by
  have hpc := par_lt h0
  have ec := some_of_lt hc
  refine ⟨fun i hi hne hpi => ?_, fun i hi hpi _ => ?_⟩
  · unfold leAt
    by_cases h1 : i = p
    · subst h1
      have n1 : par i ≠ i := fun e => by have := par_lt hi; omega
      rw [sw_p, sw_o hc hp hpi n1]
      exact h.2 c h0 hcp hi
    · by_cases h2 : par i = p
      · rw [h2, sw_p, sw_o hc hp hne h1]
        exact hl i hi h2 hne
      · rw [sw_o hc hp hpi h2, sw_o hc hp hne h1]
        exact h.1 i hi h1 h2
  · have n1 : i ≠ c := fun e => by have := par_lt hi; omega
    have n2 : i ≠ p := fun e => by have := par_lt hi; omega
    unfold leAt
    rw [hcp, sw_p, sw_o hc hp n1 n2]
    rw [← hpi]
    exact h.1 i hi n2 (by rw [hpi]; omega)
theorem down_done {p : Nat} (h : HD lt xs p) (hl : xs.size ≤ 2 * p + 1) : HX lt xs p := by
  refine ⟨fun i hi hne => ?_, h.2⟩
  by_cases h1 : par i = p
  · intro x y hx hy
    have := lt_of_some hy
    unfold par at h1
    omega
  · exact h.1 i hi hne h1
/-- the first is a least one -/
theorem root_le (o : Ord lt P) (hP : AllP P xs) (hr : ∀ x, P x → lt x x = false) (h : HP lt xs) : ∀ n i, i ≤ n → i < xs.size → leAt lt xs 0 i
  | 0, i, hi, _ => by
    have : i = 0 := by omega
    subst this
    intro x y hx hy
    rw [hx] at hy
    cases hy
    exact hr _ (hP _ _ hx)
  | n + 1, i, hi, hz => by
    by_cases h0 : i = 0
    · subst h0
      exact root_le o hP hr h n 0 (Nat.zero_le _) hz
    · have hi0 : 0 < i := by omega
      have hpi := par_lt hi0
      exact (root_le o hP hr h n (par i) (by omega) (by omega)).trans o hP (some_of_lt (by omega)) (h i hi0)
theorem hp_pop (h : HP lt xs) : HP lt xs.pop := by
  intro i hi x y hx hy
  have h1 : ∀ (k : Nat) (z : γ), xs.pop[k]? = some z → xs[k]? = some z := fun k z e => by
    rw [Array.getElem?_pop] at e
    split at e
    · exact e
    · cases e
  exact h i hi x y (h1 _ _ hx) (h1 _ _ hy)
theorem hd_set (h : HP lt xs) {v : γ} : HD lt (xs.setIfInBounds 0 v) 0 := by
  refine ⟨fun i hi hne hpi => ?_, fun i hi hpi h0 => absurd h0 (Nat.lt_irrefl _)⟩
  unfold leAt
  rw [Array.getElem?_setIfInBounds, Array.getElem?_setIfInBounds, if_neg (Ne.symm hpi), if_neg (Ne.symm hne)]
  exact h i hi
theorem hx_push (h : HP lt xs) {v : γ} : HX lt (xs.push v) xs.size := by
  refine ⟨fun i hi hne x y hx hy => ?_, fun i hi hpi h0 x y hx hy => ?_⟩
  · have hz := lt_of_some hy
    rw [Array.size_push] at hz
    have hpi := par_lt hi
    rw [Array.getElem?_push, if_neg (by omega)] at hx hy
    exact h i hi x y hx hy
  · have hz := lt_of_some hy
    rw [Array.size_push] at hz
    have hpi' := par_lt hi
    omega
end Hq
end Slip
/-! heapq over the machine -/
namespace Slip
namespace Hq
open PySem PySem.Spec PyProof.Rows
theorem plain_sift : plainId "_heapq.heapify.sift" = true := by decide +kernel
theorem entry_sift : entryFor table "_heapq.heapify.sift" = some Builtin.«_heapq.heapify.sift» := entryFor_of_fast (by kernel_rfl)
def LstAt (h : Heap) (a : Addr) (its : Array Value) : Prop := ∃ n, h.get? a = some { cls := .type "list", dict := none, data := .seq its n, slots := #[] }
def Others (H : Heap) (a : Addr) (h : Heap) : Prop := ∀ (b : Addr) (o : Obj), b ≠ a → H.get? b = some o → h.get? b = some o
def CmpH {γ : Type} (prog : Program) (w : World) (A : Around) (H : Heap) (a : Addr) (f : γ → Value) (lt : γ → γ → Bool) (P : γ → Prop) : Prop :=
  ∀ (x y : γ) (s : Shared) (Q : Value → Shared → Prop) (E : Value → Shared → Prop), Others H a s.heap → P x → P y → Q (.bool (lt x y)) s → wpAny (model prog w) A (richCompare .Lt (f x) (f y)) Q E s
section
variable {M : Model} {A : Around} {E : Value → Shared → Prop} {s : Shared} {a : Addr} {its : Array Value} {H : Heap}
theorem LstAt.upd {h : Heap} (hl : LstAt h a its) (g : Array Value → Array Value) : LstAt (h.update a (Obj.mapSeq g)) a (g its) := by
  obtain ⟨n, e⟩ := hl
  exact ⟨_, Heap.get?_update_self _ e rfl⟩
theorem Others.upd {h : Heap} (ho : Others H a h) (g : Array Value → Array Value) : Others H a (h.update a (Obj.mapSeq g)) := fun b o hb e => (Heap.get?_update_other _ _ (Ne.symm hb)).trans (ho b o hb e)
theorem items_wp {Kf : Option (Array Value) → Sem (Array Value)} (hk : ∀ xs, Kf (some xs) = pure xs) {Q : Array Value → Shared → Prop} (hl : LstAt s.heap a its) (q : Q its s) : wpAny M A (seqItems? (.ref a) >>= Kf) Q E s := by
  obtain ⟨n, hl⟩ := hl
  refine wpAny_bind (wpAny_seqItems hl rfl ?_)
  rw [hk]
  exact wpAny_pure q
theorem less_wp {Kf : Option (Array Value) → Sem (Array Value)} (hk : ∀ xs, Kf (some xs) = pure xs) {K1 : Bool → Sem Bool} {x y : Value} {b : Bool} {n : Nat} {Q : Bool → Shared → Prop} (hl : LstAt s.heap a its) (hn : its.size = n)
    (hc : ∀ (Q : Value → Shared → Prop), Q (.bool b) s → wpAny M A (richCompare .Lt x y) Q E s) (q : Q b s) :
    wpAny M A ((holding [x, y] (richCompare .Lt x y >>= truthOfDropped)) >>= fun less => (seqItems? (.ref a) >>= Kf) >>= fun xs => if (xs.size != n) = true then K1 less else pure less) Q E s := by
  refine wpAny_bind (wpAny_holding (wpAny_bind (hc _ ?_)))
  show wpAny _ _ (truthy (.bool b)) _ _ _
  refine wpAny_truthy_bool (wpAny_bind (items_wp hk hl ?_))
  rw [if_neg (by rw [hn]; simp)]
  exact wpAny_pure q
theorem swap_wp {Kf : Option (Array Value) → Sem (Array Value)} (hk : ∀ xs, Kf (some xs) = pure xs) {Ka : Array Value → Nat → Sem Value} (hka : ∀ (xs : Array Value) (i : Nat) (v : Value), xs[i]? = some v → Ka xs i = pure v) {γ : Type} {f : γ → Value} {zs : Array γ} {i j : Nat} {Q : Unit → Shared → Prop}
    (hl : LstAt s.heap a (zs.map f)) (hi : i < zs.size) (hj : j < zs.size) (hz : zs.size ≤ sizeLine) (ho : Others H a s.heap)
    (q : ∀ h', LstAt h' a ((zs.swap i j hi hj).map f) → Others H a h' → Q () { s with heap := h' }) :
    wpAny M A ((seqItems? (.ref a) >>= Kf) >>= fun xs => Ka xs i >>= fun x => Ka xs j >>= fun y => updateSeq a fun xs => (xs.setIfInBounds i y).setIfInBounds j x) Q E s := by
  have e1 : (zs.map f)[i]? = some (f zs[i]) := by rw [Array.getElem?_map, Array.getElem?_eq_getElem hi]; rfl
  have e2 : (zs.map f)[j]? = some (f zs[j]) := by rw [Array.getElem?_map, Array.getElem?_eq_getElem hj]; rfl
  have e3 : ((zs.map f).setIfInBounds i (f zs[j])).setIfInBounds j (f zs[i]) = (zs.swap i j hi hj).map f := by
    apply Array.ext_getElem?
    intro k
    rw [Array.getElem?_map, Array.getElem?_swap, Array.getElem?_setIfInBounds, Array.getElem?_setIfInBounds, Array.size_setIfInBounds, Array.size_map, Array.getElem?_map]
    by_cases h1 : j = k
    · rw [if_pos h1, if_pos h1, if_pos hj]; rfl
    · rw [if_neg h1, if_neg h1]
      by_cases h2 : i = k
      · rw [if_pos h2, if_pos h2, if_pos hi]; rfl
      · rw [if_neg h2, if_neg h2]
  refine wpAny_bind (items_wp hk hl ?_)
  rw [hka _ _ _ e1]
  refine wpAny_bind (wpAny_pure ?_)
  rw [hka _ _ _ e2]
  refine wpAny_bind (wpAny_pure ?_)
  obtain ⟨n, hl'⟩ := hl
  refine wpAny_updateSeq hl' rfl (q _ ?_ (ho.upd _)) (by rw [Array.size_map]; exact hz) (by rw [Array.size_setIfInBounds, Array.size_setIfInBounds, Array.size_map]; omega)
  have := LstAt.upd ⟨n, hl'⟩ fun xs => (xs.setIfInBounds i (f zs[j])).setIfInBounds j (f zs[i])
  rw [e3] at this
  exact this
end
section
variable {prog : Program} {w : World} {A : Around} {R : Result → Shared → Prop} {s : Shared} {γ : Type} {lt : γ → γ → Bool} {P : γ → Prop} {f : γ → Value} {H : Heap} {a : Addr}
theorem map_at {zs : Array γ} {i : Nat} {x : γ} (h : zs[i]? = some x) : (zs.map f)[i]? = some (f x) := by
  rw [Array.getElem?_map, h]
  rfl
/-- what a call to be gone on with is -/
def Fn (prog : Program) (w : World) (A : Around) (R : Result → Shared → Prop) (fin : PySem.Fin) (s' : Shared) : Prop := match fin with
  | .done f => R (.ok f) s'
  | .again c' => c'.quiet = true ∧ codeAny (model prog w) A c' R s'
theorem up_run (o : Ord lt P) (hc : CmpH prog w A.in1 H a f lt P) (res : Value) :
    ∀ (n p : Nat) (zs : Array γ) (s : Shared), p ≤ n → p < zs.size → zs.size ≤ sizeLine → AllP P zs → HX lt zs p → LstAt s.heap a (zs.map f) → Others H a s.heap →
    (∀ (ys : Array γ) (s' : Shared), ys.Perm zs → AllP P ys → HP lt ys → LstAt s'.heap a (ys.map f) → Others H a s'.heap → s' = { s with heap := s'.heap } → R (.ok (.ret res)) s') →
    codeAny (model prog w) A (.builtin "_heapq.heapify.sift" ⟨[.ref a, .bool false, .bool false, rawInt p, rawInt 0, res, rawInt (-1)], []⟩) R s := by
  intro n
  induction n with
  | zero =>
    intro p zs s hn hp hz hP hx hl ho k
    have h0 : p = 0 := by omega
    subst h0
    refine codeAny_builtin entry_sift ?_
    rw [Around.under_plainId plain_sift _]
    refine wpAny_bind (items_wp (fun _ => rfl) hl ?_)
    exact wpAny_pure (k zs s (.refl _) hP (up_done o hP hx fun h => absurd h (Nat.lt_irrefl _)) hl ho rfl)
  | succ n ih =>
    intro p zs s hn hp hz hP hx hl ho k
    by_cases h0 : 0 < p
    · have hpp := par_lt h0
      have hq : par p < zs.size := by omega
      obtain ⟨x, hx1⟩ := some_of_lt hp
      obtain ⟨y, hy1⟩ := some_of_lt hq
      have h0' : (Int.toNat (p : Int)) > (Int.toNat ((0 : Nat) : Int)) := by simpa using h0
      refine codeAny_builtin entry_sift ?_
      rw [Around.under_plainId plain_sift _]
      refine wpAny_bind (items_wp (fun _ => rfl) hl ?_)
      simp only [Bool.false_eq_true, if_false, Int.toNat_natCast]
      rw [if_pos (by simpa using h0)]
      refine wpAny_bind ?_
      show wpAny _ _ (match (zs.map f)[p]? with | some v => pure v | none => _) _ _ s
      rw [map_at hx1]
      refine wpAny_pure (wpAny_bind ?_)
      show wpAny _ _ (match (zs.map f)[par p]? with | some v => pure v | none => _) _ _ s
      rw [map_at hy1]
      refine wpAny_pure (wpAny_bind (less_wp (fun _ => rfl) hl rfl (fun Q q => hc x y s Q _ ho (hP _ _ hx1) (hP _ _ hy1) q) ?_))
      cases hb : lt x y with
      | true =>
        refine wpAny_bind (swap_wp (fun _ => rfl) (fun xs i v e => ?_) hl hq hp hz ho fun h' hl' ho' => ?_)
        · show (match xs[i]? with | some v => pure v | none => _) = _
          rw [e]
        · refine wpAny_pure ⟨plainId_quiet plain_sift _, ih (par p) _ _ (by omega) (by rw [Array.size_swap]; exact hq) (by rw [Array.size_swap]; exact hz) (sw_all hq hp hP) (up_step o hP h0 hp hq hx fun x' y' e1 e2 => by
            rw [hx1] at e1
            rw [hy1] at e2
            cases e1
            cases e2
            exact hb) hl' ho' fun ys s' e1 e2 e3 e4 e5 e6 => k ys s' (e1.trans (Array.swap_perm hq hp)) e2 e3 e4 e5 e6⟩
      | false =>
        exact wpAny_pure (k zs s (.refl _) hP (up_done o hP hx fun _ x' y' e1 e2 => by
            rw [hx1] at e1
            rw [hy1] at e2
            cases e1
            cases e2
            exact hb) hl ho rfl)
    · exact ih p zs s (by omega) hp hz hP hx hl ho k
theorem at_k {xs : Array Value} {i : Nat} {v : Value} {K : Option Value → Sem Value} (hk : ∀ v, K (some v) = pure v) (e : xs[i]? = some v) : K xs[i]? = pure v := by rw [e]; exact hk v
theorem down_run (o : Ord lt P) (hc : CmpH prog w A.in1 H a f lt P) (res : Value) :
    ∀ (n p : Nat) (zs : Array γ) (s : Shared), zs.size - p ≤ n → p < zs.size → zs.size ≤ sizeLine → AllP P zs → HD lt zs p → LstAt s.heap a (zs.map f) → Others H a s.heap →
    (∀ (ys : Array γ) (s' : Shared), ys.Perm zs → AllP P ys → HP lt ys → LstAt s'.heap a (ys.map f) → Others H a s'.heap → s' = { s with heap := s'.heap } → R (.ok (.ret res)) s') →
    codeAny (model prog w) A (.builtin "_heapq.heapify.sift" ⟨[.ref a, .bool false, .bool true, rawInt p, rawInt 0, res, rawInt (-1)], []⟩) R s := by
  intro n
  induction n with
  | zero =>
    intro p zs s hn hp
    omega
  | succ n ih =>
    intro p zs s hn hp hz hP hx hl ho k
    have msz : (zs.map f).size = zs.size := Array.size_map
    have go : ∀ (c : Nat), (hc0 : 0 < c) → (hcp : par c = p) → (hcz : c < zs.size) → (hm : ∀ i, 0 < i → par i = p → i ≠ c → leAt lt zs c i) → ∀ (h' : Heap), LstAt h' a ((zs.swap c p hcz hp).map f) → Others H a h' →
        (Code.builtin "_heapq.heapify.sift" ⟨[.ref a, .bool false, .bool true, rawInt (c : Nat), rawInt 0, res, rawInt (-1)], []⟩).quiet = true ∧ codeAny (model prog w) A (.builtin "_heapq.heapify.sift" ⟨[.ref a, .bool false, .bool true, rawInt (c : Nat), rawInt 0, res, rawInt (-1)], []⟩) R { s with heap := h' } := by
      intro c hc0 hcp hcz hm h' hl' ho'
      have := par_lt hc0
      exact ⟨plainId_quiet plain_sift _, ih c _ _ (by rw [Array.size_swap]; omega) (by rw [Array.size_swap]; exact hcz) (by rw [Array.size_swap]; exact hz) (sw_all hcz hp hP) (down_step o hP hp hcz hc0 hcp hx hm) hl' ho' fun ys s' e1 e2 e3 e4 e5 e6 => k ys s' (e1.trans (Array.swap_perm hcz hp)) e2 e3 e4 e5 e6⟩
    refine codeAny_builtin entry_sift ?_
    rw [Around.under_plainId plain_sift _]
    refine wpAny_bind (items_wp (fun _ => rfl) hl ?_)
    simp only [if_true, Bool.false_eq_true, if_false, Int.toNat_natCast]
    by_cases h0 : p < (zs.map f).size / 2
    · rw [if_pos h0]
      have hlz : 2 * p + 1 < zs.size := by omega
      by_cases h1 : 2 * p + 1 + 1 < (zs.map f).size
      · rw [if_pos h1]
        have hrz : 2 * p + 2 < zs.size := by omega
        obtain ⟨x, hx1⟩ := some_of_lt hlz
        obtain ⟨y, hy1⟩ := some_of_lt hrz
        refine wpAny_bind ?_
        show wpAny _ _ (match (zs.map f)[2 * p + 1]? with | some v => pure v | none => _) _ _ s
        rw [map_at hx1]
        refine wpAny_pure (wpAny_bind ?_)
        show wpAny _ _ (match (zs.map f)[2 * p + 2]? with | some v => pure v | none => _) _ _ s
        rw [map_at hy1]
        refine wpAny_pure (wpAny_bind (less_wp (fun _ => rfl) hl rfl (fun Q q => hc x y s Q _ ho (hP _ _ hx1) (hP _ _ hy1) q) ?_))
        cases hb : lt x y with
        | true =>
          refine wpAny_bind (swap_wp (i := 2 * p + 1) (fun _ => rfl) (fun xs i v e => ?_) hl hlz hp hz ho fun h' hl' ho' => ?_)
          · show (match xs[i]? with | some v => pure v | none => _) = _
            rw [e]
          · refine wpAny_pure (go (2 * p + 1) (by omega) (by unfold par; omega) hlz (fun i hi hpi hne => ?_) h' hl' ho')
            have : i = 2 * p + 2 := by unfold par at hpi; omega
            subst this
            intro x' y' e1 e2
            rw [hx1] at e1
            rw [hy1] at e2
            cases e1
            cases e2
            exact o.asy _ _ (hP _ _ hx1) (hP _ _ hy1) hb
        | false =>
          refine wpAny_bind (swap_wp (i := 2 * p + 2) (fun _ => rfl) (fun xs i v e => ?_) hl hrz hp hz ho fun h' hl' ho' => ?_)
          · show (match xs[i]? with | some v => pure v | none => _) = _
            rw [e]
          · refine wpAny_pure (go (2 * p + 2) (by omega) (by unfold par; omega) hrz (fun i hi hpi hne => ?_) h' hl' ho')
            have : i = 2 * p + 1 := by unfold par at hpi; omega
            subst this
            intro x' y' e1 e2
            rw [hy1] at e1
            rw [hx1] at e2
            cases e1
            cases e2
            exact hb
      · rw [if_neg h1]
        refine wpAny_bind (swap_wp (i := 2 * p + 1) (fun _ => rfl) (fun xs i v e => ?_) hl hlz hp hz ho fun h' hl' ho' => ?_)
        · show (match xs[i]? with | some v => pure v | none => _) = _
          rw [e]
        · refine wpAny_pure (go (2 * p + 1) (by omega) (by unfold par; omega) hlz (fun i hi hpi hne => ?_) h' hl' ho')
          intro x' y' e1 e2
          have := lt_of_some e2
          unfold par at hpi
          omega
    · rw [if_neg h0]
      exact wpAny_pure ⟨plainId_quiet plain_sift _, up_run o hc res p p zs s (Nat.le_refl _) hp hz hP (down_done hx (by omega)) hl ho k⟩
/-! the two calls -/
theorem plain_push : plainId "_heapq.heappush" = true := by decide +kernel
theorem entry_push : entryFor table "_heapq.heappush" = some Builtin.«_heapq.heappush» := entryFor_of_fast (by kernel_rfl)
theorem plain_pop : plainId "_heapq.heappop" = true := by decide +kernel
theorem entry_pop : entryFor table "_heapq.heappop" = some Builtin.«_heapq.heappop» := entryFor_of_fast (by kernel_rfl)
theorem args_push (u v : Value) : argsOk "_heapq.heappush" ⟨[u, v], []⟩ := by unfold argsOk; kernel_rfl
theorem args_pop (u : Value) : argsOk "_heapq.heappop" ⟨[u], []⟩ := by unfold argsOk; kernel_rfl
theorem kind_push : builtinKind "_heapq.heappush" = none := by decide +kernel
theorem kind_pop : builtinKind "_heapq.heappop" = none := by decide +kernel
theorem push_call (o : Ord lt P) (hc : CmpH prog w A.in1 H a f lt P) {zs : Array γ} {z : γ} {Q : Value → Shared → Prop} {E : Value → Shared → Prop} (hz : zs.size < sizeLine) (hP : AllP P zs) (hPz : P z) (hx : HP lt zs) (hl : LstAt s.heap a (zs.map f)) (ho : Others H a s.heap)
    (k : ∀ (ys : Array γ) (h' : Heap), ys.Perm (zs.push z) → AllP P ys → HP lt ys → LstAt h' a (ys.map f) → Others H a h' → Q .none { s with heap := h' }) :
    wpAny (model prog w) A (call (.builtin "_heapq.heappush") [.ref a, f z]) Q E s := by
  have hT : s.TypeIs (.ref a) "list" := by
    obtain ⟨n, e⟩ := hl
    exact ⟨_, e, rfl⟩
  have ep : (zs.map f).push (f z) = (zs.push z).map f := by simp
  have sz : (zs.push z).size = zs.size + 1 := Array.size_push _
  refine call_function_tree kind_push plain_push entry_push (args_push _ _) ?_
  show wpAny _ A.in1 ((((isInstance (.ref a) (.type "list")) >>= _) >>= _) >>= _) _ _ s
  refine wpAny_bind (wpAny_bind (wpAny_bind (wpAny_isInstance (b := true) hT sub_list_self ?_)))
  refine wpAny_pure (wpAny_pure ?_)
  have hl2 : LstAt (s.heap.update a (Obj.mapSeq (·.push (f z)))) a ((zs.push z).map f) := by
    have := hl.upd (·.push (f z))
    rw [ep] at this
    exact this
  have ho2 := ho.upd (·.push (f z))
  obtain ⟨n, e⟩ := hl
  refine wpAny_bind (wpAny_updateSeq e rfl ?_ (by rw [Array.size_map]; omega) (by rw [Array.size_push, Array.size_map]; omega))
  refine wpAny_bind (items_wp (fun _ => rfl) hl2 ?_)
  refine wpAny_pure ⟨plainId_quiet plain_sift _, ?_⟩
  have e0 : ((zs.push z).map f).size - 1 = zs.size := by rw [Array.size_map, sz]; omega
  rw [e0]
  exact up_run o hc .none zs.size zs.size (zs.push z) _ (Nat.le_refl _) (by omega) (by omega) (fun i x e => by
    rw [Array.getElem?_push] at e
    split at e
    · cases e
      exact hPz
    · exact hP _ _ e) (hx_push hx) hl2 ho2 fun ys s' e1 e2 e3 e4 e5 e6 => by
      rw [e6]
      exact k ys _ e1 e2 e3 e4 e5
theorem pop_call (o : Ord lt P) (hr : ∀ x, P x → lt x x = false) (hc : CmpH prog w A.in1 H a f lt P) {zs : Array γ} {Q : Value → Shared → Prop} {E : Value → Shared → Prop} (h0 : 0 < zs.size) (hz : zs.size ≤ sizeLine) (hP : AllP P zs) (hx : HP lt zs) (hl : LstAt s.heap a (zs.map f)) (ho : Others H a s.heap)
    (k : ∀ (z : γ) (ys : Array γ) (h' : Heap), (ys.push z).Perm zs → (∀ y, y ∈ ys → lt y z = false) → P z → AllP P ys → HP lt ys → LstAt h' a (ys.map f) → Others H a h' → Q (f z) { s with heap := h' }) :
    wpAny (model prog w) A (call (.builtin "_heapq.heappop") [.ref a]) Q E s := by
  have hT : s.TypeIs (.ref a) "list" := by
    obtain ⟨n, e⟩ := hl
    exact ⟨_, e, rfl⟩
  have hl0 := hl
  have msz : (zs.map f).size = zs.size := Array.size_map
  obtain ⟨n, e⟩ := hl
  have hlast : zs.size - 1 < zs.size := by omega
  have eb : (zs.map f).back? = some (f zs[zs.size - 1]) := by
    rw [Array.back?_eq_getElem?, msz, Array.getElem?_map, Array.getElem?_eq_getElem hlast]
    rfl
  have hl2 : LstAt (s.heap.update a (Obj.mapSeq (·.pop))) a (zs.pop.map f) := by
    have := LstAt.upd ⟨n, e⟩ (·.pop)
    rw [← Array.map_pop] at this
    exact this
  have ho2 := ho.upd (·.pop)
  have le0 : ∀ i, i < zs.size → leAt lt zs 0 i := fun i hi => root_le o hP hr hx i i (Nat.le_refl _) hi
  have hPp : AllP P zs.pop := fun i x e => by
    rw [Array.getElem?_pop] at e
    split at e
    · exact hP _ _ e
    · cases e
  refine call_function_tree kind_pop plain_pop entry_pop (args_pop _) ?_
  refine wpAny_bind (wpAny_bind (m := oneArg "_heapq.heappop" _) (wpAny_pure ?_))
  refine wpAny_bind (wpAny_bind (wpAny_isInstance (b := true) hT sub_list_self ?_))
  refine wpAny_pure (wpAny_pure ?_)
  refine wpAny_bind (items_wp (fun _ => rfl) hl0 ?_)
  rw [eb]
  refine wpAny_bind (wpAny_updateSeq e rfl ?_ (by rw [msz]; omega) (by rw [Array.size_pop, msz]; omega))
  have epp : zs.pop.push zs[zs.size - 1] = zs := by
    apply Array.ext_getElem?
    intro i
    rw [Array.getElem?_push, Array.size_pop, Array.getElem?_pop]
    by_cases q : i = zs.size - 1
    · subst q
      rw [if_pos rfl, Array.getElem?_eq_getElem hlast]
    · rw [if_neg q]
      by_cases q2 : i < zs.size - 1
      · rw [if_pos q2]
      · rw [if_neg q2, Array.getElem?_eq_none (by omega)]
  by_cases h1 : zs.size = 1
  · rw [if_pos (by rw [msz, h1]; simp)]
    have i0 : zs.size - 1 = 0 := by omega
    refine wpAny_pure (k zs[zs.size - 1] zs.pop _ (by rw [epp]) (fun y hy => ?_) (hP (zs.size - 1) _ (Array.getElem?_eq_getElem hlast)) hPp (hp_pop hx) hl2 ho2)
    have : zs.pop.size = 0 := by rw [Array.size_pop]; omega
    rw [Array.eq_empty_of_size_eq_zero this] at hy
    exact absurd hy (Array.not_mem_empty _)
  · rw [if_neg (by rw [msz]; simpa using h1)]
    have h0z : 0 < zs.size := h0
    have e00 : zs[0]? = some zs[0] := Array.getElem?_eq_getElem h0
    refine wpAny_bind ?_
    show wpAny _ _ (match (zs.map f)[0]? with | some v => pure v | none => _) _ _ _
    rw [map_at e00]
    obtain ⟨n2, e2⟩ := id hl2
    refine wpAny_pure (wpAny_bind (wpAny_updateSeq e2 rfl ?_ (by rw [Array.size_map, Array.size_pop]; omega) (by rw [Array.size_setIfInBounds, Array.size_map, Array.size_pop]; omega)))
    have hl3 := hl2.upd (·.setIfInBounds 0 (f zs[zs.size - 1]))
    have e3 : (zs.pop.map f).setIfInBounds 0 (f zs[zs.size - 1]) = (zs.pop.setIfInBounds 0 zs[zs.size - 1]).map f := by rw [Array.map_setIfInBounds]
    rw [e3] at hl3
    have ho3 := ho2.upd (·.setIfInBounds 0 (f zs[zs.size - 1]))
    have s3 : (zs.pop.setIfInBounds 0 zs[zs.size - 1]).size = zs.size - 1 := by rw [Array.size_setIfInBounds, Array.size_pop]
    have hPl : P zs[zs.size - 1] := hP (zs.size - 1) _ (Array.getElem?_eq_getElem hlast)
    have hP0 : P zs[0] := hP 0 _ e00
    have eswap : (zs.pop.setIfInBounds 0 zs[zs.size - 1]).push zs[0] = zs.swap 0 (zs.size - 1) h0 hlast := by
      apply Array.ext_getElem?
      intro i
      rw [Array.getElem?_push, s3, Array.getElem?_swap, Array.getElem?_setIfInBounds, Array.size_pop, Array.getElem?_pop]
      by_cases q : i = zs.size - 1
      · rw [if_pos q, if_pos q.symm]
      · rw [if_neg q, if_neg (Ne.symm q)]
        by_cases q2 : 0 = i
        · rw [if_pos q2, if_pos q2, if_pos (by omega)]
        · rw [if_neg q2, if_neg q2]
          by_cases q3 : i < zs.size - 1
          · rw [if_pos q3]
          · rw [if_neg q3, Array.getElem?_eq_none (by omega)]
    refine wpAny_pure ⟨plainId_quiet plain_sift _, down_run o hc (f zs[0]) zs.size 0 (zs.pop.setIfInBounds 0 zs[zs.size - 1]) _ (by omega) (by omega) (by omega) (fun i x q => ?_) (hd_set (hp_pop hx)) hl3 ho3 fun ys s' e1 e2' e3' e4 e5 e6 => ?_⟩
    · rw [Array.getElem?_setIfInBounds] at q
      split at q
      · split at q
        · cases q
          exact hPl
        · cases q
      · exact hPp _ _ q
    · rw [e6]
      have pe : (ys.push zs[0]).Perm zs := ((e1.push _).trans (by rw [eswap])).trans (Array.swap_perm h0 hlast)
      refine k zs[0] ys _ pe (fun y hy => ?_) hP0 e2' e3' e4 e5
      have hy2 : y ∈ zs := pe.mem_iff.mp (by rw [Array.mem_push]; exact .inl hy)
      obtain ⟨i, hi, ei⟩ := Array.mem_iff_getElem.mp hy2
      exact le0 i hi _ _ e00 (by rw [Array.getElem?_eq_getElem hi, ei])
end
end Hq
end Slip
/-! rules of our own over the hand layer: one rule an operator, whatever its operands are -/
namespace Slip
open PySem PySem.Spec PyProof.Rows L2
section
variable {X : Cx} {e tg : Expr}
theorem pe_alt {t1 t2 : TE} (h1 : PE X e t1) (h2 : PE X e t2) : PE X e (fun σ H Q => t1 σ H Q ∨ t2 σ H Q) :=
  ⟨fun pins s σ H Q I h => h.elim (h1.run pins s σ H Q I) (h2.run pins s σ H Q I)⟩
theorem pi_alt {w1 w2 : TI} (h1 : PI X tg e w1) (h2 : PI X tg e w2) : PI X tg e (fun σ H R => w1 σ H R ∨ w2 σ H R) :=
  ⟨fun pins s σ H R I h => h.elim (h1.run pins s σ H R I) (h2.run pins s σ H R I)⟩
theorem pg_alt {g1 g2 : TG} (h1 : PG X e g1) (h2 : PG X e g2) : PG X e (fun v σ H Q => g1 v σ H Q ∨ g2 v σ H Q) :=
  ⟨fun pins s σ H v u Q I r h => h.elim (h1.run pins s σ H v u Q I r) (h2.run pins s σ H v u Q I r)⟩
theorem pset_alt {t1 t2 : TSet} (h1 : PSet X t1) (h2 : PSet X t2) : PSet X (fun o i v H Q => t1 o i v H Q ∨ t2 o i v H Q) :=
  fun pins s σ H o i v ov iv u Q I r1 r2 r3 h => h.elim (h1 pins s σ H o i v ov iv u Q I r1 r2 r3) (h2 pins s σ H o i v ov iv u Q I r1 r2 r3)
end
/-! ### comparisons of data -/
def rCmp (K : PySem.W.Frag) (g : PyData → PyData → Bool) : R2 := fun x y H Q => ∃ d e, Dp K H x d ∧ Dp K H y e ∧ PySem.W.alike d e = true ∧ d ≠ .none ∧ d.depth ≤ 64 ∧ Q (.bl (g d e)) H
abbrev gLt (d e : PyData) : Bool := PySem.W.dataLt d e
abbrev gGt (d e : PyData) : Bool := PySem.W.dataLt e d
abbrev gLe (d e : PyData) : Bool := !PySem.W.dataLt e d
abbrev gGe (d e : PyData) : Bool := !PySem.W.dataLt d e
section
variable {X : Cx}
theorem room_min {A : Around} {d e : PyData} (hd : d.depth ≤ 64) (hu : A.units + 64 < cLine) : A.units + min d.depth e.depth < cLine := by
  have := Nat.min_le_left d.depth e.depth
  omega
theorem op_ltD (hu : X.A.units + 64 < cLine) : OpR X (compareOp .Lt) (rCmp X.K gLt) := by
  intro pins s σ H x y v u Q I rx ry h
  obtain ⟨d, e, hd, he, al, nn, dp, q⟩ := h
  obtain ⟨as, r1⟩ := Dp.reads I d x v hd rx
  obtain ⟨bs, r2⟩ := Dp.reads I e y u he ry
  exact PySem.W.lt_data r1 r2 al nn (room_min dp hu) ⟨.bl _, H, I, rfl, q⟩
theorem op_gtD (hu : X.A.units + 64 < cLine) : OpR X (compareOp .Gt) (rCmp X.K gGt) := by
  intro pins s σ H x y v u Q I rx ry h
  obtain ⟨d, e, hd, he, al, nn, dp, q⟩ := h
  obtain ⟨as, r1⟩ := Dp.reads I d x v hd rx
  obtain ⟨bs, r2⟩ := Dp.reads I e y u he ry
  exact PySem.W.gt_data r1 r2 al nn (room_min dp hu) ⟨.bl _, H, I, rfl, q⟩
theorem op_leD (hu : X.A.units + 64 < cLine) : OpR X (compareOp .LtE) (rCmp X.K gLe) := by
  intro pins s σ H x y v u Q I rx ry h
  obtain ⟨d, e, hd, he, al, nn, dp, q⟩ := h
  obtain ⟨as, r1⟩ := Dp.reads I d x v hd rx
  obtain ⟨bs, r2⟩ := Dp.reads I e y u he ry
  exact PySem.W.le_data r1 r2 al nn (room_min dp hu) ⟨.bl _, H, I, rfl, q⟩
theorem op_geD (hu : X.A.units + 64 < cLine) : OpR X (compareOp .GtE) (rCmp X.K gGe) := by
  intro pins s σ H x y v u Q I rx ry h
  obtain ⟨d, e, hd, he, al, nn, dp, q⟩ := h
  obtain ⟨as, r1⟩ := Dp.reads I d x v hd rx
  obtain ⟨bs, r2⟩ := Dp.reads I e y u he ry
  exact PySem.W.ge_data r1 r2 al nn (room_min dp hu) ⟨.bl _, H, I, rfl, q⟩
end
/-! ### arithmetic by names -/
abbrev rSubI : R2 := rI0 fun i j => .int (i - j)
abbrev rAddI : R2 := rI0 fun i j => .int (i + j)
abbrev rAddS : R2 := fun x y H Q => ∃ i j, x = .str i ∧ y = .str j ∧ i.length + j.length ≤ sizeLine ∧ Q (.str (i ++ j)) H
/-! ### isinstance of data -/
/-- the built-in class of a datum -/
def tyD : PyData → String
  | .none => "NoneType"
  | .bool _ => "bool"
  | .int _ => "int"
  | .str _ => "str"
  | .list _ => "list"
  | .tuple _ => "tuple"
  | .dict _ => "dict"
end Slip
/-! what an expression comes to, with a relation between heaps -/
namespace Slip
open PySem PySem.Spec PyProof.Rows L2
abbrev Frag := PySem.W.Frag
/-- a list of one number, not below nought -/
def Spot (a : Addr) (H : Hp) : Prop := ∃ k : Int, 0 ≤ k ∧ H a = some (.lst [.int k])
/-- which objects may change (S), which of them stay a list of one number (P) -/
structure Rl where
  S : Addr → Prop
  P : Addr → Prop
  sub : ∀ a, P a → S a
structure Rl.r (ρ : Rl) (H H' : Hp) : Prop where
  keep : ∀ a o, ¬ ρ.S a → H a = some o → H' a = some o
  back : ∀ a, H' a = none → H a = none
  tup : ∀ a xs, H a = some (.tup xs) → H' a = some (.tup xs)
  frz : ∀ a o u, H a = some (.frz o u) → H' a = some (.frz o u)
  spot : ∀ a, ρ.P a → Spot a H → Spot a H'
abbrev exR : Rl := ⟨fun _ => False, fun _ => False, fun _ h => h⟩
abbrev spR (a : Addr) : Rl := ⟨fun b => b = a, fun b => b = a, fun _ h => h⟩
/-- D may change too -/
abbrev Rl.and (ρ : Rl) (D : Addr) : Rl := ⟨fun a => ρ.S a ∨ a = D, ρ.P, fun a h => .inl (ρ.sub a h)⟩
abbrev Ext (H H' : Hp) : Prop := ∀ a o, H a = some o → H' a = some o
theorem Ext.r {ρ : Rl} {H H' : Hp} (e : Ext H H') : ρ.r H H' :=
  ⟨fun a o _ h => e a o h, fun a h => Evl.fresh_back e h, fun a xs h => e a _ h, fun a o u h => e a _ h, fun a _ ⟨k, h0, h⟩ => ⟨k, h0, e a _ h⟩⟩
theorem Rl.r.rfl {ρ : Rl} {H : Hp} : ρ.r H H := Ext.r fun _ _ h => h
theorem Rl.r.trans {ρ : Rl} {H H1 H2 : Hp} (a : ρ.r H H1) (b : ρ.r H1 H2) : ρ.r H H2 :=
  ⟨fun x o n h => b.keep x o n (a.keep x o n h), fun x h => a.back x (b.back x h), fun x xs h => b.tup x xs (a.tup x xs h), fun x o u h => b.frz x o u (a.frz x o u h), fun x p h => b.spot x p (a.spot x p h)⟩
theorem Rl.r.ext {H H' : Hp} (e : exR.r H H') : Ext H H' := fun a o h => e.keep a o (fun z => z) h
theorem ext_new {H : Hp} {p : Addr} (o : HO) (h : H p = none) : Ext H (upd H p o) := fun a u q => by rw [upd_ne (ne_of_none q h)]; exact q
theorem r_new {ρ : Rl} {H : Hp} {p : Addr} (o : HO) (h : H p = none) : ρ.r H (upd H p o) := Ext.r (ext_new o h)
theorem r_new2 {ρ : Rl} {H H1 : Hp} (e : ρ.r H H1) {p : Addr} (o : HO) (h : H1 p = none) : ρ.r H (upd H1 p o) := e.trans (r_new o h)
/-- an object that H does not know may change, if it is no tuple, none that is locked -/
theorem r_mut {ρ : Rl} {H H1 : Hp} {p : Addr} {o : HO} (e : ρ.r H H1) (h : H p = none) : ρ.r H (upd H1 p o) :=
  ⟨fun a u n q => by rw [upd_ne (ne_of_none q h)]; exact e.keep a u n q,
   fun a q => by
    by_cases z : a = p
    · subst z; exact h
    · rw [upd_ne z] at q; exact e.back a q,
   fun a xs q => by rw [upd_ne (ne_of_none q h)]; exact e.tup a xs q, fun a u v q => by rw [upd_ne (ne_of_none q h)]; exact e.frz a u v q,
   fun a n ⟨k, h0, q⟩ => by
    obtain ⟨k', h0', q'⟩ := e.spot a n ⟨k, h0, q⟩
    exact ⟨k', h0', by rw [upd_ne (ne_of_none q h)]; exact q'⟩⟩
/-! ### sequences and data -/
/-- at a a list or a tuple of xs -/
def SqA (K : Frag) (H : Hp) (a : Addr) (xs : List V) : Prop := SqL K H a xs ∨ SqT K H a xs
theorem Rl.r.sqT {ρ : Rl} {K : Frag} {H H' : Hp} {a : Addr} {xs : List V} (e : ρ.r H H') (h : SqT K H a xs) : SqT K H' a xs := by
  rcases h with (h | ⟨o, h⟩) | h
  · exact .inl (.inl (e.tup _ _ h))
  · exact .inl (.inr ⟨o, e.frz _ _ _ h⟩)
  · exact .inr h
theorem Rl.r.sqL {ρ : Rl} {K : Frag} {H H' : Hp} {a : Addr} {xs : List V} (e : ρ.r H H') (n : ¬ ρ.S a) (h : SqL K H a xs) : SqL K H' a xs := by
  rcases h with (h | ⟨o, h⟩) | h
  · exact .inl (.inl (e.keep _ _ n h))
  · exact .inl (.inr ⟨o, e.frz _ _ _ h⟩)
  · exact .inr h
theorem ext_sqL {K : Frag} {H H' : Hp} {a : Addr} {xs : List V} (e : Ext H H') (h : SqL K H a xs) : SqL K H' a xs := Rl.r.sqL (ρ := exR) (Ext.r e) (fun z => z) h
theorem ext_sqT {K : Frag} {H H' : Hp} {a : Addr} {xs : List V} (e : Ext H H') (h : SqT K H a xs) : SqT K H' a xs := Rl.r.sqT (ρ := exR) (Ext.r e) h
theorem ext_sqA {K : Frag} {H H' : Hp} {a : Addr} {xs : List V} (e : Ext H H') (h : SqA K H a xs) : SqA K H' a xs := h.imp (ext_sqL e) (ext_sqT e)
/- data made in the heap: a list stands where A allows it -/
mutual
inductive Dq (A : Addr → Prop) (H : Hp) : V → PyData → Prop
  | non : Dq A H .non .none
  | bl (b : Bool) : Dq A H (.bl b) (.bool b)
  | int (i : Int) : Dq A H (.int i) (.int i)
  | str (x : Str) : Dq A H (.str x) (.str x)
  | lst {a : Addr} {xs : List V} {ds : List PyData} : A a → H a = some (.lst xs) → DqAll A H xs ds → Dq A H (.ref a) (.list ds)
  | tup {a : Addr} {xs : List V} {ds : List PyData} : H a = some (.tup xs) → DqAll A H xs ds → Dq A H (.ref a) (.tuple ds)
inductive DqAll (A : Addr → Prop) (H : Hp) : List V → List PyData → Prop
  | nil : DqAll A H [] []
  | cons {v : V} {vs : List V} {d : PyData} {ds : List PyData} : Dq A H v d → DqAll A H vs ds → DqAll A H (v :: vs) (d :: ds)
end
mutual
theorem Dq.dp {A : Addr → Prop} {K : Frag} {H : Hp} : ∀ (d : PyData) (v : V), Dq A H v d → Dp K H v d
  | .none, _, h => by cases h; exact .non
  | .bool b, _, h => by cases h; exact .bl b
  | .int i, _, h => by cases h; exact .int i
  | .str x, _, h => by cases h; exact .str x
  | .list ds, _, h => by cases h with | lst _ hs ha => exact .lst (.of hs) (DqAll.dp ds _ ha)
  | .tuple ds, _, h => by cases h with | tup hs ha => exact .tup (.inl (.inl hs)) (DqAll.dp ds _ ha)
  | .dict _, _, h => by cases h
theorem DqAll.dp {A : Addr → Prop} {K : Frag} {H : Hp} : ∀ (ds : List PyData) (vs : List V), DqAll A H vs ds → DpAll K H vs ds
  | [], _, h => by cases h; exact .nil
  | d :: ds, _, h => by cases h with | cons h1 h2 => exact .cons (Dq.dp d _ h1) (DqAll.dp ds _ h2)
end
mutual
theorem Dq.move {A A' : Addr → Prop} {H H' : Hp} (hl : ∀ a xs, A a → H a = some (.lst xs) → A' a ∧ H' a = some (.lst xs)) (ht : ∀ a xs, H a = some (.tup xs) → H' a = some (.tup xs)) : ∀ (d : PyData) (v : V), Dq A H v d → Dq A' H' v d
  | .none, _, h => by cases h; exact .non
  | .bool b, _, h => by cases h; exact .bl b
  | .int i, _, h => by cases h; exact .int i
  | .str x, _, h => by cases h; exact .str x
  | .list ds, _, h => by cases h with | lst n hs ha => exact .lst (hl _ _ n hs).1 (hl _ _ n hs).2 (DqAll.move hl ht ds _ ha)
  | .tuple ds, _, h => by cases h with | tup hs ha => exact .tup (ht _ _ hs) (DqAll.move hl ht ds _ ha)
  | .dict _, _, h => by cases h
theorem DqAll.move {A A' : Addr → Prop} {H H' : Hp} (hl : ∀ a xs, A a → H a = some (.lst xs) → A' a ∧ H' a = some (.lst xs)) (ht : ∀ a xs, H a = some (.tup xs) → H' a = some (.tup xs)) : ∀ (ds : List PyData) (vs : List V), DqAll A H vs ds → DqAll A' H' vs ds
  | [], _, h => by cases h; exact .nil
  | d :: ds, _, h => by cases h with | cons h1 h2 => exact .cons (Dq.move hl ht d _ h1) (DqAll.move hl ht ds _ h2)
end
/- no list within -/
mutual
def noList : PyData → Bool
  | .list _ => false
  | .tuple ds => noLists ds
  | _ => true
def noLists : List PyData → Bool
  | [] => true
  | d :: ds => noList d && noLists ds
end
mutual
theorem Dq.tups {A A' : Addr → Prop} {H H' : Hp} (ht : ∀ a xs, H a = some (.tup xs) → H' a = some (.tup xs)) : ∀ (d : PyData) (v : V), noList d = true → Dq A H v d → Dq A' H' v d
  | .none, _, _, h => by cases h; exact .non
  | .bool b, _, _, h => by cases h; exact .bl b
  | .int i, _, _, h => by cases h; exact .int i
  | .str x, _, _, h => by cases h; exact .str x
  | .list ds, _, n, h => by cases n
  | .tuple ds, _, n, h => by cases h with | tup hs ha => exact .tup (ht _ _ hs) (DqAll.tups ht ds _ (by simpa [noList] using n) ha)
  | .dict _, _, _, h => by cases h
theorem DqAll.tups {A A' : Addr → Prop} {H H' : Hp} (ht : ∀ a xs, H a = some (.tup xs) → H' a = some (.tup xs)) : ∀ (ds : List PyData) (vs : List V), noLists ds = true → DqAll A H vs ds → DqAll A' H' vs ds
  | [], _, _, h => by cases h; exact .nil
  | d :: ds, _, n, h => by
    have n' : noList d = true ∧ noLists ds = true := by simpa [noLists] using n
    cases h with | cons h1 h2 => exact .cons (Dq.tups ht d _ n'.1 h1) (DqAll.tups ht ds _ n'.2 h2)
end
theorem DqAll.length {A : Addr → Prop} {H : Hp} : ∀ {vs : List V} {ds : List PyData}, DqAll A H vs ds → vs.length = ds.length
  | _, _, .nil => rfl
  | _, _, .cons _ h => congrArg Nat.succ (DqAll.length h)
theorem DqAll.get {A : Addr → Prop} {H : Hp} : ∀ {vs : List V} {ds : List PyData} {i : Nat} {v : V}, DqAll A H vs ds → vs[i]? = some v → ∃ d, ds[i]? = some d ∧ Dq A H v d
  | _, _, i, v, .nil, e => by simp at e
  | _, _, 0, v, .cons h _, e => by simp at e; subst e; exact ⟨_, rfl, h⟩
  | _, _, i + 1, v, .cons _ h, e => by
    obtain ⟨d, e1, h1⟩ := DqAll.get (i := i) h (by simpa using e)
    exact ⟨d, by simpa using e1, h1⟩
theorem DqAll.get' {A : Addr → Prop} {H : Hp} : ∀ {vs : List V} {ds : List PyData} {i : Nat} {d : PyData}, DqAll A H vs ds → ds[i]? = some d → ∃ v, vs[i]? = some v ∧ Dq A H v d
  | _, _, i, v, .nil, e => by simp at e
  | _, _, 0, v, .cons h _, e => by simp at e; subst e; exact ⟨_, rfl, h⟩
  | _, _, i + 1, v, .cons _ h, e => by
    obtain ⟨d, e1, h1⟩ := DqAll.get' (i := i) h (by simpa using e)
    exact ⟨d, by simpa using e1, h1⟩
theorem DqAll.append {A : Addr → Prop} {H : Hp} : ∀ {vs ws : List V} {ds es : List PyData}, DqAll A H vs ds → DqAll A H ws es → DqAll A H (vs ++ ws) (ds ++ es)
  | _, _, _, _, .nil, h => h
  | _, _, _, _, .cons a t, h => .cons a (DqAll.append t h)
theorem DqAll.drop {A : Addr → Prop} {H : Hp} : ∀ {vs : List V} {ds : List PyData} (n : Nat), DqAll A H vs ds → DqAll A H (vs.drop n) (ds.drop n)
  | _, _, 0, h => h
  | _, _, _ + 1, .nil => .nil
  | _, _, n + 1, .cons _ t => DqAll.drop n t
theorem DqAll.take {A : Addr → Prop} {H : Hp} : ∀ {vs : List V} {ds : List PyData} (n : Nat), DqAll A H vs ds → DqAll A H (vs.take n) (ds.take n)
  | _, _, 0, h => .nil
  | _, _, _ + 1, .nil => .nil
  | _, _, n + 1, .cons a t => .cons a (DqAll.take n t)
/-- by places -/
theorem DqAll.of {A : Addr → Prop} {H : Hp} : ∀ {vs : List V} {ds : List PyData}, vs.length = ds.length → (∀ (i : Nat) v d, vs[i]? = some v → ds[i]? = some d → Dq A H v d) → DqAll A H vs ds
  | [], [], _, _ => .nil
  | v :: vs, d :: ds, hl, h => .cons (h 0 v d rfl rfl) (DqAll.of (by simpa using hl) fun i x y a b => h (i + 1) x y (by simpa using a) (by simpa using b))
  | [], _ :: _, hl, _ => by simp at hl
  | _ :: _, [], hl, _ => by simp at hl
/-- a datum that stays, whatever ρ lets change -/
abbrev DS (ρ : Rl) (H : Hp) (v : V) (d : PyData) : Prop := Dq (fun a => ¬ ρ.S a) H v d
abbrev DSs (ρ : Rl) (H : Hp) (vs : List V) (ds : List PyData) : Prop := DqAll (fun a => ¬ ρ.S a) H vs ds
theorem Rl.r.ds {ρ : Rl} {H H' : Hp} (e : ρ.r H H') {v : V} {d : PyData} (h : DS ρ H v d) : DS ρ H' v d := h.move (fun a _ n q => ⟨n, e.keep a _ n q⟩) e.tup
theorem Rl.r.dss {ρ : Rl} {H H' : Hp} (e : ρ.r H H') {v : List V} {d : List PyData} (h : DSs ρ H v d) : DSs ρ H' v d := h.move (fun a _ n q => ⟨n, e.keep a _ n q⟩) e.tup
theorem DS.ex {ρ : Rl} {H : Hp} {v : V} {d : PyData} (h : DS ρ H v d) : DS exR H v d := h.move (fun a _ n q => ⟨fun z => z, q⟩) fun _ _ q => q
/-- all that ρ lets change stands already -/
def Own (ρ : Rl) (H : Hp) : Prop := ∀ a, ρ.S a → H a ≠ none
theorem Own.r {ρ ρ' : Rl} {H H' : Hp} (o : Own ρ H) (e : ρ'.r H H') : Own ρ H' := fun a s n => o a s (e.back a n)
theorem Own.fresh {ρ : Rl} {H : Hp} (o : Own ρ H) {p : Addr} (n : H p = none) : ¬ ρ.S p := fun s => o p s n
theorem own_ex {H : Hp} : Own exR H := fun _ s => s.elim
theorem DS.seq {ρ : Rl} {H : Hp} {v : V} {ds : List PyData} (h : DS ρ H v (.list ds) ∨ DS ρ H v (.tuple ds)) : ∃ a xs, v = .ref a ∧ DSs ρ H xs ds ∧ ∀ (K : Frag) (H' : Hp), ρ.r H H' → SqA K H' a xs := by
  rcases h with h | h
  · cases h with | lst n hs ha => exact ⟨_, _, rfl, ha, fun K H' e => .inl (.of (e.keep _ _ n hs))⟩
  · cases h with | tup hs ha => exact ⟨_, _, rfl, ha, fun K H' e => .inr (.inl (.inl (e.tup _ _ hs)))⟩
theorem r_and {ρ : Rl} {D : Addr} {H H1 H2 : Hp} (e : ρ.r H H1) (n : H D = none) (e2 : (ρ.and D).r H1 H2) : ρ.r H H2 :=
  ⟨fun a o s h => e2.keep a o (fun z => z.elim s fun q => ne_of_none h n q) (e.keep a o s h), fun a h => e.back a (e2.back a h), fun a xs h => e2.tup a xs (e.tup a xs h), fun a o u h => e2.frz a o u (e.frz a o u h), fun a p h => e2.spot a p (e.spot a p h)⟩
theorem and_of {ρ : Rl} {D : Addr} {H H1 : Hp} (e : ρ.r H H1) : (ρ.and D).r H H1 := ⟨fun a o s h => e.keep a o (fun z => s (.inl z)) h, e.back, e.tup, e.frz, e.spot⟩
/-- D itself is changed -/
theorem r_chg {ρ : Rl} {D : Addr} {H : Hp} {xs ys : List V} (h : H D = some (.lst xs)) (n : ¬ ρ.S D) : (ρ.and D).r H (upd H D (.lst ys)) :=
  ⟨fun a o s q => by rw [upd_ne (fun z => s (.inr z))]; exact q,
   fun a q => by
    by_cases z : a = D
    · subst z; rw [upd_same] at q; cases q
    · rw [upd_ne z] at q; exact q,
   fun a xs q => by rw [upd_ne (ne_of q h (by intro z; cases z))]; exact q, fun a o u q => by rw [upd_ne (ne_of q h (by intro z; cases z))]; exact q,
   fun a p ⟨k, h0, q⟩ => ⟨k, h0, by rw [upd_ne (fun z : a = D => n (z ▸ ρ.sub a p))]; exact q⟩⟩
theorem DS.and {ρ : Rl} {D : Addr} {H : Hp} (n : H D = none) {v : V} {d : PyData} (h : DS ρ H v d) : DS (ρ.and D) H v d := h.move (fun a _ s q => ⟨fun z => z.elim s fun e => ne_of_none q n e, q⟩) fun _ _ q => q
theorem Rl.r.dsA {ρ : Rl} {D : Addr} {H H' : Hp} (e : ρ.r H H') {v : V} {d : PyData} (h : DS (ρ.and D) H v d) : DS (ρ.and D) H' v d := (and_of e).ds h
theorem DS.less {ρ : Rl} {D : Addr} {H : Hp} {v : V} {d : PyData} (h : DS (ρ.and D) H v d) : DS ρ H v d := h.move (fun a _ s q => ⟨fun z => s (.inl z), q⟩) fun _ _ q => q
theorem DSs.and {ρ : Rl} {D : Addr} {H : Hp} (n : H D = none) {v : List V} {d : List PyData} (h : DSs ρ H v d) : DSs (ρ.and D) H v d := h.move (fun a _ s q => ⟨fun z => z.elim s fun e => ne_of_none q n e, q⟩) fun _ _ q => q
theorem Own.and {ρ : Rl} {D : Addr} {H H' : Hp} (o : Own ρ H) (e : ρ.r H H') (h : H' D ≠ none) : Own (ρ.and D) H' := fun a s => s.elim (o.r e a) fun z => z ▸ h
/-! ### Ev -/
def Ev (ρ : Rl) (te : TE) (σ : L2.St) (H : Hp) (R : V → Hp → Prop) : Prop := ∀ H1, ρ.r H H1 → ∀ Q : VK, (∀ v H2, ρ.r H1 H2 → R v H2 → Q v H2) → te σ H1 Q
abbrev EvV (ρ : Rl) (te : TE) (σ : L2.St) (H : Hp) (v : V) : Prop := Ev ρ te σ H fun v' _ => v' = v
def EvT (ρ : Rl) (tt : TT) (σ : L2.St) (H : Hp) (b : Bool) : Prop := ∀ H1, ρ.r H H1 → ∀ Q : Bool → Hp → Prop, (∀ H2, ρ.r H1 H2 → Q b H2) → tt σ H1 Q
/-- a test of an unknown answer -/
def EvT2 (ρ : Rl) (tt : TT) (σ : L2.St) (H : Hp) : Prop := ∀ H1, ρ.r H H1 → ∀ Q : Bool → Hp → Prop, (∀ b H2, ρ.r H1 H2 → Q b H2) → tt σ H1 Q
def EvA (ρ : Rl) (ta : TA) (σ : L2.St) (H : Hp) (R : List V → Hp → Prop) : Prop := ∀ H1, ρ.r H H1 → ∀ Q : List V → Hp → Prop, (∀ vs H2, ρ.r H1 H2 → R vs H2 → Q vs H2) → ta σ H1 Q
abbrev EvAV (ρ : Rl) (ta : TA) (σ : L2.St) (H : Hp) (vs : List V) : Prop := EvA ρ ta σ H fun vs' _ => vs' = vs
def EvO (ρ : Rl) (to : TO) (σ : L2.St) (H : Hp) (o : Option Int) : Prop := ∀ H1, ρ.r H H1 → ∀ Q : Option Int → Hp → Prop, (∀ H2, ρ.r H1 H2 → Q o H2) → to σ H1 Q
/-- what is iterated over: n turns, Y tells each -/
def EvI (ρ : Rl) (wi : TI) (σ : L2.St) (H : Hp) (n : Nat) (Y : Nat → Hp → V → Hp → Prop) : Prop :=
  ∀ H1, ρ.r H H1 → ∀ R : It → Hp → Prop, (∀ J H2, ρ.r H1 H2 → Walk J n (fun H3 => ρ.r H2 H3) Y → R J H2) → wi σ H1 R
def RV (ρ : Rl) (r : R2) (x y : V) (H : Hp) (R : V → Hp → Prop) : Prop := ∀ H1, ρ.r H H1 → ∀ Q : VK, (∀ v H2, ρ.r H1 H2 → R v H2 → Q v H2) → r x y H1 Q
def RC (ρ : Rl) (r : List V → Hp → VK → Prop) (vs : List V) (H : Hp) (R : V → Hp → Prop) : Prop := ∀ H1, ρ.r H H1 → ∀ Q : VK, (∀ v H2, ρ.r H1 H2 → R v H2 → Q v H2) → r vs H1 Q
def SpR (ρ : Rl) (sp : Sp) (vs : List V) (H : Hp) (R : V → Hp → Prop) : Prop := ∀ H1, ρ.r H H1 → ∀ Q : VK, (∀ v H2, ρ.r H1 H2 → R v H2 → Q v H2) → ∀ E : XK, sp vs H1 Q E
section
variable {ρ : Rl} {K : Frag} {σ : L2.St} {H H' : Hp} {ta tb te tx : TE} {t u : TT} {x y z v : V} {r : R2} {R R' Ra Rb : V → Hp → Prop}
theorem Ev.mono (e : ρ.r H H') (h : Ev ρ te σ H R) : Ev ρ te σ H' R := fun H1 a Q q => h H1 (e.trans a) Q q
theorem EvT.mono {b : Bool} (e : ρ.r H H') (h : EvT ρ t σ H b) : EvT ρ t σ H' b := fun H1 a Q q => h H1 (e.trans a) Q q
theorem Ev.imp (h : Ev ρ te σ H R) (f : ∀ v H1, ρ.r H H1 → R v H1 → R' v H1) : Ev ρ te σ H R' := fun H1 a Q q => h H1 a Q fun v H2 e r => q v H2 e (f v H2 (a.trans e) r)
theorem Ev.val (h : EvV ρ te σ H v) (e : v = x) : EvV ρ te σ H x := by rw [← e]; exact h
theorem EvT.to {a b : Bool} (h : EvT ρ t σ H a) (e : a = b) : EvT ρ t σ H b := by rw [← e]; exact h
theorem ev_var {i : Nat} (h : σ[i]? = some (some v)) : EvV ρ (tVar i) σ H v := fun H1 _ _ q => ⟨v, h, q v H1 .rfl rfl⟩
theorem ev_c : EvV ρ (tC v) σ H v := fun H1 _ _ q => q v H1 .rfl rfl
theorem ev_op (ha : EvV ρ ta σ H x) (hb : EvV ρ tb σ H y) (hr : RV ρ r x y H R) : Ev ρ (tOp r ta tb) σ H R := fun H1 e Q q =>
  ha H1 e _ fun _ H2 e2 h2 => by
    subst h2
    exact hb H2 (e.trans e2) _ fun _ H3 e3 h3 => by
      subst h3
      exact hr H3 ((e.trans e2).trans e3) Q fun v H4 e4 rv => q v H4 ((e2.trans e3).trans e4) rv
/-- operands that may be new -/
theorem ev_op2 (ha : Ev ρ ta σ H Ra) (hb : ∀ x H1, ρ.r H H1 → Ra x H1 → Ev ρ tb σ H1 Rb) (hr : ∀ x y H1 H2, ρ.r H H1 → ρ.r H1 H2 → Ra x H1 → Rb y H2 → RV ρ r x y H2 R) : Ev ρ (tOp r ta tb) σ H R := fun H1 e Q q =>
  ha H1 e _ fun x H2 e2 rx => hb x H2 (e.trans e2) rx H2 .rfl _ fun y H3 e3 ry => hr x y H2 H3 (e.trans e2) e3 rx ry H3 .rfl Q fun v H4 e4 rv => q v H4 ((e2.trans e3).trans e4) rv
theorem RV.const (h : ∀ H1, ρ.r H H1 → ∀ Q : VK, Q z H1 → r x y H1 Q) : RV ρ r x y H (fun v' _ => v' = z) := fun H1 e Q q => h H1 e Q (q z H1 .rfl rfl)
theorem ea_nil : EvAV ρ tNil σ H [] := fun H1 _ _ q => q [] H1 .rfl rfl
theorem ea_cons {tr : TA} {vs : List V} (h : EvV ρ ta σ H x) (hr : EvAV ρ tr σ H vs) : EvAV ρ (tCons ta tr) σ H (x :: vs) := fun H1 e _ q =>
  h H1 e _ fun _ H2 e2 h2 => by
    subst h2
    exact hr H2 (e.trans e2) _ fun _ H3 e3 h3 => by
      subst h3
      exact q _ H3 (e2.trans e3) rfl
/-- the first argument new, then the rest -/
theorem ea_consR {tr : TA} {Rr : V → List V → Hp → Prop} (h : Ev ρ ta σ H Ra) (hr : ∀ x H1, ρ.r H H1 → Ra x H1 → EvA ρ tr σ H1 (Rr x)) : EvA ρ (tCons ta tr) σ H (fun vs H2 => ∃ x ws, vs = x :: ws ∧ Rr x ws H2) := fun H1 e _ q =>
  h H1 e _ fun x H2 e2 rx => hr x H2 (e.trans e2) rx H2 .rfl _ fun ws H3 e3 rw' => q _ H3 (e2.trans e3) ⟨x, ws, rfl, rw'⟩
/-- one argument, new -/
theorem ea_one (h : Ev ρ ta σ H Ra) : EvA ρ (tCons ta tNil) σ H (fun vs H2 => ∃ x, vs = [x] ∧ Ra x H2) := fun H1 e _ q =>
  h H1 e _ fun x H2 e2 rx => q _ H2 e2 ⟨x, rfl, rx⟩
theorem EvA.imp {tr : TA} {Rr Rr' : List V → Hp → Prop} (h : EvA ρ tr σ H Rr) (f : ∀ vs H1, ρ.r H H1 → Rr vs H1 → Rr' vs H1) : EvA ρ tr σ H Rr' := fun H1 a Q q => h H1 a Q fun v H2 e r => q v H2 e (f v H2 (a.trans e) r)
theorem ev_tup {ta : TA} {Rr : List V → Hp → Prop} (h : EvA ρ ta σ H Rr) (hl : ∀ vs H1, ρ.r H H1 → Rr vs H1 → vs.length ≤ 100000) : Ev ρ (tTup ta) σ H (fun v H2 => ∃ p vs H1, v = .ref p ∧ Rr vs H1 ∧ H1 p = none ∧ ρ.r H H1 ∧ H2 = upd H1 p (.tup vs)) := fun H1 e _ q =>
  h H1 e _ fun vs H2 e2 rv => ⟨Evl.sz_of (hl vs H2 (e.trans e2) rv), fun p hp => q _ _ (r_new2 e2 _ hp) ⟨p, vs, H2, rfl, rv, hp, e.trans e2, rfl⟩⟩
theorem ev_lst {ta : TA} {Rr : List V → Hp → Prop} (h : EvA ρ ta σ H Rr) (hl : ∀ vs H1, ρ.r H H1 → Rr vs H1 → vs.length ≤ 100000) : Ev ρ (tLst ta) σ H (fun v H2 => ∃ p vs H1, v = .ref p ∧ Rr vs H1 ∧ H1 p = none ∧ ρ.r H H1 ∧ H2 = upd H1 p (.lst vs)) := fun H1 e _ q =>
  h H1 e _ fun vs H2 e2 rv => ⟨Evl.sz_of (hl vs H2 (e.trans e2) rv), fun p hp => q _ _ (r_new2 e2 _ hp) ⟨p, vs, H2, rfl, rv, hp, e.trans e2, rfl⟩⟩
theorem ev_cb {r : List V → Hp → VK → Prop} {ta : TA} {Rr : List V → Hp → Prop} (h : EvA ρ ta σ H Rr) (hr : ∀ vs H1, ρ.r H H1 → Rr vs H1 → RC ρ r vs H1 R) : Ev ρ (tCB r ta) σ H R := fun H1 e Q q =>
  h H1 e _ fun vs H2 e2 rv => hr vs H2 (e.trans e2) rv H2 .rfl Q fun v H3 e3 rx => q v H3 (e2.trans e3) rx
theorem ev_cbV {r : List V → Hp → VK → Prop} {ta : TA} {vs : List V} (h : EvAV ρ ta σ H vs) (hr : RC ρ r vs H R) : Ev ρ (tCB r ta) σ H R := fun H1 e Q q =>
  h H1 e _ fun _ H2 e2 rv => by
    subst rv
    exact hr H2 (e.trans e2) Q fun v H3 e3 rx => q v H3 (e2.trans e3) rx
theorem ev_call {sp : Sp} {E : XK} {ta : TA} {vs : List V} (h : EvAV ρ ta σ H vs) (hs : SpR ρ sp vs H R) : Ev ρ (tCall sp [] E ta) σ H R := fun H1 e Q q =>
  h H1 e _ fun _ H2 e2 rv => by
    subst rv
    rw [List.append_nil]
    exact hs H2 (e.trans e2) Q (fun v H3 e3 rx => q v H3 (e2.trans e3) rx) E
theorem ev_callR {sp : Sp} {E : XK} {ta : TA} {Rr : List V → Hp → Prop} (h : EvA ρ ta σ H Rr) (hs : ∀ vs H1, ρ.r H H1 → Rr vs H1 → SpR ρ sp vs H1 R) : Ev ρ (tCall sp [] E ta) σ H R := fun H1 e Q q =>
  h H1 e _ fun vs H2 e2 rv => by
    rw [List.append_nil]
    exact hs vs H2 (e.trans e2) rv H2 .rfl Q (fun v H3 e3 rx => q v H3 (e2.trans e3) rx) E
theorem ev_callK {sp : Sp} {E : XK} {ta tk : TA} {vs zs : List V} {gV : List V → List V → List V} (h : EvAV ρ ta σ H vs) (hk : EvAV ρ tk σ H zs) (hs : SpR ρ sp (gV vs zs) H R) : Ev ρ (tCallK sp gV E ta tk) σ H R := fun H1 e Q q =>
  h H1 e _ fun _ H2 e2 rv => by
    subst rv
    exact hk H2 (e.trans e2) _ fun _ H3 e3 rz => by
      subst rz
      exact hs H3 ((e.trans e2).trans e3) Q (fun v H4 e4 rx => q v H4 ((e2.trans e3).trans e4) rx) E
theorem et_test {b : Bool} (h : EvV ρ te σ H (.bl b)) : EvT ρ (tTest te) σ H b := fun H1 e _ q => h H1 e _ fun v H2 e2 hv => ⟨b, hv, q H2 e2⟩
theorem et_B {b : Bool} (h : EvV ρ te σ H (.bl b)) : EvT ρ (tB te) σ H b := fun H1 e _ q => h H1 e _ fun v H2 e2 hv => ⟨b, hv, q H2 e2⟩
theorem et_not {a : Bool} (h1 : EvT ρ t σ H a) : EvT ρ (tNot t) σ H (!a) := fun H1 e _ q => h1 H1 e _ fun H2 e2 => q H2 e2
theorem et_and {a b : Bool} (h1 : EvT ρ t σ H a) (h2 : a = true → EvT ρ u σ H b) : EvT ρ (tAnd t u) σ H (a && b) := fun H1 e Q q => h1 H1 e _ fun H2 e2 => by
  cases a with
  | true => show u σ H2 Q; exact h2 rfl H2 (e.trans e2) Q fun H3 e3 => q H3 (e2.trans e3)
  | false => show Q false H2; exact q H2 e2
theorem et_or {a b : Bool} (h1 : EvT ρ t σ H a) (h2 : a = false → EvT ρ u σ H b) : EvT ρ (tOr t u) σ H (a || b) := fun H1 e Q q => h1 H1 e _ fun H2 e2 => by
  cases a with
  | true => show Q true H2; exact q H2 e2
  | false => show u σ H2 Q; exact h2 rfl H2 (e.trans e2) Q fun H3 e3 => q H3 (e2.trans e3)
theorem ev_andV {a b : Bool} (h1 : EvV ρ ta σ H (.bl a)) (h2 : a = true → EvV ρ tb σ H (.bl b)) : EvV ρ (tAndV ta tb) σ H (.bl (a && b)) := fun H1 e Q q => h1 H1 e _ fun v H2 e2 hv => ⟨a, hv, by
  cases a with
  | true => show tb σ H2 Q; exact h2 rfl H2 (e.trans e2) Q fun v' H3 e3 hv' => q _ H3 (e2.trans e3) hv'
  | false => show Q (.bl false) H2; exact q _ H2 e2 rfl⟩
theorem ev_orV {a b : Bool} (h1 : EvV ρ ta σ H (.bl a)) (h2 : a = false → EvV ρ tb σ H (.bl b)) : EvV ρ (tOrV ta tb) σ H (.bl (a || b)) := fun H1 e Q q => h1 H1 e _ fun v H2 e2 hv => ⟨a, hv, by
  cases a with
  | true => show Q (.bl true) H2; exact q _ H2 e2 rfl
  | false => show tb σ H2 Q; exact h2 rfl H2 (e.trans e2) Q fun v' H3 e3 hv' => q _ H3 (e2.trans e3) hv'⟩
theorem ev_notV {a : Bool} (h1 : EvV ρ ta σ H (.bl a)) : EvV ρ (tNotV ta) σ H (.bl (!a)) := fun H1 e _ q => h1 H1 e _ fun v H2 e2 hv => ⟨a, hv, q _ H2 e2 rfl⟩
theorem ev_if {b : Bool} (h : EvT ρ t σ H b) (h1 : b = true → Ev ρ ta σ H R) (h2 : b = false → Ev ρ tb σ H R) : Ev ρ (tIf t ta tb) σ H R := fun H1 e Q q => h H1 e _ fun H2 e2 => by
  cases b with
  | true => show ta σ H2 Q; exact h1 rfl H2 (e.trans e2) Q fun v H3 e3 rv => q v H3 (e2.trans e3) rv
  | false => show tb σ H2 Q; exact h2 rfl H2 (e.trans e2) Q fun v H3 e3 rv => q v H3 (e2.trans e3) rv
theorem eo_none : EvO ρ tNoPart σ H none := fun H1 _ _ q => q H1 .rfl
theorem eo_some {i : Int} (h : EvV ρ te σ H (.int i)) : EvO ρ (tPart te) σ H (some i) := fun H1 e _ q => h H1 e _ fun v H2 e2 hv => ⟨i, hv, q H2 e2⟩
/-! ### statements -/
variable {D : Ends} {tu tw tz : TS}
theorem s_ret (h : Ev ρ te σ H R) (k : ∀ v H1, ρ.r H H1 → R v H1 → D.rt v H1) : tRet te D σ H := h H .rfl _ fun v H1 e rv => k v H1 e rv
theorem s_retV (h : EvV ρ te σ H v) (k : ∀ H1, ρ.r H H1 → D.rt v H1) : tRet te D σ H := h H .rfl _ fun v' H1 e rv => by subst rv; exact k H1 e
theorem s_seq (h : tu { D with nx := tz D } σ H) : tSeq tu tz D σ H := h
theorem s_asg {i : Nat} (h : Ev ρ te σ H R) (k : ∀ v H1, ρ.r H H1 → R v H1 → D.nx (σ.set i (some v)) H1) : tAsg te (gName i) D σ H := h H .rfl _ fun v H1 e rv => k v H1 e rv
theorem q_asg {i : Nat} (h : Ev ρ te σ H R) (k : ∀ v H1, ρ.r H H1 → R v H1 → tz D (σ.set i (some v)) H1) : tSeq (tAsg te (gName i)) tz D σ H := h H .rfl _ fun v H1 e rv => k v H1 e rv
theorem q_asgV {i : Nat} (h : EvV ρ te σ H v) (k : ∀ H1, ρ.r H H1 → tz D (σ.set i (some v)) H1) : tSeq (tAsg te (gName i)) tz D σ H := h H .rfl _ fun v' H1 e rv => by subst rv; exact k H1 e
theorem s_asgV {i : Nat} (h : EvV ρ te σ H v) (k : ∀ H1, ρ.r H H1 → D.nx (σ.set i (some v)) H1) : tAsg te (gName i) D σ H := h H .rfl _ fun v' H1 e rv => by subst rv; exact k H1 e
theorem s_if {b : Bool} (h : EvT ρ t σ H b) (h1 : b = true → ∀ H1, ρ.r H H1 → tu D σ H1) (h2 : b = false → ∀ H1, ρ.r H H1 → tw D σ H1) : tIfS t tu tw D σ H := h H .rfl _ fun H1 e => by
  cases b with
  | true => show tu D σ H1; exact h1 rfl H1 e
  | false => show tw D σ H1; exact h2 rfl H1 e
theorem q_if {b : Bool} (h : EvT ρ t σ H b) (h1 : b = true → ∀ H1, ρ.r H H1 → tu { D with nx := tz D } σ H1) (h2 : b = false → ∀ H1, ρ.r H H1 → tw { D with nx := tz D } σ H1) : tSeq (tIfS t tu tw) tz D σ H := s_if (D := { D with nx := tz D }) h h1 h2
theorem q_when {b : Bool} (h : EvT ρ t σ H b) (h1 : b = true → ∀ H1, ρ.r H H1 → tu { D with nx := tz D } σ H1) (h2 : b = false → ∀ H1, ρ.r H H1 → tz D σ H1) : tSeq (tIfS t tu tNext) tz D σ H := s_if (D := { D with nx := tz D }) h h1 h2
theorem s_drop (h : Ev ρ te σ H R) (k : ∀ v H1, ρ.r H H1 → R v H1 → D.nx σ H1) : tDrop te D σ H := h H .rfl _ fun v H1 e rv => k v H1 e rv
theorem q_drop (h : Ev ρ te σ H R) (k : ∀ v H1, ρ.r H H1 → R v H1 → tz D σ H1) : tSeq (tDrop te) tz D σ H := h H .rfl _ fun v H1 e rv => k v H1 e rv
/-! ### loops -/
variable {wi : TI} {g : TG} {n : Nat} {Y : Nat → Hp → V → Hp → Prop}
theorem s_for (h : EvI ρ wi σ H n Y) (k : ∀ H1, ρ.r H H1 → ∃ Pv : Nat → L2.St → Hp → Prop, Pv 0 σ H1 ∧ (∀ i σ' H', i ≤ n → Pv i σ' H' → ρ.r H1 H') ∧
    (∀ i x σ' H' H'', i < n → Pv i σ' H' → Y i H' x H'' → g x σ' H'' fun σ2 H2 => tu { D with nx := Pv (i + 1), ct := Pv (i + 1), bk := D.nx } σ2 H2) ∧ ∀ σ' H', Pv n σ' H' → D.nx σ' H') : tFor wi g tu D σ H :=
  h H .rfl _ fun J H1 e w => by
    obtain ⟨Pv, h0, hr, hs, hd⟩ := k H1 e
    exact for_it w Pv h0 hr hs hd
theorem q_for (h : EvI ρ wi σ H n Y) (k : ∀ H1, ρ.r H H1 → ∃ Pv : Nat → L2.St → Hp → Prop, Pv 0 σ H1 ∧ (∀ i σ' H', i ≤ n → Pv i σ' H' → ρ.r H1 H') ∧
    (∀ i x σ' H' H'', i < n → Pv i σ' H' → Y i H' x H'' → g x σ' H'' fun σ2 H2 => tu { D with nx := Pv (i + 1), ct := Pv (i + 1), bk := tz D } σ2 H2) ∧ ∀ σ' H', Pv n σ' H' → tz D σ' H') : tSeq (tFor wi g tu) tz D σ H :=
  s_for (D := { D with nx := tz D }) h k
end
end Slip
/-! one rule a construct, whatever stands in it; the names that the generator prints -/
namespace Slip
open PySem PySem.Spec PyProof.Rows L2
section
variable {X : Cx} {a b e tg : Expr} {pos : Pos} {ta tb te : TE}
/-! ### + - * // % ** -/
def rAddStr : R2 := fun x y H Q => ∃ i j, x = .str i ∧ y = .str j ∧ i.length + j.length ≤ sizeLine ∧ Q (.str (i ++ j)) H
def rAddU (K : Frag) : R2 := fun x y H Q => rAddI x y H Q ∨ (rAddStr x y H Q ∨ (rCatA K x y H Q ∨ rCat x y H Q))
theorem op_addU : OpR X (binaryOp .Add) (rAddU X.K) := OpR.or (r := rAddI) op_add (OpR.or (r := rAddStr) op_add_str (OpR.or op_catA op_cat))
abbrev rMulI : R2 := rI CMul fun i j => .int (i * j)
theorem op_mulI : OpR X (binaryOp .Mult) rMulI := op_mul
abbrev rModI : R2 := rI (fun _ j => 0 < j) fun i j => .int (i % j)
theorem op_modI : OpR X (binaryOp .Mod) rModI := op_mod
abbrev rFdivI : R2 := rI CDiv fun i j => .int (i / j)
theorem op_fdivI : OpR X (binaryOp .FloorDiv) rFdivI := op_fdiv
abbrev rPowI : R2 := rI CPow fun i j => .int (i ^ j.toNat)
theorem op_powI : OpR X (binaryOp .Pow) rPowI := op_pow
abbrev rNegI : V → Hp → VK → Prop := rU fun i => .int (-i)
theorem un_negI : UnR X (unaryOp .USub) rNegI := un_neg
abbrev rAugAdd : TIp := ipI fun i j => i + j
theorem ip_augAdd : PIp X .Add rAugAdd := ip_add
/-! ### == -/
def rEqU (K : Frag) : R2 := fun x y H Q => rEq x y H Q ∨ rEqD K x y H Q
def rNeU (K : Frag) : R2 := fun x y H Q => rNe x y H Q ∨ rNeD K x y H Q
theorem op_eqU (hu : X.A.units + 64 < cLine) : OpR X (compareOp .Eq) (rEqU X.K) := OpR.or op_eq (op_eqD hu)
theorem op_neU (hu : X.A.units + 64 < cLine) : OpR X (compareOp .NotEq) (rNeU X.K) := OpR.or op_ne (op_neD hu)
/-! ### is None -/
def rIsN : R2 := fun x y H Q => y = .non ∧ Q (.bl (decide (x = .non))) H
def rNotN : R2 := fun x y H Q => y = .non ∧ Q (.bl (!decide (x = .non))) H
theorem op_isN1 : OpR X (compareOp .Is) rIsN := op_isN
theorem op_notN1 : OpR X (compareOp .IsNot) rNotN := op_notN
/-! ### in -/
def rInS : R2 := fun x y H Q => ∃ (c : Nat) (z : Str), x = .str ⟨#[c]⟩ ∧ y = .str z ∧ Q (.bl (decide (c ∈ z.cps.toList))) H
def rNotInS : R2 := fun x y H Q => ∃ (c : Nat) (z : Str), x = .str ⟨#[c]⟩ ∧ y = .str z ∧ Q (.bl (!decide (c ∈ z.cps.toList))) H
def rInD : R2 := fun x y H Q => ∃ a o, y = .ref a ∧ DGet H a x o ∧ Q (.bl o.isSome) H
def rNotInD : R2 := fun x y H Q => ∃ a o, y = .ref a ∧ DGet H a x o ∧ Q (.bl (!o.isSome)) H
theorem op_inD (hu : X.A.units + 1 < cLine) : OpR X (compareOp .In) rInD := by
  intro pins s σ H x y v u Q I rx ry h
  obtain ⟨a, o, rfl, g, q⟩ := h
  obtain rfl : u = Value.ref a := ry
  exact d_in hu I g rx fun s3 I3 => ⟨.bl o.isSome, H, I3, rfl, q⟩
theorem op_notInD (hu : X.A.units + 1 < cLine) : OpR X (compareOp .NotIn) rNotInD := by
  intro pins s σ H x y v u Q I rx ry h
  obtain ⟨a, o, rfl, g, q⟩ := h
  obtain rfl : u = Value.ref a := ry
  exact d_notIn hu I g rx fun s3 I3 => ⟨.bl (!o.isSome), H, I3, rfl, q⟩
def rInU (K : Frag) : R2 := fun x y H Q => rIn K false x y H Q ∨ (rInS x y H Q ∨ rInD x y H Q)
def rNotInU (K : Frag) : R2 := fun x y H Q => rIn K true x y H Q ∨ (rNotInS x y H Q ∨ rNotInD x y H Q)
theorem op_inU (hu : X.A.units + 1 < cLine) : OpR X (compareOp .In) (rInU X.K) := OpR.or op_in_seq (OpR.or (r := rInS) op_in_sign (op_inD hu))
theorem op_notInU (hu : X.A.units + 1 < cLine) : OpR X (compareOp .NotIn) (rNotInU X.K) := OpR.or op_notIn_seq (OpR.or (r := rNotInS) op_notIn_sign (op_notInD hu))
/-! ### subscripts, slices -/
def tIxU (K : Frag) (ta tb : TE) : TE := fun σ H Q => tOp (rIx K) ta tb σ H Q ∨ tDGet ta tb σ H Q
theorem pe_ixU (hu : X.A.units + 1 < cLine) (ha : PE X a ta) (hb : PE X b tb) (hs : PlainIx b) (hn : NoSl b) : PE X (.Subscript a b pos) (tIxU X.K ta tb) :=
  pe_alt (pe_ix ix_seq ha hb hs) (pe_dget hu ha hb hn)
def rSlU (K : Frag) : V → Option Int → Option Int → Hp → VK → Prop := fun x lo hi H Q => rSlL K x lo hi H Q ∨ (rSlA K x lo hi H Q ∨ rSlS x lo hi H Q)
theorem sl_U : SlR X (rSlU X.K) := SlR.or sl_list (SlR.or sl_tupA sl_str)
/-! ### what a for walks, targets, stores -/
def iSeq (K : Frag) (te : TE) : TI := fun σ H R => iList K te σ H R ∨ (iTup K te σ H R ∨ iStr te σ H R)
theorem pi_seq (h : PE X e te) : PI X tg e (iSeq X.K te) := pi_alt (pi_list h) (pi_alt (pi_tup h) (pi_str h))
def gSeq (K : Frag) (n : Nat) (t : TGs) : TG := fun v σ H Q => gTup K n t v σ H Q ∨ gLst K n t v σ H Q
theorem pg_seq {es : List Expr} {k : Nat} {t : TGs} {n : Nat} (hc : X.calm = true) (h : PGs X es t)
    (hn : (assignEach es X.env).length = n := by rfl) (hst : (assignEach es X.env).findIdx? (·.1) = none := by rfl) : PG X (.Tuple es k pos) (gSeq X.K n t) := pg_alt (pg_tup hc h hn hst) (pg_lst hc h hn hst)
def rSetU (K : Frag) : TSet := fun o i v H Q => rSetL o i v H Q ∨ rSetD o i v H Q
theorem set_U {K : Frag} (hu : X.A.units + 1 < cLine) : PSet X (rSetU K) := pset_alt set_list (set_dict hu)
/-! ### built-in functions -/
abbrev RCa := List V → Hp → VK → Prop
def rLenV (K : Frag) : RCa := fun xs H Q => ∃ x n, xs = [x] ∧ LenV K x H n ∧ Q (.int n) H
def rLenDK : RCa := fun xs H Q => ∃ a kvs, xs = [V.ref a] ∧ H a = some (.dK kvs) ∧ Q (.int kvs.length) H
def rLenU (K : Frag) : RCa := fun xs H Q => rLenV K xs H Q ∨ (rLenDK xs H Q ∨ rLenT xs H Q)
theorem call_lenU : CallR X (.builtin "len") (rLenU X.K) := CallR.or (r := rLenV X.K) call_len (CallR.or (r := rLenDK) call_lenD call_len_dT)
def rIntOf : RCa := fun xs H Q => (∃ i, xs = [.int i] ∧ Q (.int i) H) ∨ ∃ k, xs = [.bl k] ∧ Q (.int (if k then 1 else 0)) H
theorem call_intOf : CallR X (.type "int") rIntOf := call_int1
def rTupOf (K : Frag) : RCa := fun xs H Q => ∃ p ys, xs = [.ref p] ∧ ((SqL K H p ys ∧ ∀ l, H l = none → Q (.ref l) (upd H l (.tup ys))) ∨ (SqT K H p ys ∧ Q (.ref p) H))
theorem call_tupOf : CallR X (.type "tuple") (rTupOf X.K) := call_tuple_of
def rLstOf (K : Frag) : RCa := fun xs H Q => ∃ p ys, xs = [.ref p] ∧ (SqL K H p ys ∨ SqT K H p ys) ∧ ∀ l, H l = none → Q (.ref l) (upd H l (.lst ys))
theorem call_lstOf : CallR X (.type "list") (rLstOf X.K) := call_list_of
def rMin2' : RCa := fun xs H Q => ∃ i j, xs = [.int i, .int j] ∧ Q (.int (if j < i then j else i)) H
theorem call_min2' (hc : X.calm = true) : CallR X (.builtin "min") rMin2' := call_min2 hc
/-! ### isinstance -/
def isiB (d : PyData) (n : String) : Bool := tyD d == n || (tyD d == "bool" && n == "int")
def isiAny (d : PyData) (ns : List String) : Bool := ns.any (isiB d)
def good (n : String) : Bool := n == "int" || n == "bool" || n == "str" || n == "list" || n == "tuple"
theorem kit_good (d : PyData) (n : String) (h : good n = true) : kitB (tyD d) n = some (isiB d n) := by
  have hn : n = "int" ∨ n = "bool" ∨ n = "str" ∨ n = "list" ∨ n = "tuple" := by
    simp only [good, Bool.or_eq_true, beq_iff_eq] at h
    rcases h with (((h | h) | h) | h) | h <;> simp [h]
  rcases hn with rfl | rfl | rfl | rfl | rfl <;> cases d <;> (dsimp only [isiB, tyD]; decide +kernel)
theorem dp_ty {K : Frag} {H : Hp} {v : V} {d : PyData} (h : Dp K H v d) : TyX K H v (.type (tyD d)) := by
  cases h with
  | non => exact .base .non
  | bl b => exact .base (.bl b)
  | int i => exact .base (.int i)
  | str x => exact .base (.str x)
  | lst hs ha =>
    rcases hs with (hs | ⟨o, hs⟩) | ⟨o, its, n, hk, hc, _⟩
    · exact .base (.lst hs)
    · exact .base (.frz hs)
    · exact .kList hk hc
  | tup hs ha =>
    rcases hs with (hs | ⟨o, hs⟩) | ⟨o, its, n, hk, hc, _⟩
    · exact .base (.tup hs)
    · exact .fTuple hs
    · exact .kTuple hk hc
def rIsi1 (K : Frag) : RCa := fun xs H Q => ∃ x n d, xs = [x, .ty n] ∧ Dp K H x d ∧ good n = true ∧ Q (.bl (isiB d n)) H
def rIsi2 (K : Frag) : RCa := fun xs H Q => ∃ x p ns d, xs = [x, .ref p] ∧ H p = some (.tup (ns.map V.ty)) ∧ Dp K H x d ∧ (ns.all good) = true ∧ Q (.bl (isiAny d ns)) H
def rIsiU (K : Frag) : RCa := fun xs H Q => rIsi1 K xs H Q ∨ rIsi2 K xs H Q
theorem kit_all (K : Frag) (d : PyData) : ∀ ns : List String, ns.all good = true → PySem.W.kitAny K (.type (tyD d)) (ns.map Value.type) = some (isiAny d ns)
  | [], _ => rfl
  | n :: ns, h => by
    have h' : good n = true ∧ ns.all good = true := by simpa using h
    have ih := kit_all K d ns h'.2
    refine kitAny_cons (kit_ty (kit_good d n h'.1)) (fun e => ?_) (fun e => ?_)
    · rw [ih]; unfold isiAny; rw [List.any_cons, e, Bool.false_or]
    · unfold isiAny; rw [List.any_cons, e, Bool.true_or]
theorem cls_all : ∀ ns : List String, Paired ClsV (ns.map V.ty) (ns.map Value.type)
  | [] => .nil
  | n :: ns => .cons (.ty n) (cls_all ns)
theorem call_isiU : CallR X (.builtin "isinstance") (rIsiU X.K) := by
  refine CallR.or (fun pins s σ H xs us Q I r h => ?_) (fun pins s σ H xs us Q I r h => ?_)
  · obtain ⟨x, n, d, rfl, hd, g, q⟩ := h
    exact call_isi pins s σ H _ us Q I r ⟨x, _, _, _, _, rfl, .ty n, dp_ty hd, kit_ty (kit_good d n g), q⟩
  · obtain ⟨x, p, ns, d, rfl, hp, hd, g, q⟩ := h
    exact call_isiT pins s σ H _ us Q I r ⟨x, p, _, _, _, _, rfl, hp, cls_all ns, dp_ty hd, kit_all X.K d ns g, q⟩
/-! ### calls with keywords -/
/-- n values, then the keywords ks, each a parameter behind them -/
def KwTo (fd : FuncData) (ps : List Str) (n : Nat) (ks : List Str) : Prop := ∀ (s : Shared) (us ws : List Value), us.length = n → ws.length = ks.length → BindsTo s fd ⟨us, ks.zip ws⟩ (ps.zip (us ++ ws))
theorem run_kw {CX : CXT} {E : XK} {f : Addr} {fd : FuncData} {ps ks : List Str} {k n : Nat} {sp : Sp} {pins : List (Addr × Obj)} {σ : L2.St} {H : Hp} {s : Shared} {Q : VK} {us ws : List Value} {vs zs : List V} (F : FnOk X.prog X.w X.K X.mg X.base CX k f fd ps sp) (hr : Room k X.A) (hb : KwTo fd ps n ks) (hx : Passes CX X E)
    (I : Inv X pins σ H s) (hn : us.length = n) (hk : ps.length = n + ks.length) (r : Vals vs us) (rz : Vals zs ws) (h : sp (vs ++ zs) H Q E) : wpAny (model X.prog X.w) X.A (call (.ref f) us (ks.zip ws)) (EP X pins σ Q) X.xe s := by
  have r2 : Vals (vs ++ zs) (us ++ ws) := r.append rz
  have hl : (us ++ ws).length = ps.length := by rw [← r2.length]; exact F.len _ _ _ _ h
  have hw : ws.length = ks.length := by rw [List.length_append] at hl; omega
  refine wpAny_call (codeAny_mono (F.run X.A X.stack s H ⟨us, ks.zip ws⟩ (us ++ ws) (vs ++ zs) Q E hr I.env0 (hb s us ws hn hw) r2 h) fun r s' hq => ?_)
  cases r with
  | error e => exact hx pins σ H s e s' I hq
  | ok fl =>
    cases fl with
    | ret u => exact I.after hq
    | next => exact False.elim hq
    | brk => exact False.elim hq
    | cont => exact False.elim hq
theorem pe_callK0 {CX : CXT} {E : XK} {x : Str} {p : Pos} {f : Addr} {fd : FuncData} {ps ks : List Str} {k : Nat} {sp : Sp} {kws : List Keyword} {tk : TA} (F : FnOk X.prog X.w X.K X.mg X.base CX k f fd ps sp) (hr : Room k X.A) (hg : Gl X x) (hm : X.mg x = some (.ref f)) (hk : PySem.W.keepIn X.K (.ref f) = true)
    (hb : KwTo fd ps 0 ks) (hx : Passes CX X E) (hkw : PK X kws tk) (hall : (backToKw pos (keywordEach kws X.env)).all (·.1.isSome) = true := by rfl) (hks : (backToKw pos (keywordEach kws X.env)).filterMap (·.1) = ks := by rfl)
    (hlen : ps.length = 0 + ks.length := by rfl) (hdb : (x == ("__debug__" : Str)) = false := by decide)
    (hpl : ((backTo pos (starEach [] X.env)).any (·.1) || (backToKw pos (keywordEach kws X.env)).any (·.1.isNone)) = false := by rfl) :
    PE X (.Call (.Name x p) [] kws pos) (tCall sp [] E tk) := by
  refine ⟨fun pins s σ H Q I h => ?_⟩
  refine wpAny_Call_Name_kw (ld_glob I hg hm ?_ hdb)
  refine PySem.W.callWith_KW0 (h₀ := X.base) I.ok.mod.kin hk hall ?_ hpl
  refine thn (hkw.run pos pins s σ H _ I h) fun ws s2 ⟨zs, H2, I2, rz, q2⟩ => ⟨I2.kIn, ?_⟩
  rw [hks]
  have q3 : sp (zs ++ []) H2 Q E := q2
  rw [List.append_nil] at q3
  exact run_kw (vs := []) F hr hb hx I2 rfl hlen .nil rz q3
def tCat (t tk : TA) : TA := fun σ H Q => t σ H fun vs H1 => tk σ H1 fun zs H2 => vs.length = vs.length ∧ Q (vs ++ zs) H2
theorem pe_callKn {CX : CXT} {E : XK} {x : Str} {p : Pos} {f : Addr} {fd : FuncData} {ps ks : List Str} {k n : Nat} {sp : Sp} {kws : List Keyword} {t tk : TA} {es : List Expr} (F : FnOk X.prog X.w X.K X.mg X.base CX k f fd ps sp) (hr : Room k X.A) (hg : Gl X x) (hm : X.mg x = some (.ref f)) (hk : PySem.W.keepIn X.K (.ref f) = true)
    (hb : KwTo fd ps n ks) (hx : Passes CX X E) (ha : PA X (e :: es) t) (hkw : PK X kws tk) (hall : (backToKw pos (keywordEach kws X.env)).all (·.1.isSome) = true := by rfl) (hks : (backToKw pos (keywordEach kws X.env)).filterMap (·.1) = ks := by rfl)
    (hlen : ps.length = n + ks.length := by rfl) (hdb : (x == ("__debug__" : Str)) = false := by decide) (he : starEach (e :: es) X.env = (false, eval e X.env) :: starEach es X.env := by rfl)
    (hpl : ((backTo pos (starEach (e :: es) X.env)).any (·.1) || (backToKw pos (keywordEach kws X.env)).any (·.1.isNone)) = false := by rfl) :
    PE X (.Call (.Name x p) (e :: es) kws pos) (fun σ H Q => t σ H fun vs H1 => tk σ H1 fun zs H2 => vs.length = n ∧ sp (vs ++ zs) H2 Q E) := by
  refine ⟨fun pins s σ H Q I h => ?_⟩
  refine wpAny_Call_Name_kw (ld_glob I hg hm ?_ hdb)
  refine PySem.W.callWith_KW (h₀ := X.base) I.ok.mod.kin hk hall (thn (ha.run pos pins s σ H _ I h) fun us s1 ⟨vs, H1, I1, r, q⟩ => ?_) hpl he
  refine thn (hkw.run pos pins s1 σ H1 _ I1 q) fun ws s2 ⟨zs, H2, I2, rz, hl, q2⟩ => ⟨I2.kIn, ?_⟩
  rw [hks]
  exact run_kw F hr hb hx I2 (r.length.symm.trans hl) hlen r rz q2
end
section
variable {K : Frag} {x qual : Str} {params : Arguments} {body : List Stmt} {scope : Scope} {kws : List (Str × V)} {f : Addr} {fd : FuncData} {ps : List Str}
theorem kwTo (F : FunD K x qual params body scope [] kws f fd) {n : Nat} {ks : List Str}
    (h : ∀ (kV doc pm : Value) (an : Option Addr) (cdv ct : Value) (us ws : List Value), us.length = n → ws.length = ks.length → bindArgs (PySem.W.fnOf x qual params body scope .none kV doc pm an cdv ct) ⟨us, ks.zip ws⟩ = pure (ps.zip (us ++ ws))) : KwTo fd ps n ks := fun s us ws hu hw => by
  obtain ⟨oc, od, dV, kV, doc, pm, an, cdv, ct, osl, rfl, lk, hcd, hD, hK⟩ := F.ex
  rcases hD with ⟨_, rfl⟩ | ⟨e, _⟩
  · exact .of_eq (h kV doc pm an cdv ct us ws hu hw)
  · exact absurd rfl e
end
/-- a def of the top -/
abbrev FnP (K : Frag) (x : Str) (st : Stmt) (f : Addr) (fd : FuncData) : Prop := FunD K x x (defArgs st) (defBody st) (defScope st) [] [] f fd
end Slip
/-! heappush, heappop of data without lists -/
namespace Slip
open PySem PySem.Spec PyProof.Rows L2
/-! ### what reads off a heap without a list -/
mutual
theorem reads_nil {h : Heap} : ∀ (d : PyData) (v : Value) (as : List Addr), noList d = true → PySem.W.alike d d = true → PySem.Reads h v d as → as = []
  | .none, _, _, _, _, r => by cases r; rfl
  | .bool _, _, _, _, _, r => by cases r; rfl
  | .int _, _, _, _, _, r => by cases r; rfl
  | .str _, _, _, _, _, r => by cases r; rfl
  | .list _, _, _, n, _, _ => by cases n
  | .tuple ds, _, _, n, al, r => by
    cases r with
    | tuple h1 h2 h3 h4 => exact readsAll_nil ds _ _ (by simpa [noList] using n) (by simpa [PySem.W.alike] using al) h4
  | .dict _, _, _, n, al, r => by simp [PySem.W.alike] at al
theorem readsAll_nil {h : Heap} : ∀ (ds : List PyData) (vs : List Value) (as : List Addr), noLists ds = true → PySem.W.alikeAll ds ds = true → PySem.ReadsAll h vs ds as → as = []
  | [], _, _, _, _, r => by cases r; rfl
  | d :: ds, _, _, n, al, r => by
    have n' : noList d = true ∧ noLists ds = true := by simpa [noLists] using n
    have al' := PySem.W.alike_all_cons al
    cases r with
    | cons h1 h2 => rw [reads_nil d _ _ n'.1 al'.1 h1, readsAll_nil ds _ _ n'.2 al'.2 h2]; rfl
end
theorem reads_others {H h : Heap} {a : Addr} {d : PyData} {v : Value} {as : List Addr} (hn : noList d = true) (hal : PySem.W.alike d d = true) (ha : ∀ o, H.get? a = some o → o.cls = .type "list") (r : PySem.Reads H v d as) (ho : Hq.Others H a h) : PySem.Reads h v d as :=
  PySem.W.Reads.keepBut (a := a) (fun b o hb e => ho b o hb e) ha d v as hal r (by rw [reads_nil d v as hn hal r]; exact List.not_mem_nil)
/-! ### the rule -/
/-- what may stand in a heap -/
structure HItem (K : Frag) (H : Hp) (C : PyData → Prop) (p : V × PyData) : Prop where
  rd : Dp K H p.1 p.2
  c : C p.2
/-- a class of data that are alike -/
structure HCls (C : PyData → Prop) : Prop where
  al : ∀ d e, C d → C e → PySem.W.alike d e = true
  nn : ∀ d, C d → d ≠ .none
  nl : ∀ d, C d → noList d = true
  dp : ∀ d, C d → d.depth ≤ 60
abbrev ltP (p q : V × PyData) : Bool := PySem.W.dataLt p.2 q.2
/-- in heapq's order -/
def HQ (ps : List (V × PyData)) : Prop := Hq.HP ltP ps.toArray
def rPush (K : Frag) : List V → Hp → VK → Prop := fun xs H Q => ∃ (l : Addr) (C : PyData → Prop) (ps : List (V × PyData)) (p : V × PyData), xs = [.ref l, p.1] ∧ H l = some (.lst (ps.map Prod.fst)) ∧ ps.length < sizeLine ∧ HCls C ∧ HQ ps ∧ (∀ q ∈ ps, HItem K H C q) ∧ HItem K H C p ∧
  ∀ qs : List (V × PyData), qs.Perm (p :: ps) → HQ qs → Q .non (upd H l (.lst (qs.map Prod.fst)))
def rHpop (K : Frag) : List V → Hp → VK → Prop := fun xs H Q => ∃ (l : Addr) (C : PyData → Prop) (ps : List (V × PyData)), xs = [.ref l] ∧ H l = some (.lst (ps.map Prod.fst)) ∧ ps ≠ [] ∧ HCls C ∧ HQ ps ∧ (∀ q ∈ ps, HItem K H C q) ∧
  ∀ (p : V × PyData) (qs : List (V × PyData)), (p :: qs).Perm ps → (∀ q ∈ qs, ltP q p = false) → HQ qs → Q p.1 (upd H l (.lst (qs.map Prod.fst)))
/-- what the machine's array holds -/
abbrev Hz := (V × PyData) × Value
abbrev ltZ (z w : Hz) : Bool := PySem.W.dataLt z.1.2 w.1.2
def PZ (C : PyData → Prop) (h : Heap) (z : Hz) : Prop := RelV z.1.1 z.2 ∧ C z.1.2 ∧ ∃ as, PySem.Reads h z.2 z.1.2 as
theorem ordZ (P : Hz → Prop) : Hq.Ord ltZ P where
  tr := fun x y z _ _ _ h1 h2 => by
    cases q : ltZ z x with
    | false => rfl
    | true =>
      rcases lex_negTrans _ (PySem.W.keyToks y.1.2) _ q with a | a
      · exact absurd (h2.symm.trans a) Bool.false_ne_true
      · exact absurd (h1.symm.trans a) Bool.false_ne_true
  asy := fun x y _ _ h => by
    cases q : ltZ y x with
    | false => rfl
    | true =>
      have := lex_trans _ _ _ h q
      rw [lex_irrefl] at this
      cases this
theorem cmpZ {prog : Program} {w : World} {A : Around} {H : Heap} {a : Addr} {C : PyData → Prop} (hC : HCls C) (ha : ∀ o, H.get? a = some o → o.cls = .type "list") (hu : A.units + 60 < cLine) : Hq.CmpH prog w A H a (fun z : Hz => z.2) ltZ (PZ C H) := by
  intro x y s Q E ho ⟨_, c1, as, r1⟩ ⟨_, c2, bs, r2⟩ q
  exact PySem.W.rcLt_alike x.1.2 y.1.2 A s x.2 y.2 as bs (reads_others (hC.nl _ c1) (hC.al _ _ c1 c1) ha r1 ho) (reads_others (hC.nl _ c2) (hC.al _ _ c2 c2) ha r2 ho) (hC.al _ _ c1 c2) (hC.nn _ c1) (by
    have := Nat.min_le_left x.1.2.depth y.1.2.depth
    have := hC.dp _ c1
    omega) prog w E Q q
theorem zipVals {ps : List (V × PyData)} {its : List Value} (h : Vals (ps.map Prod.fst) its) : (ps.zip its).map (·.2) = its ∧ (ps.zip its).map (·.1) = ps ∧ ∀ z ∈ ps.zip its, RelV z.1.1 z.2 := by
  induction ps generalizing its with
  | nil =>
    cases h
    exact ⟨rfl, rfl, fun z hz => by cases hz⟩
  | cons p ps ih =>
    cases h with
    | cons h1 h2 =>
      obtain ⟨e1, e2, e3⟩ := ih h2
      refine ⟨by rw [List.zip_cons_cons, List.map_cons, e1], by rw [List.zip_cons_cons, List.map_cons, e2], fun z hz => ?_⟩
      rcases List.mem_cons.mp hz with rfl | hz
      · exact h1
      · exact e3 z hz
theorem valsZ {C : PyData → Prop} {h : Heap} : ∀ {zs : List Hz}, (∀ z ∈ zs, PZ C h z) → Vals ((zs.map (·.1)).map Prod.fst) (zs.map (·.2))
  | [], _ => .nil
  | z :: zs, hz => .cons (hz z List.mem_cons_self).1 (valsZ fun y hy => hz y (List.mem_cons_of_mem _ hy))
theorem hp_of {ps : List (V × PyData)} {zs : Array Hz} (e : zs.toList.map (·.1) = ps) : HQ ps ↔ Hq.HP ltZ zs := by
  have g : ∀ i : Nat, ps.toArray[i]? = zs[i]?.map (·.1) := fun i => by
    rw [← e]
    simp
  constructor
  · intro h i hi x y hx hy
    exact h i hi x.1 y.1 (by rw [g, hx]; rfl) (by rw [g, hy]; rfl)
  · intro h i hi x y hx hy
    rw [g] at hx hy
    cases q1 : zs[Hq.par i]? with
    | none => rw [q1] at hx; cases hx
    | some x' =>
      cases q2 : zs[i]? with
      | none => rw [q2] at hy; cases hy
      | some y' =>
        rw [q1] at hx
        rw [q2] at hy
        cases hx
        cases hy
        exact h i hi x' y' q1 q2
section
variable {X : Cx}
theorem Inv.hset {pins : List (Addr × Obj)} {σ : L2.St} {H : Hp} {s : Shared} {l : Addr} {xs ys : List V} {h' : Heap} {its' : List Value} (I : Inv X pins σ H s) (hH : H l = some (.lst xs)) (ho : Hq.Others s.heap l h') (hl : Hq.LstAt h' l its'.toArray) (hv : Vals ys its') (hz : ys.length ≤ sizeLine) :
    Inv X pins σ (upd H l (.lst ys)) { s with heap := h' } := by
  obtain ⟨n, e⟩ := hl
  exact I.write (x := l) (e := l) (t' := s.toks) (by rw [hH]; exact trivial) (.inl rfl) (fun b u hb hu => ho b u hb hu) ⟨_, e⟩ ⟨hz, its', n, hv, e⟩
theorem hz_start {pins : List (Addr × Obj)} {σ : L2.St} {H : Hp} {s : Shared} {l : Addr} {C : PyData → Prop} {ps : List (V × PyData)} (I : Inv X pins σ H s) (hH : H l = some (.lst (ps.map Prod.fst))) (hi : ∀ q ∈ ps, HItem X.K H C q) :
    ∃ zs : Array Hz, zs.toList.map (·.1) = ps ∧ Hq.AllP (PZ C s.heap) zs ∧ Hq.LstAt s.heap l (zs.map (·.2)) ∧ (∀ o, s.heap.get? l = some o → o.cls = .type "list") := by
  obtain ⟨z, its, n, r, hl, e⟩ := I.lstM hH
  obtain ⟨e1, e2, e3⟩ := zipVals r
  refine ⟨(ps.zip its).toArray, e2, fun i z hz => ?_, ⟨n, by rw [List.map_toArray, e1]; exact e⟩, fun o ho => ?_⟩
  · have hm : z ∈ ps.zip its := by
      rw [List.getElem?_toArray] at hz
      exact List.mem_of_getElem? hz
    have hp : z.1 ∈ ps := (List.of_mem_zip hm).1
    have it := hi _ hp
    exact ⟨e3 z hm, it.c, Dp.reads I _ _ _ it.rd (e3 z hm)⟩
  · rw [e] at ho
    cases ho
    rfl
theorem hpush_rule (hu : X.A.units + 64 < cLine) : CallR X (.builtin "_heapq.heappush") (rPush X.K) := by
  intro pins s σ H xs us Q I rv h
  obtain ⟨l, C, ps, p, rfl, hH, hlen, hC, hq, hi, hp, k⟩ := h
  obtain ⟨z, its, n, r, hl, e⟩ := I.lstM hH
  obtain ⟨zs, ez, hP, hL, hcl⟩ := hz_start I hH hi
  cases rv with
  | cons r1 r2 =>
    have r2' : Vals [p.1] _ := r2
    obtain ⟨u, rfl, ru⟩ := r2'.one
    cases r1
    have szs : zs.size = ps.length := by rw [← ez]; simp
    refine Hq.push_call (zs := zs) (z := (p, u)) (P := PZ C s.heap) (ordZ _) (cmpZ hC hcl (by show X.A.units + 1 + 60 < cLine; omega)) (by omega) hP ⟨ru, hp.c, Dp.reads I _ _ _ hp.rd ru⟩ ((hp_of ez).mp hq) hL (fun _ _ _ e => e) fun ys h' hperm hPy hx hl' ho => ?_
    have hperm' : ys.toList.Perm (zs.toList ++ [(p, u)]) := by
      have := hperm.toList
      rwa [Array.toList_push] at this
    have hv := valsZ (zs := ys.toList) (C := C) (h := s.heap) fun z hz => by
      obtain ⟨i, hi', e'⟩ := List.mem_iff_getElem.mp hz
      exact hPy i z (by rw [← Array.getElem?_toList]; rw [List.getElem?_eq_getElem hi', e'])
    have hp1 : (ys.toList.map (·.1)).Perm (p :: ps) := by
      have := hperm'.map (·.1)
      rw [List.map_append, ez] at this
      exact this.trans (List.perm_append_singleton _ _)
    refine ⟨.non, _, Inv.hset I hH ho (its' := ys.toList.map (·.2)) ?_ hv ?_, rfl, k _ hp1 ((hp_of rfl).mpr hx)⟩
    · have : (ys.toList.map (·.2)).toArray = ys.map (·.2) := by rw [← List.map_toArray, Array.toArray_toList]
      rw [this]
      exact hl'
    · have := hp1.length_eq
      rw [List.length_map, this]
      show ps.length + 1 ≤ _
      omega
theorem hpop_rule (hu : X.A.units + 64 < cLine) : CallR X (.builtin "_heapq.heappop") (rHpop X.K) := by
  intro pins s σ H xs us Q I rv h
  obtain ⟨l, C, ps, rfl, hH, hne, hC, hq, hi, k⟩ := h
  obtain ⟨z, its, n, r, hl, e⟩ := I.lstM hH
  obtain ⟨zs, ez, hP, hL, hcl⟩ := hz_start I hH hi
  obtain ⟨u, rfl, ru⟩ := rv.one
  cases ru
  have szs : zs.size = ps.length := by rw [← ez]; simp
  have h0 : 0 < ps.length := List.length_pos_iff.mpr hne
  rw [List.length_map] at z
  refine Hq.pop_call (zs := zs) (f := fun z : Hz => z.2) (P := PZ C s.heap) (ordZ _) (fun x _ => lex_irrefl _) (cmpZ hC hcl (by show X.A.units + 1 + 60 < cLine; omega)) (by omega) (by omega) hP ((hp_of ez).mp hq) hL (fun _ _ _ e => e) fun w ys h' hperm hmin hPw hPy hx hl' ho => ?_
  have hperm' : (ys.toList ++ [w]).Perm zs.toList := by
    have := hperm.toList
    rwa [Array.toList_push] at this
  have hv := valsZ (zs := ys.toList) (C := C) (h := s.heap) fun z hz => by
    obtain ⟨i, hi', e'⟩ := List.mem_iff_getElem.mp hz
    exact hPy i z (by rw [← Array.getElem?_toList]; rw [List.getElem?_eq_getElem hi', e'])
  have hp1 : (w.1 :: ys.toList.map (·.1)).Perm ps := by
    have := hperm'.map (·.1)
    rw [List.map_append, ez] at this
    exact (List.perm_append_singleton _ _).symm.trans this
  refine ⟨w.1.1, _, Inv.hset I hH ho (its' := ys.toList.map (·.2)) ?_ hv ?_, hPw.1, k w.1 _ hp1 (fun q hq => ?_) ((hp_of rfl).mpr hx)⟩
  · have : (ys.toList.map (·.2)).toArray = ys.map (·.2) := by rw [← List.map_toArray, Array.toArray_toList]
    rw [this]
    exact hl'
  · have := hp1.length_eq
    rw [List.length_cons] at this
    rw [List.length_map]
    omega
  · obtain ⟨z', hz', rfl⟩ := List.mem_map.mp hq
    exact hmin z' (Array.mem_toList_iff.mp hz')
end
end Slip
/-! what each construct comes to -/
namespace Slip
open PySem PySem.Spec PyProof.Rows L2
section
variable {ρ : Rl} {K : Frag} {σ : L2.St} {H H' : Hp} {ta tb te tc : TE} {t u : TT} {x y z v : V} {i j k : Int} {R : V → Hp → Prop} {a b p : Addr} {xs ys : List V} {d e : PyData}
/-! ### numbers -/
theorem ev_add (h1 : EvV ρ ta σ H (.int i)) (h2 : EvV ρ tb σ H (.int j)) : EvV ρ (tOp (rAddU K) ta tb) σ H (.int (i + j)) := ev_op h1 h2 (.const fun _ _ _ q => .inl ⟨i, j, rfl, rfl, q⟩)
theorem ev_sub (h1 : EvV ρ ta σ H (.int i)) (h2 : EvV ρ tb σ H (.int j)) : EvV ρ (tOp rSubI ta tb) σ H (.int (i - j)) := ev_op h1 h2 (.const fun _ _ _ q => ⟨i, j, rfl, rfl, q⟩)
theorem ev_mul (h1 : EvV ρ ta σ H (.int i)) (h2 : EvV ρ tb σ H (.int j)) (h : CMul i j) : EvV ρ (tOp rMulI ta tb) σ H (.int (i * j)) := ev_op h1 h2 (.const fun _ _ _ q => ⟨i, j, rfl, rfl, h, q⟩)
theorem ev_mod (h1 : EvV ρ ta σ H (.int i)) (h2 : EvV ρ tb σ H (.int j)) (h : 0 < j) : EvV ρ (tOp rModI ta tb) σ H (.int (i % j)) := ev_op h1 h2 (.const fun _ _ _ q => ⟨i, j, rfl, rfl, h, q⟩)
theorem ev_fdiv (h1 : EvV ρ ta σ H (.int i)) (h2 : EvV ρ tb σ H (.int j)) (h : CDiv i j) : EvV ρ (tOp rFdivI ta tb) σ H (.int (i / j)) := ev_op h1 h2 (.const fun _ _ _ q => ⟨i, j, rfl, rfl, h, q⟩)
theorem ev_pow (h1 : EvV ρ ta σ H (.int i)) (h2 : EvV ρ tb σ H (.int j)) (h : CPow i j) : EvV ρ (tOp rPowI ta tb) σ H (.int (i ^ j.toNat)) := ev_op h1 h2 (.const fun _ _ _ q => ⟨i, j, rfl, rfl, h, q⟩)
theorem ev_neg (h1 : EvV ρ ta σ H (.int i)) : EvV ρ (tUn rNegI ta) σ H (.int (-i)) := fun H1 e1 Q q => h1 H1 e1 _ fun v H2 e2 hv => ⟨i, hv, q _ H2 e2 rfl⟩
theorem ev_int (h1 : EvV ρ ta σ H (.int i)) : EvV ρ (tCB rIntOf (tCons ta tNil)) σ H (.int i) := ev_cbV (ea_cons h1 ea_nil) fun H1 _ Q q => .inl ⟨i, rfl, q _ H1 .rfl rfl⟩
theorem ev_intB {c : Bool} (h1 : EvV ρ ta σ H (.bl c)) : EvV ρ (tCB rIntOf (tCons ta tNil)) σ H (.int (if c then 1 else 0)) := ev_cbV (ea_cons h1 ea_nil) fun H1 _ Q q => .inr ⟨c, rfl, q _ H1 .rfl rfl⟩
/-! ### texts -/
theorem ev_addS {s1 s2 : Str} (h1 : EvV ρ ta σ H (.str s1)) (h2 : EvV ρ tb σ H (.str s2)) (h : s1.length + s2.length ≤ 100000) : EvV ρ (tOp (rAddU K) ta tb) σ H (.str (s1 ++ s2)) := ev_op h1 h2 (.const fun _ _ _ q => .inr (.inl ⟨_, _, rfl, rfl, Evl.sz_of h, q⟩))
theorem ev_ixS {s : Str} {c : Nat} (h1 : EvV ρ ta σ H (.str s)) (h2 : EvV ρ tb σ H (.int i)) (hl : s.length ≤ 100000) (h : atI s.cps.toList i = some c) : EvV ρ (tIxU K ta tb) σ H (.str ⟨#[c]⟩) :=
  fun H1 e1 Q q => .inl (ev_op h1 h2 (RV.const (r := rIx K) fun _ _ _ q => .inr (.inr ⟨s, i, c, rfl, rfl, Evl.sz_of hl, h, q⟩)) H1 e1 Q q)
theorem ev_lenS {s : Str} (h1 : EvV ρ ta σ H (.str s)) (hl : s.length ≤ 100000) : EvV ρ (tCB (rLenU K) (tCons ta tNil)) σ H (.int (s.length : Int)) := ev_cbV (ea_cons h1 ea_nil) fun H1 _ Q q => .inl ⟨_, s.length, rfl, ⟨Evl.sz_of hl, rfl⟩, q _ H1 .rfl rfl⟩
theorem ev_inS {s : Str} {c : Nat} (h1 : EvV ρ ta σ H (.str ⟨#[c]⟩)) (h2 : EvV ρ tb σ H (.str s)) : EvV ρ (tOp (rInU K) ta tb) σ H (.bl (decide (c ∈ s.cps.toList))) := ev_op h1 h2 (.const fun _ _ _ q => .inr (.inl ⟨c, s, rfl, rfl, q⟩))
theorem ev_notInS {s : Str} {c : Nat} (h1 : EvV ρ ta σ H (.str ⟨#[c]⟩)) (h2 : EvV ρ tb σ H (.str s)) : EvV ρ (tOp (rNotInU K) ta tb) σ H (.bl (!decide (c ∈ s.cps.toList))) := ev_op h1 h2 (.const fun _ _ _ q => .inr (.inl ⟨c, s, rfl, rfl, q⟩))
/-! ### sequences -/
theorem ev_ix {n : Nat} (h1 : EvV ρ ta σ H (.ref a)) (h2 : EvV ρ tb σ H (.int i)) (hs : ∀ H1, ρ.r H H1 → SqA K H1 a xs) (hi : i = (n : Int)) (h : xs[n]? = some v) : EvV ρ (tIxU K ta tb) σ H v :=
  fun H1 e1 Q q => .inl (ev_op h1 h2 (RV.const (r := rIx K) fun H2 e2 _ q => (hs H2 e2).elim (fun hs => .inl ⟨a, xs, i, v, rfl, rfl, hs, hi ▸ atI_nat h, q⟩) fun hs => .inr (.inl ⟨a, xs, i, v, rfl, rfl, hs, hi ▸ atI_nat h, q⟩)) H1 e1 Q q)
theorem ev_len (h1 : EvV ρ ta σ H (.ref a)) (hs : ∀ H1, ρ.r H H1 → SqA K H1 a xs) : EvV ρ (tCB (rLenU K) (tCons ta tNil)) σ H (.int (xs.length : Int)) :=
  ev_cbV (ea_cons h1 ea_nil) fun H1 e1 Q q => .inl ⟨_, xs.length, rfl, (hs H1 e1).elim (fun h => .inl ⟨xs, h, rfl⟩) fun h => .inr ⟨xs, h, rfl⟩, q _ H1 .rfl rfl⟩
/-! ### isinstance, is None, ==, < -/
theorem ev_isi {n : String} (h1 : EvV ρ ta σ H v) (hd : DS ρ H v d) (g : good n = true) : EvV ρ (tCB (rIsiU K) (tCons ta (tCons (tC (.ty n)) tNil))) σ H (.bl (isiB d n)) :=
  ev_cbV (ea_cons h1 (ea_cons ev_c ea_nil)) fun H1 e1 Q q => .inl ⟨v, n, d, rfl, (e1.ds hd).dp _ _, g, q _ H1 .rfl rfl⟩
theorem ev_isN (h1 : EvV ρ ta σ H v) : EvV ρ (tOp rIsN ta (tC .non)) σ H (.bl (decide (v = .non))) := ev_op h1 ev_c (.const fun _ _ _ q => ⟨rfl, q⟩)
theorem ev_notN (h1 : EvV ρ ta σ H v) : EvV ρ (tOp rNotN ta (tC .non)) σ H (.bl (!decide (v = .non))) := ev_op h1 ev_c (.const fun _ _ _ q => ⟨rfl, q⟩)
theorem ev_eqD (h1 : EvV ρ ta σ H x) (h2 : EvV ρ tb σ H y) (hd : DS ρ H x d) (he : DS ρ H y e) (sd : SeqAt.shaped d = true) (se : SeqAt.shaped e = true) : EvV ρ (tOp (rEqU K) ta tb) σ H (.bl (PyData.eqv d e)) :=
  ev_op h1 h2 (.const fun H1 e1 _ q => .inr ⟨d, e, (e1.ds hd).dp _ _, (e1.ds he).dp _ _, sd, se, q⟩)
theorem ev_neD (h1 : EvV ρ ta σ H x) (h2 : EvV ρ tb σ H y) (hd : DS ρ H x d) (he : DS ρ H y e) (sd : SeqAt.shaped d = true) (se : SeqAt.shaped e = true) : EvV ρ (tOp (rNeU K) ta tb) σ H (.bl (!PyData.eqv d e)) :=
  ev_op h1 h2 (.const fun H1 e1 _ q => .inr ⟨d, e, (e1.ds hd).dp _ _, (e1.ds he).dp _ _, sd, se, q⟩)
theorem ev_eqV (h1 : EvV ρ ta σ H x) (h2 : EvV ρ tb σ H y) (h : scal x y = true) : EvV ρ (tOp (rEqU K) ta tb) σ H (.bl (decide (x = y))) := ev_op h1 h2 (.const fun H1 e1 _ q => .inl ⟨h, q⟩)
theorem ev_neV (h1 : EvV ρ ta σ H x) (h2 : EvV ρ tb σ H y) (h : scal x y = true) : EvV ρ (tOp (rNeU K) ta tb) σ H (.bl (!decide (x = y))) := ev_op h1 h2 (.const fun H1 e1 _ q => .inl ⟨h, q⟩)
theorem decI (i j : Int) : decide (V.int i = V.int j) = decide (i = j) := by simp
theorem decS (i j : Str) : decide (V.str i = V.str j) = decide (i = j) := by simp
theorem decB (i j : Bool) : decide (V.bl i = V.bl j) = (i == j) := by cases i <;> cases j <;> rfl
theorem ev_eqI (h1 : EvV ρ ta σ H (.int i)) (h2 : EvV ρ tb σ H (.int j)) : EvV ρ (tOp (rEqU K) ta tb) σ H (.bl (decide (i = j))) := (ev_eqV h1 h2 rfl).val (by rw [decI])
theorem ev_neI (h1 : EvV ρ ta σ H (.int i)) (h2 : EvV ρ tb σ H (.int j)) : EvV ρ (tOp (rNeU K) ta tb) σ H (.bl (!decide (i = j))) := (ev_neV h1 h2 rfl).val (by rw [decI])
theorem ev_eqS {s1 s2 : Str} (h1 : EvV ρ ta σ H (.str s1)) (h2 : EvV ρ tb σ H (.str s2)) : EvV ρ (tOp (rEqU K) ta tb) σ H (.bl (decide (s1 = s2))) := (ev_eqV h1 h2 rfl).val (by rw [decS])
theorem ev_neS {s1 s2 : Str} (h1 : EvV ρ ta σ H (.str s1)) (h2 : EvV ρ tb σ H (.str s2)) : EvV ρ (tOp (rNeU K) ta tb) σ H (.bl (!decide (s1 = s2))) := (ev_neV h1 h2 rfl).val (by rw [decS])
theorem ev_eqB {c1 c2 : Bool} (h1 : EvV ρ ta σ H (.bl c1)) (h2 : EvV ρ tb σ H (.bl c2)) : EvV ρ (tOp (rEqU K) ta tb) σ H (.bl (c1 == c2)) := (ev_eqV h1 h2 rfl).val (by rw [decB])
theorem ev_cmp {g : PyData → PyData → Bool} (h1 : EvV ρ ta σ H x) (h2 : EvV ρ tb σ H y) (hd : DS ρ H x d) (he : DS ρ H y e) (al : PySem.W.alike d e = true) (nn : d ≠ .none) (dp : d.depth ≤ 64) : EvV ρ (tOp (rCmp K g) ta tb) σ H (.bl (g d e)) :=
  ev_op h1 h2 (.const fun H1 e1 _ q => ⟨d, e, (e1.ds hd).dp _ _, (e1.ds he).dp _ _, al, nn, dp, q⟩)
theorem rv_cmpI {g : PyData → PyData → Bool} (H1 : Hp) (Q : VK) (q : Q (.bl (g (.int i) (.int j))) H1) : rCmp K g (.int i) (.int j) H1 Q := ⟨.int i, .int j, .int i, .int j, rfl, by simp, by show (0 : Nat) ≤ 64; decide, q⟩
theorem ev_cmpI {g : PyData → PyData → Bool} (h1 : EvV ρ ta σ H (.int i)) (h2 : EvV ρ tb σ H (.int j)) : EvV ρ (tOp (rCmp K g) ta tb) σ H (.bl (g (.int i) (.int j))) := ev_op h1 h2 (.const fun H1 _ Q q => rv_cmpI H1 Q q)
theorem lt_int (i j : Int) : PySem.W.dataLt (.int i) (.int j) = decide (i < j) := PySem.W.dataLt_int i j
theorem ev_lt (h1 : EvV ρ ta σ H (.int i)) (h2 : EvV ρ tb σ H (.int j)) : EvV ρ (tOp (rCmp K gLt) ta tb) σ H (.bl (decide (i < j))) := (ev_cmpI h1 h2).val (by rw [show gLt (.int i) (.int j) = PySem.W.dataLt (.int i) (.int j) from rfl, lt_int])
theorem ev_gt (h1 : EvV ρ ta σ H (.int i)) (h2 : EvV ρ tb σ H (.int j)) : EvV ρ (tOp (rCmp K gGt) ta tb) σ H (.bl (decide (j < i))) := (ev_cmpI h1 h2).val (by rw [show gGt (.int i) (.int j) = PySem.W.dataLt (.int j) (.int i) from rfl, lt_int])
theorem not_lt_dec (i j : Int) : (!decide (j < i)) = decide (i ≤ j) := by
  by_cases h : i ≤ j
  · rw [decide_eq_true h, decide_eq_false (by omega)]; rfl
  · rw [decide_eq_false h, decide_eq_true (by omega)]; rfl
theorem ev_le (h1 : EvV ρ ta σ H (.int i)) (h2 : EvV ρ tb σ H (.int j)) : EvV ρ (tOp (rCmp K gLe) ta tb) σ H (.bl (decide (i ≤ j))) := (ev_cmpI h1 h2).val (by rw [show gLe (.int i) (.int j) = !PySem.W.dataLt (.int j) (.int i) from rfl, lt_int, not_lt_dec])
theorem ev_ge (h1 : EvV ρ ta σ H (.int i)) (h2 : EvV ρ tb σ H (.int j)) : EvV ρ (tOp (rCmp K gGe) ta tb) σ H (.bl (decide (j ≤ i))) := (ev_cmpI h1 h2).val (by rw [show gGe (.int i) (.int j) = !PySem.W.dataLt (.int i) (.int j) from rfl, lt_int, not_lt_dec])
theorem rle_val (i j : Int) : gLe (.int i) (.int j) = decide (i ≤ j) := by rw [show gLe (.int i) (.int j) = !PySem.W.dataLt (.int j) (.int i) from rfl, lt_int, not_lt_dec]
/-- i <= j <= k -/
theorem ev_chainLe (h1 : EvV ρ ta σ H (.int i)) (h2 : EvV ρ tb σ H (.int j)) (h3 : EvV ρ tc σ H (.int k)) : EvV ρ (tChain (rCmp K gLe) (rCmp K gLe) ta tb tc) σ H (.bl (decide (i ≤ j) && decide (j ≤ k))) := fun H1 e1 Q q =>
  h1 H1 e1 _ fun _ H2 e2 hx => by
    subst hx
    exact h2 H2 (e1.trans e2) _ fun _ H3 e3 hy => by
      subst hy
      refine rv_cmpI H3 _ ⟨_, rfl, ?_⟩
      rw [rle_val]
      cases hc : decide (i ≤ j) with
      | true =>
        rw [if_pos rfl]
        refine h3 H3 ((e1.trans e2).trans e3) _ fun _ H4 e4 hz => ?_
        subst hz
        refine rv_cmpI H4 _ ?_
        rw [rle_val]
        exact q _ H4 ((e2.trans e3).trans e4) (by rw [hc, Bool.true_and])
      | false =>
        rw [if_neg Bool.false_ne_true]
        exact q _ H3 (e2.trans e3) (by rw [hc, Bool.false_and])
/-! ### what a for walks -/
variable {wi : TI} {n : Nat} {Y : Nat → Hp → V → Hp → Prop}
theorem ei_seq (h : EvV ρ te σ H (.ref a)) (hs : ∀ H1, ρ.r H H1 → SqA K H1 a xs) (ht : (∀ H1, ρ.r H H1 → SqL K H1 a xs) ∨ (∀ H1, ρ.r H H1 → SqT K H1 a xs)) : EvI ρ (iSeq K te) σ H xs.length (YAt xs) := fun H1 e1 R k => by
  rcases ht with ht | ht
  · exact .inl (h H1 e1 _ fun v H2 e2 hv => ⟨a, hv, ⟨xs, ht H2 (e1.trans e2)⟩, k _ H2 e2 (walk_list.mono (fun H3 e3 => ht H3 ((e1.trans e2).trans e3)) fun _ _ _ _ _ _ y => y)⟩)
  · exact .inr (.inl (h H1 e1 _ fun v H2 e2 hv => ⟨a, hv, ⟨xs, ht H2 (e1.trans e2)⟩, k _ H2 e2 (walk_tup.mono (fun H3 e3 => ht H3 ((e1.trans e2).trans e3)) fun _ _ _ _ _ _ y => y)⟩))
theorem ei_str {s : Str} (h : EvV ρ te σ H (.str s)) : EvI ρ (iSeq K te) σ H s.cps.size (fun i H v H' => H' = H ∧ ∃ c, s.cps[i]? = some c ∧ v = .str ⟨#[c]⟩) := fun H1 e1 R k =>
  .inr (.inr (h H1 e1 _ fun v H2 e2 hv => ⟨s, hv, k _ H2 e2 (walk_str.mono (fun _ _ => trivial) fun _ _ _ _ _ _ y => y)⟩))
theorem ei_rng {ts : TA} (h : EvAV ρ ts σ H [.int i]) (lo : -100000 ≤ i) (hi : i ≤ 100000000) : EvI ρ (iRng1 ts) σ H i.toNat (YFn fun m => .int ((m : Nat) : Int)) := fun H1 e1 R k =>
  h H1 e1 _ fun v H2 e2 hv => ⟨i, hv, by omega, by omega, k _ H2 e2 (walk_range.mono (fun _ _ => trivial) fun m H3 x H4 _ _ y => ⟨y.1, by rw [y.2]; exact congrArg V.int (Int.zero_add _)⟩)⟩
end
end Slip
/-! comprehensions -/
namespace Slip
open PySem PySem.Spec PyProof.Rows L2
def keptN (f : Nat → Bool) (n : Nat) : List Nat := (List.range n).filter f
theorem kept_yes {f : Nat → Bool} {n : Nat} (h : f n = true) : keptN f (n + 1) = keptN f n ++ [n] := by
  unfold keptN
  rw [List.range_succ, List.filter_append, List.filter_cons, if_pos h] <;> rfl
theorem kept_no {f : Nat → Bool} {n : Nat} (h : f n = false) : keptN f (n + 1) = keptN f n := by
  unfold keptN
  rw [List.range_succ, List.filter_append, List.filter_cons, if_neg (by rw [h]; exact Bool.false_ne_true)]
  exact List.append_nil _
theorem kept_len (f : Nat → Bool) (n : Nat) : (keptN f n).length ≤ n := by
  have h := List.length_filter_le f (List.range n)
  rw [List.length_range] at h
  exact h
theorem kept_congr {f g : Nat → Bool} {n : Nat} (h : ∀ i, i < n → f i = g i) : keptN f n = keptN g n := by
  unfold keptN
  exact List.filter_congr fun i hi => h i (List.mem_range.mp hi)
theorem kept_all {f : Nat → Bool} {n : Nat} (h : ∀ i, i < n → f i = true) : keptN f n = List.range n := by
  unfold keptN
  exact List.filter_eq_self.mpr fun i hi => h i (List.mem_range.mp hi)
/-- xs, one for each kept turn -/
def Items (P : Nat → V → Prop) (is : List Nat) (xs : List V) : Prop := xs.length = is.length ∧ ∀ (m : Nat) x i, xs[m]? = some x → is[m]? = some i → P i x
theorem Items.nil {P : Nat → V → Prop} : Items P [] [] := ⟨rfl, fun m x i h => by simp at h⟩
theorem Items.snoc {P : Nat → V → Prop} {is : List Nat} {xs : List V} (h : Items P is xs) {i : Nat} {x : V} (p : P i x) : Items P (is ++ [i]) (xs ++ [x]) := by
  refine ⟨by rw [List.length_append, List.length_append, h.1]; rfl, fun m y j a b => ?_⟩
  by_cases hm : m < xs.length
  · rw [List.getElem?_append_left hm] at a
    rw [List.getElem?_append_left (h.1 ▸ hm)] at b
    exact h.2 m y j a b
  · rw [List.getElem?_append_right (by omega)] at a
    rw [List.getElem?_append_right (by have := h.1; omega)] at b
    have e : m - xs.length = 0 := by
      cases q : m - xs.length with
      | zero => rfl
      | succ z => rw [q] at a; simp at a
    rw [e] at a
    rw [← h.1, e] at b
    simp at a b
    subst a b
    exact p
theorem Items.imp {P P' : Nat → V → Prop} {is : List Nat} {xs : List V} (h : Items P is xs) (f : ∀ i x, P i x → P' i x) : Items P' is xs := ⟨h.1, fun m x i a b => f i x (h.2 m x i a b)⟩
theorem Items.map {v : Nat → V} {is : List Nat} {xs : List V} (h : Items (fun i x => x = v i) is xs) : xs = is.map v := by
  refine List.ext_getElem? fun m => ?_
  rw [List.getElem?_map]
  cases a : xs[m]? with
  | none =>
    have := List.getElem?_eq_none_iff.mp a
    rw [List.getElem?_eq_none_iff.mpr (by rw [← h.1]; exact this)] <;> rfl
  | some x =>
    have hm : m < is.length := by rw [← h.1]; exact (List.getElem?_eq_some_iff.mp a).1
    rw [List.getElem?_eq_getElem hm]
    show some x = some (v _)
    rw [h.2 m x _ a (List.getElem?_eq_getElem hm)]
section
variable {ρ : Rl} {K : Frag} {σ : L2.St} {H : Hp} {te : TE} {tt : TT} {wi : TI} {g : TG} {vs : List Nat} {n : Nat} {Y : Nat → Hp → V → Hp → Prop}
/-- what a turn's test and element come to -/
def Turn1 (ρ' : Rl) (tt : TT) (te : TE) (C : Bool → Prop) (R : V → Hp → Prop) (σ2 : L2.St) (H4 : Hp) : Prop :=
  ∀ H5, ρ'.r H4 H5 → ∀ Q : Bool → Hp → Prop, (∀ b H6, ρ'.r H5 H6 → C b → (b = true → Ev ρ' te σ2 H6 R) → Q b H6) → tt σ2 H5 Q
theorem ev_lc {R : Rl → Nat → V → Hp → Prop} {C : Nat → Bool → Prop} (own : Own ρ H) (hn : n ≤ 90000) (hI : EvI ρ wi σ H n Y)
    (hR : ∀ ρ' i x H1 H2, ρ'.r H1 H2 → R ρ' i x H1 → R ρ' i x H2) (hL : ∀ D i x H1, R (ρ.and D) i x H1 → R ρ i x H1)
    (hs : ∀ D H1, ρ.r H H1 → H1 D = none → ∀ i x H2 H3, i < n → ρ.r H1 H2 → Own (ρ.and D) H2 → Y i H2 x H3 → ∀ cont : L2.St → Hp → Prop,
      (∀ σ2 H4, wipe σ2 vs = wipe σ vs → ρ.r H2 H4 → Turn1 ρ tt te (C i) (R (ρ.and D) i) σ2 H4 → cont σ2 H4) → g x (wipe σ vs) H3 cont) :
    Ev ρ (tLc wi g tt te vs) σ H (fun v H2 => ∃ p xs, ∃ f : Nat → Bool, v = .ref p ∧ ¬ ρ.S p ∧ H p = none ∧ H2 p = some (.lst xs) ∧ (∀ i, i < n → C i (f i)) ∧ Items (fun i x => R ρ i x H2) (keptN f n) xs) := fun H0 e0 Q q =>
  hI H0 e0 _ fun J H1 e1 w D hD => by
    have e01 := e0.trans e1
    have nS : ¬ ρ.S D := (own.r e01).fresh hD
    refine lc_it w (fun i H' => ρ.r H1 H' ∧ ∃ xs, ∃ f : Nat → Bool, H' D = some (.lst xs) ∧ (∀ i', i' < i → C i' (f i')) ∧ Items (fun i' x => R (ρ.and D) i' x H') (keptN f i) xs)
      ⟨r_new _ hD, [], fun _ => true, upd_same, fun i h => absurd h (Nat.not_lt_zero i), Items.nil⟩ (fun i H' _ p => p.1) ?_ ?_
    · rintro i x H2 H3 hi ⟨r12, xs, f, hx, hC, hit⟩ y
      have oD : Own (ρ.and D) H2 := (own.r e01).and r12 (by rw [hx]; exact Option.some_ne_none _)
      refine hs D H1 e01 hD i x H2 H3 hi r12 oD y _ fun σ2 H4 hw r24 ht => ⟨hw, ?_⟩
      refine ht H4 .rfl _ fun b H5 r45 hCb he => ?_
      have r25 := r24.trans r45
      have hlen : xs.length ≤ 90000 := by
        have := hit.1
        have := kept_len f i
        omega
      have fC : ∀ c : Bool, C i c → ∀ i', i' < i + 1 → C i' ((fun j => if j = i then c else f j) i') := fun c hc i' hi' => by
        by_cases z : i' = i
        · subst z; show C i' (if i' = i' then c else f i'); rw [if_pos rfl]; exact hc
        · show C i' (if i' = i then c else f i'); rw [if_neg z]; exact hC i' (by omega)
      have fk : ∀ c : Bool, keptN (fun j => if j = i then c else f j) i = keptN f i := fun c => kept_congr fun j hj => if_neg (by omega)
      cases b with
      | true =>
        show te σ2 H5 _
        refine he rfl H5 .rfl _ fun z H6 r56 hz => ?_
        have r26 := r25.trans r56
        refine ⟨xs, r26.keep _ _ nS hx, Evl.sz_lt (by omega), r_mut (r12.trans r26) hD, xs ++ [z], fun j => if j = i then true else f j, upd_same, fC true hCb, ?_⟩
        rw [kept_yes (by show (if i = i then true else f i) = true; rw [if_pos rfl]), fk true]
        have g6 : H6 D = some (.lst xs) := r26.keep _ _ nS hx
        exact (hit.imp fun i' x' h => hR _ _ _ _ _ ((and_of r26).trans (r_chg g6 nS)) h).snoc (hR _ _ _ _ _ (r_chg g6 nS) hz)
      | false =>
        refine ⟨r12.trans r25, xs, fun j => if j = i then false else f j, r25.keep _ _ nS hx, fC false hCb, ?_⟩
        rw [kept_no (by show (if i = i then false else f i) = false; rw [if_pos rfl]), fk false]
        exact hit.imp fun i' x' h => hR _ _ _ _ _ (and_of r25) h
    · rintro H' ⟨r12, xs, f, hx, hC, hit⟩
      exact q _ H' (e1.trans r12) ⟨D, xs, f, rfl, nS, e01.back D hD, hx, hC, hit.imp fun i x z => hL D i x H' z⟩
/-- no test, one name as the target, elements whose values are known -/
theorem ev_lcV {j : Nat} {v : Nat → V} (own : Own ρ H) (hn : n ≤ 90000) (hI : EvI ρ wi σ H n Y) (hw : ∀ x, wipe ((wipe σ vs).set j (some x)) vs = wipe σ vs)
    (hY : ∀ i H2 x H3, Y i H2 x H3 → H3 = H2) (he : ∀ i x H2 H3, i < n → ρ.r H H2 → Y i H2 x H3 → EvV ρ te ((wipe σ vs).set j (some x)) H2 (v i)) :
    Ev ρ (tLc wi (gName j) tYes te vs) σ H (fun u H2 => ∃ p, u = .ref p ∧ ¬ ρ.S p ∧ H p = none ∧ H2 p = some (.lst ((List.range n).map v))) := by
  refine (ev_lc (R := fun _ i x _ => x = v i) (C := fun _ b => b = true) own hn hI (fun _ _ _ _ _ _ h => h) (fun _ _ _ _ h => h) ?_).imp ?_
  · intro D H1 r1 hD i x H2 H3 hi r2 oD y cont hc
    have e3 := hY i H2 x H3 y
    refine hc _ H3 (hw x) (by rw [e3]; exact .rfl) fun H5 r5 Q q => q true H5 .rfl rfl fun _ => ?_
    exact (he i x H2 H3 hi (r1.trans r2) y).mono (by rw [← e3]; exact r5)
  · rintro u H2 r ⟨p, xs, f, e, nS, hp, hx, hC, hit⟩
    rw [kept_all hC] at hit
    exact ⟨p, e, nS, hp, by rw [hx, hit.map]⟩
/-- no test, one name, elements that are data -/
theorem ev_lcD {j : Nat} {dd : Nat → PyData} (own : Own ρ H) (hn : n ≤ 90000) (hI : EvI ρ wi σ H n Y) (hw : ∀ x, wipe ((wipe σ vs).set j (some x)) vs = wipe σ vs)
    (hY : ∀ i H2 x H3, Y i H2 x H3 → H3 = H2)
    (he : ∀ D H1, ρ.r H H1 → H1 D = none → ∀ i x H2 H3, i < n → ρ.r H1 H2 → Own (ρ.and D) H2 → Y i H2 x H3 → Ev ρ te ((wipe σ vs).set j (some x)) H2 (fun y H4 => DS (ρ.and D) H4 y (dd i))) :
    Ev ρ (tLc wi (gName j) tYes te vs) σ H (fun u H2 => ∃ p xs, u = .ref p ∧ ¬ ρ.S p ∧ H p = none ∧ H2 p = some (.lst xs) ∧ DSs ρ H2 xs ((List.range n).map dd)) := by
  refine (ev_lc (R := fun ρ' i x H' => DS ρ' H' x (dd i)) (C := fun _ b => b = true) own hn hI (fun _ _ _ _ _ r h => r.ds h) (fun _ _ _ _ h => h.less) ?_).imp ?_
  · intro D H1 r1 hD i x H2 H3 hi r2 oD y cont hc
    have e3 := hY i H2 x H3 y
    refine hc _ H3 (hw x) (by rw [e3]; exact .rfl) fun H5 r5 Q q => q true H5 .rfl rfl fun _ => ?_
    exact (he D H1 r1 hD i x H2 H3 hi r2 oD y).mono (by rw [← e3]; exact r5)
  · rintro u H2 r ⟨p, xs, f, e, nS, hp, hx, hC, hit⟩
    rw [kept_all hC] at hit
    refine ⟨p, xs, e, nS, hp, hx, .of (by rw [hit.1, List.length_map]) fun m x d a b => ?_⟩
    rw [List.getElem?_map] at b
    cases q : (List.range n)[m]? with
    | none => rw [q] at b; cases b
    | some i =>
      rw [q] at b
      have := hit.2 m x i a q
      cases b
      exact this
end
end Slip
/-! the checks: what they promise, and that they keep it -/
namespace Slip
open PySem PySem.Spec PyProof.Rows L2
/-! ### data -/
def isSeqD : PyData → Bool
  | .list _ => true
  | .tuple _ => true
  | _ => false
def itemsD : PyData → List PyData
  | .list ds => ds
  | .tuple ds => ds
  | _ => []
mutual
def sm : PyData → Bool
  | .str s => decide (s.length ≤ 1000)
  | .list ds => decide (ds.length ≤ 1000) && smAll ds
  | .tuple ds => decide (ds.length ≤ 1000) && smAll ds
  | _ => true
def smAll : List PyData → Bool
  | [] => true
  | d :: ds => sm d && smAll ds
end
theorem smAll_mem : ∀ {ds : List PyData} {d : PyData}, smAll ds = true → d ∈ ds → sm d = true
  | e :: ds, d, h, hm => by
    have h' : sm e = true ∧ smAll ds = true := by simpa [smAll] using h
    rcases List.mem_cons.mp hm with rfl | hm
    · exact h'.1
    · exact smAll_mem h'.2 hm
theorem smAll_of : ∀ {ds : List PyData}, (∀ d ∈ ds, sm d = true) → smAll ds = true
  | [], _ => rfl
  | e :: ds, h => by
    show (sm e && smAll ds) = true
    rw [h e (List.mem_cons_self ..), smAll_of fun d hd => h d (List.mem_cons_of_mem _ hd)]
    rfl
theorem sm_str {s : Str} (h : sm (.str s) = true) : s.length ≤ 1000 := by simpa [sm] using h
theorem sm_seq {ds : List PyData} (h : sm (.list ds) = true ∨ sm (.tuple ds) = true) : ds.length ≤ 1000 ∧ smAll ds = true := by simpa [sm] using h
def letters : List Nat := ("abcdef" : Str).cps.toList
def isWordD : PyData → Bool
  | .str s => s.cps.toList.all fun c => decide (c ∈ letters)
  | _ => false
def isWholeD (lo hi : Int) : PyData → Bool
  | .int i => decide (lo ≤ i) && decide (i ≤ hi)
  | _ => false
def isTripleD (d : PyData) : Bool := isSeqD d && decide ((itemsD d).length = 3)
theorem isi_seq (d : PyData) : isiAny d ["list", "tuple"] = isSeqD d := by cases d <;> rfl
theorem DS.seqd {ρ : Rl} {H : Hp} {v : V} {d : PyData} (h : DS ρ H v d) (s : isSeqD d = true) : ∃ a xs, v = .ref a ∧ DSs ρ H xs (itemsD d) ∧ (∀ (K : Frag) (H' : Hp), ρ.r H H' → SqA K H' a xs) ∧ ((∀ (K : Frag) H', ρ.r H H' → SqL K H' a xs) ∨ ∀ (K : Frag) H', ρ.r H H' → SqT K H' a xs) := by
  cases d with
  | list ds => cases h with | lst n hs ha => exact ⟨_, _, rfl, ha, fun K H' e => .inl (.of (e.keep _ _ n hs)), .inl fun K H' e => .of (e.keep _ _ n hs)⟩
  | tuple ds => cases h with | tup hs ha => exact ⟨_, _, rfl, ha, fun K H' e => .inr (.inl (.inl (e.tup _ _ hs))), .inr fun K H' e => .inl (.inl (e.tup _ _ hs))⟩
  | none => cases s
  | bool b => cases s
  | int i => cases s
  | str x => cases s
  | dict k => cases s
theorem DS.inv_int {ρ : Rl} {H : Hp} {v : V} {d : PyData} (h : DS ρ H v d) (e : (isiB d "int" && !isiB d "bool") = true) : ∃ i, d = .int i ∧ v = .int i := by
  cases h with
  | int i => exact ⟨i, rfl, rfl⟩
  | non => exact absurd e (by show ¬ (false && !false) = true; decide)
  | bl b => exact absurd e (by show ¬ (true && !true) = true; decide)
  | str x => exact absurd e (by show ¬ (false && !false) = true; decide)
  | lst _ _ _ => exact absurd e (by show ¬ (false && !false) = true; decide)
  | tup _ _ => exact absurd e (by show ¬ (false && !false) = true; decide)
theorem DS.inv_str {ρ : Rl} {H : Hp} {v : V} {d : PyData} (h : DS ρ H v d) (e : isiB d "str" = true) : ∃ s, d = .str s ∧ v = .str s := by
  cases h with
  | str s => exact ⟨s, rfl, rfl⟩
  | non => exact absurd e (by show ¬ false = true; decide)
  | bl b => exact absurd e (by show ¬ false = true; decide)
  | int x => exact absurd e (by show ¬ false = true; decide)
  | lst _ _ _ => exact absurd e (by show ¬ false = true; decide)
  | tup _ _ => exact absurd e (by show ¬ false = true; decide)
/-! ### promises of a truth value about one datum -/
def spB1 (F : PyData → Bool) : Sp := fun vs H Q _ => ∃ v d, vs = [v] ∧ DS exR H v d ∧ sm d = true ∧ ∀ H', Ext H H' → Q (.bl (F d)) H'
theorem spB1_len {F : PyData → Bool} {vs : List V} {H : Hp} {Q : VK} {E : XK} (h : spB1 F vs H Q E) : vs.length = 1 := by
  obtain ⟨v, d, rfl, _⟩ := h
  rfl
section
variable {ρ : Rl} {K : Frag} {σ : L2.St} {H : Hp} {ta tb te : TE} {v : V} {d : PyData}
theorem useB1 {F : PyData → Bool} (hd : DS ρ H v d) (hs : sm d = true) : SpR ρ (spB1 F) [v] H (fun v' _ => v' = .bl (F d)) := fun H1 e1 Q q E => ⟨v, d, rfl, (e1.ds hd).ex, hs, fun H' e => q _ H' (Ext.r e) rfl⟩
theorem ev_B1 {F : PyData → Bool} {E : XK} (h : EvV ρ ta σ H v) (hd : DS ρ H v d) (hs : sm d = true) : EvV ρ (tCall (spB1 F) [] E (tCons ta tNil)) σ H (.bl (F d)) := ev_call (ea_cons h ea_nil) (useB1 hd hs)
theorem ev_isiLT (h : EvV ρ ta σ H v) (hd : DS ρ H v d) : EvV ρ (tCB (rIsiU K) (tCons ta (tCons (tTup (tCons (tC (.ty "list")) (tCons (tC (.ty "tuple")) tNil))) tNil))) σ H (.bl (isSeqD d)) := fun H1 e1 Q q =>
  h H1 e1 _ fun v' H2 e2 ev => by
    subst ev
    refine ⟨by show 2 ≤ sizeLine; decide, fun p hp => ?_⟩
    refine .inr ⟨_, p, ["list", "tuple"], d, rfl, upd_same, ((e1.trans (r_new2 e2 _ hp)).ds hd).dp _ _, rfl, ?_⟩
    rw [isi_seq]
    exact q _ _ (r_new2 e2 _ hp) rfl
/-- all([..]) of truth values that are known -/
theorem ev_all {n : Nat} {f : Nat → Bool} (h : Ev ρ te σ H (fun u H2 => ∃ p, u = .ref p ∧ ¬ ρ.S p ∧ H p = none ∧ H2 p = some (.lst ((List.range n).map fun i => V.bl (f i))))) : EvV ρ (tCB (rAll K) (tCons te tNil)) σ H (.bl ((List.range n).all f)) :=
  ev_cb (ea_one h) fun vs H1 e1 ⟨u, eu, p, ep, _, _, hp⟩ => by
    subst eu ep
    refine fun H2 e2 Q q => ⟨p, (List.range n).map f, rfl, ?_, ?_⟩
    · rw [List.map_map]
      exact .of (e2.keep _ _ (by assumption) hp)
    · have z : ((List.range n).map f).all id = (List.range n).all f := by rw [List.all_map]; rfl
      rw [z]
      exact q _ H2 .rfl rfl
end
theorem range_all {α : Type} (xs : List α) (f : α → Bool) (g : Nat → Bool) (h : ∀ (i : Nat) x, xs[i]? = some x → g i = f x) : (List.range xs.length).all g = xs.all f := by
  rw [Bool.eq_iff_iff, List.all_eq_true, List.all_eq_true]
  constructor
  · intro a x hx
    obtain ⟨i, hi, e⟩ := List.mem_iff_getElem.mp hx
    have e2 : xs[i]? = some x := by rw [List.getElem?_eq_getElem hi, e]
    rw [← h i x e2]
    exact a i (List.mem_range.mpr hi)
  · intro a i hi
    have hi' := List.mem_range.mp hi
    rw [h i xs[i] (List.getElem?_eq_getElem hi')]
    exact a _ (List.getElem_mem hi')
local macro_rules | `(tactic| walk_at "ev") => `(tactic| first
  | exact ev_var rfl
  | exact ev_c
  | assumption
  | (refine ev_add ?_ ?_ <;> walk_at "ev")
  | (refine ev_sub ?_ ?_ <;> walk_at "ev")
  | (refine ev_int ?_ <;> walk_at "ev"))
/-! ### the checks -/
def sp_is_sequence (K : Frag) : Sp := spB1 isSeqD
def sp_is_triple (K : Frag) : Sp := spB1 isTripleD
def sp_is_word (K : Frag) : Sp := spB1 isWordD
def sp__law_whole (K : Frag) : Sp := spB1 fun d => isiB d "int" && !isiB d "bool"
def sp_is_whole (K : Frag) : Sp := fun vs H Q _ => ∃ v lo hi d, vs = [v, .int lo, .int hi] ∧ DS exR H v d ∧ ∀ H', Ext H H' → Q (.bl (isWholeD lo hi d)) H'
theorem len_is_sequence {K : Frag} {vs : List V} {H : Hp} {Q : VK} {E : XK} (h : sp_is_sequence K vs H Q E) : vs.length = 1 := spB1_len h
theorem len_is_triple {K : Frag} {vs : List V} {H : Hp} {Q : VK} {E : XK} (h : sp_is_triple K vs H Q E) : vs.length = 1 := spB1_len h
theorem len_is_word {K : Frag} {vs : List V} {H : Hp} {Q : VK} {E : XK} (h : sp_is_word K vs H Q E) : vs.length = 1 := spB1_len h
theorem len__law_whole {K : Frag} {vs : List V} {H : Hp} {Q : VK} {E : XK} (h : sp__law_whole K vs H Q E) : vs.length = 1 := spB1_len h
theorem len_is_whole {K : Frag} {vs : List V} {H : Hp} {Q : VK} {E : XK} (h : sp_is_whole K vs H Q E) : vs.length = 3 := by
  obtain ⟨v, lo, hi, d, rfl, _⟩ := h
  rfl
def t_is_whole (K : Frag) : TS := (tRet (tAndV (tCB (rIsiU K) (tCons (tVar 0) (tCons (tC (.ty "int")) tNil))) (tAndV (tNotV (tCB (rIsiU K) (tCons (tVar 0) (tCons (tC (.ty "bool")) tNil)))) (tChain (rCmp K gLe) (rCmp K gLe) (tVar 1) (tVar 0) (tVar 2)))))
def t_is_sequence (K : Frag) : TS := (tRet (tCB (rIsiU K) (tCons (tVar 0) (tCons (tTup (tCons (tC (.ty "list")) (tCons (tC (.ty "tuple")) tNil))) tNil))))
def t_is_triple (K : Frag) : TS := (tRet (tAndV (tCall (sp_is_sequence K) [] E0 (tCons (tVar 0) tNil)) (tOp (rEqU K) (tCB (rLenU K) (tCons (tVar 0) tNil)) (tC (.int 3)))))
def t_is_word (K : Frag) : TS := (tRet (tAndV (tCB (rIsiU K) (tCons (tVar 0) (tCons (tC (.ty "str")) tNil))) (tCB (rAll K) (tCons (tLc (iSeq K (tVar 0)) (gName 1) tYes (tOp (rInU K) (tVar 1) (tC (.str "abcdef"))) [1]) tNil))))
def t__law_whole (K : Frag) : TS := (tRet (tAndV (tCB (rIsiU K) (tCons (tVar 0) (tCons (tC (.ty "int")) tNil))) (tNotV (tCB (rIsiU K) (tCons (tVar 0) (tCons (tC (.ty "bool")) tNil))))))
theorem pure_is_sequence {K : Frag} (vs : List V) (H : Hp) (Q : VK) (E : XK) (h : sp_is_sequence K vs H Q E) : t_is_sequence K { nx := fun _ H' => Q .non H', rt := Q } (start ["value"] vs) H := by
  obtain ⟨v, d, rfl, hd, hs, k⟩ := h
  exact s_retV (ρ := exR) (ev_isiLT (ev_var rfl) hd) fun H1 e => k H1 e.ext
theorem pure__law_whole {K : Frag} (vs : List V) (H : Hp) (Q : VK) (E : XK) (h : sp__law_whole K vs H Q E) : t__law_whole K { nx := fun _ H' => Q .non H', rt := Q } (start ["value"] vs) H := by
  obtain ⟨v, d, rfl, hd, hs, k⟩ := h
  exact s_retV (ρ := exR) (ev_andV (ev_isi (ev_var rfl) hd rfl) fun _ => ev_notV (ev_isi (ev_var rfl) hd rfl)) fun H1 e => k H1 e.ext
theorem pure_is_whole {K : Frag} (vs : List V) (H : Hp) (Q : VK) (E : XK) (h : sp_is_whole K vs H Q E) : t_is_whole K { nx := fun _ H' => Q .non H', rt := Q } (start ["value", "low", "high"] vs) H := by
  obtain ⟨v, lo, hi, d, rfl, hd, k⟩ := h
  cases hi2 : (isiB d "int" && !isiB d "bool") with
  | true =>
    obtain ⟨i, rfl, rfl⟩ := hd.inv_int hi2
    exact s_retV (ρ := exR) ((ev_andV (ev_isi (ev_var rfl) hd rfl) fun _ => ev_andV (ev_notV (ev_isi (ev_var rfl) hd rfl)) fun _ => ev_chainLe (ev_var rfl) (ev_var rfl) (ev_var rfl)).val rfl) fun H1 e => k H1 e.ext
  | false =>
    have e0 : isWholeD lo hi d = false := by
      cases d with
      | int i => exact absurd hi2 (by show ¬ (true && !false) = false; decide)
      | _ => rfl
    refine s_retV (ρ := exR) ((ev_andV (b := (!isiB d "bool") && false) (ev_isi (ev_var rfl) hd rfl) fun h1 => ev_andV (ev_notV (ev_isi (ev_var rfl) hd rfl)) fun h2 => ?_).val (x := .bl (isWholeD lo hi d)) ?_) fun H1 e => k H1 e.ext
    · rw [h1, h2] at hi2
      cases hi2
    · rw [e0, Bool.and_false, Bool.and_false]
theorem pure_is_triple {K : Frag} (vs : List V) (H : Hp) (Q : VK) (E : XK) (h : sp_is_triple K vs H Q E) : t_is_triple K { nx := fun _ H' => Q .non H', rt := Q } (start ["value"] vs) H := by
  obtain ⟨v, d, rfl, hd, hs, k⟩ := h
  refine s_retV (ρ := exR) ((ev_andV (b := decide ((itemsD d).length = 3)) (ev_B1 (F := isSeqD) (ev_var rfl) hd hs) fun hq => ?_).val rfl) fun H1 e => k H1 e.ext
  obtain ⟨a, xs, rfl, ha, hsq, _⟩ := hd.seqd hq
  refine (ev_eqI (ev_len (ev_var rfl) (hsq K)) ev_c).val ?_
  rw [ha.length]
  exact congrArg V.bl (by
    by_cases z : (itemsD d).length = 3
    · rw [decide_eq_true z, decide_eq_true (by omega)]
    · rw [decide_eq_false z, decide_eq_false (by omega)])
theorem pure_is_word {K : Frag} (vs : List V) (H : Hp) (Q : VK) (E : XK) (h : sp_is_word K vs H Q E) : t_is_word K { nx := fun _ H' => Q .non H', rt := Q } (start ["value", "letter"] vs) H := by
  obtain ⟨v, d, rfl, hd, hs, k⟩ := h
  cases hi2 : isiB d "str" with
  | true =>
    obtain ⟨s, rfl, rfl⟩ := hd.inv_str hi2
    have hl := sm_str hs
    have hz : s.cps.size = s.length := rfl
    refine s_retV (ρ := exR) ((ev_andV (ev_isi (ev_var rfl) hd rfl) fun _ => ev_all (n := s.cps.size) (f := fun i => decide ((s.cps[i]?).getD 0 ∈ letters)) (ev_lcV own_ex (by omega) (ei_str (ev_var rfl)) (fun x => rfl) (fun i H2 x H3 y => y.1) ?_)).val (x := .bl (isWordD (.str s))) ?_) fun H1 e => k H1 e.ext
    · rintro i x H2 H3 hi r ⟨e3, c, hc, rfl⟩
      refine (ev_inS (ev_var rfl) ev_c).val ?_
      rw [hc]
      rfl
    · rw [hi2, Bool.true_and]
      refine congrArg V.bl ?_
      have hsz : s.cps.size = s.cps.toList.length := by simp
      show (List.range s.cps.size).all _ = s.cps.toList.all _
      rw [hsz]
      refine range_all _ _ _ fun i x hx => ?_
      have : s.cps[i]? = some x := by rw [← hx]; simp
      rw [this]
      rfl
  | false =>
    have e0 : isWordD d = false := by
      cases d with
      | str i => exact absurd hi2 (by show ¬ true = false; decide)
      | _ => rfl
    refine s_retV (ρ := exR) ((ev_andV (b := false) (ev_isi (ev_var rfl) hd rfl) fun h1 => ?_).val (x := .bl (isWordD d)) ?_) fun H1 e => k H1 e.ext
    · rw [hi2] at h1
      cases h1
    · rw [e0, Bool.and_false]
/-! ### rising rows -/
/-- neighbours that can be compared -/
def okRow (ds : List PyData) : Prop := ∀ d ∈ ds, ∀ e ∈ ds, PySem.W.alike d e = true ∧ d ≠ .none ∧ d.depth ≤ 64
def risingD : List PyData → Bool
  | d :: e :: r => PySem.W.dataLt d e && risingD (e :: r)
  | _ => true
def sp_is_rising (K : Frag) : Sp := fun vs H Q _ => ∃ v d, vs = [v] ∧ DS exR H v d ∧ isSeqD d = true ∧ (itemsD d).length ≤ 1000 ∧ okRow (itemsD d) ∧ ∀ H', Ext H H' → Q (.bl (risingD (itemsD d))) H'
theorem len_is_rising {K : Frag} {vs : List V} {H : Hp} {Q : VK} {E : XK} (h : sp_is_rising K vs H Q E) : vs.length = 1 := by
  obtain ⟨v, d, rfl, _⟩ := h
  rfl
theorem rising_range : ∀ (ds : List PyData) (g : Nat → Bool), (∀ i d e, ds[i]? = some d → ds[i + 1]? = some e → g i = PySem.W.dataLt d e) → (List.range (ds.length - 1)).all g = risingD ds
  | [], g, _ => rfl
  | [d], g, _ => rfl
  | d :: e :: r, g, h => by
    have ih := rising_range (e :: r) (fun i => g (i + 1)) fun i x y a b => h (i + 1) x y (by simpa using a) (by simpa using b)
    have e1 : (d :: e :: r).length - 1 = ((e :: r).length - 1) + 1 := by simp
    rw [e1, List.range_succ_eq_map, List.all_cons, List.all_map]
    show (g 0 && (List.range ((e :: r).length - 1)).all fun i => g (i + 1)) = (PySem.W.dataLt d e && risingD (e :: r))
    rw [ih, h 0 d e rfl rfl]
def t_is_rising (K : Frag) : TS := (tRet (tCB (rAll K) (tCons (tLc (iRng1 (tCons (tOp rSubI (tCB (rLenU K) (tCons (tVar 0) tNil)) (tC (.int 1))) tNil)) (gName 1) tYes (tOp (rCmp K gLt) (tIxU K (tVar 0) (tVar 1)) (tIxU K (tVar 0) (tOp (rAddU K) (tVar 1) (tC (.int 1))))) [1]) tNil)))
theorem pure_is_rising {K : Frag} (vs : List V) (H : Hp) (Q : VK) (E : XK) (h : sp_is_rising K vs H Q E) : t_is_rising K { nx := fun _ H' => Q .non H', rt := Q } (start ["rows", "at"] vs) H := by
  obtain ⟨v, d, rfl, hd, hq, hl, ok, k⟩ := h
  obtain ⟨a, xs, rfl, ha, hsq, _⟩ := hd.seqd hq
  have hlen := ha.length
  have hn : ((xs.length : Int) - 1).toNat = xs.length - 1 := by omega
  refine s_retV (ρ := exR) ((ev_all (n := ((xs.length : Int) - 1).toNat) (f := fun i => match (itemsD d)[i]?, (itemsD d)[i + 1]? with | some x, some y => PySem.W.dataLt x y | _, _ => true)
    (ev_lcV own_ex (by omega) (ei_rng (ea_cons (ev_sub (ev_len (ev_var rfl) (hsq K)) ev_c) ea_nil) (by omega) (by omega)) (fun x => rfl) (fun i H2 x H3 y => y.1) ?_)).val (x := .bl (risingD (itemsD d))) ?_) fun H1 e => k H1 e.ext
  · rintro i x H2 H3 hi r ⟨e3, rfl⟩
    have h1 : i + 1 < xs.length := by omega
    have g1 : xs[i]? = some xs[i] := List.getElem?_eq_getElem (by omega)
    have g2 : xs[i + 1]? = some xs[i + 1] := List.getElem?_eq_getElem h1
    obtain ⟨d1, e1, q1⟩ := ha.get g1
    obtain ⟨d2, e2, q2⟩ := ha.get g2
    obtain ⟨o1, o2, o3⟩ := ok d1 (List.mem_of_getElem? e1) d2 (List.mem_of_getElem? e2)
    refine (ev_cmp (d := d1) (e := d2) (ev_ix (n := i) (ev_var rfl) (ev_var rfl) (fun H4 r4 => hsq K H4 (r.trans r4)) rfl g1) (ev_ix (n := i + 1) (ev_var rfl) (ev_add (ev_var rfl) ev_c) (fun H4 r4 => hsq K H4 (r.trans r4)) (by omega) g2) (r.ds q1) (r.ds q2) o1 o2 o3).val ?_
    show V.bl (PySem.W.dataLt d1 d2) = V.bl (match (itemsD d)[i]?, (itemsD d)[i + 1]? with | some x, some y => PySem.W.dataLt x y | _, _ => true)
    rw [e1, e2]
  · refine congrArg V.bl ?_
    rw [hn, hlen]
    refine rising_range _ _ fun i x y e1 e2 => ?_
    show (match (itemsD d)[i]?, (itemsD d)[i + 1]? with | some x, some y => PySem.W.dataLt x y | _, _ => true) = _
    rw [e1, e2]
/-! ### strings of letters -/
def isStrD (most : Int) : PyData → Bool
  | .str s => decide ((s.length : Int) ≤ most) && s.cps.toList.all fun c => decide (c ∈ letters)
  | _ => false
def sp__law_is_string (K : Frag) : Sp := fun vs H Q _ => ∃ v most d, vs = [v, .int most] ∧ DS exR H v d ∧ sm d = true ∧ ∀ H', Ext H H' → Q (.bl (isStrD most d)) H'
theorem len__law_is_string {K : Frag} {vs : List V} {H : Hp} {Q : VK} {E : XK} (h : sp__law_is_string K vs H Q E) : vs.length = 2 := by
  obtain ⟨v, lo, d, rfl, _⟩ := h
  rfl
section
variable {ρ : Rl} {K : Frag} {σ : L2.St} {H : Hp} {ta tb te : TE} {v : V} {d : PyData}
theorem ev_is_string {E : XK} {m : Int} (h : EvV ρ ta σ H v) (h2 : EvV ρ tb σ H (.int m)) (hd : DS ρ H v d) (hs : sm d = true) : EvV ρ (tCall (sp__law_is_string K) [] E (tCons ta (tCons tb tNil))) σ H (.bl (isStrD m d)) :=
  ev_call (ea_cons h (ea_cons h2 ea_nil)) fun H1 e1 Q q E => ⟨v, m, d, rfl, (e1.ds hd).ex, hs, fun H' e => q _ H' (Ext.r e) rfl⟩
theorem ev_is_whole {tc : TE} {E : XK} {lo hi : Int} (h : EvV ρ ta σ H v) (h2 : EvV ρ tb σ H (.int lo)) (h3 : EvV ρ tc σ H (.int hi)) (hd : DS ρ H v d) : EvV ρ (tCall (sp_is_whole K) [] E (tCons ta (tCons tb (tCons tc tNil)))) σ H (.bl (isWholeD lo hi d)) :=
  ev_call (ea_cons h (ea_cons h2 (ea_cons h3 ea_nil))) fun H1 e1 Q q E => ⟨v, lo, hi, d, rfl, (e1.ds hd).ex, fun H' e => q _ H' (Ext.r e) rfl⟩
/-- len of a new list -/
theorem ev_lenN {n : Int} {R : V → Hp → Prop} (h : Ev ρ te σ H R) (hs : ∀ v H1, ρ.r H H1 → R v H1 → ∃ p xs, v = .ref p ∧ ¬ ρ.S p ∧ H1 p = some (.lst xs) ∧ (xs.length : Int) = n) : EvV ρ (tCB (rLenU K) (tCons te tNil)) σ H (.int n) :=
  ev_cb (ea_one h) fun vs H1 e1 ⟨u, eu, ru⟩ => by
    obtain ⟨p, xs, rfl, nS, hp, hl⟩ := hs u H1 e1 ru
    subst eu
    exact fun H2 e2 Q q => .inl ⟨_, xs.length, rfl, .inl ⟨xs, .of (e2.keep _ _ nS hp), rfl⟩, q _ H2 .rfl (by rw [hl])⟩
end
theorem filter_len_zero {n : Nat} {f : Nat → Bool} : decide ((((List.range n).filter f).length : Int) = 0) = (List.range n).all fun i => !f i := by
  rw [Bool.eq_iff_iff, decide_eq_true_iff, List.all_eq_true]
  constructor
  · intro h i hi
    have h0 : ((List.range n).filter f) = [] := List.eq_nil_of_length_eq_zero (by omega)
    have := List.filter_eq_nil_iff.mp h0 i hi
    simpa using this
  · intro h
    have h0 : ((List.range n).filter f) = [] := List.filter_eq_nil_iff.mpr fun i hi => by simpa using h i hi
    rw [h0]
    rfl
def t__law_is_string (K : Frag) : TS := (tSeq (tIfS (tOr (tNot (tB (tCB (rIsiU K) (tCons (tVar 0) (tCons (tC (.ty "str")) tNil))))) (tTest (tOp (rCmp K gGt) (tCB (rLenU K) (tCons (tVar 0) tNil)) (tVar 1)))) (tRet (tC (.bl false))) tNext) (tRet (tOp (rEqU K) (tCB (rLenU K) (tCons (tLc (iSeq K (tVar 0)) (gName 2) (tTest (tOp (rNotInU K) (tVar 2) (tC (.str "abcdef")))) (tVar 2) [2]) tNil)) (tC (.int 0)))))
theorem pure__law_is_string {K : Frag} (vs : List V) (H : Hp) (Q : VK) (E : XK) (h : sp__law_is_string K vs H Q E) : t__law_is_string K { nx := fun _ H' => Q .non H', rt := Q } (start ["value", "most", "one"] vs) H := by
  obtain ⟨v, m, d, rfl, hd, hs, k⟩ := h
  cases hi2 : isiB d "str" with
  | true =>
    obtain ⟨s, rfl, rfl⟩ := hd.inv_str hi2
    have hl := sm_str hs
    have hz : s.cps.size = s.length := rfl
    refine q_when (ρ := exR) (et_or (et_not (et_B (ev_isi (ev_var rfl) hd rfl))) fun _ => et_test (ev_gt (ev_lenS (ev_var rfl) (by omega)) (ev_var rfl))) (fun hb H1 e => s_retV (ρ := exR) ev_c fun H2 e2 => ?_) (fun hb H1 e => ?_)
    · have hm : ¬ (s.length : Int) ≤ m := by
        rw [hi2] at hb
        have : decide (m < (s.length : Int)) = true := by simpa using hb
        have := of_decide_eq_true this
        omega
      have e0 : isStrD m (.str s) = false := by
        show (decide ((s.length : Int) ≤ m) && _) = false
        rw [decide_eq_false hm, Bool.false_and]
      have := k H2 (e.trans e2).ext
      rw [e0] at this
      exact this
    · have hm : (s.length : Int) ≤ m := by
        rw [hi2] at hb
        have : decide (m < (s.length : Int)) = false := by simpa using hb
        have := of_decide_eq_false this
        omega
      refine s_retV (ρ := exR) ((ev_eqI (ev_lenN (n := (((List.range s.cps.size).filter fun i => !decide ((s.cps[i]?).getD 0 ∈ letters)).length : Int))
        (ev_lc (R := fun _ i x _ => True) (C := fun i b => b = !decide ((s.cps[i]?).getD 0 ∈ letters)) own_ex (by omega) (ei_str (ev_var rfl)) (fun _ _ _ _ _ _ h => h) (fun _ _ _ _ h => h) ?_) ?_) ev_c).val (x := .bl (isStrD m (.str s))) ?_) fun H2 e2 => k H2 (e.trans e2).ext
      · rintro D H2 r hD i x H3 H4 hi r2 oD ⟨e3, c, hc, rfl⟩ cont hcont
        subst e3
        refine hcont _ _ rfl .rfl fun H5 r5 Q' q' => ?_
        refine et_test (ρ := exR) (H := H5) (ev_notInS (ev_var rfl) ev_c) H5 .rfl _ fun H6 r6 => q' _ H6 r6 ?_ fun _ => ?_
        · show _ = !decide ((s.cps[i]?).getD 0 ∈ letters)
          rw [hc]
          rfl
        · exact (ev_var (v := .str ⟨#[c]⟩) rfl).imp fun _ _ _ _ => trivial
      · rintro v H2 r ⟨p, xs, f, e1, nS, hp, hx, hC, hit⟩
        refine ⟨p, xs, e1, nS, hx, ?_⟩
        rw [hit.1, kept_congr hC]
        rfl
      · refine congrArg V.bl ?_
        rw [filter_len_zero]
        show _ = (decide ((s.length : Int) ≤ m) && s.cps.toList.all fun c => decide (c ∈ letters))
        rw [decide_eq_true hm, Bool.true_and]
        have hsz : s.cps.size = s.cps.toList.length := by simp
        rw [hsz]
        refine range_all _ _ _ fun i x hx => ?_
        have : s.cps[i]? = some x := by rw [← hx]; simp
        rw [this, Bool.not_not]
        rfl
  | false =>
    have e0 : isStrD m d = false := by
      cases d with
      | str i => exact absurd hi2 (by show ¬ true = false; decide)
      | _ => rfl
    rw [e0] at k
    refine q_when (ρ := exR) (et_or (b := false) (et_not (et_B (ev_isi (ev_var rfl) hd rfl))) fun h1 => ?_) (fun hb H1 e => s_retV (ρ := exR) ev_c fun H2 e2 => k H2 (e.trans e2).ext) (fun hb H1 e => ?_)
    · rw [hi2] at h1
      cases h1
    · rw [hi2] at hb
      cases hb
end Slip
/-! faults and tables -/
namespace Slip
open PySem PySem.Spec PyProof.Rows L2
def Le (ρ ρ' : Rl) : Prop := ∀ a, ρ.S a → ρ'.S a
theorem Le.rfl {ρ : Rl} : Le ρ ρ := fun _ h => h
theorem Le.and {ρ : Rl} {D : Addr} : Le ρ (ρ.and D) := fun _ h => .inl h
theorem Le.ds {ρ ρ' : Rl} (l : Le ρ ρ') {H H' : Hp} (e : ρ.r H H') {v : V} {d : PyData} (h : DS ρ' H v d) : DS ρ' H' v d := h.move (fun a _ n q => ⟨n, e.keep a _ (fun z => n (l a z)) q⟩) e.tup
theorem Le.dss {ρ ρ' : Rl} (l : Le ρ ρ') {H H' : Hp} (e : ρ.r H H') {v : List V} {d : List PyData} (h : DSs ρ' H v d) : DSs ρ' H' v d := h.move (fun a _ n q => ⟨n, e.keep a _ (fun z => n (l a z)) q⟩) e.tup
section
variable {ρ ρ' : Rl} {K : Frag} {σ : L2.St} {H : Hp} {ta tb tc te : TE} {x y z v : V} {d e f : PyData} {a : Addr}
/-- a, b, c = a sequence of three -/
theorem g_seq3 {i j l : Nat} {Q : L2.St → Hp → Prop} (hs : SqA K H a [x, y, z]) (q : Q (((σ.set i (some x)).set j (some y)).set l (some z)) H) : gSeq K 3 (gCons (gName i) (gCons (gName j) (gCons (gName l) gNil))) (.ref a) σ H Q := by
  rcases hs with h | h
  · exact .inr ⟨a, _, rfl, h, rfl, x, _, rfl, y, _, rfl, z, _, rfl, rfl, q⟩
  · exact .inl ⟨a, _, rfl, h, rfl, x, _, rfl, y, _, rfl, z, _, rfl, rfl, q⟩
/-- (a, b) of data -/
theorem ev_pairD (l : Le ρ ρ') (h1 : EvV ρ ta σ H x) (h2 : EvV ρ tb σ H y) (hx : DS ρ' H x d) (hy : DS ρ' H y e) : Ev ρ (tTup (tCons ta (tCons tb tNil))) σ H (fun v H' => DS ρ' H' v (.tuple [d, e])) :=
  (ev_tup (ea_cons h1 (ea_cons h2 ea_nil)) fun vs H1 _ e => by rw [e]; show 2 ≤ 100000; decide).imp fun v H2 r ⟨p, vs, H1, ev, evs, hp, r1, eH⟩ => by
    subst ev evs
    exact .tup (by rw [eH]; exact upd_same) (.cons (l.ds r hx) (.cons (l.ds r hy) .nil))
theorem ev_tripleD (l : Le ρ ρ') (h1 : EvV ρ ta σ H x) (h2 : EvV ρ tb σ H y) (h3 : EvV ρ tc σ H z) (hx : DS ρ' H x d) (hy : DS ρ' H y e) (hz : DS ρ' H z f) : Ev ρ (tTup (tCons ta (tCons tb (tCons tc tNil)))) σ H (fun v H' => DS ρ' H' v (.tuple [d, e, f])) :=
  (ev_tup (ea_cons h1 (ea_cons h2 (ea_cons h3 ea_nil))) fun vs H1 _ e => by rw [e]; show 3 ≤ 100000; decide).imp fun v H2 r ⟨p, vs, H1, ev, evs, hp, r1, eH⟩ => by
    subst ev evs
    exact .tup (by rw [eH]; exact upd_same) (.cons (l.ds r hx) (.cons (l.ds r hy) (.cons (l.ds r hz) .nil)))
theorem ev_rising {E : XK} {ds : List PyData} (h : Ev ρ te σ H (fun u H2 => ∃ p xs, u = .ref p ∧ ¬ ρ.S p ∧ H p = none ∧ H2 p = some (.lst xs) ∧ DSs ρ H2 xs ds)) (hl : ds.length ≤ 1000) (ok : okRow ds) : EvV ρ (tCall (sp_is_rising K) [] E (tCons te tNil)) σ H (.bl (risingD ds)) :=
  ev_callR (ea_one h) fun vs H1 e1 ⟨u, eu, p, xs, ep, nS, _, hp, hx⟩ => by
    subst eu ep
    refine fun H2 e2 Q q E => ⟨_, .list ds, rfl, ?_, rfl, hl, ok, fun H' e => q _ H' (Ext.r e) rfl⟩
    exact .lst (fun z => z) (e2.keep _ _ nS hp) ((e2.dss hx).move (fun a _ n q => ⟨fun z => z, q⟩) fun _ _ q => q)
end
theorem three {α : Type} {l : List α} (h : l.length = 3) : ∃ a b c, l = [a, b, c] := by
  match l, h with
  | [a, b, c], _ => exact ⟨a, b, c, rfl⟩
theorem DqAll.three {A : Addr → Prop} {H : Hp} {xs : List V} {m w c : PyData} (h : DqAll A H xs [m, w, c]) : ∃ x y z, xs = [x, y, z] ∧ Dq A H x m ∧ Dq A H y w ∧ Dq A H z c := by
  cases h with | cons h1 h => cases h with | cons h2 h => cases h with | cons h3 h => cases h with | nil => exact ⟨_, _, _, rfl, h1, h2, h3⟩
theorem DqAll.two {A : Addr → Prop} {H : Hp} {xs : List V} {m w : PyData} (h : DqAll A H xs [m, w]) : ∃ x y, xs = [x, y] ∧ Dq A H x m ∧ Dq A H y w := by
  cases h with | cons h1 h => cases h with | cons h2 h => cases h with | nil => exact ⟨_, _, rfl, h1, h2⟩
theorem notb {b : Bool} (h : (!b) = true) : b = false := by
  cases b
  · rfl
  · cases h
theorem notb' {b : Bool} (h : (!b) = false) : b = true := by
  cases b
  · cases h
  · rfl
def isPieceD : PyData → Bool
  | .str s => isWordD (.str s) && decide ((s.length : Int) ≤ 2)
  | _ => false
def isFaultD (d : PyData) : Bool := isTripleD d && match itemsD d with
  | [m, w, c] => isPieceD m && isPieceD w && !(PyData.eqv m w) && isWholeD 1 9 c
  | _ => false
def pairOf (d : PyData) : PyData := match itemsD d with
  | m :: w :: _ => .tuple [m, w]
  | _ => .none
def isTableD (d : PyData) : Bool := isSeqD d && decide ((itemsD d).length ≤ 8) && (itemsD d).all isFaultD && risingD ((itemsD d).map pairOf)
/-- a string of at most so many letters -/
def isShortD (n : Int) : PyData → Bool
  | .str s => isWordD (.str s) && decide ((s.length : Int) ≤ n)
  | _ => false
def sp_is_short (K : Frag) : Sp := fun vs H Q _ => ∃ v n d, vs = [v, .int n] ∧ DS exR H v d ∧ sm d = true ∧ ∀ H', Ext H H' → Q (.bl (isShortD n d)) H'
theorem len_is_short {K : Frag} {vs : List V} {H : Hp} {Q : VK} {E : XK} (h : sp_is_short K vs H Q E) : vs.length = 2 := by
  obtain ⟨v, n, d, rfl, _⟩ := h
  rfl
theorem ev_is_short {ρ : Rl} {K : Frag} {σ : L2.St} {H : Hp} {ta tb : TE} {E : XK} {v : V} {d : PyData} {n : Int} (h : EvV ρ ta σ H v) (h2 : EvV ρ tb σ H (.int n)) (hd : DS ρ H v d) (hs : sm d = true) : EvV ρ (tCall (sp_is_short K) [] E (tCons ta (tCons tb tNil))) σ H (.bl (isShortD n d)) :=
  ev_call (ea_cons h (ea_cons h2 ea_nil)) fun H1 e1 Q q E => ⟨v, n, d, rfl, (e1.ds hd).ex, hs, fun H' e => q _ H' (Ext.r e) rfl⟩
def sp_is_piece (K : Frag) : Sp := spB1 isPieceD
def sp_is_fault (K : Frag) : Sp := spB1 isFaultD
def sp_is_table (K : Frag) : Sp := spB1 isTableD
theorem len_is_piece {K : Frag} {vs : List V} {H : Hp} {Q : VK} {E : XK} (h : sp_is_piece K vs H Q E) : vs.length = 1 := spB1_len h
theorem len_is_fault {K : Frag} {vs : List V} {H : Hp} {Q : VK} {E : XK} (h : sp_is_fault K vs H Q E) : vs.length = 1 := spB1_len h
theorem len_is_table {K : Frag} {vs : List V} {H : Hp} {Q : VK} {E : XK} (h : sp_is_table K vs H Q E) : vs.length = 1 := spB1_len h
def t_is_short (K : Frag) : TS := (tRet (tAndV (tCall (sp_is_word K) [] E0 (tCons (tVar 0) tNil)) (tOp (rCmp K gLe) (tCB (rLenU K) (tCons (tVar 0) tNil)) (tVar 1))))
def t_is_piece (K : Frag) : TS := (tRet (tCall (sp_is_short K) [] E0 (tCons (tVar 0) (tCons (tC (.int 2)) tNil))))
def t_is_fault (K : Frag) : TS := (tSeq (tIfS (tNot (tB (tCall (sp_is_triple K) [] E0 (tCons (tVar 0) tNil)))) (tRet (tC (.bl false))) tNext) (tSeq (tAsg (tVar 0) (gSeq K 3 (gCons (gName 1) (gCons (gName 2) (gCons (gName 3) gNil))))) (tSeq (tIfS (tOr (tNot (tB (tCall (sp_is_piece K) [] E0 (tCons (tVar 1) tNil)))) (tOr (tNot (tB (tCall (sp_is_piece K) [] E0 (tCons (tVar 2) tNil)))) (tTest (tOp (rEqU K) (tVar 1) (tVar 2))))) (tRet (tC (.bl false))) tNext) (tRet (tCall (sp_is_whole K) [] E0 (tCons (tVar 3) (tCons (tC (.int 1)) (tCons (tC (.int 9)) tNil))))))))
def t_is_table (K : Frag) : TS := (tSeq (tIfS (tOr (tNot (tB (tCall (sp_is_sequence K) [] E0 (tCons (tVar 0) tNil)))) (tTest (tOp (rCmp K gGt) (tCB (rLenU K) (tCons (tVar 0) tNil)) (tC (.int 8))))) (tRet (tC (.bl false))) tNext) (tSeq (tIfS (tNot (tB (tCB (rAll K) (tCons (tLc (iSeq K (tVar 0)) (gName 1) tYes (tCall (sp_is_fault K) [] E0 (tCons (tVar 1) tNil)) [1]) tNil)))) (tRet (tC (.bl false))) tNext) (tRet (tCall (sp_is_rising K) [] E0 (tCons (tLc (iSeq K (tVar 0)) (gName 1) tYes (tTup (tCons (tIxU K (tVar 1) (tC (.int 0))) (tCons (tIxU K (tVar 1) (tC (.int 1))) tNil))) [1]) tNil)))))
theorem pure_is_short {K : Frag} (vs : List V) (H : Hp) (Q : VK) (E : XK) (h : sp_is_short K vs H Q E) : t_is_short K { nx := fun _ H' => Q .non H', rt := Q } (start ["value", "most"] vs) H := by
  obtain ⟨v, n, d, rfl, hd, hs, k⟩ := h
  cases hi2 : isWordD d with
  | true =>
    cases d with
    | str s =>
      have hl := sm_str hs
      cases hd
      refine s_retV (ρ := exR) ((ev_andV (ev_B1 (F := isWordD) (ev_var rfl) (.str s) hs) fun _ => ev_le (ev_lenS (ev_var rfl) (by omega)) (ev_var rfl)).val rfl) fun H1 e => k H1 e.ext
    | _ => cases hi2
  | false =>
    have e0 : isShortD n d = false := by
      cases d with
      | str s => show (isWordD (.str s) && _) = false; rw [hi2, Bool.false_and]
      | _ => rfl
    rw [e0] at k
    refine s_retV (ρ := exR) ((ev_andV (b := false) (ev_B1 (F := isWordD) (ev_var rfl) hd hs) fun h1 => ?_).val (x := .bl false) (by rw [Bool.and_false])) fun H1 e => k H1 e.ext
    rw [hi2] at h1
    cases h1
theorem pure_is_piece {K : Frag} (vs : List V) (H : Hp) (Q : VK) (E : XK) (h : sp_is_piece K vs H Q E) : t_is_piece K { nx := fun _ H' => Q .non H', rt := Q } (start ["value"] vs) H := by
  obtain ⟨v, d, rfl, hd, hs, k⟩ := h
  have e0 : isPieceD d = isShortD 2 d := by cases d <;> rfl
  rw [e0] at k
  exact s_retV (ρ := exR) (ev_is_short (ev_var rfl) ev_c hd hs) fun H1 e => k H1 e.ext
theorem piece_str {d : PyData} (h : isPieceD d = true) : ∃ s, d = .str s ∧ s.length ≤ 2 ∧ isWordD (.str s) = true := by
  cases d with
  | str s =>
    have h' : isWordD (.str s) = true ∧ (s.length : Int) ≤ 2 := by simpa [isPieceD] using h
    exact ⟨s, rfl, by omega, h'.1⟩
  | _ => cases h
theorem eqv_str (s t : Str) : PyData.eqv (.str s) (.str t) = decide (s = t) := by
  show (s == t) = decide (s = t)
  rw [Bool.eq_iff_iff]
  simp
theorem pure_is_fault {K : Frag} (vs : List V) (H : Hp) (Q : VK) (E : XK) (h : sp_is_fault K vs H Q E) : t_is_fault K { nx := fun _ H' => Q .non H', rt := Q } (start ["value", "meant", "written", "cost"] vs) H := by
  obtain ⟨v, d, rfl, hd, hs, k⟩ := h
  refine q_when (ρ := exR) (et_not (et_B (ev_B1 (F := isTripleD) (ev_var rfl) hd hs))) (fun hb H1 e => s_retV (ρ := exR) ev_c fun H2 e2 => ?_) (fun hb H1 e => ?_)
  · have e0 : isFaultD d = false := by
      unfold isFaultD
      rw [show isTripleD d = false by simpa using hb, Bool.false_and]
    rw [e0] at k
    exact k H2 (e.trans e2).ext
  have ht : isTripleD d = true := by simpa using hb
  have ht2 : isSeqD d = true ∧ (itemsD d).length = 3 := by simpa [isTripleD] using ht
  obtain ⟨a, xs, rfl, ha, hsq, _⟩ := hd.seqd ht2.1
  have hsm : smAll (itemsD d) = true := by
    cases d with
    | list ds => exact (sm_seq (.inl hs)).2
    | tuple ds => exact (sm_seq (.inr hs)).2
    | _ => rfl
  obtain ⟨m, w, c, hds⟩ := three ht2.2
  rw [hds] at ha hsm
  obtain ⟨x, y, z, rfl, hm, hw, hc⟩ := ha.three
  · have sm3 : sm m = true ∧ sm w = true ∧ sm c = true := by simpa [smAll] using hsm
    have ef : isFaultD d = (isPieceD m && isPieceD w && !(PyData.eqv m w) && isWholeD 1 9 c) := by
      unfold isFaultD
      rw [ht, hds, Bool.true_and]
    rw [ef] at k
    refine ⟨_, rfl, g_seq3 (hsq K H1 e) ?_⟩
    have gm : DS exR H1 x m := e.ds hm
    have gw : DS exR H1 y w := e.ds hw
    have gc : DS exR H1 z c := e.ds hc
    refine q_when (ρ := exR) (H := H1) (b := !(isPieceD m && isPieceD w && !(PyData.eqv m w))) ((et_or (b := !isPieceD w || PyData.eqv m w) (et_not (et_B (ev_B1 (F := isPieceD) (ev_var rfl) gm sm3.1))) fun h1 => et_or (b := PyData.eqv m w) (et_not (et_B (ev_B1 (F := isPieceD) (ev_var rfl) gw sm3.2.1))) fun h2 => et_test ?_).to ?_) (fun hb H2 e2 => s_retV (ρ := exR) ev_c fun H3 e3 => ?_) (fun hb H2 e2 => ?_)
    · obtain ⟨s, rfl, _⟩ := piece_str (d := m) (by simpa using h1)
      obtain ⟨t, rfl, _⟩ := piece_str (d := w) (by simpa using h2)
      cases gm
      cases gw
      exact (ev_eqS (ev_var rfl) (ev_var rfl)).val (by rw [eqv_str])
    · cases isPieceD m <;> cases isPieceD w <;> cases PyData.eqv m w <;> rfl
    · have e0 : (isPieceD m && isPieceD w && !(PyData.eqv m w)) = false := notb hb
      rw [e0, Bool.false_and] at k
      exact k H3 (e.trans (e2.trans e3)).ext
    · have e0 : (isPieceD m && isPieceD w && !(PyData.eqv m w)) = true := notb' hb
      rw [e0, Bool.true_and] at k
      exact s_retV (ρ := exR) (ev_is_whole (ev_var rfl) ev_c ev_c (e2.ds gc)) fun H3 e3 => k H3 (e.trans (e2.trans e3)).ext
theorem fault_parts {d : PyData} (h : isFaultD d = true) : ∃ s t c, itemsD d = [.str s, .str t, .int c] ∧ isPieceD (.str s) = true ∧ isPieceD (.str t) = true ∧ s ≠ t ∧ 1 ≤ c ∧ c ≤ 9 ∧ isSeqD d = true := by
  have h' : isTripleD d = true ∧ (match itemsD d with
    | [m, w, c] => isPieceD m && isPieceD w && !(PyData.eqv m w) && isWholeD 1 9 c
    | _ => false) = true := by simpa [isFaultD] using h
  have ht2 : isSeqD d = true ∧ (itemsD d).length = 3 := by simpa [isTripleD] using h'.1
  match hds : itemsD d, ht2.2, h'.2 with
  | [m, w, c], _, h2 =>
    have h3 : ((isPieceD m = true ∧ isPieceD w = true) ∧ PyData.eqv m w = false) ∧ isWholeD 1 9 c = true := by simpa using h2
    obtain ⟨s, rfl, _⟩ := piece_str h3.1.1.1
    obtain ⟨t, rfl, _⟩ := piece_str h3.1.1.2
    cases c with
    | int i =>
      have h4 : 1 ≤ i ∧ i ≤ 9 := by simpa [isWholeD] using h3.2
      refine ⟨s, t, i, rfl, h3.1.1.1, h3.1.1.2, ?_, h4.1, h4.2, ht2.1⟩
      have := h3.1.2
      rw [eqv_str] at this
      exact of_decide_eq_false this
    | _ => exact absurd h3.2 (by simp [isWholeD])
theorem pair_fault {d : PyData} {s t : Str} {c : PyData} (h : itemsD d = [.str s, .str t, c]) : pairOf d = .tuple [.str s, .str t] := by
  unfold pairOf
  rw [h]
theorem ok_pairs {ds : List PyData} (h : ds.all isFaultD = true) : okRow (ds.map pairOf) := by
  intro d hd e he
  obtain ⟨d', hd', rfl⟩ := List.mem_map.mp hd
  obtain ⟨e', he', rfl⟩ := List.mem_map.mp he
  obtain ⟨s, t, c, h1, _⟩ := fault_parts (List.all_eq_true.mp h d' hd')
  obtain ⟨s2, t2, c2, h2, _⟩ := fault_parts (List.all_eq_true.mp h e' he')
  rw [pair_fault h1, pair_fault h2]
  exact ⟨rfl, by simp, by show (1 : Nat) ≤ 64; decide⟩
theorem pure_is_table {K : Frag} (vs : List V) (H : Hp) (Q : VK) (E : XK) (h : sp_is_table K vs H Q E) : t_is_table K { nx := fun _ H' => Q .non H', rt := Q } (start ["value", "fault"] vs) H := by
  obtain ⟨v, d, rfl, hd, hs, k⟩ := h
  cases hq : isSeqD d with
  | false =>
    have e0 : isTableD d = false := by unfold isTableD; rw [hq]; rfl
    rw [e0] at k
    refine q_when (ρ := exR) (et_or (b := true) (et_not (et_B (ev_B1 (F := isSeqD) (ev_var rfl) hd hs))) fun h1 => ?_) (fun hb H1 e => s_retV (ρ := exR) ev_c fun H2 e2 => k H2 (e.trans e2).ext) (fun hb H1 e => ?_)
    · rw [hq] at h1
      cases h1
    · rw [hq] at hb
      cases hb
  | true =>
  obtain ⟨a, xs, rfl, ha, hsq, hsq2⟩ := hd.seqd hq
  have hlen := ha.length
  have hl1000 : (itemsD d).length ≤ 1000 ∧ smAll (itemsD d) = true := by
    cases d with
    | list ds => exact sm_seq (.inl hs)
    | tuple ds => exact sm_seq (.inr hs)
    | _ => cases hq
  refine q_when (ρ := exR) (et_or (et_not (et_B (ev_B1 (F := isSeqD) (ev_var rfl) hd hs))) fun _ => et_test (ev_gt (ev_len (ev_var rfl) (hsq K)) ev_c)) (fun hb H1 e => s_retV (ρ := exR) ev_c fun H2 e2 => ?_) (fun hb H1 e => ?_)
  · have hz : ¬ (itemsD d).length ≤ 8 := by
      rw [hq] at hb
      have : decide (8 < (xs.length : Int)) = true := by simpa using hb
      have := of_decide_eq_true this
      omega
    have e0 : isTableD d = false := by unfold isTableD; rw [decide_eq_false hz, Bool.and_false]; rfl
    rw [e0] at k
    exact k H2 (e.trans e2).ext
  have hz : (itemsD d).length ≤ 8 := by
    rw [hq] at hb
    have : decide (8 < (xs.length : Int)) = false := by simpa using hb
    have := of_decide_eq_false this
    omega
  have sqs : (∀ H2, exR.r H1 H2 → SqL K H2 a xs) ∨ ∀ H2, exR.r H1 H2 → SqT K H2 a xs := hsq2.imp (fun f H2 e2 => f K H2 (e.trans e2)) fun f H2 e2 => f K H2 (e.trans e2)
  have hx1 : DSs exR H1 xs (itemsD d) := e.dss ha
  refine q_when (ρ := exR) (b := !(itemsD d).all isFaultD) ((et_not (et_B (ev_all (n := xs.length) (f := fun i => isFaultD ((itemsD d)[i]?.getD .none)) (ev_lcV own_ex (by omega) (ei_seq (ev_var rfl) (fun H2 e2 => hsq K H2 (e.trans e2)) sqs) (fun x => rfl) (fun i H2 x H3 y => y.1) ?_)))).to ?_) (fun hb2 H2 e2 => s_retV (ρ := exR) ev_c fun H3 e3 => ?_) (fun hb2 H2 e2 => ?_)
  · rintro i x H2 H3 hi r ⟨e3, hx⟩
    obtain ⟨d1, g1, g2⟩ := hx1.get hx
    refine (ev_B1 (F := isFaultD) (ev_var rfl) (r.ds g2) (smAll_mem hl1000.2 (List.mem_of_getElem? g1))).val ?_
    rw [g1]
    rfl
  · refine congrArg (fun b => !b) ?_
    rw [hlen]
    refine range_all _ _ _ fun i x hx => ?_
    rw [hx]
    rfl
  · have hz2 : (itemsD d).all isFaultD = false := by simpa using hb2
    have e0 : isTableD d = false := by unfold isTableD; rw [hz2, Bool.and_false]; rfl
    rw [e0] at k
    exact k H3 (e.trans (e2.trans e3)).ext
  have hz2 : (itemsD d).all isFaultD = true := by simpa using hb2
  have e0 : isTableD d = risingD ((itemsD d).map pairOf) := by unfold isTableD; rw [hq, decide_eq_true hz, hz2]; rfl
  rw [e0] at k
  have hmap : (List.range xs.length).map (fun i => pairOf ((itemsD d)[i]?.getD .none)) = (itemsD d).map pairOf := by
    refine List.ext_getElem? fun i => ?_
    rw [List.getElem?_map, List.getElem?_map]
    by_cases hi : i < xs.length
    · rw [List.getElem?_range hi]
      have hi' : i < (itemsD d).length := by omega
      rw [List.getElem?_eq_getElem hi']
      show some (pairOf ((itemsD d)[i]?.getD .none)) = some (pairOf (itemsD d)[i])
      rw [List.getElem?_eq_getElem hi']
      rfl
    · rw [List.getElem?_eq_none_iff.mpr (by rw [List.length_range]; omega), List.getElem?_eq_none_iff.mpr (by omega)] <;> rfl
  have r02 := e.trans e2
  have sqs2 : (∀ H3, exR.r H2 H3 → SqL K H3 a xs) ∨ ∀ H3, exR.r H2 H3 → SqT K H3 a xs := hsq2.imp (fun f H3 e3 => f K H3 (r02.trans e3)) fun f H3 e3 => f K H3 (r02.trans e3)
  have hx2 : DSs exR H2 xs (itemsD d) := r02.dss ha
  refine s_retV (ρ := exR) (ev_rising (ds := (itemsD d).map pairOf) ?_ (by rw [List.length_map]; omega) (ok_pairs hz2)) fun H3 e3 => k H3 (r02.trans e3).ext
  rw [← hmap]
  refine ev_lcD own_ex (by omega) (ei_seq (ev_var rfl) (fun H3 e3 => hsq K H3 (r02.trans e3)) sqs2) (fun x => rfl) (fun i H2 x H3 y => y.1) ?_
  rintro D H3 r3 hD i x H4 H5 hi r4 oD ⟨e5, hx⟩
  obtain ⟨d1, g1, g2⟩ := hx2.get hx
  obtain ⟨s, t, c, p1, _, _, _, _, _, p2⟩ := fault_parts (List.all_eq_true.mp hz2 d1 (List.mem_of_getElem? g1))
  have g3 : DS exR H4 x d1 := r4.ds (r3.ds g2)
  obtain ⟨b, ys, rfl, hb3, hb4, _⟩ := g3.seqd p2
  rw [p1] at hb3
  obtain ⟨y1, y2, y3, rfl, c1, c2, c3⟩ := hb3.three
  · rw [g1]
    show Ev exR _ _ H4 (fun y H6 => DS (exR.and D) H6 y (pairOf d1))
    rw [pair_fault p1]
    cases c1
    cases c2
    exact ev_pairD .and (ev_ix (n := 0) (ev_var rfl) ev_c (hb4 K) rfl rfl) (ev_ix (n := 1) (ev_var rfl) ev_c (hb4 K) rfl rfl) (.str s) (.str t)
end Slip
/-! the law's own helpers: the draws -/
namespace Slip
open PySem PySem.Spec PyProof.Rows L2
section
variable {ρ : Rl} {K : Frag} {σ : L2.St} {H H' : Hp} {ta tb tc te ti : TE} {t u : TT} {x y z v : V} {r : R2} {R : V → Hp → Prop} {Pa Pb : V → Prop} {a l p : Addr} {xs : List V} {D : Ends} {tz tu : TS} {n : Nat} {i j : Int}
/-- operands whose values are not known -/
theorem ev_opP (ha : Ev ρ ta σ H (fun v _ => Pa v)) (hb : Ev ρ tb σ H (fun v _ => Pb v)) (hr : ∀ x y, Pa x → Pb y → RV ρ r x y H R) : Ev ρ (tOp r ta tb) σ H R := fun H1 e Q q =>
  ha H1 e _ fun x H2 e2 px => hb H2 (e.trans e2) _ fun y H3 e3 py => hr x y px py H3 ((e.trans e2).trans e3) Q fun v H4 e4 rv => q v H4 ((e2.trans e3).trans e4) rv
theorem ev_P {P : V → Prop} (h : EvV ρ te σ H v) (p : P v) : Ev ρ te σ H (fun v' _ => P v') := h.imp fun _ _ _ e => by rw [e]; exact p
theorem ea_consP {tr : TA} {Pr : List V → Prop} (h : Ev ρ ta σ H (fun v _ => Pa v)) (hr : EvA ρ tr σ H (fun vs _ => Pr vs)) : EvA ρ (tCons ta tr) σ H (fun vs _ => ∃ x ws, vs = x :: ws ∧ Pa x ∧ Pr ws) := fun H1 e _ q =>
  h H1 e _ fun x H2 e2 px => hr H2 (e.trans e2) _ fun ws H3 e3 pw => q _ H3 (e2.trans e3) ⟨x, ws, rfl, px, pw⟩
/-- xs[i] of an unknown place -/
theorem ev_ixP (h1 : EvV ρ ta σ H (.ref a)) (h2 : Ev ρ tb σ H (fun v _ => ∃ m : Int, v = .int m ∧ 0 ≤ m ∧ m < (xs.length : Int))) (hs : ∀ H1, ρ.r H H1 → SqA K H1 a xs) : Ev ρ (tIxU K ta tb) σ H (fun v _ => ∃ m : Nat, xs[m]? = some v) :=
  fun H1 e1 Q q => .inl (ev_opP (Pa := fun v => v = .ref a) h1 h2 (fun x y ex ⟨m, ey, h0, h1⟩ H2 e2 Q q => by
    subst ex ey
    have hm : m.toNat < xs.length := by omega
    have g : xs[m.toNat]? = some xs[m.toNat] := List.getElem?_eq_getElem hm
    have g2 : atI xs m = some xs[m.toNat] := by
      have := atI_nat g
      rwa [show ((m.toNat : Nat) : Int) = m by omega] at this
    exact (hs H2 e2).elim (fun hs => .inl ⟨a, xs, m, _, rfl, rfl, hs, g2, q _ H2 .rfl ⟨_, g⟩⟩) fun hs => .inr (.inl ⟨a, xs, m, _, rfl, rfl, hs, g2, q _ H2 .rfl ⟨_, g⟩⟩)) H1 e1 Q q)
theorem ev_ixSP {s : Str} (h1 : EvV ρ ta σ H (.str s)) (hl : s.length ≤ 100000) (h2 : Ev ρ tb σ H (fun v _ => ∃ m : Int, v = .int m ∧ 0 ≤ m ∧ m < (s.length : Int))) : Ev ρ (tIxU K ta tb) σ H (fun v _ => ∃ c, v = .str ⟨#[c]⟩ ∧ c ∈ s.cps.toList) :=
  fun H1 e1 Q q => .inl (ev_opP (Pa := fun v => v = .str s) h1 h2 (fun x y ex ⟨m, ey, h0, h1⟩ H2 e2 Q q => by
    subst ex ey
    have hz : s.cps.toList.length = s.length := by simp [Str.length]
    have hm : m.toNat < s.cps.toList.length := by omega
    have g : s.cps.toList[m.toNat]? = some s.cps.toList[m.toNat] := List.getElem?_eq_getElem hm
    have g2 : atI s.cps.toList m = some s.cps.toList[m.toNat] := by
      have := atI_nat g
      rwa [show ((m.toNat : Nat) : Int) = m by omega] at this
    exact .inr (.inr ⟨s, m, _, rfl, rfl, Evl.sz_of hl, g2, q _ H2 .rfl ⟨_, rfl, List.getElem_mem hm⟩⟩)) H1 e1 Q q)
/-- xs.append(e) -/
theorem s_app (hl : H l = some (.lst xs)) (nS : ¬ ρ.S l) (ha : EvV ρ ta σ H (.ref l)) (h : Ev ρ te σ H R) (hz : xs.length < 100000) (k : ∀ y H1, ρ.r H H1 → R y H1 → H1 l = some (.lst xs) → D.nx σ (upd H1 l (.lst (xs ++ [y])))) :
    tDrop (tBM K "list" rAppend ta (tCons te tNil)) D σ H := ha H .rfl _ fun v H1 e1 ev => by
  subst ev
  exact ⟨Or.inl ⟨rfl, xs, .of (e1.keep _ _ nS hl)⟩, h H1 e1 _ fun y H2 e2 ry => ⟨l, xs, y, rfl, rfl, (e1.trans e2).keep _ _ nS hl, Evl.sz_lt hz, k y H2 (e1.trans e2) ry ((e1.trans e2).keep _ _ nS hl)⟩⟩
theorem q_app (hl : H l = some (.lst xs)) (nS : ¬ ρ.S l) (ha : EvV ρ ta σ H (.ref l)) (h : Ev ρ te σ H R) (hz : xs.length < 100000) (k : ∀ y H1, ρ.r H H1 → R y H1 → H1 l = some (.lst xs) → tz D σ (upd H1 l (.lst (xs ++ [y])))) :
    tSeq (tDrop (tBM K "list" rAppend ta (tCons te tNil))) tz D σ H := s_app (D := { D with nx := tz D }) hl nS ha h hz k
/-- xs[i] = e -/
theorem q_setL {m : Nat} (hl : ∀ H1, ρ.r H H1 → H1 l = some (.lst xs)) (h : Ev ρ te σ H R) (ho : EvV ρ ta σ H (.ref l)) (hi : EvV ρ ti σ H (.int (m : Int))) (hm : m < xs.length) (k : ∀ y H1, ρ.r H H1 → R y H1 → tz D σ (upd H1 l (.lst (xs.set m y)))) (hR : ∀ y H1 H2, ρ.r H1 H2 → R y H1 → R y H2) :
    tSeq (tAsg te (gSub ta ti (rSetU K))) tz D σ H := h H .rfl _ fun y H1 e1 ry => ho H1 e1 _ fun v H2 e2 ev => by
  subst ev
  exact hi H2 (e1.trans e2) _ fun w H3 e3 ew => by
    subst ew
    have e13 := (e1.trans e2).trans e3
    exact .inl ⟨l, xs, (m : Int), m, rfl, rfl, hl H3 e13, Evl.ixN_nat hm, k y H3 e13 (hR _ _ _ (e2.trans e3) ry)⟩
/-! ### walks over what is not known ahead -/
def EvIx (ρ : Rl) (wi : TI) (σ : L2.St) (H : Hp) (C : Nat → (Nat → Hp → V → Hp → Prop) → Prop) : Prop :=
  ∀ H1, ρ.r H H1 → ∀ R : It → Hp → Prop, (∀ n Y J H2, C n Y → ρ.r H1 H2 → Walk J n (fun H3 => ρ.r H2 H3) Y → R J H2) → wi σ H1 R
variable {wi : TI} {g : TG} {C : Nat → (Nat → Hp → V → Hp → Prop) → Prop}
theorem s_forx (h : EvIx ρ wi σ H C) (k : ∀ n Y H1, C n Y → ρ.r H H1 → ∃ Pv : Nat → L2.St → Hp → Prop, Pv 0 σ H1 ∧ (∀ i σ' H', i ≤ n → Pv i σ' H' → ρ.r H1 H') ∧
    (∀ i x σ' H' H'', i < n → Pv i σ' H' → Y i H' x H'' → g x σ' H'' fun σ2 H2 => tu { D with nx := Pv (i + 1), ct := Pv (i + 1), bk := D.nx } σ2 H2) ∧ ∀ σ' H', Pv n σ' H' → D.nx σ' H') : tFor wi g tu D σ H :=
  h H .rfl _ fun n Y J H1 c e w => by
    obtain ⟨Pv, h0, hr, hs, hd⟩ := k n Y H1 c e
    exact for_it w Pv h0 hr hs hd
theorem q_forx (h : EvIx ρ wi σ H C) (k : ∀ n Y H1, C n Y → ρ.r H H1 → ∃ Pv : Nat → L2.St → Hp → Prop, Pv 0 σ H1 ∧ (∀ i σ' H', i ≤ n → Pv i σ' H' → ρ.r H1 H') ∧
    (∀ i x σ' H' H'', i < n → Pv i σ' H' → Y i H' x H'' → g x σ' H'' fun σ2 H2 => tu { D with nx := Pv (i + 1), ct := Pv (i + 1), bk := tz D } σ2 H2) ∧ ∀ σ' H', Pv n σ' H' → tz D σ' H') : tSeq (tFor wi g tu) tz D σ H :=
  s_forx (D := { D with nx := tz D }) h k
theorem eix_rng {lim : Int} (h : Ev ρ te σ H (fun v _ => ∃ m : Int, v = .int m ∧ 0 ≤ m ∧ m < lim)) (hl : lim ≤ 1000000) : EvIx ρ (iRng1 (tCons te tNil)) σ H (fun n Y => (n : Int) < lim ∧ Y = YFn fun m => .int ((m : Nat) : Int)) := fun H1 e1 R k =>
  h H1 e1 _ fun v H2 e2 ⟨m, ev, h0, h1⟩ => ⟨m, by rw [ev], by omega, by omega, k m.toNat _ _ H2 ⟨by omega, rfl⟩ e2 (walk_range.mono (fun _ _ => trivial) fun i H3 x H4 _ _ y => ⟨y.1, by rw [y.2]; exact congrArg V.int (Int.zero_add _)⟩)⟩
/-- a new list of known things -/
theorem ei_new (h : Ev ρ te σ H (fun v H2 => ∃ p, v = .ref p ∧ ¬ ρ.S p ∧ H2 p = some (.lst xs))) : EvI ρ (iSeq K te) σ H xs.length (YAt xs) := fun H1 e1 R k =>
  .inl (h H1 e1 _ fun v H2 e2 ⟨p, ev, nS, hp⟩ => ⟨p, ev, ⟨xs, .of hp⟩, k _ H2 e2 (walk_list.mono (fun H3 e3 => .of (e3.keep _ _ nS hp)) fun _ _ _ _ _ _ y => y)⟩)
/-- xs[:n] of a list -/
theorem ev_slL {tl th : TO} {lo hi : Option Int} (own : Own ρ H) (h : EvV ρ te σ H (.ref a)) (h1 : EvO ρ tl σ H lo) (h2 : EvO ρ th σ H hi) (hs : ∀ H1, ρ.r H H1 → SqL K H1 a xs) : Ev ρ (tSl (rSlU K) te tl th) σ H (fun v H2 => ∃ p, v = .ref p ∧ ¬ ρ.S p ∧ H2 p = some (.lst (cutV xs lo hi))) := fun H0 e Q q =>
  h H0 e _ fun v H2 e2 ev => by
    subst ev
    refine h1 H2 (e.trans e2) _ fun H3 e3 => h2 H3 ((e.trans e2).trans e3) _ fun H4 e4 => ?_
    have e04 := ((e.trans e2).trans e3).trans e4
    exact .inl ⟨a, xs, rfl, hs H4 e04, fun p hp => q _ _ (((e2.trans e3).trans e4).trans (r_new _ hp)) ⟨p, rfl, (own.r e04).fresh hp, upd_same⟩⟩
end
/-! ### draws -/
/-- a row of numbers at ra, the place at sp -/
def Dr (K : Frag) (ra sp : Addr) (H : Hp) : Prop := (∃ ms : List Int, ms ≠ [] ∧ SqL K H ra (ms.map V.int)) ∧ Spot sp H ∧ ra ≠ sp
theorem Dr.r {ρ : Rl} {K : Frag} {ra sp : Addr} {H H' : Hp} (d : Dr K ra sp H) (e : ρ.r H H') (h1 : ¬ ρ.S ra) (h2 : ρ.S sp → ρ.P sp) : Dr K ra sp H' := by
  obtain ⟨⟨ms, hm, hq⟩, hs, ne⟩ := d
  refine ⟨⟨ms, hm, e.sqL h1 hq⟩, ?_, ne⟩
  by_cases z : ρ.S sp
  · exact e.spot sp (h2 z) hs
  · obtain ⟨k, h0, q⟩ := hs
    exact ⟨k, h0, e.keep _ _ z q⟩
theorem Dr.sp {K : Frag} {ra sp : Addr} {H H' : Hp} (d : Dr K ra sp H) (e : (spR sp).r H H') : Dr K ra sp H' := d.r e d.2.2 fun z => z
def sp__law_draw (K : Frag) : Sp := fun vs H Q _ => ∃ (ra : Addr) (k lim : Int), vs = [.ref ra, .int k, .int lim] ∧ (∃ ms : List Int, ms ≠ [] ∧ SqL K H ra (ms.map V.int)) ∧ 0 ≤ k ∧ 0 < lim ∧ ∀ n H', 0 ≤ n → n < lim → Ext H H' → Q (.int n) H'
def sp__law_take (K : Frag) : Sp := fun vs H Q _ => ∃ (ra sp : Addr) (lim : Int), vs = [.ref ra, .ref sp, .int lim] ∧ Dr K ra sp H ∧ 0 < lim ∧ ∀ n H', 0 ≤ n → n < lim → (spR sp).r H H' → Q (.int n) H'
theorem len__law_draw {K : Frag} {vs : List V} {H : Hp} {Q : VK} {E : XK} (h : sp__law_draw K vs H Q E) : vs.length = 3 := by
  obtain ⟨ra, k, lim, rfl, _⟩ := h
  rfl
theorem len__law_take {K : Frag} {vs : List V} {H : Hp} {Q : VK} {E : XK} (h : sp__law_take K vs H Q E) : vs.length = 3 := by
  obtain ⟨ra, k, lim, rfl, _⟩ := h
  rfl
/-- a drawn number -/
abbrev Below (lim : Int) (v : V) : Prop := ∃ n : Int, v = .int n ∧ 0 ≤ n ∧ n < lim
section
variable {ρ : Rl} {K : Frag} {σ : L2.St} {H : Hp} {ta tb tc : TE} {ra sp : Addr} {lim : Int}
theorem ev_take {E : XK} (h1 : EvV (spR sp) ta σ H (.ref ra)) (h2 : EvV (spR sp) tb σ H (.ref sp)) (h3 : EvV (spR sp) tc σ H (.int lim)) (d : Dr K ra sp H) (hl : 0 < lim) : Ev (spR sp) (tCall (sp__law_take K) [] E (tCons ta (tCons tb (tCons tc tNil)))) σ H (fun v _ => Below lim v) :=
  ev_call (ea_cons h1 (ea_cons h2 (ea_cons h3 ea_nil))) fun H1 e1 Q q E => ⟨ra, sp, lim, rfl, d.sp e1, hl, fun n H' h0 h1 e => q _ H' e ⟨n, rfl, h0, h1⟩⟩
end
def t__law_draw (K : Frag) : TS := (tSeq (tIfS (tTest (tOp (rCmp K gLt) (tVar 1) (tCB (rLenU K) (tCons (tVar 0) tNil)))) (tRet (tOp rModI (tCB rIntOf (tCons (tIxU K (tVar 0) (tVar 1)) tNil)) (tVar 2))) tNext) (tSeq (tAsg (tOp rModI (tCB rIntOf (tCons (tOp (rAddU K) (tOp (rAddU K) (tOp rMulI (tIxU K (tVar 0) (tOp rModI (tCB rIntOf (tCons (tVar 1) tNil)) (tCB (rLenU K) (tCons (tVar 0) tNil)))) (tC (.int 40692))) (tOp rMulI (tVar 1) (tC (.int 7919)))) (tC (.int 3))) tNil)) (tC (.int 2147483399))) (gName 3)) (tRet (tOp rModI (tCB rIntOf (tCons (tOp rModI (tCB rIntOf (tCons (tOp (rAddU K) (tOp rMulI (tVar 3) (tC (.int 48271))) (tVar 1)) tNil)) (tC (.int 2147483647))) tNil)) (tVar 2)))))
def t__law_take (K : Frag) : TS := (tSeq (tAsg (tOp (rAddU K) (tIxU K (tVar 1) (tC (.int 0))) (tC (.int 1))) (gSub (tVar 1) (tC (.int 0)) (rSetU K))) (tRet (tCall (sp__law_draw K) [] E0 (tCons (tVar 0) (tCons (tOp rSubI (tIxU K (tVar 1) (tC (.int 0))) (tC (.int 1))) (tCons (tVar 2) tNil))))))
theorem pure__law_draw {K : Frag} (vs : List V) (H : Hp) (Q : VK) (E : XK) (h : sp__law_draw K vs H Q E) : t__law_draw K { nx := fun _ H' => Q .non H', rt := Q } (start ["row", "at", "limit", "mixed"] vs) H := by
  obtain ⟨ra, k, lim, rfl, ⟨ms, hm, hq⟩, h0, hl, q⟩ := h
  have hlen : (ms.map V.int).length = ms.length := List.length_map _
  have hpos : 0 < ms.length := by
    cases ms with
    | nil => exact absurd rfl hm
    | cons _ _ => exact Nat.succ_pos _
  have sq : ∀ H1, exR.r H H1 → SqA K H1 ra (ms.map V.int) := fun H1 e => .inl (ext_sqL e.ext hq)
  refine q_when (ρ := exR) (et_test (ev_lt (ev_var rfl) (ev_len (ev_var rfl) sq))) (fun hb H1 e => ?_) (fun hb H1 e => ?_)
  · have hk : k < (ms.length : Int) := by
      have := of_decide_eq_true hb
      rwa [hlen] at this
    have sq1 : ∀ H2, exR.r H1 H2 → SqA K H2 ra (ms.map V.int) := fun H2 e2 => sq H2 (e.trans e2)
    have g : (ms.map V.int)[k.toNat]? = some (.int (ms[k.toNat]'(by omega))) := by
      rw [List.getElem?_map, List.getElem?_eq_getElem (by omega)] <;> rfl
    exact s_retV (ρ := exR) (ev_mod (ev_int (ev_ix (n := k.toNat) (ev_var rfl) (ev_var rfl) sq1 (by omega) g)) (ev_var rfl) hl) fun H2 e2 => q _ H2 (Int.emod_nonneg _ (by omega)) (Int.emod_lt_of_pos _ hl) (e.trans e2).ext
  · have sq1 : ∀ H2, exR.r H1 H2 → SqA K H2 ra (ms.map V.int) := fun H2 e2 => sq H2 (e.trans e2)
    have hn : (k % (ms.length : Int)).toNat < ms.length := by
      have h1 := Int.emod_lt_of_pos k (show (0 : Int) < ms.length by omega)
      have h2 := Int.emod_nonneg k (show (ms.length : Int) ≠ 0 by omega)
      omega
    have g : (ms.map V.int)[(k % (ms.length : Int)).toNat]? = some (.int (ms[(k % (ms.length : Int)).toNat]'hn)) := by
      rw [List.getElem?_map, List.getElem?_eq_getElem hn] <;> rfl
    refine q_asgV (ρ := exR) (ev_mod (ev_int (ev_add (ev_add (ev_mul (ev_ix (n := (k % (ms.length : Int)).toNat) (ev_var rfl) ((ev_mod (ev_int (ev_var rfl)) (ev_len (ev_var rfl) sq1) (by omega)).val (by rw [hlen])) sq1 (by have h2 := Int.emod_nonneg k (show (ms.length : Int) ≠ 0 by omega); omega) g) ev_c (.inr (by decide))) (ev_mul (ev_var rfl) ev_c (.inr (by decide)))) ev_c)) ev_c (by decide)) fun H2 e2 => ?_
    exact s_retV (ρ := exR) (ev_mod (ev_int (ev_mod (ev_int (ev_add (ev_mul (ev_var rfl) ev_c (.inr (by decide))) (ev_var rfl))) ev_c (by decide))) (ev_var rfl) hl) fun H3 e3 => q _ H3 (Int.emod_nonneg _ (by omega)) (Int.emod_lt_of_pos _ hl) (e.trans (e2.trans e3)).ext
theorem pure__law_take {K : Frag} (vs : List V) (H : Hp) (Q : VK) (E : XK) (h : sp__law_take K vs H Q E) : t__law_take K { nx := fun _ H' => Q .non H', rt := Q } (start ["row", "spot", "limit"] vs) H := by
  obtain ⟨ra, sp, lim, rfl, ⟨⟨ms, hm, hq⟩, ⟨k, h0, hs⟩, ne⟩, hl, q⟩ := h
  have hs0 : ∀ H1, exR.r H H1 → H1 sp = some (.lst [.int k]) := fun H1 e => e.ext _ _ hs
  refine q_setL (ρ := exR) (R := fun v _ => v = .int (k + 1)) (m := 0) hs0 (ev_add (ev_ix (n := 0) (ev_var rfl) ev_c (fun H1 e => .inl (.of (hs0 H1 e))) rfl rfl) ev_c) (ev_var rfl) ev_c (by show 0 < 1; decide) (fun y H1 e1 ey => ?_) (fun _ _ _ _ h => h)
  subst ey
  have ch : (spR sp).r H (upd H1 sp (.lst [.int (k + 1)])) := by
    have e := e1.ext
    refine ⟨fun a o n h => by rw [upd_ne n]; exact e a o h, fun a h => ?_, fun a xs h => ?_, fun a o u h => ?_, fun a p h => ?_⟩
    · by_cases z : a = sp
      · subst z; rw [upd_same] at h; cases h
      · rw [upd_ne z] at h; exact e1.back a h
    · rw [upd_ne (ne_of h hs (by intro z; cases z))]; exact e a _ h
    · rw [upd_ne (ne_of h hs (by intro z; cases z))]; exact e a _ h
    · subst p
      exact ⟨k + 1, by omega, upd_same⟩
  have hq2 : SqL K (upd H1 sp (.lst [.int (k + 1)])) ra (ms.map V.int) := ch.sqL ne hq
  have hs2 : ∀ H2, exR.r (upd H1 sp (.lst [.int (k + 1)])) H2 → SqA K H2 sp [.int (k + 1)] := fun H2 e => .inl (.of (e.ext _ _ upd_same))
  refine s_ret (ρ := exR) (R := fun v _ => Below lim v) (ev_call (ea_cons (ev_var rfl) (ea_cons (ev_sub (ev_ix (n := 0) (ev_var rfl) ev_c hs2 rfl rfl) ev_c) (ea_cons (ev_var rfl) ea_nil))) fun H2 e2 Q' q' E => ⟨ra, k + 1 - 1, lim, rfl, ⟨ms, hm, ext_sqL e2.ext hq2⟩, by omega, hl, fun n H' h0 h1 e => q' _ H' (Ext.r e) ⟨n, rfl, h0, h1⟩⟩) fun v H2 e2 ⟨n, ev, h0', h1'⟩ => ?_
  subst ev
  exact q n H2 h0' h1' (ch.trans (Ext.r e2.ext))
end Slip
/-! the law's own helpers: sameness, the numbers of the script -/
namespace Slip
open PySem PySem.Spec PyProof.Rows L2
/- found is wanted, kind by kind -/
mutual
def soD : PyData → PyData → Bool
  | f, .none => (match f with | .none => true | _ => false)
  | f, .tuple ws => (match f with | .tuple fs => soAll fs ws | _ => false)
  | f, .bool b => (match f with | .bool a => a == b | _ => false)
  | f, .int j => (match f with | .int i => decide (i = j) | _ => false)
  | f, .str t => (match f with | .str s => decide (s = t) | _ => false)
  | _, .list _ => false
  | _, .dict _ => false
def soAll : List PyData → List PyData → Bool
  | [], [] => true
  | f :: fs, w :: ws => soD f w && soAll fs ws
  | [], _ :: _ => false
  | _ :: _, [] => false
end
theorem soAll_len : ∀ {fs ws : List PyData}, soAll fs ws = true → fs.length = ws.length
  | [], [], _ => rfl
  | f :: fs, w :: ws, h => by
    have h' : soD f w = true ∧ soAll fs ws = true := by simpa [soAll] using h
    exact congrArg Nat.succ (soAll_len h'.2)
  | [], _ :: _, h => by cases h
  | _ :: _, [], h => by cases h
theorem soAll_of : ∀ {fs ws : List PyData}, fs.length = ws.length → (∀ (i : Nat) f w, fs[i]? = some f → ws[i]? = some w → soD f w = true) → soAll fs ws = true
  | [], [], _, _ => rfl
  | f :: fs, w :: ws, hl, h => by
    show (soD f w && soAll fs ws) = true
    rw [h 0 f w rfl rfl, soAll_of (by simpa using hl) fun i x y a b => h (i + 1) x y (by simpa using a) (by simpa using b)]
    rfl
  | [], _ :: _, hl, _ => by simp at hl
  | _ :: _, [], hl, _ => by simp at hl
theorem soAll_no : ∀ {fs ws : List PyData} {i : Nat} {f w : PyData}, fs[i]? = some f → ws[i]? = some w → soD f w = false → soAll fs ws = false
  | f :: fs, w :: ws, 0, x, y, a, b, h => by
    cases a
    cases b
    show (soD f w && soAll fs ws) = false
    rw [h, Bool.false_and]
  | f :: fs, w :: ws, i + 1, x, y, a, b, h => by
    show (soD f w && soAll fs ws) = false
    rw [soAll_no (by simpa using a) (by simpa using b) h, Bool.and_false]
  | [], _, i, x, y, a, _, _ => by simp at a
  | _ :: _, [], i, x, y, _, b, _ => by simp at b
theorem depth_mem : ∀ {ds : List PyData} {d : PyData}, d ∈ ds → d.depth ≤ PyData.depthAll ds
  | e :: ds, d, h => by
    show d.depth ≤ max e.depth (PyData.depthAll ds)
    rcases List.mem_cons.mp h with rfl | h
    · exact Nat.le_max_left _ _
    · exact Nat.le_trans (depth_mem h) (Nat.le_max_right _ _)
/- sizes that a range can walk -/
mutual
def smB : PyData → Bool
  | .tuple ds => decide (ds.length ≤ 100000000) && smBs ds
  | _ => true
def smBs : List PyData → Bool
  | [] => true
  | d :: ds => smB d && smBs ds
end
theorem smB_mem : ∀ {ds : List PyData} {d : PyData}, smBs ds = true → d ∈ ds → smB d = true
  | e :: ds, d, h, hm => by
    have h' : smB e = true ∧ smBs ds = true := by simpa [smBs] using h
    rcases List.mem_cons.mp hm with rfl | hm
    · exact h'.1
    · exact smB_mem h'.2 hm
theorem smB_of : ∀ {ds : List PyData}, (∀ d ∈ ds, smB d = true) → smBs ds = true
  | [], _ => rfl
  | e :: ds, h => by
    show (smB e && smBs ds) = true
    rw [h e (List.mem_cons_self ..), smB_of fun d hd => h d (List.mem_cons_of_mem _ hd)]
    rfl
mutual
theorem sm_B : ∀ (d : PyData), sm d = true → smB d = true
  | .tuple ds, h => by
    have z := sm_seq (.inr h)
    show (decide (ds.length ≤ 100000000) && smBs ds) = true
    rw [decide_eq_true (show ds.length ≤ 100000000 by have := z.1; omega), sms_B ds z.2]
    rfl
  | .none, _ => rfl
  | .bool _, _ => rfl
  | .int _, _ => rfl
  | .str _, _ => rfl
  | .list _, _ => rfl
  | .dict _, _ => rfl
theorem sms_B : ∀ (ds : List PyData), smAll ds = true → smBs ds = true
  | [], _ => rfl
  | d :: ds, h => by
    have h' : sm d = true ∧ smAll ds = true := by simpa [smAll] using h
    show (smB d && smBs ds) = true
    rw [sm_B d h'.1, sms_B ds h'.2]
    rfl
end
def Sm (w : PyData) : Prop := smB w = true
theorem sm_Sm {w : PyData} (h : sm w = true) : Sm w := sm_B w h
instance {w : PyData} : Coe (sm w = true) (Sm w) := ⟨sm_Sm⟩
def sp__law_so (K : Frag) (n : Nat) : Sp := fun vs H Q _ => ∃ x y f w, vs = [x, y] ∧ DS exR H x f ∧ DS exR H y w ∧ Sm w ∧ w.depth < n ∧ ∀ H', Ext H H' → Q (.bl (soD f w)) H'
theorem len__law_so {K : Frag} {n : Nat} {vs : List V} {H : Hp} {Q : VK} {E : XK} (h : sp__law_so K n vs H Q E) : vs.length = 2 := by
  obtain ⟨x, y, f, w, rfl, _⟩ := h
  rfl
section
variable {ρ : Rl} {K : Frag} {σ : L2.St} {H : Hp} {ta tb : TE} {x y : V} {f w : PyData} {n : Nat}
theorem ev_so {E : XK} (h1 : EvV ρ ta σ H x) (h2 : EvV ρ tb σ H y) (hf : DS ρ H x f) (hw : DS ρ H y w) (hs : Sm w) (hd : w.depth < n) : EvV ρ (tCall (sp__law_so K n) [] E (tCons ta (tCons tb tNil))) σ H (.bl (soD f w)) :=
  ev_call (ea_cons h1 (ea_cons h2 ea_nil)) fun H1 e1 Q q E => ⟨x, y, f, w, rfl, (e1.ds hf).ex, (e1.ds hw).ex, hs, hd, fun H' e => q _ H' (Ext.r e) rfl⟩
end
def t__law_so (K : Frag) (n : Nat) : TS := (tSeq (tIfS (tTest (tOp rIsN (tVar 1) (tC .non))) (tRet (tOp rIsN (tVar 0) (tC .non))) tNext) (tSeq (tIfS (tB (tCB (rIsiU K) (tCons (tVar 1) (tCons (tC (.ty "tuple")) tNil)))) (tSeq (tIfS (tOr (tNot (tB (tCB (rIsiU K) (tCons (tVar 0) (tCons (tC (.ty "tuple")) tNil))))) (tTest (tOp (rNeU K) (tCB (rLenU K) (tCons (tVar 0) tNil)) (tCB (rLenU K) (tCons (tVar 1) tNil))))) (tRet (tC (.bl false))) tNext) (tSeq (tFor (iRng1 (tCons (tCB (rLenU K) (tCons (tVar 1) tNil)) tNil)) (gName 2) (tIfS (tNot (tB (tCall (sp__law_so K n) [] E0 (tCons (tIxU K (tVar 0) (tVar 2)) (tCons (tIxU K (tVar 1) (tVar 2)) tNil))))) (tRet (tC (.bl false))) tNext)) (tRet (tC (.bl true))))) tNext) (tSeq (tIfS (tOr (tB (tCB (rIsiU K) (tCons (tVar 1) (tCons (tC (.ty "bool")) tNil)))) (tB (tCB (rIsiU K) (tCons (tVar 0) (tCons (tC (.ty "bool")) tNil))))) (tRet (tAndV (tCB (rIsiU K) (tCons (tVar 1) (tCons (tC (.ty "bool")) tNil))) (tAndV (tCB (rIsiU K) (tCons (tVar 0) (tCons (tC (.ty "bool")) tNil))) (tOp (rEqU K) (tVar 0) (tVar 1))))) tNext) (tSeq (tIfS (tB (tCB (rIsiU K) (tCons (tVar 1) (tCons (tC (.ty "int")) tNil)))) (tRet (tAndV (tCB (rIsiU K) (tCons (tVar 0) (tCons (tC (.ty "int")) tNil))) (tOp (rEqU K) (tVar 0) (tVar 1)))) tNext) (tRet (tAndV (tCB (rIsiU K) (tCons (tVar 1) (tCons (tC (.ty "str")) tNil))) (tAndV (tCB (rIsiU K) (tCons (tVar 0) (tCons (tC (.ty "str")) tNil))) (tOp (rEqU K) (tVar 0) (tVar 1)))))))))
theorem pure__law_so {K : Frag} {n : Nat} (vs : List V) (H : Hp) (Q : VK) (E : XK) (h : sp__law_so K (n + 1) vs H Q E) : t__law_so K n { nx := fun _ H' => Q .non H', rt := Q } (start ["found", "wanted", "k"] vs) H := by
  obtain ⟨x, y, f, w, rfl, hf, hw, hs, hd, k⟩ := h
  cases w with
  | none =>
    cases hw
    refine q_when (ρ := exR) (b := true) ((et_test (ev_isN (v := V.non) (ev_var rfl))).to (decide_eq_true rfl)) (fun hb H1 e => s_retV (ρ := exR) (ev_isN (ev_var rfl)) fun H2 e2 => ?_) (fun hb H1 e => by cases hb)
    have : decide (x = V.non) = soD f .none := by cases hf <;> rfl
    rw [this]
    exact k H2 (e.trans e2).ext
  | list ds =>
    have e0 : soD f (.list ds) = false := by cases f <;> rfl
    rw [e0] at k
    have ne : y ≠ V.non := by cases hw; intro z; cases z
    refine q_when (ρ := exR) (b := false) ((et_test (ev_isN (ev_var rfl))).to (decide_eq_false ne)) (fun hb H1 e => by cases hb) (fun hb H1 e => ?_)
    refine q_when (ρ := exR) (b := false) (et_B (ev_isi (ev_var rfl) (e.ds hw) rfl)) (fun hb H1 e => by cases hb) (fun hb H2 e2 => ?_)
    have e12 := e.trans e2
    refine q_when (ρ := exR) (et_or (et_B (ev_isi (ev_var rfl) (e12.ds hw) rfl)) fun _ => et_B (ev_isi (ev_var rfl) (e12.ds hf) rfl)) (fun hb H3 e3 => s_retV (ρ := exR) ((ev_andV (b := true) (ev_isi (ev_var rfl) ((e12.trans e3).ds hw) rfl) fun h => by cases h)) fun H4 e4 => k H4 (e12.trans (e3.trans e4)).ext) (fun hb H3 e3 => ?_)
    have e13 := e12.trans e3
    refine q_when (ρ := exR) (b := false) (et_B (ev_isi (ev_var rfl) (e13.ds hw) rfl)) (fun hb H1 e => by cases hb) (fun hb H4 e4 => ?_)
    have e14 := e13.trans e4
    exact s_retV (ρ := exR) ((ev_andV (b := true) (ev_isi (ev_var rfl) (e14.ds hw) rfl) fun h => by cases h)) fun H5 e5 => k H5 (e14.trans e5).ext
  | dict ds => cases hw
  | bool b =>
    cases hw
    refine q_when (ρ := exR) (b := false) ((et_test (ev_isN (ev_var rfl))).to (decide_eq_false (by intro z; cases z))) (fun hb H1 e => by cases hb) (fun hb H1 e => ?_)
    refine q_when (ρ := exR) (b := false) (et_B (ev_isi (ev_var rfl) (.bl b) rfl)) (fun hb H1 e => by cases hb) (fun hb H2 e2 => ?_)
    have e12 := e.trans e2
    refine q_when (ρ := exR) (b := true) (et_or (b := true) (et_B (ev_isi (ev_var rfl) (.bl b) rfl)) fun h => by cases h) (fun hb H3 e3 => ?_) (fun hb H1 e => by cases hb)
    have e13 := e12.trans e3
    have gf := e13.ds hf
    cases hq : isiB f "bool" with
    | true =>
      cases f with
      | bool a =>
        cases hf
        exact s_retV (ρ := exR) (ev_andV (ev_isi (ev_var rfl) (.bl b) rfl) fun _ => ev_andV (ev_isi (ev_var rfl) gf rfl) fun _ => ev_eqB (ev_var rfl) (ev_var rfl)) fun H4 e4 => k H4 (e13.trans e4).ext
      | _ => exact absurd hq (by show ¬ false = true; decide)
    | false =>
      have e0 : soD f (.bool b) = false := by
        cases f with
        | bool a => exact absurd hq (by show ¬ true = false; decide)
        | _ => rfl
      rw [e0] at k
      refine s_retV (ρ := exR) ((ev_andV (b := false) (ev_isi (ev_var rfl) (.bl b) rfl) fun _ => (ev_andV (b := false) (ev_isi (ev_var rfl) gf rfl) fun h => by rw [hq] at h; cases h).val (by rw [Bool.and_false])).val (x := .bl false) (by rw [Bool.and_false])) fun H4 e4 => k H4 (e13.trans e4).ext
  | int j =>
    cases hw
    refine q_when (ρ := exR) (b := false) ((et_test (ev_isN (ev_var rfl))).to (decide_eq_false (by intro z; cases z))) (fun hb H1 e => by cases hb) (fun hb H1 e => ?_)
    refine q_when (ρ := exR) (b := false) (et_B (ev_isi (ev_var rfl) (.int j) rfl)) (fun hb H1 e => by cases hb) (fun hb H2 e2 => ?_)
    have e12 := e.trans e2
    refine q_when (ρ := exR) (et_or (et_B (ev_isi (ev_var rfl) (.int j) rfl)) fun _ => et_B (ev_isi (ev_var rfl) (e12.ds hf) rfl)) (fun hb H3 e3 => ?_) (fun hb H3 e3 => ?_)
    · have e0 : soD f (.int j) = false := by
        cases f with
        | int a => exact absurd hb (by show ¬ (false || false) = true; decide)
        | _ => rfl
      rw [e0] at k
      exact s_retV (ρ := exR) ((ev_andV (b := true) (ev_isi (ev_var rfl) (.int j) rfl) fun h => by cases h)) fun H4 e4 => k H4 (e12.trans (e3.trans e4)).ext
    · have e13 := e12.trans e3
      refine q_when (ρ := exR) (b := true) (et_B (ev_isi (ev_var rfl) (.int j) rfl)) (fun _ H4 e4 => ?_) (fun hb H1 e => by cases hb)
      have e14 := e13.trans e4
      have gf := e14.ds hf
      cases f with
      | int i =>
        cases hf
        exact s_retV (ρ := exR) (ev_andV (ev_isi (ev_var rfl) gf rfl) fun _ => ev_eqI (ev_var rfl) (ev_var rfl)) fun H5 e5 => k H5 (e14.trans e5).ext
      | bool a => exact absurd hb (by show ¬ (false || true) = false; decide)
      | none => exact s_retV (ρ := exR) ((ev_andV (b := true) (ev_isi (ev_var rfl) gf rfl) fun h => by cases h)) fun H5 e5 => k H5 (e14.trans e5).ext
      | str s => exact s_retV (ρ := exR) ((ev_andV (b := true) (ev_isi (ev_var rfl) gf rfl) fun h => by cases h)) fun H5 e5 => k H5 (e14.trans e5).ext
      | list s => exact s_retV (ρ := exR) ((ev_andV (b := true) (ev_isi (ev_var rfl) gf rfl) fun h => by cases h)) fun H5 e5 => k H5 (e14.trans e5).ext
      | tuple s => exact s_retV (ρ := exR) ((ev_andV (b := true) (ev_isi (ev_var rfl) gf rfl) fun h => by cases h)) fun H5 e5 => k H5 (e14.trans e5).ext
      | dict s => cases hf
  | str t =>
    cases hw
    refine q_when (ρ := exR) (b := false) ((et_test (ev_isN (ev_var rfl))).to (decide_eq_false (by intro z; cases z))) (fun hb H1 e => by cases hb) (fun hb H1 e => ?_)
    refine q_when (ρ := exR) (b := false) (et_B (ev_isi (ev_var rfl) (.str t) rfl)) (fun hb H1 e => by cases hb) (fun hb H2 e2 => ?_)
    have e12 := e.trans e2
    refine q_when (ρ := exR) (et_or (et_B (ev_isi (ev_var rfl) (.str t) rfl)) fun _ => et_B (ev_isi (ev_var rfl) (e12.ds hf) rfl)) (fun hb H3 e3 => ?_) (fun hb H3 e3 => ?_)
    · have e0 : soD f (.str t) = false := by
        cases f with
        | str a => exact absurd hb (by show ¬ (false || false) = true; decide)
        | _ => rfl
      rw [e0] at k
      exact s_retV (ρ := exR) ((ev_andV (b := true) (ev_isi (ev_var rfl) (.str t) rfl) fun h => by cases h)) fun H4 e4 => k H4 (e12.trans (e3.trans e4)).ext
    · have e13 := e12.trans e3
      refine q_when (ρ := exR) (b := false) (et_B (ev_isi (ev_var rfl) (.str t) rfl)) (fun hb H1 e => by cases hb) (fun _ H4 e4 => ?_)
      have e14 := e13.trans e4
      have gf := e14.ds hf
      cases hq : isiB f "str" with
      | true =>
        obtain ⟨s, rfl, rfl⟩ := hf.inv_str hq
        exact s_retV (ρ := exR) (ev_andV (ev_isi (ev_var rfl) (.str t) rfl) fun _ => ev_andV (ev_isi (ev_var rfl) gf rfl) fun _ => ev_eqS (ev_var rfl) (ev_var rfl)) fun H5 e5 => k H5 (e14.trans e5).ext
      | false =>
        have e0 : soD f (.str t) = false := by
          cases f with
          | str a => exact absurd hq (by show ¬ true = false; decide)
          | _ => rfl
        rw [e0] at k
        refine s_retV (ρ := exR) ((ev_andV (b := false) (ev_isi (ev_var rfl) (.str t) rfl) fun _ => (ev_andV (b := false) (ev_isi (ev_var rfl) gf rfl) fun h => by rw [hq] at h; cases h).val (by rw [Bool.and_false])).val (x := .bl false) (by rw [Bool.and_false])) fun H5 e5 => k H5 (e14.trans e5).ext
  | tuple ws =>
    have ne : y ≠ V.non := by cases hw; intro z; cases z
    have hz : ws.length ≤ 100000000 ∧ smBs ws = true := by simpa [smB] using (show smB (.tuple ws) = true from hs)
    have hd' : PyData.depthAll ws < n := by
      have : PyData.depthAll ws + 1 < n + 1 := hd
      omega
    refine q_when (ρ := exR) (b := false) ((et_test (ev_isN (ev_var rfl))).to (decide_eq_false ne)) (fun hb H1 e => by cases hb) (fun hb H1 e => ?_)
    refine q_when (ρ := exR) (b := true) (et_B (ev_isi (ev_var rfl) (e.ds hw) rfl)) (fun hb H2 e2 => ?_) (fun hb H1 e => by cases hb)
    have e12 := e.trans e2
    have gf := e12.ds hf
    have gw := e12.ds hw
    obtain ⟨b, ys, rfl, hys, hsy, _⟩ := gw.seqd rfl
    have ly : ys.length = ws.length := hys.length
    cases hq : isiB f "tuple" with
    | false =>
      have e0 : soD f (.tuple ws) = false := by
        cases f with
        | tuple a => exact absurd hq (by show ¬ true = false; decide)
        | _ => rfl
      rw [e0] at k
      refine q_when (ρ := exR) (b := true) ((et_or (b := true) (et_not (et_B (ev_isi (ev_var rfl) gf rfl))) fun h => by rw [hq] at h; cases h).to (by rw [hq]; rfl)) (fun hb H3 e3 => s_retV (ρ := exR) ev_c fun H4 e4 => k H4 (e12.trans (e3.trans e4)).ext) (fun hb H1 e => by cases hb)
    | true =>
      obtain ⟨fs, rfl⟩ : ∃ fs, f = .tuple fs := by
        cases f with
        | tuple a => exact ⟨a, rfl⟩
        | _ => exact absurd hq (by show ¬ false = true; decide)
      obtain ⟨a, xs, rfl, hxs, hsx, _⟩ := gf.seqd rfl
      have lx : xs.length = fs.length := hxs.length
      refine q_when (ρ := exR) (b := !decide (fs.length = ws.length)) ((et_or (b := !decide (fs.length = ws.length)) (et_not (et_B (ev_isi (ev_var rfl) gf rfl))) fun _ => (et_test (ev_neI (ev_len (ev_var rfl) (hsx K)) (ev_len (ev_var rfl) (hsy K)))).to ?_).to (by rw [hq]; rfl)) (fun hb H3 e3 => s_retV (ρ := exR) ev_c fun H4 e4 => ?_) (fun hb H3 e3 => ?_)
      · rw [lx, ly]
        refine congrArg (fun b => !b) ?_
        by_cases z : fs.length = ws.length
        · rw [decide_eq_true z, decide_eq_true (by omega)]
        · rw [decide_eq_false z, decide_eq_false (by omega)]
      · have hne : ¬ fs.length = ws.length := of_decide_eq_false (notb hb)
        have e0 : soD (.tuple fs) (.tuple ws) = false := by
          show soAll fs ws = false
          cases q : soAll fs ws with
          | true => exact absurd (soAll_len q) hne
          | false => rfl
        rw [e0] at k
        exact k H4 (e12.trans (e3.trans e4)).ext
      · have hlen : fs.length = ws.length := of_decide_eq_true (notb' hb)
        have e13 := e12.trans e3
        have sy3 : ∀ H4, exR.r H3 H4 → SqA K H4 b ys := fun H4 e4 => hsy K H4 (e3.trans e4)
        have sx3 : ∀ H4, exR.r H3 H4 → SqA K H4 a xs := fun H4 e4 => hsx K H4 (e3.trans e4)
        have dx3 : DSs exR H3 xs fs := e3.dss hxs
        have dy3 : DSs exR H3 ys ws := e3.dss hys
        refine q_for (ρ := exR) (n := ys.length) (ei_rng (ea_cons (ev_len (ev_var rfl) sy3) ea_nil) (by omega) (by omega)) fun H4 e4 => ⟨fun i σ' H' => exR.r H4 H' ∧ (∃ kv, σ' = [some (.ref a), some (.ref b), kv]) ∧ ∀ (j : Nat) f w, j < i → fs[j]? = some f → ws[j]? = some w → soD f w = true, ⟨.rfl, ⟨_, rfl⟩, fun j _ _ h => absurd h (Nat.not_lt_zero j)⟩, fun i σ' H' _ p => p.1, ?_, ?_⟩
        · rintro i v σ' H' H'' hi ⟨r, ⟨kv, rfl⟩, hall⟩ ⟨e5, rfl⟩
          subst e5
          have e35 : exR.r H3 H'' := e4.trans r
          have gx : xs[i]? = some xs[i] := List.getElem?_eq_getElem (by omega)
          have gy : ys[i]? = some ys[i] := List.getElem?_eq_getElem hi
          obtain ⟨f1, f2, f3⟩ := dx3.get gx
          obtain ⟨w1, w2, w3⟩ := dy3.get gy
          have hm := List.mem_of_getElem? w2
          refine s_if (ρ := exR) (et_not (et_B (ev_so (ev_ix (n := i) (ev_var rfl) (ev_var rfl) (fun H6 e6 => sx3 H6 (e35.trans e6)) rfl gx) (ev_ix (n := i) (ev_var rfl) (ev_var rfl) (fun H6 e6 => sy3 H6 (e35.trans e6)) rfl gy) (e35.ds f3) (e35.ds w3) (smB_mem hz.2 hm) (Nat.lt_of_le_of_lt (depth_mem hm) hd')))) (fun hb H6 e6 => s_retV (ρ := exR) ev_c fun H7 e7 => ?_) (fun hb H6 e6 => ?_)
          · have e0 : soD (.tuple fs) (.tuple ws) = false := soAll_no f2 w2 (notb hb)
            rw [e0] at k
            exact k H7 (e13.trans (e35.trans (e6.trans e7))).ext
          · refine ⟨r.trans e6, ⟨_, rfl⟩, fun j f' w' hj a1 a2 => ?_⟩
            by_cases z : j = i
            · subst z
              rw [f2] at a1
              rw [w2] at a2
              cases a1
              cases a2
              exact notb' hb
            · exact hall j f' w' (by omega) a1 a2
        · rintro σ' H' ⟨r, ⟨kv, rfl⟩, hall⟩
          refine s_retV (ρ := exR) ev_c fun H6 e6 => ?_
          have e0 : soD (.tuple fs) (.tuple ws) = true := soAll_of hlen fun i f' w' a1 a2 => hall i f' w' (by have := (List.getElem?_eq_some_iff.mp a2).1; omega) a1 a2
          rw [e0] at k
          exact k H6 (e13.trans (e4.trans (r.trans e6))).ext
end Slip
/-! the law's own helpers: the numbers of the script; data handed as lists -/
namespace Slip
open PySem PySem.Spec PyProof.Rows L2
/-! ### a walk beside which the body changes more (ρw) than what is walked did (ρ) -/
def EvW (ρ ρw : Rl) (wi : TI) (σ : L2.St) (H : Hp) (n : Nat) (Y : Nat → Hp → V → Hp → Prop) : Prop :=
  ∀ H1, ρ.r H H1 → ∀ R : It → Hp → Prop, (∀ J H2, ρ.r H1 H2 → Walk J n (fun H3 => ρw.r H2 H3) Y → R J H2) → wi σ H1 R
section
variable {ρ ρw : Rl} {K : Frag} {σ : L2.St} {H H' : Hp} {te : TE} {a : Addr} {xs : List V} {D : Ends} {tz tu : TS} {n : Nat} {i : Int} {wi : TI} {g : TG} {Y : Nat → Hp → V → Hp → Prop}
theorem s_forw (h : EvW ρ ρw wi σ H n Y) (k : ∀ H1, ρ.r H H1 → ∃ Pv : Nat → L2.St → Hp → Prop, Pv 0 σ H1 ∧ (∀ i σ' H', i ≤ n → Pv i σ' H' → ρw.r H1 H') ∧
    (∀ i x σ' H' H'', i < n → Pv i σ' H' → Y i H' x H'' → g x σ' H'' fun σ2 H2 => tu { D with nx := Pv (i + 1), ct := Pv (i + 1), bk := D.nx } σ2 H2) ∧ ∀ σ' H', Pv n σ' H' → D.nx σ' H') : tFor wi g tu D σ H :=
  h H .rfl _ fun J H1 e w => by
    obtain ⟨Pv, h0, hr, hs, hd⟩ := k H1 e
    exact for_it w Pv h0 hr hs hd
theorem q_forw (h : EvW ρ ρw wi σ H n Y) (k : ∀ H1, ρ.r H H1 → ∃ Pv : Nat → L2.St → Hp → Prop, Pv 0 σ H1 ∧ (∀ i σ' H', i ≤ n → Pv i σ' H' → ρw.r H1 H') ∧
    (∀ i x σ' H' H'', i < n → Pv i σ' H' → Y i H' x H'' → g x σ' H'' fun σ2 H2 => tu { D with nx := Pv (i + 1), ct := Pv (i + 1), bk := tz D } σ2 H2) ∧ ∀ σ' H', Pv n σ' H' → tz D σ' H') : tSeq (tFor wi g tu) tz D σ H :=
  s_forw (D := { D with nx := tz D }) h k
theorem ew_new (own : Own ρw H) (h : Ev ρ te σ H (fun v H2 => ∃ p, v = .ref p ∧ ¬ ρ.S p ∧ H p = none ∧ H2 p = some (.lst xs))) : EvW ρ ρw (iSeq K te) σ H xs.length (YAt xs) := fun H1 e1 R k =>
  .inl (h H1 e1 _ fun v H2 e2 ⟨p, ev, nS, h0, hp⟩ => ⟨p, ev, ⟨xs, .of hp⟩, k _ H2 e2 (walk_list.mono (fun H3 e3 => .of (e3.keep _ _ (own.fresh h0) hp)) fun _ _ _ _ _ _ y => y)⟩)
theorem ew_rng {ts : TA} (h : EvAV ρ ts σ H [.int i]) (lo : -100000 ≤ i) (hi : i ≤ 100000000) : EvW ρ ρw (iRng1 ts) σ H i.toNat (YFn fun m => .int ((m : Nat) : Int)) := fun H1 e1 R k =>
  h H1 e1 _ fun v H2 e2 hv => ⟨i, hv, by omega, by omega, k _ H2 e2 (walk_range.mono (fun _ _ => trivial) fun m H3 x H4 _ _ y => ⟨y.1, by rw [y.2]; exact congrArg V.int (Int.zero_add _)⟩)⟩
theorem ev_slL2 {tl th : TO} {lo hi : Option Int} (own : Own ρ H) (h : EvV ρ te σ H (.ref a)) (h1 : EvO ρ tl σ H lo) (h2 : EvO ρ th σ H hi) (hs : ∀ H1, ρ.r H H1 → SqL K H1 a xs) : Ev ρ (tSl (rSlU K) te tl th) σ H (fun v H2 => ∃ p, v = .ref p ∧ ¬ ρ.S p ∧ H p = none ∧ H2 p = some (.lst (cutV xs lo hi))) := fun H0 e Q q =>
  h H0 e _ fun v H2 e2 ev => by
    subst ev
    refine h1 H2 (e.trans e2) _ fun H3 e3 => h2 H3 ((e.trans e2).trans e3) _ fun H4 e4 => ?_
    have e04 := ((e.trans e2).trans e3).trans e4
    exact .inl ⟨a, xs, rfl, hs H4 e04, fun p hp => q _ _ (((e2.trans e3).trans e4).trans (r_new _ hp)) ⟨p, rfl, (own.r e04).fresh hp, e04.back p hp, upd_same⟩⟩
end
def sp__law_numbers (K : Frag) : Sp := fun vs H Q _ => ∃ (a : Addr) (ns : List Int), vs = [.ref a] ∧ SqL K H a (ns.map V.int) ∧ ns.length ≤ 63 ∧ ∀ p (ms : List Int) H', H p = none → Ext H H' → H' p = some (.lst (ms.map V.int)) → ms ≠ [] → Q (.ref p) H'
theorem len__law_numbers {K : Frag} {vs : List V} {H : Hp} {Q : VK} {E : XK} (h : sp__law_numbers K vs H Q E) : vs.length = 1 := by
  obtain ⟨a, ns, rfl, _⟩ := h
  rfl
theorem cut_int {ns : List Int} {lo hi : Option Int} {i : Nat} {x : V} (h : (cutV (ns.map V.int) lo hi)[i]? = some x) : ∃ n, x = .int n := by
  have hm : x ∈ ns.map V.int := List.mem_of_mem_drop (List.mem_of_mem_take (List.mem_of_getElem? h))
  obtain ⟨n, _, e⟩ := List.mem_map.mp hm
  exact ⟨n, e.symm⟩
theorem map_snoc (ms : List Int) (n : Int) : ms.map V.int ++ [V.int n] = (ms ++ [n]).map V.int := by rw [List.map_append] <;> rfl
def t__law_numbers (K : Frag) : TS := (tSeq (tAsg (tLst tNil) (gName 1)) (tSeq (tFor (iSeq K (tSl (rSlU K) (tVar 0) tNoPart (tPart (tC (.int 63))))) (gName 2) (tIfS (tTest (tOp (rCmp K gGe) (tVar 2) (tOp rPowI (tC (.int 10)) (tC (.int 18))))) (tSeq (tAsg (tVar 2) (gName 3)) (tFor (iRng1 (tCons (tC (.int 60)) tNil)) (gName 4) (tSeq (tIfS (tTest (tOp (rEqU K) (tVar 3) (tC (.int 0)))) tBreak tNext) (tSeq (tDrop (tBM K "list" rAppend (tVar 1) (tCons (tOp rModI (tCB rIntOf (tCons (tVar 3) tNil)) (tC (.int 997))) tNil))) (tAsg (tOp rFdivI (tVar 3) (tC (.int 997))) (gName 3)))))) (tFor (iRng1 (tCons (tC (.int 4)) tNil)) (gName 4) (tSeq (tAsg (tOp rModI (tCB rIntOf (tCons (tOp (rAddU K) (tOp (rAddU K) (tOp rMulI (tVar 2) (tC (.int 48271))) (tOp rMulI (tVar 4) (tC (.int 69621)))) (tC (.int 11))) tNil)) (tC (.int 2147483647))) (gName 5)) (tDrop (tBM K "list" rAppend (tVar 1) (tCons (tOp rModI (tCB rIntOf (tCons (tOp (rAddU K) (tOp rMulI (tVar 5) (tC (.int 16807))) (tVar 4)) tNil)) (tC (.int 2147483629))) tNil))))))) (tSeq (tIfS (tTest (tOp (rEqU K) (tCB (rLenU K) (tCons (tVar 1) tNil)) (tC (.int 0)))) (tDrop (tBM K "list" rAppend (tVar 1) (tCons (tC (.int 0)) tNil))) tNext) (tRet (tVar 1)))))
theorem pure__law_numbers {K : Frag} (vs : List V) (H : Hp) (Q : VK) (E : XK) (h : sp__law_numbers K vs H Q E) : t__law_numbers K { nx := fun _ H' => Q .non H', rt := Q } (start ["script", "row", "cell", "left", "k", "mixed"] vs) H := by
  obtain ⟨a, ns, rfl, hq, hl, q⟩ := h
  refine q_asg (ρ := exR) (ev_lst ea_nil fun vs H1 _ e => by rw [e]; show 0 ≤ 100000; decide) fun v H1 e1 ⟨p, vs, H0, ev, evs, hp, r0, eH⟩ => ?_
  subst ev evs
  have hp0 : H p = none := r0.back p hp
  have hp1 : H1 p = some (.lst (([] : List Int).map V.int)) := by rw [eH]; exact upd_same
  have sq1 : ∀ H2, exR.r H1 H2 → SqL K H2 a (ns.map V.int) := fun H2 e2 => ext_sqL (e1.trans e2).ext hq
  have own1 : Own (exR.and p) H1 := own_ex.and (ρ := exR) (H := H) e1 (by rw [hp1]; exact Option.some_ne_none _)
  have hcut : (cutV (ns.map V.int) none (some 63)).length ≤ 63 := Nat.le_trans (cutV_length _ _ _) (by rw [List.length_map]; exact hl)
  have chg : ∀ {H2 H3 : Hp} {ms : List Int} {n : Int}, (exR.and p).r H2 H3 → H3 p = some (.lst (ms.map V.int)) → (exR.and p).r H2 (upd H3 p (.lst (ms.map V.int ++ [V.int n]))) := fun e h => e.trans (r_chg (ρ := exR) h fun z => z)
  refine q_forw (ρ := exR) (ρw := exR.and p) (ew_new own1 (ev_slL2 own_ex (ev_var rfl) eo_none (eo_some ev_c) sq1)) fun H2 e2 => ⟨fun i σ' H' => (exR.and p).r H2 H' ∧ (∃ c l k m, σ' = [some (.ref a), some (.ref p), c, l, k, m]) ∧ ∃ ms : List Int, ms.length ≤ 60 * i ∧ H' p = some (.lst (ms.map V.int)), ⟨.rfl, ⟨_, _, _, _, rfl⟩, [], Nat.zero_le _, e2.ext _ _ hp1⟩, fun i σ' H' _ h => h.1, ?_, ?_⟩
  · rintro i x σ' H' H'' hi ⟨r, ⟨c, l, k, m, rfl⟩, ms, hms, hp'⟩ ⟨e5, hx⟩
    subst e5
    obtain ⟨n, rfl⟩ := cut_int hx
    refine s_if (ρ := exR) (et_test (ev_ge (ev_var rfl) (ev_pow ev_c ev_c ⟨by decide, by decide, by decide⟩))) (fun hb H3 e3 => ?_) (fun hb H3 e3 => ?_)
    · refine q_asgV (ρ := exR) (ev_var rfl) fun H4 e4 => ?_
      have r4 : (exR.and p).r H2 H4 := r.trans (and_of (e3.trans e4))
      have hp4 : H4 p = some (.lst (ms.map V.int)) := (e3.trans e4).ext _ _ hp'
      refine s_forw (ρ := exR) (ρw := exR.and p) (ew_rng (i := 60) (ea_cons ev_c ea_nil) (by omega) (by omega)) fun H5 e5 => ⟨fun j σ' H' => (exR.and p).r H5 H' ∧ (∃ c l k m, σ' = [some (.ref a), some (.ref p), c, some (.int l), k, m]) ∧ ∃ ms : List Int, ms.length ≤ 60 * i + j ∧ H' p = some (.lst (ms.map V.int)), ⟨.rfl, ⟨_, _, _, _, rfl⟩, ms, hms, e5.ext _ _ hp4⟩, fun i σ' H' _ h => h.1, ?_, ?_⟩
      · rintro j x σ' H' H'' hj ⟨r5, ⟨c, l, k, m, rfl⟩, ms, hms, hp'⟩ ⟨e6, rfl⟩
        subst e6
        have hj' : j < 60 := hj
        have r25 : (exR.and p).r H2 H'' := r4.trans ((and_of e5).trans r5)
        refine q_when (ρ := exR) (et_test (ev_eqI (ev_var rfl) ev_c)) (fun hb H6 e6 => ?_) (fun hb H6 e6 => ?_)
        · exact ⟨r25.trans (and_of e6), ⟨_, _, _, _, rfl⟩, ms, by omega, e6.ext _ _ hp'⟩
        · refine q_app (ρ := exR) (e6.ext _ _ hp') (fun z => z) (ev_var rfl) (ev_mod (ev_int (ev_var rfl)) ev_c (by decide)) (by rw [List.length_map]; omega) fun y H7 e7 ey hp7 => ?_
          subst ey
          have r7 := chg (n := l % 997) (r5.trans (and_of (e6.trans e7))) hp7
          refine s_asgV (ρ := exR) (ev_fdiv (ev_var rfl) ev_c ⟨by decide, by decide⟩) fun H8 e8 => ?_
          refine ⟨r7.trans (and_of e8), ⟨_, _, _, _, rfl⟩, ms ++ [l % 997], by rw [List.length_append, List.length_singleton]; omega, e8.ext _ _ ?_⟩
          rw [← map_snoc]
          exact upd_same
      · rintro σ' H' ⟨r5, ⟨c, l, k, m, rfl⟩, ms, hms, hp'⟩
        exact ⟨r4.trans ((and_of e5).trans r5), ⟨_, _, _, _, rfl⟩, ms, by have : ms.length ≤ 60 * i + 60 := hms; omega, hp'⟩
    · have r4 : (exR.and p).r H2 H3 := r.trans (and_of e3)
      have hp4 : H3 p = some (.lst (ms.map V.int)) := e3.ext _ _ hp'
      refine s_forw (ρ := exR) (ρw := exR.and p) (ew_rng (i := 4) (ea_cons ev_c ea_nil) (by omega) (by omega)) fun H5 e5 => ⟨fun j σ' H' => (exR.and p).r H5 H' ∧ (∃ l k m, σ' = [some (.ref a), some (.ref p), some (.int n), l, k, m]) ∧ ∃ ms : List Int, ms.length ≤ 60 * i + j ∧ H' p = some (.lst (ms.map V.int)), ⟨.rfl, ⟨_, _, _, rfl⟩, ms, hms, e5.ext _ _ hp4⟩, fun i σ' H' _ h => h.1, ?_, ?_⟩
      · rintro j x σ' H' H'' hj ⟨r5, ⟨l, k, m, rfl⟩, ms, hms, hp'⟩ ⟨e6, rfl⟩
        subst e6
        have hj' : j < 4 := hj
        refine q_asgV (ρ := exR) (ev_mod (ev_int (ev_add (ev_add (ev_mul (ev_var rfl) ev_c (.inr (by decide))) (ev_mul (ev_var rfl) ev_c (.inr (by decide)))) ev_c)) ev_c (by decide)) fun H6 e6 => ?_
        refine s_app (ρ := exR) (e6.ext _ _ hp') (fun z => z) (ev_var rfl) (ev_mod (ev_int (ev_add (ev_mul (ev_var rfl) ev_c (.inr (by decide))) (ev_var rfl))) ev_c (by decide)) (by rw [List.length_map]; omega) fun y H7 e7 ey hp7 => ?_
        subst ey
        refine ⟨chg (r5.trans (and_of (e6.trans e7))) hp7, ⟨_, _, _, rfl⟩, ms ++ [((n * 48271 + (j : Int) * 69621 + 11) % 2147483647 * 16807 + (j : Int)) % 2147483629], ?_, ?_⟩
        · rw [List.length_append, List.length_singleton]; omega
        · rw [← map_snoc]
          exact upd_same
      · rintro σ' H' ⟨r5, ⟨l, k, m, rfl⟩, ms, hms, hp'⟩
        exact ⟨r4.trans ((and_of e5).trans r5), ⟨_, _, _, _, rfl⟩, ms, by have : ms.length ≤ 60 * i + 4 := hms; omega, hp'⟩
  · rintro σ' H' ⟨r, ⟨c, l, k, m, rfl⟩, ms, hms, hp'⟩
    have rH : exR.r H H' := (e1.trans e2).trans .rfl |> fun e => r_and e hp0 r
    refine q_when (ρ := exR) (et_test (ev_eqI (ev_len (ev_var rfl) (fun H3 e3 => .inl (.of (e3.ext _ _ hp')))) ev_c)) (fun hb H3 e3 => ?_) (fun hb H3 e3 => ?_)
    · refine s_app (ρ := exR) (e3.ext _ _ hp') (fun z => z) (ev_var rfl) ev_c (by rw [List.length_map]; omega) fun y H4 e4 ey hp4 => ?_
      subst ey
      refine s_retV (ρ := exR) (ev_var rfl) fun H5 e5 => ?_
      refine q p (ms ++ [0]) H5 hp0 ((r_mut (rH.trans (e3.trans e4)) hp0).trans e5).ext (e5.ext _ _ ?_) (by simp)
      rw [← map_snoc]
      exact upd_same
    · refine s_retV (ρ := exR) (ev_var rfl) fun H5 e5 => q p ms H5 hp0 (rH.trans (e3.trans e5)).ext ((e3.trans e5).ext _ _ hp') ?_
      intro z
      have := of_decide_eq_false hb
      rw [z] at this
      exact this rfl
end Slip
/-! data handed as lists, as tuples, as both; drawn texts -/
namespace Slip
open PySem PySem.Spec PyProof.Rows L2
/-- a list of data, each known by its place (P); the facts stand under ρf, which lets more change than the elements do -/
theorem ev_lcF {ρ ρf : Rl} {σ : L2.St} {H : Hp} {te : TE} {wi : TI} {vs : List Nat} {n : Nat} {Y : Nat → Hp → V → Hp → Prop} {j : Nat} {P : Nat → PyData → Prop} (own : Own ρ H) (hn : n ≤ 90000) (hI : EvI ρ wi σ H n Y) (hw : ∀ x, wipe ((wipe σ vs).set j (some x)) vs = wipe σ vs)
    (hY : ∀ i H2 x H3, Y i H2 x H3 → H3 = H2)
    (he : ∀ D H1, ρ.r H H1 → H1 D = none → ∀ i x H2 H3, i < n → ρ.r H1 H2 → H2 D ≠ none → Y i H2 x H3 → Ev ρ te ((wipe σ vs).set j (some x)) H2 (fun y H4 => ∃ d, P i d ∧ DS (ρf.and D) H4 y d))
    (le : Le ρ ρf) :
    Ev ρ (tLc wi (gName j) tYes te vs) σ H (fun u H2 => ∃ p xs ds, u = .ref p ∧ ¬ ρ.S p ∧ H p = none ∧ H2 p = some (.lst xs) ∧ DSs ρf H2 xs ds ∧ ds.length = n ∧ ∀ (i : Nat) d, ds[i]? = some d → P i d) := by
  refine (ev_lc (R := fun ρ' i x H' => ∃ d, P i d ∧ Dq (fun a => ¬ ρf.S a ∧ ¬ ρ'.S a) H' x d) (C := fun _ b => b = true) own hn hI (fun ρ' _ _ H1 H2 r ⟨d, hp, h⟩ => ⟨d, hp, h.move (fun a _ n q => ⟨n, r.keep a _ n.2 q⟩) r.tup⟩) (fun D _ _ _ ⟨d, hp, h⟩ => ⟨d, hp, h.move (fun a _ n q => ⟨⟨n.1, fun z => n.2 (.inl z)⟩, q⟩) fun _ _ q => q⟩) ?_).imp ?_
  · intro D H1 r1 hD i x H2 H3 hi r2 oD y cont hc
    have e3 := hY i H2 x H3 y
    refine hc _ H3 (hw x) (by rw [e3]; exact .rfl) fun H5 r5 Q q => q true H5 .rfl rfl fun _ => ?_
    refine ((he D H1 r1 hD i x H2 H3 hi r2 (oD D (.inr rfl)) y).mono (by rw [← e3]; exact r5)).imp fun v H6 _ ⟨d, hp, h⟩ => ⟨d, hp, h.move (fun a _ n q => ⟨⟨fun z => n (.inl z), fun z => z.elim (fun z => n (.inl (le a z))) fun z => n (.inr z)⟩, q⟩) fun _ _ q => q⟩
  · rintro u H2 r ⟨p, xs, f, e, nS, hp, hx, hC, hit⟩
    rw [kept_all hC] at hit
    have hlen : xs.length = n := by rw [hit.1, List.length_range]
    -- the data, chosen place by place
    have ch : ∀ m, ∃ d, ∀ x, xs[m]? = some x → P m d ∧ DS ρf H2 x d := fun m => by
      cases a : xs[m]? with
      | none => exact ⟨.none, fun x z => by cases z⟩
      | some x =>
        have hm : m < n := by rw [← hlen]; exact (List.getElem?_eq_some_iff.mp a).1
        obtain ⟨d, hp, h⟩ := hit.2 m x m a (List.getElem?_range hm)
        exact ⟨d, fun y z => by cases z; exact ⟨hp, h.move (fun a _ n q => ⟨n.1, q⟩) fun _ _ q => q⟩⟩
    refine ⟨p, xs, (List.range n).map fun m => (ch m).choose, e, nS, hp, hx, .of (by rw [hlen, List.length_map, List.length_range]) fun m x d a b => ?_, by rw [List.length_map, List.length_range], fun i d b => ?_⟩
    · have hm : m < n := by rw [← hlen]; exact (List.getElem?_eq_some_iff.mp a).1
      rw [List.getElem?_map, List.getElem?_range hm] at b
      cases b
      exact ((ch m).choose_spec x a).2
    · have hi : i < n := by
        have := (List.getElem?_eq_some_iff.mp b).1
        rwa [List.length_map, List.length_range] at this
      rw [List.getElem?_map, List.getElem?_range hi] at b
      cases b
      have hx' : xs[i]? = some (xs[i]'(by omega)) := List.getElem?_eq_getElem (by omega)
      exact ((ch i).choose_spec _ hx').1
/- tuples as lists; all as tuples -/
mutual
def listD : PyData → PyData
  | .tuple ds => .list (listAll ds)
  | .none => .none
  | .bool b => .bool b
  | .int i => .int i
  | .str s => .str s
  | .list ds => .list ds
  | .dict k => .dict k
def listAll : List PyData → List PyData
  | [] => []
  | d :: ds => listD d :: listAll ds
end
mutual
def tupD : PyData → PyData
  | .tuple ds => .tuple (tupAll ds)
  | .list ds => .tuple (tupAll ds)
  | .none => .none
  | .bool b => .bool b
  | .int i => .int i
  | .str s => .str s
  | .dict k => .dict k
def tupAll : List PyData → List PyData
  | [] => []
  | d :: ds => tupD d :: tupAll ds
end
theorem listAll_map : ∀ ds : List PyData, listAll ds = ds.map listD
  | [] => rfl
  | d :: ds => by show listD d :: listAll ds = listD d :: ds.map listD; rw [listAll_map ds]
theorem tupAll_map : ∀ ds : List PyData, tupAll ds = ds.map tupD
  | [] => rfl
  | d :: ds => by show tupD d :: tupAll ds = tupD d :: ds.map tupD; rw [tupAll_map ds]
mutual
theorem noList_tup : ∀ d : PyData, noList (tupD d) = true
  | .tuple ds => noLists_tup ds
  | .list ds => noLists_tup ds
  | .none => rfl
  | .bool b => rfl
  | .int i => rfl
  | .str s => rfl
  | .dict k => rfl
theorem noLists_tup : ∀ ds : List PyData, noLists (tupAll ds) = true
  | [] => rfl
  | d :: ds => by
    show (noList (tupD d) && noLists (tupAll ds)) = true
    rw [noList_tup d, noLists_tup ds]
    rfl
end
mutual
theorem tup_self : ∀ d : PyData, noList d = true → tupD d = d
  | .tuple ds, h => congrArg PyData.tuple (tups_self ds (by simpa [noList] using h))
  | .list ds, h => by cases h
  | .none, _ => rfl
  | .bool b, _ => rfl
  | .int i, _ => rfl
  | .str s, _ => rfl
  | .dict k, _ => rfl
theorem tups_self : ∀ ds : List PyData, noLists ds = true → tupAll ds = ds
  | [], _ => rfl
  | d :: ds, h => by
    have h' : noList d = true ∧ noLists ds = true := by simpa [noLists] using h
    show tupD d :: tupAll ds = d :: ds
    rw [tup_self d h'.1, tups_self ds h'.2]
end
mutual
theorem tup_list : ∀ d : PyData, noList d = true → tupD (listD d) = d
  | .tuple ds, h => congrArg PyData.tuple (tups_list ds (by simpa [noList] using h))
  | .list ds, h => by cases h
  | .none, _ => rfl
  | .bool b, _ => rfl
  | .int i, _ => rfl
  | .str s, _ => rfl
  | .dict k, _ => rfl
theorem tups_list : ∀ ds : List PyData, noLists ds = true → tupAll (listAll ds) = ds
  | [], _ => rfl
  | d :: ds, h => by
    have h' : noList d = true ∧ noLists ds = true := by simpa [noLists] using h
    show tupD (listD d) :: tupAll (listAll ds) = d :: ds
    rw [tup_list d h'.1, tups_list ds h'.2]
end
mutual
theorem sm_tup : ∀ d : PyData, sm (tupD d) = sm d
  | .tuple ds => by
    have := sms_tup ds
    show (decide ((tupAll ds).length ≤ 1000) && smAll (tupAll ds)) = (decide (ds.length ≤ 1000) && smAll ds)
    rw [this, tupAll_map, List.length_map]
  | .list ds => by
    have := sms_tup ds
    show (decide ((tupAll ds).length ≤ 1000) && smAll (tupAll ds)) = (decide (ds.length ≤ 1000) && smAll ds)
    rw [this, tupAll_map, List.length_map]
  | .none => rfl
  | .bool b => rfl
  | .int i => rfl
  | .str s => rfl
  | .dict k => rfl
theorem sms_tup : ∀ ds : List PyData, smAll (tupAll ds) = smAll ds
  | [] => rfl
  | d :: ds => by
    show (sm (tupD d) && smAll (tupAll ds)) = (sm d && smAll ds)
    rw [sm_tup d, sms_tup ds]
end
mutual
theorem dep_tup : ∀ d : PyData, (tupD d).depth = d.depth
  | .tuple ds => congrArg Nat.succ (deps_tup ds)
  | .list ds => congrArg Nat.succ (deps_tup ds)
  | .none => rfl
  | .bool b => rfl
  | .int i => rfl
  | .str s => rfl
  | .dict k => rfl
theorem deps_tup : ∀ ds : List PyData, PyData.depthAll (tupAll ds) = PyData.depthAll ds
  | [] => rfl
  | d :: ds => by
    show max (tupD d).depth (PyData.depthAll (tupAll ds)) = max d.depth (PyData.depthAll ds)
    rw [dep_tup d, deps_tup ds]
end
theorem of_places {α β : Type} {ds : List α} {es : List β} {f : α → β} (hl : es.length = ds.length) (h : ∀ (i : Nat) e, es[i]? = some e → ∃ d, ds[i]? = some d ∧ e = f d) : es = ds.map f := by
  refine List.ext_getElem? fun i => ?_
  rw [List.getElem?_map]
  cases a : es[i]? with
  | none => rw [List.getElem?_eq_none_iff.mpr (by rw [← hl]; exact List.getElem?_eq_none_iff.mp a)] <;> rfl
  | some e =>
    obtain ⟨d, h1, h2⟩ := h i e a
    rw [h1, h2] <;> rfl
def sp__law_listed (K : Frag) (n : Nat) : Sp := fun vs H Q _ => ∃ (ρ : Rl) (v : V) (d : PyData), vs = [v] ∧ Own ρ H ∧ DS ρ H v d ∧ sm d = true ∧ d.depth < n ∧ ∀ v' H', Ext H H' → DS ρ H' v' (listD d) → Q v' H'
def sp__law_tupled (K : Frag) (n : Nat) : Sp := fun vs H Q _ => ∃ (v : V) (d : PyData), vs = [v] ∧ DS exR H v d ∧ sm d = true ∧ d.depth < n ∧ ∀ v' H', Ext H H' → (∀ ρ, DS ρ H' v' (tupD d)) → Q v' H'
theorem len__law_listed {K : Frag} {n : Nat} {vs : List V} {H : Hp} {Q : VK} {E : XK} (h : sp__law_listed K n vs H Q E) : vs.length = 1 := by
  obtain ⟨ρ, v, d, rfl, _⟩ := h
  rfl
theorem len__law_tupled {K : Frag} {n : Nat} {vs : List V} {H : Hp} {Q : VK} {E : XK} (h : sp__law_tupled K n vs H Q E) : vs.length = 1 := by
  obtain ⟨v, d, rfl, _⟩ := h
  rfl
theorem isi_tup {d : PyData} (h : isiB d "tuple" = true) : ∃ ds, d = .tuple ds := by
  cases d with
  | tuple a => exact ⟨a, rfl⟩
  | none => exact absurd h (by show ¬ false = true; decide)
  | bool b => exact absurd h (by show ¬ false = true; decide)
  | int b => exact absurd h (by show ¬ false = true; decide)
  | str b => exact absurd h (by show ¬ false = true; decide)
  | list b => exact absurd h (by show ¬ false = true; decide)
  | dict b => exact absurd h (by show ¬ false = true; decide)
theorem depth_seq {ds : List PyData} {n : Nat} (h : (PyData.tuple ds).depth < n + 1 ∨ (PyData.list ds).depth < n + 1) {d : PyData} (hm : d ∈ ds) : d.depth < n := by
  have h1 : PyData.depthAll ds + 1 < n + 1 := h.elim (fun h => h) fun h => h
  have := depth_mem hm
  omega
theorem DS.tupl {ρ : Rl} {H : Hp} {v : V} {ds : List PyData} (h : DS ρ H v (.tuple ds)) : ∃ a xs, v = .ref a ∧ DSs ρ H xs ds ∧ H a = some (.tup xs) ∧ ∀ (K : Frag) (ρ' : Rl) (H' : Hp), ρ'.r H H' → SqT K H' a xs := by
  cases h with | tup hs ha => exact ⟨_, _, rfl, ha, hs, fun K ρ' H' e => .inl (.inl (e.tup _ _ hs))⟩
def t__law_listed (K : Frag) (n : Nat) : TS := (tSeq (tIfS (tB (tCB (rIsiU K) (tCons (tVar 0) (tCons (tC (.ty "tuple")) tNil)))) (tRet (tLc (iSeq K (tVar 0)) (gName 1) tYes (tCall (sp__law_listed K n) [] E0 (tCons (tVar 1) tNil)) [1])) tNext) (tRet (tVar 0)))
def t__law_tupled (K : Frag) (n : Nat) : TS := (tSeq (tIfS (tOr (tB (tCB (rIsiU K) (tCons (tVar 0) (tCons (tC (.ty "list")) tNil)))) (tB (tCB (rIsiU K) (tCons (tVar 0) (tCons (tC (.ty "tuple")) tNil))))) (tRet (tCB (rTupOf K) (tCons (tLc (iSeq K (tVar 0)) (gName 1) tYes (tCall (sp__law_tupled K n) [] E0 (tCons (tVar 1) tNil)) [1]) tNil))) tNext) (tRet (tVar 0)))
theorem pure__law_listed {K : Frag} {n : Nat} (vs : List V) (H : Hp) (Q : VK) (E : XK) (h : sp__law_listed K (n + 1) vs H Q E) : t__law_listed K n { nx := fun _ H' => Q .non H', rt := Q } (start ["value", "one"] vs) H := by
  obtain ⟨ρ, v, d, rfl, own, hd, hs, dp, k⟩ := h
  have le : Le exR ρ := fun a z => z.elim
  refine q_when (ρ := exR) (et_B (ev_isi (ev_var rfl) hd.ex rfl)) (fun hb H1 e => ?_) (fun hb H1 e => s_retV (ρ := exR) (ev_var rfl) fun H2 e2 => ?_)
  · obtain ⟨ds, rfl⟩ := isi_tup hb
    have hd1 := le.ds e hd
    obtain ⟨a, xs, rfl, ha', _, hsq⟩ := hd1.tupl
    have hz := sm_seq (.inr hs)
    have hlen : xs.length = ds.length := ha'.length
    refine s_ret (ρ := exR) (ev_lcF (ρf := ρ) (P := fun i e => ∃ d, ds[i]? = some d ∧ e = listD d) own_ex (by omega) (ei_seq (ev_var rfl) (fun H2 e2 => .inr (hsq K exR H2 e2)) (.inr (hsq K exR))) (fun x => rfl) (fun i H2 x H3 y => y.1) ?_ le) fun v H2 e2 ⟨p, xs', es, ev, _, hp, hx, hds, hl, hP⟩ => ?_
    · rintro D H2 e2 hD i x H3 H4 hi e3 oD ⟨_, hx⟩
      obtain ⟨d1, g1, g2⟩ := ha'.get hx
      have hm := List.mem_of_getElem? g1
      have own3 : Own (ρ.and D) H3 := fun b s => s.elim (fun s => (own.r (e.trans (e2.trans e3))) b s) fun z => z ▸ oD
      have leD : Le exR (ρ.and D) := fun b z => .inl (le b z)
      have g3 : DS (ρ.and D) H3 x d1 := leD.ds e3 (DS.and hD (le.ds e2 g2))
      refine ev_call (ea_cons (ev_var rfl) ea_nil) fun H5 e5 Q' q' E' => ⟨ρ.and D, x, d1, rfl, own3.r e5, ?_, smAll_mem hz.2 hm, depth_seq (.inl dp) hm, fun v' H6 e6 h6 => q' _ H6 (Ext.r e6) ⟨listD d1, ⟨d1, g1, rfl⟩, h6⟩⟩
      exact leD.ds e5 g3
    · subst ev
      have : es = ds.map listD := of_places (by omega) hP
      refine k _ H2 (e.trans e2).ext (.lst ((own.r e).fresh hp) hx ?_)
      rw [listAll_map, ← this]
      exact hds
  · have : listD d = d := by
      cases d with
      | tuple ds => exact absurd hb (by show ¬ true = false; decide)
      | _ => rfl
    rw [this] at k
    exact k _ H2 (e.trans e2).ext (le.ds (e.trans e2) hd)
theorem seq_of {d : PyData} (h : (isiB d "list" || isiB d "tuple") = true) : isSeqD d = true ∧ tupD d = .tuple (tupAll (itemsD d)) := by
  cases d with
  | tuple a => exact ⟨rfl, rfl⟩
  | list b => exact ⟨rfl, rfl⟩
  | none => exact absurd h (by show ¬ (false || false) = true; decide)
  | bool b => exact absurd h (by show ¬ (false || false) = true; decide)
  | int b => exact absurd h (by show ¬ (false || false) = true; decide)
  | str b => exact absurd h (by show ¬ (false || false) = true; decide)
  | dict b => exact absurd h (by show ¬ (false || false) = true; decide)
/-- tuple(new list) -/
theorem ev_tupOf {ρ ρf : Rl} {K : Frag} {σ : L2.St} {H : Hp} {te : TE} {C : List PyData → Prop} (le : Le ρ ρf) (h : Ev ρ te σ H (fun u H2 => ∃ p xs ds, u = .ref p ∧ ¬ ρ.S p ∧ H2 p = some (.lst xs) ∧ DSs ρf H2 xs ds ∧ C ds)) : Ev ρ (tCB (rTupOf K) (tCons te tNil)) σ H (fun u H2 => ∃ ds, C ds ∧ DS ρf H2 u (.tuple ds)) :=
  ev_cb (ea_one h) fun vs H1 e1 ⟨u, eu, p, xs, ds, ep, nS, hp, hd, hC⟩ => by
    subst eu ep
    exact fun H2 e2 Q q => ⟨p, xs, rfl, .inl ⟨.of (e2.keep _ _ nS hp), fun l hl => q _ _ (r_new _ hl) ⟨ds, hC, .tup upd_same (le.dss (r_new (ρ := ρ) _ hl) (le.dss e2 hd))⟩⟩⟩
theorem pure__law_tupled {K : Frag} {n : Nat} (vs : List V) (H : Hp) (Q : VK) (E : XK) (h : sp__law_tupled K (n + 1) vs H Q E) : t__law_tupled K n { nx := fun _ H' => Q .non H', rt := Q } (start ["value", "one"] vs) H := by
  obtain ⟨v, d, rfl, hd, hs, dp, k⟩ := h
  refine q_when (ρ := exR) (et_or (et_B (ev_isi (ev_var rfl) hd rfl)) fun _ => et_B (ev_isi (ev_var rfl) hd rfl)) (fun hb H1 e => ?_) (fun hb H1 e => s_retV (ρ := exR) (ev_var rfl) fun H2 e2 => ?_)
  · obtain ⟨hq, ht⟩ := seq_of hb
    have hd1 := e.ds hd
    obtain ⟨a, xs, rfl, ha, hsq, hsq2⟩ := hd1.seqd hq
    have hz : (itemsD d).length ≤ 1000 ∧ smAll (itemsD d) = true := by
      cases d with
      | list ds => exact sm_seq (.inl hs)
      | tuple ds => exact sm_seq (.inr hs)
      | _ => cases hq
    have hdp : ∀ x, x ∈ itemsD d → x.depth < n := fun x hx => by
      cases d with
      | list ds => exact depth_seq (.inr dp) hx
      | tuple ds => exact depth_seq (.inl dp) hx
      | _ => cases hq
    have hlen : xs.length = (itemsD d).length := ha.length
    refine s_ret (ρ := exR) (ev_tupOf (ρf := exR) (C := fun es => es = (itemsD d).map tupD) Le.rfl ((ev_lcF (ρf := exR) (P := fun i e => ∃ d', (itemsD d)[i]? = some d' ∧ e = tupD d') own_ex (by omega) (ei_seq (ev_var rfl) (hsq K) (hsq2.imp (fun f => f K) fun f => f K)) (fun x => rfl) (fun i H2 x H3 y => y.1) ?_ Le.rfl).imp fun u H2 e2 ⟨p, xs', es, eu, nS, _, hx, hds, hl, hP⟩ => ⟨p, xs', es, eu, nS, hx, hds, of_places (by omega) hP⟩)) fun v H2 e2 ⟨es, he, hv⟩ => ?_
    · rintro D H2 e2 hD i x H3 H4 hi e3 oD ⟨_, hx⟩
      obtain ⟨d1, g1, g2⟩ := ha.get hx
      have hm := List.mem_of_getElem? g1
      exact ev_call (ea_cons (ev_var rfl) ea_nil) fun H5 e5 Q' q' E' => ⟨x, d1, rfl, (e2.trans (e3.trans e5)).ds g2, smAll_mem hz.2 hm, hdp _ hm, fun v' H6 e6 h6 => q' _ H6 (Ext.r e6) ⟨tupD d1, ⟨d1, g1, rfl⟩, h6 _⟩⟩
    · subst he
      rw [ht, tupAll_map] at k
      refine k v H2 (e.trans e2).ext fun ρ => ?_
      exact hv.tups (fun _ _ q => q) _ _ (by rw [← tupAll_map]; exact noLists_tup _)
  · have hnl : tupD d = d ∧ noList d = true := by
      cases d with
      | tuple ds => exact absurd hb (by show ¬ (false || true) = false; decide)
      | list ds => exact absurd hb (by show ¬ (true || false) = false; decide)
      | _ => exact ⟨rfl, rfl⟩
    rw [hnl.1] at k
    exact k v H2 (e.trans e2).ext fun ρ => ((e.trans e2).ds hd).tups (fun _ _ q => q) _ _ hnl.2
/-! ### levels, handed -/
/-- some levels are lists, the rest tuples -/
abbrev Mixed (d d' : PyData) : Prop := tupD d' = d
def sp__law_levels (K : Frag) (n : Nat) : Sp := fun vs H Q _ => ∃ (ρ : Rl) (ra sp : Addr) (v : V) (d : PyData), vs = [.ref ra, .ref sp, v] ∧ ρ.S sp ∧ Own ρ H ∧ Dr K ra sp H ∧ DS ρ H v d ∧ noList d = true ∧ sm d = true ∧ d.depth < n ∧ ∀ v' d' H', (spR sp).r H H' → DS ρ H' v' d' → Mixed d d' → Q v' H'
def sp__law_handed (K : Frag) : Sp := fun vs H Q _ => ∃ (ρ : Rl) (ra sp : Addr) (v : V) (d : PyData), vs = [.ref ra, .ref sp, v] ∧ ρ.S sp ∧ Own ρ H ∧ Dr K ra sp H ∧ DS ρ H v d ∧ noList d = true ∧ sm d = true ∧ d.depth < 8 ∧ ∀ v' d' H', (spR sp).r H H' → DS ρ H' v' d' → Mixed d d' → Q v' H'
theorem len__law_levels {K : Frag} {n : Nat} {vs : List V} {H : Hp} {Q : VK} {E : XK} (h : sp__law_levels K n vs H Q E) : vs.length = 3 := by
  obtain ⟨ρ, ra, sp, v, d, rfl, _⟩ := h
  rfl
theorem len__law_handed {K : Frag} {vs : List V} {H : Hp} {Q : VK} {E : XK} (h : sp__law_handed K vs H Q E) : vs.length = 3 := by
  obtain ⟨ρ, ra, sp, v, d, rfl, _⟩ := h
  rfl
theorem own_sp {K : Frag} {ra sp : Addr} {H : Hp} (d : Dr K ra sp H) : Own (spR sp) H := fun a e => by
  obtain ⟨k, _, h⟩ := d.2.1
  rw [show a = sp from e, h]
  exact Option.some_ne_none _
def t__law_levels (K : Frag) (n : Nat) : TS := (tSeq (tIfS (tNot (tB (tCB (rIsiU K) (tCons (tVar 2) (tCons (tC (.ty "tuple")) tNil))))) (tRet (tVar 2)) tNext) (tSeq (tAsg (tLc (iSeq K (tVar 2)) (gName 4) tYes (tCall (sp__law_levels K n) [] E0 (tCons (tVar 0) (tCons (tVar 1) (tCons (tVar 4) tNil)))) [4]) (gName 3)) (tRet (tIf (tTest (tOp (rEqU K) (tCall (sp__law_take K) [] E0 (tCons (tVar 0) (tCons (tVar 1) (tCons (tC (.int 2)) tNil)))) (tC (.int 0)))) (tVar 3) (tCB (rTupOf K) (tCons (tVar 3) tNil))))))
def t__law_handed (K : Frag) : TS := (tSeq (tAsg (tCall (sp__law_take K) [] E0 (tCons (tVar 0) (tCons (tVar 1) (tCons (tC (.int 4)) tNil)))) (gName 3)) (tSeq (tIfS (tTest (tOp (rEqU K) (tVar 3) (tC (.int 0)))) (tRet (tCall (sp__law_listed K 8) [] E0 (tCons (tVar 2) tNil))) tNext) (tRet (tIf (tTest (tOp (rEqU K) (tVar 3) (tC (.int 1)))) (tCall (sp__law_levels K 9) [] E0 (tCons (tVar 0) (tCons (tVar 1) (tCons (tVar 2) tNil)))) (tVar 2)))))
theorem pure__law_levels {K : Frag} {n : Nat} (vs : List V) (H : Hp) (Q : VK) (E : XK) (h : sp__law_levels K (n + 1) vs H Q E) : t__law_levels K n { nx := fun _ H' => Q .non H', rt := Q } (start ["row", "spot", "value", "made", "one"] vs) H := by
  obtain ⟨ρ, ra, sp, v, d, rfl, hsp, own, dr, hd, hnl, hs, dp, k⟩ := h
  have le : Le (spR sp) ρ := fun a z => z ▸ hsp
  refine q_when (ρ := exR) (et_not (et_B (ev_isi (ev_var rfl) hd.ex rfl))) (fun hb H1 e => s_retV (ρ := exR) (ev_var rfl) fun H2 e2 => ?_) (fun hb H1 e => ?_)
  · exact k v d H2 (Ext.r (e.trans e2).ext) ((Ext.r (ρ := ρ) (e.trans e2).ext).ds hd) (tup_self d hnl)
  · obtain ⟨ds, rfl⟩ := isi_tup (notb' hb)
    have hd1 : DS ρ H1 v (.tuple ds) := (Ext.r (ρ := ρ) e.ext).ds hd
    have e1 : (spR sp).r H H1 := Ext.r e.ext
    have dr1 := dr.sp e1
    have own1 := own.r e
    obtain ⟨a, xs, rfl, ha, _, hsq⟩ := hd1.tupl
    have hz := sm_seq (.inr hs)
    have hn : noLists ds = true := by simpa [noList] using hnl
    have hlen : xs.length = ds.length := ha.length
    have hmem : ∀ {ds : List PyData} {d : PyData}, noLists ds = true → d ∈ ds → noList d = true := by
      intro ds
      induction ds with
      | nil => intro d _ h; cases h
      | cons e r ih =>
        intro d h hm
        have h' : noList e = true ∧ noLists r = true := by simpa [noLists] using h
        rcases List.mem_cons.mp hm with rfl | hm
        · exact h'.1
        · exact ih h'.2 hm
    refine q_asg (ρ := spR sp) (ev_lcF (ρf := ρ) (P := fun i e => ∃ d, ds[i]? = some d ∧ d = tupD e) (own_sp dr1) (by omega) (ei_seq (ev_var rfl) (fun H2 e2 => .inr (hsq K (spR sp) H2 e2)) (.inr (hsq K (spR sp)))) (fun x => rfl) (fun i H2 x H3 y => y.1) ?_ le) fun v H2 e2 ⟨p, xs', es, ev, nS, hp, hx, hds, hl, hP⟩ => ?_
    · rintro D H2 e2 hD i x H3 H4 hi e3 oD ⟨_, hx⟩
      obtain ⟨d1, g1, g2⟩ := ha.get hx
      have hm := List.mem_of_getElem? g1
      have own3 : Own (ρ.and D) H3 := fun b s => s.elim (fun s => (own1.r (e2.trans e3)) b s) fun z => z ▸ oD
      have leD : Le (spR sp) (ρ.and D) := fun b z => .inl (le b z)
      have g3 : DS (ρ.and D) H3 x d1 := leD.ds e3 (DS.and hD (le.ds e2 g2))
      refine ev_call (ea_cons (ev_var rfl) (ea_cons (ev_var rfl) (ea_cons (ev_var rfl) ea_nil))) fun H5 e5 Q' q' E' => ⟨ρ.and D, ra, sp, x, d1, rfl, .inl hsp, own3.r e5, dr1.sp (e2.trans (e3.trans e5)), leD.ds e5 g3, hmem hn hm, smAll_mem hz.2 hm, depth_seq (.inl dp) hm, fun v' d' H6 e6 h6 hm6 => q' _ H6 e6 ⟨d', ⟨d1, g1, hm6.symm⟩, h6⟩⟩
    · subst ev
      have hes : ds = es.map tupD := of_places (by omega) fun i d hi => by
        have hi' : i < es.length := by have := (List.getElem?_eq_some_iff.mp hi).1; omega
        obtain ⟨d', h1, h2⟩ := hP i es[i] (List.getElem?_eq_getElem hi')
        rw [hi] at h1
        cases h1
        exact ⟨es[i], List.getElem?_eq_getElem hi', h2⟩
      have dr2 := dr1.sp e2
      have nSf : ¬ ρ.S p := own1.fresh hp
      have kk : ∀ H3, (spR sp).r H2 H3 → Ev (spR sp) (tIf (tTest (tOp (rEqU K) (tCall (sp__law_take K) [] E0 (tCons (tVar 0) (tCons (tVar 1) (tCons (tC (.int 2)) tNil)))) (tC (.int 0)))) (tVar 3) (tCB (rTupOf K) (tCons (tVar 3) tNil))) [some (.ref ra), some (.ref sp), some (.ref a), some (.ref p), none] H2 (fun v H' => ∃ d', DS ρ H' v d' ∧ Mixed (.tuple ds) d') := by
        intro H3 e3 H4 e4 Q' q'
        refine ev_opP (Pa := Below 2) (Pb := fun v => v = .int 0) (R := fun v _ => ∃ b, v = .bl b) (ev_take (ev_var rfl) (ev_var rfl) ev_c dr2 (by decide)) ev_c (fun x y ⟨m, ex, _⟩ ey => ?_) H4 e4 _ fun v H5 e5 ⟨b, eb⟩ => ⟨b, eb, ?_⟩
        · subst ex ey
          exact fun H6 _ Q q => .inl ⟨rfl, q _ H6 .rfl ⟨_, rfl⟩⟩
        · cases b with
          | true =>
            exact ev_var (ρ := spR sp) (H := H5) rfl H5 .rfl _ fun v H6 e6 ev => by
              subst ev
              refine q' _ H6 (e5.trans e6) ⟨.list es, .lst nSf ((e4.trans (e5.trans e6)).keep _ _ nS hx) (le.dss (e4.trans (e5.trans e6)) hds), ?_⟩
              show PyData.tuple (tupAll es) = .tuple ds
              rw [tupAll_map, ← hes]
          | false =>
            refine ev_tupOf (ρ := spR sp) (ρf := ρ) (C := fun ds => ds = es) le ((ev_var (ρ := spR sp) (v := .ref p) rfl).imp fun u H6 e6 eu => ⟨p, xs', es, eu, nS, (e4.trans (e5.trans e6)).keep _ _ nS hx, le.dss (e4.trans (e5.trans e6)) hds, rfl⟩) H5 .rfl _ fun v H6 e6 ⟨es', hes', hv⟩ => ?_
            subst hes'
            refine q' _ H6 (e5.trans e6) ⟨.tuple es', hv, ?_⟩
            show PyData.tuple (tupAll es') = .tuple ds
            rw [tupAll_map, ← hes]
      exact s_ret (ρ := spR sp) (kk H2 .rfl) fun v H3 e3 ⟨d', h1, h2⟩ => k v d' H3 (e1.trans (e2.trans e3)) h1 h2
section
variable {ρ : Rl} {K : Frag} {σ : L2.St} {H : Hp} {ta tb tc : TE} {ra sp : Addr} {v : V} {d : PyData} {E : XK}
theorem ev_handed (h1 : EvV (spR sp) ta σ H (.ref ra)) (h2 : EvV (spR sp) tb σ H (.ref sp)) (h3 : EvV (spR sp) tc σ H v) (dr : Dr K ra sp H) (hd : DS (spR sp) H v d) (hn : noList d = true) (hs : sm d = true) (dp : d.depth < 8) :
    Ev (spR sp) (tCall (sp__law_handed K) [] E (tCons ta (tCons tb (tCons tc tNil)))) σ H (fun v' H' => ∃ d', DS (spR sp) H' v' d' ∧ Mixed d d') :=
  ev_call (ea_cons h1 (ea_cons h2 (ea_cons h3 ea_nil))) fun H1 e1 Q q E => ⟨spR sp, ra, sp, v, d, rfl, rfl, own_sp (dr.sp e1), dr.sp e1, e1.ds hd, hn, hs, dp, fun v' d' H' e h m => q v' H' e ⟨d', h, m⟩⟩
end
theorem pure__law_handed {K : Frag} (vs : List V) (H : Hp) (Q : VK) (E : XK) (h : sp__law_handed K vs H Q E) : t__law_handed K { nx := fun _ H' => Q .non H', rt := Q } (start ["row", "spot", "value", "kind"] vs) H := by
  obtain ⟨ρ, ra, sp, v, d, rfl, hsp, own, dr, hd, hnl, hs, dp, k⟩ := h
  have le : Le (spR sp) ρ := fun a z => z ▸ hsp
  refine q_asg (ρ := spR sp) (ev_take (ev_var rfl) (ev_var rfl) ev_c dr (by decide)) fun v1 H1 e1 ⟨m, ev, _, _⟩ => ?_
  subst ev
  have own1 := own.r e1
  have hd1 := le.ds e1 hd
  have dr1 := dr.sp e1
  refine q_when (ρ := spR sp) (et_test (ev_eqI (ev_var rfl) ev_c)) (fun hb H2 e2 => ?_) (fun hb H2 e2 => ?_)
  · refine s_ret (ρ := spR sp) (R := fun v' H' => DS ρ H' v' (listD d)) (ev_call (ea_cons (ev_var rfl) ea_nil) fun H3 e3 Q' q' E' => ⟨ρ, v, d, rfl, own1.r (e2.trans e3), le.ds (e2.trans e3) hd1, hs, dp, fun v' H' e h => q' v' H' (Ext.r e) h⟩) fun v' H3 e3 h => ?_
    exact k v' _ H3 (e1.trans (e2.trans e3)) h (tup_list d hnl)
  · have dr2 := dr1.sp e2
    refine s_ret (ρ := spR sp) (R := fun v' H' => ∃ d', DS ρ H' v' d' ∧ Mixed d d') (ev_if (et_test (ev_eqI (ev_var rfl) ev_c)) (fun _ => ?_) fun _ => ?_) fun v' H3 e3 ⟨d', h, m⟩ => k v' d' H3 (e1.trans (e2.trans e3)) h m
    · exact ev_call (ea_cons (ev_var rfl) (ea_cons (ev_var rfl) (ea_cons (ev_var rfl) ea_nil))) fun H3 e3 Q' q' E' => ⟨ρ, ra, sp, v, d, rfl, hsp, own1.r (e2.trans e3), dr2.sp e3, le.ds (e2.trans e3) hd1, hnl, hs, Nat.lt_trans dp (by decide), fun v' d' H' e h m => q' v' H' e ⟨d', h, m⟩⟩
    · exact (ev_var (v := v) rfl).imp fun v' H3 e3 ev => by
        rw [ev]
        exact ⟨d, le.ds (e2.trans e3) hd1, tup_self d hnl⟩
end Slip
/-! drawn letters, drawn texts -/
namespace Slip
open PySem PySem.Spec PyProof.Rows L2
theorem app_cps (a b : Str) : (a ++ b).cps.toList = a.cps.toList ++ b.cps.toList := by
  show (a.cps ++ b.cps).toList = _
  simp
theorem app_len (a b : Str) : (a ++ b).length = a.length + b.length := by
  show (a.cps ++ b.cps).size = _
  simp [Str.length]
theorem len_cps (a : Str) : a.cps.toList.length = a.length := by simp [Str.length]
theorem letters_at {i : Nat} (h : i < 6) : ("abcdef" : Str).cps.toList[i]? = some (97 + i) := by
  match i, h with
  | 0, _ => decide +kernel
  | 1, _ => decide +kernel
  | 2, _ => decide +kernel
  | 3, _ => decide +kernel
  | 4, _ => decide +kernel
  | 5, _ => decide +kernel
theorem letters_mem {i : Nat} (h : i < 6) : 97 + i ∈ letters := List.mem_of_getElem? (letters_at h)
/-- the letters of a draw, ascending -/
structure Few (z : Str) : Prop where
  up : z.cps.toList.Pairwise (· < ·)
  low : ∀ c ∈ z.cps.toList, c ∈ letters
  pos : 0 < z.length
  le : z.length ≤ 6
def sp__law_few (K : Frag) : Sp := fun vs H Q _ => ∃ (ra sp za : Addr) (ss : List Int), vs = [.ref ra, .ref sp, .ref za] ∧ Dr K ra sp H ∧ za ≠ sp ∧ SqL K H za (ss.map V.int) ∧ ss ≠ [] ∧ (∀ s ∈ ss, 1 ≤ s ∧ s ≤ 6) ∧ ∀ z H', (spR sp).r H H' → Few z → Q (.str z) H'
def sp__law_letters (K : Frag) : Sp := fun vs H Q _ => ∃ (ra sp : Addr) (most : Int) (z : Str), vs = [.ref ra, .ref sp, .int most, .str z] ∧ Dr K ra sp H ∧ 0 ≤ most ∧ most ≤ 1000 ∧ 0 < z.length ∧ z.length ≤ 1000 ∧ ∀ (s : Str) H', (spR sp).r H H' → (s.length : Int) ≤ most → (∀ c ∈ s.cps.toList, c ∈ z.cps.toList) → Q (.str s) H'
theorem len__law_few {K : Frag} {vs : List V} {H : Hp} {Q : VK} {E : XK} (h : sp__law_few K vs H Q E) : vs.length = 3 := by
  obtain ⟨ra, sp, za, ss, rfl, _⟩ := h
  rfl
theorem len__law_letters {K : Frag} {vs : List V} {H : Hp} {Q : VK} {E : XK} (h : sp__law_letters K vs H Q E) : vs.length = 4 := by
  obtain ⟨ra, sp, m, z, rfl, _⟩ := h
  rfl
section
variable {K : Frag} {σ : L2.St} {H : Hp} {ta tb tc td : TE} {ra sp : Addr} {E : XK}
theorem ev_letters {most : Int} {z : Str} (h1 : EvV (spR sp) ta σ H (.ref ra)) (h2 : EvV (spR sp) tb σ H (.ref sp)) (h3 : EvV (spR sp) tc σ H (.int most)) (h4 : EvV (spR sp) td σ H (.str z)) (dr : Dr K ra sp H) (m0 : 0 ≤ most) (m1 : most ≤ 1000) (z0 : 0 < z.length) (z1 : z.length ≤ 1000) :
    Ev (spR sp) (tCall (sp__law_letters K) [] E (tCons ta (tCons tb (tCons tc (tCons td tNil))))) σ H (fun v _ => ∃ s : Str, v = .str s ∧ (s.length : Int) ≤ most ∧ ∀ c ∈ s.cps.toList, c ∈ z.cps.toList) :=
  ev_call (ea_cons h1 (ea_cons h2 (ea_cons h3 (ea_cons h4 ea_nil)))) fun H1 e1 Q q E => ⟨ra, sp, most, z, rfl, dr.sp e1, m0, m1, z0, z1, fun s H' e hl hc => q _ H' e ⟨s, rfl, hl, hc⟩⟩
end
def t__law_letters (K : Frag) : TS := (tSeq (tAsg (tC (.str "")) (gName 4)) (tSeq (tFor (iRng1 (tCons (tCall (sp__law_take K) [] E0 (tCons (tVar 0) (tCons (tVar 1) (tCons (tOp (rAddU K) (tVar 2) (tC (.int 1))) tNil)))) tNil)) (gName 5) (tAsg (tOp (rAddU K) (tVar 4) (tIxU K (tVar 3) (tCall (sp__law_take K) [] E0 (tCons (tVar 0) (tCons (tVar 1) (tCons (tCB (rLenU K) (tCons (tVar 3) tNil)) tNil)))))) (gName 4))) (tRet (tVar 4))))
def t__law_few (K : Frag) : TS := (tSeq (tAsg (tIxU K (tVar 2) (tCall (sp__law_take K) [] E0 (tCons (tVar 0) (tCons (tVar 1) (tCons (tCB (rLenU K) (tCons (tVar 2) tNil)) tNil))))) (gName 3)) (tSeq (tAsg (tC (.str "")) (gName 4)) (tSeq (tFor (iRng1 (tCons (tC (.int 6)) tNil)) (gName 5) (tIfS (tAnd (tTest (tOp (rCmp K gLt) (tCB (rLenU K) (tCons (tVar 4) tNil)) (tVar 3))) (tTest (tOp (rCmp K gLt) (tCall (sp__law_take K) [] E0 (tCons (tVar 0) (tCons (tVar 1) (tCons (tOp rSubI (tC (.int 6)) (tVar 5)) tNil)))) (tOp rSubI (tVar 3) (tCB (rLenU K) (tCons (tVar 4) tNil)))))) (tAsg (tOp (rAddU K) (tVar 4) (tIxU K (tC (.str "abcdef")) (tVar 5))) (gName 4)) tNext)) (tRet (tVar 4)))))
theorem pure__law_letters {K : Frag} (vs : List V) (H : Hp) (Q : VK) (E : XK) (h : sp__law_letters K vs H Q E) : t__law_letters K { nx := fun _ H' => Q .non H', rt := Q } (start ["row", "spot", "most", "few", "made", "k"] vs) H := by
  obtain ⟨ra, sp, most, z, rfl, dr, m0, m1, z0, z1, q⟩ := h
  refine q_asgV (ρ := spR sp) ev_c fun H1 e1 => ?_
  have dr1 := dr.sp e1
  refine q_forx (ρ := spR sp) (eix_rng (lim := most + 1) (ev_take (ev_var rfl) (ev_var rfl) (ev_add (ev_var rfl) ev_c) dr1 (by omega)) (by omega)) fun n Y H2 ⟨hn, hY⟩ e2 => ⟨fun i σ' H' => (spR sp).r H2 H' ∧ ∃ (s : Str) (kv : Option V), σ' = [some (.ref ra), some (.ref sp), some (.int most), some (.str z), some (.str s), kv] ∧ s.length ≤ i ∧ ∀ c ∈ s.cps.toList, c ∈ z.cps.toList, ⟨.rfl, "", none, rfl, Nat.le_refl _, fun c hc => by
    have : ("" : Str).cps.toList = [] := by decide +kernel
    rw [this] at hc
    cases hc⟩, fun i σ' H' _ h => h.1, ?_, ?_⟩
  · subst hY
    rintro i x σ' H' H'' hi ⟨r, s, kv, rfl, hs, hc⟩ ⟨e5, rfl⟩
    subst e5
    have dr2 := dr1.sp (e2.trans r)
    refine s_asg (ρ := spR sp) (R := fun v _ => ∃ c, v = .str (s ++ ⟨#[c]⟩) ∧ c ∈ z.cps.toList) (ev_opP (Pa := fun v => v = .str s) (Pb := fun v => ∃ c, v = .str ⟨#[c]⟩ ∧ c ∈ z.cps.toList) (ev_var rfl) (ev_ixSP (ev_var rfl) (by omega) (ev_take (ev_var rfl) (ev_var rfl) (ev_lenS (ev_var rfl) (by omega)) dr2 (by omega))) ?_) fun v H3 e3 ⟨c, ev, hcz⟩ => ?_
    · rintro x y rfl ⟨c, rfl, hcz⟩ H3 e3 Q' q'
      exact .inr (.inl ⟨s, ⟨#[c]⟩, rfl, rfl, Evl.sz_of (show s.length + 1 ≤ 100000 by omega), q' _ H3 .rfl ⟨c, rfl, hcz⟩⟩)
    · subst ev
      refine ⟨r.trans e3, s ++ ⟨#[c]⟩, some (.int (i : Int)), rfl, ?_, ?_⟩
      · rw [app_len]
        show s.length + 1 ≤ i + 1
        omega
      · intro c' hc'
        rw [app_cps] at hc'
        rcases List.mem_append.mp hc' with h | h
        · exact hc c' h
        · have : c' = c := by simpa using h
          rw [this]
          exact hcz
  · rintro σ' H' ⟨r, s, kv, rfl, hs, hc⟩
    exact s_retV (ρ := spR sp) (ev_var rfl) fun H3 e3 => q s H3 (e1.trans (e2.trans (r.trans e3))) (by omega) hc
theorem pure__law_few {K : Frag} (vs : List V) (H : Hp) (Q : VK) (E : XK) (h : sp__law_few K vs H Q E) : t__law_few K { nx := fun _ H' => Q .non H', rt := Q } (start ["row", "spot", "sizes", "size", "made", "k"] vs) H := by
  obtain ⟨ra, sp, za, ss, rfl, dr, nz, hz, hss, hsm, q⟩ := h
  have sqz : ∀ H1, (spR sp).r H H1 → SqA K H1 za (ss.map V.int) := fun H1 e => .inl (e.sqL nz hz)
  have hl : (ss.map V.int).length = ss.length := List.length_map _
  have hpos : 0 < ss.length := by
    cases ss with
    | nil => exact absurd rfl hss
    | cons _ _ => exact Nat.succ_pos _
  refine q_asg (ρ := spR sp) (ev_ixP (xs := ss.map V.int) (ev_var rfl) (ev_take (ev_var rfl) (ev_var rfl) (ev_len (ev_var rfl) sqz) dr (by rw [hl]; omega)) sqz) fun v H1 e1 ⟨m, hm⟩ => ?_
  obtain ⟨sz, hmem, rfl⟩ : ∃ s, s ∈ ss ∧ v = .int s := by
    obtain ⟨s, h1, h2⟩ := List.mem_map.mp (List.mem_of_getElem? hm)
    exact ⟨s, h1, h2.symm⟩
  obtain ⟨s1, s6⟩ := hsm sz hmem
  refine q_asgV (ρ := spR sp) ev_c fun H2 e2 => ?_
  refine q_forw (ρ := spR sp) (ρw := spR sp) (ew_rng (i := 6) (ea_cons ev_c ea_nil) (by omega) (by omega)) fun H3 e3 => ⟨fun i σ' H' => (spR sp).r H3 H' ∧ ∃ (s : Str) (kv : Option V), σ' = [some (.ref ra), some (.ref sp), some (.ref za), some (.int sz), some (.str s), kv] ∧ s.cps.toList.Pairwise (· < ·) ∧ (∀ c ∈ s.cps.toList, c ∈ letters ∧ c < 97 + i) ∧ (s.length : Int) ≤ sz ∧ sz - s.length ≤ 6 - i, ⟨.rfl, "", none, rfl, ?_, ?_, ?_, ?_⟩, fun i σ' H' _ h => h.1, ?_, ?_⟩
  · have : ("" : Str).cps.toList = [] := by decide +kernel
    rw [this]
    exact List.Pairwise.nil
  · intro c hc
    have : ("" : Str).cps.toList = [] := by decide +kernel
    rw [this] at hc
    cases hc
  · show ((0 : Nat) : Int) ≤ sz
    omega
  · show sz - ((0 : Nat) : Int) ≤ 6 - ((0 : Nat) : Int)
    omega
  · rintro i x σ' H' H'' hi ⟨r, s, kv, rfl, hup, hlow, hle, hgo⟩ ⟨e5, rfl⟩
    subst e5
    have hi6 : i < 6 := hi
    have r0 := e1.trans (e2.trans (e3.trans r))
    have dr2 := dr.sp r0
    have hs6 : s.length ≤ 6 := by omega
    have hfin : ∀ H4, (spR sp).r H'' H4 → sz - (s.length : Int) ≤ 6 - ((i + 1 : Nat) : Int) → (fun i σ' H' => (spR sp).r H3 H' ∧ ∃ (s : Str) (kv : Option V), σ' = [some (.ref ra), some (.ref sp), some (.ref za), some (.int sz), some (.str s), kv] ∧ s.cps.toList.Pairwise (· < ·) ∧ (∀ c ∈ s.cps.toList, c ∈ letters ∧ c < 97 + i) ∧ (s.length : Int) ≤ sz ∧ sz - s.length ≤ 6 - i) (i + 1) [some (.ref ra), some (.ref sp), some (.ref za), some (.int sz), some (.str s), some (.int (i : Int))] H4 := fun H4 e4 hg =>
      ⟨r.trans e4, s, _, rfl, hup, fun c hc => ⟨(hlow c hc).1, by have := (hlow c hc).2; omega⟩, hle, hg⟩
    refine ev_lt (ρ := spR sp) (H := H'') (i := (s.length : Int)) (j := sz) (ev_lenS (ev_var rfl) (by omega)) (ev_var rfl) H'' .rfl _ fun v H4 e4 ev => ⟨_, ev, ?_⟩
    by_cases hlt : (s.length : Int) < sz
    · rw [decide_eq_true hlt]
      refine iteT ?_
      refine ev_opP (Pa := Below (6 - (i : Int))) (Pb := fun v => v = .int (sz - (s.length : Int))) (R := fun v _ => ∃ b, v = .bl b ∧ (b = false → sz - (s.length : Int) ≤ 6 - (i : Int) - 1)) (ev_take (ev_var rfl) (ev_var rfl) (ev_sub ev_c (ev_var rfl)) dr2 (by omega)) (ev_sub (ev_var rfl) (ev_lenS (ev_var rfl) (by omega))) ?_ H4 e4 _ fun v H5 e5 ⟨b, eb, hb⟩ => ⟨b, eb, ?_⟩
      · rintro x y ⟨m, rfl, h0, h1⟩ rfl H5 e5 Q2 q2
        refine rv_cmpI H5 Q2 (q2 _ H5 .rfl ⟨_, rfl, fun hb => ?_⟩)
        have : PySem.W.dataLt (.int m) (.int (sz - (s.length : Int))) = false := hb
        rw [lt_int] at this
        have := of_decide_eq_false this
        omega
      · cases b with
        | true =>
          refine iteT ?_
          have hle2 : s.length + 1 ≤ 100000 := by omega
          refine s_asgV (ρ := spR sp) (ev_addS (ev_var rfl) (ev_ixS (s := "abcdef") (c := 97 + i) ev_c (ev_var rfl) (by decide +kernel) (atI_nat (letters_at hi6))) hle2) fun H6 e6 => ?_
          refine ⟨r.trans (e4.trans (e5.trans e6)), s ++ ⟨#[97 + i]⟩, _, rfl, ?_, ?_, ?_, ?_⟩
          · rw [app_cps]
            refine List.pairwise_append.mpr ⟨hup, by simp, fun a ha b hb => ?_⟩
            have : b = 97 + i := by simpa using hb
            rw [this]
            exact (hlow a ha).2
          · intro c hc
            rw [app_cps] at hc
            rcases List.mem_append.mp hc with h | h
            · exact ⟨(hlow c h).1, by have := (hlow c h).2; omega⟩
            · have : c = 97 + i := by simpa using h
              rw [this]
              exact ⟨letters_mem hi6, by omega⟩
          · rw [app_len]
            show ((s.length + 1 : Nat) : Int) ≤ sz
            omega
          · rw [app_len]
            show sz - ((s.length + 1 : Nat) : Int) ≤ 6 - ((i + 1 : Nat) : Int)
            omega
        | false =>
          refine iteF ?_
          exact hfin H5 (e4.trans e5) (by have := hb rfl; omega)
    · rw [decide_eq_false hlt]
      refine iteF (iteF ?_)
      exact hfin H4 e4 (by omega)
  · rintro σ' H' ⟨r, s, kv, rfl, hup, hlow, hle, hgo⟩
    have hgo' : sz - (s.length : Int) ≤ 6 - ((6 : Nat) : Int) := hgo
    exact s_retV (ρ := spR sp) (ev_var rfl) fun H4 e4 => q s H4 (e1.trans (e2.trans (e3.trans (r.trans e4)))) ⟨hup, fun c hc => (hlow c hc).1, by omega, by omega⟩
end Slip
/-! the law's own look at a table -/
namespace Slip
open PySem PySem.Spec PyProof.Rows L2
theorem rising_no : ∀ (ds : List PyData) (j : Nat) (x y : PyData), ds[j]? = some x → ds[j + 1]? = some y → PySem.W.dataLt x y = false → risingD ds = false
  | [], j, x, y, a, _, _ => by simp at a
  | [d], 0, x, y, _, b, _ => by simp at b
  | [d], j + 1, x, y, a, _, _ => by simp at a
  | d :: e :: r, 0, x, y, a, b, h => by
    cases a
    cases b
    show (PySem.W.dataLt d e && risingD (e :: r)) = false
    rw [h, Bool.false_and]
  | d :: e :: r, j + 1, x, y, a, b, h => by
    show (PySem.W.dataLt d e && risingD (e :: r)) = false
    rw [rising_no (e :: r) j x y (by simpa using a) (by simpa using b) h, Bool.and_false]
theorem rising_of : ∀ (ds : List PyData), (∀ (j : Nat) (x y : PyData), ds[j]? = some x → ds[j + 1]? = some y → PySem.W.dataLt x y = true) → risingD ds = true
  | [], _ => rfl
  | [d], _ => rfl
  | d :: e :: r, h => by
    show (PySem.W.dataLt d e && risingD (e :: r)) = true
    rw [h 0 d e rfl rfl, rising_of (e :: r) fun j x y a b => h (j + 1) x y (by simpa using a) (by simpa using b)]
    rfl
theorem str2_piece (d : PyData) : isStrD 2 d = isPieceD d := by
  cases d with
  | str s => exact Bool.and_comm _ _
  | _ => rfl
theorem tup_nl {d : PyData} (h : noList d = true) : isiB d "tuple" = isSeqD d := by
  cases d with
  | list ds => cases h
  | _ => rfl
def cutD (ds : List PyData) (lo hi : Option Int) : List PyData := (ds.drop (HT.sIx ds.length 0 lo)).take (HT.sIx ds.length ds.length hi - HT.sIx ds.length 0 lo)
section
variable {ρ ρf : Rl} {K : Frag} {σ : L2.St} {H : Hp} {ta tb te : TE} {x v : V} {d e : PyData} {ds es : List PyData}
/-- t[lo:hi] -/
theorem ev_slD {tl th : TO} {lo hi : Option Int} (le : Le ρ ρf) (h : EvV ρ te σ H v) (h1 : EvO ρ tl σ H lo) (h2 : EvO ρ th σ H hi) (hd : DS ρf H v (.tuple ds)) : Ev ρ (tSl (rSlU K) te tl th) σ H (fun u H2 => DS ρf H2 u (.tuple (cutD ds lo hi))) := fun H0 e Q q =>
  h H0 e _ fun w H2 e2 ew => by
    subst ew
    refine h1 H2 (e.trans e2) _ fun H3 e3 => h2 H3 ((e.trans e2).trans e3) _ fun H4 e4 => ?_
    have e04 := ((e.trans e2).trans e3).trans e4
    have e24 := (e2.trans e3).trans e4
    obtain ⟨a, xs, rfl, hx, ha, hsq⟩ := hd.tupl
    have hl := hx.length
    refine .inr (.inl ⟨a, xs, rfl, hsq K ρ H4 e04, fun hw => q _ _ e24 ?_, fun _ p hp => q _ _ (e24.trans (r_new _ hp)) (.tup upd_same ?_)⟩)
    · have z : cutD ds lo hi = ds := by
        unfold cutD
        rw [← hl, hw.1, hw.2, hl, List.drop_zero, Nat.sub_zero, List.take_length]
      rw [z]
      exact le.ds e04 hd
    · unfold cutD cutV
      rw [hl]
      exact ((le.dss (e04.trans (r_new _ hp)) hx).drop _).take _
/-- a datum against a new one -/
theorem ev_cmp2 {g : PyData → PyData → Bool} (h1 : EvV ρ ta σ H x) (hd : DS ρ H x d) (h2 : Ev ρ tb σ H (fun v H' => DS ρ H' v e)) (al : PySem.W.alike d e = true) (nn : d ≠ .none) (dp : d.depth ≤ 64) : EvV ρ (tOp (rCmp K g) ta tb) σ H (.bl (g d e)) :=
  ev_op2 (Ra := fun v' _ => v' = x) (Rb := fun v H' => DS ρ H' v e) h1 (fun x' H1 e1 _ => h2.mono e1) fun x' y' H1 H2 e1 e2 ex he => by
    subst ex
    exact fun H3 e3 Q q => ⟨d, e, ((e1.trans (e2.trans e3)).ds hd).dp _ _, (e3.ds he).dp _ _, al, nn, dp, q _ H3 .rfl rfl⟩
end
def twoPieces : List PyData → Bool
  | [m, w, _] => isPieceD m && isPieceD w
  | _ => false
theorem two_of {ds : List PyData} (h : twoPieces ds = true) : ∃ s t c, ds = [.str s, .str t, c] ∧ isPieceD (.str s) = true ∧ isPieceD (.str t) = true := by
  match ds, h with
  | [m, w, c], h =>
    have h' : isPieceD m = true ∧ isPieceD w = true := by simpa [twoPieces] using h
    obtain ⟨s, rfl, _⟩ := piece_str h'.1
    obtain ⟨t, rfl, _⟩ := piece_str h'.2
    exact ⟨s, t, c, rfl, h'.1, h'.2⟩
theorem fault_tup (m w c : PyData) : isFaultD (.tuple [m, w, c]) = (isPieceD m && isPieceD w && !(PyData.eqv m w) && isWholeD 1 9 c) := rfl
theorem fault_no {ds : List PyData} (h : twoPieces ds = false) : isFaultD (.tuple ds) = false := by
  cases q : isFaultD (.tuple ds) with
  | false => rfl
  | true =>
    obtain ⟨s, t, c, e1, e2, e3, _⟩ := fault_parts q
    have e1' : ds = [.str s, .str t, .int c] := e1
    rw [e1'] at h
    have : (isPieceD (.str s) && isPieceD (.str t)) = false := h
    rw [e2, e3] at this
    cases this
theorem fault_seq {d : PyData} (h : isSeqD d = false) : isFaultD d = false := by
  unfold isFaultD isTripleD
  rw [h]
  rfl
theorem table_nofault {d d1 : PyData} {i : Nat} (h : (itemsD d)[i]? = some d1) (hf : isFaultD d1 = false) : isTableD d = false := by
  have : (itemsD d).all isFaultD = false := by
    cases q : (itemsD d).all isFaultD with
    | false => rfl
    | true =>
      have := List.all_eq_true.mp q d1 (List.mem_of_getElem? h)
      rw [hf] at this
      cases this
  unfold isTableD
  rw [this, Bool.and_false]
  rfl
theorem table_norise {d x y : PyData} {j : Nat} (h : (itemsD d)[j]? = some x) (h2 : (itemsD d)[j + 1]? = some y) (hf : PySem.W.dataLt (pairOf x) (pairOf y) = false) : isTableD d = false := by
  have : risingD ((itemsD d).map pairOf) = false := rising_no _ j (pairOf x) (pairOf y) (by rw [List.getElem?_map, h]; rfl) (by rw [List.getElem?_map, h2]; rfl) hf
  unfold isTableD
  rw [this, Bool.and_false]
theorem table_yes {d : PyData} (hq : isSeqD d = true) (hl : (itemsD d).length ≤ 8) (hf : ∀ x ∈ itemsD d, isFaultD x = true) (hr : ∀ (j : Nat) (x y : PyData), (itemsD d)[j]? = some x → (itemsD d)[j + 1]? = some y → PySem.W.dataLt (pairOf x) (pairOf y) = true) : isTableD d = true := by
  unfold isTableD
  rw [hq, decide_eq_true hl, List.all_eq_true.mpr hf, rising_of]
  · rfl
  · intro j x y a b
    rw [List.getElem?_map] at a b
    cases qa : (itemsD d)[j]? with
    | none => rw [qa] at a; cases a
    | some x' =>
      cases qb : (itemsD d)[j + 1]? with
      | none => rw [qb] at b; cases b
      | some y' =>
        rw [qa] at a
        rw [qb] at b
        cases a
        cases b
        exact hr j x' y' qa qb
def sp__law_is_table (K : Frag) : Sp := fun vs H Q _ => ∃ v d, vs = [v] ∧ DS exR H v d ∧ sm d = true ∧ noList d = true ∧ ∀ H', Ext H H' → Q (.bl (isTableD d)) H'
theorem len__law_is_table {K : Frag} {vs : List V} {H : Hp} {Q : VK} {E : XK} (h : sp__law_is_table K vs H Q E) : vs.length = 1 := by
  obtain ⟨v, d, rfl, _⟩ := h
  rfl
theorem noLists_mem : ∀ {ds : List PyData} {d : PyData}, noLists ds = true → d ∈ ds → noList d = true
  | e :: ds, d, h, hm => by
    have h' : noList e = true ∧ noLists ds = true := by simpa [noLists] using h
    rcases List.mem_cons.mp hm with rfl | hm
    · exact h'.1
    · exact noLists_mem h'.2 hm
def t__law_is_table (K : Frag) : TS := (tSeq (tIfS (tOr (tNot (tB (tCB (rIsiU K) (tCons (tVar 0) (tCons (tC (.ty "tuple")) tNil))))) (tTest (tOp (rCmp K gGt) (tCB (rLenU K) (tCons (tVar 0) tNil)) (tC (.int 8))))) (tRet (tC (.bl false))) tNext) (tSeq (tAsg (tC .non) (gName 1)) (tSeq (tFor (iSeq K (tVar 0)) (gName 2) (tSeq (tIfS (tOr (tNot (tB (tCB (rIsiU K) (tCons (tVar 2) (tCons (tC (.ty "tuple")) tNil))))) (tOr (tTest (tOp (rNeU K) (tCB (rLenU K) (tCons (tVar 2) tNil)) (tC (.int 3)))) (tOr (tNot (tB (tCall (sp__law_is_string K) [] E0 (tCons (tIxU K (tVar 2) (tC (.int 0))) (tCons (tC (.int 2)) tNil))))) (tNot (tB (tCall (sp__law_is_string K) [] E0 (tCons (tIxU K (tVar 2) (tC (.int 1))) (tCons (tC (.int 2)) tNil)))))))) (tRet (tC (.bl false))) tNext) (tSeq (tIfS (tOr (tTest (tOp (rEqU K) (tIxU K (tVar 2) (tC (.int 0))) (tIxU K (tVar 2) (tC (.int 1))))) (tOr (tNot (tB (tCall (sp__law_whole K) [] E0 (tCons (tIxU K (tVar 2) (tC (.int 2))) tNil)))) (tNot (tTest (tChain (rCmp K gLe) (rCmp K gLe) (tC (.int 1)) (tIxU K (tVar 2) (tC (.int 2))) (tC (.int 9))))))) (tRet (tC (.bl false))) tNext) (tSeq (tIfS (tAnd (tTest (tOp rNotN (tVar 1) (tC .non))) (tNot (tTest (tOp (rCmp K gLt) (tVar 1) (tSl (rSlU K) (tVar 2) tNoPart (tPart (tC (.int 2)))))))) (tRet (tC (.bl false))) tNext) (tAsg (tSl (rSlU K) (tVar 2) tNoPart (tPart (tC (.int 2)))) (gName 1)))))) (tRet (tC (.bl true))))))
theorem pure__law_is_table {K : Frag} (vs : List V) (H : Hp) (Q : VK) (E : XK) (h : sp__law_is_table K vs H Q E) : t__law_is_table K { nx := fun _ H' => Q .non H', rt := Q } (start ["value", "before", "one"] vs) H := by
  obtain ⟨v, d, rfl, hd, hs, hn, k⟩ := h
  have ht := tup_nl hn
  cases hq : isSeqD d with
  | false =>
    have e0 : isTableD d = false := by unfold isTableD; rw [hq]; rfl
    rw [e0] at k
    refine q_when (ρ := exR) (b := true) ((et_or (b := true) (et_not (et_B (ev_isi (ev_var rfl) hd rfl))) fun h1 => ?_).to (by rw [Bool.or_true])) (fun hb H1 e => s_retV (ρ := exR) ev_c fun H2 e2 => k H2 (e.trans e2).ext) (fun hb H1 e => by cases hb)
    rw [ht, hq] at h1
    cases h1
  | true =>
  obtain ⟨ds, rfl⟩ : ∃ ds, d = .tuple ds := by
    cases d with
    | tuple ds => exact ⟨ds, rfl⟩
    | list ds => cases hn
    | _ => cases hq
  obtain ⟨a, xs, rfl, ha, hA, hsq⟩ := hd.tupl
  have hlen := ha.length
  have hl1000 := sm_seq (.inr hs)
  have hnl : noLists ds = true := by simpa [noList] using hn
  have hsA : ∀ H1, exR.r H H1 → SqA K H1 a xs := fun H1 e => .inr (hsq K exR H1 e)
  refine q_when (ρ := exR) (et_or (et_not (et_B (ev_isi (ev_var rfl) hd rfl))) fun _ => et_test (ev_gt (ev_len (ev_var rfl) hsA) ev_c)) (fun hb H1 e => s_retV (ρ := exR) ev_c fun H2 e2 => ?_) (fun hb H1 e => ?_)
  · have hz : ¬ ds.length ≤ 8 := by
      rw [ht, hq] at hb
      have : decide (8 < (xs.length : Int)) = true := by simpa using hb
      have := of_decide_eq_true this
      omega
    have e0 : isTableD (.tuple ds) = false := by
      show (true && decide (ds.length ≤ 8) && _ && _) = false
      rw [decide_eq_false hz, Bool.and_false]
      rfl
    rw [e0] at k
    exact k H2 (e.trans e2).ext
  have hz : ds.length ≤ 8 := by
    rw [ht, hq] at hb
    have : decide (8 < (xs.length : Int)) = false := by simpa using hb
    have := of_decide_eq_false this
    omega
  refine q_asgV (ρ := exR) ev_c fun H2 e2 => ?_
  have e02 := e.trans e2
  refine q_for (ρ := exR) (n := xs.length) (ei_seq (ev_var rfl) (fun H3 e3 => hsA H3 (e02.trans e3)) (.inr fun H3 e3 => hsq K exR H3 (e02.trans e3))) fun H3 e3 => ⟨fun i σ' H' => exR.r H3 H' ∧ ∃ (bv : V) (ov : Option V), σ' = [some (.ref a), some bv, ov] ∧ (∀ (j : Nat) x, j < i → ds[j]? = some x → isFaultD x = true) ∧ (∀ (j : Nat) (x y : PyData), j + 1 < i → ds[j]? = some x → ds[j + 1]? = some y → PySem.W.dataLt (pairOf x) (pairOf y) = true) ∧ ((i = 0 ∧ bv = .non) ∨ ∃ (j : Nat) (x : PyData), i = j + 1 ∧ ds[j]? = some x ∧ DS exR H' bv (pairOf x)),
    ⟨.rfl, _, _, rfl, fun j _ h => absurd h (Nat.not_lt_zero j), fun j _ _ h => absurd h (Nat.not_lt_zero _), .inl ⟨rfl, rfl⟩⟩, fun i σ' H' _ p => p.1, ?_, ?_⟩
  · rintro i x σ' H' H'' hi ⟨r, bv, ov, rfl, hF, hR, hB⟩ ⟨e5, hx⟩
    subst e5
    have r0 : exR.r H H'' := e02.trans (e3.trans r)
    obtain ⟨d1, g1, g2⟩ := ha.get hx
    have g3 : DS exR H'' x d1 := r0.ds g2
    have hm := List.mem_of_getElem? g1
    have nl1 := noLists_mem hnl hm
    have sm1 := smAll_mem hl1000.2 hm
    have t1 := tup_nl nl1
    have bad : ∀ H4, exR.r H'' H4 → isFaultD d1 = false → Q (.bl false) H4 := fun H4 e4 hf => by
      have e0 : isTableD (.tuple ds) = false := table_nofault (i := i) g1 hf
      rw [e0] at k
      exact k H4 (r0.trans e4).ext
    cases hq1 : isSeqD d1 with
    | false =>
      refine q_when (ρ := exR) (b := true) ((et_or (b := true) (et_not (et_B (ev_isi (ev_var rfl) g3 rfl))) fun h1 => ?_).to (by rw [Bool.or_true])) (fun hb H1 e => s_retV (ρ := exR) ev_c fun H2 e2 => bad H2 (e.trans e2) (fault_seq hq1)) (fun hb H1 e => by cases hb)
      rw [t1, hq1] at h1
      cases h1
    | true =>
    obtain ⟨es, rfl⟩ : ∃ es, d1 = .tuple es := by
      cases d1 with
      | tuple es => exact ⟨es, rfl⟩
      | list es => cases nl1
      | _ => cases hq1
    obtain ⟨b, ys, rfl, hy, hbA, hsb⟩ := g3.tupl
    have ly := hy.length
    have hsbA : ∀ H1, exR.r H'' H1 → SqA K H1 b ys := fun H1 e => .inr (hsb K exR H1 e)
    have sme := (sm_seq (.inr sm1)).2
    by_cases h3 : es.length = 3
    · obtain ⟨m, w, c, rfl⟩ := three h3
      obtain ⟨y1, y2, y3, rfl, c1, c2, c3⟩ := hy.three
      have s3 : sm m = true ∧ sm w = true ∧ sm c = true := by simpa [smAll] using sme
      refine q_when (ρ := exR) (H := H'') (b := !(isPieceD m && isPieceD w)) ((et_or (b := !(isPieceD m && isPieceD w)) (et_not (et_B (ev_isi (ev_var rfl) g3 rfl))) fun _ => (et_or (b := !(isPieceD m && isPieceD w)) (et_test (ev_neI (ev_len (ev_var rfl) hsbA) ev_c)) fun _ => (et_or (et_not (et_B (ev_is_string (ev_ix (n := 0) (ev_var rfl) ev_c hsbA rfl rfl) ev_c c1 s3.1))) fun _ => et_not (et_B (ev_is_string (ev_ix (n := 1) (ev_var rfl) ev_c hsbA rfl rfl) ev_c c2 s3.2.1))).to ?_).to ?_).to ?_) (fun hb H4 e4 => s_retV (ρ := exR) ev_c fun H5 e5 => ?_) (fun hb H4 e4 => ?_)
      · rw [str2_piece, str2_piece]
        cases isPieceD m <;> cases isPieceD w <;> rfl
      · show (!decide (((3 : Nat) : Int) = 3) || _) = _
        rfl
      · rfl
      · refine bad H5 (e4.trans e5) ?_
        rw [fault_tup, notb hb, Bool.false_and]
        rfl
      have hp2 := notb' hb
      have hp3 : isPieceD m = true ∧ isPieceD w = true := by simpa using hp2
      obtain ⟨s, rfl, _⟩ := piece_str hp3.1
      obtain ⟨t, rfl, _⟩ := piece_str hp3.2
      cases c1
      cases c2
      have hsbA4 : ∀ H1, exR.r H4 H1 → SqA K H1 b [.str s, .str t, y3] := fun H1 e => hsbA H1 (e4.trans e)
      have c34 := e4.ds c3
      refine q_when (ρ := exR) (H := H4) (b := !(!decide (s = t) && isWholeD 1 9 c)) ((et_or (b := !isWholeD 1 9 c) (et_test (ev_eqS (ev_ix (n := 0) (ev_var rfl) ev_c hsbA4 rfl rfl) (ev_ix (n := 1) (ev_var rfl) ev_c hsbA4 rfl rfl))) fun _ => ?_).to ?_) (fun hb H5 e5 => s_retV (ρ := exR) ev_c fun H6 e6 => ?_) (fun hb H5 e5 => ?_)
      · cases hc : (isiB c "int" && !isiB c "bool") with
        | true =>
          obtain ⟨n, rfl, rfl⟩ := c34.inv_int hc
          refine (et_or (b := !isWholeD 1 9 (.int n)) (et_not (et_B (ev_B1 (F := fun d => isiB d "int" && !isiB d "bool") (ev_ix (n := 2) (ev_var rfl) ev_c hsbA4 rfl rfl) (.int n) s3.2.2))) fun _ => et_not (et_test (ev_chainLe ev_c (ev_ix (n := 2) (ev_var rfl) ev_c hsbA4 rfl rfl) ev_c))).to rfl
        | false =>
          have e0 : isWholeD 1 9 c = false := by
            cases c with
            | int i => exact absurd hc (by show ¬ (true && !false) = false; decide)
            | _ => rfl
          rw [e0]
          refine (et_or (b := true) (et_not (et_B (ev_B1 (F := fun d => isiB d "int" && !isiB d "bool") (ev_ix (n := 2) (ev_var rfl) ev_c hsbA4 rfl rfl) c34 s3.2.2))) fun h => ?_).to (by rw [Bool.or_true]; rfl)
          have h' : (!(isiB c "int" && !isiB c "bool")) = false := h
          rw [hc] at h'
          cases h'
      · cases decide (s = t) <;> cases isWholeD 1 9 c <;> rfl
      · refine bad H6 (e4.trans (e5.trans e6)) ?_
        rw [fault_tup, hp2, eqv_str, Bool.true_and]
        exact notb hb
      have hf : isFaultD (.tuple [.str s, .str t, c]) = true := by
        rw [fault_tup, hp2, eqv_str, Bool.true_and]
        exact notb' hb
      have hpr : pairOf (.tuple [.str s, .str t, c]) = .tuple [.str s, .str t] := rfl
      have e45 := e4.trans e5
      have gt5 : DS exR H5 (.ref b) (.tuple [.str s, .str t, c]) := e45.ds g3
      -- the end of a turn
      have fin : ∀ D : Ends, (∀ σ2 H2, (exR.r H3 H2 ∧ ∃ (bv : V) (ov : Option V), σ2 = [some (.ref a), some bv, ov] ∧ (∀ (j : Nat) x, j < i + 1 → ds[j]? = some x → isFaultD x = true) ∧ (∀ (j : Nat) (x y : PyData), j + 1 < i + 1 → ds[j]? = some x → ds[j + 1]? = some y → PySem.W.dataLt (pairOf x) (pairOf y) = true) ∧ ((i + 1 = 0 ∧ bv = .non) ∨ ∃ (j : Nat) (x : PyData), i + 1 = j + 1 ∧ ds[j]? = some x ∧ DS exR H2 bv (pairOf x))) → D.nx σ2 H2) → ∀ H6, exR.r H5 H6 → (∀ (j : Nat) (x : PyData), i = j + 1 → ds[j]? = some x → PySem.W.dataLt (pairOf x) (.tuple [.str s, .str t]) = true) → tAsg (tSl (rSlU K) (tVar 2) tNoPart (tPart (tC (.int 2)))) (gName 1) D [some (.ref a), some bv, some (.ref b)] H6 := fun D hD H6 e6 hlt =>
        s_asg (ρ := exR) (ev_slD Le.rfl (ev_var rfl) eo_none (eo_some ev_c) (e6.ds gt5)) fun u H7 e7 hu => hD _ _
          ⟨r.trans (e45.trans (e6.trans e7)), _, _, rfl, fun j x hj hx' => by
            by_cases z : j = i
            · subst z
              rw [g1] at hx'
              cases hx'
              exact hf
            · exact hF j x (by omega) hx', fun j x y hj hx' hy' => by
            by_cases z : j + 1 = i
            · subst z
              rw [g1] at hy'
              cases hy'
              exact hlt j x rfl hx'
            · exact hR j x y (by omega) hx' hy', .inr ⟨i, _, rfl, g1, hu⟩⟩
      rcases hB with ⟨hi0, rfl⟩ | ⟨j, x0, hij, hx0, hb0⟩
      · refine q_when (ρ := exR) (b := false) ((et_and (b := true) (et_test (ev_notN (v := .non) (ev_var rfl))) fun h => by cases h).to rfl) (fun hb H6 e6 => by cases hb) (fun _ H6 e6 => fin _ (fun _ _ h => h) H6 e6 fun j x hij => by omega)
      · have hf0 := hF j x0 (by omega) hx0
        obtain ⟨s0, t0, n0, p0, _⟩ := fault_parts hf0
        have pr0 := pair_fault p0
        rw [pr0] at hb0
        have hbn : bv ≠ .non := by cases hb0; intro z; cases z
        refine q_when (ρ := exR) (b := !PySem.W.dataLt (pairOf x0) (.tuple [.str s, .str t])) ((et_and (b := !PySem.W.dataLt (pairOf x0) (.tuple [.str s, .str t])) (et_test (ev_notN (ev_var rfl))) fun _ => et_not (et_test ((ev_cmp2 (g := gLt) (e := .tuple [.str s, .str t]) (ev_var rfl) (e45.ds hb0) (ev_slD Le.rfl (ev_var rfl) eo_none (eo_some ev_c) gt5) rfl (by simp) (by show (1 : Nat) ≤ 64; decide)).val (by rw [pr0])))).to ?_) (fun hb H6 e6 => s_retV (ρ := exR) ev_c fun H7 e7 => ?_) (fun hb H6 e6 => fin _ (fun _ _ h => h) H6 e6 fun j' x' hij' hx' => ?_)
        · rw [decide_eq_false hbn]
          rfl
        · have e0 : isTableD (.tuple ds) = false := table_norise (j := j) (y := .tuple [.str s, .str t, c]) hx0 (by rw [← hij]; exact g1) (notb hb)
          rw [e0] at k
          exact k H7 (r0.trans (e45.trans (e6.trans e7))).ext
        · have : j' = j := by omega
          subst this
          rw [hx0] at hx'
          cases hx'
          exact notb' hb
    · refine q_when (ρ := exR) (b := true) ((et_or (b := true) (et_not (et_B (ev_isi (ev_var rfl) g3 rfl))) fun _ => (et_or (b := true) (et_test (ev_neI (ev_len (ev_var rfl) hsbA) ev_c)) fun h => ?_).to (by rw [Bool.or_true])).to (by rw [Bool.or_true])) (fun hb H4 e4 => s_retV (ρ := exR) ev_c fun H5 e5 => bad H5 (e4.trans e5) ?_) (fun hb H1 e => by cases hb)
      · have h' := of_decide_eq_true (notb' h)
        exact absurd h' (by omega)
      · refine fault_no ?_
        cases q : twoPieces es with
        | false => rfl
        | true =>
          obtain ⟨s, t, c, e1, _⟩ := two_of q
          rw [e1] at h3
          exact absurd rfl h3
  · rintro σ' H' ⟨r, bv, ov, rfl, hF, hR, hB⟩
    have e0 : isTableD (.tuple ds) = true := table_yes rfl hz (fun x hx => by
      obtain ⟨j, hj, e⟩ := List.mem_iff_getElem.mp hx
      exact hF j x (by have : j < ds.length := hj; omega) (by rw [← e]; exact List.getElem?_eq_getElem hj)) fun j x y a b => hR j x y (by have := (List.getElem?_eq_some_iff.mp b).1; have : j + 1 < ds.length := this; omega) a b
    rw [e0] at k
    exact s_retV (ρ := exR) ev_c fun H4 e4 => k H4 (e02.trans (e3.trans (r.trans e4))).ext
end Slip
/-! sorted -/
namespace Slip
open PySem PySem.Spec PyProof.Rows L2
def kD : Key → PyData
  | .inl i => .int i
  | .inr s => .str s
abbrev keyT (k : List Key) : PyData := .tuple (k.map kD)
theorem kd_dp {K : Frag} {H : Hp} (k : Key) : Dp K H (kV k) (kD k) := by
  cases k with
  | inl i => exact .int i
  | inr s => exact .str s
theorem kds_dp {K : Frag} {H : Hp} : ∀ k : List Key, DpAll K H (k.map kV) (k.map kD)
  | [] => .nil
  | a :: r => .cons (kd_dp a) (kds_dp r)
theorem kds_depth : ∀ k : List Key, PyData.depthAll (k.map kD) = 0
  | [] => rfl
  | a :: r => by
    show max (kD a).depth (PyData.depthAll (r.map kD)) = 0
    rw [kds_depth r]
    cases a <;> rfl
/-- sorted(d), the keys tuples -/
def rSortT : RCa := fun xs H Q => ∃ (a : Addr) (kvs : List (List Key × V)), xs = [.ref a] ∧ Rd H a (.dT kvs) ∧ kvs.length ≤ 90000 ∧ PySem.W.AllAlike (kvs.map fun p => keyT p.1) ∧ (∀ p ∈ kvs, p.1 ≠ []) ∧
  ∀ p (ys : List (List Key × Addr)), (ys.map (·.1)).Perm (kvs.map (·.1)) → (ys.map (·.1)).Nodup → (∀ b ∈ ys, H b.2 = some (.tup (b.1.map kV))) → ys.Pairwise (fun b c => PySem.W.dataLt (keyT c.1) (keyT b.1) = false) → H p = none → Q (.ref p) (upd H p (.lst (ys.map fun b => V.ref b.2)))
section
variable {X : Cx}
theorem call_sortT (hc : X.calm = true) (hu : X.A.units + 64 < cLine) : CallR X (.builtin "sorted") rSortT := by
  intro pins s σ H xs us Q I r q
  obtain ⟨a, kvs, rfl, hd, h9, hal, hne, q⟩ := q
  obtain ⟨u, rfl, rx⟩ := r.one
  cases rx
  obtain ⟨z, hs, ks, pr, o, es, ep, ho, hx, hdt, he, hn⟩ := (show ObjOk X.prog X.w H s.heap a (.dT kvs) from hd.ok I.hok)
  have l1 : es.size = ks.length := size_of_entries he
  have l2 : kvs.length = ks.length := Paired.length pr
  refine Calls.call_function_entry PyProof.Rows.kind_sorted PyProof.Rows.plain_sorted PyProof.Rows.entry_sorted (PyProof.Rows.args_sorted1 _) ?_
  unfold Builtin.«sorted»
  refine wpAny_bind (m := checkCount "sorted" 1 1 _) (wpAny_pure ?_)
  refine wpAny_bind (PySem.W.kdu_collect (A := X.A.in1) (kdl_raw hs hx hdt) (I.ok.hd hc) ho (by omega) fun h' tk acc hk it => ?_)
  have ea : acc.toList = ks.map fun x => Value.ref x.2.1 := by
    have hl : acc.toList.length = ks.length := by rw [Array.length_toList, it.1]; exact l1
    apply List.ext_getElem?
    intro j
    rw [List.getElem?_map]
    cases hj : acc.toList[j]? with
    | none =>
      have h1 := List.getElem?_eq_none_iff.mp hj
      rw [List.getElem?_eq_none (by omega)]
      all_goals rfl
    | some v =>
      obtain ⟨en, hen, hv⟩ := it.2 j v (by rw [← Array.getElem?_toList]; exact hj)
      have qe := entry_at he j
      rw [hen] at qe
      cases hb : ks[j]? with
      | none =>
        rw [hb] at qe
        exact nomatch (show some en = none from qe)
      | some b =>
        rw [hb] at qe
        have e2 : en = entryOfKey (tupleKind (mixKind X.prog X.w)) b := Option.some.inj qe
        rw [hv, e2]
        all_goals rfl
  have I1 : Inv X pins σ H { s with heap := h', toks := tk } := I.kept hk
  have hlen : acc.toList.length = ks.length := by rw [ea, List.length_map]
  have hz : acc.toList.length ≤ sizeLine := by rw [sizeLine_eq]; omega
  refine wpAny_bind (wpAny_newList ?_ hz)
  have hoL : (h'.push (seqObj "list" acc.toList.toArray 0)).get? h'.objs.size = some (seqObj "list" acc.toList.toArray 0) := Heap.get?_push_size _ rfl
  show wpAny _ _ _ _ _ { s with heap := h'.push (seqObj "list" acc.toList.toArray 0), toks := tk }
  -- the keys, each with its place
  have hkey : ∀ b ∈ (ks.map fun x => (x.1, x.2.1)), H b.2 = some (.tup (b.1.map kV)) := by
    intro b hb
    obtain ⟨x, hx1, rfl⟩ := List.mem_map.mp hb
    have all : ∀ {l : List (List Key × V)} {m : List (List Key × Addr × Value)}, KT H l m → ∀ x ∈ m, H x.2.1 = some (.tup (x.1.map kV)) := by
      intro l m q
      induction q with
      | nil => intro x hx; exact nomatch hx
      | @cons p q ps qs hq t ih =>
        intro x hx
        rcases List.mem_cons.mp hx with e | hx
        · subst e
          rw [← hq.1]
          exact hq.2.1
        · exact ih x hx
    exact all pr x hx1
  have hsame : (ks.map fun x => (x.1, x.2.1)).map (·.1) = kvs.map (·.1) := by
    rw [List.map_map]
    have all : ∀ {l : List (List Key × V)} {m : List (List Key × Addr × Value)}, KT H l m → m.map (fun x => x.1) = l.map (·.1) := by
      intro l m q
      induction q with
      | nil => rfl
      | @cons p q ps qs hq t ih =>
        rw [List.map_cons, List.map_cons, ih, hq.1]
    exact all pr
  have hT : ∀ b ∈ (ks.map fun x => (x.1, x.2.1)), ∃ as, Reads h' (Value.ref b.2) (keyT b.1) as := fun b hb =>
    Dp.reads I1 (keyT b.1) (.ref b.2) (.ref b.2) (.tup (.inl (.inl (hkey b hb))) (kds_dp _)) rfl
  have er : PySem.W.EachIs (fun v b => v = Value.ref b.2 ∧ b ∈ (ks.map fun x => (x.1, x.2.1))) acc.toList (ks.map fun x => (x.1, x.2.1)) := by
    rw [ea]
    have gen : ∀ (l m : List (List Key × Addr × Value)), (∀ x ∈ m, x ∈ l) → PySem.W.EachIs (fun v b => v = Value.ref b.2 ∧ b ∈ (l.map fun x => (x.1, x.2.1))) (m.map fun x => Value.ref x.2.1) (m.map fun x => (x.1, x.2.1)) := by
      intro l m
      induction m with
      | nil => intro _; exact .nil
      | cons x m ih =>
        intro h
        exact .cons ⟨rfl, List.mem_map.mpr ⟨x, h x (List.mem_cons_self ..), rfl⟩⟩ (ih fun y hy => h y (List.mem_cons_of_mem _ hy))
    exact gen ks ks fun x h => h
  have al2 : PySem.W.AllAlike ((ks.map fun x => (x.1, x.2.1)).map fun b => keyT b.1) := by
    have e : (ks.map fun x => (x.1, x.2.1)).map (fun b => keyT b.1) = kvs.map fun p => keyT p.1 := by
      rw [show (fun b : List Key × Addr => keyT b.1) = keyT ∘ (·.1) from rfl, ← List.map_map, hsame, List.map_map]
      rfl
    rw [e]
    exact hal
  have sb : PySem.W.Sortable ((ks.map fun x => (x.1, x.2.1)).map fun b => keyT b.1) := .inl fun d hd => by
    obtain ⟨b, hb, rfl⟩ := List.mem_map.mp hd
    have hm : b.1 ∈ kvs.map (·.1) := by rw [← hsame]; exact List.mem_map.mpr ⟨b, hb, rfl⟩
    obtain ⟨p, hp, e⟩ := List.mem_map.mp hm
    have := hne p hp
    cases hq : b.1 with
    | nil => exact absurd (e.trans hq) this
    | cons k r => exact ⟨kD k, r.map kD, rfl⟩
  have room : ∀ b ∈ (ks.map fun x => (x.1, x.2.1)), X.A.in1.in1.units + (keyT b.1).depth < cLine := fun b _ => by
    have e1 : (keyT b.1).depth = 1 := by show PyData.depthAll (b.1.map kD) + 1 = 1; rw [kds_depth]
    rw [e1]
    have e2 : X.A.in1.in1.units = X.A.units + 1 + 1 := rfl
    omega
  have old : ∀ b o, h'.get? b = some o → (PySem.W.sortingHeap (h'.push (seqObj "list" acc.toList.toArray 0)) h'.objs.size acc.toList).get? b = some o := fun b o e =>
    PySem.W.sortingHeap_old (Nat.ne_of_lt (Heap.lt_size e)) (Heap.get?_push_of_some _ e)
  have er2 : PySem.W.EachIs (fun v b => ∃ as, Reads (PySem.W.sortingHeap (h'.push (seqObj "list" acc.toList.toArray 0)) h'.objs.size acc.toList) v (keyT b.1) as) acc.toList (ks.map fun x => (x.1, x.2.1)) := er.mono fun v b ⟨e, hb⟩ => by
    obtain ⟨as, r⟩ := hT b hb
    rw [e]
    exact ⟨as, PyProof.Rows.Reads.keeps old r⟩
  refine wpAny_bind (wpAny_holding (wpAny_call_entry PyProof.Rows.slot_list_sort ⟨_, hoL, rfl⟩ PyProof.Rows.entry_list_sort
    (PySem.W.list_sort_vals (s := { s with heap := h'.push (seqObj "list" acc.toList.toArray 0), toks := tk }) hoL (PySem.W.SortsAt.data (s := { s with heap := PySem.W.sortingHeap (h'.push (seqObj "list" acc.toList.toArray 0)) h'.objs.size acc.toList, toks := tk }) (PySem.W.each_map (R := fun v d => ∃ as, Reads (PySem.W.sortingHeap (h'.push (seqObj "list" acc.toList.toArray 0)) h'.objs.size acc.toList) v d as) (fun b : List Key × Addr => keyT b.1) er2) al2 sb (PySem.W.bound_map room)) hz ⟨_, rfl, ?_⟩)
    (PyProof.Rows.args_list_sort _)))
  have out := PySem.W.sortVals_data (h' := PySem.W.sortingHeap (h'.push (seqObj "list" acc.toList.toArray 0)) h'.objs.size acc.toList) (R := fun v b => v = Value.ref b.2 ∧ b ∈ (ks.map fun x => (x.1, x.2.1))) (enc := fun b : List Key × Addr => keyT b.1) false er er2 al2
  have eo : PySem.W.sortVals (PySem.W.dataKind (PySem.W.sortingHeap (h'.push (seqObj "list" acc.toList.toArray 0)) h'.objs.size acc.toList) ((ks.map fun x => (x.1, x.2.1)).map fun b => keyT b.1)) false acc.toList acc.toList = ((ks.map fun x => (x.1, x.2.1)).mergeSort (PySem.W.dataLe false fun b => keyT b.1)).map (fun b => Value.ref b.2) := by
    have gen : ∀ {l : List Value} {m : List (List Key × Addr)}, PySem.W.EachIs (fun v b => v = Value.ref b.2 ∧ b ∈ (ks.map fun x => (x.1, x.2.1))) l m → l = m.map fun b => Value.ref b.2 := by
      intro l m h
      induction h with
      | nil => rfl
      | cons h t ih => rw [List.map_cons, h.1, ih]
    exact gen out
  have pm : ((ks.map fun x => (x.1, x.2.1)).mergeSort (PySem.W.dataLe false fun b => keyT b.1)).Perm (ks.map fun x => (x.1, x.2.1)) := List.mergeSort_perm _ _
  have pw := PySem.W.sort_pairwise (PySem.W.sortLe_total (listOrd itemOrd) false fun b : List Key × Addr => PySem.W.keyToks (keyT b.1)) (ks.map fun x => (x.1, x.2.1))
  generalize hys : (ks.map fun x => (x.1, x.2.1)).mergeSort (PySem.W.dataLe false fun b => keyT b.1) = ys at eo pm
  have pw' : ys.Pairwise fun b c => PySem.W.dataLt (keyT c.1) (keyT b.1) = false := by
    rw [← hys]
    refine pw.imp fun {b c} h => ?_
    have h' : (!PySem.W.dataLt (keyT c.1) (keyT b.1)) = true := h
    exact notb h'
  rw [eo]
  obtain ⟨e', he'⟩ := PyProof.Rows.sortedHeap_at (vs := acc.toList) (out := (ys.map fun b => Value.ref b.2).toArray) hoL
  have hpm := pm.map (·.1)
  rw [hsame] at hpm
  have hlen2 : (ys.map fun b => V.ref b.2).length ≤ sizeLine := by
    rw [List.length_map, pm.length_eq, List.length_map, sizeLine_eq]
    omega
  have hvals : Vals (ys.map fun b => V.ref b.2) (ys.map fun b => Value.ref b.2) := by
    have gen : ∀ l : List (List Key × Addr), Vals (l.map fun b => V.ref b.2) (l.map fun b => Value.ref b.2) := fun l => by
      induction l with
      | nil => exact .nil
      | cons x l ih => exact .cons rfl ih
    exact gen ys
  have hnd : (ys.map (·.1)).Nodup := by
    have h1 : (kvs.map (·.1)).Nodup := by
      rw [← hsame, List.map_map]
      exact hn
    exact hpm.nodup_iff.mpr h1
  refine wpAny_pure ⟨_, rfl, .ref h'.objs.size, upd H h'.objs.size (.lst (ys.map fun b => V.ref b.2)), I1.laid (t' := tk) (fun b u e => ?_) (Nat.le_refl _)
    (show ObjOk X.prog X.w _ _ _ (.lst (ys.map fun b => V.ref b.2)) from ⟨hlen2, ys.map fun b => Value.ref b.2, e', hvals, he'⟩), rfl, q _ ys hpm hnd (fun b hb => hkey b (pm.mem_iff.mp hb)) pw' (I1.hok.fresh (Nat.le_refl _))⟩
  have hb : b < h'.objs.size := Heap.lt_size e
  rw [PyProof.Rows.sortedHeap_old (Nat.ne_of_lt hb) (by rw [size_push']; exact Nat.lt_succ_of_lt hb)]
  exact Heap.get?_push_of_some _ e
end
def rSortU (K : Frag) : RCa := rSortT
theorem call_sortU {X : Cx} (hc : X.calm = true) (hu : X.A.units + 64 < cLine) : CallR X (.builtin "sorted") (rSortU X.K) := call_sortT hc hu
end Slip
/-! a drawn table -/
namespace Slip
open PySem PySem.Spec PyProof.Rows L2
/-! ### order -/
theorem toks_same {x y : PyData} (al : PySem.W.alike x y = true) (h : PySem.W.keyToks x = PySem.W.keyToks y) : PyData.eqv x y = true := by
  cases q : PyData.eqv x y with
  | true => rfl
  | false =>
    have h1 := (PySem.W.toks_eqv x y al).2 q [] [.inl 0]
    have h2 := PySem.W.lex_pre (PySem.W.keyToks y) [] [.inl 0]
    rw [h, h2, lex_irrefl] at h1
    exact absurd h1 (by decide)
theorem lt_strict {x y : PyData} (al : PySem.W.alike x y = true) (ne : PyData.eqv x y = false) (h : PySem.W.dataLt y x = false) : PySem.W.dataLt x y = true := by
  cases q : PySem.W.dataLt x y with
  | true => rfl
  | false =>
    have := toks_same al (lex_total (O := itemOrd) _ _ q h)
    rw [ne] at this
    cases this
theorem put_mem {κ : Type} [DecidableEq κ] {kvs : List (κ × V)} {k : κ} {v : V} {p : κ × V} (h : p ∈ putK kvs k v) : p ∈ kvs ∨ p = (k, v) := by
  unfold putK at h
  split at h
  · obtain ⟨q, hq, e⟩ := List.mem_map.mp h
    by_cases z : q.1 = k
    · rw [if_pos z] at e
      right
      rw [← e, z]
    · rw [if_neg z] at e
      left
      rw [← e]
      exact hq
  · rcases List.mem_append.mp h with h | h
    · exact .inl h
    · exact .inr (by simpa using h)
theorem val_mem {κ : Type} [DecidableEq κ] : ∀ {kvs : List (κ × V)} {p : κ × V}, p ∈ kvs → ∃ v, valV kvs p.1 = some v ∧ (p.1, v) ∈ kvs
  | q :: kvs, p, h => by
    by_cases z : q.1 = p.1
    · exact ⟨q.2, valV_pos z, by rw [← z]; exact List.mem_cons_self ..⟩
    · rcases List.mem_cons.mp h with rfl | h
      · exact absurd rfl z
      · obtain ⟨v, h1, h2⟩ := val_mem h
        exact ⟨v, by rw [valV_neg z, h1], List.mem_cons_of_mem _ h2⟩
/-! ### tables -/
def Ent (p : List Key × V) : Prop := ∃ (s t : Str) (c : Int), p = ([.inr s, .inr t], .int c) ∧ isPieceD (.str s) = true ∧ isPieceD (.str t) = true ∧ s ≠ t ∧ 1 ≤ c ∧ c ≤ 9
def entD (kvs : List (List Key × V)) (k : List Key) : PyData :=
  match k, valV kvs k with
  | [.inr s, .inr t], some (.int c) => .tuple [.str s, .str t, .int c]
  | _, _ => .none
theorem ent_at {kvs : List (List Key × V)} (he : ∀ p ∈ kvs, Ent p) {k : List Key} (hk : k ∈ kvs.map (·.1)) : ∃ (s t : Str) (c : Int), k = [.inr s, .inr t] ∧ valV kvs k = some (.int c) ∧ entD kvs k = .tuple [.str s, .str t, .int c] ∧ isPieceD (.str s) = true ∧ isPieceD (.str t) = true ∧ s ≠ t ∧ 1 ≤ c ∧ c ≤ 9 := by
  obtain ⟨p, hp, rfl⟩ := List.mem_map.mp hk
  obtain ⟨v, hv, hm⟩ := val_mem hp
  obtain ⟨s, t, c, e, h1, h2, h3, h4, h5⟩ := he _ hm
  have e1 : p.1 = [.inr s, .inr t] := congrArg Prod.fst e
  have e2 : v = .int c := congrArg Prod.snd e
  rw [e2] at hv
  refine ⟨s, t, c, e1, hv, ?_, h1, h2, h3, h4, h5⟩
  rw [e1] at hv ⊢
  unfold entD
  rw [hv]
theorem table_of {kvs : List (List Key × V)} {ys : List (List Key × Addr)} (he : ∀ p ∈ kvs, Ent p) (hp : (ys.map (·.1)).Perm (kvs.map (·.1))) (nd : (ys.map (·.1)).Nodup) (pw : ys.Pairwise (fun b c => PySem.W.dataLt (keyT c.1) (keyT b.1) = false)) (h8 : kvs.length ≤ 8) :
    isTableD (.tuple (ys.map fun b => entD kvs b.1)) = true := by
  have hl : ys.length = kvs.length := by
    have := hp.length_eq
    rwa [List.length_map, List.length_map] at this
  have at_ : ∀ (j : Nat) b, ys[j]? = some b → ∃ (s t : Str) (c : Int), b.1 = [.inr s, .inr t] ∧ valV kvs b.1 = some (.int c) ∧ entD kvs b.1 = .tuple [.str s, .str t, .int c] ∧ isPieceD (.str s) = true ∧ isPieceD (.str t) = true ∧ s ≠ t ∧ 1 ≤ c ∧ c ≤ 9 := fun j b hb =>
    ent_at he (hp.mem_iff.mp (List.mem_map.mpr ⟨b, List.mem_of_getElem? hb, rfl⟩))
  refine table_yes rfl (by show (ys.map _).length ≤ 8; rw [List.length_map]; omega) (fun x hx => ?_) fun j x y a b => ?_
  · obtain ⟨b, hb, rfl⟩ := List.mem_map.mp (show x ∈ ys.map fun b => entD kvs b.1 from hx)
    obtain ⟨j, hj, e⟩ := List.mem_iff_getElem.mp hb
    obtain ⟨s, t, c, _, _, e3, h1, h2, h3, h4, h5⟩ := at_ j b (by rw [← e]; exact List.getElem?_eq_getElem hj)
    show isFaultD (entD kvs b.1) = true
    rw [e3, fault_tup, h1, h2, eqv_str, decide_eq_false h3]
    show (decide ((1 : Int) ≤ c) && decide (c ≤ 9)) = true
    rw [decide_eq_true h4, decide_eq_true h5]
    rfl
  · have a' : (ys.map fun b => entD kvs b.1)[j]? = some x := a
    have b' : (ys.map fun b => entD kvs b.1)[j + 1]? = some y := b
    rw [List.getElem?_map] at a' b'
    cases qa : ys[j]? with
    | none => rw [qa] at a'; cases a'
    | some u =>
    cases qb : ys[j + 1]? with
    | none => rw [qb] at b'; cases b'
    | some w =>
    rw [qa] at a'
    rw [qb] at b'
    cases a'
    cases b'
    obtain ⟨hj, ej⟩ := List.getElem?_eq_some_iff.mp qa
    obtain ⟨hk, ek⟩ := List.getElem?_eq_some_iff.mp qb
    have h1 := List.pairwise_iff_getElem.mp pw j (j + 1) hj hk (Nat.lt_succ_self j)
    rw [ej, ek] at h1
    have h2 := List.pairwise_iff_getElem.mp nd j (j + 1) (by rw [List.length_map]; exact hj) (by rw [List.length_map]; exact hk) (Nat.lt_succ_self j)
    rw [List.getElem_map, List.getElem_map, ej, ek] at h2
    obtain ⟨s, t, c, k1, _, e1, _⟩ := at_ j u qa
    obtain ⟨s', t', c', k2, _, e2, _⟩ := at_ (j + 1) w qb
    show PySem.W.dataLt (pairOf (entD kvs u.1)) (pairOf (entD kvs w.1)) = true
    rw [e1, e2, pair_fault (d := .tuple [.str s, .str t, .int c]) rfl, pair_fault (d := .tuple [.str s', .str t', .int c']) rfl]
    rw [k1, k2] at h1 h2
    refine lt_strict rfl ?_ h1
    cases q : PyData.eqv (.tuple [.str s, .str t]) (.tuple [.str s', .str t']) with
    | false => rfl
    | true =>
      have q' : (PyData.eqv (.str s) (.str s') && (PyData.eqv (.str t) (.str t') && true)) = true := q
      rw [eqv_str, eqv_str, Bool.and_true] at q'
      have q2 : s = s' ∧ t = t' := by simpa using q'
      rw [q2.1, q2.2] at h2
      exact absurd rfl h2
theorem piece_of {s : Str} (h : s.length ≤ 2) (hc : ∀ c ∈ s.cps.toList, c ∈ letters) : isPieceD (.str s) = true := by
  show ((s.cps.toList.all fun c => decide (c ∈ letters)) && decide ((s.length : Int) ≤ 2)) = true
  rw [decide_eq_true (by omega), Bool.and_true, List.all_eq_true]
  exact fun c h => decide_eq_true (hc c h)
/-! ### rules -/
section
variable {ρ : Rl} {K : Frag} {σ : L2.St} {H : Hp} {ta tb te : TE} {xs : List V} {R : V → Hp → Prop} {wi : TI} {g : TG} {tt : TT} {vs : List Nat} {C : Nat → (Nat → Hp → V → Hp → Prop) → Prop}
/-- a list display, at a drawn place -/
theorem ev_ixNew (h1 : Ev ρ ta σ H (fun v H2 => ∃ p, v = .ref p ∧ ¬ ρ.S p ∧ H2 p = some (.lst xs))) (h2 : ∀ H1, ρ.r H H1 → Ev ρ tb σ H1 (fun v _ => ∃ m : Int, v = .int m ∧ 0 ≤ m ∧ m < (xs.length : Int))) : Ev ρ (tIxU K ta tb) σ H (fun v _ => ∃ m : Nat, xs[m]? = some v) :=
  fun H1 e1 Q q => .inl (h1 H1 e1 _ fun v H2 e2 ⟨p, ev, nS, hp⟩ => h2 H2 (e1.trans e2) H2 .rfl _ fun w H3 e3 ⟨m, ew, h0, hm⟩ => by
    subst ev ew
    have hm' : m.toNat < xs.length := by omega
    have g : xs[m.toNat]? = some xs[m.toNat] := List.getElem?_eq_getElem hm'
    have g2 : atI xs m = some xs[m.toNat] := by
      have := atI_nat g
      rwa [show ((m.toNat : Nat) : Int) = m by omega] at this
    exact .inl ⟨p, xs, m, _, rfl, rfl, .of (e3.keep _ _ nS hp), g2, q _ H3 (e2.trans e3) ⟨_, g⟩⟩)
/-- a new list of known things -/
theorem ev_lstN {ts : TA} (own : Own ρ H) (h : EvAV ρ ts σ H xs) (hl : xs.length ≤ 100000) : Ev ρ (tLst ts) σ H (fun v H2 => ∃ p, v = .ref p ∧ ¬ ρ.S p ∧ H2 p = some (.lst xs)) :=
  (ev_lst h fun vs H1 _ e => by rw [e]; exact hl).imp fun v H2 r ⟨p, vs, H1, ev, evs, hp, r1, eH⟩ => by
    subst ev evs
    exact ⟨p, rfl, (own.r r1).fresh hp, by rw [eH]; exact upd_same⟩
/-- a comprehension over what is not known ahead -/
theorem ev_lcx (hI : EvIx ρ wi σ H C) (h : ∀ n Y H1 J, C n Y → ρ.r H H1 → EvI ρ (fun _ H2 R => R J H2) σ H1 n Y → Ev ρ (tLc (fun _ H2 R => R J H2) g tt te vs) σ H1 R) : Ev ρ (tLc wi g tt te vs) σ H R := fun H0 e0 Q q =>
  hI H0 e0 _ fun n Y J H2 c e2 w => h n Y H2 J c (e0.trans e2) (fun H1 e1 R k => k J H1 .rfl (w.mono (fun H3 e3 => e1.trans e3) fun _ _ _ _ _ _ y => y)) H2 .rfl Q fun v H3 e3 r => q v H3 (e2.trans e3) r
/-- another dict at D -/
theorem r_chgT {D : Addr} {kvs kvs' : List (List Key × V)} (h : H D = some (.dT kvs)) (n : ¬ ρ.S D) : (ρ.and D).r H (upd H D (.dT kvs')) :=
  ⟨fun a o s q => by rw [upd_ne (fun z => s (.inr z))]; exact q,
   fun a q => by
    by_cases z : a = D
    · subst z; rw [upd_same] at q; cases q
    · rw [upd_ne z] at q; exact q,
   fun a xs q => by rw [upd_ne (ne_of q h (by intro z; cases z))]; exact q, fun a o u q => by rw [upd_ne (ne_of q h (by intro z; cases z))]; exact q,
   fun a p ⟨k, h0, q⟩ => ⟨k, h0, by rw [upd_ne (fun z : a = D => n (z ▸ ρ.sub a p))]; exact q⟩⟩
end
/-- sorted(d), walked -/
theorem eix_sortT {ρ : Rl} {K : Frag} {σ : L2.St} {H : Hp} {te : TE} {D : Addr} {kvs : List (List Key × V)} (own : Own ρ H) (h : EvV ρ te σ H (.ref D)) (hD : ∀ H1, ρ.r H H1 → H1 D = some (.dT kvs)) (hl : kvs.length ≤ 90000) (al : PySem.W.AllAlike (kvs.map fun p => keyT p.1)) (ne : ∀ p ∈ kvs, p.1 ≠ []) :
    EvIx ρ (iSeq K (tCB (rSortU K) (tCons te tNil))) σ H (fun n Y => ∃ ys : List (List Key × Addr), (ys.map (·.1)).Perm (kvs.map (·.1)) ∧ (ys.map (·.1)).Nodup ∧ ys.Pairwise (fun b c => PySem.W.dataLt (keyT c.1) (keyT b.1) = false) ∧ n = ys.length ∧ Y = fun i H v H' => H' = H ∧ ∃ b, ys[i]? = some b ∧ v = .ref b.2 ∧ H b.2 = some (.tup (b.1.map kV))) := fun H1 e1 R k =>
  .inl (h H1 e1 _ fun v H2 e2 ev => by
    subst ev
    refine ⟨D, kvs, rfl, .inl (hD H2 (e1.trans e2)), hl, al, ne, fun p ys hp hn hk pw hnew => ⟨p, rfl, ⟨_, .of upd_same⟩, ?_⟩⟩
    have nS : ¬ ρ.S p := (own.r (e1.trans e2)).fresh hnew
    have r2 : ρ.r H2 (upd H2 p (.lst (ys.map fun b => V.ref b.2))) := r_new _ hnew
    refine k ys.length _ _ _ ⟨ys, hp, hn, pw, rfl, rfl⟩ (e2.trans r2) ?_
    have w := walk_list (K := K) (a := p) (xs := ys.map fun b => V.ref b.2)
    rw [List.length_map] at w
    refine w.mono (fun H3 e3 => .of (e3.keep _ _ nS upd_same)) fun i H3 v H4 hi e3 y => ⟨y.1, ?_⟩
    have y2 := y.2
    rw [List.getElem?_map] at y2
    cases q : ys[i]? with
    | none => rw [q] at y2; cases y2
    | some b =>
      rw [q] at y2
      cases y2
      exact ⟨b, rfl, rfl, (r2.trans e3).tup _ _ (hk b (List.mem_of_getElem? q))⟩)
def sp__law_table (K : Frag) : Sp := fun vs H Q _ => ∃ (ra sp : Addr) (many : Int) (z : Str), vs = [.ref ra, .ref sp, .int many, .str z] ∧ Dr K ra sp H ∧ 0 ≤ many ∧ many ≤ 8 ∧ Few z ∧ ∀ v ds H', (spR sp).r H H' → DS (spR sp) H' v (.tuple ds) → noLists ds = true → isTableD (.tuple ds) = true → Q v H'
theorem len__law_table {K : Frag} {vs : List V} {H : Hp} {Q : VK} {E : XK} (h : sp__law_table K vs H Q E) : vs.length = 4 := by
  obtain ⟨ra, sp, m, z, rfl, _⟩ := h
  rfl
def t__law_table (K : Frag) : TS := (tSeq (tAsg tDNewT (gName 4)) (tSeq (tFor (iRng1 (tCons (tCall (sp__law_take K) [] E0 (tCons (tVar 0) (tCons (tVar 1) (tCons (tOp (rAddU K) (tVar 2) (tC (.int 1))) tNil)))) tNil)) (gName 5) (tSeq (tAsg (tCall (sp__law_take K) [] E0 (tCons (tVar 0) (tCons (tVar 1) (tCons (tC (.int 6)) tNil)))) (gName 6)) (tSeq (tAsg (tCall (sp__law_letters K) [] E0 (tCons (tVar 0) (tCons (tVar 1) (tCons (tC (.int 2)) (tCons (tVar 3) tNil))))) (gName 7)) (tSeq (tAsg (tCall (sp__law_letters K) [] E0 (tCons (tVar 0) (tCons (tVar 1) (tCons (tC (.int 2)) (tCons (tVar 3) tNil))))) (gName 8)) (tSeq (tIfS (tTest (tOp (rEqU K) (tVar 6) (tC (.int 0)))) (tAsg (tC (.str "")) (gName 7)) (tIfS (tTest (tOp (rEqU K) (tVar 6) (tC (.int 1)))) (tAsg (tC (.str "")) (gName 8)) (tIfS (tAnd (tTest (tOp (rEqU K) (tVar 6) (tC (.int 2)))) (tTest (tOp (rEqU K) (tCB (rLenU K) (tCons (tVar 7) tNil)) (tC (.int 2))))) (tAsg (tOp (rAddU K) (tIxU K (tVar 7) (tC (.int 1))) (tIxU K (tVar 7) (tC (.int 0)))) (gName 8)) tNext))) (tIfS (tTest (tOp (rNeU K) (tVar 7) (tVar 8))) (tAsg (tOp (rAddU K) (tC (.int 1)) (tCall (sp__law_take K) [] E0 (tCons (tVar 0) (tCons (tVar 1) (tCons (tIxU K (tLst (tCons (tC (.int 2)) (tCons (tC (.int 3)) (tCons (tC (.int 9)) tNil)))) (tCall (sp__law_take K) [] E0 (tCons (tVar 0) (tCons (tVar 1) (tCons (tC (.int 3)) tNil))))) tNil))))) (gSub (tVar 4) (tTup (tCons (tVar 7) (tCons (tVar 8) tNil))) (rSetU K))) tNext)))))) (tRet (tCB (rTupOf K) (tCons (tLc (iSeq K (tCB (rSortU K) (tCons (tVar 4) tNil))) (gName 7) tYes (tOp (rAddU K) (tVar 7) (tTup (tCons (tIxU K (tVar 4) (tVar 7)) tNil))) [7]) tNil)))))
theorem ent_alike {kvs : List (List Key × V)} (he : ∀ p ∈ kvs, Ent p) : PySem.W.AllAlike (kvs.map fun p => keyT p.1) := by
  intro d hd e hd2
  obtain ⟨p, hp, rfl⟩ := List.mem_map.mp hd
  obtain ⟨q, hq, rfl⟩ := List.mem_map.mp hd2
  obtain ⟨s, t, c, rfl, _⟩ := he p hp
  obtain ⟨s', t', c', rfl, _⟩ := he q hq
  rfl
theorem ent_nonempty {kvs : List (List Key × V)} (he : ∀ p ∈ kvs, Ent p) : ∀ p ∈ kvs, p.1 ≠ [] := by
  intro p hp
  obtain ⟨s, t, c, rfl, _⟩ := he p hp
  intro z
  cases z
theorem two_str {s : Str} (h : s.length = 2) : ∃ a b, s.cps.toList = [a, b] := by
  have h2 : s.cps.toList.length = 2 := by rw [len_cps]; exact h
  match hq : s.cps.toList, h2 with
  | [a, b], _ => exact ⟨a, b, rfl⟩
theorem noLists_map {α : Type} {f : α → PyData} : ∀ {l : List α}, (∀ a ∈ l, noList (f a) = true) → noLists (l.map f) = true
  | [], _ => rfl
  | a :: l, h => by
    show (noList (f a) && noLists (l.map f)) = true
    rw [h a (List.mem_cons_self ..), noLists_map fun b hb => h b (List.mem_cons_of_mem _ hb)]
    rfl
/-! ### a walk of unknown length beside a body that changes more -/
def EvWx (ρ ρw : Rl) (wi : TI) (σ : L2.St) (H : Hp) (C : Nat → (Nat → Hp → V → Hp → Prop) → Prop) : Prop :=
  ∀ H1, ρ.r H H1 → ∀ R : It → Hp → Prop, (∀ n Y J H2, C n Y → ρ.r H1 H2 → Walk J n (fun H3 => ρw.r H2 H3) Y → R J H2) → wi σ H1 R
section
variable {ρ ρw : Rl} {σ : L2.St} {H : Hp} {te : TE} {D : Ends} {tz tu : TS} {wi : TI} {g : TG} {C : Nat → (Nat → Hp → V → Hp → Prop) → Prop}
theorem q_forxw (h : EvWx ρ ρw wi σ H C) (k : ∀ n Y H1, C n Y → ρ.r H H1 → ∃ Pv : Nat → L2.St → Hp → Prop, Pv 0 σ H1 ∧ (∀ i σ' H', i ≤ n → Pv i σ' H' → ρw.r H1 H') ∧
    (∀ i x σ' H' H'', i < n → Pv i σ' H' → Y i H' x H'' → g x σ' H'' fun σ2 H2 => tu { D with nx := Pv (i + 1), ct := Pv (i + 1), bk := tz D } σ2 H2) ∧ ∀ σ' H', Pv n σ' H' → tz D σ' H') : tSeq (tFor wi g tu) tz D σ H :=
  h H .rfl _ fun n Y J H1 c e w => by
    obtain ⟨Pv, h0, hr, hs, hd⟩ := k n Y H1 c e
    exact for_it (D := { D with nx := tz D }) w Pv h0 hr hs hd
theorem ewx_rng {lim : Int} (h : Ev ρ te σ H (fun v _ => ∃ m : Int, v = .int m ∧ 0 ≤ m ∧ m < lim)) (hl : lim ≤ 1000000) : EvWx ρ ρw (iRng1 (tCons te tNil)) σ H (fun n Y => (n : Int) < lim ∧ Y = YFn fun m => .int ((m : Nat) : Int)) := fun H1 e1 R k =>
  h H1 e1 _ fun v H2 e2 ⟨m, ev, h0, h1⟩ => ⟨m, by rw [ev], by omega, by omega, k m.toNat _ _ H2 ⟨by omega, rfl⟩ e2 (walk_range.mono (fun _ _ => trivial) fun i H3 x H4 _ _ y => ⟨y.1, by rw [y.2]; exact congrArg V.int (Int.zero_add _)⟩)⟩
end
def OkP (s : Str) : Prop := s.length ≤ 2 ∧ ∀ c ∈ s.cps.toList, c ∈ letters
theorem okp_nil : OkP "" := ⟨by decide +kernel, fun c hc => by
  have : ("" : Str).cps.toList = [] := by decide +kernel
  rw [this] at hc
  cases hc⟩
theorem pure__law_table {K : Frag} (vs : List V) (H : Hp) (Q : VK) (E : XK) (h : sp__law_table K vs H Q E) : t__law_table K { nx := fun _ H' => Q .non H', rt := Q } (start ["row", "spot", "many", "few", "held", "k", "kind", "one", "other"] vs) H := by
  obtain ⟨ra, sp, many, z, rfl, dr, m0, m8, few, k⟩ := h
  have own := own_sp dr
  refine q_asg (ρ := spR sp) (R := fun v H' => ∃ D, v = .ref D ∧ H D = none ∧ H' D = some (.dT [])) (fun H1 e1 Q q p hp => q _ _ (r_new _ hp) ⟨p, rfl, e1.back p hp, upd_same⟩) fun v H1 e1 ⟨D, ev, hD0, hD⟩ => ?_
  subst ev
  have nD : ¬ (spR sp).S D := own.fresh hD0
  have dr1 := dr.sp e1
  have hz := few.pos
  have hz6 := few.le
  refine q_forxw (ρ := spR sp) (ρw := (spR sp).and D) (ewx_rng (lim := many + 1) (ev_take (ev_var rfl) (ev_var rfl) (ev_add (ev_var rfl) ev_c) dr1 (by omega)) (by omega)) fun n Y H2 ⟨hn, hY⟩ e2 => ⟨fun i σ' H' => ((spR sp).and D).r H2 H' ∧ ∃ (kvs : List (List Key × V)) (kv kd on ot : Option V), σ' = [some (.ref ra), some (.ref sp), some (.int many), some (.str z), some (.ref D), kv, kd, on, ot] ∧ H' D = some (.dT kvs) ∧ kvs.length ≤ i ∧ ∀ p ∈ kvs, Ent p, ⟨.rfl, [], none, none, none, none, rfl, e2.keep _ _ nD hD, Nat.le_refl _, fun p hp => nomatch hp⟩, fun i σ' H' _ h => h.1, ?_, ?_⟩
  · subst hY
    rintro i x σ' H' H'' hi ⟨r, kvs, kv, kd, on, ot, rfl, hDk, hlen, hent⟩ ⟨e5, rfl⟩
    subst e5
    have rH : (spR sp).r H H'' := r_and (e1.trans e2) hD0 r
    have dr2 : Dr K ra sp H'' := dr.sp rH
    refine q_asg (ρ := spR sp) (ev_take (ev_var rfl) (ev_var rfl) ev_c dr2 (by decide)) fun v H3 e3 ⟨m, ev, _, _⟩ => ?_
    subst ev
    refine q_asg (ρ := spR sp) (ev_letters (ev_var rfl) (ev_var rfl) ev_c (ev_var rfl) (dr2.sp e3) (by decide) (by decide) hz (by omega)) fun v H4 e4 ⟨s, ev, hs2, hsz⟩ => ?_
    subst ev
    refine q_asg (ρ := spR sp) (ev_letters (ev_var rfl) (ev_var rfl) ev_c (ev_var rfl) (dr2.sp (e3.trans e4)) (by decide) (by decide) hz (by omega)) fun v H5 e5 ⟨t, ev, ht2, htz⟩ => ?_
    subst ev
    have e35 := e3.trans (e4.trans e5)
    have oks : OkP s := ⟨by omega, fun c hc => few.low c (hsz c hc)⟩
    have okt : OkP t := ⟨by omega, fun c hc => few.low c (htz c hc)⟩
    have fin : ∀ D' : Ends, (∀ σ2 H2', (((spR sp).and D).r H2 H2' ∧ ∃ (kvs : List (List Key × V)) (kv kd on ot : Option V), σ2 = [some (.ref ra), some (.ref sp), some (.int many), some (.str z), some (.ref D), kv, kd, on, ot] ∧ H2' D = some (.dT kvs) ∧ kvs.length ≤ i + 1 ∧ ∀ p ∈ kvs, Ent p) → D'.nx σ2 H2') → ∀ (s t : Str) H6, (spR sp).r H5 H6 → OkP s → OkP t → (tIfS (tTest (tOp (rNeU K) (tVar 7) (tVar 8))) (tAsg (tOp (rAddU K) (tC (.int 1)) (tCall (sp__law_take K) [] E0 (tCons (tVar 0) (tCons (tVar 1) (tCons (tIxU K (tLst (tCons (tC (.int 2)) (tCons (tC (.int 3)) (tCons (tC (.int 9)) tNil)))) (tCall (sp__law_take K) [] E0 (tCons (tVar 0) (tCons (tVar 1) (tCons (tC (.int 3)) tNil))))) tNil))))) (gSub (tVar 4) (tTup (tCons (tVar 7) (tCons (tVar 8) tNil))) (rSetU K))) tNext) D' [some (.ref ra), some (.ref sp), some (.int many), some (.str z), some (.ref D), some (.int (i : Int)), some (.int m), some (.str s), some (.str t)] H6 := by
      intro D' hD' s t H6 e6 oks okt
      have e06 : (spR sp).r H'' H6 := e35.trans e6
      refine s_if (ρ := spR sp) (et_test (ev_neS (ev_var rfl) (ev_var rfl))) (fun hb H7 e7 => ?_) (fun hb H7 e7 => hD' _ _ ⟨r.trans (and_of (e06.trans e7)), kvs, _, _, _, _, rfl, (e06.trans e7).keep _ _ nD hDk, by omega, hent⟩)
      have hst : s ≠ t := of_decide_eq_false (notb hb)
      have e07 := e06.trans e7
      have dr7 := dr2.sp e07
      have hixL := ev_ixNew (ρ := spR sp) (K := K) (H := H7) (σ := [some (.ref ra), some (.ref sp), some (.int many), some (.str z), some (.ref D), some (.int (i : Int)), some (.int m), some (.str s), some (.str t)]) (xs := [.int 2, .int 3, .int 9]) (ev_lstN (own_sp dr7) (ea_cons ev_c (ea_cons ev_c (ea_cons ev_c ea_nil))) (by show 3 ≤ 100000; decide)) (fun H8 e8 => ev_take (E := E0) (ta := tVar 0) (tb := tVar 1) (tc := tC (.int 3)) (lim := (([V.int 2, V.int 3, V.int 9].length : Nat) : Int)) (ev_var rfl) (ev_var rfl) ev_c (dr7.sp e8) (by decide))
      have hargs : EvA (spR sp) (tCons (tVar 0) (tCons (tVar 1) (tCons (tIxU K (tLst (tCons (tC (.int 2)) (tCons (tC (.int 3)) (tCons (tC (.int 9)) tNil)))) (tCall (sp__law_take K) [] E0 (tCons (tVar 0) (tCons (tVar 1) (tCons (tC (.int 3)) tNil))))) tNil))) [some (.ref ra), some (.ref sp), some (.int many), some (.str z), some (.ref D), some (.int (i : Int)), some (.int m), some (.str s), some (.str t)] H7 (fun vs _ => ∃ l : Int, vs = [.ref ra, .ref sp, .int l] ∧ 0 < l ∧ l ≤ 9) :=
        (ea_consP (Pa := fun v => v = .ref ra) (ev_var rfl) (ea_consP (Pa := fun v => v = .ref sp) (ev_var rfl) (ea_consP (Pr := fun ws => ws = []) hixL ea_nil))).imp fun vs H1 _ ⟨x, ws, e1, ex, y, ws', e2, ey, u, ws'', e3, ⟨m', hm'⟩, e4⟩ => by
          subst e1 ex e2 ey e3 e4
          match m', hm' with
          | 0, h => cases h; exact ⟨2, rfl, by decide, by decide⟩
          | 1, h => cases h; exact ⟨3, rfl, by decide, by decide⟩
          | 2, h => cases h; exact ⟨9, rfl, by decide, by decide⟩
      have hval := ev_opP (r := rAddU K) (R := fun v _ => ∃ c : Int, v = .int c ∧ 1 ≤ c ∧ c ≤ 9) (Pa := fun v => v = .int 1) (Pb := Below 9) (ev_c (v := .int 1)) (ev_callR (sp := sp__law_take K) (E := E0) (R := fun v _ => Below 9 v) hargs fun vs H1 e ⟨l, evs, l0, l9⟩ => by
        subst evs
        exact fun H2 e2 Q q E => ⟨ra, sp, l, rfl, (dr7.sp (e.trans e2)), l0, fun n H' h0 h1 e => q _ H' e ⟨n, rfl, h0, by omega⟩⟩) (fun x y ex ⟨l, ey, l0, l9⟩ => by
        subst ex ey
        exact fun H2 e2 Q q => .inl ⟨1, l, rfl, rfl, q _ H2 .rfl ⟨1 + l, rfl, by omega, by omega⟩⟩)
      refine hval H7 .rfl _ fun v H8 e8 ⟨c, ev, c1, c9⟩ => ?_
      subst ev
      refine ev_var (ρ := spR sp) (v := .ref D) rfl H8 .rfl _ fun o H9 e9 eo => ?_
      subst eo
      refine (ev_tup (ρ := spR sp) (ea_cons (ev_var (v := .str s) rfl) (ea_cons (ev_var (v := .str t) rfl) ea_nil)) (fun vs H1 _ e => by rw [e]; show 2 ≤ 100000; decide)) H9 .rfl _ fun u H10 e10 ⟨b, ws, Hx, eu, ews, hb0, rx, eH⟩ => ?_
      subst eu ews
      have e010 := e07.trans (e8.trans (e9.trans e10))
      have hD10 : H10 D = some (.dT kvs) := e010.keep _ _ nD hDk
      have hb10 : H10 b = some (.tup (([.inr s, .inr t] : List Key).map kV)) := by rw [eH]; exact upd_same
      refine .inr ⟨D, _, rfl, DPut.t (k := [.inr s, .inr t]) hD10 hb10 (Evl.sz_lt (by omega)), hD' _ _ ⟨(r.trans (and_of e010)).trans (r_chgT hD10 nD), putK kvs [.inr s, .inr t] (.int c), _, _, _, _, rfl, upd_same, ?_, ?_⟩⟩
      · have := length_putK kvs [.inr s, .inr t] (.int c)
        omega
      · intro p hp
        rcases put_mem hp with h | rfl
        · exact hent p h
        · exact ⟨s, t, c, rfl, piece_of oks.1 oks.2, piece_of okt.1 okt.2, hst, c1, c9⟩
    refine q_if (ρ := spR sp) (et_test (ev_eqI (ev_var rfl) ev_c)) (fun hb H6 e6 => s_asgV (ρ := spR sp) ev_c fun H7 e7 => fin _ (fun _ _ h => h) "" t H7 (e6.trans e7) okp_nil okt) (fun hb H6 e6 => ?_)
    refine s_if (ρ := spR sp) (et_test (ev_eqI (ev_var rfl) ev_c)) (fun hb H7 e7 => s_asgV (ρ := spR sp) ev_c fun H8 e8 => fin _ (fun _ _ h => h) s "" H8 (e6.trans (e7.trans e8)) oks okp_nil) (fun hb H7 e7 => ?_)
    refine s_if (ρ := spR sp) (et_and (et_test (ev_eqI (ev_var rfl) ev_c)) fun _ => et_test (ev_eqI (ev_lenS (ev_var rfl) (by have := oks.1; omega)) ev_c)) (fun hb H8 e8 => ?_) (fun hb H8 e8 => fin _ (fun _ _ h => h) s t H8 (e6.trans (e7.trans e8)) oks okt)
    have hs2' : s.length = 2 := by
      have hb' : m = 2 ∧ (s.length : Int) = 2 := by simpa using hb
      omega
    obtain ⟨c0, c1, hcs⟩ := two_str hs2'
    refine s_asgV (ρ := spR sp) (ev_addS (ev_ixS (c := c1) (ev_var rfl) ev_c (by omega) (atI_nat (xs := s.cps.toList) (j := 1) (by rw [hcs]; rfl))) (ev_ixS (c := c0) (ev_var rfl) ev_c (by omega) (atI_nat (xs := s.cps.toList) (j := 0) (by rw [hcs]; rfl))) (by show 1 + 1 ≤ 100000; decide)) fun H9 e9 => fin _ (fun _ _ h => h) s _ H9 (e6.trans (e7.trans (e8.trans e9))) oks ⟨Nat.le_refl 2, ?_⟩
    intro c hc
    rw [app_cps] at hc
    have hc' : c = c1 ∨ c = c0 := by simpa using hc
    rcases hc' with rfl | rfl
    · exact oks.2 _ (by rw [hcs]; exact List.mem_cons_of_mem _ (List.mem_cons_self ..))
    · exact oks.2 _ (by rw [hcs]; exact List.mem_cons_self ..)
  · rintro σ' H' ⟨r, kvs, kv, kd, on, ot, rfl, hDk, hlen, hent⟩
    have rH : (spR sp).r H H' := r_and (e1.trans e2) hD0 r
    have ownH := own.r rH
    have h8 : kvs.length ≤ 8 := by omega
    have hlc := ev_lcx (ρ := spR sp) (wi := iSeq K (tCB (rSortU K) (tCons (tVar 4) tNil))) (σ := [some (.ref ra), some (.ref sp), some (.int many), some (.str z), some (.ref D), kv, kd, on, ot]) (H := H') (g := gName 7) (tt := tYes) (te := tOp (rAddU K) (tVar 7) (tTup (tCons (tIxU K (tVar 4) (tVar 7)) tNil))) (vs := [7])
      (R := fun u H2 => ∃ p xs ds, u = .ref p ∧ ¬ (spR sp).S p ∧ H2 p = some (.lst xs) ∧ DSs (spR sp) H2 xs ds ∧ (noLists ds = true ∧ isTableD (.tuple ds) = true)) (eix_sortT ownH (ev_var rfl) (fun H1 e => e.keep _ _ nD hDk) (by omega) (ent_alike hent) (ent_nonempty hent)) fun n' Y' H3 J ⟨ys, hp, hnd, hpw, hn', hY'⟩ e3 hI => ?_
    · refine s_ret (ρ := spR sp) (ev_tupOf (ρf := spR sp) (C := fun ds => noLists ds = true ∧ isTableD (.tuple ds) = true) Le.rfl hlc) fun v H3 e3 ⟨ds, hC, hv⟩ => k v ds H3 (rH.trans e3) hv hC.1 hC.2
    · subst hn' hY'
      have hl : ys.length = kvs.length := by
        have := hp.length_eq
        rwa [List.length_map, List.length_map] at this
      refine (ev_lcD (dd := fun i => match ys[i]? with | some b => entD kvs b.1 | none => .none) (ownH.r e3) (by omega) hI (fun x => rfl) (fun i H2 x H3 y => y.1) ?_).imp ?_
      · rintro D' H4 e4 hD' i x H5 H6 hi r5 oD ⟨e6, b, hb, rfl, hk⟩
        obtain ⟨s, t, c, k1, k2, k3, _⟩ := ent_at hent (hp.mem_iff.mp (List.mem_map.mpr ⟨b, List.mem_of_getElem? hb, rfl⟩))
        rw [hb]
        show Ev (spR sp) _ _ H5 (fun y H4 => DS ((spR sp).and D') H4 y (entD kvs b.1))
        rw [k3]
        rw [k1] at hk k2
        have hD5 : H5 D = some (.dT kvs) := (e3.trans (e4.trans r5)).keep _ _ nD hDk
        refine ev_op2 (Ra := fun v _ => v = .ref b.2) (Rb := fun v H7 => ∃ q, v = .ref q ∧ H7 q = some (.tup [.int c])) (ev_var rfl) (fun x H7 e7 ex => ?_) (fun x y H7 H8 e7 e8 ex ⟨q, ey, hq⟩ => ?_)
        · refine (ev_tup (Rr := fun vs _ => vs = [.int c]) ((ea_one (Ra := fun v _ => v = .int c) ?_).imp fun vs H8 e8 ⟨u, e9, e10⟩ => by rw [e9, e10]) fun vs H8 _ e => by rw [e]; show 1 ≤ 100000; decide).imp fun v H8 e8 ⟨p, vs, H9, ev, evs, hp9, r9, eH⟩ => ⟨p, ev, by rw [eH, evs]; exact upd_same⟩
          intro H8 e8 Q' q'
          refine .inr (ev_var (ρ := spR sp) (v := .ref D) rfl H8 .rfl _ fun o H9 e9 eo => ?_)
          subst eo
          refine ev_var (ρ := spR sp) (v := .ref b.2) rfl H9 .rfl _ fun o H10 e10 eo => ?_
          subst eo
          have e510 := e7.trans (e8.trans (e9.trans e10))
          refine ⟨D, .int c, rfl, ?_, q' _ H10 (e9.trans e10) rfl⟩
          rw [← k2]
          exact DGet.t (e510.keep _ _ nD hD5) (e510.tup _ _ hk)
        · subst ex ey
          intro H9 e9 Q' q'
          have hb9 := (e7.trans (e8.trans e9)).tup _ _ hk
          have hq9 := e9.tup _ _ hq
          refine .inr (.inr (.inl ⟨b.2, q, _, _, rfl, rfl, .inl (.inl hb9), .inl (.inl hq9), by show 3 ≤ sizeLine; decide, fun z => (by cases z), fun _ z => (by cases z), fun _ _ p hp => q' _ _ (r_new _ hp) (.tup upd_same (.cons (.str s) (.cons (.str t) (.cons (.int c) .nil))))⟩))
      · rintro u H4 e4 ⟨p, xs, rfl, nS, hp0, hx, hds⟩
        have em : (List.range ys.length).map (fun i => match ys[i]? with | some b => entD kvs b.1 | none => .none) = ys.map fun b => entD kvs b.1 := by
          refine List.ext_getElem? fun i => ?_
          rw [List.getElem?_map, List.getElem?_map]
          by_cases hi : i < ys.length
          · rw [List.getElem?_range hi, List.getElem?_eq_getElem hi]
            show some (match ys[i]? with | some b => entD kvs b.1 | none => .none) = some (entD kvs ys[i].1)
            rw [List.getElem?_eq_getElem hi]
          · rw [List.getElem?_eq_none_iff.mpr (by rw [List.length_range]; omega), List.getElem?_eq_none_iff.mpr (by omega)] <;> rfl
        rw [em] at hds
        refine ⟨p, xs, _, rfl, nS, hx, hds, noLists_map fun b hb => ?_, table_of hent hp hnd hpw h8⟩
        obtain ⟨s, t, c, _, _, k3, _⟩ := ent_at hent (hp.mem_iff.mp (List.mem_map.mpr ⟨b, hb, rfl⟩))
        rw [k3]
        rfl
end Slip
/-! cuts and their least prices: what the queue finds -/
namespace Slip
open PySem PySem.Spec PyProof.Rows L2
/-- a piece: meant, typed, its cost -/
abbrev Pc := List Nat × List Nat × Int
abbrev S (l : List Nat) : Str := ⟨l.toArray⟩
def pcD (p : Pc) : PyData := .tuple [.str (S p.1), .str (S p.2.1), .int p.2.2]
/-- W has m from i on -/
def at_ (W : List Nat) (i : Nat) (m : List Nat) : Bool := decide ((W.drop i).take m.length = m)
def keptAt (W : List Nat) (i : Nat) : List Pc := ((W.drop i).take 1).map fun c => ([c], [c], 0)
def pcsAt (T : List Pc) (W : List Nat) (i : Nat) : List Pc := keptAt W i ++ T.filter fun p => at_ W i p.1
/-- pieces that are neither empty on both sides nor paid out -/
def Costs (T : List Pc) : Prop := ∀ p ∈ T, 0 ≤ p.2.2 ∧ 0 < p.1.length + p.2.1.length
inductive Way (T : List Pc) (W X : List Nat) : Nat → Nat → Int → Prop
  | zero : Way T W X 0 0 0
  | step {i j : Nat} {c : Int} {p : Pc} : Way T W X i j c → p ∈ pcsAt T W i → at_ X j p.2.1 = true → Way T W X (i + p.1.length) (j + p.2.1.length) (c + p.2.2)
theorem at_len {W : List Nat} {i : Nat} {m : List Nat} (h : at_ W i m = true) : i + m.length ≤ W.length ∨ m = [] := by
  have e : (W.drop i).take m.length = m := of_decide_eq_true h
  have := congrArg List.length e
  rw [List.length_take, List.length_drop] at this
  by_cases z : m = []
  · exact .inr z
  · have : 0 < m.length := List.length_pos_iff.mpr z
    left
    omega
theorem at_le {W : List Nat} {i : Nat} {m : List Nat} (hi : i ≤ W.length) (h : at_ W i m = true) : i + m.length ≤ W.length := by
  rcases at_len h with q | q
  · exact q
  · subst q
    simpa using hi
theorem pc_at {T : List Pc} {W : List Nat} {i : Nat} {p : Pc} (h : p ∈ pcsAt T W i) : at_ W i p.1 = true ∧ ((p ∈ T) ∨ ∃ c, W[i]? = some c ∧ p = ([c], [c], 0)) := by
  rcases List.mem_append.mp h with h | h
  · obtain ⟨c, hc, rfl⟩ := List.mem_map.mp h
    obtain ⟨k, hk⟩ := List.mem_iff_getElem?.mp hc
    rw [List.getElem?_take] at hk
    split at hk
    · have : k = 0 := by omega
      subst this
      rw [List.getElem?_drop, Nat.add_zero] at hk
      refine ⟨?_, .inr ⟨c, hk, rfl⟩⟩
      obtain ⟨hlt, e⟩ := List.getElem?_eq_some_iff.mp hk
      refine decide_eq_true ?_
      show (W.drop i).take 1 = [c]
      rw [List.drop_eq_getElem_cons hlt, e]
      rfl
    · cases hk
  · have := List.mem_filter.mp h
    exact ⟨this.2, .inl this.1⟩
theorem kept_in {T : List Pc} {W : List Nat} {i c : Nat} (h : W[i]? = some c) : (([c], [c], 0) : Pc) ∈ pcsAt T W i := by
  refine List.mem_append_left _ (List.mem_map.mpr ⟨c, ?_, rfl⟩)
  obtain ⟨hlt, e⟩ := List.getElem?_eq_some_iff.mp h
  rw [List.drop_eq_getElem_cons hlt, e]
  exact List.mem_cons_self
theorem pc_cost {T : List Pc} (hT : Costs T) {W : List Nat} {i : Nat} {p : Pc} (h : p ∈ pcsAt T W i) : 0 ≤ p.2.2 ∧ 0 < p.1.length + p.2.1.length := by
  rcases (pc_at h).2 with q | ⟨c, _, rfl⟩
  · exact hT p q
  · exact ⟨Int.le_refl _, by show 0 < 1 + 1; decide⟩
theorem Way.le {T : List Pc} {W X : List Nat} {i j : Nat} {c : Int} (w : Way T W X i j c) : i ≤ W.length ∧ j ≤ X.length := by
  induction w with
  | zero => exact ⟨Nat.zero_le _, Nat.zero_le _⟩
  | step _ hp hx ih => exact ⟨at_le ih.1 (pc_at hp).1, at_le ih.2 hx⟩
theorem Way.pos {T : List Pc} (hT : Costs T) {W X : List Nat} {i j : Nat} {c : Int} (w : Way T W X i j c) : 0 ≤ c := by
  induction w with
  | zero => exact Int.le_refl _
  | step _ hp hx ih => have := (pc_cost hT hp).1; omega
/-! ### the queue -/
/-- the total, the two places, the last piece -/
structure Qi where
  c : Int
  i : Nat
  j : Nat
  p : Pc
abbrev Qi.key (x : Qi) : Nat × Nat := (x.i, x.j)
def qiD (x : Qi) : PyData := .tuple [.int x.c, .int x.i, .int x.j, pcD x.p]
abbrev qLt (x y : Qi) : Bool := PySem.W.dataLt (qiD x) (qiD y)
def qi0 : Qi := ⟨0, 0, 0, ([], [], 0)⟩
/-- what is laid behind x -/
def nexts (T : List Pc) (W X : List Nat) (x : Qi) : List Qi := ((pcsAt T W x.i).filter fun p => at_ X x.j p.2.1).map fun p => ⟨x.c + p.2.2, x.i + p.1.length, x.j + p.2.1.length, p⟩
/-- what is known: places, the total there, the last piece -/
abbrev En := (Nat × Nat) × (Int × Pc)
def has (b : List En) (k : Nat × Nat) : Bool := b.any fun e => decide (e.1 = k)
inductive Run (T : List Pc) (W X : List Nat) : List En → List Qi → List En → Prop
  | stop {b : List En} {q : List Qi} : (q = [] ∨ has b (W.length, X.length) = true) → Run T W X b q b
  | skip {b f : List En} {q q' : List Qi} {x : Qi} : has b (W.length, X.length) = false → (x :: q').Perm q → (∀ y ∈ q', qLt y x = false) → has b x.key = true → Run T W X b q' f → Run T W X b q f
  | take {b f : List En} {q q' q2 : List Qi} {x : Qi} : has b (W.length, X.length) = false → (x :: q').Perm q → (∀ y ∈ q', qLt y x = false) → has b x.key = false → q2.Perm (nexts T W X x ++ q') → Run T W X (b ++ [(x.key, (x.c, x.p))]) q2 f → Run T W X b q f
theorem s_inj {a b : List Nat} (h : S a = S b) : a = b := by
  have := congrArg (fun s : Str => s.cps.toList) h
  simpa using this
theorem alike_qi (x y : Qi) : PySem.W.alike (qiD x) (qiD y) = true := by simp [qiD, pcD, PySem.W.alike, PySem.W.alikeAll]
theorem qi_eqv {x y : Qi} (h : PyData.eqv (qiD x) (qiD y) = true) : x = y := by
  obtain ⟨c, i, j, m, t, k⟩ := x
  obtain ⟨c', i', j', m', t', k'⟩ := y
  simp [qiD, pcD, PyData.eqv, PyData.eqvAll] at h
  obtain ⟨h1, h2, h3, h4, h5, h6⟩ := h
  subst h1 h4 h5 h6
  have e2 : i = i' := by omega
  have e3 : j = j' := by omega
  subst e2 e3
  rfl
theorem least_eq {x y : Qi} (h1 : qLt x y = false) (h2 : qLt y x = false) : x = y := by
  by_cases e : PyData.eqv (qiD x) (qiD y) = true
  · exact qi_eqv e
  · have := lt_strict (alike_qi x y) (by simpa using e) h2
    rw [show PySem.W.dataLt (qiD x) (qiD y) = qLt x y from rfl, h1] at this
    cases this
theorem two_least {x x' : Qi} {q q' r r' : List Qi} (hq : (x :: q').Perm q) (hl : ∀ y ∈ q', qLt y x = false) (hr : (x' :: r').Perm r) (hl' : ∀ y ∈ r', qLt y x' = false) (h : q.Perm r) : x = x' ∧ q'.Perm r' := by
  have hp : (x :: q').Perm (x' :: r') := (hq.trans h).trans hr.symm
  have e : x = x' := by
    have m1 : x ∈ x' :: r' := hp.mem_iff.mp List.mem_cons_self
    have m2 : x' ∈ x :: q' := hp.mem_iff.mpr List.mem_cons_self
    rcases List.mem_cons.mp m1 with e | m1
    · exact e
    · rcases List.mem_cons.mp m2 with e | m2
      · exact e.symm
      · exact least_eq (hl' x m1) (hl x' m2)
  subst e
  exact ⟨rfl, hp.cons_inv⟩
theorem Run.det {T : List Pc} {W X : List Nat} {b f : List En} {q : List Qi} (h : Run T W X b q f) : ∀ {r : List Qi} {g : List En}, q.Perm r → Run T W X b r g → f = g := by
  induction h with
  | @stop b q hs =>
    intro r g hp h2
    cases h2 with
    | stop _ => rfl
    | @skip _ _ _ r' x hn hx _ _ _ =>
      rcases hs with hs | hs
      · subst hs
        have := (hx.trans hp.symm).eq_nil
        cases this
      · rw [hs] at hn; cases hn
    | @take _ _ _ r' _ x hn hx _ _ _ _ =>
      rcases hs with hs | hs
      · subst hs
        have := (hx.trans hp.symm).eq_nil
        cases this
      · rw [hs] at hn; cases hn
  | @skip b f q q' x hn hx hl hk _ ih =>
    intro r g hp h2
    cases h2 with
    | stop hs =>
      rcases hs with hs | hs
      · subst hs
        have := (hx.trans hp).eq_nil
        cases this
      · rw [hs] at hn; cases hn
    | @skip _ _ _ r' x' _ hx' hl' hk' h3 =>
      obtain ⟨rfl, hp'⟩ := two_least hx hl hx' hl' hp
      exact ih hp' h3
    | @take _ _ _ r' _ x' _ hx' hl' hk' _ h3 =>
      obtain ⟨rfl, hp'⟩ := two_least hx hl hx' hl' hp
      rw [hk] at hk'; cases hk'
  | @take b f q q' q2 x hn hx hl hk hq2 _ ih =>
    intro r g hp h2
    cases h2 with
    | stop hs =>
      rcases hs with hs | hs
      · subst hs
        have := (hx.trans hp).eq_nil
        cases this
      · rw [hs] at hn; cases hn
    | @skip _ _ _ r' x' _ hx' hl' hk' h3 =>
      obtain ⟨rfl, hp'⟩ := two_least hx hl hx' hl' hp
      rw [hk'] at hk; cases hk
    | @take _ _ _ r' r2 x' _ hx' hl' hk' hr2 h3 =>
      obtain ⟨rfl, hp'⟩ := two_least hx hl hx' hl' hp
      exact ih (hq2.trans ((List.Perm.append_left _ hp').trans hr2.symm)) h3
/-! ### what stands in the end -/
theorem lt_of_c {x y : Qi} (h : x.c < y.c) : qLt x y = true := by
  show PySem.W.dataLt (.tuple _) (.tuple _) = true
  rw [PySem.W.dataLt_tuple]
  have e : PyData.eqv (.int x.c) (.int y.c) = false := by
    show (x.c == y.c) = false
    rw [beq_eq_false_iff_ne]
    omega
  rw [PySem.W.dataLt_all_no (by simp [PySem.W.alike]) e, lt_int]
  exact decide_eq_true h
theorem least_c {x y : Qi} (h : qLt y x = false) : x.c ≤ y.c := by
  by_cases q : y.c < x.c
  · rw [lt_of_c q] at h; cases h
  · omega
theorem has_iff {b : List En} {k : Nat × Nat} : has b k = true ↔ ∃ e ∈ b, e.1 = k := by
  unfold has
  rw [List.any_eq_true]
  exact ⟨fun ⟨e, h1, h2⟩ => ⟨e, h1, of_decide_eq_true h2⟩, fun ⟨e, h1, h2⟩ => ⟨e, h1, decide_eq_true h2⟩⟩
theorem has_snoc {b : List En} {k : Nat × Nat} {e : En} : has (b ++ [e]) k = (has b k || decide (e.1 = k)) := by
  unfold has
  rw [List.any_append]
  simp
/-- what is known at a place -/
def val (b : List En) (k : Nat × Nat) : Option (Int × Pc) := (b.find? fun e => decide (e.1 = k)).map (·.2)
/-- where the last piece of an entry begins, there an entry stands too -/
def From (T : List Pc) (W X : List Nat) (b : List En) (e : En) : Prop := (e.1 = (0, 0) ∧ e.2.1 = 0) ∨
  ∃ e' ∈ b, e.2.2 ∈ pcsAt T W e'.1.1 ∧ at_ X e'.1.2 e.2.2.2.1 = true ∧ e.1 = (e'.1.1 + e.2.2.1.length, e'.1.2 + e.2.2.2.1.length) ∧ e.2.1 = e'.2.1 + e.2.2.2.2
structure Inv1 (T : List Pc) (W X : List Nat) (b : List En) (q : List Qi) : Prop where
  wq : ∀ x ∈ q, Way T W X x.i x.j x.c
  wb : ∀ e ∈ b, Way T W X e.1.1 e.1.2 e.2.1
  lb : ∀ e ∈ b, ∀ c, Way T W X e.1.1 e.1.2 c → e.2.1 ≤ c
  nx : ∀ e ∈ b, ∀ p ∈ pcsAt T W e.1.1, at_ X e.1.2 p.2.1 = true → (∃ x ∈ q, x.key = (e.1.1 + p.1.length, e.1.2 + p.2.1.length) ∧ x.c ≤ e.2.1 + p.2.2) ∨ has b (e.1.1 + p.1.length, e.1.2 + p.2.1.length) = true
  st : has b (0, 0) = true ∨ ∃ x ∈ q, x.key = (0, 0) ∧ x.c ≤ 0
  fq : ∀ x ∈ q, (x.key = (0, 0) ∧ x.c = 0) ∨ ∃ e ∈ b, x.p ∈ pcsAt T W e.1.1 ∧ at_ X e.1.2 x.p.2.1 = true ∧ x.key = (e.1.1 + x.p.1.length, e.1.2 + x.p.2.1.length) ∧ x.c = e.2.1 + x.p.2.2
  fb : ∀ e ∈ b, From T W X b e
  nd : b.Pairwise fun e g => e.1 ≠ g.1
theorem Inv1.perm {T : List Pc} {W X : List Nat} {b : List En} {q r : List Qi} (h : q.Perm r) (I : Inv1 T W X b q) : Inv1 T W X b r where
  wq := fun x hx => I.wq x (h.mem_iff.mpr hx)
  wb := I.wb
  lb := I.lb
  nx := fun e he p hp hx => (I.nx e he p hp hx).imp (fun ⟨x, m, r⟩ => ⟨x, h.mem_iff.mp m, r⟩) id
  st := I.st.imp id fun ⟨x, m, r⟩ => ⟨x, h.mem_iff.mp m, r⟩
  fq := fun x hx => I.fq x (h.mem_iff.mpr hx)
  fb := I.fb
  nd := I.nd
theorem inv_start1 (T : List Pc) (W X : List Nat) : Inv1 T W X [] [qi0] where
  wq := fun x hx => by
    rw [List.mem_singleton.mp hx]
    exact .zero
  wb := fun e he => by cases he
  lb := fun e he => by cases he
  nx := fun e he => by cases he
  st := .inr ⟨qi0, List.mem_singleton.mpr rfl, rfl, Int.le_refl _⟩
  fq := fun x hx => by
    rw [List.mem_singleton.mp hx]
    exact .inl ⟨rfl, rfl⟩
  fb := fun e he => by cases he
  nd := .nil
/-- a way leads to what is known, or by what waits -/
theorem Inv1.cut {T : List Pc} (hT : Costs T) {W X : List Nat} {b : List En} {q : List Qi} (I : Inv1 T W X b q) {i j : Nat} {c : Int} (w : Way T W X i j c) : has b (i, j) = true ∨ ∃ x ∈ q, x.c ≤ c := by
  induction w with
  | zero =>
    rcases I.st with h | ⟨x, hx, _, hc⟩
    · exact .inl h
    · exact .inr ⟨x, hx, hc⟩
  | @step i j c p w hp hx ih =>
    have hpos := (pc_cost hT hp).1
    rcases ih with h | ⟨x, hm, hc⟩
    · obtain ⟨e, he, hk⟩ := has_iff.mp h
      have e1 : e.1.1 = i := by rw [hk]
      have e2 : e.1.2 = j := by rw [hk]
      have hle := I.lb e he c (by rw [e1, e2]; exact w)
      rcases I.nx e he p (by rw [e1]; exact hp) (by rw [e2]; exact hx) with ⟨x, hm, _, hc⟩ | h2
      · exact .inr ⟨x, hm, by omega⟩
      · rw [e1, e2] at h2
        exact .inl h2
    · exact .inr ⟨x, hm, by omega⟩
theorem Inv1.skip {T : List Pc} {W X : List Nat} {b : List En} {q : List Qi} {x : Qi} (I : Inv1 T W X b (x :: q)) (hk : has b x.key = true) : Inv1 T W X b q where
  wq := fun y hy => I.wq y (List.mem_cons_of_mem _ hy)
  wb := I.wb
  lb := I.lb
  nx := fun e he p hp hx => by
    rcases I.nx e he p hp hx with ⟨y, hm, hy, hc⟩ | h
    · rcases List.mem_cons.mp hm with rfl | hm
      · right
        rw [← hy]
        exact hk
      · exact .inl ⟨y, hm, hy, hc⟩
    · exact .inr h
  st := by
    rcases I.st with h | ⟨y, hm, hy, hc⟩
    · exact .inl h
    · rcases List.mem_cons.mp hm with rfl | hm
      · left
        rw [← hy]
        exact hk
      · exact .inr ⟨y, hm, hy, hc⟩
  fq := fun y hy => I.fq y (List.mem_cons_of_mem _ hy)
  fb := I.fb
  nd := I.nd
theorem mem_nexts {T : List Pc} {W X : List Nat} {x y : Qi} : y ∈ nexts T W X x ↔ ∃ p ∈ pcsAt T W x.i, at_ X x.j p.2.1 = true ∧ y = ⟨x.c + p.2.2, x.i + p.1.length, x.j + p.2.1.length, p⟩ := by
  unfold nexts
  constructor
  · intro h
    obtain ⟨p, hp, rfl⟩ := List.mem_map.mp h
    have := List.mem_filter.mp hp
    exact ⟨p, this.1, this.2, rfl⟩
  · rintro ⟨p, hp, hx, rfl⟩
    exact List.mem_map.mpr ⟨p, List.mem_filter.mpr ⟨hp, hx⟩, rfl⟩
theorem Inv1.take {T : List Pc} (hT : Costs T) {W X : List Nat} {b : List En} {q : List Qi} {x : Qi} (I : Inv1 T W X b (x :: q)) (hl : ∀ y ∈ q, qLt y x = false) (hk : has b x.key = false) : Inv1 T W X (b ++ [(x.key, (x.c, x.p))]) (nexts T W X x ++ q) := by
  have wx := I.wq x List.mem_cons_self
  have hmem : ∀ e ∈ b ++ [((x.key, (x.c, x.p)) : En)], e ∈ b ∨ e = (x.key, (x.c, x.p)) := fun e he => (List.mem_append.mp he).imp id List.mem_singleton.mp
  have hin : ((x.key, (x.c, x.p)) : En) ∈ b ++ [((x.key, (x.c, x.p)) : En)] := List.mem_append_right _ (List.mem_singleton.mpr rfl)
  have hhas : ∀ k, has b k = true → has (b ++ [((x.key, (x.c, x.p)) : En)]) k = true := fun k h => by rw [has_snoc, h, Bool.true_or]
  have hself : has (b ++ [((x.key, (x.c, x.p)) : En)]) x.key = true := by rw [has_snoc, decide_eq_true rfl, Bool.or_true]
  refine ⟨fun y hy => ?_, fun e he => ?_, fun e he c w => ?_, fun e he p hp hx => ?_, ?_, fun y hy => ?_, fun e he => ?_, ?_⟩
  · rcases List.mem_append.mp hy with hy | hy
    · obtain ⟨p, hp, hx, rfl⟩ := mem_nexts.mp hy
      exact .step wx hp hx
    · exact I.wq y (List.mem_cons_of_mem _ hy)
  · rcases hmem e he with he | rfl
    · exact I.wb e he
    · exact wx
  · rcases hmem e he with he | rfl
    · exact I.lb e he c w
    · rcases I.cut hT w with h | ⟨y, hm, hc⟩
      · rw [show has b (x.key.1, x.key.2) = has b x.key from rfl, hk] at h
        cases h
      · rcases List.mem_cons.mp hm with rfl | hm
        · exact hc
        · exact Int.le_trans (least_c (hl y hm)) hc
  · rcases hmem e he with he | rfl
    · rcases I.nx e he p hp hx with ⟨y, hm, hy, hc⟩ | h
      · rcases List.mem_cons.mp hm with rfl | hm
        · right
          rw [← hy]
          exact hself
        · exact .inl ⟨y, List.mem_append_right _ hm, hy, hc⟩
      · exact .inr (hhas _ h)
    · exact .inl ⟨_, List.mem_append_left _ (mem_nexts.mpr ⟨p, hp, hx, rfl⟩), rfl, Int.le_refl _⟩
  · rcases I.st with h | ⟨y, hm, hy, hc⟩
    · exact .inl (hhas _ h)
    · rcases List.mem_cons.mp hm with rfl | hm
      · left
        rw [← hy]
        exact hself
      · exact .inr ⟨y, List.mem_append_right _ hm, hy, hc⟩
  · rcases List.mem_append.mp hy with hy | hy
    · obtain ⟨p, hp, hx, rfl⟩ := mem_nexts.mp hy
      exact .inr ⟨_, hin, hp, hx, rfl, rfl⟩
    · rcases I.fq y (List.mem_cons_of_mem _ hy) with h | ⟨e, he, r⟩
      · exact .inl h
      · exact .inr ⟨e, List.mem_append_left _ he, r⟩
  · rcases hmem e he with he | rfl
    · rcases I.fb e he with h | ⟨e', he', r⟩
      · exact .inl h
      · exact .inr ⟨e', List.mem_append_left _ he', r⟩
    · rcases I.fq x List.mem_cons_self with h | ⟨e', he', r1, r2, r3, r4⟩
      · exact .inl h
      · exact .inr ⟨e', List.mem_append_left _ he', r1, r2, r3, r4⟩
  · refine List.pairwise_append.mpr ⟨I.nd, List.pairwise_singleton _ _, fun e he g hg => ?_⟩
    rw [List.mem_singleton.mp hg]
    intro z
    have : has b x.key = true := has_iff.mpr ⟨e, he, z⟩
    rw [hk] at this
    cases this
/-- the end of the search: what is known, nothing else leads to the goal -/
structure Done (T : List Pc) (W X : List Nat) (f : List En) : Prop where
  wb : ∀ e ∈ f, Way T W X e.1.1 e.1.2 e.2.1
  lb : ∀ e ∈ f, ∀ c, Way T W X e.1.1 e.1.2 c → e.2.1 ≤ c
  fb : ∀ e ∈ f, From T W X f e
  nd : f.Pairwise fun e g => e.1 ≠ g.1
  all : ∀ c, Way T W X W.length X.length c → has f (W.length, X.length) = true
theorem Run.done {T : List Pc} (hT : Costs T) {W X : List Nat} {b f : List En} {q : List Qi} (h : Run T W X b q f) (I : Inv1 T W X b q) : Done T W X f := by
  induction h with
  | @stop b q hs =>
    refine ⟨I.wb, I.lb, I.fb, I.nd, fun c w => ?_⟩
    rcases hs with hs | hs
    · subst hs
      rcases I.cut hT w with h | ⟨x, hx, _⟩
      · exact h
      · cases hx
    · exact hs
  | skip _ hx _ hk _ ih => exact ih ((I.perm hx.symm).skip hk)
  | take _ hx hl hk hq2 _ ih => exact ih (((I.perm hx.symm).take hT hl hk).perm hq2.symm)
end Slip
/-! the least price, by what is known in the end; the way back; the law's rows -/
namespace Slip
open PySem PySem.Spec PyProof.Rows L2
/-- the least price of the whole -/
def PriceIs (T : List Pc) (W X : List Nat) : Option Int → Prop
  | some c => Way T W X W.length X.length c ∧ ∀ c', Way T W X W.length X.length c' → c ≤ c'
  | none => ∀ c, ¬ Way T W X W.length X.length c
theorem PriceIs.unique {T : List Pc} {W X : List Nat} {o o' : Option Int} (h : PriceIs T W X o) (h' : PriceIs T W X o') : o = o' := by
  cases o with
  | none =>
    cases o' with
    | none => rfl
    | some c => exact absurd h'.1 (h c)
  | some c =>
    cases o' with
    | none => exact absurd h.1 (h' c)
    | some c' =>
      have h1 := h.2 c' h'.1
      have h2 := h'.2 c h.1
      have : c = c' := by omega
      rw [this]
theorem val_some {b : List En} {k : Nat × Nat} {v : Int × Pc} (h : val b k = some v) : (k, v) ∈ b := by
  unfold val at h
  cases q : b.find? fun e => decide (e.1 = k) with
  | none => rw [q] at h; cases h
  | some e =>
    rw [q] at h
    have e1 : e.1 = k := by
      have := List.find?_some q
      exact of_decide_eq_true this
    have e2 : e.2 = v := Option.some.inj h
    have := List.mem_of_find?_eq_some q
    rw [← e1, ← e2]
    exact this
theorem val_none {b : List En} {k : Nat × Nat} (h : val b k = none) : has b k = false := by
  unfold val at h
  cases q : b.find? fun e => decide (e.1 = k) with
  | none =>
    have := List.find?_eq_none.mp q
    cases z : has b k with
    | false => rfl
    | true =>
      obtain ⟨e, he, hk⟩ := has_iff.mp z
      exact absurd (decide_eq_true hk) (this e he)
  | some e => rw [q] at h; cases h
theorem has_val {b : List En} {k : Nat × Nat} : has b k = (val b k).isSome := by
  cases q : val b k with
  | none => exact val_none q
  | some v => exact has_iff.mpr ⟨_, val_some q, rfl⟩
theorem val_of {b : List En} (nd : b.Pairwise fun e g => e.1 ≠ g.1) {e : En} (he : e ∈ b) : val b e.1 = some e.2 := by
  cases q : val b e.1 with
  | none =>
    have := val_none q
    rw [has_iff.mpr ⟨e, he, rfl⟩] at this
    cases this
  | some v =>
    have hm := val_some q
    have : ∀ {b : List En}, (b.Pairwise fun e g => e.1 ≠ g.1) → ∀ {e g : En}, e ∈ b → g ∈ b → e.1 = g.1 → e = g := by
      intro b
      induction b with
      | nil => intro _ e g he; cases he
      | cons a b ih =>
        intro nd e g he hg ek
        obtain ⟨n1, n2⟩ := List.pairwise_cons.mp nd
        rcases List.mem_cons.mp he with h1 | h1
        · rcases List.mem_cons.mp hg with h2 | h2
          · rw [h1, h2]
          · exact absurd (h1 ▸ ek) (n1 g h2)
        · rcases List.mem_cons.mp hg with h2 | h2
          · exact absurd (h2 ▸ ek.symm) (n1 e h1)
          · exact ih n2 h1 h2 ek
    have e1 := this nd he hm rfl
    rw [e1]
def priceOf (f : List En) (k : Nat × Nat) : Option Int := (val f k).map (·.1)
theorem Done.price {T : List Pc} {W X : List Nat} {f : List En} (d : Done T W X f) : PriceIs T W X (priceOf f (W.length, X.length)) := by
  unfold priceOf
  cases q : val f (W.length, X.length) with
  | none =>
    intro c w
    have := d.all c w
    rw [val_none q] at this
    cases this
  | some v =>
    have hm := val_some q
    exact ⟨d.wb _ hm, d.lb _ hm⟩
/-! ### the way back -/
def back (f : List En) : Nat → Nat × Nat → List Pc
  | 0, _ => []
  | n + 1, k => if k = (0, 0) then [] else match val f k with
    | some v => v.2 :: back f n (k.1 - v.2.1.length, k.2 - v.2.2.1.length)
    | none => []
def cutOf (f : List En) (k : Nat × Nat) : List Pc := (back f (k.1 + k.2) k).reverse
/-- a cut: the pieces of W up to i, X up to j, their sum -/
structure CutTo (T : List Pc) (W X : List Nat) (i j : Nat) (c : Int) (ps : List Pc) : Prop where
  m : (ps.map (·.1)).flatten = W.take i
  t : (ps.map (·.2.1)).flatten = X.take j
  c : (ps.map (·.2.2)).sum = c
  p : ∀ p ∈ ps, p ∈ T ∨ ∃ x ∈ W, p = ([x], [x], 0)
theorem take_at {W : List Nat} {i : Nat} {m : List Nat} (h : at_ W i m = true) : W.take i ++ m = W.take (i + m.length) := by
  have e : (W.drop i).take m.length = m := of_decide_eq_true h
  rw [List.take_add, e]
theorem back_cut {T : List Pc} (hT : Costs T) {W X : List Nat} {f : List En} (d : Done T W X f) : ∀ (n : Nat) (e : En), e ∈ f → e.1.1 + e.1.2 ≤ n → CutTo T W X e.1.1 e.1.2 e.2.1 (back f n e.1).reverse
  | 0, e, he, hn => by
    have hk : e.1 = (0, 0) := Prod.ext (by omega) (by omega)
    have hc : e.2.1 = 0 := by
      have w := d.wb e he
      have l := d.lb e he 0 (by rw [hk]; exact .zero)
      have := w.pos hT
      omega
    rw [hk, hc]
    exact ⟨rfl, rfl, rfl, fun p hp => by cases hp⟩
  | n + 1, e, he, hn => by
    by_cases hk : e.1 = (0, 0)
    · have hc : e.2.1 = 0 := by
        have w := d.wb e he
        have l := d.lb e he 0 (by rw [hk]; exact .zero)
        have := w.pos hT
        omega
      show CutTo T W X _ _ _ (if e.1 = (0, 0) then [] else _ : List Pc).reverse
      rw [if_pos hk, hk, hc]
      exact ⟨rfl, rfl, rfl, fun p hp => by cases hp⟩
    · have hv := val_of d.nd he
      have hb : back f (n + 1) e.1 = e.2.2 :: back f n (e.1.1 - e.2.2.1.length, e.1.2 - e.2.2.2.1.length) := by
        show (if e.1 = (0, 0) then [] else match val f e.1 with
          | some v => v.2 :: back f n (e.1.1 - v.2.1.length, e.1.2 - v.2.2.1.length)
          | none => []) = _
        rw [if_neg hk, hv]
      rw [hb, List.reverse_cons]
      rcases d.fb e he with ⟨z, _⟩ | ⟨e', he', hp, hx, ek, ec⟩
      · exact absurd z hk
      · have e1 : e.1.1 = e'.1.1 + e.2.2.1.length := by rw [ek]
        have e2 : e.1.2 = e'.1.2 + e.2.2.2.1.length := by rw [ek]
        have hpos := (pc_cost hT hp).2
        have key : (e.1.1 - e.2.2.1.length, e.1.2 - e.2.2.2.1.length) = e'.1 := Prod.ext (by show e.1.1 - _ = _; omega) (by show e.1.2 - _ = _; omega)
        rw [key]
        have ih := back_cut hT d n e' he' (by omega)
        have hm := pc_at hp
        refine ⟨?_, ?_, ?_, fun p hp' => ?_⟩
        · rw [List.map_append, List.flatten_append, ih.m, e1]
          simp only [List.map_cons, List.map_nil, List.flatten_cons, List.flatten_nil, List.append_nil]
          exact take_at hm.1
        · rw [List.map_append, List.flatten_append, ih.t, e2]
          simp only [List.map_cons, List.map_nil, List.flatten_cons, List.flatten_nil, List.append_nil]
          exact take_at hx
        · rw [List.map_append, List.sum_append, ih.c, ec]
          simp
        · rcases List.mem_append.mp hp' with hp' | hp'
          · exact ih.p p hp'
          · rw [List.mem_singleton.mp hp']
            rcases hm.2 with q | ⟨c, q, r⟩
            · exact .inl q
            · exact .inr ⟨c, List.mem_of_getElem? q, r⟩
/-! ### the law's rows -/
structure Dpi (T : List Pc) (W X : List Nat) (G : Nat → Nat → Option Int) (dn : Nat → Nat → Prop) : Prop where
  g1 : ∀ i j c, G i j = some c → Way T W X i j c
  g2 : ∀ i j c, dn i j → G i j = some c → ∀ p ∈ pcsAt T W i, at_ X j p.2.1 = true → ∃ c', G (i + p.1.length) (j + p.2.1.length) = some c' ∧ c' ≤ c + p.2.2
  g3 : ∃ c, G 0 0 = some c ∧ c ≤ 0
def put (G : Nat → Nat → Option Int) (i j : Nat) (c : Int) : Nat → Nat → Option Int := fun a b => if a = i ∧ b = j then some c else G a b
theorem Dpi.all {T : List Pc} {W X : List Nat} {G : Nat → Nat → Option Int} {dn : Nat → Nat → Prop} (D : Dpi T W X G dn) (h : ∀ i j, i ≤ W.length → j ≤ X.length → dn i j) {i j : Nat} {c : Int} (w : Way T W X i j c) : ∃ c', G i j = some c' ∧ c' ≤ c := by
  induction w with
  | zero => exact D.g3
  | @step i j c p w hp hx ih =>
    obtain ⟨c', e, hc⟩ := ih
    obtain ⟨c2, e2, hc2⟩ := D.g2 i j c' (h i j w.le.1 w.le.2) e p hp hx
    exact ⟨c2, e2, by omega⟩
theorem Dpi.price {T : List Pc} {W X : List Nat} {G : Nat → Nat → Option Int} {dn : Nat → Nat → Prop} (D : Dpi T W X G dn) (h : ∀ i j, i ≤ W.length → j ≤ X.length → dn i j) : PriceIs T W X (G W.length X.length) := by
  cases q : G W.length X.length with
  | none =>
    intro c w
    obtain ⟨c', e, _⟩ := D.all h w
    rw [q] at e
    cases e
  | some c =>
    refine ⟨D.g1 _ _ _ q, fun c' w => ?_⟩
    obtain ⟨c2, e, hc⟩ := D.all h w
    rw [q] at e
    cases e
    exact hc
/-- one step from (i, j): what stands behind it gets its price -/
theorem Dpi.step {T : List Pc} (hT : Costs T) {W X : List Nat} {G : Nat → Nat → Option Int} {dn : Nat → Nat → Prop} (D : Dpi T W X G dn) {i j : Nat} {c : Int} (hc : G i j = some c) {p : Pc} (hp : p ∈ pcsAt T W i) (hx : at_ X j p.2.1 = true) (hdn : ∀ a b, dn a b → a + b ≤ i + j)
    (hl : ∀ c', G (i + p.1.length) (j + p.2.1.length) = some c' → c + p.2.2 < c') : Dpi T W X (put G (i + p.1.length) (j + p.2.1.length) (c + p.2.2)) dn := by
  have hpos := (pc_cost hT hp).2
  have low : ∀ a b c0, G a b = some c0 → ∃ c', put G (i + p.1.length) (j + p.2.1.length) (c + p.2.2) a b = some c' ∧ c' ≤ c0 := fun a b c0 e => by
    unfold put
    by_cases q : a = i + p.1.length ∧ b = j + p.2.1.length
    · obtain ⟨rfl, rfl⟩ := q
      rw [if_pos ⟨rfl, rfl⟩]
      exact ⟨_, rfl, Int.le_of_lt (hl c0 e)⟩
    · rw [if_neg q]
      exact ⟨c0, e, Int.le_refl _⟩
  refine ⟨fun a b c0 e => ?_, fun a b c0 hd e p' hp' hx' => ?_, ?_⟩
  · unfold put at e
    by_cases q : a = i + p.1.length ∧ b = j + p.2.1.length
    · rw [if_pos q] at e
      cases e
      rw [q.1, q.2]
      exact .step (D.g1 _ _ _ hc) hp hx
    · rw [if_neg q] at e
      exact D.g1 _ _ _ e
  · have hn : ¬ (a = i + p.1.length ∧ b = j + p.2.1.length) := fun q => by
      have := hdn a b hd
      omega
    unfold put at e
    rw [if_neg hn] at e
    obtain ⟨c1, e1, h1⟩ := D.g2 a b c0 hd e p' hp' hx'
    obtain ⟨c2, e2, h2⟩ := low _ _ _ e1
    exact ⟨c2, e2, by omega⟩
  · obtain ⟨c0, e0, h0⟩ := D.g3
    obtain ⟨c2, e2, h2⟩ := low _ _ _ e0
    exact ⟨c2, e2, by omega⟩
end Slip
/-! tables that price alike, least tables: pure part -/
namespace Slip
open Classical
/-- p has a cut by T of its own price or less -/
def GenP (T : List Pc) (p : Pc) : Prop := ∃ c, Way T p.1 p.2.1 p.1.length p.2.1.length c ∧ c ≤ p.2.2
def Gen (T T' : List Pc) : Prop := ∀ p ∈ T, GenP T' p
theorem at_sub {W m n : List Nat} {i a : Nat} (h : at_ W i m = true) (ha : a + n.length ≤ m.length) (hn : at_ m a n = true) : at_ W (i + a) n = true := by
  have e1 : (W.drop i).take m.length = m := of_decide_eq_true h
  have e2 : (m.drop a).take n.length = n := of_decide_eq_true hn
  refine decide_eq_true ?_
  rw [← e1] at e2
  rw [List.drop_take, List.take_take, List.drop_drop] at e2
  have : min n.length (m.length - a) = n.length := by omega
  rw [this] at e2
  exact e2
theorem at_get {W m : List Nat} {i a c : Nat} (h : at_ W i m = true) (hm : m[a]? = some c) : W[i + a]? = some c := by
  have e1 : (W.drop i).take m.length = m := of_decide_eq_true h
  have ha := (List.getElem?_eq_some_iff.mp hm).1
  rw [← e1, List.getElem?_take, if_pos ha, List.getElem?_drop] at hm
  exact hm
theorem pc_of {T : List Pc} {W : List Nat} {i : Nat} {p : Pc} (h : p ∈ T) (ha : at_ W i p.1 = true) : p ∈ pcsAt T W i := List.mem_append_right _ (List.mem_filter.mpr ⟨h, ha⟩)
/-- the cut of a piece goes on from where it stands -/
theorem Way.comp {T : List Pc} {W X m t : List Nat} {i j : Nat} {c0 : Int} (w : Way T W X i j c0) (hm : at_ W i m = true) (ht : at_ X j t = true) {a b : Nat} {c : Int} (v : Way T m t a b c) : Way T W X (i + a) (j + b) (c0 + c) := by
  induction v with
  | zero =>
    rw [Int.add_zero]
    exact w
  | @step a b c p v hp hx ih =>
    have hle := v.le
    rw [← Nat.add_assoc, ← Nat.add_assoc, ← Int.add_assoc]
    refine .step ih ?_ (at_sub ht (at_le hle.2 hx) hx)
    rcases pc_at hp with ⟨ha, hT | ⟨x, hx', rfl⟩⟩
    · exact pc_of hT (at_sub hm (at_le hle.1 ha) ha)
    · exact kept_in (at_get hm hx')
theorem Way.map {T T' : List Pc} (h : Gen T T') {W X : List Nat} {i j : Nat} {c : Int} (w : Way T W X i j c) : ∃ c', Way T' W X i j c' ∧ c' ≤ c := by
  induction w with
  | zero => exact ⟨0, .zero, Int.le_refl _⟩
  | @step i j c p w hp hx ih =>
    obtain ⟨c1, w1, h1⟩ := ih
    rcases pc_at hp with ⟨ha, hT | ⟨x, hx', rfl⟩⟩
    · obtain ⟨c2, w2, h2⟩ := h p hT
      exact ⟨c1 + c2, w1.comp ha hx w2, by omega⟩
    · exact ⟨c1 + 0, .step w1 (kept_in hx') hx, by show c1 + 0 ≤ c + 0; omega⟩
theorem at_self (m : List Nat) : at_ m 0 m = true := decide_eq_true (by rw [List.drop_zero, List.take_length])
theorem gen_one {T : List Pc} {p : Pc} (h : p ∈ T) : Way T p.1 p.2.1 p.1.length p.2.1.length p.2.2 := by
  have := Way.step (T := T) (W := p.1) (X := p.2.1) .zero (pc_of h (at_self p.1)) (at_self p.2.1)
  rw [Nat.zero_add, Nat.zero_add, Int.zero_add] at this
  exact this
theorem gen_mem {T : List Pc} {p : Pc} (h : p ∈ T) : GenP T p := ⟨_, gen_one h, Int.le_refl _⟩
theorem gen_sub {T T' : List Pc} (h : ∀ p ∈ T, p ∈ T') : Gen T T' := fun p hp => gen_mem (h p hp)
theorem Way.sub {T T' : List Pc} (h : ∀ p ∈ T, p ∈ T') {W X : List Nat} {i j : Nat} {c : Int} (w : Way T W X i j c) : Way T' W X i j c := by
  induction w with
  | zero => exact .zero
  | step w hp hx ih =>
    refine .step ih ?_ hx
    rcases pc_at hp with ⟨ha, hT | ⟨x, hx', rfl⟩⟩
    · exact pc_of (h _ hT) ha
    · exact kept_in hx'
/-- prices are the same -/
theorem Gen.price {T T' : List Pc} (h : Gen T T') (h' : Gen T' T) {W X : List Nat} {o o' : Option Int} (p : PriceIs T W X o) (p' : PriceIs T' W X o') : o = o' := by
  cases o with
  | none =>
    cases o' with
    | none => rfl
    | some c =>
      obtain ⟨c', w, _⟩ := p'.1.map h'
      exact absurd w (p c')
  | some c =>
    obtain ⟨c1, w1, h1⟩ := p.1.map h
    cases o' with
    | none => exact absurd w1 (p' c1)
    | some c' =>
      obtain ⟨c2, w2, h2⟩ := p'.1.map h'
      have a := p.2 _ w2
      have b := p'.2 _ w1
      have : c = c' := by omega
      rw [this]
/-- the faults of both cost the same in both: then all is alike -/
theorem gen_of {T T' : List Pc} (h : ∀ p ∈ T, ∃ o, PriceIs T p.1 p.2.1 o ∧ PriceIs T' p.1 p.2.1 o) : Gen T T' := fun p hp => by
  obtain ⟨o, h1, h2⟩ := h p hp
  have w := gen_one hp
  cases o with
  | none => exact absurd w (h1 _)
  | some c => exact ⟨c, h2.1, h1.2 _ w⟩
/-! ### least tables -/
noncomputable def rem (T : List Pc) (p : Pc) : List Pc := T.filter fun q => decide (q ≠ p)
theorem mem_rem {T : List Pc} {p q : Pc} : q ∈ rem T p ↔ q ∈ T ∧ q ≠ p := by
  unfold rem
  rw [List.mem_filter, decide_eq_true_eq]
/-- no other faults make p up -/
def Keep (T : List Pc) (p : Pc) : Prop := ∀ c, Way (rem T p) p.1 p.2.1 p.1.length p.2.1.length c → p.2.2 < c
noncomputable def least (T : List Pc) : List Pc := T.filter fun p => decide (Keep T p)
theorem mem_least {T : List Pc} {p : Pc} : p ∈ least T ↔ p ∈ T ∧ Keep T p := by
  unfold least
  rw [List.mem_filter, decide_eq_true_eq]
theorem keep_iff {T : List Pc} {p : Pc} {o : Option Int} (h : PriceIs (rem T p) p.1 p.2.1 o) : Keep T p ↔ (match o with | some c => p.2.2 < c | none => True) := by
  cases o with
  | none => exact ⟨fun _ => trivial, fun _ c w => absurd w (h c)⟩
  | some c => exact ⟨fun k => k c h.1, fun k c' w => Int.lt_of_lt_of_le k (h.2 c' w)⟩
theorem lex5 {a b : Int} {s t : Nat} (ha : 0 ≤ a) (hs : s ≤ 4) (h : a < b) : a.toNat * 5 + s < b.toNat * 5 + t := by omega
def sizeP (p : Pc) : Nat := p.1.length + p.2.1.length
theorem gen_least {T : List Pc} (hT : Costs T) : ∀ (n : Nat) (p : Pc), p ∈ T → (p.2.2.toNat * 5 + sizeP p) ≤ n → (∀ q ∈ T, sizeP q ≤ 4) → GenP (least T) p
  | n, p, hp, hn, h4 => by
    by_cases hk : Keep T p
    · exact gen_mem (mem_least.mpr ⟨hp, hk⟩)
    · have : ∃ c, Way (rem T p) p.1 p.2.1 p.1.length p.2.1.length c ∧ c ≤ p.2.2 := by
        apply Classical.byContradiction
        intro h
        exact hk fun c w => Int.not_le.mp fun z => h ⟨c, w, z⟩
      obtain ⟨c, w, hc⟩ := this
      have key : ∀ (i j : Nat) (c : Int), Way (rem T p) p.1 p.2.1 i j c → c ≤ p.2.2 → ∃ c', Way (least T) p.1 p.2.1 i j c' ∧ c' ≤ c := by
        intro i j c w
        induction w with
        | zero => exact fun _ => ⟨0, .zero, Int.le_refl _⟩
        | @step i j c q w hq hx ih =>
          intro hle
          have hpos : 0 ≤ c := w.pos (fun r hr => hT r (mem_rem.mp hr).1)
          rcases pc_at hq with ⟨ha, hqT | ⟨x, hx', rfl⟩⟩
          · obtain ⟨hqT, hne⟩ := mem_rem.mp hqT
            have hq0 := (hT q hqT).1
            obtain ⟨c1, w1, h1⟩ := ih (by omega)
            have hl := w.le
            have hl1 := at_le hl.1 ha
            have hl2 := at_le hl.2 hx
            have hp0 := (hT p hp).1
            have hlt : q.2.2.toNat * 5 + sizeP q < p.2.2.toNat * 5 + sizeP p := by
              have h4q := h4 q hqT
              by_cases z : q.2.2 < p.2.2
              · exact lex5 hq0 h4q z
              · have hqp : q.2.2 ≤ p.2.2 := by
                  have : c + q.2.2 ≤ p.2.2 := hle
                  omega
                have ec : q.2.2 = p.2.2 := Int.le_antisymm hqp (Int.not_lt.mp z)
                by_cases z2 : q.1.length + q.2.1.length < p.1.length + p.2.1.length
                · rw [ec]
                  exact Nat.add_lt_add_left z2 _
                · exfalso
                  have i0 : i = 0 := by omega
                  have j0 : j = 0 := by omega
                  have l1 : q.1.length = p.1.length := by omega
                  have l2 : q.2.1.length = p.2.1.length := by omega
                  rw [i0] at ha
                  rw [j0] at hx
                  have e1 : (p.1.drop 0).take q.1.length = q.1 := of_decide_eq_true ha
                  have e2 : (p.2.1.drop 0).take q.2.1.length = q.2.1 := of_decide_eq_true hx
                  rw [List.drop_zero, l1, List.take_length] at e1
                  rw [List.drop_zero, l2, List.take_length] at e2
                  exact hne (Prod.ext e1.symm (Prod.ext e2.symm ec))
            obtain ⟨c2, w2, h2⟩ := gen_least hT (q.2.2.toNat * 5 + sizeP q) q hqT (Nat.le_refl _) h4
            exact ⟨c1 + c2, w1.comp ha hx w2, by omega⟩
          · obtain ⟨c1, w1, h1⟩ := ih (by have : c + 0 ≤ p.2.2 := hle; omega)
            exact ⟨c1 + 0, .step w1 (kept_in hx') hx, by show c1 + 0 ≤ c + 0; omega⟩
      obtain ⟨c', w', h'⟩ := key _ _ c w hc
      exact ⟨c', w', by omega⟩
termination_by n p => p.2.2.toNat * 5 + sizeP p
theorem least_gen {T : List Pc} (hT : Costs T) (h4 : ∀ q ∈ T, sizeP q ≤ 4) : Gen T (least T) := fun p hp => gen_least hT _ p hp (Nat.le_refl _) h4
theorem least_sub {T : List Pc} : ∀ p ∈ least T, p ∈ T := fun p hp => (mem_least.mp hp).1
theorem rem_sub {T T' : List Pc} (h : ∀ p ∈ T, p ∈ T') {p : Pc} : ∀ q ∈ rem T p, q ∈ rem T' p := fun q hq => mem_rem.mpr ⟨h q (mem_rem.mp hq).1, (mem_rem.mp hq).2⟩
theorem Keep.sub {T T' : List Pc} (h : ∀ p ∈ T, p ∈ T') {p : Pc} (k : Keep T' p) : Keep T p := fun c w => k c (w.sub (rem_sub h))
theorem least_least {T : List Pc} : least (least T) = least T := by
  show (least T).filter _ = least T
  rw [List.filter_eq_self]
  exact fun p hp => decide_eq_true ((mem_least.mp hp).2.sub least_sub)
/-- without one of its faults a least table is another -/
theorem least_less {T D : List Pc} {p : Pc} (hp : p ∈ least T) (hD : ∀ q ∈ D, q ∈ least T ∧ q ≠ p) : ¬ Gen T D := fun g => by
  obtain ⟨hpT, hk⟩ := mem_least.mp hp
  obtain ⟨c, w, hc⟩ := g p hpT
  have := hk c (w.sub fun q hq => mem_rem.mpr ⟨least_sub q (hD q hq).1, (hD q hq).2⟩)
  omega
/-- two faults, one behind the other -/
def joined (a b : Pc) : Pc := (a.1 ++ b.1, a.2.1 ++ b.2.1, a.2.2 + b.2.2)
theorem at_app {W m n : List Nat} {i : Nat} (h : at_ W i (m ++ n) = true) : at_ W i m = true ∧ at_ W (i + m.length) n = true := by
  have e : (W.drop i).take (m ++ n).length = m ++ n := of_decide_eq_true h
  rw [List.length_append, List.take_add] at e
  have l1 : ((W.drop i).take m.length).length = m.length := by
    have := congrArg List.length e
    rw [List.length_append, List.length_append, List.length_take, List.length_take, List.length_drop, List.length_drop] at this
    rw [List.length_take, List.length_drop]
    omega
  obtain ⟨e1, e2⟩ := List.append_inj e l1
  refine ⟨decide_eq_true e1, decide_eq_true ?_⟩
  rw [List.drop_drop] at e2
  exact e2
/-- M has the faults of D, and some that two of them make up -/
structure More (D M : List Pc) : Prop where
  sub : ∀ p ∈ D, p ∈ M
  new : ∀ e ∈ M, e ∈ D ∨ ∃ a ∈ D, ∃ b ∈ D, e = joined a b
theorem way_join {D : List Pc} {a b : Pc} (ha : a ∈ D) (hb : b ∈ D) {W X : List Nat} {i j : Nat} {c : Int} (w : Way D W X i j c) (h1 : at_ W i (joined a b).1 = true) (h2 : at_ X j (joined a b).2.1 = true) : Way D W X (i + (joined a b).1.length) (j + (joined a b).2.1.length) (c + (joined a b).2.2) := by
  obtain ⟨m1, m2⟩ := at_app h1
  obtain ⟨t1, t2⟩ := at_app h2
  have := Way.step (Way.step w (pc_of ha m1) t1) (pc_of hb m2) t2
  show Way D W X (i + (a.1 ++ b.1).length) (j + (a.2.1 ++ b.2.1).length) (c + (a.2.2 + b.2.2))
  rw [List.length_append, List.length_append, ← Nat.add_assoc, ← Nat.add_assoc, ← Int.add_assoc]
  exact this
theorem gen_join {D : List Pc} {a b : Pc} (ha : a ∈ D) (hb : b ∈ D) : Way D (joined a b).1 (joined a b).2.1 (joined a b).1.length (joined a b).2.1.length (joined a b).2.2 := by
  have := way_join ha hb (W := (joined a b).1) (X := (joined a b).2.1) .zero (at_self _) (at_self _)
  rw [Nat.zero_add, Nat.zero_add, Int.zero_add] at this
  exact this
theorem More.gen {D M : List Pc} (h : More D M) : Gen M D := fun e he => by
  rcases h.new e he with hD | ⟨a, ha, b, hb, rfl⟩
  · exact gen_mem hD
  · exact ⟨_, gen_join ha hb, Int.le_refl _⟩
theorem More.keep {T M : List Pc} (hT : ∀ p ∈ T, 1 ≤ p.2.2) (h : More (least T) M) {e : Pc} (he : e ∈ M) : Keep M e ↔ e ∈ least T := by
  constructor
  · intro k
    apply Classical.byContradiction
    intro hn
    rcases h.new e he with hD | ⟨a, ha, b, hb, rfl⟩
    · exact hn hD
    · have := k _ ((gen_join ha hb).sub fun p hp => mem_rem.mpr ⟨h.sub p hp, fun z => hn (by rw [← z]; exact hp)⟩)
      omega
  · intro hD c w
    apply Classical.byContradiction
    intro hc
    obtain ⟨heT, hk⟩ := mem_least.mp hD
    have key : ∀ (i j : Nat) (c : Int), Way (rem M e) e.1 e.2.1 i j c → c ≤ e.2.2 → Way (rem T e) e.1 e.2.1 i j c := by
      intro i j c w
      induction w with
      | zero => exact fun _ => .zero
      | @step i j c q w hq hx ih =>
        intro hle
        have cost0 : ∀ r ∈ M, 1 ≤ r.2.2 := fun r hr => by
          rcases h.new r hr with h1 | ⟨a, ha, b, hb, rfl⟩
          · exact hT r (least_sub r h1)
          · have h1 := hT a (least_sub a ha)
            have h2 := hT b (least_sub b hb)
            show 1 ≤ a.2.2 + b.2.2
            omega
        have hpos : 0 ≤ c := by
          clear ih hle hx hq
          induction w with
          | zero => exact Int.le_refl _
          | step w hp hx ih =>
            rcases (pc_at hp).2 with hr | ⟨x, _, rfl⟩
            · have := cost0 _ (mem_rem.mp hr).1
              omega
            · show 0 ≤ _ + 0
              omega
        rcases pc_at hq with ⟨ha, hqM | ⟨x, hx', rfl⟩⟩
        · obtain ⟨hqM, hne⟩ := mem_rem.mp hqM
          have hq1 := cost0 q hqM
          have w1 := ih (by omega)
          rcases h.new q hqM with hqD | ⟨a, hA, b, hB, rfl⟩
          · exact .step w1 (pc_of (mem_rem.mpr ⟨least_sub q hqD, hne⟩) ha) hx
          · have a1 := hT a (least_sub a hA)
            have b1 := hT b (least_sub b hB)
            have hs : c + (a.2.2 + b.2.2) ≤ e.2.2 := hle
            have na : a ≠ e := fun z => by rw [z] at hs; omega
            have nb : b ≠ e := fun z => by rw [z] at hs; omega
            exact way_join (mem_rem.mpr ⟨least_sub a hA, na⟩) (mem_rem.mpr ⟨least_sub b hB, nb⟩) w1 ha hx
        · exact .step (ih (by have : c + 0 ≤ e.2.2 := hle; omega)) (kept_in hx') hx
    have := hk c (key _ _ c w (by omega))
    omega
end Slip
/-! min(a list, key=a def): a least one -/
namespace Slip
open PySem PySem.Spec PyProof.Rows L2
/-- what is asked of the keys -/
structure KeyOk (kd : Nat → PyData) : Prop where
  al : ∀ i j, PySem.W.alike (kd i) (kd j) = true
  nn : ∀ i, kd i ≠ .none
  nl : ∀ i, noList (kd i) = true
  dp : ∀ i, (kd i).depth ≤ 60
/-- the def's promise for each item -/
def KeySp (sp : Sp) (H : Hp) (xs : List V) (kd : Nat → PyData) : Prop := ∀ (i : Nat) (x : V), xs[i]? = some x → ∀ H', Ext H H' → ∀ Q : VK, (∀ kv H'', Ext H' H'' → DS exR H'' kv (kd i) → Q kv H'') → sp [x] H' Q E0
theorem lt_neg {a b c : PyData} (h1 : PySem.W.dataLt b a = false) (h2 : PySem.W.dataLt c b = false) : PySem.W.dataLt c a = false := by
  cases q : PySem.W.dataLt c a with
  | false => rfl
  | true =>
    rcases lex_negTrans _ (PySem.W.keyToks b) _ q with z | z
    · exact absurd (h2.symm.trans z) Bool.false_ne_true
    · exact absurd (h1.symm.trans z) Bool.false_ne_true
theorem lt_asym {a b : PyData} (h : PySem.W.dataLt a b = true) : PySem.W.dataLt b a = false := by
  cases q : PySem.W.dataLt b a with
  | false => rfl
  | true =>
    have := lex_trans _ _ _ h q
    rw [lex_irrefl] at this
    cases this
section
variable {X : Cx} {pins : List (Addr × Obj)} {σ : L2.St} {H : Hp} {l q Ia S : Addr} {fd : FuncData} {p : Str} {sp : Sp} {k0 : Nat} {xs : List V} {kd : Nat → PyData} {R : Result → Shared → Prop}
theorem room_in1 {k : Nat} {A : Around} (r : Room (k + 1) A) : Room k A.in1 := ⟨r.hd, by have := r.dp; show A.depth + 3 * k + 5 < _; omega, by have := r.un; show A.units + 1 + 16 * k + 200 < _; omega⟩
/-- the def is called on an item; the two objects of min stay -/
theorem key_call {E : Value → Shared → Prop} {Q : Value → Shared → Prop} {s : Shared} {H1 : Hp} {i : Nat} {x : V} {u : Value} {o1 o2 : Obj} (F : FnOk X.prog X.w X.K X.mg X.base CX0 k0 q fd [p] sp) (hr : Room (k0 + 1) X.A) (hb : Binds X.K fd [p] []) (hk : KeySp sp H xs kd)
    (I : Inv X pins σ H1 s) (e : Ext H H1) (f1 : FpOk X pins H1 Ia) (f2 : FpOk X pins H1 S) (h1 : s.heap.get? Ia = some o1) (h2 : s.heap.get? S = some o2) (c1 : ∀ v, o1.data ≠ .cell v) (c2 : ∀ v, o2.data ≠ .cell v) (hx : xs[i]? = some x) (ru : RelV x u)
    (c : ∀ (kv : V) (ku : Value) (s' : Shared) (H2 : Hp), Inv X pins σ H2 s' → Ext H1 H2 → FpOk X pins H2 Ia → FpOk X pins H2 S → s'.heap.get? Ia = some o1 → s'.heap.get? S = some o2 → RelV kv ku → DS exR H2 kv (kd i) → Q ku s') :
    wpAny (model X.prog X.w) X.A.in1 (call (.ref q) [u]) Q E s := by
  have I2 := I.pinned (fp := [Ia, S]) (fun b hb => by
    rcases List.mem_cons.mp hb with rfl | hb
    · exact f1
    · rw [List.mem_singleton.mp hb]
      exact f2) (fun b hb => by
    rcases List.mem_cons.mp hb with rfl | hb
    · exact ⟨_, h1, c1⟩
    · rw [List.mem_singleton.mp hb]
      exact ⟨_, h2, c2⟩)
  have hsp := hk i x hx H1 e (fun kv H2 => Ext H1 H2 ∧ DS exR H2 kv (kd i)) fun kv H2 e2 hd => ⟨e2, hd⟩
  refine wpAny_call (codeAny_mono (F.run X.A.in1 X.stack s H1 ⟨[u], []⟩ [u] [x] _ E0 (room_in1 hr) I2.env0.in1 ?_ (.cons ru .nil) hsp) fun r s' hq => ?_)
  · have := hb s [u] I.kIn (by rfl)
    exact this
  · cases r with
    | error e => exact hq.elim
    | ok fl =>
      cases fl with
      | ret ku =>
        obtain ⟨kv, H2, I3, rk, e2, hd⟩ := I2.after hq
        have g1 := I3.pin (Ia, o1) (List.mem_append_right _ (List.mem_append_right _ (mem_pinsAt (by simp) h1)))
        have g2 := I3.pin (S, o2) (List.mem_append_right _ (List.mem_append_right _ (mem_pinsAt (by simp) h2)))
        exact c kv ku s' H2 I3.unpinned e2 ⟨g1.2.1, f1.2⟩ ⟨g2.2.1, f2.2⟩ g1.1 g2.1 rk hd
      | next => exact hq.elim
      | brk => exact hq.elim
      | cont => exact hq.elim
/-- the list that min walks, as a value list -/
theorem lst_of {s : Shared} {H1 : Hp} (I : Inv X pins σ H1 s) (hl : SqL X.K H1 l xs) : ∃ its : List Value, Vals xs its ∧ s.heap.IsList l its.toArray := by
  obtain ⟨its, r, pl, _⟩ := I.list hl
  exact ⟨its, r, pl.isList⟩
theorem fp_keep {s : Shared} {H1 : Hp} {h' : Heap} {a : Addr} {tk : Nat} (I : Inv X pins σ H1 s) (f : FpOk X pins H1 a) (k : ∀ b o, b ≠ a → s.heap.get? b = some o → h'.get? b = some o) : Inv X pins σ H1 { s with heap := h', toks := tk } :=
  I.turned (t' := tk) k f.1 f.2.1 f.2.2.2.1 f.2.2.2.2.1 f.2.2.2.2.2
theorem min_loop (F : FnOk X.prog X.w X.K X.mg X.base CX0 k0 q fd [p] sp) (hr : Room (k0 + 1) X.A) (hb : Binds X.K fd [p] []) (hkd : KeyOk kd) (hk : KeySp sp H xs kd) (hls : ∀ H', Ext H H' → SqL X.K H' l xs) (hne : Ia ≠ S) (kw : List (Str × Value))
    (hR : ∀ (u : Value) (x : V) (m : Nat) (s' : Shared) (H' : Hp), Inv X pins σ H' s' → Ext H H' → xs[m]? = some x → RelV x u → (∀ i, i < xs.length → PySem.W.dataLt (kd i) (kd m) = false) → R (.ok (.ret u)) s') :
    ∀ (k j : Nat) (s : Shared) (H1 : Hp) (x kv : V) (vb kb : Value) (m c : Nat), xs.length - (j + 1) = k → j + 1 ≤ xs.length → Inv X pins σ H1 s → Ext H H1 → FpOk X pins H1 Ia → FpOk X pins H1 S → s.heap.IsListIter Ia l (j + 1) →
    s.heap.get? S = some { cls := .type "list", dict := none, data := .seq #[vb, kb] c, slots := #[] } → m ≤ j → xs[m]? = some x → RelV x vb → RelV kv kb → DS exR H1 kv (kd m) → (∀ i, i ≤ j → PySem.W.dataLt (kd i) (kd m) = false) →
    codeAny (model X.prog X.w) X.A (.builtin "min.loop" ⟨[.ref Ia, .ref q, .ref S], kw⟩) R s := by
  have hname : (toString "min" ++ toString ".loop" : String) = "min.loop" := by decide
  intro k
  induction k with
  | zero =>
    intro j s H1 x kv vb kb m c hkj hj I e f1 f2 hit hS hm hx rx rk hd hmin
    have hin : j + 1 = xs.length := by omega
    obtain ⟨its, rv, hl⟩ := lst_of I (hls H1 e)
    refine codeAny_builtin PySem.F.entry_min_loop ?_
    rw [Around.under_plainId PySem.F.plain_min_loop _]
    show wpAny _ X.A.in1 (seqItems? (.ref S) >>= _) _ _ s
    refine wpAny_bind (wpAny_seqItems hS rfl ?_)
    show wpAny _ X.A.in1 (tryCatch (pyNext (.ref Ia)) _ >>= _) _ _ s
    refine wpAny_bind (wpAny_tryCatch (wpAny_pyNext_list_end (i := j + 1) (show X.A.in1.handled = none from hr.hd) hit hl (by rw [List.getElem?_toArray, List.getElem?_eq_none (by rw [← rv.length]; omega)]) fun h' hx' => ?_))
    have I1 := fp_keep (tk := s.toks) I f1 (h' := h') fun b o hb q => hx' b o hb q
    have hS' := hx' S _ (Ne.symm hne) hS
    show wpAny _ X.A.in1 (updateSeq S (fun _ => #[]) >>= _) _ _ _
    refine wpAny_bind ?_
    refine wpAny_updateSeq hS' rfl (wpAny_bind (wpAny_letGo (wpAny_pure ?_)))
    have I2 := fp_keep (tk := s.toks) I1 f2 (h' := h'.update S (Obj.mapSeq fun _ => #[])) fun b o hb q => (Heap.get?_update_other _ _ (Ne.symm hb)).trans q
    exact hR vb x m _ H1 I2 e hx rx fun i hi => hmin i (by omega)
  | succ k ih =>
    intro j s H1 x kv vb kb m c hkj hj I e f1 f2 hit hS hm hx rx rk hd hmin
    have hlt : j + 1 < xs.length := by omega
    obtain ⟨its, rv, hl⟩ := lst_of I (hls H1 e)
    have hy : xs[j + 1]? = some xs[j + 1] := List.getElem?_eq_getElem hlt
    obtain ⟨u, hu, ru⟩ := rv.get hy
    refine codeAny_builtin PySem.F.entry_min_loop ?_
    rw [Around.under_plainId PySem.F.plain_min_loop _]
    show wpAny _ X.A.in1 (seqItems? (.ref S) >>= _) _ _ s
    refine wpAny_bind (wpAny_seqItems hS rfl ?_)
    show wpAny _ X.A.in1 (tryCatch (pyNext (.ref Ia)) _ >>= _) _ _ s
    refine wpAny_bind (wpAny_tryCatch (wpAny_pyNext_list_item (i := j + 1) (x := u) hit hl (by rw [List.getElem?_toArray]; exact hu) fun h' hit' hsb => ?_))
    have I1 := fp_keep (tk := s.toks) I f1 (h' := h') fun b o hb q => (hsb.2 b hb).trans q
    have hS' : h'.get? S = some { cls := .type "list", dict := none, data := .seq #[vb, kb] c, slots := #[] } := (hsb.2 S (Ne.symm hne)).trans hS
    obtain ⟨oi, hoi, hci, hdi⟩ := id hit'
    show wpAny _ X.A.in1 (tryCatch (holding [u] (call (.ref q) [u])) _ >>= _) _ _ _
    refine wpAny_bind (wpAny_tryCatch (wpAny_holding (key_call (i := j + 1) F hr hb hk I1 e f1 f2 hoi hS' (fun v z => by rw [hdi] at z; cases z) (fun v z => by cases z) hy ru fun kv2 ku s2 H2 I2 e2 g1 g2 hoi2 hS2 rk2 hd2 => ?_)))
    have hit2 : s2.heap.IsListIter Ia l (j + 2) := ⟨oi, hoi2, hci, hdi⟩
    show wpAny _ X.A.in1 (tryCatch (holding [u, ku] (richCompare .Lt ku kb >>= _)) _ >>= _) _ _ _
    have hdb : DS exR H2 kv (kd m) := hd.tups (fun a xs z => e2 a _ z) _ _ (hkd.nl m)
    obtain ⟨as1, r1⟩ := Dp.reads I2 (kd (j + 1)) kv2 ku hd2.dp rk2
    obtain ⟨as2, r2⟩ := Dp.reads I2 (kd m) kv kb hdb.dp rk
    refine wpAny_bind (wpAny_tryCatch (wpAny_holding (wpAny_bind (PySem.W.rcLt_alike (kd (j + 1)) (kd m) X.A.in1 s2 ku kb as1 as2 r1 r2 (hkd.al _ _) (hkd.nn _) (by
      have := Nat.min_le_left (kd (j + 1)).depth (kd m).depth
      have := hkd.dp (j + 1)
      have := hr.un
      show X.A.units + 1 + _ < _
      omega) _ _ _ _ ?_))))
    refine wpAny_bind (wpAny_holding (wpAny_truthy_bool ?_))
    refine wpAny_bind (wpAny_letGo (wpAny_pure ?_))
    cases hbt : PySem.W.dataLt (kd (j + 1)) (kd m) with
    | true =>
      simp only [if_true]
      refine wpAny_bind ?_
      refine wpAny_updateSeq hS2 rfl (wpAny_bind (wpAny_letGo ?_))
      rw [hname]
      have I3 := fp_keep (tk := s2.toks) I2 g2 (h' := s2.heap.update S (Obj.mapSeq fun _ => #[u, ku])) fun b o hb q => (Heap.get?_update_other _ _ (Ne.symm hb)).trans q
      refine wpAny_pure ⟨plainId_quiet PySem.F.plain_min_loop _, ih (j + 1) _ H2 xs[j + 1] kv2 u ku (j + 1) _ (by omega) hlt I3 (fun a o z => e2 a o (e a o z)) g1 g2 ?_ (Heap.get?_update_self _ hS2 rfl) (Nat.le_refl _) hy ru rk2 hd2 fun i hi => ?_⟩
      · exact ⟨oi, (Heap.get?_update_other _ _ hne.symm).trans hoi2, hci, hdi⟩
      · rcases Nat.lt_or_ge i (j + 1) with z | z
        · exact lt_neg (lt_asym hbt) (hmin i (by omega))
        · have : i = j + 1 := by omega
          rw [this]
          exact lex_irrefl _
    | false =>
      simp only [Bool.false_eq_true, if_false]
      refine wpAny_bind (wpAny_letGo ?_)
      rw [hname]
      refine wpAny_pure ⟨plainId_quiet PySem.F.plain_min_loop _, ih (j + 1) _ H2 x kv vb kb m c (by omega) hlt I2 (fun a o z => e2 a o (e a o z)) g1 g2 hit2 hS2 (by omega) hx rx rk hdb fun i hi => ?_⟩
      rcases Nat.lt_or_ge i (j + 1) with z | z
      · exact hmin i (by omega)
      · have : i = j + 1 := by omega
        rw [this]
        exact hbt
theorem min_first (F : FnOk X.prog X.w X.K X.mg X.base CX0 k0 q fd [p] sp) (hr : Room (k0 + 1) X.A) (hb : Binds X.K fd [p] []) (hkd : KeyOk kd) (hk : KeySp sp H xs kd) (hls : ∀ H', Ext H H' → SqL X.K H' l xs) (hne : Ia ≠ S) (h0 : 0 < xs.length) (kw : List (Str × Value))
    (hR : ∀ (u : Value) (x : V) (m : Nat) (s' : Shared) (H' : Hp), Inv X pins σ H' s' → Ext H H' → xs[m]? = some x → RelV x u → (∀ i, i < xs.length → PySem.W.dataLt (kd i) (kd m) = false) → R (.ok (.ret u)) s')
    {s : Shared} {c : Nat} (I : Inv X pins σ H s) (f1 : FpOk X pins H Ia) (f2 : FpOk X pins H S) (hit : s.heap.IsListIter Ia l 0) (hS : s.heap.get? S = some { cls := .type "list", dict := none, data := .seq #[] c, slots := #[] }) :
    codeAny (model X.prog X.w) X.A (.builtin "min.loop" ⟨[.ref Ia, .ref q, .ref S], kw⟩) R s := by
  have hname : (toString "min" ++ toString ".loop" : String) = "min.loop" := by decide
  obtain ⟨its, rv, hl⟩ := lst_of I (hls H fun _ _ z => z)
  have hy : xs[0]? = some xs[0] := List.getElem?_eq_getElem h0
  obtain ⟨u, hu, ru⟩ := rv.get hy
  refine codeAny_builtin PySem.F.entry_min_loop ?_
  rw [Around.under_plainId PySem.F.plain_min_loop _]
  show wpAny _ X.A.in1 (seqItems? (.ref S) >>= _) _ _ s
  refine wpAny_bind (wpAny_seqItems hS rfl ?_)
  show wpAny _ X.A.in1 (tryCatch (pyNext (.ref Ia)) _ >>= _) _ _ s
  refine wpAny_bind (wpAny_tryCatch (wpAny_pyNext_list_item (i := 0) (x := u) hit hl (by rw [List.getElem?_toArray]; exact hu) fun h' hit' hsb => ?_))
  have I1 := fp_keep (tk := s.toks) I f1 (h' := h') fun b o hb q => (hsb.2 b hb).trans q
  have hS' : h'.get? S = some { cls := .type "list", dict := none, data := .seq #[] c, slots := #[] } := (hsb.2 S (Ne.symm hne)).trans hS
  obtain ⟨oi, hoi, hci, hdi⟩ := id hit'
  show wpAny _ X.A.in1 (tryCatch (holding [u] (call (.ref q) [u])) _ >>= _) _ _ _
  refine wpAny_bind (wpAny_tryCatch (wpAny_holding (key_call (i := 0) F hr hb hk I1 (fun _ _ z => z) f1 f2 hoi hS' (fun v z => by rw [hdi] at z; cases z) (fun v z => by cases z) hy ru fun kv2 ku s2 H2 I2 e2 g1 g2 hoi2 hS2 rk2 hd2 => ?_)))
  show wpAny _ X.A.in1 (updateSeq S (fun _ => #[u, ku]) >>= _) _ _ _
  refine wpAny_bind ?_
  refine wpAny_updateSeq hS2 rfl ?_
  rw [hname]
  have I3 := fp_keep (tk := s2.toks) I2 g2 (h' := s2.heap.update S (Obj.mapSeq fun _ => #[u, ku])) fun b o hb q => (Heap.get?_update_other _ _ (Ne.symm hb)).trans q
  refine wpAny_pure ⟨plainId_quiet PySem.F.plain_min_loop _, min_loop F hr hb hkd hk hls hne kw hR _ 0 _ H2 xs[0] kv2 u ku 0 _ rfl h0 I3 e2 g1 g2 ⟨oi, (Heap.get?_update_other _ _ hne.symm).trans hoi2, hci, hdi⟩ (Heap.get?_update_self _ hS2 rfl) (Nat.le_refl _) hy ru rk2 hd2 fun i hi => ?_⟩
  have : i = 0 := by omega
  rw [this]
  exact lex_irrefl _
def rMinKey (K : Frag) (sp : Sp) (q : Addr) : List V → List V → Hp → VK → Prop := fun vs zs H Q => ∃ (l : Addr) (xs : List V) (kd : Nat → PyData), vs = [.ref l] ∧ zs = [.ref q] ∧ (∀ H', Ext H H' → SqL K H' l xs) ∧ xs ≠ [] ∧ KeyOk kd ∧ KeySp sp H xs kd ∧
  ∀ (x : V) (m : Nat) (H' : Hp), Ext H H' → xs[m]? = some x → (∀ i, i < xs.length → PySem.W.dataLt (kd i) (kd m) = false) → Q x H'
theorem cr_minKey (F : FnOk X.prog X.w X.K X.mg X.base CX0 k0 q fd [p] sp) (hr : Room (k0 + 1) X.A) (hb : Binds X.K fd [p] []) : CallRK X (.builtin "min") [Str.ofString "key"] (rMinKey X.K sp q) := by
  intro pins s σ H vs zs us ws Q I rv rz h
  obtain ⟨l, xs, kd, rfl, rfl, hls, hne, hkd, hk, c⟩ := h
  obtain ⟨u, rfl, ru⟩ := rv.one
  obtain ⟨w, rfl, rw'⟩ := rz.one
  cases ru
  cases rw'
  have hname : (toString "min" ++ toString ".loop" : String) = "min.loop" := by decide
  obtain ⟨its, rvs, hl⟩ := lst_of I (hls H fun _ _ z => z)
  refine PyProof.Rows.kmk_tree PySem.F.kind_min PySem.F.plain_min PySem.F.entry_min (PyProof.Rows.kmk_min_key _ _) ?_
  show wpAny _ X.A.in1 (Builtin.Builtins.bindParams "min" ["key", "default"] 0 ⟨[], [(Str.ofString "key", .ref q)]⟩ >>= _) _ _ s
  refine wpAny_bind (wpAny_of_eq (show Builtin.Builtins.bindParams "min" ["key", "default"] 0 ⟨[], [(Str.ofString "key", .ref q)]⟩ = pure [some (.ref q), none] from rfl) ?_)
  refine wpAny_bind (wpAny_pure ?_)
  refine wpAny_bind (wpAny_pyIter_list hl ?_)
  have I1 : Inv X pins σ H { s with heap := s.heap.push { cls := .type "list_iterator", data := .fields #[.ref l, .int 0 0] } } := I.kept (t' := s.toks) fun _ _ z => Heap.get?_push_of_some _ z
  have hIa : (s.heap.push { cls := .type "list_iterator", data := .fields #[.ref l, .int 0 0] }).IsListIter s.heap.objs.size l 0 := ⟨_, Heap.get?_push_size _ rfl, rfl, rfl⟩
  have f1 : FpOk X pins H s.heap.objs.size := I.fpOk (Nat.le_refl _) (I.hok.fresh (Nat.le_refl _))
  generalize eh1 : s.heap.push { cls := .type "list_iterator", data := .fields #[.ref l, .int 0 0] } = h1 at I1 hIa
  have lt1 : s.heap.objs.size < h1.objs.size := by rw [← eh1, Heap.size_push]; omega
  refine wpAny_bind (wpAny_newObj_type ?_)
  rw [hname]
  have f2 : FpOk X pins H h1.objs.size := I1.fpOk (Nat.le_refl _) (I1.hok.fresh (Nat.le_refl _))
  have I2 : Inv X pins σ H { s with heap := h1.push { cls := .type "list", data := .seq #[] 0 } } := I1.kept (t' := s.toks) fun _ _ z => Heap.get?_push_of_some _ z
  refine wpAny_pure ⟨plainId_quiet PySem.F.plain_min_loop _, min_first F hr hb hkd hk hls (Nat.ne_of_lt lt1) (List.length_pos_iff.mpr hne) _ (fun u x m s' H' J e hx rx hm => ?_) I2 f1 f2 ?_ (Heap.get?_push_size _ rfl)⟩
  · exact ⟨x, H', J, rx, c x m H' e hx hm⟩
  · obtain ⟨o, a1, a2, a3⟩ := hIa
    exact ⟨o, Heap.get?_push_of_some _ a1, a2, a3⟩
end
end Slip
/-! a changed table -/
namespace Slip
open PySem PySem.Spec PyProof.Rows L2
/- texts, numbers, tuples of these; none is long -/
mutual
def plainT : PyData → Bool
  | .str s => decide (s.length ≤ 300)
  | .int _ => true
  | .tuple ds => decide (ds.length ≤ 300) && plainTs ds
  | _ => false
def plainTs : List PyData → Bool
  | [] => true
  | d :: ds => plainT d && plainTs ds
end
theorem plainTs_mem : ∀ {ds : List PyData} {d : PyData}, plainTs ds = true → d ∈ ds → plainT d = true
  | e :: ds, d, h, hm => by
    have h' : plainT e = true ∧ plainTs ds = true := by simpa [plainTs] using h
    rcases List.mem_cons.mp hm with rfl | hm
    · exact h'.1
    · exact plainTs_mem h'.2 hm
mutual
theorem plain_nl : ∀ d : PyData, plainT d = true → noList d = true
  | .str _, _ => rfl
  | .int _, _ => rfl
  | .tuple ds, h => by
    have h' : ds.length ≤ 300 ∧ plainTs ds = true := by simpa [plainT] using h
    exact plains_nl ds h'.2
  | .none, h => by cases h
  | .bool _, h => by cases h
  | .list _, h => by cases h
  | .dict _, h => by cases h
theorem plains_nl : ∀ ds : List PyData, plainTs ds = true → noLists ds = true
  | [], _ => rfl
  | d :: ds, h => by
    have h' : plainT d = true ∧ plainTs ds = true := by simpa [plainTs] using h
    show (noList d && noLists ds) = true
    rw [plain_nl d h'.1, plains_nl ds h'.2]
    rfl
end
mutual
theorem plain_sm : ∀ d : PyData, plainT d = true → sm d = true
  | .str s, h => by
    have h' : s.length ≤ 300 := by simpa [plainT] using h
    exact decide_eq_true (by omega)
  | .int _, _ => rfl
  | .tuple ds, h => by
    have h' : ds.length ≤ 300 ∧ plainTs ds = true := by simpa [plainT] using h
    show (decide (ds.length ≤ 1000) && smAll ds) = true
    rw [decide_eq_true (by omega), plains_sm ds h'.2]
    rfl
  | .none, h => by cases h
  | .bool _, h => by cases h
  | .list _, h => by cases h
  | .dict _, h => by cases h
theorem plains_sm : ∀ ds : List PyData, plainTs ds = true → smAll ds = true
  | [], _ => rfl
  | d :: ds, h => by
    have h' : plainT d = true ∧ plainTs ds = true := by simpa [plainTs] using h
    show (sm d && smAll ds) = true
    rw [plain_sm d h'.1, plains_sm ds h'.2]
    rfl
end
/-- no list within, none long, depth bounded -/
structure Fine (L D : Nat) (ds : List PyData) : Prop where
  all : ∀ d ∈ ds, noList d = true ∧ sm d = true ∧ d.depth ≤ D
  len : ds.length ≤ L
abbrev Good (D : Nat) (d : PyData) : Prop := noList d = true ∧ sm d = true ∧ d.depth ≤ D
theorem depth_all {D : Nat} : ∀ {ds : List PyData}, (∀ d ∈ ds, d.depth ≤ D) → PyData.depthAll ds ≤ D
  | [], _ => Nat.zero_le _
  | d :: ds, h => by
    show max d.depth (PyData.depthAll ds) ≤ D
    exact Nat.max_le.mpr ⟨h d (List.mem_cons_self ..), depth_all fun e he => h e (List.mem_cons_of_mem _ he)⟩
theorem noLists_of : ∀ {ds : List PyData}, (∀ d ∈ ds, noList d = true) → noLists ds = true
  | [], _ => rfl
  | d :: ds, h => by
    show (noList d && noLists ds) = true
    rw [h d (List.mem_cons_self ..), noLists_of fun e he => h e (List.mem_cons_of_mem _ he)]
    rfl
theorem Fine.good {L D : Nat} {ds : List PyData} (h : Fine L D ds) (hl : L ≤ 1000) : Good (D + 1) (.tuple ds) := by
  refine ⟨noLists_of fun d hd => (h.all d hd).1, ?_, ?_⟩
  · show (decide (ds.length ≤ 1000) && smAll ds) = true
    rw [decide_eq_true (Nat.le_trans h.len hl), smAll_of fun d hd => (h.all d hd).2.1]
    rfl
  · show PyData.depthAll ds + 1 ≤ D + 1
    exact Nat.succ_le_succ (depth_all fun d hd => (h.all d hd).2.2)
theorem Fine.append {L M D : Nat} {ds es : List PyData} (h : Fine L D ds) (g : Fine M D es) : Fine (L + M) D (ds ++ es) :=
  ⟨fun d hd => (List.mem_append.mp hd).elim (h.all d) (g.all d), by rw [List.length_append]; have := h.len; have := g.len; omega⟩
theorem cut_mem {ds : List PyData} {lo hi : Option Int} {d : PyData} (h : d ∈ cutD ds lo hi) : d ∈ ds := List.mem_of_mem_drop (List.mem_of_mem_take h)
theorem cut_len (ds : List PyData) (lo hi : Option Int) : (cutD ds lo hi).length ≤ ds.length := by
  unfold cutD
  rw [List.length_take, List.length_drop]
  omega
theorem Fine.cut {L D : Nat} {ds : List PyData} (h : Fine L D ds) (lo hi : Option Int) : Fine L D (cutD ds lo hi) := ⟨fun d hd => h.all d (cut_mem hd), Nat.le_trans (cut_len _ _ _) h.len⟩
theorem fine_plain {ds : List PyData} (h : plainT (.tuple ds) = true) : Fine 300 (PyData.depthAll ds) ds := by
  have h' : ds.length ≤ 300 ∧ plainTs ds = true := by simpa [plainT] using h
  exact ⟨fun d hd => ⟨plain_nl d (plainTs_mem h'.2 hd), plain_sm d (plainTs_mem h'.2 hd), depth_mem hd⟩, h'.1⟩
theorem Fine.up {L D D' : Nat} {ds : List PyData} (h : Fine L D ds) (l : D ≤ D') : Fine L D' ds := ⟨fun d hd => ⟨(h.all d hd).1, (h.all d hd).2.1, Nat.le_trans (h.all d hd).2.2 l⟩, h.len⟩
/-! ### rules -/
/-- a test whose answer is not known, but b tells C b -/
def EvTC (ρ : Rl) (tt : TT) (σ : L2.St) (H : Hp) (C : Bool → Prop) : Prop := ∀ H1, ρ.r H H1 → ∀ Q : Bool → Hp → Prop, (∀ b H2, ρ.r H1 H2 → C b → Q b H2) → tt σ H1 Q
section
variable {ρ : Rl} {K : Frag} {σ : L2.St} {H : Hp} {ta tb te : TE} {t u : TT} {tu tw tz : TS} {D : Ends} {C : Bool → Prop} {C1 C2 : List PyData → Prop} {P : V → Hp → Prop} {n : Nat} {tr : TA}
theorem q_whenC (h : EvTC ρ t σ H C) (h1 : C true → ∀ H1, ρ.r H H1 → tu { D with nx := tz D } σ H1) (h2 : C false → ∀ H1, ρ.r H H1 → tz D σ H1) : tSeq (tIfS t tu tNext) tz D σ H := h H .rfl _ fun b H1 e c => by
  cases b with
  | true => exact h1 c H1 e
  | false => exact h2 c H1 e
theorem etc_test (h : Ev ρ te σ H (fun v _ => ∃ b, v = .bl b ∧ C b)) : EvTC ρ (tTest te) σ H C := fun H1 e Q q => h H1 e _ fun v H2 e2 ⟨b, ev, c⟩ => ⟨b, ev, q b H2 e2 c⟩
theorem etc_and (h1 : EvT ρ t σ H true) (h2 : EvTC ρ u σ H C) : EvTC ρ (tAnd t u) σ H C := fun H1 e Q q => h1 H1 e _ fun H2 e2 => show u σ H2 Q from h2 H2 (e.trans e2) Q fun b H3 e3 c => q b H3 (e2.trans e3) c
/-- t + u of tuples -/
theorem ev_catD (h1 : Ev ρ ta σ H (fun v H' => ∃ ds, C1 ds ∧ DS ρ H' v (.tuple ds))) (h2 : ∀ H1, ρ.r H H1 → Ev ρ tb σ H1 (fun v H' => ∃ ds, C2 ds ∧ DS ρ H' v (.tuple ds))) (hl : ∀ ds es, C1 ds → C2 es → ds.length + es.length ≤ 100000) :
    Ev ρ (tOp (rAddU K) ta tb) σ H (fun v H' => ∃ ds, (∃ d1 d2, C1 d1 ∧ C2 d2 ∧ ds = d1 ++ d2) ∧ DS ρ H' v (.tuple ds)) :=
  ev_op2 h1 (fun x H1 e1 _ => h2 H1 e1) fun x y H1 H2 e1 e2 ⟨ds, c1, hx⟩ ⟨es, c2, hy⟩ => by
    obtain ⟨a, xs, rfl, hxs, ha, _⟩ := (e2.ds hx).tupl
    obtain ⟨b, ys, rfl, hys, hb, _⟩ := hy.tupl
    intro H3 e3 Q q
    have ga := e3.tup _ _ ha
    have gb := e3.tup _ _ hb
    have dx := e3.dss hxs
    have dy := e3.dss hys
    have lx := dx.length
    have ly := dy.length
    have ll := hl ds es c1 c2
    refine .inr (.inr (.inl ⟨a, b, xs, ys, rfl, rfl, .inl (.inl ga), .inl (.inl gb), Evl.sz_of (by omega), fun z => ?_, fun _ z => ?_, fun _ _ p hp => ?_⟩))
    · subst z
      have : ds = [] := List.eq_nil_of_length_eq_zero lx.symm
      subst this
      exact q _ H3 .rfl ⟨es, ⟨[], es, c1, c2, rfl⟩, .tup gb dy⟩
    · subst z
      have : es = [] := List.eq_nil_of_length_eq_zero ly.symm
      subst this
      exact q _ H3 .rfl ⟨ds, ⟨ds, [], c1, c2, (List.append_nil _).symm⟩, .tup ga dx⟩
    · exact q _ _ (r_new _ hp) ⟨ds ++ es, ⟨ds, es, c1, c2, rfl⟩, .tup upd_same ((r_new (ρ := ρ) _ hp).dss (dx.append dy))⟩
theorem ea_nilP : EvA ρ tNil σ H (fun vs H' => vs.length = 0 ∧ ∀ x ∈ vs, P x H') := fun H1 _ _ q => q [] H1 .rfl ⟨rfl, fun x hx => nomatch hx⟩
theorem ea_consQ (hP : ∀ v H1 H2, ρ.r H1 H2 → P v H1 → P v H2) (h : Ev ρ ta σ H P) (hr : ∀ H1, ρ.r H H1 → EvA ρ tr σ H1 (fun vs H' => vs.length = n ∧ ∀ x ∈ vs, P x H')) : EvA ρ (tCons ta tr) σ H (fun vs H' => vs.length = n + 1 ∧ ∀ x ∈ vs, P x H') := fun H1 e _ q =>
  h H1 e _ fun x H2 e2 px => hr H2 (e.trans e2) H2 .rfl _ fun ws H3 e3 ⟨hl, pw⟩ => q _ H3 (e2.trans e3) ⟨congrArg Nat.succ hl, fun y hy => (List.mem_cons.mp hy).elim (fun z => z ▸ hP _ _ _ e3 px) (pw y)⟩
/-- one of a display -/
theorem ev_pick {ts : TA} {N : Int} (own : Own ρ H) (hP : ∀ v H1 H2, ρ.r H1 H2 → P v H1 → P v H2) (h : EvA ρ ts σ H (fun vs H' => vs.length = n ∧ ∀ x ∈ vs, P x H')) (hn : n ≤ 1000) (hN : N = (n : Int)) (h2 : ∀ H1, ρ.r H H1 → Ev ρ tb σ H1 (fun v _ => Below N v)) : Ev ρ (tIxU K (tLst ts) tb) σ H P :=
  fun H1 e1 Q q => .inl (ev_lst h (fun vs _ _ c => by rw [c.1]; omega) H1 e1 _ fun v H2 e2 ⟨p, vs, H3, ev, ⟨hl, hp⟩, hnew, r3, eH⟩ => h2 H2 (e1.trans e2) H2 .rfl _ fun w H4 e4 ⟨m, ew, h0, hm⟩ => by
    subst ev ew
    have hm' : m.toNat < vs.length := by omega
    have g : vs[m.toNat]? = some vs[m.toNat] := List.getElem?_eq_getElem hm'
    have g2 : atI vs m = some vs[m.toNat] := by
      have := atI_nat g
      rwa [show ((m.toNat : Nat) : Int) = m by omega] at this
    have nS : ¬ ρ.S p := (own.r r3).fresh hnew
    have hp2 : H2 p = some (.lst vs) := by rw [eH]; exact upd_same
    exact .inl ⟨p, vs, m, _, rfl, rfl, .of (e4.keep _ _ nS hp2), g2, q _ H4 (e2.trans e4) (hP _ _ _ ((eH ▸ r_new (ρ := ρ) _ hnew : ρ.r H3 H2).trans e4) (hp _ (List.getElem_mem hm')))⟩)
end
def sp__law_table_changed (K : Frag) (n : Nat) : Sp := fun vs H Q _ => ∃ (ra sp : Addr) (v : V) (d : PyData), vs = [.ref ra, .ref sp, v] ∧ Dr K ra sp H ∧ DS (spR sp) H v d ∧ plainT d = true ∧ d.depth < n ∧ ∀ v' d' H', (spR sp).r H H' → DS (spR sp) H' v' d' → Good (d.depth + 1) d' → Q v' H'
theorem len__law_table_changed {K : Frag} {n : Nat} {vs : List V} {H : Hp} {Q : VK} {E : XK} (h : sp__law_table_changed K n vs H Q E) : vs.length = 3 := by
  obtain ⟨ra, sp, v, d, rfl, _⟩ := h
  rfl
def t__law_table_changed (K : Frag) (n : Nat) : TS := (tSeq (tIfS (tAnd (tB (tCB (rIsiU K) (tCons (tVar 2) (tCons (tC (.ty "tuple")) tNil)))) (tAnd (tTest (tOp (rCmp K gGt) (tCB (rLenU K) (tCons (tVar 2) tNil)) (tC (.int 0)))) (tTest (tOp (rCmp K gGt) (tCall (sp__law_take K) [] E0 (tCons (tVar 0) (tCons (tVar 1) (tCons (tC (.int 6)) tNil)))) (tC (.int 0)))))) (tSeq (tAsg (tCall (sp__law_take K) [] E0 (tCons (tVar 0) (tCons (tVar 1) (tCons (tCB (rLenU K) (tCons (tVar 2) tNil)) tNil)))) (gName 3)) (tRet (tOp (rAddU K) (tOp (rAddU K) (tSl (rSlU K) (tVar 2) tNoPart (tPart (tVar 3))) (tTup (tCons (tCall (sp__law_table_changed K n) [] E0 (tCons (tVar 0) (tCons (tVar 1) (tCons (tIxU K (tVar 2) (tVar 3)) tNil)))) tNil))) (tSl (rSlU K) (tVar 2) (tPart (tOp (rAddU K) (tVar 3) (tC (.int 1)))) tNoPart)))) tNext) (tSeq (tAsg (tCall (sp__law_take K) [] E0 (tCons (tVar 0) (tCons (tVar 1) (tCons (tC (.int 4)) tNil)))) (gName 4)) (tSeq (tIfS (tAnd (tB (tCB (rIsiU K) (tCons (tVar 2) (tCons (tC (.ty "tuple")) tNil)))) (tAnd (tTest (tOp (rEqU K) (tVar 4) (tC (.int 0)))) (tTest (tOp (rCmp K gGt) (tCB (rLenU K) (tCons (tVar 2) tNil)) (tC (.int 0)))))) (tRet (tOp (rAddU K) (tVar 2) (tSl (rSlU K) (tVar 2) tNoPart (tPart (tC (.int 1)))))) tNext) (tSeq (tIfS (tAnd (tB (tCB (rIsiU K) (tCons (tVar 2) (tCons (tC (.ty "tuple")) tNil)))) (tAnd (tTest (tOp (rEqU K) (tVar 4) (tC (.int 1)))) (tTest (tOp (rCmp K gGt) (tCB (rLenU K) (tCons (tVar 2) tNil)) (tC (.int 0)))))) (tRet (tSl (rSlU K) (tVar 2) (tPart (tC (.int 1))) tNoPart)) tNext) (tSeq (tIfS (tAnd (tB (tCB (rIsiU K) (tCons (tVar 2) (tCons (tC (.ty "tuple")) tNil)))) (tAnd (tTest (tOp (rEqU K) (tVar 4) (tC (.int 2)))) (tTest (tOp (rCmp K gGt) (tCB (rLenU K) (tCons (tVar 2) tNil)) (tC (.int 1)))))) (tRet (tOp (rAddU K) (tSl (rSlU K) (tVar 2) (tPart (tC (.int 1))) tNoPart) (tSl (rSlU K) (tVar 2) tNoPart (tPart (tC (.int 1)))))) tNext) (tSeq (tIfS (tAnd (tB (tCB (rIsiU K) (tCons (tVar 2) (tCons (tC (.ty "str")) tNil)))) (tTest (tOp (rCmp K gLt) (tVar 4) (tC (.int 3))))) (tRet (tIxU K (tLst (tCons (tC (.str "")) (tCons (tC (.str "ab")) (tCons (tC (.str "abc")) (tCons (tC (.str "g")) (tCons (tC (.str "fa")) (tCons (tOp (rAddU K) (tVar 2) (tC (.str "a"))) (tCons (tC (.str "A")) (tCons (tOp (rAddU K) (tVar 2) (tC (.str "\n"))) tNil))))))))) (tCall (sp__law_take K) [] E0 (tCons (tVar 0) (tCons (tVar 1) (tCons (tC (.int 8)) tNil)))))) tNext) (tSeq (tIfS (tAnd (tB (tCB (rIsiU K) (tCons (tVar 2) (tCons (tC (.ty "int")) tNil)))) (tTest (tOp (rCmp K gLt) (tVar 4) (tC (.int 3))))) (tRet (tIxU K (tLst (tCons (tC (.int 0)) (tCons (tC (.int 9)) (tCons (tC (.int 10)) (tCons (tOp (rAddU K) (tVar 2) (tC (.int 1))) (tCons (tC .non) (tCons (tC (.bl true)) tNil))))))) (tCall (sp__law_take K) [] E0 (tCons (tVar 0) (tCons (tVar 1) (tCons (tC (.int 6)) tNil)))))) tNext) (tRet (tIxU K (tLst (tCons (tC .non) (tCons (tC (.int 7)) (tCons (tC (.bl true)) (tCons (tC (.str "")) (tCons (tTup tNil) (tCons (tTup (tCons (tC (.str "a")) (tCons (tC (.str "b")) (tCons (tC (.int 1)) tNil)))) (tCons (tC (.str "a")) tNil)))))))) (tCall (sp__law_take K) [] E0 (tCons (tVar 0) (tCons (tVar 1) (tCons (tC (.int 7)) tNil)))))))))))))
/-- a good datum -/
abbrev GoodV (sp : Addr) (D : Nat) : V → Hp → Prop := fun v H => ∃ d, DS (spR sp) H v d ∧ Good D d
theorem goodV_r {sp : Addr} {D : Nat} (v : V) (H1 H2 : Hp) (e : (spR sp).r H1 H2) : GoodV sp D v H1 → GoodV sp D v H2 := fun ⟨d, h, g⟩ => ⟨d, e.ds h, g⟩
section
variable {K : Frag} {σ : L2.St} {H : Hp} {sp : Addr} {D : Nat}
theorem gv_c {v : V} {d : PyData} (hd : ∀ H', DS (spR sp) H' v d) (g : Good D d) : Ev (spR sp) (tC v) σ H (GoodV sp D) := (ev_c (v := v)).imp fun v' H1 _ e => by rw [e]; exact ⟨d, hd H1, g⟩
theorem gv_v {te : TE} {v : V} {d : PyData} (h : EvV (spR sp) te σ H v) (hd : ∀ H', DS (spR sp) H' v d) (g : Good D d) : Ev (spR sp) te σ H (GoodV sp D) := h.imp fun v' H1 _ e => by rw [e]; exact ⟨d, hd H1, g⟩
theorem gv_unit : Ev (spR sp) (tTup tNil) σ H (GoodV sp (D + 1)) := (ev_tup ea_nil fun vs H1 _ e => by rw [e]; show 0 ≤ 100000; decide).imp fun v H1 _ ⟨p, vs, H2, ev, evs, hp, r, eH⟩ => by
  subst ev evs
  exact ⟨.tuple [], .tup (by rw [eH]; exact upd_same) .nil, rfl, rfl, by show 0 + 1 ≤ D + 1; omega⟩
theorem gv_triple : Ev (spR sp) (tTup (tCons (tC (.str "a")) (tCons (tC (.str "b")) (tCons (tC (.int 1)) tNil)))) σ H (GoodV sp (D + 1)) := (ev_tripleD Le.rfl ev_c ev_c ev_c (.str "a") (.str "b") (.int 1)).imp fun v H1 _ h => ⟨_, h, rfl, by decide +kernel, by show 0 + 1 ≤ D + 1; omega⟩
end
theorem good_str {D : Nat} {s : Str} (h : s.length ≤ 1000) : Good D (.str s) := ⟨rfl, decide_eq_true h, Nat.zero_le _⟩
theorem good_int {D : Nat} {i : Int} : Good D (.int i) := ⟨rfl, rfl, Nat.zero_le _⟩
theorem good_bool {D : Nat} {i : Bool} : Good D (.bool i) := ⟨rfl, rfl, Nat.zero_le _⟩
theorem good_none {D : Nat} : Good D .none := ⟨rfl, rfl, Nat.zero_le _⟩
theorem pure__law_table_changed {K : Frag} {n : Nat} (vs : List V) (H : Hp) (Q : VK) (E : XK) (h : sp__law_table_changed K (n + 1) vs H Q E) : t__law_table_changed K n { nx := fun _ H' => Q .non H', rt := Q } (start ["row", "spot", "value", "at", "kind"] vs) H := by
  obtain ⟨ra, sp, v, d, rfl, dr, hd, hp, dp, k⟩ := h
  have hnl := plain_nl d hp
  have hds : ∀ H', (spR sp).r H H' → DS (spR sp) H' v d := fun H' e => e.ds hd
  -- what is left, after the kind is drawn
  have last : ∀ (σ : L2.St) (D : Ends) H1, D.rt = Q → σ[0]? = some (some (.ref ra)) → σ[1]? = some (some (.ref sp)) → (spR sp).r H H1 → tRet (tIxU K (tLst (tCons (tC .non) (tCons (tC (.int 7)) (tCons (tC (.bl true)) (tCons (tC (.str "")) (tCons (tTup tNil) (tCons (tTup (tCons (tC (.str "a")) (tCons (tC (.str "b")) (tCons (tC (.int 1)) tNil)))) (tCons (tC (.str "a")) tNil)))))))) (tCall (sp__law_take K) [] E0 (tCons (tVar 0) (tCons (tVar 1) (tCons (tC (.int 7)) tNil))))) D σ H1 := by
    intro σ D H1 hD h0 h1 e1
    have dr1 := dr.sp e1
    refine s_ret (ρ := spR sp) (ev_pick (P := GoodV sp (d.depth + 1)) (n := 7) (N := 7) (own_sp dr1) goodV_r ?_ (by decide) rfl fun H2 e2 => ev_take (ev_var h0) (ev_var h1) ev_c (dr1.sp e2) (by decide)) fun v' H2 e2 ⟨d', h, g⟩ => by rw [hD]; exact k v' d' H2 (e1.trans e2) h g
    refine ea_consQ goodV_r (gv_c (fun _ => .non) good_none) fun _ _ => ea_consQ goodV_r (gv_c (fun _ => .int 7) good_int) fun _ _ => ea_consQ goodV_r (gv_c (fun _ => .bl true) good_bool) fun _ _ => ea_consQ goodV_r (gv_c (fun _ => .str "") (good_str (by decide +kernel))) fun _ _ => ea_consQ goodV_r gv_unit fun _ _ => ea_consQ goodV_r gv_triple fun _ _ => ea_consQ goodV_r (gv_c (fun _ => .str "a") (good_str (by decide +kernel))) fun _ _ => ea_nilP
  cases d with
  | none => cases hp
  | bool b => cases hp
  | list ds => cases hp
  | dict ds => cases hp
  | str s =>
    have hs : s.length ≤ 300 := by simpa [plainT] using hp
    cases hd
    refine q_when (ρ := spR sp) (b := false) ((et_and (b := true) (et_B (ev_isi (ev_var rfl) (.str s) rfl)) fun h => by cases h).to rfl) (fun hb => by cases hb) fun _ H1 e1 => ?_
    refine q_asg (ρ := spR sp) (ev_take (ev_var rfl) (ev_var rfl) ev_c (dr.sp e1) (by decide)) fun v1 H2 e2 ⟨m, ev, _, _⟩ => ?_
    subst ev
    have e12 := e1.trans e2
    refine q_when (ρ := spR sp) (b := false) ((et_and (b := true) (et_B (ev_isi (ev_var rfl) (.str s) rfl)) fun h => by cases h).to rfl) (fun hb => by cases hb) fun _ H3 e3 => ?_
    refine q_when (ρ := spR sp) (b := false) ((et_and (b := true) (et_B (ev_isi (ev_var rfl) (.str s) rfl)) fun h => by cases h).to rfl) (fun hb => by cases hb) fun _ H4 e4 => ?_
    refine q_when (ρ := spR sp) (b := false) ((et_and (b := true) (et_B (ev_isi (ev_var rfl) (.str s) rfl)) fun h => by cases h).to rfl) (fun hb => by cases hb) fun _ H5 e5 => ?_
    have e15 := e12.trans (e3.trans (e4.trans e5))
    refine q_when (ρ := spR sp) (et_and (et_B (ev_isi (ev_var rfl) (.str s) rfl)) fun _ => et_test (ev_lt (ev_var rfl) ev_c)) (fun hb H6 e6 => ?_) fun _ H6 e6 => ?_
    · have e16 := e15.trans e6
      have dr6 := dr.sp e16
      refine s_ret (ρ := spR sp) (ev_pick (P := GoodV sp ((PyData.str s).depth + 1)) (n := 8) (N := 8) (own_sp dr6) goodV_r ?_ (by decide) rfl fun H2 e2 => ev_take (ev_var rfl) (ev_var rfl) ev_c (dr6.sp e2) (by decide)) fun v' H2 e2 ⟨d', h, g⟩ => k v' d' H2 (e16.trans e2) h g
      have one : ∀ x : Str, x.length = 1 → (s ++ x).length ≤ 1000 := fun x hx => by rw [app_len]; omega
      exact ea_consQ goodV_r (gv_c (fun _ => .str _) (good_str (by decide +kernel))) fun _ _ => ea_consQ goodV_r (gv_c (fun _ => .str _) (good_str (by decide +kernel))) fun _ _ => ea_consQ goodV_r (gv_c (fun _ => .str _) (good_str (by decide +kernel))) fun _ _ => ea_consQ goodV_r (gv_c (fun _ => .str _) (good_str (by decide +kernel))) fun _ _ => ea_consQ goodV_r (gv_c (fun _ => .str _) (good_str (by decide +kernel))) fun _ _ =>
        ea_consQ goodV_r (gv_v (ev_addS (ev_var rfl) ev_c (by have : ("a" : Str).length = 1 := by decide +kernel
                                                              omega)) (fun _ => .str _) (good_str (one _ (by decide +kernel)))) fun _ _ => ea_consQ goodV_r (gv_c (fun _ => .str _) (good_str (by decide +kernel))) fun _ _ =>
        ea_consQ goodV_r (gv_v (ev_addS (ev_var rfl) ev_c (by have : ("\n" : Str).length = 1 := by decide +kernel
                                                              omega)) (fun _ => .str _) (good_str (one _ (by decide +kernel)))) fun _ _ => ea_nilP
    · refine q_when (ρ := spR sp) (b := false) ((et_and (b := true) (et_B (ev_isi (ev_var rfl) (.str s) rfl)) fun h => by cases h).to rfl) (fun hb => by cases hb) fun _ H7 e7 => ?_
      exact last _ _ H7 rfl rfl rfl (e15.trans (e6.trans e7))
  | int i =>
    cases hd
    refine q_when (ρ := spR sp) (b := false) ((et_and (b := true) (et_B (ev_isi (ev_var rfl) (.int i) rfl)) fun h => by cases h).to rfl) (fun hb => by cases hb) fun _ H1 e1 => ?_
    refine q_asg (ρ := spR sp) (ev_take (ev_var rfl) (ev_var rfl) ev_c (dr.sp e1) (by decide)) fun v1 H2 e2 ⟨m, ev, _, _⟩ => ?_
    subst ev
    have e12 := e1.trans e2
    refine q_when (ρ := spR sp) (b := false) ((et_and (b := true) (et_B (ev_isi (ev_var rfl) (.int i) rfl)) fun h => by cases h).to rfl) (fun hb => by cases hb) fun _ H3 e3 => ?_
    refine q_when (ρ := spR sp) (b := false) ((et_and (b := true) (et_B (ev_isi (ev_var rfl) (.int i) rfl)) fun h => by cases h).to rfl) (fun hb => by cases hb) fun _ H4 e4 => ?_
    refine q_when (ρ := spR sp) (b := false) ((et_and (b := true) (et_B (ev_isi (ev_var rfl) (.int i) rfl)) fun h => by cases h).to rfl) (fun hb => by cases hb) fun _ H5 e5 => ?_
    have e15 := e12.trans (e3.trans (e4.trans e5))
    refine q_when (ρ := spR sp) (b := false) ((et_and (b := true) (et_B (ev_isi (ev_var rfl) (.int i) rfl)) fun h => by cases h).to rfl) (fun hb => by cases hb) fun _ H6 e6 => ?_
    refine q_when (ρ := spR sp) (et_and (et_B (ev_isi (ev_var rfl) (.int i) rfl)) fun _ => et_test (ev_lt (ev_var rfl) ev_c)) (fun hb H7 e7 => ?_) fun _ H7 e7 => ?_
    · have e17 := e15.trans (e6.trans e7)
      have dr7 := dr.sp e17
      refine s_ret (ρ := spR sp) (ev_pick (P := GoodV sp ((PyData.int i).depth + 1)) (n := 6) (N := 6) (own_sp dr7) goodV_r ?_ (by decide) rfl fun H2 e2 => ev_take (ev_var rfl) (ev_var rfl) ev_c (dr7.sp e2) (by decide)) fun v' H2 e2 ⟨d', h, g⟩ => k v' d' H2 (e17.trans e2) h g
      exact ea_consQ goodV_r (gv_c (fun _ => .int _) good_int) fun _ _ => ea_consQ goodV_r (gv_c (fun _ => .int _) good_int) fun _ _ => ea_consQ goodV_r (gv_c (fun _ => .int _) good_int) fun _ _ => ea_consQ goodV_r (gv_v (ev_add (ev_var rfl) ev_c) (fun _ => .int _) good_int) fun _ _ => ea_consQ goodV_r (gv_c (fun _ => .non) good_none) fun _ _ => ea_consQ goodV_r (gv_c (fun _ => .bl _) good_bool) fun _ _ => ea_nilP
    · exact last _ _ H7 rfl rfl rfl (e15.trans (e6.trans e7))
  | tuple ds =>
    obtain ⟨a, xs, rfl, hxs, ha, hsq⟩ := hd.tupl
    have fine := fine_plain hp
    have hpl : ds.length ≤ 300 ∧ plainTs ds = true := by simpa [plainT] using hp
    have hlen := hxs.length
    have sA : ∀ H1, (spR sp).r H H1 → SqA K H1 a xs := fun H1 e => .inr (hsq K (spR sp) H1 e)
    have ddep : (PyData.tuple ds).depth = PyData.depthAll ds + 1 := rfl
    -- behind the first question
    have rest : ∀ (σ : L2.St) (av kv : Option V) H1, σ = [some (.ref ra), some (.ref sp), some (.ref a), av, kv] → (spR sp).r H H1 → (tSeq (tAsg (tCall (sp__law_take K) [] E0 (tCons (tVar 0) (tCons (tVar 1) (tCons (tC (.int 4)) tNil)))) (gName 4)) (tSeq (tIfS (tAnd (tB (tCB (rIsiU K) (tCons (tVar 2) (tCons (tC (.ty "tuple")) tNil)))) (tAnd (tTest (tOp (rEqU K) (tVar 4) (tC (.int 0)))) (tTest (tOp (rCmp K gGt) (tCB (rLenU K) (tCons (tVar 2) tNil)) (tC (.int 0)))))) (tRet (tOp (rAddU K) (tVar 2) (tSl (rSlU K) (tVar 2) tNoPart (tPart (tC (.int 1)))))) tNext) (tSeq (tIfS (tAnd (tB (tCB (rIsiU K) (tCons (tVar 2) (tCons (tC (.ty "tuple")) tNil)))) (tAnd (tTest (tOp (rEqU K) (tVar 4) (tC (.int 1)))) (tTest (tOp (rCmp K gGt) (tCB (rLenU K) (tCons (tVar 2) tNil)) (tC (.int 0)))))) (tRet (tSl (rSlU K) (tVar 2) (tPart (tC (.int 1))) tNoPart)) tNext) (tSeq (tIfS (tAnd (tB (tCB (rIsiU K) (tCons (tVar 2) (tCons (tC (.ty "tuple")) tNil)))) (tAnd (tTest (tOp (rEqU K) (tVar 4) (tC (.int 2)))) (tTest (tOp (rCmp K gGt) (tCB (rLenU K) (tCons (tVar 2) tNil)) (tC (.int 1)))))) (tRet (tOp (rAddU K) (tSl (rSlU K) (tVar 2) (tPart (tC (.int 1))) tNoPart) (tSl (rSlU K) (tVar 2) tNoPart (tPart (tC (.int 1)))))) tNext) (tSeq (tIfS (tAnd (tB (tCB (rIsiU K) (tCons (tVar 2) (tCons (tC (.ty "str")) tNil)))) (tTest (tOp (rCmp K gLt) (tVar 4) (tC (.int 3))))) (tRet (tIxU K (tLst (tCons (tC (.str "")) (tCons (tC (.str "ab")) (tCons (tC (.str "abc")) (tCons (tC (.str "g")) (tCons (tC (.str "fa")) (tCons (tOp (rAddU K) (tVar 2) (tC (.str "a"))) (tCons (tC (.str "A")) (tCons (tOp (rAddU K) (tVar 2) (tC (.str "\n"))) tNil))))))))) (tCall (sp__law_take K) [] E0 (tCons (tVar 0) (tCons (tVar 1) (tCons (tC (.int 8)) tNil)))))) tNext) (tSeq (tIfS (tAnd (tB (tCB (rIsiU K) (tCons (tVar 2) (tCons (tC (.ty "int")) tNil)))) (tTest (tOp (rCmp K gLt) (tVar 4) (tC (.int 3))))) (tRet (tIxU K (tLst (tCons (tC (.int 0)) (tCons (tC (.int 9)) (tCons (tC (.int 10)) (tCons (tOp (rAddU K) (tVar 2) (tC (.int 1))) (tCons (tC .non) (tCons (tC (.bl true)) tNil))))))) (tCall (sp__law_take K) [] E0 (tCons (tVar 0) (tCons (tVar 1) (tCons (tC (.int 6)) tNil)))))) tNext) (tRet (tIxU K (tLst (tCons (tC .non) (tCons (tC (.int 7)) (tCons (tC (.bl true)) (tCons (tC (.str "")) (tCons (tTup tNil) (tCons (tTup (tCons (tC (.str "a")) (tCons (tC (.str "b")) (tCons (tC (.int 1)) tNil)))) (tCons (tC (.str "a")) tNil)))))))) (tCall (sp__law_take K) [] E0 (tCons (tVar 0) (tCons (tVar 1) (tCons (tC (.int 7)) tNil)))))))))))) { nx := fun _ H' => Q .non H', rt := Q } σ H1 := by
      rintro σ av kv H1 rfl e1
      refine q_asg (ρ := spR sp) (ev_take (ev_var rfl) (ev_var rfl) ev_c (dr.sp e1) (by decide)) fun v1 H2 e2 ⟨m, ev, _, _⟩ => ?_
      subst ev
      have e12 := e1.trans e2
      have hdat : ∀ H3, (spR sp).r H2 H3 → DS (spR sp) H3 (.ref a) (.tuple ds) := fun H3 e3 => hds H3 (e12.trans e3)
      have good : ∀ v' ds' H', (spR sp).r H2 H' → DS (spR sp) H' v' (.tuple ds') → Fine 900 (PyData.depthAll ds) ds' → Q v' H' := fun v' ds' H' e h f =>
        k v' _ H' (e12.trans e) h ⟨(f.good (by decide)).1, (f.good (by decide)).2.1, by have := (f.good (by decide)).2.2; rw [ddep]; omega⟩
      have cutE : ∀ {H3 : Hp} {tl th : TO} {lo hi : Option Int}, (spR sp).r H2 H3 → EvO (spR sp) tl [some (.ref ra), some (.ref sp), some (.ref a), av, some (.int m)] H3 lo → EvO (spR sp) th [some (.ref ra), some (.ref sp), some (.ref a), av, some (.int m)] H3 hi → Ev (spR sp) (tSl (rSlU K) (tVar 2) tl th) [some (.ref ra), some (.ref sp), some (.ref a), av, some (.int m)] H3 (fun v H' => ∃ ds', Fine 300 (PyData.depthAll ds) ds' ∧ DS (spR sp) H' v (.tuple ds')) := fun e3 h1 h2 =>
        (ev_slD Le.rfl (ev_var rfl) h1 h2 (hdat _ e3)).imp fun v H' _ h => ⟨_, fine.cut _ _, h⟩
      refine q_when (ρ := spR sp) (et_and (et_B (ev_isi (ev_var rfl) (hdat H2 .rfl) rfl)) fun _ => et_and (et_test (ev_eqI (ev_var rfl) ev_c)) fun _ => et_test (ev_gt (ev_len (ev_var rfl) (fun H3 e3 => sA H3 (e12.trans e3))) ev_c)) (fun hb H3 e3 => ?_) fun _ H3 e3 => ?_
      · refine s_ret (ρ := spR sp) (ev_catD (C1 := Fine 300 (PyData.depthAll ds)) (C2 := Fine 300 (PyData.depthAll ds)) ((ev_var (v := .ref a) rfl).imp fun v H' e ev => ⟨ds, fine, by rw [ev]; exact hdat H' (e3.trans e)⟩) (fun H4 e4 => cutE (e3.trans e4) eo_none (eo_some ev_c)) fun d1 d2 f1 f2 => by have := f1.len; have := f2.len; omega) fun v' H4 e4 ⟨ds', ⟨d1, d2, f1, f2, ed⟩, h⟩ => ?_
        exact good v' ds' H4 (e3.trans e4) h (by rw [ed]; have f := f1.append f2; exact ⟨f.all, Nat.le_trans f.len (by decide)⟩)
      refine q_when (ρ := spR sp) (et_and (et_B (ev_isi (ev_var rfl) (hdat H3 e3) rfl)) fun _ => et_and (et_test (ev_eqI (ev_var rfl) ev_c)) fun _ => et_test (ev_gt (ev_len (ev_var rfl) (fun H4 e4 => sA H4 (e12.trans (e3.trans e4)))) ev_c)) (fun hb H4 e4 => ?_) fun _ H4 e4 => ?_
      · refine s_ret (ρ := spR sp) (cutE (e3.trans e4) (eo_some ev_c) eo_none) fun v' H5 e5 ⟨ds', f, h⟩ => ?_
        exact good v' ds' H5 (e3.trans (e4.trans e5)) h ⟨f.all, Nat.le_trans f.len (by decide)⟩
      have e34 := e3.trans e4
      refine q_when (ρ := spR sp) (et_and (et_B (ev_isi (ev_var rfl) (hdat H4 e34) rfl)) fun _ => et_and (et_test (ev_eqI (ev_var rfl) ev_c)) fun _ => et_test (ev_gt (ev_len (ev_var rfl) (fun H5 e5 => sA H5 (e12.trans (e34.trans e5)))) ev_c)) (fun hb H5 e5 => ?_) fun _ H5 e5 => ?_
      · refine s_ret (ρ := spR sp) (ev_catD (C1 := Fine 300 (PyData.depthAll ds)) (C2 := Fine 300 (PyData.depthAll ds)) (cutE (e34.trans e5) (eo_some ev_c) eo_none) (fun H6 e6 => cutE (e34.trans (e5.trans e6)) eo_none (eo_some ev_c)) fun d1 d2 f1 f2 => by have := f1.len; have := f2.len; omega) fun v' H6 e6 ⟨ds', ⟨d1, d2, f1, f2, ed⟩, h⟩ => ?_
        exact good v' ds' H6 (e34.trans (e5.trans e6)) h (by rw [ed]; have f := f1.append f2; exact ⟨f.all, Nat.le_trans f.len (by decide)⟩)
      have e35 := e34.trans e5
      refine q_when (ρ := spR sp) (b := false) ((et_and (b := true) (et_B (ev_isi (ev_var rfl) (hdat H5 e35) rfl)) fun h => by cases h).to rfl) (fun hb => by cases hb) fun _ H6 e6 => ?_
      refine q_when (ρ := spR sp) (b := false) ((et_and (b := true) (et_B (ev_isi (ev_var rfl) (hdat H6 (e35.trans e6)) rfl)) fun h => by cases h).to rfl) (fun hb => by cases hb) fun _ H7 e7 => ?_
      exact last _ _ H7 rfl rfl rfl (e12.trans (e35.trans (e6.trans e7)))
    by_cases h0 : ds.length = 0
    · refine q_when (ρ := spR sp) (b := false) ((et_and (b := false) (et_B (ev_isi (ev_var rfl) hd rfl)) fun _ => (et_and (b := true) (et_test (ev_gt (ev_len (ev_var rfl) sA) ev_c)) fun h => ?_).to ?_).to rfl) (fun hb => by cases hb) fun _ H1 e1 => rest _ _ _ H1 rfl e1
      · have := of_decide_eq_true h
        omega
      · rw [decide_eq_false (by omega)]
        rfl
    · refine q_whenC (ρ := spR sp) (C := fun _ => True) (etc_and (et_B (ev_isi (ev_var rfl) hd rfl)) (etc_and ((et_test (ev_gt (ev_len (ev_var rfl) sA) ev_c)).to (decide_eq_true (by omega))) (etc_test (ev_opP (Pa := Below 6) (Pb := fun v => v = .int 0) (ev_take (ev_var rfl) (ev_var rfl) ev_c dr (by decide)) ev_c fun x y ⟨m, ex, _⟩ ey => by
        subst ex ey
        exact fun H1 e1 Q q => rv_cmpI H1 Q (q _ H1 .rfl ⟨_, rfl, trivial⟩))))) (fun _ H1 e1 => ?_) fun _ H1 e1 => rest _ _ _ H1 rfl e1
      refine q_asg (ρ := spR sp) (ev_take (ev_var rfl) (ev_var rfl) (ev_len (ev_var rfl) (fun H2 e2 => sA H2 (e1.trans e2))) (dr.sp e1) (by omega)) fun v1 H2 e2 ⟨m, ev, m0, m1⟩ => ?_
      subst ev
      have e12 := e1.trans e2
      have hm : m.toNat < xs.length := by omega
      have gx : xs[m.toNat]? = some xs[m.toNat] := List.getElem?_eq_getElem hm
      obtain ⟨dm, g1, g2⟩ := hxs.get gx
      have hmem := List.mem_of_getElem? g1
      have dmd : dm.depth ≤ PyData.depthAll ds := depth_mem hmem
      have dpn : PyData.depthAll ds + 1 < n + 1 := dp
      have hdat : ∀ H3, (spR sp).r H2 H3 → DS (spR sp) H3 (.ref a) (.tuple ds) := fun H3 e3 => hds H3 (e12.trans e3)
      refine s_ret (ρ := spR sp) (ev_catD (C1 := Fine 301 (PyData.depthAll ds + 1)) (C2 := Fine 300 (PyData.depthAll ds + 1)) ((ev_catD (C1 := Fine 300 (PyData.depthAll ds + 1)) (C2 := Fine 1 (PyData.depthAll ds + 1)) ?_ ?_ ?_).imp ?_) ?_ ?_) fun v' H3 e3 ⟨ds', ⟨d1, d2, f1, f2, ed⟩, h⟩ => ?_
      · exact (ev_slD Le.rfl (ev_var rfl) eo_none (eo_some (ev_var rfl)) (hdat H2 .rfl)).imp fun v H' _ h => ⟨_, (fine.cut _ _).up (Nat.le_succ _), h⟩
      · intro H3 e3
        refine (ev_tup (Rr := fun vs H' => ∃ x, vs = [x] ∧ GoodV sp (PyData.depthAll ds + 1) x H') (ea_one (ev_call (ea_cons (ev_var rfl) (ea_cons (ev_var rfl) (ea_cons (ev_ix (n := m.toNat) (ev_var rfl) (ev_var rfl) (fun H4 e4 => sA H4 (e12.trans (e3.trans e4))) (by omega) gx) ea_nil))) fun H4 e4 Q' q' E' => ?_)) fun vs H4 _ ⟨x, e, _⟩ => by rw [e]; show 1 ≤ 100000; decide).imp fun v H4 e4 ⟨p, vs, H5, ev, ⟨x, evs, dx, hx, gx⟩, hp5, r5, eH⟩ => ?_
        · exact ⟨ra, sp, _, dm, rfl, dr.sp (e12.trans (e3.trans e4)), (e12.trans (e3.trans e4)).ds g2, plainTs_mem hpl.2 hmem, by omega, fun v' d' H' e h g => q' v' H' e ⟨d', h, g.1, g.2.1, Nat.le_trans g.2.2 (by omega)⟩⟩
        · subst ev evs
          refine ⟨[dx], ⟨fun d hd => ?_, Nat.le_refl _⟩, .tup (by rw [eH]; exact upd_same) (.cons ((eH ▸ r_new (ρ := spR sp) _ hp5 : (spR sp).r H5 H4).ds hx) .nil)⟩
          rw [List.mem_singleton.mp hd]
          exact gx
      · intro d1 d2 f1 f2
        have := f1.len
        have := f2.len
        omega
      · rintro v H3 e3 ⟨ds', ⟨d1, d2, f1, f2, rfl⟩, h⟩
        exact ⟨_, f1.append f2, h⟩
      · intro H3 e3
        exact (ev_slD Le.rfl (ev_var rfl) (eo_some (ev_add (ev_var rfl) ev_c)) eo_none (hdat H3 e3)).imp fun v H' _ h => ⟨_, (fine.cut _ _).up (Nat.le_succ _), h⟩
      · intro d1 d2 f1 f2
        have := f1.len
        have := f2.len
        omega
      · have f := f1.append f2
        rw [← ed] at f
        have g := f.good (by decide)
        exact k v' _ H3 (e12.trans e3) h g
end Slip
/-! the law of tables -/
namespace Slip
open PySem PySem.Spec PyProof.Rows L2
/-! ### lists for tuples -/
theorem piece_tupD (m : PyData) : isPieceD (tupD m) = isPieceD m := by cases m <;> rfl
theorem whole_tupD (m : PyData) : isWholeD 1 9 (tupD m) = isWholeD 1 9 m := by cases m <;> rfl
theorem seq_tupD (m : PyData) : isSeqD (tupD m) = isSeqD m := by cases m <;> rfl
theorem items_tupD (m : PyData) : itemsD (tupD m) = (itemsD m).map tupD := by
  cases m with
  | tuple ds => exact tupAll_map ds
  | list ds => exact tupAll_map ds
  | _ => rfl
theorem fault_two {d : PyData} (hq : isSeqD d = true) (h : (itemsD d).length ≠ 3) : isFaultD d = false := by
  unfold isFaultD isTripleD
  rw [hq, decide_eq_false h]
  rfl
theorem fault_tupD (d : PyData) : isFaultD (tupD d) = isFaultD d := by
  cases hq : isSeqD d with
  | false =>
    rw [fault_seq hq, fault_seq (by rw [seq_tupD]; exact hq)]
  | true =>
    by_cases h3 : (itemsD d).length = 3
    · obtain ⟨m, w, c, e⟩ := three h3
      have e2 : itemsD (tupD d) = [tupD m, tupD w, tupD c] := by rw [items_tupD, e]; rfl
      have f1 : isFaultD d = (isPieceD m && isPieceD w && !(PyData.eqv m w) && isWholeD 1 9 c) := by
        unfold isFaultD isTripleD
        rw [hq, e]
        rfl
      have f2 : isFaultD (tupD d) = (isPieceD (tupD m) && isPieceD (tupD w) && !(PyData.eqv (tupD m) (tupD w)) && isWholeD 1 9 (tupD c)) := by
        unfold isFaultD isTripleD
        rw [seq_tupD, hq, e2]
        rfl
      rw [f1, f2, piece_tupD, piece_tupD, whole_tupD]
      cases h1 : isPieceD m with
      | false => rfl
      | true =>
        cases h2 : isPieceD w with
        | false => rfl
        | true =>
          obtain ⟨s, rfl, _⟩ := piece_str h1
          obtain ⟨t, rfl, _⟩ := piece_str h2
          rfl
    · rw [fault_two hq h3, fault_two (by rw [seq_tupD]; exact hq) (by rw [items_tupD, List.length_map]; exact h3)]
theorem pair_tupD {d : PyData} (h : isFaultD d = true) : pairOf (tupD d) = pairOf d := by
  obtain ⟨s, t, c, e, _⟩ := fault_parts h
  rw [pair_fault e, pair_fault (d := tupD d) (s := s) (t := t) (c := .int c) (by rw [items_tupD, e]; rfl)]
theorem table_tupD (d : PyData) : isTableD (tupD d) = isTableD d := by
  unfold isTableD
  rw [seq_tupD, items_tupD, List.length_map, List.all_map]
  have ha : (itemsD d).all (isFaultD ∘ tupD) = (itemsD d).all isFaultD := by
    have : isFaultD ∘ tupD = isFaultD := funext fun x => fault_tupD x
    rw [this]
  rw [ha]
  cases hf : (itemsD d).all isFaultD with
  | false => rw [Bool.and_false]; rfl
  | true =>
    have : ((itemsD d).map tupD).map pairOf = (itemsD d).map pairOf := by
      rw [List.map_map]
      exact List.map_congr_left fun x hx => pair_tupD (List.all_eq_true.mp hf x hx)
    rw [this]
/-! ### a datum is itself -/
mutual
theorem so_self : ∀ d : PyData, plainT d = true → soD d d = true
  | .str s, _ => decide_eq_true rfl
  | .int i, _ => decide_eq_true rfl
  | .tuple ds, h => by
    have h' : ds.length ≤ 300 ∧ plainTs ds = true := by simpa [plainT] using h
    exact sos_self ds h'.2
  | .none, h => by cases h
  | .bool _, h => by cases h
  | .list _, h => by cases h
  | .dict _, h => by cases h
theorem sos_self : ∀ ds : List PyData, plainTs ds = true → soAll ds ds = true
  | [], _ => rfl
  | d :: ds, h => by
    have h' : plainT d = true ∧ plainTs ds = true := by simpa [plainTs] using h
    show (soD d d && soAll ds ds) = true
    rw [so_self d h'.1, sos_self ds h'.2]
    rfl
end
theorem so_bool (b : Bool) : soD (.bool b) (.bool b) = true := by cases b <;> rfl
/-- what a table looks like -/
theorem table_plain {ds : List PyData} (hn : noLists ds = true) (h : isTableD (.tuple ds) = true) : plainT (.tuple ds) = true ∧ (PyData.tuple ds).depth ≤ 2 := by
  have h' : ((true && decide (ds.length ≤ 8)) && ds.all isFaultD) = true := by
    cases q : ((true && decide (ds.length ≤ 8)) && ds.all isFaultD) with
    | true => rfl
    | false =>
      have z : (((true && decide (ds.length ≤ 8)) && ds.all isFaultD) && risingD (ds.map pairOf)) = true := h
      rw [q] at z
      cases z
  have h2 : ds.length ≤ 8 ∧ ∀ x ∈ ds, isFaultD x = true := by simpa using h'
  have one : ∀ x ∈ ds, plainT x = true ∧ x.depth ≤ 1 := fun x hx => by
    obtain ⟨s, t, c, e, p1, p2, _, _, _, hq⟩ := fault_parts (h2.2 x hx)
    have nl := noLists_mem hn hx
    cases x with
    | tuple es =>
      have e' : es = [.str s, .str t, .int c] := e
      subst e'
      obtain ⟨s', es, l1, _⟩ := piece_str p1
      obtain ⟨t', et, l2, _⟩ := piece_str p2
      cases es
      cases et
      refine ⟨?_, Nat.le_refl _⟩
      show (decide (3 ≤ 300) && (decide (s.length ≤ 300) && (decide (t.length ≤ 300) && (true && true)))) = true
      rw [decide_eq_true (show s.length ≤ 300 by omega), decide_eq_true (show t.length ≤ 300 by omega)]
      rfl
    | list es => cases nl
    | _ => cases hq
  have all : ∀ l : List PyData, (∀ x ∈ l, plainT x = true ∧ x.depth ≤ 1) → plainTs l = true := fun l => by
    induction l with
    | nil => intro _; rfl
    | cons x l ih =>
      intro h
      show (plainT x && plainTs l) = true
      rw [(h x (List.mem_cons_self ..)).1, ih fun y hy => h y (List.mem_cons_of_mem _ hy)]
      rfl
  refine ⟨?_, ?_⟩
  · show (decide (ds.length ≤ 300) && plainTs ds) = true
    rw [decide_eq_true (by omega), all ds one]
    rfl
  · show PyData.depthAll ds + 1 ≤ 2
    have := depth_all (D := 1) fun x hx => (one x hx).2
    omega
/-! ### rules -/
section
variable {ρ ρf : Rl} {K : Frag} {σ : L2.St} {H : Hp} {ta te : TE} {tr : TA} {x : V} {d : PyData} {ds : List PyData} {Rr : List V → Hp → Prop}
theorem ea_consV (h : EvV ρ ta σ H x) (hr : EvA ρ tr σ H Rr) : EvA ρ (tCons ta tr) σ H (fun vs H' => ∃ ws, vs = x :: ws ∧ Rr ws H') := fun H1 e _ q =>
  h H1 e _ fun v H2 e2 ev => hr H2 (e.trans e2) _ fun ws H3 e3 rw' => q _ H3 (e2.trans e3) ⟨ws, by rw [ev], rw'⟩
theorem ea_nilD : EvA ρ tNil σ H (fun vs H' => DSs ρf H' vs []) := fun H1 _ _ q => q [] H1 .rfl .nil
theorem ea_consD (le : Le ρ ρf) (h : Ev ρ ta σ H (fun v H' => DS ρf H' v d)) (hr : ∀ H1, ρ.r H H1 → EvA ρ tr σ H1 (fun vs H' => DSs ρf H' vs ds)) : EvA ρ (tCons ta tr) σ H (fun vs H' => DSs ρf H' vs (d :: ds)) := fun H1 e _ q =>
  h H1 e _ fun v H2 e2 hv => hr H2 (e.trans e2) H2 .rfl _ fun ws H3 e3 hw => q _ H3 (e2.trans e3) (.cons (le.ds e3 hv) hw)
theorem ev_tupDs (le : Le ρ ρf) (h : EvA ρ tr σ H (fun vs H' => DSs ρf H' vs ds)) (hl : ds.length ≤ 100000) : Ev ρ (tTup tr) σ H (fun v H' => DS ρf H' v (.tuple ds)) :=
  (ev_tup h fun vs H1 _ e => by rw [e.length]; exact hl).imp fun v H2 r ⟨p, vs, H1, ev, hv, hp, r1, eH⟩ => by
    subst ev
    exact .tup (by rw [eH]; exact upd_same) (le.dss (eH ▸ r_new (ρ := ρ) _ hp) hv)
end
/-- what was handed looks as the table does -/
theorem mixed_table {d d' : PyData} (m : Mixed d d') : isTableD d' = isTableD d := by rw [← table_tupD d', m]
theorem mixed_sm {d d' : PyData} (m : Mixed d d') : sm d' = sm d := by rw [← sm_tup d', m]
theorem mixed_depth {d d' : PyData} (m : Mixed d d') : d'.depth = d.depth := by rw [← dep_tup d', m]
end Slip
/-! a dict made by a comprehension, its keys tuples -/
namespace Slip
open PySem PySem.Spec PyProof.Rows L2
/-- the entry goes in -/
theorem put_tup {X : Cx} {pins : List (Addr × Obj)} {σ : L2.St} {H : Hp} {s : Shared} {E : Value → Shared → Prop} {D b : Addr} {kvs : List (List Key × V)} {k : List Key} {v : V} {r : Value} {Q : Unit → Shared → Prop} (hu : X.A.units + 1 < cLine) (I : Inv X pins σ H s) (hD : H D = some (.dT kvs)) (hb : H b = some (.tup (k.map kV))) (hz : kvs.length < sizeLine)
    (rv : RelV v r) (q : ∀ s', Inv X pins σ (upd H D (.dT (putK kvs k v))) s' → Q () s') : wpAny (model X.prog X.w) X.A (dictSet D (.ref b) r) Q E s := by
  obtain ⟨zz, hs, ys, rel, dd⟩ := dt_of I.hok hD
  have len1 : ys.length ≤ sizeLine := (Paired.length rel) ▸ zz
  have len2 : (putK kvs k v).length ≤ sizeLine := Nat.le_trans (length_putK kvs k v) (Nat.succ_le_of_lt hz)
  refine wpAny_dictSet_heap (hsz := len1) (show X.A.units < cLine by omega) (key_of I.hok hb) dd fun h' dd' sb => q _ ?_
  obtain ⟨ob, es, ep, e1, e2, e3, e4, _, e5⟩ := dd'
  refine d_write I (hD ▸ True.intro) sb ⟨ob, e1⟩ ⟨len2, hs, _, Paired.mapP (rel.put k hb rv) fun p y f => ⟨f.1, by rw [upd_ne (ne_of f.2.1 hD (by intro z; cases z))]; exact f.2.1, f.2.2⟩, ob, es, ep, e1, e2, e3, e4, e5⟩
section
variable {X : Cx}
/-- {(a, b): c for target in iter if ..}: D the new dict -/
def tDcT (wi : TI) (g : TG) (tt : TT) (tk tv : TE) (vs : List Nat) : TE := fun σ H Q => wi σ H fun J H1 => ∀ D, H1 D = none → ∃ W : Nat → Nat → Hp → Prop, (∃ m, W 0 m (upd H1 D (.dT []))) ∧ ∀ i m H, W i m H →
  (J.stop i H ∧ Q (.ref D) H) ∨ (J.go i H ∧ ∃ Nx : Hp → Prop, (∀ H', Nx H' → ∃ m', m' < m ∧ W (i + 1) m' H') ∧ ∀ x H', J.yld i H x H' → g x (wipe σ vs) H' fun σ2 H2 => wipe σ2 vs = wipe σ vs ∧ tt σ2 H2 fun c H3 =>
    if c = true then tk σ2 H3 fun y H4 => tv σ2 H4 fun z H5 => ∃ (kvs : List (List Key × V)) (k : List Key) (b : Addr), y = .ref b ∧ H5 b = some (.tup (k.map kV)) ∧ H5 D = some (.dT kvs) ∧ kvs.length < sizeLine ∧ Nx (upd H5 D (.dT (putK kvs k z))) else Nx H3)
theorem pe_dcT {kx vx tg iter : Expr} {ifs : List Expr} {scope : Scope} {own : List (Str × Nat)} {pos : Pos} {wi : TI} {g : TG} {tt : TT} {tk tv : TE} (hc : X.calm = true) (hu : X.A.units + 1 < cLine) (hN : X.N.Nodup) (hi : PI X tg iter wi) (ok : BlkOk X.N X.env.scope scope own)
    (hg : ∀ s H C cl fp, PG (X.blk s H scope (compEnvC scope cl C X.env) fp) tg g) (ht : ∀ s H C cl fp, PTs (X.blk s H scope (compEnvC scope cl C X.env) fp) ifs tt)
    (hk : ∀ s H C cl fp, PE (X.blk s H scope (compEnvC scope cl C X.env) fp) kx tk) (hv : ∀ s H C cl fp, PE (X.blk s H scope (compEnvC scope cl C X.env) fp) vx tv) (hfs : ∀ x, foldedSetIterable iter X.env x = pure x := by intro _; rfl) :
    PE X (.DictComp kx vx [⟨tg, iter, ifs, 0⟩] scope pos) (tDcT wi g tt tk tv (own.map (·.2))) := by
  refine ⟨fun pins s σ H Q I asked => ?_⟩
  rw [arm_eval_DictComp]
  have cells : ∀ y ∈ scope.names, y.2 = .free → ∃ c, X.env.cells.lookup y.1 = some c := fun y hy e => (ok.free y hy e).elim (fun z => I.ok.has _ (.inl z)) fun z => I.ok.has _ (.inr z)
  refine wpAny_comprehension_free rfl hfs (closure_ok cells) ok.kind (fun y hy e => by rw [ok.uniq y hy, e]) (thn (hi.run pins s σ H _ I asked) fun xv sa walked => thn walked fun itv sb got => ?_)
  obtain ⟨it, fp, tn, J, Hb, rfl, Ib, T, stb, fb, plan⟩ := got
  refine wpAny_newObj_type (newEnv_comp ?_)
  -- the dict, at the heap's end
  have fresh : Hb sb.heap.objs.size = none := Ib.hok.fresh (Nat.le_refl _)
  generalize eD : sb.heap.objs.size = D at fresh
  obtain ⟨W, ⟨m0, w0⟩, turn⟩ := plan D fresh
  generalize esc : ({ sb with heap := sb.heap.push { cls := .type "dict", data := .dict #[] } } : Shared) = sc
  have heapc : sc.heap = sb.heap.push { cls := .type "dict", data := .dict #[] } := esc ▸ rfl
  generalize eHc : upd Hb D (.dT []) = Hc at w0
  have Ic : Inv X pins σ Hc sc := by
    subst esc eHc eD
    exact Ib.laid (t' := sb.toks) (fun b o e => Heap.get?_push_of_some _ e) (Nat.le_refl _) (dt_empty sb.heap Ib.big)
  have small : ∀ b ∈ fp, b < sb.heap.objs.size := fun b hb => (T.obj _ _ stb b hb).elim fun o z => Heap.lt_size z.1
  have fc : ∀ b ∈ fp, FpOk X pins Hc b ∧ b < sc.heap.objs.size := fun b hb => ⟨⟨by rw [← eHc, upd_ne (eD ▸ Nat.ne_of_lt (small b hb))]; exact (fb b hb).1, (fb b hb).2⟩, by rw [heapc, Heap.size_push]; exact Nat.lt_succ_of_lt (small b hb)⟩
  have stc : tn 0 sc.heap := T.keep _ _ _ stb fun b _ o e => heapc ▸ Heap.get?_push_of_some _ e
  have Id := block_start Ic ok hN fc
  have qg := hg sc Hc sc.heap.objs.size (cellsFrom (sc.heap.objs.size + 1) scope.names (cloFrom X.env.cells scope.names [])) fp
  have qt := ht sc Hc sc.heap.objs.size (cellsFrom (sc.heap.objs.size + 1) scope.names (cloFrom X.env.cells scope.names [])) fp
  have qk := hk sc Hc sc.heap.objs.size (cellsFrom (sc.heap.objs.size + 1) scope.names (cloFrom X.env.cells scope.names [])) fp
  have qv := hv sc Hc sc.heap.objs.size (cellsFrom (sc.heap.objs.size + 1) scope.names (cloFrom X.env.cells scope.names [])) fp
  have own0 : ∀ b ∈ fp, Hc b = none := fun b hb => (fc b hb).1.1
  show codeAny _ _ (.compStart _ 0 (.ref it) (.ref D) (compEnvC scope (cellsFrom (sc.heap.objs.size + 1) scope.names (cloFrom X.env.cells scope.names [])) sc.heap.objs.size X.env)) _ { sc with heap := pushCells (sc.heap.push { cls := .type "dict", data := .dict #[] }) scope.names }
  generalize ece : compEnvC scope (cellsFrom (sc.heap.objs.size + 1) scope.names (cloFrom X.env.cells scope.names [])) sc.heap.objs.size X.env = ce at Id qg qt qk qv ⊢
  have locs : ce.locals = sc.heap.objs.size := ece ▸ rfl
  generalize esd : ({ sc with heap := pushCells (sc.heap.push { cls := .type "dict", data := .dict #[] }) scope.names } : Shared) = sd at Id ⊢
  have std : tn 0 sd.heap := T.keep _ _ _ stc fun b _ o e => esd ▸ pushCells_keeps _ _ _ _ (Heap.get?_push_of_some _ e)
  have free1 : ∀ {σ' : L2.St} {H' : Hp} {s' : Shared}, Inv (X.blk sc Hc scope ce fp) [] σ' H' s' → (∀ b ∈ fp, H' b = none) → ∀ b ∈ fp, FpOk (X.blk sc Hc scope ce fp) [] H' b := fun I' nn b hb =>
    ⟨nn b hb, (I'.ok.exf b hb).1, I'.ok.exfs b hb, .inl hb, fun x c e => (I'.ok.exf b hb).2 x c e, fun p hp => nomatch (show p ∈ ([] : List (Addr × Obj)) from hp)⟩
  refine codeAny_compStart_dict ?loop (T.self X.A 0 _ _ _ std ?loop)
  refine compLoop_anyD (fun n s' => ∃ i H', Inv (X.blk sc Hc scope ce fp) [] (wipe σ (own.map (·.2))) H' s' ∧ tn i s'.heap ∧ (∀ b ∈ fp, H' b = none) ∧ W i n H') (fun n se ⟨i, He, Ie, ste, ne, we⟩ => ?_) m0 ⟨0, Hc, Id, std, own0, w0⟩
  rcases turn i n He we with ⟨stop, ends⟩ | ⟨go, Nx, less, step⟩
  · -- the end
    refine thnF (T.done (X.blk sc Hc scope ce fp) rfl rfl rfl hc i [] se _ He (fun _ _ => False) Ie (free1 Ie ne) ste stop) fun r sf ⟨er, If⟩ => ?_
    subst er
    have noL : He sc.heap.objs.size = none := locs ▸ (show He ce.locals = none from If.free)
    obtain ⟨m, ns0, _⟩ := If.loc
    have ns : sf.heap.Ns sc.heap.objs.size m := locs ▸ (show sf.heap.Ns ce.locals m from ns0)
    obtain ⟨p0, p1, p2, p3, p4, p5⟩ := Ic.fpOk (Nat.le_refl _) noL
    have Ig : Inv X pins σ He sf := Ic.call' (ch := fp) If.os If.base If.hok If.bare fun b hb => ⟨(fc b hb).1.2.2.2.1, (fc b hb).1.2.1, (fc b hb).1.2.2.2.2.1, (fc b hb).1.2.2.2.2.2⟩
    exact ⟨m, ns, fun h'' same => ⟨.ref D, He, Ig.turned (t' := sf.toks) (fun b o hb e => (same.2 b hb).trans e) p0 p1 p3 p4 p5, rfl, ends⟩⟩
  · -- a turn
    refine thnF (T.item (X.blk sc Hc scope ce fp) rfl rfl rfl hc i [] se _ He (fun _ _ => False) Ie (free1 Ie ne) ste go) fun r sf ⟨u, er, after⟩ => ?_
    subst er
    refine thnF after fun _ sg ⟨x, Hg, Ig, rx, yl, stg, ng⟩ => ?_
    refine thnF (qg.run _ sg _ Hg x u _ (Ig.pinned (free1 Ig ng) (T.obj _ _ stg)) rx (step x Hg yl)) fun _ sh ⟨σh, Hh, Ih, wh, ask⟩ => ?_
    refine thnF (qt.run _ sh σh Hh _ Ih ask) fun c si ⟨Hi, Ii, ask2⟩ => ?_
    have close : ∀ {s' : Shared} {H' : Hp}, Inv (X.blk sc Hc scope ce fp) ([] ++ pinsAt fp sg.heap) σh H' s' → Nx H' → ∃ m, m < n ∧ ∃ i H', Inv (X.blk sc Hc scope ce fp) [] (wipe σ (own.map (·.2))) H' s' ∧ tn i s'.heap ∧ (∀ b ∈ fp, H' b = none) ∧ W i m H' := fun {s' H'} I' nx => by
      obtain ⟨m', lt, w'⟩ := less H' nx
      have held : ∀ b ∈ fp, ∀ o, sg.heap.get? b = some o → s'.heap.get? b = some o ∧ H' b = none := fun b hb o e => ⟨(I'.pin (b, o) (List.mem_append_right _ (List.mem_append_right _ (mem_pinsAt hb e)))).1, (I'.pin (b, o) (List.mem_append_right _ (List.mem_append_right _ (mem_pinsAt hb e)))).2.1⟩
      refine ⟨m', lt, i + 1, H', (I'.unpinned (pins := [])).weak (by rw [← wh, wipe_length]) fun j v e => ?_, T.keep _ _ _ stg fun b hb o e => (held b hb o e).1, fun b hb => ?_, w'⟩
      · rw [← wh] at e
        exact (wipe_some e).1
      · exact (T.obj _ _ stg b hb).elim fun o z => (held b hb o z.1).2
    cases c with
    | false => exact close Ii ask2
    | true =>
      refine thnF (qk.run _ si σh Hi _ Ii ask2) fun kv sj ⟨yk, Hj, Ij, rk, ask3⟩ => ?_
      refine thnF (qv.run _ sj σh Hj _ Ij ask3) fun vv sl ⟨yv, Hl, Il, rv, kvs, k, b, ek, hb, hD, hz, nx⟩ => ?_
      subst ek
      cases (show kv = Value.ref b from rk)
      exact put_tup (X := X.blk sc Hc scope ce fp) hu Il hD hb hz rv fun sm Im => close Im nx
end
/-- the truth of a value, whatever its kind -/
def tTru (K : Frag) (ta : TE) : TT := fun σ H Q => ta σ H fun x H' => ∃ k, TruV K x H' k ∧ Q k H'
end Slip
/-! machines, looked at -/
namespace Slip
open PySem PySem.Spec PyProof.Rows L2
def spB2 (F : Int → PyData → Bool) : Sp := fun vs H Q _ => ∃ v n d, vs = [v, .int n] ∧ DS exR H v d ∧ sm d = true ∧ ∀ H', Ext H H' → Q (.bl (F n d)) H'
theorem spB2_len {F : Int → PyData → Bool} {vs : List V} {H : Hp} {Q : VK} {E : XK} (h : spB2 F vs H Q E) : vs.length = 2 := by
  obtain ⟨v, n, d, rfl, _⟩ := h
  rfl
theorem ev_B2 {ρ : Rl} {σ : L2.St} {H : Hp} {ta tb : TE} {v : V} {d : PyData} {n : Int} {F : Int → PyData → Bool} {E : XK} (h : EvV ρ ta σ H v) (h2 : EvV ρ tb σ H (.int n)) (hd : DS ρ H v d) (hs : sm d = true) : EvV ρ (tCall (spB2 F) [] E (tCons ta (tCons tb tNil))) σ H (.bl (F n d)) :=
  ev_call (ea_cons h (ea_cons h2 ea_nil)) fun H1 e1 Q q E => ⟨v, n, d, rfl, (e1.ds hd).ex, hs, fun H' e => q _ H' (Ext.r e) rfl⟩
def isLetD : PyData → Bool
  | .str s => isWordD (.str s) && decide (s.length = 1)
  | _ => false
def isMoveD (n : Int) (d : PyData) : Bool := isTripleD d && match itemsD d with
  | [s, l, b] => isLetD l && (isWholeD 0 (n - 1) s && isWholeD 0 (n - 1) b)
  | _ => false
def areEndsD (n : Int) (d : PyData) : Bool := isSeqD d && ((itemsD d).all (isWholeD 0 (n - 1)) && risingD (itemsD d))
def areMovesD (n : Int) (d : PyData) : Bool := isSeqD d && (itemsD d).all (isMoveD n) && risingD ((itemsD d).map pairOf)
def isMachineD (d : PyData) : Bool := isTripleD d && match itemsD d with
  | [.int n, e, m] => isWholeD 1 8 (.int n) && (areEndsD n e && areMovesD n m)
  | _ => false
def sp_is_move (K : Frag) : Sp := spB2 isMoveD
def sp_are_ends (K : Frag) : Sp := spB2 areEndsD
def sp_are_moves (K : Frag) : Sp := spB2 areMovesD
def sp_is_machine (K : Frag) : Sp := spB1 isMachineD
theorem len_is_move {K : Frag} {vs : List V} {H : Hp} {Q : VK} {E : XK} (h : sp_is_move K vs H Q E) : vs.length = 2 := spB2_len h
theorem len_are_ends {K : Frag} {vs : List V} {H : Hp} {Q : VK} {E : XK} (h : sp_are_ends K vs H Q E) : vs.length = 2 := spB2_len h
theorem len_are_moves {K : Frag} {vs : List V} {H : Hp} {Q : VK} {E : XK} (h : sp_are_moves K vs H Q E) : vs.length = 2 := spB2_len h
theorem len_is_machine {K : Frag} {vs : List V} {H : Hp} {Q : VK} {E : XK} (h : sp_is_machine K vs H Q E) : vs.length = 1 := spB1_len h
theorem sm_items {d : PyData} (h : sm d = true) : (itemsD d).length ≤ 1000 ∧ smAll (itemsD d) = true := by
  cases d with
  | list ds => exact sm_seq (.inl h)
  | tuple ds => exact sm_seq (.inr h)
  | _ => exact ⟨Nat.zero_le _, rfl⟩
theorem whole_int {lo hi : Int} {d : PyData} (h : isWholeD lo hi d = true) : ∃ i, d = .int i ∧ lo ≤ i ∧ i ≤ hi := by
  cases d with
  | int i =>
    have h' : lo ≤ i ∧ i ≤ hi := by simpa [isWholeD] using h
    exact ⟨i, rfl, h'.1, h'.2⟩
  | _ => cases h
theorem let_str {d : PyData} (h : isLetD d = true) : ∃ c, d = .str ⟨#[c]⟩ ∧ c ∈ letters := by
  cases d with
  | str s =>
    have h' : isWordD (.str s) = true ∧ s.length = 1 := by simpa [isLetD] using h
    obtain ⟨⟨xs⟩⟩ := s
    match xs, h'.2 with
    | [c], _ =>
      have h2 : (decide (c ∈ letters) && true) = true := h'.1
      rw [Bool.and_true] at h2
      exact ⟨c, rfl, of_decide_eq_true h2⟩
  | _ => cases h
theorem move_parts {n : Int} {d : PyData} (h : isMoveD n d = true) : ∃ (s : Int) (c : Nat) (b : Int), itemsD d = [.int s, .str ⟨#[c]⟩, .int b] ∧ c ∈ letters ∧ 0 ≤ s ∧ s ≤ n - 1 ∧ 0 ≤ b ∧ b ≤ n - 1 ∧ isSeqD d = true := by
  have h' : isTripleD d = true ∧ (match itemsD d with
    | [s, l, b] => isLetD l && (isWholeD 0 (n - 1) s && isWholeD 0 (n - 1) b)
    | _ => false) = true := by simpa [isMoveD] using h
  have ht2 : isSeqD d = true ∧ (itemsD d).length = 3 := by simpa [isTripleD] using h'.1
  match hds : itemsD d, ht2.2, h'.2 with
  | [s, l, b], _, h2 =>
    have h3 : isLetD l = true ∧ isWholeD 0 (n - 1) s = true ∧ isWholeD 0 (n - 1) b = true := by simpa using h2
    obtain ⟨c, rfl, hc⟩ := let_str h3.1
    obtain ⟨i, rfl, i0, i1⟩ := whole_int h3.2.1
    obtain ⟨j, rfl, j0, j1⟩ := whole_int h3.2.2
    exact ⟨i, c, j, rfl, hc, i0, i1, j0, j1, ht2.1⟩
theorem ok_ints {ds : List PyData} (h : ∀ d ∈ ds, ∃ i, d = .int i) : okRow ds := by
  intro d hd e he
  obtain ⟨i, rfl⟩ := h d hd
  obtain ⟨j, rfl⟩ := h e he
  exact ⟨rfl, by simp, by show (0 : Nat) ≤ 64; decide⟩
theorem ok_moves {n : Int} {ds : List PyData} (h : ds.all (isMoveD n) = true) : okRow (ds.map pairOf) := by
  intro d hd e he
  obtain ⟨d', hd', rfl⟩ := List.mem_map.mp hd
  obtain ⟨e', he', rfl⟩ := List.mem_map.mp he
  obtain ⟨s, c, b, h1, _⟩ := move_parts (List.all_eq_true.mp h d' hd')
  obtain ⟨s2, c2, b2, h2, _⟩ := move_parts (List.all_eq_true.mp h e' he')
  unfold pairOf
  rw [h1, h2]
  exact ⟨rfl, by simp, by show (1 : Nat) ≤ 64; decide⟩
def t_is_move (K : Frag) : TS := (tSeq (tIfS (tNot (tB (tCall (sp_is_triple K) [] E0 (tCons (tVar 0) tNil)))) (tRet (tC (.bl false))) tNext) (tSeq (tAsg (tVar 0) (gSeq K 3 (gCons (gName 2) (gCons (gName 3) (gCons (gName 4) gNil))))) (tSeq (tIfS (tOr (tNot (tB (tCall (sp_is_word K) [] E0 (tCons (tVar 3) tNil)))) (tTest (tOp (rNeU K) (tCB (rLenU K) (tCons (tVar 3) tNil)) (tC (.int 1))))) (tRet (tC (.bl false))) tNext) (tRet (tAndV (tCall (sp_is_whole K) [] E0 (tCons (tVar 2) (tCons (tC (.int 0)) (tCons (tOp rSubI (tVar 1) (tC (.int 1))) tNil)))) (tCall (sp_is_whole K) [] E0 (tCons (tVar 4) (tCons (tC (.int 0)) (tCons (tOp rSubI (tVar 1) (tC (.int 1))) tNil)))))))))
def t_are_ends (K : Frag) : TS := (tSeq (tIfS (tNot (tB (tCall (sp_is_sequence K) [] E0 (tCons (tVar 0) tNil)))) (tRet (tC (.bl false))) tNext) (tRet (tAndV (tCB (rAll K) (tCons (tLc (iSeq K (tVar 0)) (gName 2) tYes (tCall (sp_is_whole K) [] E0 (tCons (tVar 2) (tCons (tC (.int 0)) (tCons (tOp rSubI (tVar 1) (tC (.int 1))) tNil)))) [2]) tNil)) (tCall (sp_is_rising K) [] E0 (tCons (tVar 0) tNil)))))
def t_are_moves (K : Frag) : TS := (tSeq (tIfS (tOr (tNot (tB (tCall (sp_is_sequence K) [] E0 (tCons (tVar 0) tNil)))) (tNot (tB (tCB (rAll K) (tCons (tLc (iSeq K (tVar 0)) (gName 2) tYes (tCall (sp_is_move K) [] E0 (tCons (tVar 2) (tCons (tVar 1) tNil))) [2]) tNil))))) (tRet (tC (.bl false))) tNext) (tRet (tCall (sp_is_rising K) [] E0 (tCons (tLc (iSeq K (tVar 0)) (gName 2) tYes (tTup (tCons (tIxU K (tVar 2) (tC (.int 0))) (tCons (tIxU K (tVar 2) (tC (.int 1))) tNil))) [2]) tNil))))
def t_is_machine (K : Frag) : TS := (tSeq (tIfS (tNot (tB (tCall (sp_is_triple K) [] E0 (tCons (tVar 0) tNil)))) (tRet (tC (.bl false))) tNext) (tSeq (tAsg (tVar 0) (gSeq K 3 (gCons (gName 1) (gCons (gName 2) (gCons (gName 3) gNil))))) (tRet (tAndV (tCall (sp_is_whole K) [] E0 (tCons (tVar 1) (tCons (tC (.int 1)) (tCons (tC (.int 8)) tNil)))) (tAndV (tCall (sp_are_ends K) [] E0 (tCons (tVar 2) (tCons (tVar 1) tNil))) (tCall (sp_are_moves K) [] E0 (tCons (tVar 3) (tCons (tVar 1) tNil))))))))
theorem pure_is_move {K : Frag} (vs : List V) (H : Hp) (Q : VK) (E : XK) (h : sp_is_move K vs H Q E) : t_is_move K { nx := fun _ H' => Q .non H', rt := Q } (start ["value", "count", "state", "letter", "behind"] vs) H := by
  obtain ⟨v, n, d, rfl, hd, hs, k⟩ := h
  refine q_when (ρ := exR) (et_not (et_B (ev_B1 (F := isTripleD) (ev_var rfl) hd hs))) (fun hb H1 e => s_retV (ρ := exR) ev_c fun H2 e2 => ?_) (fun hb H1 e => ?_)
  · have e0 : isMoveD n d = false := by
      unfold isMoveD
      rw [notb hb, Bool.false_and]
    rw [e0] at k
    exact k H2 (e.trans e2).ext
  have ht : isTripleD d = true := notb' hb
  have ht2 : isSeqD d = true ∧ (itemsD d).length = 3 := by simpa [isTripleD] using ht
  obtain ⟨a, xs, rfl, ha, hsq, _⟩ := hd.seqd ht2.1
  have hsm := (sm_items hs).2
  obtain ⟨m, w, c, hds⟩ := three ht2.2
  rw [hds] at ha hsm
  obtain ⟨x, y, z, rfl, hm, hw, hc⟩ := ha.three
  have sm3 : sm m = true ∧ sm w = true ∧ sm c = true := by simpa [smAll] using hsm
  have ef : isMoveD n d = (isLetD w && (isWholeD 0 (n - 1) m && isWholeD 0 (n - 1) c)) := by
    unfold isMoveD
    rw [ht, hds, Bool.true_and]
  rw [ef] at k
  refine ⟨_, rfl, g_seq3 (hsq K H1 e) ?_⟩
  have gm : DS exR H1 x m := e.ds hm
  have gw : DS exR H1 y w := e.ds hw
  have gc : DS exR H1 z c := e.ds hc
  refine q_when (ρ := exR) (H := H1) (b := !isLetD w) ((et_or (b := !isLetD w) (et_not (et_B (ev_B1 (F := isWordD) (ev_var rfl) gw sm3.2.1))) fun h1 => ?_).to ?_) (fun hb H2 e2 => s_retV (ρ := exR) ev_c fun H3 e3 => ?_) (fun hb H2 e2 => ?_)
  · have h1' := notb' h1
    cases w with
    | str s =>
      cases gw
      have hl := sm_str sm3.2.1
      refine (et_test (ev_neI (ev_lenS (ev_var rfl) (by omega)) ev_c)).to ?_
      show (!decide ((s.length : Int) = 1)) = !(isWordD (.str s) && decide (s.length = 1))
      rw [h1', Bool.true_and]
      by_cases z1 : s.length = 1
      · rw [decide_eq_true z1, decide_eq_true (by omega)]
      · rw [decide_eq_false z1, decide_eq_false (by omega)]
    | _ => cases h1'
  · cases q : isWordD w with
    | true => rfl
    | false =>
      have : isLetD w = false := by
        cases w with
        | str s => show (isWordD (.str s) && _) = false; rw [q, Bool.false_and]
        | _ => rfl
      rw [this]
      rfl
  · rw [notb hb, Bool.false_and] at k
    exact k H3 (e.trans (e2.trans e3)).ext
  · rw [notb' hb, Bool.true_and] at k
    exact s_retV (ρ := exR) (ev_andV (ev_is_whole (ev_var rfl) ev_c (ev_sub (ev_var rfl) ev_c) (e2.ds gm)) fun _ => ev_is_whole (ev_var rfl) ev_c (ev_sub (ev_var rfl) ev_c) (e2.ds gc)) fun H3 e3 => k H3 (e.trans (e2.trans e3)).ext
/-- all([F(x, n) for x in xs]) -/
theorem all_places {ds : List PyData} {F : PyData → Bool} : (List.range ds.length).all (fun i => F ((ds[i]?).getD .none)) = ds.all F := range_all _ _ _ fun i x hx => by rw [hx]; rfl
theorem pure_are_ends {K : Frag} (vs : List V) (H : Hp) (Q : VK) (E : XK) (h : sp_are_ends K vs H Q E) : t_are_ends K { nx := fun _ H' => Q .non H', rt := Q } (start ["value", "count", "state"] vs) H := by
  obtain ⟨v, n, d, rfl, hd, hs, k⟩ := h
  refine q_when (ρ := exR) (et_not (et_B (ev_B1 (F := isSeqD) (ev_var rfl) hd hs))) (fun hb H1 e => s_retV (ρ := exR) ev_c fun H2 e2 => ?_) (fun hb H1 e => ?_)
  · have e0 : areEndsD n d = false := by
      unfold areEndsD
      rw [notb hb, Bool.false_and]
    rw [e0] at k
    exact k H2 (e.trans e2).ext
  have hq := notb' hb
  obtain ⟨a, xs, rfl, ha, hsq, hsq2⟩ := hd.seqd hq
  have hlen := ha.length
  have hl := (sm_items hs).1
  have ef : areEndsD n d = ((itemsD d).all (isWholeD 0 (n - 1)) && risingD (itemsD d)) := by
    unfold areEndsD
    rw [hq, Bool.true_and]
  rw [ef] at k
  have sqs : (∀ H2, exR.r H1 H2 → SqL K H2 a xs) ∨ ∀ H2, exR.r H1 H2 → SqT K H2 a xs := hsq2.imp (fun f H2 e2 => f K H2 (e.trans e2)) fun f H2 e2 => f K H2 (e.trans e2)
  have hx1 : DSs exR H1 xs (itemsD d) := e.dss ha
  refine s_retV (ρ := exR) (ev_andV ((ev_all (n := xs.length) (f := fun i => isWholeD 0 (n - 1) ((itemsD d)[i]?.getD .none)) (ev_lcV own_ex (by omega) (ei_seq (ev_var rfl) (fun H2 e2 => hsq K H2 (e.trans e2)) sqs) (fun x => rfl) (fun i H2 x H3 y => y.1) ?_)).val (x := .bl ((itemsD d).all (isWholeD 0 (n - 1)))) ?_) fun hall => ?_) fun H2 e2 => k H2 (e.trans e2).ext
  · rintro i x H2 H3 hi r ⟨e3, hx⟩
    obtain ⟨d1, g1, g2⟩ := hx1.get hx
    refine (ev_is_whole (ev_var rfl) ev_c (ev_sub (ev_var rfl) ev_c) (r.ds g2)).val ?_
    rw [g1]
    rfl
  · rw [hlen, all_places]
  · have ok : okRow (itemsD d) := ok_ints fun d1 hm => (whole_int (List.all_eq_true.mp hall d1 hm)).elim fun i z => ⟨i, z.1⟩
    exact ev_call (ea_cons (ev_var rfl) ea_nil) fun H2 e2 Q' q' E' => ⟨.ref a, d, rfl, ((e.trans e2).ds hd).ex, hq, hl, ok, fun H' e => q' _ H' (Ext.r e) rfl⟩
theorem pure_are_moves {K : Frag} (vs : List V) (H : Hp) (Q : VK) (E : XK) (h : sp_are_moves K vs H Q E) : t_are_moves K { nx := fun _ H' => Q .non H', rt := Q } (start ["value", "count", "move"] vs) H := by
  obtain ⟨v, n, d, rfl, hd, hs, k⟩ := h
  cases hq : isSeqD d with
  | false =>
    have e0 : areMovesD n d = false := by unfold areMovesD; rw [hq]; rfl
    rw [e0] at k
    refine q_when (ρ := exR) (b := true) ((et_or (b := true) (et_not (et_B (ev_B1 (F := isSeqD) (ev_var rfl) hd hs))) fun h1 => ?_).to (by rw [Bool.or_true])) (fun hb H1 e => s_retV (ρ := exR) ev_c fun H2 e2 => k H2 (e.trans e2).ext) (fun hb H1 e => by cases hb)
    rw [hq] at h1
    cases h1
  | true =>
  obtain ⟨a, xs, rfl, ha, hsq, hsq2⟩ := hd.seqd hq
  have hlen := ha.length
  have hl := sm_items hs
  have ef : areMovesD n d = ((itemsD d).all (isMoveD n) && risingD ((itemsD d).map pairOf)) := by
    unfold areMovesD
    rw [hq, Bool.true_and]
  rw [ef] at k
  have sqs : (∀ H2, exR.r H H2 → SqL K H2 a xs) ∨ ∀ H2, exR.r H H2 → SqT K H2 a xs := hsq2.imp (fun f H2 e2 => f K H2 e2) fun f H2 e2 => f K H2 e2
  refine q_when (ρ := exR) (b := !(itemsD d).all (isMoveD n)) ((et_or (et_not (et_B (ev_B1 (F := isSeqD) (ev_var rfl) hd hs))) fun _ => et_not (et_B ((ev_all (n := xs.length) (f := fun i => isMoveD n ((itemsD d)[i]?.getD .none)) (ev_lcV own_ex (by omega) (ei_seq (ev_var rfl) (fun H2 e2 => hsq K H2 e2) sqs) (fun x => rfl) (fun i H2 x H3 y => y.1) ?_)).val (x := .bl ((itemsD d).all (isMoveD n))) ?_))).to ?_) (fun hb H2 e2 => s_retV (ρ := exR) ev_c fun H3 e3 => ?_) (fun hb H2 e2 => ?_)
  · rintro i x H2 H3 hi r ⟨e3, hx⟩
    obtain ⟨d1, g1, g2⟩ := ha.get hx
    refine (ev_B2 (F := isMoveD) (ev_var rfl) (ev_var rfl) (r.ds g2) (smAll_mem hl.2 (List.mem_of_getElem? g1))).val ?_
    rw [g1]
    rfl
  · rw [hlen, all_places]
  · rw [hq]
    rfl
  · rw [notb hb, Bool.false_and] at k
    exact k H3 (e2.trans e3).ext
  have hall := notb' hb
  rw [hall, Bool.true_and] at k
  have hmap : (List.range xs.length).map (fun i => pairOf ((itemsD d)[i]?.getD .none)) = (itemsD d).map pairOf := by
    refine List.ext_getElem? fun i => ?_
    rw [List.getElem?_map, List.getElem?_map]
    by_cases hi : i < xs.length
    · have hi' : i < (itemsD d).length := by omega
      rw [List.getElem?_range hi, List.getElem?_eq_getElem hi']
      show some (pairOf ((itemsD d)[i]?.getD .none)) = some (pairOf (itemsD d)[i])
      rw [List.getElem?_eq_getElem hi']
      rfl
    · rw [List.getElem?_eq_none_iff.mpr (by rw [List.length_range]; omega), List.getElem?_eq_none_iff.mpr (by omega)] <;> rfl
  have sqs2 : (∀ H3, exR.r H2 H3 → SqL K H3 a xs) ∨ ∀ H3, exR.r H2 H3 → SqT K H3 a xs := hsq2.imp (fun f H3 e3 => f K H3 (e2.trans e3)) fun f H3 e3 => f K H3 (e2.trans e3)
  have hx2 : DSs exR H2 xs (itemsD d) := e2.dss ha
  refine s_retV (ρ := exR) (ev_rising (ds := (itemsD d).map pairOf) ?_ (by rw [List.length_map]; omega) (ok_moves hall)) fun H3 e3 => k H3 (e2.trans e3).ext
  rw [← hmap]
  refine ev_lcD own_ex (by omega) (ei_seq (ev_var rfl) (fun H3 e3 => hsq K H3 (e2.trans e3)) sqs2) (fun x => rfl) (fun i H2 x H3 y => y.1) ?_
  rintro D H3 r3 hD i x H4 H5 hi r4 oD ⟨e5, hx⟩
  obtain ⟨d1, g1, g2⟩ := hx2.get hx
  obtain ⟨s, c, b, p1, _, _, _, _, _, p2⟩ := move_parts (List.all_eq_true.mp hall d1 (List.mem_of_getElem? g1))
  have g3 : DS exR H4 x d1 := r4.ds (r3.ds g2)
  obtain ⟨b', ys, rfl, hb3, hb4, _⟩ := g3.seqd p2
  rw [p1] at hb3
  obtain ⟨y1, y2, y3, rfl, c1, c2, c3⟩ := hb3.three
  rw [g1]
  show Ev exR _ _ H4 (fun y H6 => DS (exR.and D) H6 y (pairOf d1))
  have : pairOf d1 = .tuple [.int s, .str ⟨#[c]⟩] := by
    unfold pairOf
    rw [p1]
  rw [this]
  cases c1
  cases c2
  exact ev_pairD .and (ev_ix (n := 0) (ev_var rfl) ev_c (hb4 K) rfl rfl) (ev_ix (n := 1) (ev_var rfl) ev_c (hb4 K) rfl rfl) (.int s) (.str _)
theorem pure_is_machine {K : Frag} (vs : List V) (H : Hp) (Q : VK) (E : XK) (h : sp_is_machine K vs H Q E) : t_is_machine K { nx := fun _ H' => Q .non H', rt := Q } (start ["value", "count", "ends", "moves"] vs) H := by
  obtain ⟨v, d, rfl, hd, hs, k⟩ := h
  refine q_when (ρ := exR) (et_not (et_B (ev_B1 (F := isTripleD) (ev_var rfl) hd hs))) (fun hb H1 e => s_retV (ρ := exR) ev_c fun H2 e2 => ?_) (fun hb H1 e => ?_)
  · have e0 : isMachineD d = false := by
      unfold isMachineD
      rw [notb hb, Bool.false_and]
    rw [e0] at k
    exact k H2 (e.trans e2).ext
  have ht : isTripleD d = true := notb' hb
  have ht2 : isSeqD d = true ∧ (itemsD d).length = 3 := by simpa [isTripleD] using ht
  obtain ⟨a, xs, rfl, ha, hsq, _⟩ := hd.seqd ht2.1
  have hsm := (sm_items hs).2
  obtain ⟨c, en, m, hds⟩ := three ht2.2
  rw [hds] at ha hsm
  obtain ⟨x, y, z, rfl, hc, he, hm⟩ := ha.three
  have sm3 : sm c = true ∧ sm en = true ∧ sm m = true := by simpa [smAll] using hsm
  refine ⟨_, rfl, g_seq3 (hsq K H1 e) ?_⟩
  have gc : DS exR H1 x c := e.ds hc
  have ge : DS exR H1 y en := e.ds he
  have gm : DS exR H1 z m := e.ds hm
  cases hw : isWholeD 1 8 c with
  | false =>
    have ef : isMachineD d = false := by
      unfold isMachineD
      rw [ht, hds]
      cases c with
      | int n => show (true && (isWholeD 1 8 (.int n) && _)) = false; rw [hw]; rfl
      | _ => rfl
    rw [ef] at k
    refine s_retV (ρ := exR) ((ev_andV (b := false) (ev_is_whole (ev_var rfl) ev_c ev_c gc) fun h => ?_).val (x := .bl false) (by rw [Bool.and_false])) fun H2 e2 => k H2 (e.trans e2).ext
    rw [hw] at h
    cases h
  | true =>
    obtain ⟨n, rfl, n1, n8⟩ := whole_int hw
    cases gc
    have ef : isMachineD d = (isWholeD 1 8 (.int n) && (areEndsD n en && areMovesD n m)) := by
      unfold isMachineD
      rw [ht, hds, Bool.true_and]
    rw [ef] at k
    exact s_retV (ρ := exR) (ev_andV (ev_is_whole (ev_var rfl) ev_c ev_c (.int n)) fun _ => ev_andV (ev_B2 (F := areEndsD) (ev_var rfl) (ev_var rfl) ge sm3.2.1) fun _ => ev_B2 (F := areMovesD) (ev_var rfl) (ev_var rfl) gm sm3.2.2) fun H2 e2 => k H2 (e.trans e2).ext
end Slip
/-! the law's own look at a machine -/
namespace Slip
open PySem PySem.Spec PyProof.Rows L2
section
variable {ρ : Rl} {K : Frag} {σ : L2.St} {H : Hp} {ta tb tc : TE} {i j k : Int}
/-- i < j < k and its like, numbers -/
theorem ev_chainI {g1 g2 : PyData → PyData → Bool} (h1 : EvV ρ ta σ H (.int i)) (h2 : EvV ρ tb σ H (.int j)) (h3 : EvV ρ tc σ H (.int k)) : EvV ρ (tChain (rCmp K g1) (rCmp K g2) ta tb tc) σ H (.bl (g1 (.int i) (.int j) && g2 (.int j) (.int k))) := fun H1 e1 Q q =>
  h1 H1 e1 _ fun _ H2 e2 hx => by
    subst hx
    exact h2 H2 (e1.trans e2) _ fun _ H3 e3 hy => by
      subst hy
      refine rv_cmpI H3 _ ⟨_, rfl, ?_⟩
      cases hc : g1 (.int i) (.int j) with
      | true =>
        rw [if_pos rfl]
        refine h3 H3 ((e1.trans e2).trans e3) _ fun _ H4 e4 hz => ?_
        subst hz
        exact rv_cmpI H4 _ (q _ H4 ((e2.trans e3).trans e4) (by rw [hc, Bool.true_and]))
      | false =>
        rw [if_neg Bool.false_ne_true]
        exact q _ H3 (e2.trans e3) (by rw [hc, Bool.false_and])
end
abbrev wholeB (d : PyData) : Bool := isiB d "int" && !isiB d "bool"
theorem whole_no {lo hi : Int} {d : PyData} (h : wholeB d = false) : isWholeD lo hi d = false := by
  cases d with
  | int i => exact absurd h (by show ¬ (true && !false) = false; decide)
  | _ => rfl
theorem glt_int (i j : Int) : gLt (.int i) (.int j) = decide (i < j) := lt_int i j
theorem gle_int (i j : Int) : gLe (.int i) (.int j) = decide (i ≤ j) := rle_val i j
theorem machine_tup {n : Int} {e m : PyData} (h1 : 1 ≤ n) (h8 : n ≤ 8) : isMachineD (.tuple [.int n, e, m]) = (areEndsD n e && areMovesD n m) := by
  show (isWholeD 1 8 (.int n) && (areEndsD n e && areMovesD n m)) = _
  have : isWholeD 1 8 (.int n) = true := by
    show (decide (1 ≤ n) && decide (n ≤ 8)) = true
    rw [decide_eq_true h1, decide_eq_true h8]
    rfl
  rw [this, Bool.true_and]
theorem ends_bad {n : Int} {d x : PyData} {i : Nat} (h : (itemsD d)[i]? = some x) (hf : isWholeD 0 (n - 1) x = false) : areEndsD n d = false := by
  have : (itemsD d).all (isWholeD 0 (n - 1)) = false := by
    cases q : (itemsD d).all (isWholeD 0 (n - 1)) with
    | false => rfl
    | true =>
      have := List.all_eq_true.mp q x (List.mem_of_getElem? h)
      rw [hf] at this
      cases this
  unfold areEndsD
  rw [this, Bool.false_and, Bool.and_false]
theorem ends_norise {n : Int} {d x y : PyData} {j : Nat} (h : (itemsD d)[j]? = some x) (h2 : (itemsD d)[j + 1]? = some y) (hf : PySem.W.dataLt x y = false) : areEndsD n d = false := by
  unfold areEndsD
  rw [rising_no _ j x y h h2 hf, Bool.and_false, Bool.and_false]
theorem ends_yes {n : Int} {d : PyData} (hq : isSeqD d = true) (hf : ∀ x ∈ itemsD d, isWholeD 0 (n - 1) x = true) (hr : ∀ (j : Nat) (x y : PyData), (itemsD d)[j]? = some x → (itemsD d)[j + 1]? = some y → PySem.W.dataLt x y = true) : areEndsD n d = true := by
  unfold areEndsD
  rw [hq, List.all_eq_true.mpr hf, rising_of _ hr]
  rfl
theorem moves_bad {n : Int} {d x : PyData} {i : Nat} (h : (itemsD d)[i]? = some x) (hf : isMoveD n x = false) : areMovesD n d = false := by
  have : (itemsD d).all (isMoveD n) = false := by
    cases q : (itemsD d).all (isMoveD n) with
    | false => rfl
    | true =>
      have := List.all_eq_true.mp q x (List.mem_of_getElem? h)
      rw [hf] at this
      cases this
  unfold areMovesD
  rw [this, Bool.and_false, Bool.false_and]
theorem moves_norise {n : Int} {d x y : PyData} {j : Nat} (h : (itemsD d)[j]? = some x) (h2 : (itemsD d)[j + 1]? = some y) (hf : PySem.W.dataLt (pairOf x) (pairOf y) = false) : areMovesD n d = false := by
  unfold areMovesD
  rw [rising_no _ j (pairOf x) (pairOf y) (by rw [List.getElem?_map, h]; rfl) (by rw [List.getElem?_map, h2]; rfl) hf, Bool.and_false]
theorem moves_yes {n : Int} {d : PyData} (hq : isSeqD d = true) (hf : ∀ x ∈ itemsD d, isMoveD n x = true) (hr : ∀ (j : Nat) (x y : PyData), (itemsD d)[j]? = some x → (itemsD d)[j + 1]? = some y → PySem.W.dataLt (pairOf x) (pairOf y) = true) : areMovesD n d = true := by
  unfold areMovesD
  rw [hq, List.all_eq_true.mpr hf, rising_of]
  · rfl
  · intro j x y a b
    rw [List.getElem?_map] at a b
    cases qa : (itemsD d)[j]? with
    | none => rw [qa] at a; cases a
    | some x' =>
      cases qb : (itemsD d)[j + 1]? with
      | none => rw [qb] at b; cases b
      | some y' =>
        rw [qa] at a
        rw [qb] at b
        cases a
        cases b
        exact hr j x' y' qa qb
theorem move_tup {n : Int} {s l b : PyData} : isMoveD n (.tuple [s, l, b]) = (isLetD l && (isWholeD 0 (n - 1) s && isWholeD 0 (n - 1) b)) := rfl
theorem move_seq {n : Int} {d : PyData} (h : isSeqD d = false) : isMoveD n d = false := by
  unfold isMoveD isTripleD
  rw [h]
  rfl
theorem move_three {n : Int} {d : PyData} (hq : isSeqD d = true) (h : (itemsD d).length ≠ 3) : isMoveD n d = false := by
  unfold isMoveD isTripleD
  rw [hq, decide_eq_false h]
  rfl
theorem machine_seq {d : PyData} (h : isTripleD d = false) : isMachineD d = false := by
  unfold isMachineD
  rw [h]
  rfl
theorem first_lt {s : Int} {l : Str} (h : 0 ≤ s) : PySem.W.dataLt (.tuple [.int (-1), .str ""]) (.tuple [.int s, .str l]) = true := by
  have h1 : PyData.eqv (.int (-1)) (.int s) = false := by
    show ((-1 : Int) == s) = false
    rw [beq_eq_false_iff_ne]
    omega
  rw [PySem.W.dataLt_pair rfl rfl, h1]
  show PySem.W.dataLt (.int (-1)) (.int s) = true
  rw [lt_int]
  exact decide_eq_true (by omega)
theorem str1_let {d : PyData} : isLetD d = (isStrD 1 d && match d with | .str s => decide (s.length = 1) | _ => false) := by
  cases d with
  | str s =>
    show (isWordD (.str s) && decide (s.length = 1)) = ((decide ((s.length : Int) ≤ 1) && isWordD (.str s)) && decide (s.length = 1))
    by_cases h : s.length = 1
    · rw [decide_eq_true h, decide_eq_true (show (s.length : Int) ≤ 1 by omega)]
      rfl
    · rw [decide_eq_false h, Bool.and_false, Bool.and_false]
  | _ => rfl
theorem let_s (s : Str) : isLetD (.str s) = (isStrD 1 (.str s) && decide (s.length = 1)) := str1_let
theorem whole_dec (n i : Int) : isWholeD 0 (n - 1) (.int i) = (decide (0 ≤ i) && decide (i < n)) := by
  show (decide (0 ≤ i) && decide (i ≤ n - 1)) = _
  by_cases h : i < n
  · rw [decide_eq_true h, decide_eq_true (show i ≤ n - 1 by omega)]
  · rw [decide_eq_false h, decide_eq_false (show ¬ i ≤ n - 1 by omega)]
def sp__law_is_machine (K : Frag) : Sp := fun vs H Q _ => ∃ v d, vs = [v] ∧ DS exR H v d ∧ sm d = true ∧ noList d = true ∧ ∀ H', Ext H H' → Q (.bl (isMachineD d)) H'
theorem len__law_is_machine {K : Frag} {vs : List V} {H : Hp} {Q : VK} {E : XK} (h : sp__law_is_machine K vs H Q E) : vs.length = 1 := by
  obtain ⟨v, d, rfl, _⟩ := h
  rfl
def t__law_is_machine (K : Frag) : TS := (tSeq (tIfS (tOr (tNot (tB (tCB (rIsiU K) (tCons (tVar 0) (tCons (tC (.ty "tuple")) tNil))))) (tOr (tTest (tOp (rNeU K) (tCB (rLenU K) (tCons (tVar 0) tNil)) (tC (.int 3)))) (tOr (tNot (tB (tCall (sp__law_whole K) [] E0 (tCons (tIxU K (tVar 0) (tC (.int 0))) tNil)))) (tNot (tTest (tChain (rCmp K gLe) (rCmp K gLe) (tC (.int 1)) (tIxU K (tVar 0) (tC (.int 0))) (tC (.int 8)))))))) (tRet (tC (.bl false))) tNext) (tSeq (tIfS (tOr (tNot (tB (tCB (rIsiU K) (tCons (tIxU K (tVar 0) (tC (.int 1))) (tCons (tC (.ty "tuple")) tNil))))) (tNot (tB (tCB (rIsiU K) (tCons (tIxU K (tVar 0) (tC (.int 2))) (tCons (tC (.ty "tuple")) tNil)))))) (tRet (tC (.bl false))) tNext) (tSeq (tAsg (tUn rNegI (tC (.int 1))) (gName 1)) (tSeq (tFor (iSeq K (tIxU K (tVar 0) (tC (.int 1)))) (gName 2) (tSeq (tIfS (tOr (tNot (tB (tCall (sp__law_whole K) [] E0 (tCons (tVar 2) tNil)))) (tNot (tTest (tChain (rCmp K gLt) (rCmp K gLt) (tVar 1) (tVar 2) (tIxU K (tVar 0) (tC (.int 0))))))) (tRet (tC (.bl false))) tNext) (tAsg (tVar 2) (gName 1)))) (tSeq (tAsg (tTup (tCons (tUn rNegI (tC (.int 1))) (tCons (tC (.str "")) tNil))) (gName 3)) (tSeq (tFor (iSeq K (tIxU K (tVar 0) (tC (.int 2)))) (gName 2) (tSeq (tIfS (tOr (tNot (tB (tCB (rIsiU K) (tCons (tVar 2) (tCons (tC (.ty "tuple")) tNil))))) (tOr (tTest (tOp (rNeU K) (tCB (rLenU K) (tCons (tVar 2) tNil)) (tC (.int 3)))) (tOr (tNot (tB (tCall (sp__law_whole K) [] E0 (tCons (tIxU K (tVar 2) (tC (.int 0))) tNil)))) (tNot (tB (tCall (sp__law_whole K) [] E0 (tCons (tIxU K (tVar 2) (tC (.int 2))) tNil))))))) (tRet (tC (.bl false))) tNext) (tSeq (tIfS (tOr (tNot (tB (tCall (sp__law_is_string K) [] E0 (tCons (tIxU K (tVar 2) (tC (.int 1))) (tCons (tC (.int 1)) tNil))))) (tOr (tTest (tOp (rNeU K) (tCB (rLenU K) (tCons (tIxU K (tVar 2) (tC (.int 1))) tNil)) (tC (.int 1)))) (tOr (tNot (tTest (tChain (rCmp K gLe) (rCmp K gLt) (tC (.int 0)) (tIxU K (tVar 2) (tC (.int 0))) (tIxU K (tVar 0) (tC (.int 0)))))) (tNot (tTest (tChain (rCmp K gLe) (rCmp K gLt) (tC (.int 0)) (tIxU K (tVar 2) (tC (.int 2))) (tIxU K (tVar 0) (tC (.int 0))))))))) (tRet (tC (.bl false))) tNext) (tSeq (tIfS (tNot (tTest (tOp (rCmp K gLt) (tVar 3) (tTup (tCons (tIxU K (tVar 2) (tC (.int 0))) (tCons (tIxU K (tVar 2) (tC (.int 1))) tNil)))))) (tRet (tC (.bl false))) tNext) (tAsg (tTup (tCons (tIxU K (tVar 2) (tC (.int 0))) (tCons (tIxU K (tVar 2) (tC (.int 1))) tNil))) (gName 3)))))) (tRet (tC (.bl true)))))))))
theorem nolist_tuple {d : PyData} (h : noList d = true) (hq : isSeqD d = true) : ∃ ds, d = .tuple ds := by
  cases d with
  | tuple ds => exact ⟨ds, rfl⟩
  | list ds => cases h
  | _ => cases hq
theorem pure__law_is_machine {K : Frag} (vs : List V) (H : Hp) (Q : VK) (E : XK) (h : sp__law_is_machine K vs H Q E) : t__law_is_machine K { nx := fun _ H' => Q .non H', rt := Q } (start ["value", "last", "one", "before"] vs) H := by
  obtain ⟨v, d, rfl, hd, hs, hn, k⟩ := h
  have tup := tup_nl hn
  cases hT : isTripleD d with
  | false =>
    rw [machine_seq hT] at k
    refine q_when (ρ := exR) (b := true) ?_ (fun hb H1 e => s_retV (ρ := exR) ev_c fun H2 e2 => k H2 (e.trans e2).ext) (fun hb H1 e => by cases hb)
    cases hq : isSeqD d with
    | false =>
      refine (et_or (b := true) (et_not (et_B (ev_isi (ev_var rfl) hd rfl))) fun h1 => ?_).to (by rw [Bool.or_true])
      rw [tup, hq] at h1
      cases h1
    | true =>
      obtain ⟨ds, rfl⟩ := nolist_tuple hn hq
      obtain ⟨a, xs, rfl, ha, hA, hsq⟩ := hd.tupl
      have hl := ha.length
      have h3 : ¬ ds.length = 3 := by
        intro z
        have : isTripleD (.tuple ds) = true := by
          show (true && decide (ds.length = 3)) = true
          rw [decide_eq_true z]
          rfl
        rw [this] at hT
        cases hT
      refine (et_or (b := true) (et_not (et_B (ev_isi (ev_var rfl) hd rfl))) fun _ => (et_or (b := true) (et_test (ev_neI (ev_len (ev_var rfl) fun H1 e => .inr (hsq K exR H1 e)) ev_c)) fun h => ?_).to (by rw [Bool.or_true])).to (by rw [Bool.or_true])
      exact absurd (of_decide_eq_true (notb' h)) (by omega)
  | true =>
  have ht2 : isSeqD d = true ∧ (itemsD d).length = 3 := by simpa [isTripleD] using hT
  obtain ⟨ds, rfl⟩ := nolist_tuple hn ht2.1
  obtain ⟨c, en, mo, rfl⟩ := three ht2.2
  obtain ⟨a, xs, rfl, ha, hA, hsq⟩ := hd.tupl
  obtain ⟨x, y, z, rfl, hc', he', hm'⟩ := ha.three
  have hc : DS exR H x c := hc'
  have he : DS exR H y en := he'
  have hm : DS exR H z mo := hm'
  have sA : ∀ H1, exR.r H H1 → SqA K H1 a [x, y, z] := fun H1 e => .inr (hsq K exR H1 e)
  have sm3 : sm c = true ∧ sm en = true ∧ sm mo = true := by simpa [smAll] using (sm_seq (.inr hs)).2
  have nl3 : noList c = true ∧ noList en = true ∧ noList mo = true := by simpa [noList, noLists] using hn
  -- the first question
  cases hw : isWholeD 1 8 c with
  | false =>
    have e0 : isMachineD (.tuple [c, en, mo]) = false := by
      cases c with
      | int n => show (true && (isWholeD 1 8 (.int n) && _)) = false; rw [hw]; rfl
      | _ => rfl
    rw [e0] at k
    refine q_when (ρ := exR) (b := true) ((et_or (b := true) (et_not (et_B (ev_isi (ev_var rfl) hd rfl))) fun _ => (et_or (b := true) (et_test (ev_neI (ev_len (ev_var rfl) sA) ev_c)) fun _ => ?_).to (by rw [Bool.or_true])).to (by rw [Bool.or_true])) (fun hb H1 e => s_retV (ρ := exR) ev_c fun H2 e2 => k H2 (e.trans e2).ext) (fun hb H1 e => by cases hb)
    cases hb : wholeB c with
    | false => exact (et_or (b := true) (et_not (et_B (ev_B1 (F := wholeB) (ev_ix (n := 0) (ev_var rfl) ev_c sA rfl rfl) hc sm3.1))) fun h => by rw [hb] at h; cases h).to (by rw [Bool.or_true])
    | true =>
      obtain ⟨n, rfl, rfl⟩ := hc.inv_int hb
      refine (et_or (b := true) (et_not (et_B (ev_B1 (F := wholeB) (ev_ix (n := 0) (ev_var rfl) ev_c sA rfl rfl) (.int n) sm3.1))) fun _ => (et_not (et_test (ev_chainLe ev_c (ev_ix (n := 0) (ev_var rfl) ev_c sA rfl rfl) ev_c))).to ?_).to (by rw [Bool.or_true])
      have : (decide (1 ≤ n) && decide (n ≤ 8)) = false := hw
      rw [this]
      rfl
  | true =>
  obtain ⟨n, rfl, n1, n8⟩ := whole_int hw
  cases hc
  rw [machine_tup n1 n8] at k
  refine q_when (ρ := exR) (b := false) ((et_or (b := false) (et_not (et_B (ev_isi (ev_var rfl) hd rfl))) fun _ => (et_or (b := false) (et_test (ev_neI (ev_len (ev_var rfl) sA) ev_c)) fun _ => (et_or (b := false) (et_not (et_B (ev_B1 (F := wholeB) (ev_ix (n := 0) (ev_var rfl) ev_c sA rfl rfl) (.int n) sm3.1))) fun _ => (et_not (et_test (ev_chainLe ev_c (ev_ix (n := 0) (ev_var rfl) ev_c sA rfl rfl) ev_c))).to ?_).to rfl).to rfl).to rfl) (fun hb => by cases hb) fun _ H1 e1 => ?_
  · have : (decide (1 ≤ n) && decide (n ≤ 8)) = true := hw
    rw [this]
    rfl
  have sA1 : ∀ H2, exR.r H1 H2 → SqA K H2 a [.int n, y, z] := fun H2 e => sA H2 (e1.trans e)
  -- the second question
  have te := tup_nl nl3.2.1
  have tm := tup_nl nl3.2.2
  cases hqe : isSeqD en with
  | false =>
    have e0 : areEndsD n en = false := by unfold areEndsD; rw [hqe]; rfl
    rw [e0] at k
    refine q_when (ρ := exR) (b := true) ((et_or (b := true) (et_not (et_B (ev_isi (ev_ix (n := 1) (ev_var rfl) ev_c sA1 rfl rfl) (e1.ds he) rfl))) fun h1 => ?_).to (by rw [Bool.or_true])) (fun hb H2 e2 => s_retV (ρ := exR) ev_c fun H3 e3 => k H3 (e1.trans (e2.trans e3)).ext) (fun hb H1 e => by cases hb)
    rw [te, hqe] at h1
    cases h1
  | true =>
  cases hqm : isSeqD mo with
  | false =>
    have e0 : areMovesD n mo = false := by unfold areMovesD; rw [hqm]; rfl
    rw [e0, Bool.and_false] at k
    refine q_when (ρ := exR) (b := true) ((et_or (b := true) (et_not (et_B (ev_isi (ev_ix (n := 1) (ev_var rfl) ev_c sA1 rfl rfl) (e1.ds he) rfl))) fun _ => (et_not (et_B (ev_isi (ev_ix (n := 2) (ev_var rfl) ev_c sA1 rfl rfl) (e1.ds hm) rfl))).to ?_).to (by rw [Bool.or_true])) (fun hb H2 e2 => s_retV (ρ := exR) ev_c fun H3 e3 => k H3 (e1.trans (e2.trans e3)).ext) (fun hb H1 e => by cases hb)
    rw [tm, hqm]
    rfl
  | true =>
  obtain ⟨es, rfl⟩ := nolist_tuple nl3.2.1 hqe
  obtain ⟨ms, rfl⟩ := nolist_tuple nl3.2.2 hqm
  obtain ⟨ea, exs, rfl, hex, hEA, hesq⟩ := he.tupl
  obtain ⟨ma, mxs, rfl, hmx, hMA, hmsq⟩ := hm.tupl
  have smE := sm_seq (.inr sm3.2.1)
  have smM := sm_seq (.inr sm3.2.2)
  have nlM : noLists ms = true := by simpa [noList] using nl3.2.2
  have lE := hex.length
  have lM := hmx.length
  refine q_when (ρ := exR) (b := false) ((et_or (b := false) (et_not (et_B (ev_isi (ev_ix (n := 1) (ev_var rfl) ev_c sA1 rfl rfl) (e1.ds he) rfl))) fun _ => (et_not (et_B (ev_isi (ev_ix (n := 2) (ev_var rfl) ev_c sA1 rfl rfl) (e1.ds hm) rfl))).to rfl).to rfl) (fun hb => by cases hb) fun _ H2 e2 => ?_
  have e02 := e1.trans e2
  refine q_asgV (ρ := exR) (ev_neg ev_c) fun H3 e3 => ?_
  have e03 := e02.trans e3
  have sA3 : ∀ H4, exR.r H3 H4 → SqA K H4 a [.int n, .ref ea, .ref ma] := fun H4 e => sA H4 (e03.trans e)
  refine q_for (ρ := exR) (n := exs.length) (ei_seq (ev_ix (n := 1) (ev_var rfl) ev_c sA3 rfl rfl) (fun H4 e4 => .inr (hesq K exR H4 (e03.trans e4))) (.inr fun H4 e4 => hesq K exR H4 (e03.trans e4))) fun H4 e4 => ⟨fun i σ' H' => exR.r H4 H' ∧ ∃ (lv : Int) (ov bv : Option V), σ' = [some (.ref a), some (.int lv), ov, bv] ∧ (∀ (j : Nat) x, j < i → es[j]? = some x → isWholeD 0 (n - 1) x = true) ∧ (∀ (j : Nat) (x y : PyData), j + 1 < i → es[j]? = some x → es[j + 1]? = some y → PySem.W.dataLt x y = true) ∧ ((i = 0 ∧ lv = -1) ∨ ∃ j : Nat, i = j + 1 ∧ es[j]? = some (.int lv)),
    ⟨.rfl, _, _, _, rfl, fun j _ h => absurd h (Nat.not_lt_zero j), fun j _ _ h => absurd h (Nat.not_lt_zero _), .inl ⟨rfl, rfl⟩⟩, fun i σ' H' _ p => p.1, ?_, ?_⟩
  · rintro i w σ' H' H'' hi ⟨r, lv, ov, bv, rfl, hF, hR, hB⟩ ⟨e5, hx⟩
    subst e5
    have r0 : exR.r H H'' := e03.trans (e4.trans r)
    obtain ⟨d1, g1, g2⟩ := hex.get hx
    have g3 : DS exR H'' w d1 := r0.ds g2
    have sm1 := smAll_mem smE.2 (List.mem_of_getElem? g1)
    have bad : ∀ H5, exR.r H'' H5 → areEndsD n (.tuple es) = false → Q (.bl false) H5 := fun H5 e5 hf => by
      rw [hf] at k
      exact k H5 (r0.trans e5).ext
    cases hb : wholeB d1 with
    | false =>
      refine q_when (ρ := exR) (b := true) ((et_or (b := true) (et_not (et_B (ev_B1 (F := wholeB) (ev_var rfl) g3 sm1))) fun h1 => ?_).to (by rw [Bool.or_true])) (fun _ H5 e5 => s_retV (ρ := exR) ev_c fun H6 e6 => bad H6 (e5.trans e6) (ends_bad (d := .tuple es) g1 (whole_no hb))) (fun hb H1 e => by cases hb)
      rw [hb] at h1
      cases h1
    | true =>
    obtain ⟨u, rfl, rfl⟩ := g3.inv_int hb
    have sA5 : ∀ H5, exR.r H'' H5 → SqA K H5 a [.int n, .ref ea, .ref ma] := fun H5 e => sA H5 (r0.trans e)
    have hq : ∀ b : Bool, (decide (lv < u) && decide (u < n)) = b → EvT exR (tOr (tNot (tB (tCall (sp__law_whole K) [] E0 (tCons (tVar 2) tNil)))) (tNot (tTest (tChain (rCmp K gLt) (rCmp K gLt) (tVar 1) (tVar 2) (tIxU K (tVar 0) (tC (.int 0))))))) [some (.ref a), some (.int lv), some (.int u), bv] H'' (!b) := fun b hb => by
      refine (et_or (b := !b) (et_not (et_B (ev_B1 (F := wholeB) (ev_var rfl) (.int u) sm1))) fun _ => (et_not (et_test (ev_chainI (ev_var rfl) (ev_var rfl) (ev_ix (n := 0) (ev_var rfl) ev_c sA5 rfl rfl)))).to ?_).to rfl
      rw [glt_int, glt_int, hb]
    refine q_when (ρ := exR) (hq _ rfl) (fun hb H5 e5 => s_retV (ρ := exR) ev_c fun H6 e6 => bad H6 (e5.trans e6) ?_) (fun hb H5 e5 => ?_)
    · have hf := notb hb
      rcases hB with ⟨i0, rfl⟩ | ⟨j, rfl, hj⟩
      · refine ends_bad (d := .tuple es) g1 ?_
        rw [whole_dec]
        have : decide (-1 < u) = decide (0 ≤ u) := by
          by_cases h : 0 ≤ u
          · rw [decide_eq_true h, decide_eq_true (by omega)]
          · rw [decide_eq_false h, decide_eq_false (by omega)]
        rw [← this]
        exact hf
      · by_cases h : lv < u
        · refine ends_bad (d := .tuple es) g1 ?_
          rw [decide_eq_true h, Bool.true_and] at hf
          rw [whole_dec, hf, Bool.and_false]
        · exact ends_norise (d := .tuple es) hj g1 (by rw [lt_int]; exact decide_eq_false h)
    · have hf : lv < u ∧ u < n := by simpa using notb' hb
      have hu : isWholeD 0 (n - 1) (.int u) = true := by
        rw [whole_dec, decide_eq_true hf.2, Bool.and_true]
        rcases hB with ⟨i0, rfl⟩ | ⟨j, rfl, hj⟩
        · exact decide_eq_true (by omega)
        · have := hF j _ (Nat.lt_succ_self j) hj
          rw [whole_dec] at this
          have h2 : 0 ≤ lv ∧ lv < n := by simpa using this
          exact decide_eq_true (by omega)
      refine s_asgV (ρ := exR) (ev_var rfl) fun H6 e6 => ⟨r.trans (e5.trans e6), u, _, _, rfl, fun j x hj hx' => ?_, fun j x y hj hx' hy' => ?_, .inr ⟨i, rfl, g1⟩⟩
      · by_cases z : j = i
        · subst z
          rw [g1] at hx'
          cases hx'
          exact hu
        · exact hF j x (by omega) hx'
      · by_cases z : j + 1 = i
        · subst z
          rw [g1] at hy'
          cases hy'
          rcases hB with ⟨i0, _⟩ | ⟨j', ej, hj'⟩
          · omega
          · have : j' = j := by omega
            subst this
            rw [hj'] at hx'
            cases hx'
            rw [lt_int]
            exact decide_eq_true hf.1
        · exact hR j x y (by omega) hx' hy'
  · rintro σ' H' ⟨r, lv, ov, bv, rfl, hF, hR, hB⟩
    have r0 : exR.r H H' := e03.trans (e4.trans r)
    have hends : areEndsD n (.tuple es) = true := ends_yes rfl (fun x hx => by
      obtain ⟨j, hj, e⟩ := List.mem_iff_getElem.mp hx
      have hj' : j < es.length := hj
      exact hF j x (by omega) (by rw [← e]; exact List.getElem?_eq_getElem hj)) fun j x y a b => hR j x y (by have h := (List.getElem?_eq_some_iff.mp b).1; have h' : j + 1 < es.length := h; omega) a b
    rw [hends, Bool.true_and] at k
    refine q_asg (ρ := exR) (R := fun v H' => DS exR H' v (.tuple [.int (-1), .str ""])) (ev_pairD Le.rfl (ev_neg ev_c) ev_c (.int _) (.str _)) fun v5 H5 e5 h5 => ?_
    have r05 := r0.trans e5
    have sA5 : ∀ H6, exR.r H5 H6 → SqA K H6 a [.int n, .ref ea, .ref ma] := fun H6 e => sA H6 (r05.trans e)
    refine q_for (ρ := exR) (n := mxs.length) (ei_seq (ev_ix (n := 2) (ev_var rfl) ev_c sA5 rfl rfl) (fun H4 e4 => .inr (hmsq K exR H4 (r05.trans e4))) (.inr fun H4 e4 => hmsq K exR H4 (r05.trans e4))) fun H6 e6 => ⟨fun i σ' H' => exR.r H6 H' ∧ ∃ (lv ov : Option V) (bv : V), σ' = [some (.ref a), lv, ov, some bv] ∧ (∀ (j : Nat) x, j < i → ms[j]? = some x → isMoveD n x = true) ∧ (∀ (j : Nat) (x y : PyData), j + 1 < i → ms[j]? = some x → ms[j + 1]? = some y → PySem.W.dataLt (pairOf x) (pairOf y) = true) ∧ ((i = 0 ∧ DS exR H' bv (.tuple [.int (-1), .str ""])) ∨ ∃ (j : Nat) (x : PyData), i = j + 1 ∧ ms[j]? = some x ∧ DS exR H' bv (pairOf x)),
      ⟨.rfl, _, _, _, rfl, fun j _ h => absurd h (Nat.not_lt_zero j), fun j _ _ h => absurd h (Nat.not_lt_zero _), .inl ⟨rfl, e6.ds h5⟩⟩, fun i σ' H' _ p => p.1, ?_, ?_⟩
    · rintro i w σ' H' H'' hi ⟨r7, lv, ov, bv, rfl, hF, hR, hB⟩ ⟨e7, hx⟩
      subst e7
      have q0 : exR.r H H'' := r05.trans (e6.trans r7)
      obtain ⟨d1, g1, g2⟩ := hmx.get hx
      have g3 : DS exR H'' w d1 := q0.ds g2
      have hmem := List.mem_of_getElem? g1
      have sm1 := smAll_mem smM.2 hmem
      have nl1 := noLists_mem nlM hmem
      have t1 := tup_nl nl1
      have bad : ∀ H8, exR.r H'' H8 → isMoveD n d1 = false → Q (.bl false) H8 := fun H8 e8 hf => by
        rw [moves_bad (d := .tuple ms) g1 hf] at k
        exact k H8 (q0.trans e8).ext
      cases hq1 : isSeqD d1 with
      | false =>
        refine q_when (ρ := exR) (b := true) ((et_or (b := true) (et_not (et_B (ev_isi (ev_var rfl) g3 rfl))) fun h1 => ?_).to (by rw [Bool.or_true])) (fun hb H1 e => s_retV (ρ := exR) ev_c fun H2 e2 => bad H2 (e.trans e2) (move_seq hq1)) (fun hb H1 e => by cases hb)
        rw [t1, hq1] at h1
        cases h1
      | true =>
      obtain ⟨qs, rfl⟩ := nolist_tuple nl1 hq1
      obtain ⟨b, ys, rfl, hy, hbA, hsb⟩ := g3.tupl
      have ly := hy.length
      have hsbA : ∀ H1, exR.r H'' H1 → SqA K H1 b ys := fun H1 e => .inr (hsb K exR H1 e)
      have smq := (sm_seq (.inr sm1)).2
      by_cases h3 : qs.length = 3
      rotate_left
      · refine q_when (ρ := exR) (b := true) ((et_or (b := true) (et_not (et_B (ev_isi (ev_var rfl) g3 rfl))) fun _ => (et_or (b := true) (et_test (ev_neI (ev_len (ev_var rfl) hsbA) ev_c)) fun h => ?_).to (by rw [Bool.or_true])).to (by rw [Bool.or_true])) (fun hb H4 e4 => s_retV (ρ := exR) ev_c fun H5 e5 => bad H5 (e4.trans e5) (move_three rfl h3)) (fun hb H1 e => by cases hb)
        exact absurd (of_decide_eq_true (notb' h)) (by omega)
      obtain ⟨s, l, t, rfl⟩ := three h3
      obtain ⟨y1, y2, y3, rfl, c1', c2', c3'⟩ := hy.three
      have c1 : DS exR H'' y1 s := c1'
      have c2 : DS exR H'' y2 l := c2'
      have c3 : DS exR H'' y3 t := c3'
      have s3 : sm s = true ∧ sm l = true ∧ sm t = true := by simpa [smAll] using smq
      cases hw1 : wholeB s && wholeB t with
      | false =>
        refine q_when (ρ := exR) (b := true) ((et_or (b := true) (et_not (et_B (ev_isi (ev_var rfl) g3 rfl))) fun _ => (et_or (b := true) (et_test (ev_neI (ev_len (ev_var rfl) hsbA) ev_c)) fun _ => (et_or (b := !wholeB t) (et_not (et_B (ev_B1 (F := wholeB) (ev_ix (n := 0) (ev_var rfl) ev_c hsbA rfl rfl) c1 s3.1))) fun _ => et_not (et_B (ev_B1 (F := wholeB) (ev_ix (n := 2) (ev_var rfl) ev_c hsbA rfl rfl) c3 s3.2.2))).to ?_).to (by rw [Bool.or_true])).to (by rw [Bool.or_true])) (fun hb H4 e4 => s_retV (ρ := exR) ev_c fun H5 e5 => bad H5 (e4.trans e5) ?_) (fun hb H1 e => by cases hb)
        · revert hw1
          cases wholeB s <;> cases wholeB t <;> intro h <;> first | rfl | cases h
        · rw [move_tup]
          cases h1 : wholeB s with
          | false => rw [whole_no h1, Bool.false_and, Bool.and_false]
          | true =>
            rw [h1, Bool.true_and] at hw1
            rw [whole_no hw1, Bool.and_false, Bool.and_false]
      | true =>
      have hw2 : wholeB s = true ∧ wholeB t = true := by
        revert hw1
        cases wholeB s <;> cases wholeB t <;> intro h <;> first | exact ⟨rfl, rfl⟩ | cases h
      obtain ⟨si, rfl, rfl⟩ := c1.inv_int hw2.1
      obtain ⟨ti, rfl, rfl⟩ := c3.inv_int hw2.2
      refine q_when (ρ := exR) (b := false) ((et_or (b := false) (et_not (et_B (ev_isi (ev_var rfl) g3 rfl))) fun _ => (et_or (b := false) (et_test (ev_neI (ev_len (ev_var rfl) hsbA) ev_c)) fun _ => (et_or (b := false) (et_not (et_B (ev_B1 (F := wholeB) (ev_ix (n := 0) (ev_var rfl) ev_c hsbA rfl rfl) (.int si) s3.1))) fun _ => (et_not (et_B (ev_B1 (F := wholeB) (ev_ix (n := 2) (ev_var rfl) ev_c hsbA rfl rfl) (.int ti) s3.2.2))).to rfl).to rfl).to rfl).to rfl) (fun hb => by cases hb) fun _ H8 e8 => ?_
      have q8 := q0.trans e8
      have sb8 : ∀ H1, exR.r H8 H1 → SqA K H1 b [.int si, y2, .int ti] := fun H1 e => hsbA H1 (e8.trans e)
      have sA8 : ∀ H1, exR.r H8 H1 → SqA K H1 a [.int n, .ref ea, .ref ma] := fun H1 e => sA H1 (q8.trans e)
      have c28 := e8.ds c2
      -- the second question of a move
      refine q_when (ρ := exR) (b := !isMoveD n (.tuple [.int si, l, .int ti])) ((et_or (b := !isMoveD n (.tuple [.int si, l, .int ti])) (et_not (et_B (ev_is_string (ev_ix (n := 1) (ev_var rfl) ev_c sb8 rfl rfl) ev_c c28 s3.2.1))) fun hstr => ?_).to ?_) (fun hb H9 e9 => s_retV (ρ := exR) ev_c fun H10 e10 => bad H10 (e8.trans (e9.trans e10)) (notb hb)) (fun hb H9 e9 => ?_)
      · have hstr' := notb' hstr
        cases l with
        | str ls =>
          cases c28
          have hll := sm_str s3.2.1
          refine (et_or (et_test (ev_neI (ev_lenS (ev_ix (n := 1) (ev_var rfl) ev_c sb8 rfl rfl) (by omega)) ev_c)) fun _ => et_or (et_not (et_test (ev_chainI ev_c (ev_ix (n := 0) (ev_var rfl) ev_c sb8 rfl rfl) (ev_ix (n := 0) (ev_var rfl) ev_c sA8 rfl rfl)))) fun _ => et_not (et_test (ev_chainI ev_c (ev_ix (n := 2) (ev_var rfl) ev_c sb8 rfl rfl) (ev_ix (n := 0) (ev_var rfl) ev_c sA8 rfl rfl)))).to ?_
          rw [move_tup, let_s, hstr', Bool.true_and, whole_dec, whole_dec, gle_int, glt_int, gle_int, glt_int]
          have : decide ((ls.length : Int) = 1) = decide (ls.length = 1) := by
            by_cases h : ls.length = 1
            · rw [decide_eq_true h, decide_eq_true (by omega)]
            · rw [decide_eq_false h, decide_eq_false (by omega)]
          rw [this]
          cases decide (ls.length = 1) <;> cases (decide (0 ≤ si) && decide (si < n)) <;> cases (decide (0 ≤ ti) && decide (ti < n)) <;> rfl
        | _ => cases hstr'
      · rw [move_tup, str1_let]
        cases isStrD 1 l <;> rfl
      have hmv := notb' hb
      have hmv0 := hmv
      rw [move_tup, whole_dec, whole_dec] at hmv
      have h4 : isLetD l = true ∧ (0 ≤ si ∧ si < n) ∧ 0 ≤ ti ∧ ti < n := by simpa using hmv
      obtain ⟨cc, rfl, _⟩ := let_str h4.1
      cases c28
      have q9 := q8.trans e9
      have sb9 : ∀ H1, exR.r H9 H1 → SqA K H1 b [.int si, .str ⟨#[cc]⟩, .int ti] := fun H1 e => sb8 H1 (e9.trans e)
      have hpr : pairOf (.tuple [.int si, .str ⟨#[cc]⟩, .int ti]) = .tuple [.int si, .str ⟨#[cc]⟩] := rfl
      have pairE : ∀ {σ : L2.St} {H10 : Hp}, exR.r H9 H10 → EvV exR (tVar 2) σ H10 (.ref b) → Ev exR (tTup (tCons (tIxU K (tVar 2) (tC (.int 0))) (tCons (tIxU K (tVar 2) (tC (.int 1))) tNil))) σ H10 (fun v H' => DS exR H' v (.tuple [.int si, .str ⟨#[cc]⟩])) := fun e10 hv =>
        ev_pairD Le.rfl (ev_ix (n := 0) hv ev_c (fun H1 e => sb9 H1 (e10.trans e)) rfl rfl) (ev_ix (n := 1) hv ev_c (fun H1 e => sb9 H1 (e10.trans e)) rfl rfl) (.int si) (.str _)
      have fin : ∀ (dp : PyData), DS exR H9 bv dp → PySem.W.alike dp (.tuple [.int si, .str ⟨#[cc]⟩]) = true → dp ≠ .none → dp.depth ≤ 64 → (PySem.W.dataLt dp (.tuple [.int si, .str ⟨#[cc]⟩]) = false → areMovesD n (.tuple ms) = false) → (∀ (j : Nat) (x : PyData), i = j + 1 → ms[j]? = some x → pairOf x = dp) → ∀ D : Ends, D.rt = Q → (∀ σ2 H2, (exR.r H6 H2 ∧ ∃ (lv ov : Option V) (bv : V), σ2 = [some (.ref a), lv, ov, some bv] ∧ (∀ (j : Nat) x, j < i + 1 → ms[j]? = some x → isMoveD n x = true) ∧ (∀ (j : Nat) (x y : PyData), j + 1 < i + 1 → ms[j]? = some x → ms[j + 1]? = some y → PySem.W.dataLt (pairOf x) (pairOf y) = true) ∧ ((i + 1 = 0 ∧ DS exR H2 bv (.tuple [.int (-1), .str ""])) ∨ ∃ (j : Nat) (x : PyData), i + 1 = j + 1 ∧ ms[j]? = some x ∧ DS exR H2 bv (pairOf x))) → D.nx σ2 H2) →
          tSeq (tIfS (tNot (tTest (tOp (rCmp K gLt) (tVar 3) (tTup (tCons (tIxU K (tVar 2) (tC (.int 0))) (tCons (tIxU K (tVar 2) (tC (.int 1))) tNil)))))) (tRet (tC (.bl false))) tNext) (tAsg (tTup (tCons (tIxU K (tVar 2) (tC (.int 0))) (tCons (tIxU K (tVar 2) (tC (.int 1))) tNil))) (gName 3)) D [some (.ref a), lv, some (.ref b), some bv] H9 := by
        intro dp hdp al nn dd hbad hprev D hrt hnx
        refine q_when (ρ := exR) (et_not (et_test (ev_cmp2 (g := gLt) (e := .tuple [.int si, .str ⟨#[cc]⟩]) (ev_var rfl) hdp (pairE .rfl (ev_var rfl)) al nn dd))) (fun hb2 H10 e10 => s_retV (ρ := exR) ev_c fun H11 e11 => ?_) (fun hb2 H10 e10 => ?_)
        · show D.rt (.bl false) H11
          rw [hrt]
          rw [hbad (notb hb2)] at k
          exact k H11 (q9.trans (e10.trans e11)).ext
        · have hlt : PySem.W.dataLt dp (.tuple [.int si, .str ⟨#[cc]⟩]) = true := notb' hb2
          refine s_asg (ρ := exR) (pairE e10 (ev_var rfl)) fun u H11 e11 hu => hnx _ _ ⟨r7.trans (e8.trans (e9.trans (e10.trans e11))), _, _, _, rfl, fun j x hj hx' => ?_, fun j x y hj hx' hy' => ?_, .inr ⟨i, _, rfl, g1, hu⟩⟩
          · by_cases z : j = i
            · subst z
              rw [g1] at hx'
              cases hx'
              exact hmv0
            · exact hF j x (by omega) hx'
          · by_cases z : j + 1 = i
            · rw [z, g1] at hy'
              cases hy'
              rw [hprev j x z.symm hx', hpr]
              exact hlt
            · exact hR j x y (by omega) hx' hy'
      rcases hB with ⟨hi0, h0⟩ | ⟨j, x0, hij, hx0, hb0⟩
      · exact fin _ ((e8.trans e9).ds h0) rfl (by simp) (by show (1 : Nat) ≤ 64; decide) (fun hf => by rw [first_lt h4.2.1.1] at hf; cases hf) (fun j x hij => by omega) _ rfl fun _ _ h => h
      · have hf0 := hF j x0 (by omega) hx0
        obtain ⟨s0, c0, b0, p0, _⟩ := move_parts hf0
        have pr0 : pairOf x0 = .tuple [.int s0, .str ⟨#[c0]⟩] := by
          unfold pairOf
          rw [p0]
        rw [pr0] at hb0
        refine fin _ ((e8.trans e9).ds hb0) rfl (by simp) (by show (1 : Nat) ≤ 64; decide) (fun hf => moves_norise (d := .tuple ms) (j := j) (y := .tuple [.int si, .str ⟨#[cc]⟩, .int ti]) hx0 (by rw [← hij]; exact g1) (by rw [pr0]; exact hf)) (fun j' x' hij' hx' => ?_) _ rfl fun _ _ h => h
        have : j' = j := by omega
        subst this
        rw [hx0] at hx'
        cases hx'
        exact pr0
    · rintro σ' H' ⟨r7, lv, ov, bv, rfl, hF, hR, hB⟩
      have hmoves : areMovesD n (.tuple ms) = true := moves_yes rfl (fun x hx => by
        obtain ⟨j, hj, e⟩ := List.mem_iff_getElem.mp hx
        have hj' : j < ms.length := hj
        exact hF j x (by omega) (by rw [← e]; exact List.getElem?_eq_getElem hj)) fun j x y a b => hR j x y (by have h := (List.getElem?_eq_some_iff.mp b).1; have h' : j + 1 < ms.length := h; omega) a b
      rw [hmoves] at k
      exact s_retV (ρ := exR) ev_c fun H8 e8 => k H8 (r05.trans (e6.trans (r7.trans e8))).ext
end Slip
/-! a changed machine -/
namespace Slip
open PySem PySem.Spec PyProof.Rows L2
theorem gv_triple0 {σ : L2.St} {H : Hp} {sp : Addr} {D : Nat} : Ev (spR sp) (tTup (tCons (tC (.int 0)) (tCons (tC (.str "a")) (tCons (tC (.int 0)) tNil)))) σ H (GoodV sp (D + 1)) := (ev_tripleD Le.rfl ev_c ev_c ev_c (.int 0) (.str "a") (.int 0)).imp fun v H1 _ h => ⟨_, h, rfl, by decide +kernel, by show 0 + 1 ≤ D + 1; omega⟩
def sp__law_machine_changed (K : Frag) (n : Nat) : Sp := fun vs H Q _ => ∃ (ra sp : Addr) (v : V) (d : PyData), vs = [.ref ra, .ref sp, v] ∧ Dr K ra sp H ∧ DS (spR sp) H v d ∧ plainT d = true ∧ d.depth < n ∧ ∀ v' d' H', (spR sp).r H H' → DS (spR sp) H' v' d' → Good (d.depth + 1) d' → Q v' H'
theorem len__law_machine_changed {K : Frag} {n : Nat} {vs : List V} {H : Hp} {Q : VK} {E : XK} (h : sp__law_machine_changed K n vs H Q E) : vs.length = 3 := by
  obtain ⟨ra, sp, v, d, rfl, _⟩ := h
  rfl
def t__law_machine_changed (K : Frag) (n : Nat) : TS := (tSeq (tIfS (tAnd (tB (tCB (rIsiU K) (tCons (tVar 2) (tCons (tC (.ty "tuple")) tNil)))) (tAnd (tTest (tOp (rCmp K gGt) (tCB (rLenU K) (tCons (tVar 2) tNil)) (tC (.int 0)))) (tTest (tOp (rCmp K gGt) (tCall (sp__law_take K) [] E0 (tCons (tVar 0) (tCons (tVar 1) (tCons (tC (.int 6)) tNil)))) (tC (.int 0)))))) (tSeq (tAsg (tCall (sp__law_take K) [] E0 (tCons (tVar 0) (tCons (tVar 1) (tCons (tCB (rLenU K) (tCons (tVar 2) tNil)) tNil)))) (gName 3)) (tRet (tOp (rAddU K) (tOp (rAddU K) (tSl (rSlU K) (tVar 2) tNoPart (tPart (tVar 3))) (tTup (tCons (tCall (sp__law_machine_changed K n) [] E0 (tCons (tVar 0) (tCons (tVar 1) (tCons (tIxU K (tVar 2) (tVar 3)) tNil)))) tNil))) (tSl (rSlU K) (tVar 2) (tPart (tOp (rAddU K) (tVar 3) (tC (.int 1)))) tNoPart)))) tNext) (tSeq (tAsg (tCall (sp__law_take K) [] E0 (tCons (tVar 0) (tCons (tVar 1) (tCons (tC (.int 4)) tNil)))) (gName 4)) (tSeq (tIfS (tAnd (tB (tCB (rIsiU K) (tCons (tVar 2) (tCons (tC (.ty "tuple")) tNil)))) (tAnd (tTest (tOp (rEqU K) (tVar 4) (tC (.int 0)))) (tTest (tOp (rCmp K gGt) (tCB (rLenU K) (tCons (tVar 2) tNil)) (tC (.int 0)))))) (tRet (tOp (rAddU K) (tVar 2) (tSl (rSlU K) (tVar 2) tNoPart (tPart (tC (.int 1)))))) tNext) (tSeq (tIfS (tAnd (tB (tCB (rIsiU K) (tCons (tVar 2) (tCons (tC (.ty "tuple")) tNil)))) (tAnd (tTest (tOp (rEqU K) (tVar 4) (tC (.int 1)))) (tTest (tOp (rCmp K gGt) (tCB (rLenU K) (tCons (tVar 2) tNil)) (tC (.int 0)))))) (tRet (tSl (rSlU K) (tVar 2) (tPart (tC (.int 1))) tNoPart)) tNext) (tSeq (tIfS (tAnd (tB (tCB (rIsiU K) (tCons (tVar 2) (tCons (tC (.ty "tuple")) tNil)))) (tAnd (tTest (tOp (rEqU K) (tVar 4) (tC (.int 2)))) (tTest (tOp (rCmp K gGt) (tCB (rLenU K) (tCons (tVar 2) tNil)) (tC (.int 1)))))) (tRet (tOp (rAddU K) (tSl (rSlU K) (tVar 2) (tPart (tC (.int 1))) tNoPart) (tSl (rSlU K) (tVar 2) tNoPart (tPart (tC (.int 1)))))) tNext) (tSeq (tIfS (tAnd (tB (tCB (rIsiU K) (tCons (tVar 2) (tCons (tC (.ty "str")) tNil)))) (tTest (tOp (rCmp K gLt) (tVar 4) (tC (.int 3))))) (tRet (tIxU K (tLst (tCons (tC (.str "a")) (tCons (tC (.str "f")) (tCons (tC (.str "g")) (tCons (tC (.str "")) (tCons (tC (.str "ab")) (tCons (tC (.str "A")) (tCons (tC (.str "a\n")) tNil)))))))) (tCall (sp__law_take K) [] E0 (tCons (tVar 0) (tCons (tVar 1) (tCons (tC (.int 7)) tNil)))))) tNext) (tSeq (tIfS (tAnd (tB (tCB (rIsiU K) (tCons (tVar 2) (tCons (tC (.ty "int")) tNil)))) (tTest (tOp (rCmp K gLt) (tVar 4) (tC (.int 3))))) (tRet (tIxU K (tLst (tCons (tOp (rAddU K) (tVar 2) (tC (.int 1))) (tCons (tOp rSubI (tVar 2) (tC (.int 1))) (tCons (tC (.int 8)) (tCons (tC (.int 9)) (tCons (tC (.int 0)) (tCons (tC .non) (tCons (tC (.bl true)) (tCons (tUn rNegI (tC (.int 1))) tNil))))))))) (tCall (sp__law_take K) [] E0 (tCons (tVar 0) (tCons (tVar 1) (tCons (tC (.int 8)) tNil)))))) tNext) (tRet (tIxU K (tLst (tCons (tC .non) (tCons (tC (.int 7)) (tCons (tC (.bl true)) (tCons (tC (.str "")) (tCons (tTup tNil) (tCons (tTup (tCons (tC (.int 0)) (tCons (tC (.str "a")) (tCons (tC (.int 0)) tNil)))) (tCons (tC (.str "a")) tNil)))))))) (tCall (sp__law_take K) [] E0 (tCons (tVar 0) (tCons (tVar 1) (tCons (tC (.int 7)) tNil)))))))))))))
theorem pure__law_machine_changed {K : Frag} {n : Nat} (vs : List V) (H : Hp) (Q : VK) (E : XK) (h : sp__law_machine_changed K (n + 1) vs H Q E) : t__law_machine_changed K n { nx := fun _ H' => Q .non H', rt := Q } (start ["row", "spot", "value", "at", "kind"] vs) H := by
  obtain ⟨ra, sp, v, d, rfl, dr, hd, hp, dp, k⟩ := h
  have hnl := plain_nl d hp
  have hds : ∀ H', (spR sp).r H H' → DS (spR sp) H' v d := fun H' e => e.ds hd
  -- what is left, after the kind is drawn
  have last : ∀ (σ : L2.St) (D : Ends) H1, D.rt = Q → σ[0]? = some (some (.ref ra)) → σ[1]? = some (some (.ref sp)) → (spR sp).r H H1 → tRet (tIxU K (tLst (tCons (tC .non) (tCons (tC (.int 7)) (tCons (tC (.bl true)) (tCons (tC (.str "")) (tCons (tTup tNil) (tCons (tTup (tCons (tC (.int 0)) (tCons (tC (.str "a")) (tCons (tC (.int 0)) tNil)))) (tCons (tC (.str "a")) tNil)))))))) (tCall (sp__law_take K) [] E0 (tCons (tVar 0) (tCons (tVar 1) (tCons (tC (.int 7)) tNil))))) D σ H1 := by
    intro σ D H1 hD h0 h1 e1
    have dr1 := dr.sp e1
    refine s_ret (ρ := spR sp) (ev_pick (P := GoodV sp (d.depth + 1)) (n := 7) (N := 7) (own_sp dr1) goodV_r ?_ (by decide) rfl fun H2 e2 => ev_take (ev_var h0) (ev_var h1) ev_c (dr1.sp e2) (by decide)) fun v' H2 e2 ⟨d', h, g⟩ => by rw [hD]; exact k v' d' H2 (e1.trans e2) h g
    refine ea_consQ goodV_r (gv_c (fun _ => .non) good_none) fun _ _ => ea_consQ goodV_r (gv_c (fun _ => .int 7) good_int) fun _ _ => ea_consQ goodV_r (gv_c (fun _ => .bl true) good_bool) fun _ _ => ea_consQ goodV_r (gv_c (fun _ => .str "") (good_str (by decide +kernel))) fun _ _ => ea_consQ goodV_r gv_unit fun _ _ => ea_consQ goodV_r gv_triple0 fun _ _ => ea_consQ goodV_r (gv_c (fun _ => .str "a") (good_str (by decide +kernel))) fun _ _ => ea_nilP
  cases d with
  | none => cases hp
  | bool b => cases hp
  | list ds => cases hp
  | dict ds => cases hp
  | str s =>
    have hs : s.length ≤ 300 := by simpa [plainT] using hp
    cases hd
    refine q_when (ρ := spR sp) (b := false) ((et_and (b := true) (et_B (ev_isi (ev_var rfl) (.str s) rfl)) fun h => by cases h).to rfl) (fun hb => by cases hb) fun _ H1 e1 => ?_
    refine q_asg (ρ := spR sp) (ev_take (ev_var rfl) (ev_var rfl) ev_c (dr.sp e1) (by decide)) fun v1 H2 e2 ⟨m, ev, _, _⟩ => ?_
    subst ev
    have e12 := e1.trans e2
    refine q_when (ρ := spR sp) (b := false) ((et_and (b := true) (et_B (ev_isi (ev_var rfl) (.str s) rfl)) fun h => by cases h).to rfl) (fun hb => by cases hb) fun _ H3 e3 => ?_
    refine q_when (ρ := spR sp) (b := false) ((et_and (b := true) (et_B (ev_isi (ev_var rfl) (.str s) rfl)) fun h => by cases h).to rfl) (fun hb => by cases hb) fun _ H4 e4 => ?_
    refine q_when (ρ := spR sp) (b := false) ((et_and (b := true) (et_B (ev_isi (ev_var rfl) (.str s) rfl)) fun h => by cases h).to rfl) (fun hb => by cases hb) fun _ H5 e5 => ?_
    have e15 := e12.trans (e3.trans (e4.trans e5))
    refine q_when (ρ := spR sp) (et_and (et_B (ev_isi (ev_var rfl) (.str s) rfl)) fun _ => et_test (ev_lt (ev_var rfl) ev_c)) (fun hb H6 e6 => ?_) fun _ H6 e6 => ?_
    · have e16 := e15.trans e6
      have dr6 := dr.sp e16
      refine s_ret (ρ := spR sp) (ev_pick (P := GoodV sp ((PyData.str s).depth + 1)) (n := 7) (N := 7) (own_sp dr6) goodV_r ?_ (by decide) rfl fun H2 e2 => ev_take (ev_var rfl) (ev_var rfl) ev_c (dr6.sp e2) (by decide)) fun v' H2 e2 ⟨d', h, g⟩ => k v' d' H2 (e16.trans e2) h g
      exact ea_consQ goodV_r (gv_c (fun _ => .str _) (good_str (by decide +kernel))) fun _ _ => ea_consQ goodV_r (gv_c (fun _ => .str _) (good_str (by decide +kernel))) fun _ _ => ea_consQ goodV_r (gv_c (fun _ => .str _) (good_str (by decide +kernel))) fun _ _ => ea_consQ goodV_r (gv_c (fun _ => .str _) (good_str (by decide +kernel))) fun _ _ => ea_consQ goodV_r (gv_c (fun _ => .str _) (good_str (by decide +kernel))) fun _ _ => ea_consQ goodV_r (gv_c (fun _ => .str _) (good_str (by decide +kernel))) fun _ _ => ea_consQ goodV_r (gv_c (fun _ => .str _) (good_str (by decide +kernel))) fun _ _ => ea_nilP
    · refine q_when (ρ := spR sp) (b := false) ((et_and (b := true) (et_B (ev_isi (ev_var rfl) (.str s) rfl)) fun h => by cases h).to rfl) (fun hb => by cases hb) fun _ H7 e7 => ?_
      exact last _ _ H7 rfl rfl rfl (e15.trans (e6.trans e7))
  | int i =>
    cases hd
    refine q_when (ρ := spR sp) (b := false) ((et_and (b := true) (et_B (ev_isi (ev_var rfl) (.int i) rfl)) fun h => by cases h).to rfl) (fun hb => by cases hb) fun _ H1 e1 => ?_
    refine q_asg (ρ := spR sp) (ev_take (ev_var rfl) (ev_var rfl) ev_c (dr.sp e1) (by decide)) fun v1 H2 e2 ⟨m, ev, _, _⟩ => ?_
    subst ev
    have e12 := e1.trans e2
    refine q_when (ρ := spR sp) (b := false) ((et_and (b := true) (et_B (ev_isi (ev_var rfl) (.int i) rfl)) fun h => by cases h).to rfl) (fun hb => by cases hb) fun _ H3 e3 => ?_
    refine q_when (ρ := spR sp) (b := false) ((et_and (b := true) (et_B (ev_isi (ev_var rfl) (.int i) rfl)) fun h => by cases h).to rfl) (fun hb => by cases hb) fun _ H4 e4 => ?_
    refine q_when (ρ := spR sp) (b := false) ((et_and (b := true) (et_B (ev_isi (ev_var rfl) (.int i) rfl)) fun h => by cases h).to rfl) (fun hb => by cases hb) fun _ H5 e5 => ?_
    have e15 := e12.trans (e3.trans (e4.trans e5))
    refine q_when (ρ := spR sp) (b := false) ((et_and (b := true) (et_B (ev_isi (ev_var rfl) (.int i) rfl)) fun h => by cases h).to rfl) (fun hb => by cases hb) fun _ H6 e6 => ?_
    refine q_when (ρ := spR sp) (et_and (et_B (ev_isi (ev_var rfl) (.int i) rfl)) fun _ => et_test (ev_lt (ev_var rfl) ev_c)) (fun hb H7 e7 => ?_) fun _ H7 e7 => ?_
    · have e17 := e15.trans (e6.trans e7)
      have dr7 := dr.sp e17
      refine s_ret (ρ := spR sp) (ev_pick (P := GoodV sp ((PyData.int i).depth + 1)) (n := 8) (N := 8) (own_sp dr7) goodV_r ?_ (by decide) rfl fun H2 e2 => ev_take (ev_var rfl) (ev_var rfl) ev_c (dr7.sp e2) (by decide)) fun v' H2 e2 ⟨d', h, g⟩ => k v' d' H2 (e17.trans e2) h g
      exact ea_consQ goodV_r (gv_v (ev_add (ev_var rfl) ev_c) (fun _ => .int _) good_int) fun _ _ => ea_consQ goodV_r (gv_v (ev_sub (ev_var rfl) ev_c) (fun _ => .int _) good_int) fun _ _ => ea_consQ goodV_r (gv_c (fun _ => .int _) good_int) fun _ _ => ea_consQ goodV_r (gv_c (fun _ => .int _) good_int) fun _ _ => ea_consQ goodV_r (gv_c (fun _ => .int _) good_int) fun _ _ => ea_consQ goodV_r (gv_c (fun _ => .non) good_none) fun _ _ => ea_consQ goodV_r (gv_c (fun _ => .bl _) good_bool) fun _ _ => ea_consQ goodV_r (gv_v (ev_neg ev_c) (fun _ => .int _) good_int) fun _ _ => ea_nilP
    · exact last _ _ H7 rfl rfl rfl (e15.trans (e6.trans e7))
  | tuple ds =>
    obtain ⟨a, xs, rfl, hxs, ha, hsq⟩ := hd.tupl
    have fine := fine_plain hp
    have hpl : ds.length ≤ 300 ∧ plainTs ds = true := by simpa [plainT] using hp
    have hlen := hxs.length
    have sA : ∀ H1, (spR sp).r H H1 → SqA K H1 a xs := fun H1 e => .inr (hsq K (spR sp) H1 e)
    have ddep : (PyData.tuple ds).depth = PyData.depthAll ds + 1 := rfl
    -- behind the first question
    have rest : ∀ (σ : L2.St) (av kv : Option V) H1, σ = [some (.ref ra), some (.ref sp), some (.ref a), av, kv] → (spR sp).r H H1 → (tSeq (tAsg (tCall (sp__law_take K) [] E0 (tCons (tVar 0) (tCons (tVar 1) (tCons (tC (.int 4)) tNil)))) (gName 4)) (tSeq (tIfS (tAnd (tB (tCB (rIsiU K) (tCons (tVar 2) (tCons (tC (.ty "tuple")) tNil)))) (tAnd (tTest (tOp (rEqU K) (tVar 4) (tC (.int 0)))) (tTest (tOp (rCmp K gGt) (tCB (rLenU K) (tCons (tVar 2) tNil)) (tC (.int 0)))))) (tRet (tOp (rAddU K) (tVar 2) (tSl (rSlU K) (tVar 2) tNoPart (tPart (tC (.int 1)))))) tNext) (tSeq (tIfS (tAnd (tB (tCB (rIsiU K) (tCons (tVar 2) (tCons (tC (.ty "tuple")) tNil)))) (tAnd (tTest (tOp (rEqU K) (tVar 4) (tC (.int 1)))) (tTest (tOp (rCmp K gGt) (tCB (rLenU K) (tCons (tVar 2) tNil)) (tC (.int 0)))))) (tRet (tSl (rSlU K) (tVar 2) (tPart (tC (.int 1))) tNoPart)) tNext) (tSeq (tIfS (tAnd (tB (tCB (rIsiU K) (tCons (tVar 2) (tCons (tC (.ty "tuple")) tNil)))) (tAnd (tTest (tOp (rEqU K) (tVar 4) (tC (.int 2)))) (tTest (tOp (rCmp K gGt) (tCB (rLenU K) (tCons (tVar 2) tNil)) (tC (.int 1)))))) (tRet (tOp (rAddU K) (tSl (rSlU K) (tVar 2) (tPart (tC (.int 1))) tNoPart) (tSl (rSlU K) (tVar 2) tNoPart (tPart (tC (.int 1)))))) tNext) (tSeq (tIfS (tAnd (tB (tCB (rIsiU K) (tCons (tVar 2) (tCons (tC (.ty "str")) tNil)))) (tTest (tOp (rCmp K gLt) (tVar 4) (tC (.int 3))))) (tRet (tIxU K (tLst (tCons (tC (.str "a")) (tCons (tC (.str "f")) (tCons (tC (.str "g")) (tCons (tC (.str "")) (tCons (tC (.str "ab")) (tCons (tC (.str "A")) (tCons (tC (.str "a\n")) tNil)))))))) (tCall (sp__law_take K) [] E0 (tCons (tVar 0) (tCons (tVar 1) (tCons (tC (.int 7)) tNil)))))) tNext) (tSeq (tIfS (tAnd (tB (tCB (rIsiU K) (tCons (tVar 2) (tCons (tC (.ty "int")) tNil)))) (tTest (tOp (rCmp K gLt) (tVar 4) (tC (.int 3))))) (tRet (tIxU K (tLst (tCons (tOp (rAddU K) (tVar 2) (tC (.int 1))) (tCons (tOp rSubI (tVar 2) (tC (.int 1))) (tCons (tC (.int 8)) (tCons (tC (.int 9)) (tCons (tC (.int 0)) (tCons (tC .non) (tCons (tC (.bl true)) (tCons (tUn rNegI (tC (.int 1))) tNil))))))))) (tCall (sp__law_take K) [] E0 (tCons (tVar 0) (tCons (tVar 1) (tCons (tC (.int 8)) tNil)))))) tNext) (tRet (tIxU K (tLst (tCons (tC .non) (tCons (tC (.int 7)) (tCons (tC (.bl true)) (tCons (tC (.str "")) (tCons (tTup tNil) (tCons (tTup (tCons (tC (.int 0)) (tCons (tC (.str "a")) (tCons (tC (.int 0)) tNil)))) (tCons (tC (.str "a")) tNil)))))))) (tCall (sp__law_take K) [] E0 (tCons (tVar 0) (tCons (tVar 1) (tCons (tC (.int 7)) tNil)))))))))))) { nx := fun _ H' => Q .non H', rt := Q } σ H1 := by
      rintro σ av kv H1 rfl e1
      refine q_asg (ρ := spR sp) (ev_take (ev_var rfl) (ev_var rfl) ev_c (dr.sp e1) (by decide)) fun v1 H2 e2 ⟨m, ev, _, _⟩ => ?_
      subst ev
      have e12 := e1.trans e2
      have hdat : ∀ H3, (spR sp).r H2 H3 → DS (spR sp) H3 (.ref a) (.tuple ds) := fun H3 e3 => hds H3 (e12.trans e3)
      have good : ∀ v' ds' H', (spR sp).r H2 H' → DS (spR sp) H' v' (.tuple ds') → Fine 900 (PyData.depthAll ds) ds' → Q v' H' := fun v' ds' H' e h f =>
        k v' _ H' (e12.trans e) h ⟨(f.good (by decide)).1, (f.good (by decide)).2.1, by have := (f.good (by decide)).2.2; rw [ddep]; omega⟩
      have cutE : ∀ {H3 : Hp} {tl th : TO} {lo hi : Option Int}, (spR sp).r H2 H3 → EvO (spR sp) tl [some (.ref ra), some (.ref sp), some (.ref a), av, some (.int m)] H3 lo → EvO (spR sp) th [some (.ref ra), some (.ref sp), some (.ref a), av, some (.int m)] H3 hi → Ev (spR sp) (tSl (rSlU K) (tVar 2) tl th) [some (.ref ra), some (.ref sp), some (.ref a), av, some (.int m)] H3 (fun v H' => ∃ ds', Fine 300 (PyData.depthAll ds) ds' ∧ DS (spR sp) H' v (.tuple ds')) := fun e3 h1 h2 =>
        (ev_slD Le.rfl (ev_var rfl) h1 h2 (hdat _ e3)).imp fun v H' _ h => ⟨_, fine.cut _ _, h⟩
      refine q_when (ρ := spR sp) (et_and (et_B (ev_isi (ev_var rfl) (hdat H2 .rfl) rfl)) fun _ => et_and (et_test (ev_eqI (ev_var rfl) ev_c)) fun _ => et_test (ev_gt (ev_len (ev_var rfl) (fun H3 e3 => sA H3 (e12.trans e3))) ev_c)) (fun hb H3 e3 => ?_) fun _ H3 e3 => ?_
      · refine s_ret (ρ := spR sp) (ev_catD (C1 := Fine 300 (PyData.depthAll ds)) (C2 := Fine 300 (PyData.depthAll ds)) ((ev_var (v := .ref a) rfl).imp fun v H' e ev => ⟨ds, fine, by rw [ev]; exact hdat H' (e3.trans e)⟩) (fun H4 e4 => cutE (e3.trans e4) eo_none (eo_some ev_c)) fun d1 d2 f1 f2 => by have := f1.len; have := f2.len; omega) fun v' H4 e4 ⟨ds', ⟨d1, d2, f1, f2, ed⟩, h⟩ => ?_
        exact good v' ds' H4 (e3.trans e4) h (by rw [ed]; have f := f1.append f2; exact ⟨f.all, Nat.le_trans f.len (by decide)⟩)
      refine q_when (ρ := spR sp) (et_and (et_B (ev_isi (ev_var rfl) (hdat H3 e3) rfl)) fun _ => et_and (et_test (ev_eqI (ev_var rfl) ev_c)) fun _ => et_test (ev_gt (ev_len (ev_var rfl) (fun H4 e4 => sA H4 (e12.trans (e3.trans e4)))) ev_c)) (fun hb H4 e4 => ?_) fun _ H4 e4 => ?_
      · refine s_ret (ρ := spR sp) (cutE (e3.trans e4) (eo_some ev_c) eo_none) fun v' H5 e5 ⟨ds', f, h⟩ => ?_
        exact good v' ds' H5 (e3.trans (e4.trans e5)) h ⟨f.all, Nat.le_trans f.len (by decide)⟩
      have e34 := e3.trans e4
      refine q_when (ρ := spR sp) (et_and (et_B (ev_isi (ev_var rfl) (hdat H4 e34) rfl)) fun _ => et_and (et_test (ev_eqI (ev_var rfl) ev_c)) fun _ => et_test (ev_gt (ev_len (ev_var rfl) (fun H5 e5 => sA H5 (e12.trans (e34.trans e5)))) ev_c)) (fun hb H5 e5 => ?_) fun _ H5 e5 => ?_
      · refine s_ret (ρ := spR sp) (ev_catD (C1 := Fine 300 (PyData.depthAll ds)) (C2 := Fine 300 (PyData.depthAll ds)) (cutE (e34.trans e5) (eo_some ev_c) eo_none) (fun H6 e6 => cutE (e34.trans (e5.trans e6)) eo_none (eo_some ev_c)) fun d1 d2 f1 f2 => by have := f1.len; have := f2.len; omega) fun v' H6 e6 ⟨ds', ⟨d1, d2, f1, f2, ed⟩, h⟩ => ?_
        exact good v' ds' H6 (e34.trans (e5.trans e6)) h (by rw [ed]; have f := f1.append f2; exact ⟨f.all, Nat.le_trans f.len (by decide)⟩)
      have e35 := e34.trans e5
      refine q_when (ρ := spR sp) (b := false) ((et_and (b := true) (et_B (ev_isi (ev_var rfl) (hdat H5 e35) rfl)) fun h => by cases h).to rfl) (fun hb => by cases hb) fun _ H6 e6 => ?_
      refine q_when (ρ := spR sp) (b := false) ((et_and (b := true) (et_B (ev_isi (ev_var rfl) (hdat H6 (e35.trans e6)) rfl)) fun h => by cases h).to rfl) (fun hb => by cases hb) fun _ H7 e7 => ?_
      exact last _ _ H7 rfl rfl rfl (e12.trans (e35.trans (e6.trans e7)))
    by_cases h0 : ds.length = 0
    · refine q_when (ρ := spR sp) (b := false) ((et_and (b := false) (et_B (ev_isi (ev_var rfl) hd rfl)) fun _ => (et_and (b := true) (et_test (ev_gt (ev_len (ev_var rfl) sA) ev_c)) fun h => ?_).to ?_).to rfl) (fun hb => by cases hb) fun _ H1 e1 => rest _ _ _ H1 rfl e1
      · have := of_decide_eq_true h
        omega
      · rw [decide_eq_false (by omega)]
        rfl
    · refine q_whenC (ρ := spR sp) (C := fun _ => True) (etc_and (et_B (ev_isi (ev_var rfl) hd rfl)) (etc_and ((et_test (ev_gt (ev_len (ev_var rfl) sA) ev_c)).to (decide_eq_true (by omega))) (etc_test (ev_opP (Pa := Below 6) (Pb := fun v => v = .int 0) (ev_take (ev_var rfl) (ev_var rfl) ev_c dr (by decide)) ev_c fun x y ⟨m, ex, _⟩ ey => by
        subst ex ey
        exact fun H1 e1 Q q => rv_cmpI H1 Q (q _ H1 .rfl ⟨_, rfl, trivial⟩))))) (fun _ H1 e1 => ?_) fun _ H1 e1 => rest _ _ _ H1 rfl e1
      refine q_asg (ρ := spR sp) (ev_take (ev_var rfl) (ev_var rfl) (ev_len (ev_var rfl) (fun H2 e2 => sA H2 (e1.trans e2))) (dr.sp e1) (by omega)) fun v1 H2 e2 ⟨m, ev, m0, m1⟩ => ?_
      subst ev
      have e12 := e1.trans e2
      have hm : m.toNat < xs.length := by omega
      have gx : xs[m.toNat]? = some xs[m.toNat] := List.getElem?_eq_getElem hm
      obtain ⟨dm, g1, g2⟩ := hxs.get gx
      have hmem := List.mem_of_getElem? g1
      have dmd : dm.depth ≤ PyData.depthAll ds := depth_mem hmem
      have dpn : PyData.depthAll ds + 1 < n + 1 := dp
      have hdat : ∀ H3, (spR sp).r H2 H3 → DS (spR sp) H3 (.ref a) (.tuple ds) := fun H3 e3 => hds H3 (e12.trans e3)
      refine s_ret (ρ := spR sp) (ev_catD (C1 := Fine 301 (PyData.depthAll ds + 1)) (C2 := Fine 300 (PyData.depthAll ds + 1)) ((ev_catD (C1 := Fine 300 (PyData.depthAll ds + 1)) (C2 := Fine 1 (PyData.depthAll ds + 1)) ?_ ?_ ?_).imp ?_) ?_ ?_) fun v' H3 e3 ⟨ds', ⟨d1, d2, f1, f2, ed⟩, h⟩ => ?_
      · exact (ev_slD Le.rfl (ev_var rfl) eo_none (eo_some (ev_var rfl)) (hdat H2 .rfl)).imp fun v H' _ h => ⟨_, (fine.cut _ _).up (Nat.le_succ _), h⟩
      · intro H3 e3
        refine (ev_tup (Rr := fun vs H' => ∃ x, vs = [x] ∧ GoodV sp (PyData.depthAll ds + 1) x H') (ea_one (ev_call (ea_cons (ev_var rfl) (ea_cons (ev_var rfl) (ea_cons (ev_ix (n := m.toNat) (ev_var rfl) (ev_var rfl) (fun H4 e4 => sA H4 (e12.trans (e3.trans e4))) (by omega) gx) ea_nil))) fun H4 e4 Q' q' E' => ?_)) fun vs H4 _ ⟨x, e, _⟩ => by rw [e]; show 1 ≤ 100000; decide).imp fun v H4 e4 ⟨p, vs, H5, ev, ⟨x, evs, dx, hx, gx⟩, hp5, r5, eH⟩ => ?_
        · exact ⟨ra, sp, _, dm, rfl, dr.sp (e12.trans (e3.trans e4)), (e12.trans (e3.trans e4)).ds g2, plainTs_mem hpl.2 hmem, by omega, fun v' d' H' e h g => q' v' H' e ⟨d', h, g.1, g.2.1, Nat.le_trans g.2.2 (by omega)⟩⟩
        · subst ev evs
          refine ⟨[dx], ⟨fun d hd => ?_, Nat.le_refl _⟩, .tup (by rw [eH]; exact upd_same) (.cons ((eH ▸ r_new (ρ := spR sp) _ hp5 : (spR sp).r H5 H4).ds hx) .nil)⟩
          rw [List.mem_singleton.mp hd]
          exact gx
      · intro d1 d2 f1 f2
        have := f1.len
        have := f2.len
        omega
      · rintro v H3 e3 ⟨ds', ⟨d1, d2, f1, f2, rfl⟩, h⟩
        exact ⟨_, f1.append f2, h⟩
      · intro H3 e3
        exact (ev_slD Le.rfl (ev_var rfl) (eo_some (ev_add (ev_var rfl) ev_c)) eo_none (hdat H3 e3)).imp fun v H' _ h => ⟨_, (fine.cut _ _).up (Nat.le_succ _), h⟩
      · intro d1 d2 f1 f2
        have := f1.len
        have := f2.len
        omega
      · have f := f1.append f2
        rw [← ed] at f
        have g := f.good (by decide)
        exact k v' _ H3 (e12.trans e3) h g
end Slip
/-! machines as tables of moves; words told -/
namespace Slip
open PySem PySem.Spec PyProof.Rows L2
/-! ### rules -/
section
variable {ρ : Rl} {K : Frag} {σ : L2.St} {H : Hp} {ta tb te : TE} {x y v : V} {a D : Addr} {kvs : List (List Key × V)} {k : List Key} {b : Bool}
theorem et_tru (h : EvV ρ te σ H (.bl b)) : EvT ρ (tTru K te) σ H b := fun H1 e Q q => h H1 e _ fun v H2 e2 hv => ⟨b, by rw [hv]; exact rfl, q H2 e2⟩
theorem g_seq2 {i j : Nat} {Q : L2.St → Hp → Prop} (hs : SqA K H a [x, y]) (q : Q ((σ.set i (some x)).set j (some y)) H) : gSeq K 2 (gCons (gName i) (gCons (gName j) gNil)) (.ref a) σ H Q := by
  rcases hs with h | h
  · exact .inr ⟨a, _, rfl, h, rfl, x, _, rfl, y, _, rfl, rfl, q⟩
  · exact .inl ⟨a, _, rfl, h, rfl, x, _, rfl, y, _, rfl, rfl, q⟩
/-- (n, s): a key -/
theorem ev_keyT {s : Int} {l : Str} (h1 : EvV ρ ta σ H (.int s)) (h2 : EvV ρ tb σ H (.str l)) : Ev ρ (tTup (tCons ta (tCons tb tNil))) σ H (fun v H' => ∃ q, v = .ref q ∧ H' q = some (.tup (([.inl s, .inr l] : List Key).map kV))) :=
  (ev_tup (ea_cons h1 (ea_cons h2 ea_nil)) fun vs H1 _ e => by rw [e]; show 2 ≤ 100000; decide).imp fun v H2 _ ⟨p, vs, H1, ev, evs, hp, r1, eH⟩ => by
    subst ev evs
    exact ⟨p, rfl, by rw [eH]; exact upd_same⟩
theorem ev_inT (h1 : Ev ρ ta σ H (fun v H' => ∃ q, v = .ref q ∧ H' q = some (.tup (k.map kV)))) (h2 : EvV ρ tb σ H (.ref D)) (hD : ∀ H1, ρ.r H H1 → H1 D = some (.dT kvs)) : EvV ρ (tOp (rInU K) ta tb) σ H (.bl (valV kvs k).isSome) :=
  ev_op2 (Rb := fun v _ => v = .ref D) h1 (fun x H1 e1 _ => h2.mono e1) fun x y H1 H2 e1 e2 ⟨q, ex, hq⟩ ey => by
    subst ex ey
    exact fun H3 e3 Q q' => .inr (.inr ⟨D, valV kvs k, rfl, DGet.t (hD H3 (e1.trans (e2.trans e3))) ((e2.trans e3).tup _ _ hq), q' _ H3 .rfl rfl⟩)
theorem ev_notInT (h1 : Ev ρ ta σ H (fun v H' => ∃ q, v = .ref q ∧ H' q = some (.tup (k.map kV)))) (h2 : EvV ρ tb σ H (.ref D)) (hD : ∀ H1, ρ.r H H1 → H1 D = some (.dT kvs)) : EvV ρ (tOp (rNotInU K) ta tb) σ H (.bl (!(valV kvs k).isSome)) :=
  ev_op2 (Rb := fun v _ => v = .ref D) h1 (fun x H1 e1 _ => h2.mono e1) fun x y H1 H2 e1 e2 ⟨q, ex, hq⟩ ey => by
    subst ex ey
    exact fun H3 e3 Q q' => .inr (.inr ⟨D, valV kvs k, rfl, DGet.t (hD H3 (e1.trans (e2.trans e3))) ((e2.trans e3).tup _ _ hq), q' _ H3 .rfl rfl⟩)
theorem ev_getT (h1 : EvV ρ ta σ H (.ref D)) (h2 : Ev ρ tb σ H (fun v H' => ∃ q, v = .ref q ∧ H' q = some (.tup (k.map kV)))) (hD : ∀ H1, ρ.r H H1 → H1 D = some (.dT kvs)) (hv : valV kvs k = some v) : EvV ρ (tIxU K ta tb) σ H v := fun H1 e1 Q q =>
  .inr (h1 H1 e1 _ fun u H2 e2 eu => h2 H2 (e1.trans e2) _ fun w H3 e3 ⟨p, ew, hp⟩ => by
    subst eu ew
    refine ⟨D, v, rfl, ?_, q v H3 (e2.trans e3) rfl⟩
    rw [← hv]
    exact DGet.t (hD H3 (e1.trans (e2.trans e3))) hp)
/-- a number among numbers -/
theorem ev_inI {i : Int} {es : List Int} (h1 : EvV ρ ta σ H (.int i)) (h2 : EvV ρ tb σ H (.ref a)) (hs : ∀ H1, ρ.r H H1 → SqA K H1 a (es.map V.int)) : EvV ρ (tOp (rInU K) ta tb) σ H (.bl (decide (i ∈ es))) :=
  ev_op h1 h2 (.const fun H1 e1 _ q => .inl ⟨a, es.map V.int, rfl, hs H1 e1, rfl, by
    rw [List.all_map, List.all_eq_true]
    exact fun _ _ => rfl, by
    have : inV (.int i) (es.map V.int) = decide (i ∈ es) := by
      show ((es.map V.int).any fun y => eqV y (.int i)) = _
      rw [List.any_map, Bool.eq_iff_iff, List.any_eq_true, decide_eq_true_eq]
      constructor
      · rintro ⟨j, hj, e⟩
        have e' : (j == i) = true := e
        rw [← eq_of_beq e']
        exact hj
      · intro h
        exact ⟨i, h, by show (i == i) = true; simp⟩
    show _
    rw [if_neg (by decide), this]
    exact q⟩)
end
/-! ### machines -/
structure Mac where
  n : Int
  es : List Int
  ms : List (Int × Nat × Int)
def mvD (m : Int × Nat × Int) : PyData := .tuple [.int m.1, .str ⟨#[m.2.1]⟩, .int m.2.2]
def macD (M : Mac) : PyData := .tuple [.int M.n, .tuple (M.es.map PyData.int), .tuple (M.ms.map mvD)]
def keyM (s : Int) (c : Nat) : List Key := [.inl s, .inr ⟨#[c]⟩]
def tabK (ms : List (Int × Nat × Int)) : List (List Key × V) := ms.map fun m => (keyM m.1 m.2.1, V.int m.2.2)
/-- where a move goes -/
def dl (ms : List (Int × Nat × Int)) (s : Int) (c : Nat) : Option Int := (ms.find? fun m => decide (m.1 = s ∧ m.2.1 = c)).map (·.2.2)
theorem keyM_inj {a s : Int} {b c : Nat} : keyM a b = keyM s c ↔ a = s ∧ b = c := by
  constructor
  · intro h
    injection h with h1 h2
    injection h1 with h1
    injection h2 with h2 _
    injection h2 with h2
    injection h2 with h2
    exact ⟨h1, by injection h2 with h2; injection h2⟩
  · rintro ⟨rfl, rfl⟩
    rfl
theorem dl_cons (m : Int × Nat × Int) (ms : List (Int × Nat × Int)) (s : Int) (c : Nat) : dl (m :: ms) s c = if m.1 = s ∧ m.2.1 = c then some m.2.2 else dl ms s c := by
  unfold dl
  rw [List.find?_cons]
  by_cases h : m.1 = s ∧ m.2.1 = c
  · rw [if_pos h]
    simp [h]
  · rw [if_neg h, decide_eq_false h]
theorem val_tab (ms : List (Int × Nat × Int)) (s : Int) (c : Nat) : valV (tabK ms) (keyM s c) = (dl ms s c).map V.int := by
  induction ms with
  | nil => rfl
  | cons m ms ih =>
    rw [dl_cons]
    by_cases h : m.1 = s ∧ m.2.1 = c
    · rw [if_pos h]
      exact valV_pos (p := (keyM m.1 m.2.1, V.int m.2.2)) (keyM_inj.mpr h)
    · rw [if_neg h, ← ih]
      exact valV_neg (p := (keyM m.1 m.2.1, V.int m.2.2)) fun e => h (keyM_inj.mp e)
theorem dl_none {ms : List (Int × Nat × Int)} {s : Int} {c : Nat} (h : ∀ m ∈ ms, ¬ (m.1 = s ∧ m.2.1 = c)) : dl ms s c = none := by
  induction ms with
  | nil => rfl
  | cons m ms ih => rw [dl_cons, if_neg (h m (List.mem_cons_self ..)), ih fun m' hm => h m' (List.mem_cons_of_mem _ hm)]
theorem dl_mem {ms : List (Int × Nat × Int)} {s t : Int} {c : Nat} (h : dl ms s c = some t) : (s, c, t) ∈ ms := by
  induction ms with
  | nil => cases h
  | cons m ms ih =>
    rw [dl_cons] at h
    by_cases z : m.1 = s ∧ m.2.1 = c
    · rw [if_pos z] at h
      obtain ⟨a, b, d⟩ := m
      cases h
      obtain ⟨rfl, rfl⟩ := z
      exact List.mem_cons_self ..
    · rw [if_neg z] at h
      exact List.mem_cons_of_mem _ (ih h)
/-- no two moves of a state and a letter -/
abbrev Keys (ms : List (Int × Nat × Int)) : Prop := ms.Pairwise fun p q => ¬ (p.1 = q.1 ∧ p.2.1 = q.2.1)
theorem dl_of {ms : List (Int × Nat × Int)} (hk : Keys ms) {s t : Int} {c : Nat} (h : (s, c, t) ∈ ms) : dl ms s c = some t := by
  induction ms with
  | nil => cases h
  | cons m ms ih =>
    rw [dl_cons]
    have hk' := List.pairwise_cons.mp hk
    rcases List.mem_cons.mp h with e | h
    · rw [← e]
      exact if_pos ⟨rfl, rfl⟩
    · rw [if_neg (hk'.1 _ h), ih hk'.2 h]
theorem tab_step {ms : List (Int × Nat × Int)} (hk : Keys ms) {i : Nat} {m : Int × Nat × Int} (h : ms[i]? = some m) : putK (tabK (ms.take i)) (keyM m.1 m.2.1) (.int m.2.2) = tabK (ms.take (i + 1)) := by
  obtain ⟨hi, e⟩ := List.getElem?_eq_some_iff.mp h
  have hn : dl (ms.take i) m.1 m.2.1 = none := dl_none fun p hp => by
    obtain ⟨j, hj, ej⟩ := List.mem_iff_getElem.mp hp
    rw [List.length_take] at hj
    have hj' : j < i := by omega
    have := List.pairwise_iff_getElem.mp hk j i (by omega) hi hj'
    rw [List.getElem_take] at ej
    rw [ej, e] at this
    exact this
  rw [putK_new _ (by rw [val_tab, hn]; rfl), List.take_add_one, h]
  unfold tabK
  rw [List.map_append]
  rfl
theorem tab_len (ms : List (Int × Nat × Int)) : (tabK ms).length = ms.length := List.length_map _
/-- where a word leads -/
def run (ms : List (Int × Nat × Int)) (s : Int) : List Nat → Option Int
  | [] => some s
  | c :: w => (dl ms s c).bind fun t => run ms t w
def tellsM (M : Mac) (w : List Nat) : Bool := match run M.ms 0 w with
  | some s => decide (s ∈ M.es)
  | none => false
theorem run_snoc (ms : List (Int × Nat × Int)) (c : Nat) : ∀ (w : List Nat) (s : Int), run ms s (w ++ [c]) = (run ms s w).bind fun t => dl ms t c
  | [], s => by
    show (dl ms s c).bind (fun t => some t) = dl ms s c
    cases dl ms s c <;> rfl
  | d :: w, s => by
    show (dl ms s d).bind (fun t => run ms t (w ++ [c])) = ((dl ms s d).bind fun t => run ms t w).bind fun t => dl ms t c
    cases h : dl ms s d with
    | none => rfl
    | some t => exact run_snoc ms c w t
theorem run_none (ms : List (Int × Nat × Int)) (w2 : List Nat) : ∀ (w : List Nat) (s : Int), run ms s w = none → run ms s (w ++ w2) = none
  | [], s, h => by cases h
  | d :: w, s, h => by
    have h' : ((dl ms s d).bind fun t => run ms t w) = none := h
    show ((dl ms s d).bind fun t => run ms t (w ++ w2)) = none
    cases q : dl ms s d with
    | none => rfl
    | some t =>
      rw [q] at h'
      exact run_none ms w2 w t h'
/-! ### all is well -/
def sp_check_arguments (K : Frag) : Sp := fun vs H Q _ => ∃ (a : Addr) (n : Nat), vs = [.ref a] ∧ SqL K H a (List.replicate n (.bl true)) ∧ ∀ H', Ext H H' → Q .non H'
theorem len_check_arguments {K : Frag} {vs : List V} {H : Hp} {Q : VK} {E : XK} (h : sp_check_arguments K vs H Q E) : vs.length = 1 := by
  obtain ⟨a, n, rfl, _⟩ := h
  rfl
def t_check_arguments (K : Frag) : TS := (tFor (iEnum K (tCons (tVar 0) tNil)) (gSeq K 2 (gCons (gName 1) (gCons (gName 2) gNil))) (tIfS (tNot (tTru K (tVar 2))) tNever tNext))
theorem pure_check_arguments {K : Frag} (vs : List V) (H : Hp) (Q : VK) (E : XK) (h : sp_check_arguments K vs H Q E) : t_check_arguments K { nx := fun _ H' => Q .non H', rt := Q } (start ["fits", "at", "fit"] vs) H := by
  obtain ⟨a, n, rfl, hq, k⟩ := h
  have sq : ∀ H1, exR.r H H1 → SqL K H1 a (List.replicate n (.bl true)) := fun H1 e => ext_sqL e.ext hq
  refine s_for (ρ := exR) (n := (List.replicate n (V.bl true)).length) (Y := YPair (fun i => some (.int (i : Nat))) fun i => (List.replicate n (V.bl true))[i]?) (fun H1 e1 R kk => ea_cons (ρ := exR) (ev_var rfl) ea_nil H1 e1 _ fun vs H2 e2 ev => ⟨a, _, ev, sq H2 (e1.trans e2), kk _ H2 e2 (walk_enum.mono (fun H3 e3 => sq H3 ((e1.trans e2).trans e3)) fun _ _ _ _ _ _ y => y)⟩) fun H1 e1 => ⟨fun i σ' H' => exR.r H1 H' ∧ ∃ u w, σ' = [some (.ref a), u, w], ⟨.rfl, _, _, rfl⟩, fun i σ' H' _ p => p.1, ?_, ?_⟩
  · rintro i x σ' H' H'' hi ⟨r, u, w, rfl⟩ ⟨T, x1, y1, rfl, hT, rfl, e1', e2'⟩
    have ey : y1 = .bl true := by
      have e2'' : (List.replicate n (V.bl true))[i]? = some y1 := e2'
      rw [List.getElem?_replicate] at e2''
      split at e2''
      · cases e2''; rfl
      · cases e2''
    cases e1'
    subst ey
    refine g_seq2 (.inr (.inl (.inl upd_same))) ?_
    exact s_if (ρ := exR) (b := false) ((et_not (et_tru (ev_var (v := .bl true) rfl))).to rfl) (fun hb => by cases hb) fun _ H3 e3 => ⟨r.trans ((r_new _ hT).trans e3), _, _, rfl⟩
  · rintro σ' H' ⟨r, u, w, rfl⟩
    exact k H' (e1.trans r).ext
/-! ### the moves as a dict -/
section
variable {ρ : Rl} {K : Frag} {σ : L2.St} {H : Hp} {wi : TI} {g : TG} {tk tv : TE} {vs : List Nat} {n : Nat} {Y : Nat → Hp → V → Hp → Prop} {tab : Nat → List (List Key × V)} {ky : Nat → List Key} {z : Nat → V}
theorem ev_dcT (own : Own ρ H) (hI : EvI ρ wi σ H n Y) (h0 : tab 0 = []) (hl : ∀ i, i ≤ n → (tab i).length < 90000) (hp : ∀ i, i < n → putK (tab i) (ky i) (z i) = tab (i + 1))
    (hs : ∀ D H1, ρ.r H H1 → H1 D = none → ∀ i x H2 H3, i < n → ρ.r H1 H2 → Y i H2 x H3 → ∀ cont : L2.St → Hp → Prop,
      (∀ σ2 H4, wipe σ2 vs = wipe σ vs → ρ.r H2 H4 → Ev ρ tk σ2 H4 (fun y H5 => ∃ b, y = .ref b ∧ H5 b = some (.tup ((ky i).map kV))) → (∀ H5, ρ.r H4 H5 → EvV ρ tv σ2 H5 (z i)) → cont σ2 H4) → g x (wipe σ vs) H3 cont) :
    Ev ρ (tDcT wi g tYes tk tv vs) σ H (fun v H2 => ∃ D, v = .ref D ∧ ¬ ρ.S D ∧ H D = none ∧ H2 D = some (.dT (tab n))) := fun H0 e0 Q q =>
  hI H0 e0 _ fun J H1 e1 w D hD => by
    have e01 := e0.trans e1
    have nS : ¬ ρ.S D := (own.r e01).fresh hD
    refine ⟨fun i m H' => m = n - i ∧ i ≤ n ∧ ρ.r H1 H' ∧ H' D = some (.dT (tab i)), ⟨n, by simp, Nat.zero_le _, r_new _ hD, by rw [upd_same, h0]⟩, ?_⟩
    rintro i m H' ⟨rfl, hi, r, hx⟩
    by_cases hlt : i < n
    · refine .inr ⟨w.goes i H' hlt r, fun H2 => ρ.r H1 H2 ∧ H2 D = some (.dT (tab (i + 1))), fun H2 h2 => ⟨n - (i + 1), by omega, rfl, hlt, h2.1, h2.2⟩, fun x H3 y => ?_⟩
      refine hs D H1 e01 hD i x H' H3 hlt r (w.yields i H' x H3 hlt r y) _ fun σ2 H4 hw r4 hk hv => ⟨hw, ?_⟩
      show tk σ2 H4 _
      refine hk H4 .rfl _ fun u H5 r5 ⟨b, eu, hb⟩ => hv H5 r5 H5 .rfl _ fun u2 H6 r6 eu2 => ?_
      subst eu2
      have r16 := r4.trans (r5.trans r6)
      have h6 : H6 D = some (.dT (tab i)) := r16.keep _ _ nS hx
      refine ⟨tab i, ky i, b, eu, r6.tup _ _ hb, h6, Evl.sz_lt (by have := hl i hi; omega), r_mut (r.trans r16) hD, ?_⟩
      rw [upd_same, hp i hlt]
    · have ei : i = n := by omega
      subst ei
      exact .inl ⟨w.stops H' r, q _ H' (e1.trans r) ⟨D, rfl, nS, e01.back D hD, hx⟩⟩
end
/-- lists or tuples, as the moves are told -/
theorem mixed_items {d : PyData} {ds : List PyData} (h : tupD d = .tuple ds) : isSeqD d = true ∧ (itemsD d).map tupD = ds := by
  have h1 : isSeqD (tupD d) = true := by rw [h]; rfl
  rw [seq_tupD] at h1
  refine ⟨h1, ?_⟩
  rw [← items_tupD, h]
  rfl
theorem mixed_move {d : PyData} {m : Int × Nat × Int} (h : tupD d = mvD m) : isSeqD d = true ∧ itemsD d = [.int m.1, .str ⟨#[m.2.1]⟩, .int m.2.2] := by
  obtain ⟨h1, h2⟩ := mixed_items h
  refine ⟨h1, ?_⟩
  obtain ⟨a, b, c, e⟩ := three (show (itemsD d).length = 3 by have := congrArg List.length h2; rwa [List.length_map] at this)
  rw [e] at h2 ⊢
  have h3 : [tupD a, tupD b, tupD c] = [.int m.1, .str ⟨#[m.2.1]⟩, .int m.2.2] := h2
  injection h3 with ha h3
  injection h3 with hb h3
  injection h3 with hc h3
  have e1 : a = .int m.1 := by cases a <;> first | exact ha | cases ha
  have e2 : b = .str ⟨#[m.2.1]⟩ := by cases b <;> first | exact hb | cases hb
  have e3 : c = .int m.2.2 := by cases c <;> first | exact hc | cases hc
  rw [e1, e2, e3]
theorem mixed_get {ds : List PyData} {α : Type} {ms : List α} {f : α → PyData} (h : ds.map tupD = ms.map f) {i : Nat} {d : PyData} (hd : ds[i]? = some d) : ∃ m, ms[i]? = some m ∧ tupD d = f m := by
  have h2 := congrArg (fun l => l[i]?) h
  have h3 : (ds.map tupD)[i]? = (ms.map f)[i]? := h2
  rw [List.getElem?_map, List.getElem?_map, hd] at h3
  cases q : ms[i]? with
  | none => rw [q] at h3; cases h3
  | some m =>
    rw [q] at h3
    exact ⟨m, rfl, Option.some.inj h3⟩
def sp_steps_of (K : Frag) : Sp := fun vs H Q _ => ∃ (v : V) (d : PyData) (ms : List (Int × Nat × Int)), vs = [v] ∧ DS exR H v d ∧ tupD d = .tuple (ms.map mvD) ∧ Keys ms ∧ ms.length ≤ 1000 ∧ ∀ D H', H D = none → Ext H H' → H' D = some (.dT (tabK ms)) → Q (.ref D) H'
def sp__law_moves (K : Frag) : Sp := fun vs H Q _ => ∃ (v : V) (M : Mac), vs = [v] ∧ DS exR H v (macD M) ∧ Keys M.ms ∧ M.ms.length ≤ 1000 ∧ ∀ D H', H D = none → Ext H H' → H' D = some (.dT (tabK M.ms)) → Q (.ref D) H'
theorem len_steps_of {K : Frag} {vs : List V} {H : Hp} {Q : VK} {E : XK} (h : sp_steps_of K vs H Q E) : vs.length = 1 := by
  obtain ⟨v, d, ms, rfl, _⟩ := h
  rfl
theorem len__law_moves {K : Frag} {vs : List V} {H : Hp} {Q : VK} {E : XK} (h : sp__law_moves K vs H Q E) : vs.length = 1 := by
  obtain ⟨v, M, rfl, _⟩ := h
  rfl
def t_steps_of (K : Frag) : TS := (tRet (tDcT (iSeq K (tVar 0)) (gSeq K 3 (gCons (gName 1) (gCons (gName 2) (gCons (gName 3) gNil)))) tYes (tTup (tCons (tVar 1) (tCons (tVar 2) tNil))) (tVar 3) [1, 2, 3]))
def t__law_moves (K : Frag) : TS := (tSeq (tAsg tDNewT (gName 1)) (tSeq (tFor (iSeq K (tIxU K (tVar 0) (tC (.int 2)))) (gName 2) (tAsg (tIxU K (tVar 2) (tC (.int 2))) (gSub (tVar 1) (tSl (rSlU K) (tVar 2) tNoPart (tPart (tC (.int 2)))) (rSetU K)))) (tRet (tVar 1))))
theorem pure_steps_of {K : Frag} (vs : List V) (H : Hp) (Q : VK) (E : XK) (h : sp_steps_of K vs H Q E) : t_steps_of K { nx := fun _ H' => Q .non H', rt := Q } (start ["moves", "state", "letter", "behind"] vs) H := by
  obtain ⟨v, d, ms, rfl, hd, hm, hk, hl, k⟩ := h
  obtain ⟨hq, him⟩ := mixed_items hm
  obtain ⟨a, xs, rfl, ha, hsq, hsq2⟩ := hd.seqd hq
  have hlen := ha.length
  have hlm : (itemsD d).length = ms.length := by
    have := congrArg List.length him
    rwa [List.length_map, List.length_map] at this
  have at_ : ∀ (i : Nat) x, xs[i]? = some x → ∃ m d1, ms[i]? = some m ∧ DS exR H x d1 ∧ tupD d1 = mvD m := fun i x hx => by
    obtain ⟨d1, g1, g2⟩ := ha.get hx
    obtain ⟨m, g3, g4⟩ := mixed_get him g1
    exact ⟨m, d1, g3, g2, g4⟩
  refine s_ret (ρ := exR) (ev_dcT (n := xs.length) (tab := fun i => tabK (ms.take i)) (ky := fun i => match ms[i]? with | some m => keyM m.1 m.2.1 | none => []) (z := fun i => match ms[i]? with | some m => .int m.2.2 | none => .non) own_ex (ei_seq (ev_var rfl) (fun H1 e1 => hsq K H1 e1) (hsq2.imp (fun f H1 e1 => f K H1 e1) fun f H1 e1 => f K H1 e1)) rfl (fun i hi => ?_) (fun i hi => ?_) ?_) fun v H1 e1 ⟨D, ev, _, hD, hT⟩ => ?_
  · rw [tab_len, List.length_take]
    omega
  · have hi' : i < ms.length := by omega
    have := tab_step hk (List.getElem?_eq_getElem hi')
    simp only [List.getElem?_eq_getElem hi']
    exact this
  · rintro D H1 e1 hD i x H2 H3 hi e2 ⟨e3, hx⟩ cont hc
    subst e3
    obtain ⟨m, d1, g1, g2, g3⟩ := at_ i x hx
    obtain ⟨q1, q2⟩ := mixed_move g3
    have g4 : DS exR H3 x d1 := (e1.trans e2).ds g2
    obtain ⟨b, ys, rfl, hb3, hb4, _⟩ := g4.seqd q1
    rw [q2] at hb3
    obtain ⟨y1, y2, y3, rfl, c1, c2, c3⟩ := hb3.three
    cases c1
    cases c2
    cases c3
    refine g_seq3 (hb4 K H3 .rfl) (hc _ _ rfl .rfl ?_ fun H5 _ => ?_)
    · simp only [g1]
      exact ev_keyT (ev_var rfl) (ev_var rfl)
    · simp only [g1]
      exact ev_var rfl
  · subst ev
    have : ms.take xs.length = ms := List.take_of_length_le (by omega)
    simp only [this] at hT
    exact k D H1 hD e1.ext hT
theorem pure__law_moves {K : Frag} (vs : List V) (H : Hp) (Q : VK) (E : XK) (h : sp__law_moves K vs H Q E) : t__law_moves K { nx := fun _ H' => Q .non H', rt := Q } (start ["machine", "made", "one"] vs) H := by
  obtain ⟨v, M, rfl, hd, hk, hl, k⟩ := h
  obtain ⟨a, xs, rfl, hx, hA, hsq⟩ := (show DS exR H v (.tuple [.int M.n, .tuple (M.es.map PyData.int), .tuple (M.ms.map mvD)]) from hd).tupl
  obtain ⟨x, y, z, rfl, c1, c2, c3⟩ := hx.three
  obtain ⟨b, ys, rfl, hy, hB, hsb⟩ := (show DS exR H z (.tuple (M.ms.map mvD)) from c3).tupl
  have hly : ys.length = M.ms.length := by rw [hy.length, List.length_map]
  refine q_asg (ρ := exR) (R := fun v H' => ∃ D, v = .ref D ∧ H D = none ∧ H' D = some (.dT [])) (fun H1 e1 Q q p hp => q _ _ (r_new _ hp) ⟨p, rfl, e1.back p hp, upd_same⟩) fun v H1 e1 ⟨D, ev, hD0, hD⟩ => ?_
  subst ev
  have own1 : Own (exR.and D) H1 := own_ex.and (ρ := exR) (H := H) e1 (by rw [hD]; exact Option.some_ne_none _)
  refine q_forw (ρ := exR) (ρw := exR.and D) (n := ys.length) (Y := YAt ys) (fun H2 e2 R kk => .inr (.inl (ev_ix (ρ := exR) (K := K) (n := 2) (ev_var (v := .ref a) rfl) (ev_c (v := .int 2)) (fun H3 e3 => .inr (hsq K exR H3 (e1.trans e3))) rfl rfl H2 e2 _ fun v H3 e3 ev => ⟨b, ev, ⟨ys, hsb K exR H3 (e1.trans (e2.trans e3))⟩, kk _ H3 e3 (walk_tup.mono (fun H4 e4 => e4.sqT (hsb K exR H3 (e1.trans (e2.trans e3)))) fun _ _ _ _ _ _ y => y)⟩))) fun H2 e2 => ⟨fun i σ' H' => (exR.and D).r H2 H' ∧ (∃ ov, σ' = [some (.ref a), some (.ref D), ov]) ∧ H' D = some (.dT (tabK (M.ms.take i))), ⟨.rfl, ⟨_, rfl⟩, e2.ext _ _ hD⟩, fun i σ' H' _ p => p.1, ?_, ?_⟩
  · rintro i x σ' H' H'' hi ⟨r, ⟨ov, rfl⟩, hx⟩ ⟨e5, hxi⟩
    subst e5
    have rH : exR.r H H'' := r_and (e1.trans e2) hD0 r
    obtain ⟨d1, g1, g2⟩ := hy.get hxi
    rw [List.getElem?_map] at g1
    obtain ⟨m, gm, rfl⟩ : ∃ m, M.ms[i]? = some m ∧ d1 = mvD m := by
      cases q : M.ms[i]? with
      | none => rw [q] at g1; cases g1
      | some m => rw [q] at g1; exact ⟨m, rfl, (Option.some.inj g1).symm⟩
    have g3 : DS exR H'' x (.tuple [.int m.1, .str ⟨#[m.2.1]⟩, .int m.2.2]) := rH.ds g2
    obtain ⟨c, zs, rfl, hz, hC, hsc⟩ := g3.tupl
    obtain ⟨z1, z2, z3, rfl, f1, f2, f3⟩ := hz.three
    cases f1
    cases f2
    cases f3
    have sC : ∀ H6, exR.r H'' H6 → SqA K H6 c [.int m.1, .str ⟨#[m.2.1]⟩, .int m.2.2] := fun H6 e => .inr (hsc K exR H6 e)
    refine ev_ix (ρ := exR) (K := K) (n := 2) (σ := [some (.ref a), some (.ref D), some (.ref c)]) (ev_var rfl) ev_c sC rfl rfl H'' .rfl _ fun u H6 e6 eu => ?_
    subst eu
    refine ev_var (ρ := exR) (v := .ref D) rfl H6 .rfl _ fun o H7 e7 eo => ?_
    subst eo
    have e67 := e6.trans e7
    refine ev_slD (ρ := exR) (ρf := exR) Le.rfl (ev_var (v := .ref c) rfl) eo_none (eo_some ev_c) (e67.ds g3) H7 .rfl _ fun u H8 e8 hu => ?_
    have hu' : DS exR H8 u (.tuple [.int m.1, .str ⟨#[m.2.1]⟩]) := hu
    obtain ⟨q, qs, rfl, hqs, hQ, _⟩ := hu'.tupl
    obtain ⟨w1, w2, rfl, f1, f2⟩ := hqs.two
    cases f1
    cases f2
    have e68 := e67.trans e8
    have hD8 : H8 D = some (.dT (tabK (M.ms.take i))) := e68.ext _ _ hx
    refine .inr ⟨D, _, rfl, DPut.t (k := keyM m.1 m.2.1) hD8 hQ (Evl.sz_lt (by rw [tab_len, List.length_take]; omega)), (r.trans (and_of e68)).trans (r_chgT hD8 fun z => z), ⟨_, rfl⟩, ?_⟩
    rw [upd_same, tab_step hk gm]
  · rintro σ' H' ⟨r, ⟨ov, rfl⟩, hx⟩
    have rH : exR.r H H' := r_and (e1.trans e2) hD0 r
    have : M.ms.take ys.length = M.ms := List.take_of_length_le (by omega)
    rw [this] at hx
    exact s_retV (ρ := exR) (ev_var rfl) fun H3 e3 => k D H3 hD0 (rH.trans e3).ext (e3.ext _ _ hx)
end Slip
/-! words told -/
namespace Slip
open PySem PySem.Spec PyProof.Rows L2
theorem ints_of {A : Addr → Prop} {H : Hp} : ∀ {xs : List V} {es : List Int}, DqAll A H xs (es.map PyData.int) → xs = es.map V.int
  | [], [], _ => rfl
  | [], _ :: _, h => by cases h
  | _ :: _, [], h => by cases h
  | x :: xs, e :: es, h => by
    cases h with | cons h1 h2 =>
      cases h1
      rw [ints_of h2]
      rfl
theorem mixed_ints : ∀ {ds : List PyData} {es : List Int}, ds.map tupD = es.map PyData.int → ds = es.map PyData.int
  | [], [], _ => rfl
  | [], _ :: _, h => by cases h
  | _ :: _, [], h => by cases h
  | d :: ds, e :: es, h => by
    have h' : tupD d :: ds.map tupD = PyData.int e :: es.map PyData.int := h
    injection h' with h1 h2
    have e1 : d = .int e := by cases d <;> first | exact h1 | cases h1
    rw [e1, mixed_ints h2]
    rfl
/-- a machine in the heap, lists or tuples -/
structure MacAt (K : Frag) (ρ : Rl) (H : Hp) (a : Addr) (M : Mac) : Prop where
  ex : ∃ (ea : Addr) (mv : V) (md : PyData), (∀ H1, ρ.r H H1 → SqA K H1 a [.int M.n, .ref ea, mv]) ∧ (∀ H1, ρ.r H H1 → SqA K H1 ea (M.es.map V.int)) ∧ DS ρ H mv md ∧ tupD md = .tuple (M.ms.map mvD)
theorem MacAt.of {K : Frag} {ρ : Rl} {H : Hp} {v : V} {d : PyData} {M : Mac} (hd : DS ρ H v d) (hm : tupD d = macD M) : ∃ a, v = .ref a ∧ MacAt K ρ H a M := by
  obtain ⟨hq, him⟩ := mixed_items (ds := [.int M.n, .tuple (M.es.map PyData.int), .tuple (M.ms.map mvD)]) hm
  obtain ⟨a, xs, rfl, ha, hsq, _⟩ := hd.seqd hq
  obtain ⟨c, e, m, he⟩ := three (show (itemsD d).length = 3 by have := congrArg List.length him; rwa [List.length_map] at this)
  rw [he] at him ha
  have h3 : [tupD c, tupD e, tupD m] = [.int M.n, .tuple (M.es.map PyData.int), .tuple (M.ms.map mvD)] := him
  injection h3 with h1 h3
  injection h3 with h2 h3
  injection h3 with h3 _
  have e1 : c = .int M.n := by cases c <;> first | exact h1 | cases h1
  subst e1
  obtain ⟨x, y, z, rfl, c1, c2, c3⟩ := ha.three
  cases c1
  obtain ⟨q1, q2⟩ := mixed_items h2
  obtain ⟨ea, ys, rfl, hy, hsy, _⟩ := (show DS ρ H y e from c2).seqd q1
  rw [mixed_ints q2] at hy
  have := ints_of hy
  subst this
  exact ⟨a, rfl, ⟨ea, z, m, fun H1 e => hsq K H1 e, fun H1 e => hsy K H1 e, c3, h3⟩⟩
/-- a number or None -/
def optI : Option Int → V
  | some i => .int i
  | none => .non
theorem ev_inO {ρ : Rl} {K : Frag} {σ : L2.St} {H : Hp} {ta tb : TE} {a : Addr} {M : Mac} {r : Option Int} {w : List Nat} (h1 : EvV ρ ta σ H (optI (run M.ms 0 w))) (h2 : EvV ρ tb σ H (.ref a)) (hs : ∀ H1, ρ.r H H1 → SqA K H1 a (M.es.map V.int)) : EvV ρ (tOp (rInU K) ta tb) σ H (.bl (tellsM M w)) := by
  unfold tellsM
  cases q : run M.ms 0 w with
  | some i =>
    rw [q] at h1
    exact ev_inI h1 h2 hs
  | none =>
    rw [q] at h1
    refine ev_op h1 h2 (.const fun H1 e1 _ q => .inl ⟨a, M.es.map V.int, rfl, hs H1 e1, rfl, by
      rw [List.all_map, List.all_eq_true]
      exact fun _ _ => rfl, ?_⟩)
    have : inV (optI none) (M.es.map V.int) = false := by
      show ((M.es.map V.int).any fun y => eqV y V.non) = _
      rw [List.any_map, Bool.eq_false_iff, Ne, List.any_eq_true]
      rintro ⟨j, hj, e⟩
      cases e
    show _
    rw [if_neg (by decide), this]
    exact q
/-- the walk along a word, as program and law write it -/
theorem told_rest {K : Frag} {Q : VK} {a D : Addr} {w : Str} {M : Mac} {H : Hp} {u1 u2 : Option V} (hM : MacAt K exR H a M) (hD : H D = some (.dT (tabK M.ms))) (k : ∀ H', Ext H H' → Q (.bl (tellsM M w.cps.toList)) H') :
    (tSeq (tAsg (tC (.int 0)) (gName 3)) (tSeq (tFor (iSeq K (tVar 1)) (gName 4) (tSeq (tIfS (tTest (tOp (rNotInU K) (tTup (tCons (tVar 3) (tCons (tVar 4) tNil))) (tVar 2))) (tRet (tC (.bl false))) tNext) (tAsg (tIxU K (tVar 2) (tTup (tCons (tVar 3) (tCons (tVar 4) tNil)))) (gName 3)))) (tRet (tOp (rInU K) (tVar 3) (tIxU K (tVar 0) (tC (.int 1))))))) { nx := fun _ H' => Q .non H', rt := Q } [some (.ref a), some (.str w), some (.ref D), u1, u2] H := by
  obtain ⟨ea, mv, md, sA, sE, _, _⟩ := hM.ex
  have hz : w.cps.size = w.cps.toList.length := by simp
  refine q_asgV (ρ := exR) ev_c fun H1 e1 => ?_
  refine q_for (ρ := exR) (n := w.cps.size) (ei_str (ev_var rfl)) fun H2 e2 => ⟨fun i σ' H' => exR.r H2 H' ∧ ∃ (st : Int) (l : Option V), σ' = [some (.ref a), some (.str w), some (.ref D), some (.int st), l] ∧ run M.ms 0 (w.cps.toList.take i) = some st, ⟨.rfl, 0, _, rfl, rfl⟩, fun i σ' H' _ p => p.1, ?_, ?_⟩
  · rintro i x σ' H' H'' hi ⟨r, st, l, rfl, hrun⟩ ⟨e5, c, hc, rfl⟩
    subst e5
    have r0 : exR.r H H'' := e1.trans (e2.trans r)
    have hD' : ∀ H3, exR.r H'' H3 → H3 D = some (.dT (tabK M.ms)) := fun H3 e => (r0.trans e).ext _ _ hD
    have hc2 : w.cps.toList[i]? = some c := by rw [← hc]; simp
    have htake : w.cps.toList.take (i + 1) = w.cps.toList.take i ++ [c] := by rw [List.take_add_one, hc2]; rfl
    have hval := val_tab M.ms st c
    refine q_when (ρ := exR) (et_test (ev_notInT (k := keyM st c) (ev_keyT (ev_var rfl) (ev_var rfl)) (ev_var rfl) hD')) (fun hb H3 e3 => s_retV (ρ := exR) ev_c fun H4 e4 => ?_) (fun hb H3 e3 => ?_)
    · have hnone : dl M.ms st c = none := by
        rw [hval] at hb
        cases q : dl M.ms st c with
        | none => rfl
        | some t => rw [q] at hb; cases hb
      have hr : run M.ms 0 w.cps.toList = none := by
        rw [← List.take_append_drop (i + 1) w.cps.toList]
        refine run_none _ _ _ _ ?_
        rw [htake, run_snoc, hrun]
        exact hnone
      have e0 : tellsM M w.cps.toList = false := by unfold tellsM; rw [hr]
      rw [e0] at k
      exact k H4 (r0.trans (e3.trans e4)).ext
    · obtain ⟨t, ht⟩ : ∃ t, dl M.ms st c = some t := by
        rw [hval] at hb
        cases q : dl M.ms st c with
        | none => rw [q] at hb; cases hb
        | some t => exact ⟨t, rfl⟩
      refine s_asgV (ρ := exR) (ev_getT (k := keyM st c) (v := .int t) (ev_var rfl) (ev_keyT (ev_var rfl) (ev_var rfl)) (fun H4 e4 => hD' H4 (e3.trans e4)) (by rw [hval, ht]; rfl)) fun H4 e4 => ⟨r.trans (e3.trans e4), t, _, rfl, ?_⟩
      rw [htake, run_snoc, hrun]
      exact ht
  · rintro σ' H' ⟨r, st, l, rfl, hrun⟩
    have r0 : exR.r H H' := e1.trans (e2.trans r)
    rw [hz, List.take_length] at hrun
    have e0 : tellsM M w.cps.toList = decide (st ∈ M.es) := by unfold tellsM; rw [hrun]
    rw [e0] at k
    exact s_retV (ρ := exR) (ev_inI (ev_var rfl) (ev_ix (n := 1) (ev_var rfl) ev_c (fun H3 e3 => sA H3 (r0.trans e3)) rfl rfl) (fun H3 e3 => sE H3 (r0.trans e3))) fun H3 e3 => k H3 (r0.trans e3).ext
def sp_tells (K : Frag) : Sp := fun vs H Q _ => ∃ (v : V) (w : Str) (d : PyData) (M : Mac), vs = [v, .str w] ∧ DS exR H v d ∧ tupD d = macD M ∧ isMachineD d = true ∧ sm d = true ∧ isWordD (.str w) = true ∧ w.length ≤ 1000 ∧ Keys M.ms ∧ M.ms.length ≤ 1000 ∧ ∀ H', Ext H H' → Q (.bl (tellsM M w.cps.toList)) H'
def sp__law_tells (K : Frag) : Sp := fun vs H Q _ => ∃ (v : V) (w : Str) (M : Mac), vs = [v, .str w] ∧ DS exR H v (macD M) ∧ Keys M.ms ∧ M.ms.length ≤ 1000 ∧ ∀ H', Ext H H' → Q (.bl (tellsM M w.cps.toList)) H'
theorem len_tells {K : Frag} {vs : List V} {H : Hp} {Q : VK} {E : XK} (h : sp_tells K vs H Q E) : vs.length = 2 := by
  obtain ⟨v, w, d, M, rfl, _⟩ := h
  rfl
theorem len__law_tells {K : Frag} {vs : List V} {H : Hp} {Q : VK} {E : XK} (h : sp__law_tells K vs H Q E) : vs.length = 2 := by
  obtain ⟨v, w, M, rfl, _⟩ := h
  rfl
def sp_walked (K : Frag) : Sp := fun vs H Q _ => ∃ (D : Addr) (ms : List (Int × Nat × Int)) (st : Int) (w : Str), vs = [.ref D, .int st, .str w] ∧ H D = some (.dT (tabK ms)) ∧ ∀ H', Ext H H' → Q (optI (run ms st w.cps.toList)) H'
theorem len_walked {K : Frag} {vs : List V} {H : Hp} {Q : VK} {E : XK} (h : sp_walked K vs H Q E) : vs.length = 3 := by
  obtain ⟨D, ms, st, w, rfl, _⟩ := h
  rfl
def t_walked (K : Frag) : TS := (tSeq (tFor (iSeq K (tVar 2)) (gName 3) (tSeq (tIfS (tTest (tOp (rNotInU K) (tTup (tCons (tVar 1) (tCons (tVar 3) tNil))) (tVar 0))) (tRet (tC .non)) tNext) (tAsg (tIxU K (tVar 0) (tTup (tCons (tVar 1) (tCons (tVar 3) tNil)))) (gName 1)))) (tRet (tVar 1)))
theorem pure_walked {K : Frag} (vs : List V) (H : Hp) (Q : VK) (E : XK) (h : sp_walked K vs H Q E) : t_walked K { nx := fun _ H' => Q .non H', rt := Q } (start ["steps", "state", "word", "letter"] vs) H := by
  obtain ⟨D, ms, st0, w, rfl, hD, k⟩ := h
  have hz : w.cps.size = w.cps.toList.length := by simp
  refine q_for (ρ := exR) (n := w.cps.size) (ei_str (ev_var rfl)) fun H2 e2 => ⟨fun i σ' H' => exR.r H2 H' ∧ ∃ (st : Int) (l : Option V), σ' = [some (.ref D), some (.int st), some (.str w), l] ∧ run ms st0 (w.cps.toList.take i) = some st, ⟨.rfl, st0, _, rfl, rfl⟩, fun i σ' H' _ p => p.1, ?_, ?_⟩
  · rintro i x σ' H' H'' hi ⟨r, st, l, rfl, hrun⟩ ⟨e5, c, hc, rfl⟩
    subst e5
    have r0 : exR.r H H'' := e2.trans r
    have hD' : ∀ H3, exR.r H'' H3 → H3 D = some (.dT (tabK ms)) := fun H3 e => (r0.trans e).ext _ _ hD
    have hc2 : w.cps.toList[i]? = some c := by rw [← hc]; simp
    have htake : w.cps.toList.take (i + 1) = w.cps.toList.take i ++ [c] := by rw [List.take_add_one, hc2]; rfl
    have hval := val_tab ms st c
    refine q_when (ρ := exR) (et_test (ev_notInT (k := keyM st c) (ev_keyT (ev_var rfl) (ev_var rfl)) (ev_var rfl) hD')) (fun hb H3 e3 => s_retV (ρ := exR) ev_c fun H4 e4 => ?_) (fun hb H3 e3 => ?_)
    · have hnone : dl ms st c = none := by
        rw [hval] at hb
        cases q : dl ms st c with
        | none => rfl
        | some t => rw [q] at hb; cases hb
      have hr : run ms st0 w.cps.toList = none := by
        rw [← List.take_append_drop (i + 1) w.cps.toList]
        refine run_none _ _ _ _ ?_
        rw [htake, run_snoc, hrun]
        exact hnone
      rw [hr] at k
      exact k H4 (r0.trans (e3.trans e4)).ext
    · obtain ⟨t, ht⟩ : ∃ t, dl ms st c = some t := by
        rw [hval] at hb
        cases q : dl ms st c with
        | none => rw [q] at hb; cases hb
        | some t => exact ⟨t, rfl⟩
      refine s_asgV (ρ := exR) (ev_getT (k := keyM st c) (v := .int t) (ev_var rfl) (ev_keyT (ev_var rfl) (ev_var rfl)) (fun H4 e4 => hD' H4 (e3.trans e4)) (by rw [hval, ht]; rfl)) fun H4 e4 => ⟨r.trans (e3.trans e4), t, _, rfl, ?_⟩
      rw [htake, run_snoc, hrun]
      exact ht
  · rintro σ' H' ⟨r, st, l, rfl, hrun⟩
    have r0 : exR.r H H' := e2.trans r
    rw [hz, List.take_length] at hrun
    rw [hrun] at k
    exact s_retV (ρ := exR) (ev_var rfl) fun H3 e3 => k H3 (r0.trans e3).ext
def t_tells (K : Frag) : TS := (tSeq (tDrop (tCall (sp_check_arguments K) [] E0 (tCons (tLst (tCons (tCall (sp_is_machine K) [] E0 (tCons (tVar 0) tNil)) (tCons (tCall (sp_is_word K) [] E0 (tCons (tVar 1) tNil)) tNil))) tNil))) (tRet (tOp (rInU K) (tCall (sp_walked K) [] E0 (tCons (tCall (sp_steps_of K) [] E0 (tCons (tIxU K (tVar 0) (tC (.int 2))) tNil)) (tCons (tC (.int 0)) (tCons (tVar 1) tNil)))) (tIxU K (tVar 0) (tC (.int 1))))))
def t__law_tells (K : Frag) : TS := (tSeq (tAsg (tCall (sp__law_moves K) [] E0 (tCons (tVar 0) tNil)) (gName 2)) (tSeq (tAsg (tC (.int 0)) (gName 3)) (tSeq (tFor (iSeq K (tVar 1)) (gName 4) (tSeq (tIfS (tTest (tOp (rNotInU K) (tTup (tCons (tVar 3) (tCons (tVar 4) tNil))) (tVar 2))) (tRet (tC (.bl false))) tNext) (tAsg (tIxU K (tVar 2) (tTup (tCons (tVar 3) (tCons (tVar 4) tNil)))) (gName 3)))) (tRet (tOp (rInU K) (tVar 3) (tIxU K (tVar 0) (tC (.int 1))))))))
/-- check_arguments([a, b]), both true -/
theorem ev_check2 {ρ : Rl} {K : Frag} {σ : L2.St} {H : Hp} {ta tb : TE} {E : XK} (own : Own ρ H) (h1 : EvV ρ ta σ H (.bl true)) (h2 : EvV ρ tb σ H (.bl true)) : Ev ρ (tCall (sp_check_arguments K) [] E (tCons (tLst (tCons ta (tCons tb tNil))) tNil)) σ H (fun _ _ => True) :=
  ev_callR (ea_one (ev_lstN own (ea_cons h1 (ea_cons h2 ea_nil)) (by show 2 ≤ 100000; decide))) fun vs H1 e1 ⟨u, eu, p, ep, nS, hp⟩ => by
    subst eu ep
    exact fun H2 e2 Q q E => ⟨p, 2, rfl, .of (e2.keep _ _ nS hp), fun H' e => q _ H' (Ext.r e) trivial⟩
theorem ev_walked {K : Frag} {σ : L2.St} {H : Hp} {ta tb tc : TE} {E : XK} {ms : List (Int × Nat × Int)} {st : Int} {w : Str} (h1 : Ev exR ta σ H (fun v H' => ∃ D, v = .ref D ∧ H' D = some (.dT (tabK ms)))) (h2 : EvV exR tb σ H (.int st)) (h3 : EvV exR tc σ H (.str w)) : EvV exR (tCall (sp_walked K) [] E (tCons ta (tCons tb (tCons tc tNil)))) σ H (optI (run ms st w.cps.toList)) :=
  ev_callR (Rr := fun vs H' => ∃ D, vs = [.ref D, .int st, .str w] ∧ H' D = some (.dT (tabK ms))) ((ea_consR (Rr := fun x ws H' => ws = [.int st, .str w] ∧ ∃ D, x = .ref D ∧ H' D = some (.dT (tabK ms))) h1 fun x H1 e1 ⟨D, ex, hD⟩ => (ea_cons (fun H2 e2 => h2 H2 (e1.trans e2)) (ea_cons (fun H2 e2 => h3 H2 (e1.trans e2)) ea_nil)).imp fun ws H3 e3 ew => ⟨ew, D, ex, e3.ext _ _ hD⟩).imp fun vs H3 e3 ⟨x, ws, ev, ew, D, ex, hD⟩ => ⟨D, by rw [ev, ew, ex], hD⟩) fun vs H1 e1 ⟨D, ev, hD⟩ => by
    subst ev
    exact fun H2 e2 Q q E => ⟨D, ms, st, w, rfl, e2.ext _ _ hD, fun H' e => q _ H' (Ext.r e) rfl⟩
theorem pure_tells {K : Frag} (vs : List V) (H : Hp) (Q : VK) (E : XK) (h : sp_tells K vs H Q E) : t_tells K { nx := fun _ H' => Q .non H', rt := Q } (start ["machine", "word"] vs) H := by
  obtain ⟨v, w, d, M, rfl, hd, hm, him, hs, hw, hl, hk, hml, k⟩ := h
  obtain ⟨a, rfl, hM⟩ := MacAt.of (K := K) hd hm
  refine q_drop (ρ := exR) (ev_check2 own_ex ((ev_B1 (F := isMachineD) (ev_var rfl) hd hs).val (by rw [him])) ((ev_B1 (F := isWordD) (ev_var rfl) (.str w) (decide_eq_true hl)).val (by rw [hw]))) fun _ H1 e1 _ => ?_
  obtain ⟨ea, mv, md, sA, sE, hmv, hmd⟩ := hM.ex
  refine s_retV (ρ := exR) (v := .bl (tellsM M w.cps.toList)) (ev_inO (r := run M.ms 0 w.cps.toList) (ev_walked (ev_call (ea_cons (ev_ix (n := 2) (ev_var rfl) ev_c (fun H2 e2 => sA H2 (e1.trans e2)) rfl rfl) ea_nil) fun H2 e2 Q' q' E' => ⟨mv, md, M.ms, rfl, ((e1.trans e2).ds hmv).ex, hmd, hk, hml, fun D H' _ e hD => q' _ H' (Ext.r e) ⟨D, rfl, hD⟩⟩) ev_c (ev_var rfl)) (ev_ix (n := 1) (ev_var rfl) ev_c (fun H3 e3 => sA H3 (e1.trans e3)) rfl rfl) (fun H3 e3 => sE H3 (e1.trans e3))) fun H3 e3 => k H3 (e1.trans e3).ext
theorem pure__law_tells {K : Frag} (vs : List V) (H : Hp) (Q : VK) (E : XK) (h : sp__law_tells K vs H Q E) : t__law_tells K { nx := fun _ H' => Q .non H', rt := Q } (start ["machine", "word", "moves", "state", "letter"] vs) H := by
  obtain ⟨v, w, M, rfl, hd, hk, hml, k⟩ := h
  have hself : tupD (macD M) = macD M := by
    refine tup_self _ ?_
    show (true && (noLists (M.es.map PyData.int) && (noLists (M.ms.map mvD) && true))) = true
    rw [noLists_map fun _ _ => rfl, noLists_map fun _ _ => rfl]
    rfl
  obtain ⟨a, rfl, hM⟩ := MacAt.of (K := K) hd hself
  obtain ⟨ea, mv, md, sA, sE, hmv, hmd⟩ := hM.ex
  refine q_asg (ρ := exR) (R := fun v H' => ∃ D, v = .ref D ∧ H' D = some (.dT (tabK M.ms))) (ev_call (ea_cons (ev_var rfl) ea_nil) fun H2 e2 Q' q' E' => ⟨.ref a, M, rfl, (e2.ds hd).ex, hk, hml, fun D H' _ e hD => q' _ H' (Ext.r e) ⟨D, rfl, hD⟩⟩) fun v H2 e2 ⟨D, ev, hD⟩ => ?_
  subst ev
  exact told_rest (M := M) ⟨ea, mv, md, fun H3 e3 => sA H3 (e2.trans e3), fun H3 e3 => sE H3 (e2.trans e3), e2.ds hmv, hmd⟩ hD fun H' e => k H' (e2.trans (Ext.r e)).ext
end Slip
/-! rules: a built-in that the module has by name; a dict display of one tuple; x in a tuple of data -/
namespace Slip
open PySem PySem.Spec PyProof.Rows L2
section
variable {X : Cx} {x : Str} {p pos : Pos} {e : Expr} {es : List Expr} {t : TA} {id : String} {r : List V → Hp → VK → Prop}
theorem pe_callG (hc : CallR X (.builtin id) r) (hg : Gl X x) (hm : X.mg x = some (.builtin id)) (ha : PA X (e :: es) t) (hdb : (x == ("__debug__" : Str)) = false := by decide)
    (he : starEach (e :: es) X.env = (false, eval e X.env) :: starEach es X.env := by rfl) (hpl : (backTo pos (starEach es X.env)).any (·.1) = false := by rfl) : PE X (.Call (.Name x p) (e :: es) [] pos) (tCB r t) := by
  refine ⟨fun pins s σ H Q I h => ?_⟩
  refine wpAny_Call_Name_kw (ld_glob I hg hm ?_ hdb)
  exact PyProof.Rows.callWith_builtin1 (thn (ha.run pos pins s σ H _ I h) fun us s1 ⟨vs, H1, I1, r1, q1⟩ => hc pins s1 σ H1 vs us Q I1 r1 q1) he hpl
/-- {(a, b): v} -/
def tDispT (tk tv : TE) : TE := fun σ H Q => ∀ D, H D = none → tk σ (upd H D (.dT [])) fun x H1 => tv σ H1 fun y H2 => ∃ (b : Addr) (k : List Key), x = .ref b ∧ H2 b = some (.tup (k.map kV)) ∧ H2 D = some (.dT []) ∧ Q (.ref D) (upd H2 D (.dT [(k, y)]))
theorem pe_dispT {k v : Expr} {tk tv : TE} (hu : X.A.units + 1 < cLine) (hk : PE X k tk) (hv : PE X v tv) : PE X (.Dict [some k] [v] pos) (tDispT tk tv) := by
  refine ⟨fun pins s σ H Q I q => ?_⟩
  have hn := I.hok.fresh (Nat.le_refl s.heap.objs.size)
  have I1 := I.laid (a := s.heap.objs.size) (o := .dT []) (h' := s.heap.push { cls := .type "dict", data := .dict #[] }) (t' := s.toks) (fun _ _ q => Heap.get?_push_of_some _ q) (Nat.le_refl _) (dt_empty s.heap I.big)
  rw [arm_eval_Dict, zip_pairTrees [some k] [v] X.env pos rfl rfl, dictDisplay_pairs _ (by simp [pairTrees]) (by simp [pairTrees])]
  refine wpAny_bind (wpAny_standAt (wpAny_bind ?_))
  unfold subDict
  refine wpAny_bind (wpAny_alloc (wpAny_bind (wpAny_holding ?_)))
  rw [if_pos (by simp [pairTrees])]
  refine wpAny_bind (pairTrees_cons_walk (thn (hk.run pins _ σ _ _ I1 (q _ hn)) fun u s1 ⟨x, H1, I1', rx, q1⟩ => thn (hv.run pins s1 σ H1 _ I1' q1) fun w2 s2 ⟨y, H2, I2, ry, q2⟩ => pairTrees_nil_walk ?_))
  obtain ⟨b, kk, ex, hb, hD, q3⟩ := q2
  subst ex
  obtain rfl : u = Value.ref b := rx
  refine wpAny_holding (wpAny_bind ?_)
  rw [List.forIn_cons]
  refine wpAny_bind (wpAny_bind (put_tup hu I2 hD hb (by rw [List.length_nil]; decide) ry fun s3 I3 => wpAny_pure ?_))
  show wpAny _ _ (forIn [] _ _) _ _ _
  rw [List.forIn_nil]
  exact wpAny_pure (wpAny_pure (wpAny_pure (wpAny_pure ⟨.ref s.heap.objs.size, _, I3, rfl, q3⟩)))
/-! ### x in a tuple of data -/
def rInTu (K : Frag) : R2 := fun x y H Q => ∃ d ds, Dp K H x d ∧ Dp K H y (.tuple ds) ∧ SeqAt.shaped d = true ∧ d.depth ≤ 60 ∧ SeqAt.shaped (.tuple ds) = true ∧ Q (.bl (ds.any fun z => PyData.eqv z d)) H
def rNotInTu (K : Frag) : R2 := fun x y H Q => ∃ d ds, Dp K H x d ∧ Dp K H y (.tuple ds) ∧ SeqAt.shaped d = true ∧ d.depth ≤ 60 ∧ SeqAt.shaped (.tuple ds) = true ∧ Q (.bl (!ds.any fun z => PyData.eqv z d)) H
theorem op_notInTu (hu : X.A.units + 64 < cLine) : OpR X (compareOp .NotIn) (rNotInTu X.K) := by
  intro pins s σ H x y v u Q I rx ry h
  obtain ⟨d, ds, hd, he, sd, dp, se, q⟩ := h
  obtain ⟨as, r1⟩ := Dp.reads I d x v hd rx
  obtain ⟨bs, r2⟩ := Dp.reads I (.tuple ds) y u he ry
  exact SeqAt.notIn_tuple_reads r2 r1 (SeqAt.canLay_of_shaped se) (SeqAt.canLay_of_shaped sd) (by
    have := Nat.min_le_right (PyData.depthAll ds) d.depth
    omega) ⟨.bl _, H, I, rfl, q⟩
end
end Slip
/-! the head's facts with built-ins that the module has by name -/
namespace Slip
open PySem PySem.Spec PyProof.Rows L2
/-- a name and the built-in that it stands for -/
abbrev Bi : Type := Str × String
def biOk (K : Frag) (q : Bi) : Bool := He.eqO (PySem.W.nsIn K mainGlobals q.1) (some (some (.builtin q.2)))
def obsB (fa : List He.Fa) (fn : List He.DefD) (bs : List Bi) (K : Frag) : He.AlD := ((He.obsD fa fn K).1 && bs.all (biOk K), (He.obsD fa fn K).2)
def obsBG (n : Nat) (fa : List He.Fa) (fn : List He.DefD) (bs : List Bi) (g : Addr → Option Obj) : He.AlD := obsB fa fn bs (He.frG g (He.asD g n))
def SaysB (fa : List He.Fa) (fn : List He.DefD) (bs : List Bi) (K : Frag) : Prop := obsB fa fn bs K = He.valD fn
def hookB (n : Nat) (fa : List He.Fa) (fn : List He.DefD) (bs : List Bi) : PySem.W.Hook where
  α := He.AlD
  obs := fun s => obsBG n fa fn bs s.heap.get?
  val := fun _ => He.valD fn
  says := fun _ h => ∃ K : Frag, K.In h ∧ SaysB fa fn bs K
  of := fun _ _ e => ⟨_, He.frG_in, e⟩
  keeps := fun _ _ _ ⟨K, hK, c⟩ k => ⟨K, PySem.W.Frag.In.keeps hK k, c⟩
theorem obsBG_eq {n : Nat} {fa : List He.Fa} {fn : List He.DefD} {bs : List Bi} {g : Addr → Option Obj} {s : Shared} (h : ∀ a, g a = s.heap.get? a) : obsBG n fa fn bs g = (hookB n fa fn bs).obs s := by
  have e : g = s.heap.get? := funext h
  rw [e] <;> rfl
section
variable {fa : List He.Fa} {fn : List He.DefD} {bs : List Bi} {K : Frag}
theorem SaysB.d (c : SaysB fa fn bs K) : He.SaysD fa fn K := by
  have c1 : ((He.obsD fa fn K).1 && bs.all (biOk K)) = true := congrArg (fun z : He.AlD => z.1) c
  have h : obsB fa fn bs K = He.valD fn := c
  have c2 := congrArg Prod.snd h
  exact Prod.ext (He.ba c1).1 c2
theorem SaysB.bi (c : SaysB fa fn bs K) (i : Nat) {q : Bi} {h : Heap} {mg : Str → Option Value} (X : K.In h) (G : h.Ns mainGlobals mg) (e : bs[i]? = some q := by rfl) : mg q.1 = some (.builtin q.2) := by
  have c1 : ((He.obsD fa fn K).1 && bs.all (biOk K)) = true := congrArg (fun z : He.AlD => z.1) c
  exact PySem.W.mg_of X G (He.eqO_ok (List.all_eq_true.mp (He.ba c1).2 q (List.mem_of_getElem? e)))
end
end Slip
/-! the pieces along a word -/
namespace Slip
open PySem PySem.Spec PyProof.Rows L2
abbrev tabD (T : List Pc) : PyData := .tuple (T.map pcD)
theorem s_len (l : List Nat) : (S l).length = l.length := by
  show l.toArray.size = l.length
  simp
theorem s_list (l : List Nat) : (S l).cps.toList = l := by simp
theorem s_of (s : Str) : S s.cps.toList = s := by
  show (⟨s.cps.toList.toArray⟩ : Str) = s
  rw [Array.toArray_toList]
theorem cut_s (W : List Nat) (i n : Nat) : cutS (S W) (some (i : Int)) (some ((i : Int) + (n : Int))) = S ((W.drop i).take n) := by
  unfold cutS
  rw [s_len, s_list, HT.sIx_nat, show (i : Int) + (n : Int) = ((i + n : Nat) : Int) by omega, HT.sIx_nat]
  have : (W.drop (min i W.length)).take (min (i + n) W.length - min i W.length) = (W.drop i).take n := by
    by_cases h : i ≤ W.length
    · rw [Nat.min_eq_left h]
      by_cases h2 : i + n ≤ W.length
      · rw [Nat.min_eq_left h2, Nat.add_sub_cancel_left]
      · rw [Nat.min_eq_right (by omega), List.take_of_length_le (by rw [List.length_drop]; omega), List.take_of_length_le (by rw [List.length_drop]; omega)]
    · rw [List.drop_of_length_le (show W.length ≤ i by omega), Nat.min_eq_right (a := i) (by omega), List.drop_of_length_le (Nat.le_refl _)]
      simp
  rw [this]
theorem s_eq (a b : List Nat) : decide (S a = S b) = decide (a = b) := by
  by_cases h : a = b
  · rw [h, decide_eq_true rfl, decide_eq_true rfl]
  · rw [decide_eq_false h, decide_eq_false fun e => h (s_inj e)]
section
variable {ρ : Rl} {K : Frag} {σ : L2.St} {H : Hp} {ta tb te : TE} {tt : TT} {wi : TI} {g : TG} {vs : List Nat} {n : Nat} {Y : Nat → Hp → V → Hp → Prop}
/-- z[i:i+n] -/
theorem ev_slS {tl th : TO} {W : List Nat} {i m : Nat} (h : EvV ρ te σ H (.str (S W))) (hz : W.length ≤ 100000) (h1 : EvO ρ tl σ H (some (i : Int))) (h2 : EvO ρ th σ H (some ((i : Int) + (m : Int)))) : EvV ρ (tSl (rSlU K) te tl th) σ H (.str (S ((W.drop i).take m))) := fun H0 e Q q =>
  h H0 e _ fun v H1 e1 hv => h1 H1 (e.trans e1) _ fun H2 e2 => h2 H2 ((e.trans e1).trans e2) _ fun H3 e3 => by
    subst hv
    exact .inr (.inr ⟨_, rfl, Evl.sz_of (by rw [s_len]; exact hz), by
      rw [cut_s]
      exact q _ H3 ((e1.trans e2).trans e3) rfl⟩)
theorem kept_map {α : Type} {xs : List α} {f : Nat → Bool} {g : α → Bool} {dd : Nat → PyData} {F : α → PyData} (h : ∀ (i : Nat) x, xs[i]? = some x → f i = g x ∧ dd i = F x) : ∀ m, m ≤ xs.length → (keptN f m).map dd = ((xs.take m).filter g).map F
  | 0, _ => rfl
  | m + 1, hm => by
    have ih := kept_map h m (by omega)
    have hx : xs[m]? = some xs[m] := List.getElem?_eq_getElem (by omega)
    obtain ⟨h1, h2⟩ := h m _ hx
    rw [List.take_add_one, hx, List.filter_append, List.map_append]
    cases q : g xs[m] with
    | true =>
      rw [kept_yes (by rw [h1, q]), List.map_append, ih]
      simp [h2, q]
    | false =>
      rw [kept_no (by rw [h1, q]), ih]
      simp [q]
/-- a comprehension with a test that is known, elements that are data -/
theorem ev_lcK {f : Nat → Bool} {dd : Nat → PyData} (own : Own ρ H) (hn : n ≤ 90000) (hI : EvI ρ wi σ H n Y)
    (hs : ∀ D H1, ρ.r H H1 → H1 D = none → ∀ i x H2 H3, i < n → ρ.r H1 H2 → Own (ρ.and D) H2 → Y i H2 x H3 → ∀ cont : L2.St → Hp → Prop,
      (∀ σ2 H4, wipe σ2 vs = wipe σ vs → ρ.r H2 H4 → EvT ρ tt σ2 H4 (f i) → (∀ H5, ρ.r H4 H5 → Ev ρ te σ2 H5 (fun x H6 => DS (ρ.and D) H6 x (dd i))) → cont σ2 H4) → g x (wipe σ vs) H3 cont) :
    Ev ρ (tLc wi g tt te vs) σ H (fun v H2 => ∃ p xs, v = .ref p ∧ ¬ ρ.S p ∧ H p = none ∧ H2 p = some (.lst xs) ∧ DSs ρ H2 xs ((keptN f n).map dd)) := by
  refine (ev_lc (R := fun ρ' i x H' => DS ρ' H' x (dd i)) (C := fun i b => b = f i) own hn hI (fun _ _ _ _ _ r h => r.ds h) (fun _ _ _ _ h => h.less) ?_).imp ?_
  · intro D H1 r1 hD i x H2 H3 hi r2 oD y cont hc
    refine hs D H1 r1 hD i x H2 H3 hi r2 oD y cont fun σ2 H4 hw r3 ht he => hc σ2 H4 hw r3 fun H5 r5 Q q => ?_
    exact ht H5 r5 _ fun H6 r6 => q _ H6 r6 rfl fun hb => he H6 (r5.trans r6)
  · rintro u H2 r ⟨p, xs, f', e, nS, hp, hx, hC, hit⟩
    rw [kept_congr (g := f) fun i hi => hC i hi] at hit
    refine ⟨p, xs, e, nS, hp, hx, .of (by rw [hit.1, List.length_map]) fun m x d a b => ?_⟩
    rw [List.getElem?_map] at b
    cases q : (keptN f n)[m]? with
    | none => rw [q] at b; cases b
    | some i =>
      rw [q] at b
      have := hit.2 m x i a q
      cases b
      exact this
end
theorem mixed_pc {d : PyData} {p : Pc} (h : tupD d = pcD p) : isSeqD d = true ∧ itemsD d = [.str (S p.1), .str (S p.2.1), .int p.2.2] := by
  obtain ⟨h1, h2⟩ := mixed_items (ds := [.str (S p.1), .str (S p.2.1), .int p.2.2]) h
  refine ⟨h1, ?_⟩
  obtain ⟨a, b, c, e⟩ := three (show (itemsD d).length = 3 by have := congrArg List.length h2; rwa [List.length_map] at this)
  rw [e] at h2 ⊢
  have h3 : [tupD a, tupD b, tupD c] = [.str (S p.1), .str (S p.2.1), .int p.2.2] := h2
  injection h3 with ha h3
  injection h3 with hb h3
  injection h3 with hc h3
  have e1 : a = .str (S p.1) := by cases a <;> first | exact ha | cases ha
  have e2 : b = .str (S p.2.1) := by cases b <;> first | exact hb | cases hb
  have e3 : c = .int p.2.2 := by cases c <;> first | exact hc | cases hc
  rw [e1, e2, e3]
/-- lists that are new -/
abbrev New (H : Hp) : Addr → Prop := fun a => H a = none
def pcsD (T : List Pc) (W : List Nat) (i : Nat) : PyData := .list ((pcsAt T W i).map pcD)
def sp_pieces_at (K : Frag) : Sp := fun vs H Q _ => ∃ (v : V) (d : PyData) (T : List Pc) (W : List Nat) (i : Nat), vs = [v, .str (S W), .int i] ∧ DS exR H v d ∧ tupD d = tabD T ∧ T.length ≤ 1000 ∧ (∀ p ∈ T, p.1.length ≤ 1000) ∧ W.length ≤ 1000 ∧
  ∀ v' H', Ext H H' → Dq (New H) H' v' (pcsD T W i) → Q v' H'
def sp_pieces_along (K : Frag) : Sp := fun vs H Q _ => ∃ (v : V) (d : PyData) (T : List Pc) (W : List Nat), vs = [v, .str (S W)] ∧ DS exR H v d ∧ tupD d = tabD T ∧ T.length ≤ 1000 ∧ (∀ p ∈ T, p.1.length ≤ 1000) ∧ W.length ≤ 1000 ∧
  ∀ v' H', Ext H H' → Dq (New H) H' v' (.list ((List.range (W.length + 1)).map (pcsD T W))) → Q v' H'
theorem len_pieces_at {K : Frag} {vs : List V} {H : Hp} {Q : VK} {E : XK} (h : sp_pieces_at K vs H Q E) : vs.length = 3 := by
  obtain ⟨v, d, T, W, i, rfl, _⟩ := h
  rfl
theorem len_pieces_along {K : Frag} {vs : List V} {H : Hp} {Q : VK} {E : XK} (h : sp_pieces_along K vs H Q E) : vs.length = 2 := by
  obtain ⟨v, d, T, W, rfl, _⟩ := h
  rfl
def t_pieces_at (K : Frag) : TS := (tSeq (tAsg (tLc (iSeq K (tSl (rSlU K) (tVar 1) (tPart (tVar 2)) (tPart (tOp (rAddU K) (tVar 2) (tC (.int 1)))))) (gName 5) tYes (tTup (tCons (tVar 5) (tCons (tVar 5) (tCons (tC (.int 0)) tNil)))) [5]) (gName 3)) (tSeq (tAsg (tLc (iSeq K (tVar 0)) (gSeq K 3 (gCons (gName 6) (gCons (gName 7) (gCons (gName 8) gNil)))) (tTest (tOp (rEqU K) (tSl (rSlU K) (tVar 1) (tPart (tVar 2)) (tPart (tOp (rAddU K) (tVar 2) (tCB (rLenU K) (tCons (tVar 6) tNil))))) (tVar 6))) (tTup (tCons (tVar 6) (tCons (tVar 7) (tCons (tVar 8) tNil)))) [6, 7, 8]) (gName 4)) (tRet (tOp (rAddU K) (tVar 3) (tVar 4)))))
def t_pieces_along (K : Frag) : TS := (tRet (tLc (iRng1 (tCons (tOp (rAddU K) (tCB (rLenU K) (tCons (tVar 1) tNil)) (tC (.int 1))) tNil)) (gName 2) tYes (tCall (sp_pieces_at K) [] E0 (tCons (tVar 0) (tCons (tVar 1) (tCons (tVar 2) tNil)))) [2]))
theorem nl_pc (p : Pc) : noList (pcD p) = true := rfl
theorem pure_pieces_at {K : Frag} (vs : List V) (H : Hp) (Q : VK) (E : XK) (h : sp_pieces_at K vs H Q E) : t_pieces_at K { nx := fun _ H' => Q .non H', rt := Q } (start ["table", "word", "at", "kept", "faults", "letter", "meant", "written", "cost"] vs) H := by
  obtain ⟨v, d, T, W, i, rfl, hd, hT, hTl, hTm, hW, k⟩ := h
  obtain ⟨hsq, hits⟩ := mixed_items (ds := T.map pcD) hT
  obtain ⟨a, xs, rfl, hxs, hA, hor⟩ := hd.seqd hsq
  refine q_asg (ρ := exR) (R := fun v H' => ∃ p ys, v = .ref p ∧ H' p = some (.lst ys) ∧ DSs exR H' ys ((keptAt W i).map pcD)) ?_ fun v1 H1 e1 ⟨p1, ys, ev1, h1, hys⟩ => ?_
  · have hsl : EvV exR (tSl (rSlU K) (tVar 1) (tPart (tVar 2)) (tPart (tOp (rAddU K) (tVar 2) (tC (.int 1))))) (start ["table", "word", "at", "kept", "faults", "letter", "meant", "written", "cost"] [.ref a, .str (S W), .int i]) H (.str (S ((W.drop i).take 1))) :=
      ev_slS (m := 1) (ev_var rfl) (by omega) (eo_some (ev_var rfl)) (eo_some (ev_add (ev_var rfl) ev_c))
    refine (ev_lcD (j := 5) (dd := fun m => match ((W.drop i).take 1)[m]? with | some c => pcD ([c], [c], 0) | none => .none) own_ex ?_ (ei_str hsl) (fun _ => rfl) (fun _ _ _ _ y => y.1) fun D H1 r1 hD m x H2 H3 hm r2 oD y => ?_).imp fun u H2 r ⟨p, zs, eu, _, _, hz, hd2⟩ => ⟨p, zs, eu, hz, ?_⟩
    · have : (S ((W.drop i).take 1)).cps.size = ((W.drop i).take 1).length := s_len _
      rw [this, List.length_take]
      omega
    · obtain ⟨e5, c, hc, rfl⟩ := y
      have hc2 : ((W.drop i).take 1)[m]? = some c := by rw [← hc]; simp
      have hdd : (match ((W.drop i).take 1)[m]? with | some c => pcD ([c], [c], 0) | none => PyData.none) = .tuple [.str (S [c]), .str (S [c]), .int 0] := by rw [hc2]; rfl
      refine Ev.imp ?_ (R := fun v H' => DS (exR.and D) H' v (.tuple [.str (S [c]), .str (S [c]), .int 0])) fun u H4 e4 hu => ?_
      · refine ev_tupDs Le.and (ea_consD Le.and ((ev_var (v := .str (S [c])) rfl).imp fun _ _ _ e => ?_) fun H5 e5 => ea_consD Le.and ((ev_var (v := .str (S [c])) rfl).imp fun _ _ _ e => ?_) fun H6 e6 => ea_consD Le.and ((ev_c (v := .int 0)).imp fun _ _ _ e => ?_) fun H7 e7 => ea_nilD) (by show 3 ≤ 100000; decide)
        · rw [e]; exact .str _
        · rw [e]; exact .str _
        · rw [e]; exact .int _
      · rw [hdd]
        exact hu
    · have e : (List.range (S ((W.drop i).take 1)).cps.size).map (fun m => match ((W.drop i).take 1)[m]? with | some c => pcD ([c], [c], 0) | none => PyData.none) = (keptAt W i).map pcD := by
        have : (S ((W.drop i).take 1)).cps.size = ((W.drop i).take 1).length := s_len _
        rw [this]
        apply List.ext_getElem?
        intro m
        unfold keptAt
        rw [List.getElem?_map, List.map_map, List.getElem?_map]
        by_cases hm : m < ((W.drop i).take 1).length
        · rw [List.getElem?_range hm, List.getElem?_eq_getElem hm]
          simp [List.getElem?_eq_getElem hm]
        · rw [List.getElem?_eq_none (by rw [List.length_range]; omega), List.getElem?_eq_none (by omega)]
          rfl
      rw [← e]
      exact hd2
  · subst ev1
    refine q_asg (ρ := exR) (R := fun v H' => ∃ p zs, v = .ref p ∧ H' p = some (.lst zs) ∧ DSs exR H' zs ((T.filter fun p => at_ W i p.1).map pcD)) ?_ fun v2 H2 e2 ⟨p2, zs, ev2, h2, hzs⟩ => ?_
    · refine (ev_lcK (f := fun m => match T[m]? with | some p => at_ W i p.1 | none => false) (dd := fun m => match T[m]? with | some p => pcD p | none => .none) own_ex ?_ (ei_seq (xs := xs) (ev_var rfl) (fun H2 e2 => hA K H2 (e1.trans e2)) (hor.imp (fun z H2 e2 => z K H2 (e1.trans e2)) fun z H2 e2 => z K H2 (e1.trans e2))) fun D H2 r1 hD m x H3 H4 hm r2 oD y cont hc => ?_).imp fun u H2 r ⟨p, zs, eu, _, _, hz, hd2⟩ => ⟨p, zs, eu, hz, ?_⟩
      · have := hxs.length
        have h2 := congrArg List.length hits
        rw [List.length_map, List.length_map] at h2
        omega
      · obtain ⟨e5, hx⟩ := y
        subst e5
        obtain ⟨dx, hdx, hx2⟩ := DqAll.get hxs hx
        obtain ⟨p, hp, htp⟩ := mixed_get hits hdx
        obtain ⟨q1, q2⟩ := mixed_pc htp
        have hx3 := (e1.trans (r1.trans r2)).ds hx2
        obtain ⟨c, us, rfl, hus, hU, _⟩ := hx3.seqd q1
        rw [q2] at hus
        cases hus with
        | cons u1 hus => cases hus with
          | cons u2 hus => cases hus with
            | cons u3 hus =>
              cases hus
              cases u1
              cases u2
              cases u3
              refine g_seq3 (hU K _ .rfl) (hc _ _ rfl .rfl ?_ fun H5 r5 => ?_)
              · rw [hp]
                refine (et_test (ev_eqS (ev_slS (m := p.1.length) (ev_var rfl) (by omega) (eo_some (ev_var rfl)) (eo_some (ev_add (ev_var rfl) ((ev_lenS (s := S p.1) (ev_var rfl) (by rw [s_len]; have := hTm p (List.mem_of_getElem? hp); omega)).val (by rw [s_len]))))) (ev_var (v := .str (S p.1)) rfl))).to (by rw [s_eq]; rfl)
              · rw [hp]
                refine ev_tupDs (ds := [.str (S p.1), .str (S p.2.1), .int p.2.2]) Le.and (ea_consD Le.and ((ev_var (v := .str (S p.1)) rfl).imp fun _ _ _ e => ?_) fun H5 e5 => ea_consD Le.and ((ev_var (v := .str (S p.2.1)) rfl).imp fun _ _ _ e => ?_) fun H6 e6 => ea_consD Le.and ((ev_var (v := .int p.2.2) rfl).imp fun _ _ _ e => ?_) fun H7 e7 => ea_nilD) (by show 3 ≤ 100000; decide)
                · rw [e]; exact .str _
                · rw [e]; exact .str _
                · rw [e]; exact .int _
      · have hlen : xs.length = T.length := by
          have := hxs.length
          have h2 := congrArg List.length hits
          rw [List.length_map, List.length_map] at h2
          omega
        have := kept_map (xs := T) (f := fun m => match T[m]? with | some p => at_ W i p.1 | none => false) (g := fun p => at_ W i p.1) (dd := fun m => match T[m]? with | some p => pcD p | none => .none) (F := pcD) (fun i' x hx => by rw [hx]; exact ⟨rfl, rfl⟩) T.length (Nat.le_refl _)
        rw [List.take_length] at this
        rw [← this, ← hlen]
        exact hd2
    · subst ev2
      refine s_ret (ρ := exR) (R := fun v H' => ∃ p, v = .ref p ∧ H2 p = none ∧ H' p = some (.lst (ys ++ zs)) ∧ exR.r H2 H') ?_ fun v3 H3 e3 ⟨p, ev3, hp, h3, r3⟩ => ?_
      · refine ev_op (x := .ref p1) (y := .ref p2) (ev_var rfl) (ev_var rfl) fun H3 e3 Q' q' => .inr (.inr (.inr ⟨p1, p2, ys, zs, rfl, rfl, (e2.trans e3).ext _ _ h1, e3.ext _ _ h2, ?_, fun p hp => q' _ _ (r_new _ hp) ⟨p, rfl, e3.back p hp, upd_same, e3.trans (r_new _ hp)⟩⟩))
        have l1 := hys.length
        have l2 := hzs.length
        rw [List.length_map] at l1 l2
        have l3 : (keptAt W i).length ≤ 1 := by
          unfold keptAt
          rw [List.length_map, List.length_take]
          omega
        have l4 := List.length_filter_le (fun p : Pc => at_ W i p.1) T
        exact Evl.sz_of (by omega)
      · subst ev3
        refine k _ H3 (e1.trans (e2.trans e3)).ext (.lst ?_ h3 ?_)
        · exact (e1.trans e2).back p hp
        · have a1 := (e2.trans e3).dss hys
          have a2 := e3.dss hzs
          have := a1.append a2
          rw [← List.map_append] at this
          exact DqAll.tups (fun _ _ z => z) _ _ (noLists_map fun _ _ => nl_pc _) this
theorem pure_pieces_along {K : Frag} (vs : List V) (H : Hp) (Q : VK) (E : XK) (h : sp_pieces_along K vs H Q E) : t_pieces_along K { nx := fun _ H' => Q .non H', rt := Q } (start ["table", "word", "at"] vs) H := by
  obtain ⟨v, d, T, W, rfl, hd, hT, hTl, hTm, hW, k⟩ := h
  refine s_ret (ρ := exR) (ev_lc (n := W.length + 1) (Y := YFn fun m => .int ((m : Nat) : Int)) (R := fun ρ' i x H' => Dq (fun a => H a = none ∧ ¬ ρ'.S a) H' x (pcsD T W i)) (C := fun _ b => b = true) own_ex (by omega) ?_ ?_ ?_ ?_) fun v1 H1 e1 ⟨p, xs, f, ev, _, hp, hx, hC, hit⟩ => ?_
  · have := ei_rng (ρ := exR) (i := ((W.length + 1 : Nat) : Int)) (ts := tCons (tOp (rAddU K) (tCB (rLenU K) (tCons (tVar 1) tNil)) (tC (.int 1))) tNil) (σ := start ["table", "word", "at"] [v, .str (S W)]) (H := H) (ea_cons ((ev_add ((ev_lenS (s := S W) (ev_var rfl) (by rw [s_len]; omega)).val (by rw [s_len])) ev_c).val (by rw [Int.natCast_succ])) ea_nil) (by omega) (by omega)
    rw [Int.toNat_natCast] at this
    exact this
  · exact fun ρ' i x H1 H2 r h => h.move (fun a _ n q => ⟨n, r.keep a _ n.2 q⟩) r.tup
  · exact fun D i x H1 h => h.move (fun a _ n q => ⟨⟨n.1, fun z => n.2 (.inl z)⟩, q⟩) fun _ _ q => q
  · intro D H1 r1 hD i x H2 H3 hi r2 oD y cont hc
    obtain ⟨e5, rfl⟩ := y
    subst e5
    refine hc _ _ rfl .rfl fun H5 r5 Q q => q true H5 .rfl rfl fun _ => ?_
    have r15 : exR.r H H5 := r1.trans (r2.trans r5)
    refine ev_call (ea_cons (ev_var rfl) (ea_cons (ev_var (v := .str (S W)) rfl) (ea_cons (ev_var (v := .int (i : Int)) rfl) ea_nil))) fun H6 e6 Q' q' E' => ⟨v, d, T, W, i, rfl, ((r15.trans e6).ds hd), hT, hTl, hTm, hW, fun v' H' e hn => q' _ H' (Ext.r e) (hn.move (fun a _ n q => ⟨⟨(r15.trans e6).back a n, fun z => ?_⟩, q⟩) fun _ _ q => q)⟩
    rcases z with z | z
    · exact z
    · exact oD a (.inr z) ((r5.trans e6).back a n)
  · subst ev
    rw [kept_all hC] at hit
    refine k _ H1 e1.ext (.lst hp hx (.of (by rw [hit.1, List.length_map]) fun m x d a b => ?_))
    rw [List.getElem?_map] at b
    cases q : (List.range (W.length + 1))[m]? with
    | none => rw [q] at b; cases b
    | some i =>
      rw [q] at b
      have := hit.2 m x i a q
      cases b
      exact this.move (fun a _ n q => ⟨n.1, q⟩) fun _ _ q => q
end Slip
/-! while loops; objects that change beside one another; dicts by pairs -/
namespace Slip
open PySem PySem.Spec PyProof.Rows L2
theorem s_while {ρ : Rl} {c : TT} {tu : TS} {D : Ends} {σ : L2.St} {H : Hp} (W : Nat → L2.St → Hp → Prop) (h0 : ∃ m, W m σ H) (hs : ∀ m σ H, W m σ H → ∃ b, EvT ρ c σ H b ∧ (b = true → ∀ H1, ρ.r H H1 → tu { D with nx := fun σ' H' => ∃ m', m' < m ∧ W m' σ' H', ct := fun σ' H' => ∃ m', m' < m ∧ W m' σ' H', bk := D.nx } σ H1) ∧ (b = false → ∀ H1, ρ.r H H1 → D.nx σ H1)) : tWhile c tu D σ H := by
  refine ⟨W, h0, fun m σ H w => ?_⟩
  obtain ⟨b, h1, h2, h3⟩ := hs m σ H w
  refine h1 H .rfl _ fun H1 e => ?_
  cases b with
  | true => exact ⟨_, fun _ _ z => z, h2 rfl H1 e⟩
  | false => exact h3 rfl H1 e
theorem q_while {ρ : Rl} {c : TT} {tu tz : TS} {D : Ends} {σ : L2.St} {H : Hp} (W : Nat → L2.St → Hp → Prop) (h0 : ∃ m, W m σ H) (hs : ∀ m σ H, W m σ H → ∃ b, EvT ρ c σ H b ∧ (b = true → ∀ H1, ρ.r H H1 → tu { D with nx := fun σ' H' => ∃ m', m' < m ∧ W m' σ' H', ct := fun σ' H' => ∃ m', m' < m ∧ W m' σ' H', bk := tz D } σ H1) ∧ (b = false → ∀ H1, ρ.r H H1 → tz D σ H1)) : tSeq (tWhile c tu) tz D σ H :=
  s_while (ρ := ρ) (D := { D with nx := tz D }) W h0 hs
theorem r_and2 {ρ : Rl} {T E : Addr} {H H1 H2 : Hp} (e : ρ.r H H1) (nT : H T = none) (nE : H E = none) (e2 : ((ρ.and T).and E).r H1 H2) : ρ.r H H2 := r_and .rfl nT (r_and (and_of e) nE e2)
theorem r_up {ρ : Rl} {B Wt : Addr} {H H' : Hp} (e : (ρ.and Wt).r H H') : ((ρ.and B).and Wt).r H H' := ⟨fun a o s h => e.keep a o (fun z => s (z.elim (fun z => .inl (.inl z)) .inr)) h, e.back, e.tup, e.frz, e.spot⟩
theorem r_two {D l : Addr} {H H' : Hp} (e : exR.r H H') : ((exR.and D).and l).r H H' := and_of (and_of e)
section
variable {ρ ρw : Rl} {K : Frag} {σ : L2.St} {H : Hp} {ta tb te ti : TE} {a P : Addr} {xs : List V} {kvs : List (List Key × V)} {k : List Key} {R : V → Hp → Prop} {D : Ends}
/-- the truth of a list -/
theorem et_truL (h : EvV ρ te σ H (.ref a)) (hs : ∀ H1, ρ.r H H1 → H1 a = some (.lst xs)) : EvT ρ (tTru K te) σ H (!xs.isEmpty) := fun H1 e Q q => h H1 e _ fun v H2 e2 hv => ⟨_, by
  rw [hv]
  exact .inl ⟨xs, .of (hs H2 (e.trans e2)), rfl⟩, q H2 e2⟩
/-- (i, j): a key -/
theorem ev_keyI2 {i j : Int} (h1 : EvV ρ ta σ H (.int i)) (h2 : EvV ρ tb σ H (.int j)) : Ev ρ (tTup (tCons ta (tCons tb tNil))) σ H (fun v H' => ∃ q, v = .ref q ∧ H' q = some (.tup (([.inl i, .inl j] : List Key).map kV))) :=
  (ev_tup (ea_cons h1 (ea_cons h2 ea_nil)) fun vs H1 _ e => by rw [e]; show 2 ≤ 100000; decide).imp fun v H2 _ ⟨p, vs, H1, ev, evs, hp, r1, eH⟩ => by
    subst ev evs
    exact ⟨p, rfl, by rw [eH]; exact upd_same⟩
theorem g_seq4 {x y z w : V} {i j l m : Nat} {Q : L2.St → Hp → Prop} (hs : SqA K H a [x, y, z, w]) (q : Q ((((σ.set i (some x)).set j (some y)).set l (some z)).set m (some w)) H) : gSeq K 4 (gCons (gName i) (gCons (gName j) (gCons (gName l) (gCons (gName m) gNil)))) (.ref a) σ H Q := by
  rcases hs with h | h
  · exact .inr ⟨a, _, rfl, h, rfl, x, _, rfl, y, _, rfl, z, _, rfl, w, _, rfl, rfl, q⟩
  · exact .inl ⟨a, _, rfl, h, rfl, x, _, rfl, y, _, rfl, z, _, rfl, w, _, rfl, rfl, q⟩
/-- d[i, j] = v -/
theorem s_putT (hv : Ev exR te σ H R) (ho : EvV exR ta σ H (.ref P)) (hi : Ev exR ti σ H (fun v H' => ∃ q, v = .ref q ∧ H' q = some (.tup (k.map kV)))) (hP : H P = some (.dT kvs)) (hl : kvs.length < 1000000)
    (cont : ∀ y H1 H2, exR.r H H1 → R y H1 → exR.r H1 H2 → H2 P = some (.dT kvs) → D.nx σ (upd H2 P (.dT (putK kvs k y)))) : tAsg te (gSub ta ti (rSetU K)) D σ H := hv H .rfl _ fun v H1 e1 ev =>
  ho H1 e1 _ fun o H2 e2 eo => by
    subst eo
    exact hi H2 (e1.trans e2) _ fun w H3 e3 ⟨q, ew, hq⟩ => by
      subst ew
      have e := e1.trans (e2.trans e3)
      exact .inr ⟨P, _, rfl, .inr ⟨kvs, k, q, e.ext _ _ hP, rfl, hq, Nat.lt_of_lt_of_le hl (by decide), rfl⟩, cont v H1 H3 e1 ev (e2.trans e3) (e.ext _ _ hP)⟩
/-- a list that stays -/
theorem ew_seq (le : ∀ H1 H2, ρ.r H1 H2 → ρw.r H1 H2) (h : EvV ρ te σ H (.ref a)) (hs : ∀ H1, ρw.r H H1 → SqL K H1 a xs) : EvW ρ ρw (iSeq K te) σ H xs.length (YAt xs) := fun H1 e1 R k =>
  .inl (h H1 e1 _ fun v H2 e2 hv => ⟨a, hv, ⟨xs, hs H2 (le _ _ (e1.trans e2))⟩, k _ H2 e2 (walk_list.mono (fun H3 e3 => hs H3 ((le _ _ (e1.trans e2)).trans e3)) fun _ _ _ _ _ _ y => y)⟩)
end
end Slip
/-! the search -/
namespace Slip
open PySem PySem.Spec PyProof.Rows L2
abbrev kk (k : Nat × Nat) : List Key := [.inl (k.1 : Int), .inl (k.2 : Int)]
theorem kk_inj {k j : Nat × Nat} : kk k = kk j ↔ k = j := by
  constructor
  · intro h
    injection h with h1 h2
    injection h2 with h2 _
    injection h1 with h1
    injection h2 with h2
    exact Prod.ext (by omega) (by omega)
  · intro h; rw [h]
/-- the dict tells what is known -/
structure BestAt (H : Hp) (kvs : List (List Key × V)) (b : List En) : Prop where
  yes : ∀ k c p, val b k = some (c, p) → ∃ a vp, valV kvs (kk k) = some (.ref a) ∧ H a = some (.tup [.int c, vp]) ∧ DS exR H vp (pcD p)
  no : ∀ k, val b k = none → valV kvs (kk k) = none
theorem BestAt.r {ρ : Rl} {H H' : Hp} {kvs : List (List Key × V)} {b : List En} (B : BestAt H kvs b) (e : ρ.r H H') : BestAt H' kvs b where
  yes := fun k c p h => by
    obtain ⟨a, vp, h1, h2, h3⟩ := B.yes k c p h
    exact ⟨a, vp, h1, e.tup _ _ h2, h3.tups e.tup _ _ (nl_pc p)⟩
  no := B.no
theorem BestAt.has {H : Hp} {kvs : List (List Key × V)} {b : List En} (B : BestAt H kvs b) (k : Nat × Nat) : (valV kvs (kk k)).isSome = has b k := by
  rw [has_val]
  cases q : val b k with
  | none => rw [B.no k q]; rfl
  | some v =>
    obtain ⟨c, p⟩ := v
    obtain ⟨a, vp, h1, _⟩ := B.yes k c p q
    rw [h1]
    rfl
theorem val_snoc {b : List En} {e : En} {k : Nat × Nat} (hn : Slip.has b e.1 = false) : val (b ++ [e]) k = if k = e.1 then some e.2 else val b k := by
  unfold val
  rw [List.find?_append]
  by_cases h : k = e.1
  · rw [if_pos h]
    have : b.find? (fun g => decide (g.1 = k)) = none := by
      rw [List.find?_eq_none]
      intro g hg
      rw [h]
      intro z
      have := has_iff.mpr ⟨g, hg, of_decide_eq_true z⟩
      rw [hn] at this
      cases this
    rw [this]
    simp [h]
  · rw [if_neg h]
    cases q : b.find? fun g => decide (g.1 = k) with
    | none => simp [Ne.symm h]
    | some g => rfl
theorem BestAt.put {H : Hp} {kvs : List (List Key × V)} {b : List En} (B : BestAt H kvs b) {k : Nat × Nat} {c : Int} {p : Pc} {a : Addr} {vp : V} (hn : Slip.has b k = false) (ha : H a = some (.tup [.int c, vp])) (hp : DS exR H vp (pcD p)) : BestAt H (putK kvs (kk k) (.ref a)) (b ++ [(k, (c, p))]) where
  yes := fun j c' p' h => by
    rw [val_snoc (e := (k, (c, p))) hn] at h
    rw [valV_put]
    by_cases q : j = k
    · rw [if_pos q] at h
      cases h
      rw [if_pos (kk_inj.mpr q)]
      exact ⟨a, vp, rfl, ha, hp⟩
    · rw [if_neg q] at h
      rw [if_neg (fun z => q (kk_inj.mp z))]
      exact B.yes j c' p' h
  no := fun j h => by
    rw [val_snoc (e := (k, (c, p))) hn] at h
    rw [valV_put]
    by_cases q : j = k
    · rw [if_pos q] at h
      cases h
    · rw [if_neg q] at h
      rw [if_neg (fun z => q (kk_inj.mp z))]
      exact B.no j h
/-! ### what waits -/
def dec : PyData → Qi
  | .tuple [.int c, .int i, .int j, .tuple [.str m, .str t, .int k]] => ⟨c, i.toNat, j.toNat, (m.cps.toList, t.cps.toList, k)⟩
  | _ => qi0
theorem dec_qi (x : Qi) : dec (qiD x) = x := by
  obtain ⟨c, i, j, m, t, k⟩ := x
  simp [qiD, pcD, dec]
def IsQ (d : PyData) : Prop := ∃ x, d = qiD x
theorem clsQ : HCls IsQ where
  al := by rintro _ _ ⟨x, rfl⟩ ⟨y, rfl⟩; exact alike_qi x y
  nn := by rintro _ ⟨x, rfl⟩; intro h; cases h
  nl := by rintro _ ⟨x, rfl⟩; rfl
  dp := by
    rintro _ ⟨x, rfl⟩
    simp [qiD, pcD, PyData.depth, PyData.depthAll]
structure QAt (H : Hp) (l : Addr) (ps : List (V × PyData)) : Prop where
  at_ : H l = some (.lst (ps.map Prod.fst))
  hq : HQ ps
  it : ∀ p ∈ ps, IsQ p.2 ∧ DS exR H p.1 p.2
abbrev decs (ps : List (V × PyData)) : List Qi := ps.map fun p => dec p.2
theorem QAt.items {K : Frag} {H : Hp} {l : Addr} {ps : List (V × PyData)} (q : QAt H l ps) : ∀ p ∈ ps, HItem K H IsQ p := fun p hp => ⟨(q.it p hp).2.dp, (q.it p hp).1⟩
theorem it_r {ρ : Rl} {H H' : Hp} {p : V × PyData} (e : ρ.r H H') (h : IsQ p.2 ∧ DS exR H p.1 p.2) : IsQ p.2 ∧ DS exR H' p.1 p.2 := ⟨h.1, h.2.tups e.tup _ _ (clsQ.nl _ h.1)⟩
theorem QAt.r {ρ : Rl} {H H' : Hp} {l : Addr} {ps : List (V × PyData)} (q : QAt H l ps) (e : ρ.r H H') (n : ¬ ρ.S l) : QAt H' l ps := ⟨e.keep _ _ n q.at_, q.hq, fun p hp => it_r e (q.it p hp)⟩
theorem qi_tup {H : Hp} {v : V} {x : Qi} (h : DS exR H v (qiD x)) : ∃ a vp, v = .ref a ∧ H a = some (.tup [.int x.c, .int x.i, .int x.j, vp]) ∧ DS exR H vp (pcD x.p) := by
  cases h with
  | tup ha hs =>
    cases hs with
    | cons h1 hs => cases hs with
      | cons h2 hs => cases hs with
        | cons h3 hs => cases hs with
          | cons h4 hs =>
            cases hs
            cases h1
            cases h2
            cases h3
            exact ⟨_, _, rfl, ha, h4⟩
theorem pc_tup {H : Hp} {v : V} {p : Pc} (h : DS exR H v (pcD p)) : ∃ a, v = .ref a ∧ H a = some (.tup [.str (S p.1), .str (S p.2.1), .int p.2.2]) := by
  cases h with
  | tup ha hs =>
    cases hs with
    | cons h1 hs => cases hs with
      | cons h2 hs => cases hs with
        | cons h3 hs =>
          cases hs
          cases h1
          cases h2
          cases h3
          exact ⟨_, rfl, ha⟩
/-! ### how many places are left -/
def grid (m n : Nat) : List (Nat × Nat) := (List.range (m + 1)).flatMap fun i => (List.range (n + 1)).map fun j => (i, j)
theorem mem_grid {m n : Nat} {k : Nat × Nat} : k ∈ grid m n ↔ k.1 ≤ m ∧ k.2 ≤ n := by
  unfold grid
  rw [List.mem_flatMap]
  constructor
  · rintro ⟨i, hi, h⟩
    obtain ⟨j, hj, rfl⟩ := List.mem_map.mp h
    have := List.mem_range.mp hi
    have := List.mem_range.mp hj
    exact ⟨by omega, by omega⟩
  · rintro ⟨h1, h2⟩
    exact ⟨k.1, List.mem_range.mpr (by omega), List.mem_map.mpr ⟨k.2, List.mem_range.mpr (by omega), rfl⟩⟩
theorem grid_len (m n : Nat) : (grid m n).length = (m + 1) * (n + 1) := by
  unfold grid
  rw [List.length_flatMap]
  have h : ∀ l : List Nat, (l.map fun i => ((List.range (n + 1)).map fun j => (i, j)).length).sum = l.length * (n + 1) := by
    intro l
    induction l with
    | nil => simp
    | cons a l ih =>
      rw [List.map_cons, List.sum_cons, ih, List.length_map, List.length_range, List.length_cons, Nat.succ_mul]
      omega
  rw [h, List.length_range]
def left (m n : Nat) (b : List En) : Nat := (grid m n).countP fun k => !Slip.has b k
theorem countP_lt {α : Type} {p p' : α → Bool} : ∀ {l : List α}, (∀ x ∈ l, p' x = true → p x = true) → (∃ x ∈ l, p x = true ∧ p' x = false) → l.countP p' < l.countP p
  | [], _, ⟨x, hx, _⟩ => by cases hx
  | a :: l, h, ⟨x, hx, h1, h2⟩ => by
    have hle : l.countP p' ≤ l.countP p := List.countP_mono_left fun x hx => h x (List.mem_cons_of_mem _ hx)
    rw [List.countP_cons, List.countP_cons]
    rcases List.mem_cons.mp hx with rfl | hx
    · rw [h1, h2]
      simp
      omega
    · have ih := countP_lt (fun x hx => h x (List.mem_cons_of_mem _ hx)) ⟨x, hx, h1, h2⟩
      have ha := h a List.mem_cons_self
      cases q : p' a with
      | true => rw [ha q]; simp; omega
      | false => simp; omega
theorem left_snoc {m n : Nat} {b : List En} {e : En} (hn : Slip.has b e.1 = false) (h1 : e.1.1 ≤ m) (h2 : e.1.2 ≤ n) : left m n (b ++ [e]) < left m n b := by
  refine countP_lt (fun x _ h => ?_) ⟨e.1, mem_grid.mpr ⟨h1, h2⟩, by rw [hn]; rfl, by rw [has_snoc, decide_eq_true rfl, Bool.or_true]; rfl⟩
  rw [has_snoc] at h
  cases q : Slip.has b x with
  | false => rfl
  | true => rw [q] at h; cases h
theorem left_le (m n : Nat) (b : List En) : left m n b ≤ (m + 1) * (n + 1) := by
  rw [← grid_len]
  exact List.countP_le_length
def sp_best_ways (K : Frag) : Sp := fun vs H Q _ => ∃ (v : V) (d : PyData) (T : List Pc) (W X : List Nat), vs = [v, .str (S W), .str (S X)] ∧ DS exR H v d ∧ tupD d = tabD T ∧ T.length ≤ 8 ∧ (∀ p ∈ T, p.1.length ≤ 1000 ∧ p.2.1.length ≤ 1000) ∧ Costs T ∧ W.length ≤ 300 ∧ X.length ≤ 300 ∧
  ∀ D kvs f H', H D = none → Ext H H' → H' D = some (.dT kvs) → Run T W X [] [qi0] f → BestAt H' kvs f → Q (.ref D) H'
theorem len_best_ways {K : Frag} {vs : List V} {H : Hp} {Q : VK} {E : XK} (h : sp_best_ways K vs H Q E) : vs.length = 3 := by
  obtain ⟨v, d, T, W, X, rfl, _⟩ := h
  rfl
def t_best_ways (K : Frag) : TS := (tSeq (tAsg (tCall (sp_pieces_along K) [] E0 (tCons (tVar 0) (tCons (tVar 1) tNil))) (gName 3)) (tSeq (tAsg tDNewT (gName 4)) (tSeq (tAsg (tLst (tCons (tTup (tCons (tC (.int 0)) (tCons (tC (.int 0)) (tCons (tC (.int 0)) (tCons (tTup (tCons (tC (.str "")) (tCons (tC (.str "")) (tCons (tC (.int 0)) tNil)))) tNil))))) tNil)) (gName 5)) (tSeq (tWhile (tAnd (tTru K (tVar 5)) (tTest (tOp (rNotInU K) (tTup (tCons (tCB (rLenU K) (tCons (tVar 1) tNil)) (tCons (tCB (rLenU K) (tCons (tVar 2) tNil)) tNil))) (tVar 4)))) (tSeq (tAsg (tCB (rHpop K) (tCons (tVar 5) tNil)) (gSeq K 4 (gCons (gName 6) (gCons (gName 7) (gCons (gName 8) (gCons (gName 9) gNil)))))) (tIfS (tTest (tOp (rNotInU K) (tTup (tCons (tVar 7) (tCons (tVar 8) tNil))) (tVar 4))) (tSeq (tAsg (tTup (tCons (tVar 6) (tCons (tVar 9) tNil))) (gSub (tVar 4) (tTup (tCons (tVar 7) (tCons (tVar 8) tNil))) (rSetU K))) (tFor (iSeq K (tIxU K (tVar 3) (tVar 7))) (gName 10) (tSeq (tAsg (tVar 10) (gSeq K 3 (gCons (gName 11) (gCons (gName 12) (gCons (gName 13) gNil))))) (tIfS (tTest (tOp (rEqU K) (tSl (rSlU K) (tVar 2) (tPart (tVar 8)) (tPart (tOp (rAddU K) (tVar 8) (tCB (rLenU K) (tCons (tVar 12) tNil))))) (tVar 12))) (tDrop (tCB (rPush K) (tCons (tVar 5) (tCons (tTup (tCons (tOp (rAddU K) (tVar 6) (tVar 13)) (tCons (tOp (rAddU K) (tVar 7) (tCB (rLenU K) (tCons (tVar 11) tNil))) (tCons (tOp (rAddU K) (tVar 8) (tCB (rLenU K) (tCons (tVar 12) tNil))) (tCons (tVar 10) tNil))))) tNil)))) tNext)))) tNext))) (tRet (tVar 4))))))
/-- what lies behind x by one piece -/
def nx1 (x : Qi) (p : Pc) : Qi := ⟨x.c + p.2.2, x.i + p.1.length, x.j + p.2.1.length, p⟩
theorem pcs_len (T : List Pc) (W : List Nat) (i : Nat) : (pcsAt T W i).length ≤ T.length + 1 := by
  unfold pcsAt keptAt
  rw [List.length_append, List.length_map, List.length_take]
  have := List.length_filter_le (fun p : Pc => at_ W i p.1) T
  omega
/-- the loop's invariant -/
structure BwAt (K : Frag) (T : List Pc) (W X : List Nat) (H1 : Hp) (D l : Addr) (m : Nat) (H' : Hp) (kvs : List (List Key × V)) (b : List En) (ps : List (V × PyData)) : Prop where
  r : ((exR.and D).and l).r H1 H'
  dD : H' D = some (.dT kvs)
  q : QAt H' l ps
  bst : BestAt H' kvs b
  inv : Inv1 T W X b (decs ps)
  on : ∀ f, Run T W X b (decs ps) f → Run T W X [] [qi0] f
  me : m = 10 * left W.length X.length b + ps.length
  len : kvs.length + left W.length X.length b ≤ (W.length + 1) * (X.length + 1)
  mm : m ≤ 10 * ((W.length + 1) * (X.length + 1)) + 1
section
variable {K : Frag} {σ : L2.St} {H : Hp} {ta te : TE} {g : TG} {l : Addr} {ps : List (V × PyData)} {C : PyData → Prop} {E : Ends} {tz : TS}
theorem q_hpop (ha : EvV exR ta σ H (.ref l)) (hH : H l = some (.lst (ps.map Prod.fst))) (hne : ps ≠ []) (hC : HCls C) (hq : HQ ps) (hi : ∀ q ∈ ps, C q.2 ∧ DS exR H q.1 q.2)
    (cont : ∀ (p : V × PyData) (qs : List (V × PyData)) (H1 : Hp), exR.r H H1 → H1 l = some (.lst (ps.map Prod.fst)) → (p :: qs).Perm ps → (∀ q ∈ qs, ltP q p = false) → HQ qs → g p.1 σ (upd H1 l (.lst (qs.map Prod.fst))) (tz E)) :
    tSeq (tAsg (tCB (rHpop K) (tCons ta tNil)) g) tz E σ H := by
  show (tCons ta tNil) σ H fun vs H1 => rHpop K vs H1 fun v H2 => g v σ H2 (tz E)
  refine (ea_cons ha ea_nil) H .rfl _ fun vs H1 e1 ev => ?_
  subst ev
  exact ⟨l, C, ps, rfl, e1.ext _ _ hH, hne, hC, hq, fun q hq' => ⟨(e1.ds (hi q hq').2).dp, (hi q hq').1⟩, fun p qs h1 h2 h3 => cont p qs H1 e1 (e1.ext _ _ hH) h1 h2 h3⟩
theorem s_hpush {d : PyData} (ha : EvV exR ta σ H (.ref l)) (hH : H l = some (.lst (ps.map Prod.fst))) (hz : ps.length < 1000000) (hC : HCls C) (hq : HQ ps) (hi : ∀ q ∈ ps, C q.2 ∧ DS exR H q.1 q.2) (hd : C d) (h : Ev exR te σ H (fun v H' => DS exR H' v d))
    (cont : ∀ (y : V) (qs : List (V × PyData)) (H1 : Hp), exR.r H H1 → H1 l = some (.lst (ps.map Prod.fst)) → DS exR H1 y d → qs.Perm ((y, d) :: ps) → HQ qs → E.nx σ (upd H1 l (.lst (qs.map Prod.fst)))) :
    tDrop (tCB (rPush K) (tCons ta (tCons te tNil))) E σ H := ha H .rfl _ fun v H1 e1 ev => h H1 e1 _ fun y H2 e2 hy => by
  subst ev
  have e := e1.trans e2
  exact ⟨l, C, ps, (y, d), rfl, e.ext _ _ hH, Nat.lt_of_lt_of_le hz (by decide), hC, hq, fun q hq' => ⟨(e.ds (hi q hq').2).dp, (hi q hq').1⟩, ⟨hy.dp, hd⟩, fun qs h1 h2 => cont y qs H2 e (e.ext _ _ hH) hy h1 h2⟩
end
theorem pure_best_ways {K : Frag} (vs : List V) (H : Hp) (Q : VK) (E : XK) (h : sp_best_ways K vs H Q E) : t_best_ways K { nx := fun _ H' => Q .non H', rt := Q } (start ["table", "word", "text", "pieces", "best", "queue", "total", "at", "to", "last", "piece", "meant", "written", "cost"] vs) H := by
  obtain ⟨v, d, T, W, X, rfl, hd, hT, hT8, hTl, hC, hW, hX, k⟩ := h
  refine q_asg (ρ := exR) (R := fun v' H' => Dq (New H) H' v' (.list ((List.range (W.length + 1)).map (pcsD T W)))) (ev_call (ea_cons (ev_var rfl) (ea_cons (ev_var (v := .str (S W)) rfl) ea_nil)) fun H1 e1 Q' q' E' => ⟨v, d, T, W, rfl, e1.ds hd, hT, by omega, fun p hp => (hTl p hp).1, by omega, fun v' H' e hn => q' _ H' (Ext.r e) (hn.move (fun a _ n q => ⟨e1.back a n, q⟩) fun _ _ q => q)⟩) fun v1 H1 e1 hpc => ?_
  have hpc1 : DS exR H1 v1 (.list ((List.range (W.length + 1)).map (pcsD T W))) := hpc.move (fun a _ _ q => ⟨fun z => z, q⟩) fun _ _ q => q
  refine q_asg (ρ := exR) (R := fun v' H' => ∃ D, v' = .ref D ∧ H1 D = none ∧ H' D = some (.dT []) ∧ DS (exR.and D) H' v1 (.list ((List.range (W.length + 1)).map (pcsD T W)))) (fun H2 e2 Q' q' D hD => q' _ _ (r_new _ hD) ⟨D, rfl, e2.back D hD, upd_same, (DS.and hD (e2.ds hpc1)).move (fun a _ n q => ⟨n, ext_new _ hD _ _ q⟩) fun a xs q => ext_new _ hD _ _ q⟩) fun v2 H2 e2 ⟨D, ev2, hD1, hD2, hpc2⟩ => ?_
  subst ev2
  refine q_asg (ρ := exR) (R := fun v' H' => ∃ l x, v' = .ref l ∧ H2 l = none ∧ H' l = some (.lst [x]) ∧ DS exR H' x (qiD qi0) ∧ exR.r H2 H' ∧ DS ((exR.and D).and l) H' v1 (.list ((List.range (W.length + 1)).map (pcsD T W)))) ?_ fun v3 H3 e3 ⟨l, x0, ev3, hl2, hl3, hx0, e23, hpc3⟩ => ?_
  · refine (ev_lst (ea_one (Ra := fun x H4 => DS exR H4 x (qiD qi0)) ?_) (fun vs H4 _ ⟨x, ex, _⟩ => by rw [ex]; show 1 ≤ 100000; decide)).imp fun u H4 e4 ⟨p, vs, H5, eu, ⟨x, ex, hx⟩, hp, e5, eH⟩ => ?_
    · refine ev_tupDs (ds := [.int 0, .int 0, .int 0, pcD ([], [], 0)]) Le.rfl (ea_consD Le.rfl ((ev_c (v := .int 0)).imp fun _ _ _ e => ?_) fun H5 e5 => ea_consD Le.rfl ((ev_c (v := .int 0)).imp fun _ _ _ e => ?_) fun H6 e6 => ea_consD Le.rfl ((ev_c (v := .int 0)).imp fun _ _ _ e => ?_) fun H7 e7 => ea_consD Le.rfl ?_ fun H8 e8 => ea_nilD) (by show 4 ≤ 100000; decide)
      · rw [e]; exact .int _
      · rw [e]; exact .int _
      · rw [e]; exact .int _
      · refine ev_tupDs (ds := [.str (S []), .str (S []), .int 0]) Le.rfl (ea_consD Le.rfl ((ev_c (v := .str "")).imp fun _ _ _ e => ?_) fun H5 e5 => ea_consD Le.rfl ((ev_c (v := .str "")).imp fun _ _ _ e => ?_) fun H6 e6 => ea_consD Le.rfl ((ev_c (v := .int 0)).imp fun _ _ _ e => ?_) fun H7 e7 => ea_nilD) (by show 3 ≤ 100000; decide)
        · rw [e, show ("" : Str) = S [] from rfl]; exact .str _
        · rw [e, show ("" : Str) = S [] from rfl]; exact .str _
        · rw [e]; exact .int _
    · subst eu ex
      have r5 : exR.r H5 H4 := by rw [eH]; exact r_new _ hp
      refine ⟨p, x, rfl, e5.back p hp, by rw [eH]; exact upd_same, r5.ds hx, e4, ?_⟩
      exact (DS.and (e5.back p hp) hpc2).move (fun a _ n q => ⟨n, e4.ext _ _ q⟩) e4.tup
  subst ev3
  have hDl : D ≠ l := fun z => by
    rw [z, hl2] at hD2
    cases hD2
  have hD0 : H D = none := e1.back D hD1
  have hl0 : H l = none := (e1.trans e2).back l hl2
  have e13 : exR.r H H3 := e1.trans (e2.trans e23)
  refine q_while (ρ := exR) (fun m σ' H' => ∃ (u6 u7 u8 u9 u10 u11 u12 u13 : Option V) (kvs : List (List Key × V)) (b : List En) (ps : List (V × PyData)), σ' = [some v, some (.str (S W)), some (.str (S X)), some v1, some (.ref D), some (.ref l), u6, u7, u8, u9, u10, u11, u12, u13] ∧ BwAt K T W X H3 D l m H' kvs b ps) ?_ ?_
  · refine ⟨_, _, _, _, _, _, _, _, _, [], [], [(x0, qiD qi0)], rfl, .rfl, e23.ext _ _ hD2, ⟨hl3, ?_, fun p hp => ?_⟩, ⟨(fun k c p h => by cases h), fun k h => rfl⟩, ?_, ?_, rfl, ?_, ?_⟩
    · intro i hi x y hx hy
      have := Hq.lt_of_some hy
      have h1 : i < 1 := this
      omega
    · rw [List.mem_singleton.mp hp]
      exact ⟨⟨_, rfl⟩, hx0⟩
    · show Inv1 T W X [] [dec (qiD qi0)]
      rw [dec_qi]
      exact inv_start1 T W X
    · intro f hf
      have hf' : Run T W X [] [dec (qiD qi0)] f := hf
      rw [dec_qi] at hf'
      exact hf'
    · have := left_le W.length X.length []
      show 0 + _ ≤ _
      omega
    · have := left_le W.length X.length []
      show 10 * _ + 1 ≤ _
      omega
  · rintro m σ' H' ⟨u6, u7, u8, u9, u10, u11, u12, u13, kvs, b, ps, rfl, B⟩
    have hN : (W.length + 1) * (X.length + 1) ≤ 301 * 301 := Nat.mul_le_mul (by omega) (by omega)
    have lenS : ∀ {i : Nat} {Z : List Nat} {H5 : Hp} {σ5 : L2.St}, σ5[i]? = some (some (.str (S Z))) → Z.length ≤ 1000 → EvV exR (tCB (rLenU K) (tCons (tVar i) tNil)) σ5 H5 (.int (Z.length : Int)) := fun h hz => (ev_lenS (ev_var h) (by rw [s_len]; omega)).val (by rw [s_len])
    refine ⟨!(ps.map Prod.fst).isEmpty && !has b (W.length, X.length), et_and (et_truL (ev_var rfl) fun H4 e4 => e4.ext _ _ B.q.at_) fun _ => et_test ((ev_notInT (k := kk (W.length, X.length)) (ev_keyI2 (lenS rfl (by omega)) (lenS rfl (by omega))) (ev_var rfl) fun H4 e4 => e4.ext _ _ B.dD).val (by rw [B.bst.has])), fun hb H4 e4 => ?_, fun hb H4 e4 => ?_⟩
    · have hne : ps ≠ [] := fun z => by
        rw [z] at hb
        cases hb
      have hng : has b (W.length, X.length) = false := by
        cases q : has b (W.length, X.length) with
        | false => rfl
        | true =>
          rw [q, Bool.not_true, Bool.and_false] at hb
          cases hb
      have hDl' : D ≠ l := hDl
      refine q_hpop (C := IsQ) (ps := ps) (ev_var rfl) (e4.ext _ _ B.q.at_) hne clsQ B.q.hq (fun q hq => it_r e4 (B.q.it q hq)) fun p qs H5 e5 hl5 hperm hmin hq5 => ?_
      have e45 : exR.r H' H5 := e4.trans e5
      obtain ⟨⟨x, hx⟩, hpx⟩ := it_r e45 (B.q.it p (hperm.mem_iff.mp List.mem_cons_self))
      rw [hx] at hpx
      obtain ⟨a, vp, epv, ha, hvp⟩ := qi_tup hpx
      rw [epv]
      have r56 : ((exR.and D).and l).r H5 (upd H5 l (.lst (qs.map Prod.fst))) := r_chg (ρ := exR.and D) hl5 fun z => z.elim (fun z => z) fun z => hDl' z.symm
      generalize eH6 : upd H5 l (.lst (qs.map Prod.fst)) = H6 at r56
      have hl6 : H6 l = some (.lst (qs.map Prod.fst)) := by rw [← eH6]; exact upd_same
      have hD6 : H6 D = some (.dT kvs) := by rw [← eH6, upd_ne hDl']; exact e45.ext _ _ B.dD
      have r36 : ((exR.and D).and l).r H3 H6 := B.r.trans ((r_two e45).trans r56)
      have hit6 : ∀ q ∈ qs, IsQ q.2 ∧ DS exR H6 q.1 q.2 := fun q hq => it_r r56 (it_r e45 (B.q.it q (hperm.mem_iff.mp (List.mem_cons_of_mem _ hq))))
      have q6 : QAt H6 l qs := ⟨hl6, hq5, hit6⟩
      have hdx : dec p.2 = x := by rw [hx, dec_qi]
      have hperm' : (x :: decs qs).Perm (decs ps) := by
        have := hperm.map fun p : V × PyData => dec p.2
        rw [List.map_cons, hdx] at this
        exact this
      have hmin' : ∀ y ∈ decs qs, qLt y x = false := fun y hy => by
        obtain ⟨q, hq, rfl⟩ := List.mem_map.mp hy
        obtain ⟨⟨z, hz⟩, _⟩ := hit6 q hq
        have := hmin q hq
        show PySem.W.dataLt (qiD (dec q.2)) (qiD x) = false
        rw [hz, dec_qi, ← hz, ← hx]
        exact this
      have I6 : Inv1 T W X b (x :: decs qs) := B.inv.perm hperm'.symm
      have hxl := (I6.wq x List.mem_cons_self).le
      have hlen : ps.length = qs.length + 1 := by rw [← hperm.length_eq]; rfl
      refine g_seq4 (K := K) (.inr (.inl (.inl (r56.tup _ _ ha)))) ?_
      refine s_if (ρ := exR) (et_test ((ev_notInT (k := kk x.key) (ev_keyI2 (ev_var rfl) (ev_var rfl)) (ev_var rfl) fun H7 e7 => e7.ext _ _ hD6).val (by rw [B.bst.has]))) (fun hb7 H7 e7 => ?_) (fun hb7 H7 e7 => ?_)
      · have hk : has b x.key = false := by
          cases q : has b x.key with
          | false => rfl
          | true => rw [q] at hb7; cases hb7
        have e47 : exR.r H' H5 := e45
        refine s_putT (k := kk x.key) (R := fun y H' => ∃ a2, y = .ref a2 ∧ H' a2 = some (.tup [.int x.c, vp])) ?_ (ev_var rfl) (ev_keyI2 (ev_var rfl) (ev_var rfl)) (e7.ext _ _ hD6) ?_ fun y H8 H9 e8 ⟨a2, ey, ha2⟩ e9 hD9 => ?_
        · refine (ev_tup (ea_cons (ev_var (v := .int x.c) rfl) (ea_cons (ev_var (v := vp) rfl) ea_nil)) fun vs H1 _ e => by rw [e]; show 2 ≤ 100000; decide).imp fun v H2 _ ⟨p, vs, H1, ev, evs, hp, r1, eH⟩ => ?_
          subst ev evs
          exact ⟨p, rfl, by rw [eH]; exact upd_same⟩
        · have := B.len
          omega
        · subst ey
          have e79 : exR.r H6 H9 := e7.trans (e8.trans e9)
          have r910 : (exR.and D).r H9 (upd H9 D (.dT (putK kvs (kk x.key) (.ref a2)))) := r_chgT (ρ := exR) hD9 fun z => z
          generalize eH10 : upd H9 D (.dT (putK kvs (kk x.key) (.ref a2))) = H10 at r910
          have hD10 : H10 D = some (.dT (putK kvs (kk x.key) (.ref a2))) := by rw [← eH10]; exact upd_same
          have r310 : ((exR.and D).and l).r H3 H10 := r36.trans ((r_two e79).trans (and_of r910))
          have nDl : ¬ (exR.and D).S l := fun z => z.elim (fun z => z) fun z => hDl' z.symm
          have q10 : QAt H10 l qs := (q6.r e79 fun z => z).r r910 nDl
          have hpc10 := r310.ds hpc3
          cases hpc10 with
          | @lst P us _ nP hP hus =>
          have hix : ((List.range (W.length + 1)).map (pcsD T W))[x.i]? = some (pcsD T W x.i) := by
            rw [List.getElem?_map, List.getElem?_range (by omega)]
            rfl
          obtain ⟨v', hv', hd'⟩ := DqAll.get' hus hix
          cases hd' with
          | @lst Li zs _ nLi hLi hzs =>
          have nl : Li ≠ l := fun z => nLi (.inr z)
          have hzl : zs.length = (pcsAt T W x.i).length := by rw [hzs.length, List.length_map]
          refine s_forw (ρ := exR) (ρw := exR.and l) (ew_seq (a := Li) (xs := zs) (fun _ _ e => and_of e) (ev_ix (n := x.i) (ev_var rfl) (ev_var rfl) (fun H1 e => .inl (.of (e.ext _ _ hP))) rfl hv') fun H1 e => .of (e.keep _ _ (fun z => z.elim (fun z => z) nl) hLi)) fun H11 e11 => ⟨fun i σ' H' => (exR.and l).r H11 H' ∧ ∃ (w10 w11 w12 w13 : Option V) (ps' : List (V × PyData)), σ' = [some v, some (.str (S W)), some (.str (S X)), some (.ref P), some (.ref D), some (.ref l), some (.int x.c), some (.int x.i), some (.int x.j), some vp, w10, w11, w12, w13] ∧ QAt H' l ps' ∧ (decs ps').Perm ((((pcsAt T W x.i).take i).filter fun p => at_ X x.j p.2.1).map (nx1 x) ++ decs qs) ∧ ps'.length ≤ qs.length + i, ⟨.rfl, _, _, _, _, qs, rfl, q10.r e11 fun z => z, .refl _, Nat.le_refl _⟩, fun i σ' H' _ p => p.1, ?_, ?_⟩
          · rintro i y σ' H12 H13 hi ⟨r, w10, w11, w12, w13, ps', rfl, q', hp', hl'⟩ ⟨e5', hy⟩
            subst e5'
            obtain ⟨dp, hdp, hDS⟩ := DqAll.get hzs hy
            rw [List.getElem?_map] at hdp
            obtain ⟨pc, hpc, rfl⟩ := Option.map_eq_some_iff.mp hdp
            have hmem : pc ∈ pcsAt T W x.i := List.mem_of_getElem? hpc
            have hl1 : pc.1.length ≤ 1000 ∧ pc.2.1.length ≤ 1000 := by
              rcases (pc_at hmem).2 with z | ⟨c, _, rfl⟩
              · exact hTl pc z
              · exact ⟨by show 1 ≤ 1000; decide, by show 1 ≤ 1000; decide⟩
            have hDS2 : DS exR H13 y (pcD pc) := hDS.tups (fun a xs z => r.tup _ _ (e11.tup _ _ z)) _ _ (nl_pc pc)
            obtain ⟨c, rfl, hcc⟩ := pc_tup hDS2
            have htk : (pcsAt T W x.i).take (i + 1) = (pcsAt T W x.i).take i ++ [pc] := by rw [List.take_add_one, hpc]; rfl
            refine ⟨_, rfl, g_seq3 (K := K) (.inr (.inl (.inl hcc))) ?_⟩
            refine s_if (ρ := exR) (b := at_ X x.j pc.2.1) ((et_test (ev_eqS (ev_slS (W := X) (i := x.j) (m := pc.2.1.length) (ev_var rfl) (by omega) (eo_some (ev_var rfl)) (eo_some (ev_add (ev_var rfl) (lenS rfl hl1.2)))) (ev_var (v := .str (S pc.2.1)) rfl))).to (by rw [s_eq]; rfl)) (fun hb8 H14 e14 => ?_) (fun hb8 H14 e14 => ?_)
            · refine s_hpush (C := IsQ) (d := qiD (nx1 x pc)) (ev_var rfl) (e14.ext _ _ q'.at_) ?_ clsQ q'.hq (fun q hq => it_r e14 (q'.it q hq)) ⟨_, rfl⟩ ?_ fun y2 qs2 H15 e15 hl15 hy2 hperm2 hq2 => ?_
              · have := B.mm
                have := B.me
                have := pcs_len T W x.i
                omega
              · refine ev_tupDs (ds := [.int (x.c + pc.2.2), .int ((x.i + pc.1.length : Nat) : Int), .int ((x.j + pc.2.1.length : Nat) : Int), pcD pc]) Le.rfl (ea_consD Le.rfl ((ev_add (ev_var rfl) (ev_var (v := .int pc.2.2) rfl)).imp fun _ _ _ e => ?_) fun H5 e5 => ea_consD Le.rfl ((ev_add (ev_var rfl) (lenS (Z := pc.1) rfl hl1.1)).imp fun _ _ _ e => ?_) fun H6 e6 => ea_consD Le.rfl ((ev_add (ev_var rfl) (lenS (Z := pc.2.1) rfl hl1.2)).imp fun _ _ _ e => ?_) fun H7 e7 => ea_consD Le.rfl ((ev_var (v := .ref c) rfl).imp fun _ H8 e8 e => ?_) fun H8 e8 => ea_nilD) (by show 4 ≤ 100000; decide)
                · rw [e]; exact .int _
                · rw [e, Int.natCast_add]; exact .int _
                · rw [e, Int.natCast_add]; exact .int _
                · rw [e]
                  exact ((((e14.trans e5).trans e6).trans e7).trans e8).ds hDS2
              · have r15 := e14.trans e15
                have rc : (exR.and l).r H15 (upd H15 l (.lst (qs2.map Prod.fst))) := r_chg (ρ := exR) hl15 fun z => z
                refine ⟨r.trans ((and_of r15).trans rc), _, _, _, _, qs2, rfl, ⟨upd_same, hq2, fun q hq => ?_⟩, ?_, ?_⟩
                · rcases List.mem_cons.mp (hperm2.mem_iff.mp hq) with rfl | hq
                  · exact it_r rc ⟨⟨_, rfl⟩, hy2⟩
                  · exact it_r rc (it_r r15 (q'.it q hq))
                · have h1 := hperm2.map fun p : V × PyData => dec p.2
                  rw [List.map_cons, show dec ((y2, qiD (nx1 x pc)) : V × PyData).2 = nx1 x pc from dec_qi _] at h1
                  refine h1.trans ((List.Perm.cons _ hp').trans ?_)
                  rw [htk, List.filter_append, List.map_append, List.filter_cons_of_pos (by exact hb8), List.filter_nil, List.map_cons, List.map_nil, List.append_assoc]
                  exact List.perm_middle.symm
                · have := hperm2.length_eq
                  rw [List.length_cons] at this
                  omega
            · refine ⟨r.trans (and_of e14), _, _, _, _, ps', rfl, q'.r e14 fun z => z, ?_, by omega⟩
              rw [htk, List.filter_append, List.filter_cons_of_neg (by rw [hb8]; decide), List.filter_nil, List.append_nil]
              exact hp'
          · rintro σ' H12 ⟨r, w10, w11, w12, w13, ps', rfl, q', hp', hl'⟩
            rw [hzl, List.take_length] at hp'
            have hp2 : (decs ps').Perm (nexts T W X x ++ decs qs) := hp'
            have hlt := left_snoc (m := W.length) (n := X.length) (e := (x.key, (x.c, x.p))) hk hxl.1 hxl.2
            have h9 := pcs_len T W x.i
            have hme := B.me
            have hmm := B.mm
            have hln := B.len
            have hpk := length_putK kvs (kk x.key) (V.ref a2)
            have rD : (exR.and l).r H10 H12 := (and_of e11).trans r
            refine ⟨10 * left W.length X.length (b ++ [(x.key, (x.c, x.p))]) + ps'.length, by omega, _, _, _, _, _, _, _, _, putK kvs (kk x.key) (.ref a2), b ++ [(x.key, (x.c, x.p))], ps', rfl, r310.trans (r_up (B := D) rD), rD.keep _ _ (fun z => z.elim (fun z => z) hDl') hD10, q', ?_, (I6.take hC hmin' hk).perm hp2.symm, fun f hf => B.on f (.take hng hperm' hmin' hk hp2 hf), rfl, by omega, by omega⟩
            exact (((((B.bst.r e45).r r56).r e79).put hk (e9.ext _ _ ha2) (hvp.tups (fun a xs z => e79.tup _ _ (r56.tup _ _ z)) _ _ (nl_pc x.p))).r r910).r rD
      · have hk : has b x.key = true := by
          cases q : has b x.key with
          | true => rfl
          | false => rw [q] at hb7; cases hb7
        refine ⟨10 * left W.length X.length b + qs.length, ?_, _, _, _, _, _, _, _, _, kvs, b, qs, rfl, r36.trans (r_two e7), e7.ext _ _ hD6, q6.r e7 fun z => z, (B.bst.r e45).r (r56.trans (r_two e7)), I6.skip hk, fun f hf => B.on f (.skip hng hperm' hmin' hk hf), rfl, B.len, ?_⟩
        · have := B.me
          omega
        · have := B.me
          have := B.mm
          omega
    · refine s_retV (ρ := exR) (ev_var rfl) fun H5 e5 => k D kvs b H5 hD0 ?_ ((e4.trans e5).ext _ _ B.dD) (B.on b (.stop ?_)) (B.bst.r (e4.trans e5))
      · exact ((r_and2 (ρ := exR) e13 hD0 hl0 B.r).trans (e4.trans e5)).ext
      · cases ps with
        | nil => exact .inl rfl
        | cons p ps =>
          right
          cases q : has b (W.length, X.length) with
          | true => rfl
          | false =>
            rw [q] at hb
            cases hb
end Slip
/-! the price, the cut -/
namespace Slip
open PySem PySem.Spec PyProof.Rows L2
/-- a table's pieces -/
structure TabOk (T : List Pc) : Prop where
  len : T.length ≤ 8
  pc : ∀ p ∈ T, p.1.length ≤ 2 ∧ p.2.1.length ≤ 2 ∧ p.1 ≠ p.2.1 ∧ 1 ≤ p.2.2 ∧ p.2.2 ≤ 9
  lt : ∀ p ∈ T, (∀ c ∈ p.1, c ∈ letters) ∧ ∀ c ∈ p.2.1, c ∈ letters
theorem TabOk.costs {T : List Pc} (h : TabOk T) : Costs T := fun p hp => by
  obtain ⟨_, _, hne, h1, _⟩ := h.pc p hp
  refine ⟨by omega, ?_⟩
  by_cases z : p.1 = []
  · have : p.2.1 ≠ [] := fun q => hne (by rw [z, q])
    have := List.length_pos_iff.mpr this
    omega
  · have := List.length_pos_iff.mpr z
    omega
theorem fault_pc {x : PyData} (h : isFaultD x = true) : ∃ p : Pc, tupD x = pcD p ∧ p.1.length ≤ 2 ∧ p.2.1.length ≤ 2 ∧ p.1 ≠ p.2.1 ∧ 1 ≤ p.2.2 ∧ p.2.2 ≤ 9 ∧ (∀ c ∈ p.1, c ∈ letters) ∧ ∀ c ∈ p.2.1, c ∈ letters := by
  unfold isFaultD at h
  rw [Bool.and_eq_true] at h
  obtain ⟨h1, h2⟩ := h
  unfold isTripleD at h1
  rw [Bool.and_eq_true] at h1
  obtain ⟨hq, hl⟩ := h1
  obtain ⟨a, b, c, e⟩ := three (of_decide_eq_true hl)
  rw [e] at h2
  have h3 : (isPieceD a && isPieceD b && !(PyData.eqv a b) && isWholeD 1 9 c) = true := h2
  simp only [Bool.and_eq_true, Bool.not_eq_true'] at h3
  obtain ⟨⟨⟨ha, hb⟩, hne⟩, hc⟩ := h3
  obtain ⟨s, rfl, hs, hsw⟩ := piece_str ha
  obtain ⟨t, rfl, ht, htw⟩ := piece_str hb
  obtain ⟨i, rfl, hi1, hi2⟩ := whole_int hc
  rw [eqv_str] at hne
  have hst : s ≠ t := of_decide_eq_false hne
  refine ⟨(s.cps.toList, t.cps.toList, i), ?_, ?_, ?_, ?_, hi1, hi2, fun c hc => of_decide_eq_true (List.all_eq_true.mp hsw c hc), fun c hc => of_decide_eq_true (List.all_eq_true.mp htw c hc)⟩
  · have hT : tupD x = .tuple ((itemsD x).map tupD) := by
      cases x with
      | tuple ds => simp [tupD, itemsD, tupAll_map]
      | list ds => simp [tupD, itemsD, tupAll_map]
      | _ => cases hq
    rw [hT, e]
    show PyData.tuple [.str s, .str t, .int i] = .tuple [.str (S s.cps.toList), .str (S t.cps.toList), .int i]
    rw [s_of, s_of]
  · show s.cps.toList.length ≤ 2
    have : s.cps.toList.length = s.length := by simp [Str.length]
    omega
  · show t.cps.toList.length ≤ 2
    have : t.cps.toList.length = t.length := by simp [Str.length]
    omega
  · intro z
    have z' : s.cps.toList = t.cps.toList := z
    exact hst (by rw [← s_of s, ← s_of t, z'])
theorem table_pcs {d : PyData} (h : isTableD d = true) : ∃ T, tupD d = tabD T ∧ TabOk T := by
  unfold isTableD at h
  simp only [Bool.and_eq_true] at h
  obtain ⟨⟨⟨hq, hl⟩, hf⟩, _⟩ := h
  have hT : tupD d = .tuple ((itemsD d).map tupD) := by
    cases d with
    | tuple ds => simp [tupD, itemsD, tupAll_map]
    | list ds => simp [tupD, itemsD, tupAll_map]
    | _ => cases hq
  have : ∀ ds : List PyData, (∀ x ∈ ds, isFaultD x = true) → ∃ T : List Pc, ds.map tupD = T.map pcD ∧ ∀ p ∈ T, p.1.length ≤ 2 ∧ p.2.1.length ≤ 2 ∧ p.1 ≠ p.2.1 ∧ 1 ≤ p.2.2 ∧ p.2.2 ≤ 9 ∧ (∀ c ∈ p.1, c ∈ letters) ∧ ∀ c ∈ p.2.1, c ∈ letters := by
    intro ds
    induction ds with
    | nil => exact fun _ => ⟨[], rfl, fun p hp => by cases hp⟩
    | cons a ds ih =>
      intro h
      obtain ⟨T, e, hp⟩ := ih fun x hx => h x (List.mem_cons_of_mem _ hx)
      obtain ⟨p, ep, h1⟩ := fault_pc (h a List.mem_cons_self)
      refine ⟨p :: T, by rw [List.map_cons, List.map_cons, ep, e], fun q hq => ?_⟩
      rcases List.mem_cons.mp hq with rfl | hq
      · exact h1
      · exact hp q hq
  obtain ⟨T, e, hp⟩ := this _ (List.all_eq_true.mp hf)
  have hlen : T.length = (itemsD d).length := by
    have := congrArg List.length e
    rw [List.length_map, List.length_map] at this
    exact this.symm
  exact ⟨T, by rw [hT, e], ⟨by have := of_decide_eq_true hl; omega, fun p hp' => let ⟨a, b, c, d, e, _⟩ := hp p hp'; ⟨a, b, c, d, e⟩, fun p hp' => let ⟨_, _, _, _, _, f⟩ := hp p hp'; f⟩⟩
/-- check_arguments([a, b, c]), all true -/
theorem ev_check3 {ρ : Rl} {K : Frag} {σ : L2.St} {H : Hp} {ta tb tc : TE} {E : XK} (own : Own ρ H) (h1 : EvV ρ ta σ H (.bl true)) (h2 : EvV ρ tb σ H (.bl true)) (h3 : EvV ρ tc σ H (.bl true)) : Ev ρ (tCall (sp_check_arguments K) [] E (tCons (tLst (tCons ta (tCons tb (tCons tc tNil)))) tNil)) σ H (fun _ _ => True) :=
  ev_callR (ea_one (ev_lstN own (ea_cons h1 (ea_cons h2 (ea_cons h3 ea_nil))) (by show 3 ≤ 100000; decide))) fun vs H1 e1 ⟨u, eu, p, ep, nS, hp⟩ => by
    subst eu ep
    exact fun H2 e2 Q q E => ⟨p, 3, rfl, .of (e2.keep _ _ nS hp), fun H' e => q _ H' (Ext.r e) trivial⟩
/-- what is asked of the three -/
structure Ask (H : Hp) (v : V) (d : PyData) (T : List Pc) (W X : List Nat) : Prop where
  dd : DS exR H v d
  t : isTableD d = true
  s : sm d = true
  e : tupD d = tabD T
  ok : TabOk T
  w : isWordD (.str (S W)) = true
  x : isWordD (.str (S X)) = true
  wl : W.length ≤ 300
  xl : X.length ≤ 300
def cutD' (f : List En) (k : Nat × Nat) : PyData := if has f k = true then .tuple ((cutOf f k).map pcD) else .none
def sp_price (K : Frag) : Sp := fun vs H Q _ => ∃ (v : V) (d : PyData) (T : List Pc) (W X : List Nat), vs = [v, .str (S W), .str (S X)] ∧ Ask H v d T W X ∧ ∀ o H', Ext H H' → PriceIs T W X o → Q (optI o) H'
def sp_cut (K : Frag) : Sp := fun vs H Q _ => ∃ (v : V) (d : PyData) (T : List Pc) (W X : List Nat), vs = [v, .str (S W), .str (S X)] ∧ Ask H v d T W X ∧ ∀ v' f H', Ext H H' → Run T W X [] [qi0] f → DS exR H' v' (cutD' f (W.length, X.length)) → Q v' H'
theorem len_price {K : Frag} {vs : List V} {H : Hp} {Q : VK} {E : XK} (h : sp_price K vs H Q E) : vs.length = 3 := by
  obtain ⟨v, d, T, W, X, rfl, _⟩ := h
  rfl
theorem len_cut {K : Frag} {vs : List V} {H : Hp} {Q : VK} {E : XK} (h : sp_cut K vs H Q E) : vs.length = 3 := by
  obtain ⟨v, d, T, W, X, rfl, _⟩ := h
  rfl
def t_price (K : Frag) : TS := (tSeq (tDrop (tCall (sp_check_arguments K) [] E0 (tCons (tLst (tCons (tCall (sp_is_table K) [] E0 (tCons (tVar 0) tNil)) (tCons (tCall (sp_is_word K) [] E0 (tCons (tVar 1) tNil)) (tCons (tCall (sp_is_word K) [] E0 (tCons (tVar 2) tNil)) tNil)))) tNil))) (tSeq (tAsg (tCall (sp_best_ways K) [] E0 (tCons (tVar 0) (tCons (tVar 1) (tCons (tVar 2) tNil)))) (gName 3)) (tSeq (tAsg (tTup (tCons (tCB (rLenU K) (tCons (tVar 1) tNil)) (tCons (tCB (rLenU K) (tCons (tVar 2) tNil)) tNil))) (gName 4)) (tRet (tIf (tTest (tOp (rInU K) (tVar 4) (tVar 3))) (tIxU K (tIxU K (tVar 3) (tVar 4)) (tC (.int 0))) (tC .non))))))
def t_cut (K : Frag) : TS := (tSeq (tDrop (tCall (sp_check_arguments K) [] E0 (tCons (tLst (tCons (tCall (sp_is_table K) [] E0 (tCons (tVar 0) tNil)) (tCons (tCall (sp_is_word K) [] E0 (tCons (tVar 1) tNil)) (tCons (tCall (sp_is_word K) [] E0 (tCons (tVar 2) tNil)) tNil)))) tNil))) (tSeq (tAsg (tCall (sp_best_ways K) [] E0 (tCons (tVar 0) (tCons (tVar 1) (tCons (tVar 2) tNil)))) (gName 3)) (tSeq (tPar 4 5 (tCons (tCB (rLenU K) (tCons (tVar 1) tNil)) (tCons (tCB (rLenU K) (tCons (tVar 2) tNil)) tNil))) (tSeq (tIfS (tTest (tOp (rNotInU K) (tTup (tCons (tVar 4) (tCons (tVar 5) tNil))) (tVar 3))) (tRet (tC .non)) tNext) (tSeq (tAsg (tLst tNil) (gName 6)) (tSeq (tWhile (tTest (tOp (rNeU K) (tTup (tCons (tVar 4) (tCons (tVar 5) tNil))) (tTup (tCons (tC (.int 0)) (tCons (tC (.int 0)) tNil))))) (tSeq (tAsg (tIxU K (tIxU K (tVar 3) (tTup (tCons (tVar 4) (tCons (tVar 5) tNil)))) (tC (.int 1))) (gName 7)) (tSeq (tDrop (tBM K "list" rAppend (tVar 6) (tCons (tVar 7) tNil))) (tSeq (tAug 4 (tCB (rLenU K) (tCons (tIxU K (tVar 7) (tC (.int 0))) tNil)) (ipI fun i j => i - j)) (tAug 5 (tCB (rLenU K) (tCons (tIxU K (tVar 7) (tC (.int 1))) tNil)) (ipI fun i j => i - j)))))) (tRet (RT.tTupRev K (tVar 6)))))))))
theorem q_ask {K : Frag} {H : Hp} {v : V} {d : PyData} {T : List Pc} {W X : List Nat} {us : List (Option V)} {D : Ends} {tz : TS} (A : Ask H v d T W X) (k : ∀ (D' : Addr) kvs f H', exR.r H H' → H' D' = some (.dT kvs) → Run T W X [] [qi0] f → BestAt H' kvs f → tz D (((some v :: some (.str (S W)) :: some (.str (S X)) :: us)).set 3 (some (.ref D'))) H') :
    (tSeq (tDrop (tCall (sp_check_arguments K) [] E0 (tCons (tLst (tCons (tCall (sp_is_table K) [] E0 (tCons (tVar 0) tNil)) (tCons (tCall (sp_is_word K) [] E0 (tCons (tVar 1) tNil)) (tCons (tCall (sp_is_word K) [] E0 (tCons (tVar 2) tNil)) tNil)))) tNil))) (tSeq (tAsg (tCall (sp_best_ways K) [] E0 (tCons (tVar 0) (tCons (tVar 1) (tCons (tVar 2) tNil)))) (gName 3)) tz)) D (some v :: some (.str (S W)) :: some (.str (S X)) :: us) H := by
  have smS : ∀ Z : List Nat, Z.length ≤ 300 → sm (.str (S Z)) = true := fun Z hz => decide_eq_true (by rw [s_len]; omega)
  refine q_drop (ρ := exR) (ev_check3 own_ex ((ev_B1 (F := isTableD) (ev_var rfl) A.dd A.s).val (by rw [A.t])) ((ev_B1 (F := isWordD) (ev_var (v := .str (S W)) rfl) (.str _) (smS W A.wl)).val (by rw [A.w])) ((ev_B1 (F := isWordD) (ev_var (v := .str (S X)) rfl) (.str _) (smS X A.xl)).val (by rw [A.x]))) fun _ H1 e1 _ => ?_
  refine q_asg (ρ := exR) (R := fun v' H' => ∃ D' kvs f, v' = .ref D' ∧ exR.r H H' ∧ H' D' = some (.dT kvs) ∧ Run T W X [] [qi0] f ∧ BestAt H' kvs f) (ev_call (ea_cons (ev_var rfl) (ea_cons (ev_var (v := .str (S W)) rfl) (ea_cons (ev_var (v := .str (S X)) rfl) ea_nil))) fun H2 e2 Q' q' E' => ⟨v, d, T, W, X, rfl, (e1.trans e2).ds A.dd, A.e, A.ok.len, fun p hp => ?_, A.ok.costs, A.wl, A.xl, fun D kvs f H' _ e hD hR hB => q' _ H' (Ext.r e) ⟨D, kvs, f, rfl, e1.trans (e2.trans (Ext.r e)), hD, hR, hB⟩⟩) fun v2 H2 e2 ⟨D', kvs, f, ev, e02, hD, hR, hB⟩ => ?_
  · have := A.ok.pc p hp
    omega
  · subst ev
    exact k D' kvs f H2 e02 hD hR hB
section
variable {ρ : Rl} {K : Frag} {σ : L2.St} {H : Hp} {ta tb te : TE} {d e : PyData}
theorem ev_neD2 (h1 : Ev ρ ta σ H (fun v H' => DS ρ H' v d)) (h2 : ∀ H1, ρ.r H H1 → Ev ρ tb σ H1 (fun v H' => DS ρ H' v e)) (sd : SeqAt.shaped d = true) (se : SeqAt.shaped e = true) : EvV ρ (tOp (rNeU K) ta tb) σ H (.bl (!PyData.eqv d e)) :=
  ev_op2 h1 (fun x' H1 e1 _ => h2 H1 e1) fun x' y' H1 H2 e1 e2 hx hy H3 e3 Q q => .inr ⟨d, e, ((e2.trans e3).ds hx).dp _ _, (e3.ds hy).dp _ _, sd, se, q _ H3 .rfl rfl⟩
theorem ev_tupII {i j : Int} (h1 : EvV ρ ta σ H (.int i)) (h2 : EvV ρ tb σ H (.int j)) : Ev ρ (tTup (tCons ta (tCons tb tNil))) σ H (fun v H' => DS ρ H' v (.tuple [.int i, .int j])) :=
  ev_tupDs Le.rfl (ea_consD Le.rfl (h1.imp fun _ _ _ e => by rw [e]; exact .int _) fun H1 e1 => ea_consD Le.rfl ((h2.mono e1).imp fun _ _ _ e => by rw [e]; exact .int _) fun H2 e2 => ea_nilD) (by show 2 ≤ 100000; decide)
end
theorem pure_price {K : Frag} (vs : List V) (H : Hp) (Q : VK) (E : XK) (h : sp_price K vs H Q E) : t_price K { nx := fun _ H' => Q .non H', rt := Q } (start ["table", "word", "text", "best", "goal"] vs) H := by
  obtain ⟨v, d, T, W, X, rfl, A, k⟩ := h
  refine q_ask (us := [none, none]) A fun D kvs f H1 e1 hD hR hB => ?_
  have dn := hR.done A.ok.costs (inv_start1 T W X)
  have hp := dn.price
  have hW := A.wl
  have hX := A.xl
  have lenS : ∀ {i : Nat} {Z : List Nat} {H5 : Hp} {σ5 : L2.St}, σ5[i]? = some (some (.str (S Z))) → Z.length ≤ 1000 → EvV exR (tCB (rLenU K) (tCons (tVar i) tNil)) σ5 H5 (.int (Z.length : Int)) := fun h hz => (ev_lenS (ev_var h) (by rw [s_len]; omega)).val (by rw [s_len])
  refine q_asg (ρ := exR) (ev_keyI2 (lenS rfl (by omega)) (lenS rfl (by omega))) fun v2 H2 e2 ⟨q, ev, hq⟩ => ?_
  subst ev
  have key : ∀ {H3 : Hp}, exR.r H2 H3 → Ev exR (tVar 4) _ H3 (fun v H' => ∃ q, v = .ref q ∧ H' q = some (.tup ((kk (W.length, X.length)).map kV))) := fun {H3} e3 => (ev_var (σ := [some v, some (.str (S W)), some (.str (S X)), some (.ref D), some (.ref q)]) (i := 4) (v := .ref q) rfl).imp fun u H4 e4 eu => ⟨q, eu, (e3.trans e4).ext _ _ hq⟩
  refine s_ret (ρ := exR) (R := fun u _ => u = optI (priceOf f (W.length, X.length))) (ev_if (et_test ((ev_inT (k := kk (W.length, X.length)) (key .rfl) (ev_var rfl) fun H3 e3 => (e2.trans e3).ext _ _ hD).val (by rw [hB.has]))) (fun hb => ?_) fun hb => ?_) fun u H3 e3 eu => ?_
  · have : ∃ c p, val f (W.length, X.length) = some (c, p) := by
      rw [has_val] at hb
      obtain ⟨⟨c, p⟩, h⟩ := Option.isSome_iff_exists.mp hb
      exact ⟨c, p, h⟩
    obtain ⟨c, p, hv⟩ := this
    obtain ⟨a, vp, h1, h2, h3⟩ := hB.yes _ c p hv
    refine (ev_ix (n := 0) (xs := [.int c, vp]) (v := .int c) (ev_getT (k := kk (W.length, X.length)) (ev_var rfl) (key .rfl) (fun H3 e3 => (e2.trans e3).ext _ _ hD) h1) ev_c (fun H3 e3 => .inr (.inl (.inl ((e2.trans e3).tup _ _ h2)))) rfl rfl).imp fun u H3 _ eu => ?_
    rw [eu]
    unfold priceOf
    rw [hv]
    rfl
  · refine (ev_c (v := .non)).imp fun u H3 _ eu => ?_
    rw [eu]
    have : val f (W.length, X.length) = none := by
      rw [has_val] at hb
      cases q : val f (W.length, X.length) with
      | none => rfl
      | some z => rw [q] at hb; cases hb
    unfold priceOf
    rw [this]
    rfl
  · subst eu
    exact k _ H3 (e1.trans (e2.trans e3)).ext hp
theorem DqAll.reverse {A : Addr → Prop} {H : Hp} : ∀ {vs : List V} {ds : List PyData}, DqAll A H vs ds → DqAll A H vs.reverse ds.reverse
  | _, _, .nil => .nil
  | _, _, .cons h t => by
    rw [List.reverse_cons, List.reverse_cons]
    exact (DqAll.reverse t).append (.cons h .nil)
theorem back_zero (f : List En) : ∀ n, back f n (0, 0) = []
  | 0 => rfl
  | n + 1 => if_pos rfl
section
variable {ρ : Rl} {σ : L2.St} {H : Hp} {te : TE} {D : Ends} {tz : TS}
theorem q_aug {i : Nat} {a j : Int} (hx : σ[i]? = some (some (.int a))) (h : EvV ρ te σ H (.int j)) (k : ∀ H1, ρ.r H H1 → tz D (σ.set i (some (.int (a - j)))) H1) : tSeq (tAug i te (ipI fun i j => i - j)) tz D σ H :=
  ⟨.int a, hx, h H .rfl _ fun y H1 e1 ey => ⟨a, j, rfl, ey, k H1 e1⟩⟩
theorem s_aug {i : Nat} {a j : Int} (hx : σ[i]? = some (some (.int a))) (h : EvV ρ te σ H (.int j)) (k : ∀ H1, ρ.r H H1 → D.nx (σ.set i (some (.int (a - j)))) H1) : tAug i te (ipI fun i j => i - j) D σ H :=
  ⟨.int a, hx, h H .rfl _ fun y H1 e1 ey => ⟨a, j, rfl, ey, k H1 e1⟩⟩
theorem q_par {i j : Nat} {ta : TA} {x y : V} (h : EvAV ρ ta σ H [x, y]) (k : ∀ H1, ρ.r H H1 → tz D ((σ.set i (some x)).set j (some y)) H1) : tSeq (tPar i j ta) tz D σ H := by
  show ta σ H fun vs H1 => ∃ v w, vs = [v, w] ∧ tz D ((σ.set i (some v)).set j (some w)) H1
  exact h H .rfl _ fun vs H1 e1 ev => ⟨x, y, ev, k H1 e1⟩
end
theorem pure_cut {K : Frag} (vs : List V) (H : Hp) (Q : VK) (E : XK) (h : sp_cut K vs H Q E) : t_cut K { nx := fun _ H' => Q .non H', rt := Q } (start ["table", "word", "text", "best", "at", "to", "pieces", "piece"] vs) H := by
  obtain ⟨v, d, T, W, X, rfl, A, k⟩ := h
  refine q_ask (us := [none, none, none, none, none]) A fun D kvs f H1 e1 hD hR hB => ?_
  have dn := hR.done A.ok.costs (inv_start1 T W X)
  have hW := A.wl
  have hX := A.xl
  have lenS : ∀ {i : Nat} {Z : List Nat} {H5 : Hp} {σ5 : L2.St}, σ5[i]? = some (some (.str (S Z))) → Z.length ≤ 1000 → EvV exR (tCB (rLenU K) (tCons (tVar i) tNil)) σ5 H5 (.int (Z.length : Int)) := fun h hz => (ev_lenS (ev_var h) (by rw [s_len]; omega)).val (by rw [s_len])
  refine q_par (ρ := exR) (ea_cons (lenS rfl (by omega)) (ea_cons (lenS rfl (by omega)) ea_nil)) fun H2 e2 => ?_
  refine q_when (ρ := exR) (et_test ((ev_notInT (k := kk (W.length, X.length)) (ev_keyI2 (ev_var rfl) (ev_var rfl)) (ev_var rfl) fun H3 e3 => (e2.trans e3).ext _ _ hD).val (by rw [hB.has]))) (fun hb H3 e3 => s_retV (ρ := exR) ev_c fun H4 e4 => ?_) (fun hb H3 e3 => ?_)
  · refine k _ f H4 (e1.trans (e2.trans (e3.trans e4))).ext hR ?_
    have : has f (W.length, X.length) = false := by
      cases q : has f (W.length, X.length) with
      | false => rfl
      | true => rw [q] at hb; cases hb
    unfold cutD'
    rw [this]
    exact .non
  · have hg : has f (W.length, X.length) = true := by
      cases q : has f (W.length, X.length) with
      | true => rfl
      | false => rw [q] at hb; cases hb
    refine q_asg (ρ := exR) (R := fun v' H' => ∃ p, v' = .ref p ∧ H3 p = none ∧ H' p = some (.lst [])) ((ev_lst (Rr := fun vs _ => vs = []) ea_nil fun vs H4 _ e => by rw [e]; show 0 ≤ 100000; decide).imp fun u H4 e4 ⟨p, vs, H5, eu, ev, hp, e5, eH⟩ => ⟨p, eu, e5.back p hp, by rw [eH, ev]; exact upd_same⟩) fun v4 H4 e4 ⟨p6, ev4, hp3, hp4⟩ => ?_
    subst ev4
    have e14 : exR.r H1 H4 := e2.trans (e3.trans e4)
    have e04 : exR.r H H4 := e1.trans e14
    have hp0 : H p6 = none := (e1.trans (e2.trans e3)).back p6 hp3
    refine q_while (ρ := exR) (fun m σ' H' => ∃ (i j n : Nat) (zs : List V) (ps : List Pc) (u7 : Option V), σ' = [some v, some (.str (S W)), some (.str (S X)), some (.ref D), some (.int i), some (.int j), some (.ref p6), u7] ∧ (exR.and p6).r H4 H' ∧ H' p6 = some (.lst zs) ∧ DSs exR H' zs (ps.map pcD) ∧ has f (i, j) = true ∧ i + j ≤ n ∧ ps ++ back f n (i, j) = back f (W.length + X.length) (W.length, X.length) ∧ m = i + j ∧ ps.length + (i + j) ≤ W.length + X.length) ⟨_, W.length, X.length, W.length + X.length, [], [], _, rfl, .rfl, hp4, .nil, hg, Nat.le_refl _, rfl, rfl, by show 0 + _ ≤ _; omega⟩ ?_
    rintro m σ' H' ⟨i, j, n, zs, ps, u7, rfl, r, hz, hzs, hij, hn, hbk, rfl, hln⟩
    have nD : D ≠ p6 := fun z => by
      have : H3 p6 = some (.dT kvs) := by rw [← z]; exact (e2.trans e3).ext _ _ hD
      rw [this] at hp3
      cases hp3
    have hD' : H' D = some (.dT kvs) := r.keep _ _ (fun z => z.elim (fun z => z) nD) (e14.ext _ _ hD)
    have hB' : BestAt H' kvs f := (hB.r e14).r r
    refine ⟨_, et_test (ev_neD2 (ev_tupII (ev_var (v := .int (i : Int)) rfl) (ev_var (v := .int (j : Int)) rfl)) (fun H5 e5 => ev_tupII (i := 0) (j := 0) ev_c ev_c) rfl rfl), fun hb5 H5 e5 => ?_, fun hb5 H5 e5 => ?_⟩
    · have hne : (i, j) ≠ (0, 0) := fun z => by
        injection z with z1 z2
        subst z1 z2
        cases hb5
      have : ∃ c p, val f (i, j) = some (c, p) := by
        rw [has_val] at hij
        obtain ⟨⟨c, p⟩, h⟩ := Option.isSome_iff_exists.mp hij
        exact ⟨c, p, h⟩
      obtain ⟨c, p, hv⟩ := this
      obtain ⟨a, vp, h1, h2, h3⟩ := hB'.yes _ c p hv
      obtain ⟨cp, rfl, hcp⟩ := pc_tup h3
      have hm := val_some hv
      rcases dn.fb _ hm with ⟨z, _⟩ | ⟨e', he', hpm, hx, ek, ec⟩
      · exact absurd z hne
      have hi : i = e'.1.1 + p.1.length := congrArg Prod.fst ek
      have hj : j = e'.1.2 + p.2.1.length := congrArg Prod.snd ek
      have hpos : 0 < p.1.length + p.2.1.length := (pc_cost A.ok.costs hpm).2
      have hpl : p.1.length ≤ 1000 ∧ p.2.1.length ≤ 1000 := by
        rcases (pc_at hpm).2 with z | ⟨c, _, rfl⟩
        · have := A.ok.pc p z
          omega
        · exact ⟨by show 1 ≤ 1000; decide, by show 1 ≤ 1000; decide⟩
      refine q_asgV (ρ := exR) (ev_ix (n := 1) (xs := [.int c, .ref cp]) (v := .ref cp) (ev_getT (k := kk (i, j)) (ev_var rfl) (ev_keyI2 (ev_var rfl) (ev_var rfl)) (fun H6 e6 => (e5.trans e6).ext _ _ hD') h1) ev_c (fun H6 e6 => .inr (.inl (.inl ((e5.trans e6).tup _ _ h2)))) rfl rfl) fun H6 e6 => ?_
      refine q_app (ρ := exR) (l := p6) (xs := zs) ((e5.trans e6).ext _ _ hz) (fun z => z) (ev_var rfl) (ev_var (v := .ref cp) rfl) ?_ fun y H7 e7 ey hz7 => ?_
      · have := hzs.length
        rw [List.length_map] at this
        omega
      · subst ey
        have e57 : exR.r H' H7 := e5.trans (e6.trans e7)
        have rc : (exR.and p6).r H7 (upd H7 p6 (.lst (zs ++ [.ref cp]))) := r_chg (ρ := exR) hz7 fun z => z
        generalize eH8 : upd H7 p6 (.lst (zs ++ [.ref cp])) = H8 at rc
        have hz8 : H8 p6 = some (.lst (zs ++ [.ref cp])) := by rw [← eH8]; exact upd_same
        have hc8 := rc.tup _ _ (e57.tup _ _ hcp)
        have sq : ∀ {H9 : Hp}, exR.r H8 H9 → SqA K H9 cp [.str (S p.1), .str (S p.2.1), .int p.2.2] := fun e9 => .inr (.inl (.inl (e9.tup _ _ hc8)))
        refine q_aug (ρ := exR) (a := (i : Int)) (j := (p.1.length : Int)) rfl ((ev_lenS (s := S p.1) (ev_ix (n := 0) (ev_var rfl) ev_c (fun H9 e9 => sq e9) rfl rfl) (by rw [s_len]; omega)).val (by rw [s_len])) fun H9 e9 => ?_
        refine s_aug (ρ := exR) (a := (j : Int)) (j := (p.2.1.length : Int)) rfl ((ev_lenS (s := S p.2.1) (ev_ix (n := 1) (ev_var rfl) ev_c (fun H10 e10 => sq (e9.trans e10)) rfl rfl) (by rw [s_len]; omega)).val (by rw [s_len])) fun H10 e10 => ?_
        have e810 : exR.r H8 H10 := e9.trans e10
        have ei : (i : Int) - (p.1.length : Int) = ((i - p.1.length : Nat) : Int) := by omega
        have ej : (j : Int) - (p.2.1.length : Int) = ((j - p.2.1.length : Nat) : Int) := by omega
        rw [ei, ej]
        obtain ⟨n', rfl⟩ : ∃ n', n = n' + 1 := ⟨n - 1, by omega⟩
        have hb1 : back f (n' + 1) (i, j) = p :: back f n' (i - p.1.length, j - p.2.1.length) := by
          show (if (i, j) = (0, 0) then [] else match val f (i, j) with
            | some v => v.2 :: back f n' (i - v.2.1.length, j - v.2.2.1.length)
            | none => []) = _
          rw [if_neg hne, hv]
        refine ⟨(i - p.1.length) + (j - p.2.1.length), by omega, i - p.1.length, j - p.2.1.length, n', zs ++ [.ref cp], ps ++ [p], _, rfl, r.trans ((and_of e57).trans (rc.trans (and_of e810))), e810.ext _ _ hz8, ?_, ?_, by omega, ?_, rfl, ?_⟩
        · rw [List.map_append]
          refine DqAll.append ?_ (.cons ?_ .nil)
          · exact DqAll.tups (fun a xs z => e810.tup _ _ (rc.tup _ _ (e57.tup _ _ z))) _ _ (noLists_map fun _ _ => nl_pc _) hzs
          · exact h3.tups (fun a xs z => e810.tup _ _ (rc.tup _ _ (e57.tup _ _ z))) _ _ (nl_pc p)
        · refine has_iff.mpr ⟨e', he', Prod.ext ?_ ?_⟩
          · show e'.1.1 = i - p.1.length
            omega
          · show e'.1.2 = j - p.2.1.length
            omega
        · rw [List.append_assoc, ← hbk, hb1]
          rfl
        · rw [List.length_append, List.length_singleton]
          omega
    · have hz0 : i = 0 ∧ j = 0 := by
        have : PyData.eqv (.tuple [.int (i : Int), .int (j : Int)]) (.tuple [.int 0, .int 0]) = true := by
          cases q : PyData.eqv (.tuple [.int (i : Int), .int (j : Int)]) (.tuple [.int 0, .int 0]) with
          | true => rfl
          | false => rw [q] at hb5; cases hb5
        simp [PyData.eqv, PyData.eqvAll] at this
        exact this
      obtain ⟨rfl, rfl⟩ := hz0
      rw [back_zero, List.append_nil] at hbk
      show (RT.tTupRev K (tVar 6)) _ H5 _
      refine ⟨.ref p6, rfl, p6, zs, rfl, .of (e5.ext _ _ hz), fun q hq => ?_⟩
      have rq : exR.r H5 (upd H5 q (.tup zs.reverse)) := r_new _ hq
      refine k _ f _ ((r_and e04 hp0 r).trans (e5.trans rq)).ext hR ?_
      unfold cutD' cutOf
      rw [if_pos hg, ← hbk, List.map_reverse]
      refine .tup upd_same ?_
      exact ((e5.trans rq).dss hzs).reverse
end Slip
/-! sorted tables -/
namespace Slip
open PySem PySem.Spec PyProof.Rows L2
def pairD (p : Pc) : PyData := .tuple [.str (S p.1), .str (S p.2.1)]
def TSort (T : List Pc) : Prop := T.Pairwise fun p q => PySem.W.dataLt (pairD p) (pairD q) = true
theorem lt_trans {a b c : PyData} (h : PySem.W.dataLt a b = true) (g : PySem.W.dataLt b c = true) : PySem.W.dataLt a c = true := lex_trans _ _ _ h g
theorem lt_irr (a : PyData) : PySem.W.dataLt a a = false := lex_irrefl _
theorem pc_inj {p q : Pc} (h : pcD p = pcD q) : p = q := by
  unfold pcD at h
  simp only [PyData.tuple.injEq, List.cons.injEq, PyData.str.injEq, PyData.int.injEq, and_true] at h
  exact Prod.ext (s_inj h.1) (Prod.ext (s_inj h.2.1) h.2.2)
theorem pcs_inj : ∀ {A B : List Pc}, A.map pcD = B.map pcD → A = B
  | [], [], _ => rfl
  | [], _ :: _, h => by cases h
  | _ :: _, [], h => by cases h
  | a :: A, b :: B, h => by
    rw [List.map_cons, List.map_cons] at h
    injection h with h1 h2
    rw [pc_inj h1, pcs_inj h2]
theorem tab_inj {A B : List Pc} (h : tabD A = tabD B) : A = B := by
  unfold tabD at h
  injection h with h
  exact pcs_inj h
theorem pair_of {x : PyData} {p : Pc} (h : tupD x = pcD p) : pairOf x = pairD p := by
  unfold pairOf
  rw [(mixed_pc h).2]
  rfl
theorem rising_at : ∀ {ds : List PyData} {j : Nat} {x y : PyData}, risingD ds = true → ds[j]? = some x → ds[j + 1]? = some y → PySem.W.dataLt x y = true := fun {ds j x y} h a b => by
  cases q : PySem.W.dataLt x y with
  | true => rfl
  | false =>
    have := rising_no ds j x y a b q
    rw [h] at this
    cases this
theorem rising_pw : ∀ (ds : List PyData), risingD ds = true → ds.Pairwise fun x y => PySem.W.dataLt x y = true
  | [], _ => .nil
  | [d], _ => List.pairwise_singleton ..
  | d :: e :: r, h => by
    have h' : (PySem.W.dataLt d e && risingD (e :: r)) = true := h
    rw [Bool.and_eq_true] at h'
    have ih := rising_pw (e :: r) h'.2
    refine List.pairwise_cons.mpr ⟨fun x hx => ?_, ih⟩
    rcases List.mem_cons.mp hx with rfl | hx
    · exact h'.1
    · exact lt_trans h'.1 ((List.pairwise_cons.mp ih).1 x hx)
theorem pw_rising : ∀ (ds : List PyData), (ds.Pairwise fun x y => PySem.W.dataLt x y = true) → risingD ds = true
  | [], _ => rfl
  | [d], _ => rfl
  | d :: e :: r, h => by
    obtain ⟨h1, h2⟩ := List.pairwise_cons.mp h
    show (PySem.W.dataLt d e && risingD (e :: r)) = true
    rw [h1 e List.mem_cons_self, pw_rising (e :: r) h2]
    rfl
theorem items_map {d : PyData} {T : List Pc} (h : tupD d = tabD T) : isSeqD d = true ∧ (itemsD d).map tupD = T.map pcD := by
  have h1 : isSeqD d = true := by
    cases d with
    | tuple ds => rfl
    | list ds => rfl
    | _ => cases h
  refine ⟨h1, ?_⟩
  cases d with
  | tuple ds =>
    have e : PyData.tuple (tupAll ds) = .tuple (T.map pcD) := h
    injection e with e
    rw [← e]
    simp [itemsD, tupAll_map]
  | list ds =>
    have e : PyData.tuple (tupAll ds) = .tuple (T.map pcD) := h
    injection e with e
    rw [← e]
    simp [itemsD, tupAll_map]
  | _ => cases h
theorem item_pc {d : PyData} {T : List Pc} (h : tupD d = tabD T) {i : Nat} {x : PyData} (hx : (itemsD d)[i]? = some x) : ∃ p, T[i]? = some p ∧ tupD x = pcD p := by
  have e := congrArg (fun l => l[i]?) (items_map h).2
  simp only [List.getElem?_map, hx, Option.map_some] at e
  cases q : T[i]? with
  | none => rw [q] at e; cases e
  | some p =>
    rw [q] at e
    exact ⟨p, rfl, Option.some.inj e⟩
theorem items_len {d : PyData} {T : List Pc} (h : tupD d = tabD T) : (itemsD d).length = T.length := by
  have := congrArg List.length (items_map h).2
  rwa [List.length_map, List.length_map] at this
theorem pairs_map {d : PyData} {T : List Pc} (h : tupD d = tabD T) : (itemsD d).map pairOf = T.map pairD := by
  apply List.ext_getElem?
  intro i
  rw [List.getElem?_map, List.getElem?_map]
  cases q : (itemsD d)[i]? with
  | none =>
    have := List.getElem?_eq_none_iff.mp q
    rw [items_len h] at this
    rw [List.getElem?_eq_none_iff.mpr this]
    rfl
  | some x =>
    obtain ⟨p, hp, e⟩ := item_pc h q
    rw [hp]
    show some (pairOf x) = some (pairD p)
    rw [pair_of e]
theorem table_sort {d : PyData} {T : List Pc} (h : isTableD d = true) (e : tupD d = tabD T) : TSort T := by
  unfold isTableD at h
  rw [Bool.and_eq_true, pairs_map e] at h
  have := rising_pw _ h.2
  rw [List.pairwise_map] at this
  exact this
theorem tup_pc (p : Pc) : tupD (pcD p) = pcD p := rfl
theorem tup_tab (T : List Pc) : tupD (tabD T) = tabD T := by
  show PyData.tuple (tupAll (T.map pcD)) = .tuple (T.map pcD)
  rw [tupAll_map, List.map_map]
  rfl
theorem pc_fault {p : Pc} (h : p.1.length ≤ 2 ∧ p.2.1.length ≤ 2 ∧ p.1 ≠ p.2.1 ∧ 1 ≤ p.2.2 ∧ p.2.2 ≤ 9) (g : (∀ c ∈ p.1, c ∈ letters) ∧ ∀ c ∈ p.2.1, c ∈ letters) : isFaultD (pcD p) = true := by
  have e : isFaultD (pcD p) = (isPieceD (.str (S p.1)) && isPieceD (.str (S p.2.1)) && !(PyData.eqv (.str (S p.1)) (.str (S p.2.1))) && isWholeD 1 9 (.int p.2.2)) := rfl
  rw [e, piece_of (by rw [s_len]; exact h.1) (by rw [s_list]; exact g.1), piece_of (by rw [s_len]; exact h.2.1) (by rw [s_list]; exact g.2), eqv_str, s_eq, decide_eq_false h.2.2.1]
  show (decide (1 ≤ p.2.2) && decide (p.2.2 ≤ 9)) = true
  rw [decide_eq_true h.2.2.2.1, decide_eq_true h.2.2.2.2]
  rfl
theorem tab_table {T : List Pc} (h : TabOk T) (s : TSort T) : isTableD (tabD T) = true := by
  unfold isTableD
  rw [pairs_map (tup_tab T), pw_rising _ (List.pairwise_map.mpr s)]
  have h1 : itemsD (tabD T) = T.map pcD := rfl
  have h2 : isSeqD (tabD T) = true := rfl
  rw [h1, h2, List.length_map, decide_eq_true h.len, List.all_eq_true.mpr fun x hx => ?_]
  · rfl
  · obtain ⟨p, hp, rfl⟩ := List.mem_map.mp hx
    exact pc_fault (h.pc p hp) (h.lt p hp)
theorem TabOk.sub {T T' : List Pc} (h : TabOk T) (s : T'.Sublist T) : TabOk T' := ⟨Nat.le_trans s.length_le h.len, fun p hp => h.pc p (s.subset hp), fun p hp => h.lt p (s.subset hp)⟩
theorem TSort.sub {T T' : List Pc} (h : TSort T) (s : T'.Sublist T) : TSort T' := List.Pairwise.sublist s h
theorem TSort.nodup {T : List Pc} (h : TSort T) : T.Nodup := List.Pairwise.imp (fun {a b} (hl : PySem.W.dataLt (pairD a) (pairD b) = true) e => by rw [e, lt_irr] at hl; cases hl) h
/-- two sorted tables with the same faults are the same -/
theorem sort_eq : ∀ {A B : List Pc}, TSort A → TSort B → (∀ p, p ∈ A ↔ p ∈ B) → A = B
  | [], [], _, _, _ => rfl
  | [], b :: B, _, _, h => absurd ((h b).mpr List.mem_cons_self) (by simp)
  | a :: A, [], _, _, h => absurd ((h a).mp List.mem_cons_self) (by simp)
  | a :: A, b :: B, sa, sb, h => by
    obtain ⟨a1, a2⟩ := List.pairwise_cons.mp sa
    obtain ⟨b1, b2⟩ := List.pairwise_cons.mp sb
    have e : a = b := by
      rcases List.mem_cons.mp ((h a).mp List.mem_cons_self) with e | e
      · exact e
      · rcases List.mem_cons.mp ((h b).mpr List.mem_cons_self) with e' | e'
        · exact e'.symm
        · have x := lt_trans (b1 a e) (a1 b e')
          rw [lt_irr] at x
          cases x
    subst e
    rw [sort_eq a2 b2 fun p => ⟨fun hp => ?_, fun hp => ?_⟩]
    · rcases List.mem_cons.mp ((h p).mp (List.mem_cons_of_mem _ hp)) with e | e
      · have x := a1 p hp
        rw [e, lt_irr] at x
        cases x
      · exact e
    · rcases List.mem_cons.mp ((h p).mpr (List.mem_cons_of_mem _ hp)) with e | e
      · have x := b1 p hp
        rw [e, lt_irr] at x
        cases x
      · exact e
theorem PriceIs.congr {T T' : List Pc} (h : ∀ p, p ∈ T ↔ p ∈ T') {W X : List Nat} {o : Option Int} (g : PriceIs T W X o) : PriceIs T' W X o := by
  cases o with
  | none => exact fun c w => g c (w.sub fun p hp => (h p).mpr hp)
  | some c => exact ⟨g.1.sub fun p hp => (h p).mp hp, fun c' w => g.2 c' (w.sub fun p hp => (h p).mpr hp)⟩
/-- without the i-th -/
def less (T : List Pc) (i : Nat) : List Pc := T.take i ++ T.drop (i + 1)
theorem less_sub (T : List Pc) (i : Nat) : (less T i).Sublist T := by
  unfold less
  rw [← List.eraseIdx_eq_take_drop_succ]
  exact List.eraseIdx_sublist ..
theorem mem_less {T : List Pc} (nd : T.Nodup) {i : Nat} {p : Pc} (h : T[i]? = some p) (q : Pc) : q ∈ less T i ↔ q ∈ rem T p := by
  have e : T = T.take i ++ p :: T.drop (i + 1) := by
    obtain ⟨hi, rfl⟩ := List.getElem?_eq_some_iff.mp h
    rw [List.getElem_cons_drop, List.take_append_drop]
  rw [e] at nd
  obtain ⟨_, n2, n3⟩ := List.nodup_append.mp nd
  have n2' := (List.nodup_cons.mp n2).1
  rw [mem_rem]
  unfold less
  constructor
  · intro hq
    rcases List.mem_append.mp hq with hq | hq
    · exact ⟨List.mem_of_mem_take hq, fun z => n3 q hq p List.mem_cons_self z⟩
    · exact ⟨List.mem_of_mem_drop hq, fun z => n2' (z ▸ hq)⟩
  · rintro ⟨hq, hne⟩
    rw [e] at hq
    rcases List.mem_append.mp hq with hq | hq
    · exact List.mem_append_left _ hq
    · rcases List.mem_cons.mp hq with hq | hq
      · exact absurd hq hne
      · exact List.mem_append_right _ hq
theorem least_sublist (T : List Pc) : (least T).Sublist T := List.filter_sublist
theorem TabOk.size {T : List Pc} (h : TabOk T) : ∀ q ∈ T, sizeP q ≤ 4 := fun q hq => by
  have := h.pc q hq
  unfold sizeP
  omega
theorem TabOk.one {T : List Pc} (h : TabOk T) : ∀ p ∈ T, 1 ≤ p.2.2 := fun p hp => (h.pc p hp).2.2.2.1
/-- the least table of one with more -/
theorem More.least {T M : List Pc} (hT : TabOk T) (sT : TSort T) (sM : TSort M) (h : More (least T) M) : Slip.least M = Slip.least T :=
  sort_eq (sM.sub (least_sublist M)) (sT.sub (least_sublist T)) fun p => by
    rw [mem_least]
    exact ⟨fun hp => (h.keep hT.one hp.1).mp hp.2, fun hp => ⟨h.sub p hp, (h.keep hT.one (h.sub p hp)).mpr hp⟩⟩
end Slip
/-! enumerate(a tuple) -/
namespace Slip
open PySem PySem.Spec PyProof.Rows L2
set_option maxHeartbeats 8000000 in
theorem enum_newB {v : Value} {o : Obj} {Z : Heap → Prop} (B : Begins v o Z) : Meets (Builtin.«enumerate.__new__» ⟨[.type "enumerate", v], []⟩) fun _ R s => Z s.heap ∧
    R (.ok (.ret (.ref (s.heap.push o).objs.size))) { s with heap := (s.heap.push o).push { cls := .type "enumerate", data := .fields #[.none, .bool false, .ref s.heap.objs.size, rawInt 0, .none, .none] } } :=
  .of_wp fun prog w A R s h => by
    obtain ⟨hp, g, d, tk, os⟩ := s
    obtain ⟨hZ, hR⟩ := h
    have hsub := sub_enumerate
    have go : ∀ {A' : Around} {E Q}, Q (Value.ref hp.objs.size) ⟨hp.push o, g, d, tk, os⟩ → wpAny (model prog w) A' (pyIter v) Q E ⟨hp, g, d, tk, os⟩ := fun q => B.iter prog w _ _ ⟨hp, g, d, tk, os⟩ _ hZ q
    wp_walk using go
    refine wpAny_stack_any fun st => wpAny_pure ?_
    split
    · rename_i c _ _ _ _ _
      cases (c == Value.type "enumerate") <;> (wp_walk using go; exact ⟨_, rfl, hR⟩)
    · wp_walk using go
      exact ⟨_, rfl, hR⟩
theorem drawsT {prog : Program} {w : World} {A : Around} (hh : A.handled = none) (it t : Addr) (hne : t ≠ it) (items : Array Value) :
    Draws prog w A it [it, t] items.size (fun i v => items[i]? = some v) (fun i h => h.IsTupleIter it t i ∧ h.IsTuple t items) where
  live := fun _ _ st => let ⟨o, ho, _⟩ := st.1; ⟨o, ho⟩
  frame := fun _ _ _ st hk => ⟨st.1.at fun o e => hk it (by simp) o e, let ⟨o, ho, r⟩ := st.2; ⟨o, hk t (by simp) o ho, r⟩⟩
  item := fun i s Q E hi st hQ => wpAny_nextOf_tuple_item st.1 st.2 (x := items[i]) (by simp [hi]) fun h' hit' hs' => hQ _ h' s.toks (by simp [hi]) ⟨hit', let ⟨o, ho, r⟩ := st.2; ⟨o, (hs'.2 t hne).trans ho, r⟩⟩ hs'
  done := fun s Q E st hE => wpAny_nextOf_tuple_end hh st.1 st.2 (by simp) hE
section
variable {prog : Program} {w : World} {A : Around} {E : Value → Shared → Prop} {s : Shared}
theorem call_enumT {t : Addr} {items : Array Value} {Q : Value → Shared → Prop} (hT : s.heap.IsTuple t items)
    (h : ∀ h', IsEnum h' (s.heap.objs.size + 1) s.heap.objs.size 0 .none → h'.IsTupleIter s.heap.objs.size t 0 → (∀ b o, s.heap.get? b = some o → h'.get? b = some o) → Q (.ref (s.heap.objs.size + 1)) { s with heap := h' }) :
    wpAny (model prog w) A (call (.type "enumerate") [.ref t]) Q E s := by
  refine callType_new PySem.F.called_enumerate (by decide) (PySem.F.typeCall_enumerate_1 _) (PySem.F.newCall_enumerate_1 _) (fun obj => PySem.F.args_object_init_2 obj _) PySem.F.entry_enumerate_new (enum_newB (begins_tuple t items)) ⟨hT, ?_⟩
  have hz : (s.heap.push { cls := .type "tuple_iterator", data := .fields #[.ref t, .int 0 0] }).objs.size = s.heap.objs.size + 1 := Heap.size_push ..
  show _ ∧ _
  rw [hz]
  have he : IsEnum ((s.heap.push { cls := .type "tuple_iterator", data := .fields #[.ref t, .int 0 0] }).push { cls := .type "enumerate", data := .fields #[.none, .bool false, .ref s.heap.objs.size, rawInt 0, .none, .none] }) (s.heap.objs.size + 1) s.heap.objs.size 0 .none := by
    rw [← hz]
    exact Heap.get?_push_size _ rfl
  exact ⟨⟨_, he, rfl⟩, h _ he ⟨_, Heap.get?_push_of_some _ (Heap.get?_push_size _ rfl), rfl, rfl⟩ fun b o x => Heap.get?_push_of_some _ (Heap.get?_push_of_some _ x)⟩
end
/-- the tuple at a, each item in a new pair -/
def IteT (K : Frag) (a : Addr) : It :=
  ⟨fun i H => ∃ (xs : List V) (x : V), SqT K H a xs ∧ xs[i]? = some x, fun i H v H' => ∃ T x, v = .ref T ∧ H T = none ∧ H' = upd H T (.tup [.int (i : Nat), x]) ∧ ∀ xs, SqT K H a xs → xs[i]? = some x, fun i H => ∃ xs : List V, SqT K H a xs ∧ xs.length = i⟩
theorem turn_enumT {P : Program} {w : World} {K : Frag} {elts : List Expr} {kk : Nat} {tpos : Pos} (a e it : Addr) :
    Turn P w K (.Tuple elts kk tpos) (IteT K a) [e, it] e (fun i h => (∃ old, IsEnum h e it ((i : Nat) : Int) old) ∧ h.IsTupleIter it a i ∧ e ≠ it ∧ a ≠ it ∧ a ≠ e) where
  mem := by simp
  obj := fun i h st b hb => by
    obtain ⟨⟨old, he⟩, ⟨o, ho, hc, hd⟩, _⟩ := st
    have e' : b = e ∨ b = it := by simpa using hb
    rcases e' with z | z
    · rw [z]; exact ⟨_, he, fun v q => nomatch q⟩
    · rw [z]; exact ⟨o, ho, fun v q => by rw [hd] at q; cases q⟩
  keep := fun i h h' st k => let ⟨⟨old, he⟩, hi, hne⟩ := st; ⟨⟨old, k e (by simp) _ he⟩, hi.at fun o q => k it (by simp) o q, hne⟩
  item := by
    intro X hP hw hK hc i pins s σ H E I hf st hg
    subst hP hw hK
    obtain ⟨⟨old, he⟩, hit, hne, ha1, ha2⟩ := st
    obtain ⟨xs, x, hq, hx⟩ := hg
    obtain ⟨its, rv, p, hz⟩ := I.tuple hq
    obtain ⟨u, hu, ru⟩ := rv.get hx
    have hel : e < s.heap.objs.size := Heap.lt_size he
    have hil : it < s.heap.objs.size := by obtain ⟨_, q, _⟩ := hit; exact Heap.lt_size q
    have hD := drawsT (prog := X.prog) (w := X.w) (A := X.A.in1) (show X.A.in1.handled = none from I.ok.hd hc) it a ha1 its.toArray
    have hlt : i < its.toArray.size := by
      have := (List.getElem?_eq_some_iff.mp hu).1
      simpa using this
    refine wpAny_pyNext_enum_itemD hD he ⟨hit, (show s.heap.IsTuple a its.toArray from p)⟩ hlt hne (by simp [hne, Ne.symm ha2]) fun y h' tk hy ho ⟨hit', _⟩ hT hsz hk => ?_
    have ey : y = u := by
      rw [List.getElem?_toArray, hu] at hy
      exact (Option.some.inj hy).symm
    subst ey
    refine ⟨_, rfl, wpAny_letOwnedTupleGo_enum (s := { s with heap := h', toks := tk + 1 }) ho fun h'' he' sb => ?_⟩
    have hT2 : h''.get? s.heap.objs.size = some { cls := .type "tuple", data := .seq #[.int i tk, y] } := (sb.2 _ (Nat.ne_of_gt hel)).trans hT
    have new : ObjOk X.prog X.w (upd H s.heap.objs.size (.tup [.int (i : Nat), x])) h'' s.heap.objs.size (.tup [.int (i : Nat), x]) :=
      ⟨by show 2 ≤ sizeLine; decide, [.int i tk, y], .cons ⟨_, rfl⟩ (.cons ru .nil), ⟨_, hT2, rfl, _, rfl⟩⟩
    have I1 : Inv X pins σ (upd H s.heap.objs.size (.tup [.int (i : Nat), x])) { s with heap := h'', toks := tk + 1 } :=
      I.turnedNew (ch := [e, it]) (fun b ob hb q => (sb.2 b (fun z => hb (by simp [z]))).trans (hk b ob (fun z => hb (by simp [z])) (fun z => hb (by simp [z])) q)) hf (Nat.le_refl _) new
    refine ⟨.ref s.heap.objs.size, _, I1, rfl, ⟨_, x, rfl, I.hok.fresh (Nat.le_refl _), rfl, fun ys hy => by rw [I.tuple_inj hy hq]; exact hx⟩, ⟨⟨y, ?_⟩, hit'.at fun o q => (sb.2 it (Ne.symm hne)).trans q, hne, ha1, ha2⟩, fun b hb => ?_⟩
    · have e1 : ((i + 1 : Nat) : Int) = (i : Int) + 1 := by omega
      rw [e1]; exact he'
    · have hb' : b < s.heap.objs.size := by
        have e' : b = e ∨ b = it := by simpa using hb
        rcases e' with z | z
        · rw [z]; exact hel
        · rw [z]; exact hil
      rw [upd_ne (Nat.ne_of_lt hb')]
      exact (hf b hb).1
  done := by
    intro X hP hw hK hc i pins s σ H E I hf st hg
    subst hP hw hK
    obtain ⟨⟨old, he⟩, hit, hne, ha1, ha2⟩ := st
    obtain ⟨xs, hq, hx⟩ := hg
    obtain ⟨its, rv, p, hz⟩ := I.tuple hq
    obtain ⟨f0, f1, f2, f3, f4, f5⟩ := hf it (by simp)
    have hl := rv.length
    have hD := drawsT (prog := X.prog) (w := X.w) (A := X.A.in1) (show X.A.in1.handled = none from I.ok.hd hc) it a ha1 its.toArray
    have hn : its.toArray.size = i := by simp; omega
    exact wpAny_pyNext_enum_endD hD he ⟨by rw [hn]; exact hit, show s.heap.IsTuple a its.toArray from p⟩ fun h' eb => ⟨rfl, I.turned (t' := s.toks) (fun b o hb q => eb b o hb q) f0 f1 f3 f4 f5⟩
  self := fun A i s Q E st h => let ⟨⟨_, he⟩, _⟩ := st; wpAny_pyIter_enum he h
def iEnumT (K : Frag) (ta : TA) : TI := fun σ H R => ta σ H fun vs H1 => ∃ a xs, vs = [.ref a] ∧ SqT K H1 a xs ∧ R (IteT K a) H1
theorem pi_enumT {X : Cx} {e : Expr} {ta : TA} {p pos tpos : Pos} {elts : List Expr} {kk : Nat} (hg : Gl X "enumerate") (hm : X.mg "enumerate" = none) (ha : PA X [e] ta) (hs : starEach [e] X.env = [(false, eval e X.env)] := by rfl) :
    PI X (.Tuple elts kk tpos) (.Call (.Name "enumerate" p) [e] [] pos) (iEnumT X.K ta) := by
  refine ⟨fun pins s σ H R I h => ?_⟩
  refine Call_ (ld_blt I hg hm boot_enumerate (PyProof.Rows.callWith_type1 (thn (ha.run pos pins s σ H _ I h) fun us s1 ⟨vs, H1, I1, r1, q1⟩ => ?_) hs rfl))
  obtain ⟨a, xs, ex, hq, q⟩ := q1
  subst ex
  cases r1 with
  | cons r rr =>
    cases rr
    cases r
    obtain ⟨its, rv, p', hz⟩ := I1.tuple hq
    have hlt : a < s1.heap.objs.size := by obtain ⟨_, q, _⟩ := p'; exact Heap.lt_size q
    refine call_enumT (show s1.heap.IsTuple a its.toArray from p') fun h' he hit hk => wpAny_pyIter_enum he ?_
    have I2 : Inv X pins σ H1 { s1 with heap := h' } := I1.kept (t' := s1.toks) hk
    refine ⟨s1.heap.objs.size + 1, [s1.heap.objs.size + 1, s1.heap.objs.size], _, _, H1, rfl, I2, turn_enumT a (s1.heap.objs.size + 1) s1.heap.objs.size, ⟨⟨.none, he⟩, hit, Nat.succ_ne_self _, Nat.ne_of_lt hlt, Nat.ne_of_lt (Nat.lt_succ_of_lt hlt)⟩, fun b hb => ?_, q⟩
    have e' : b = s1.heap.objs.size + 1 ∨ b = s1.heap.objs.size := by simpa using hb
    have hle : s1.heap.objs.size ≤ b := by
      rcases e' with z | z
      · rw [z]; exact Nat.le_add_right _ _
      · rw [z]; exact Nat.le_refl _
    exact I1.fpOk hle (I1.hok.fresh hle)
/-- enumerate of a list or a tuple -/
def iEnumU (K : Frag) (ta : TA) : TI := fun σ H R => iEnum K ta σ H R ∨ iEnumT K ta σ H R
theorem pi_enumU {X : Cx} {e : Expr} {ta : TA} {p pos tpos : Pos} {elts : List Expr} {kk : Nat} (hg : Gl X "enumerate") (hm : X.mg "enumerate" = none) (ha : PA X [e] ta) (hs : starEach [e] X.env = [(false, eval e X.env)] := by rfl) :
    PI X (.Tuple elts kk tpos) (.Call (.Name "enumerate" p) [e] [] pos) (iEnumU X.K ta) := pi_alt (pi_enum hg hm ha hs) (pi_enumT hg hm ha hs)
end Slip
/-! the law's rows of prices -/
namespace Slip
open PySem PySem.Spec PyProof.Rows L2
theorem Dpi.weaken {T : List Pc} {W X : List Nat} {G : Nat → Nat → Option Int} {dn dn' : Nat → Nat → Prop} (D : Dpi T W X G dn) (h : ∀ a b c, dn' a b → G a b = some c → dn a b) : Dpi T W X G dn' :=
  ⟨D.g1, fun i j c hd e => D.g2 i j c (h i j c hd e) e, D.g3⟩
/-- the dict's numbers -/
def GT (kvs : List (List Key × V)) (G : Nat → Nat → Option Int) : Prop := ∀ i j : Nat, valV kvs (kk (i, j)) = (G i j).map V.int
theorem GT.put {kvs : List (List Key × V)} {G : Nat → Nat → Option Int} (g : GT kvs G) (a b : Nat) (c : Int) : GT (putK kvs (kk (a, b)) (.int c)) (put G a b c) := fun i j => by
  rw [valV_put]
  unfold Slip.put
  by_cases h : i = a ∧ j = b
  · rw [if_pos (kk_inj.mpr (Prod.ext h.1 h.2)), if_pos h]
    rfl
  · rw [if_neg (fun z => h ⟨congrArg Prod.fst (kk_inj.mp z), congrArg Prod.snd (kk_inj.mp z)⟩), if_neg h]
    exact g i j
theorem GT.some {kvs : List (List Key × V)} {G : Nat → Nat → Option Int} (g : GT kvs G) {i j : Nat} : (valV kvs (kk (i, j))).isSome = (G i j).isSome := by
  rw [g i j]
  cases G i j <;> rfl
def dn (t i : Nat) (a b : Nat) : Prop := a + b < t ∨ (a + b = t ∧ a < i)
/-- what is asked of the law's price -/
structure AskL (H : Hp) (v : V) (T : List Pc) (W X : List Nat) : Prop where
  dd : DS exR H v (tabD T)
  ok : TabOk T
  wl : W.length ≤ 100
  xl : X.length ≤ 100
def sp__law_price_rows (K : Frag) : Sp := fun vs H Q _ => ∃ (v : V) (T : List Pc) (W X : List Nat), vs = [v, .str (S W), .str (S X)] ∧ AskL H v T W X ∧ ∀ D kvs G H', H D = none → Ext H H' → H' D = some (.dT kvs) → GT kvs G → PriceIs T W X (G W.length X.length) → Q (.ref D) H'
def sp__law_price (K : Frag) : Sp := fun vs H Q _ => ∃ (v : V) (T : List Pc) (W X : List Nat), vs = [v, .str (S W), .str (S X)] ∧ AskL H v T W X ∧ ∀ o H', Ext H H' → PriceIs T W X o → Q (optI o) H'
theorem len__law_price_rows {K : Frag} {vs : List V} {H : Hp} {Q : VK} {E : XK} (h : sp__law_price_rows K vs H Q E) : vs.length = 3 := by
  obtain ⟨v, T, W, X, rfl, _⟩ := h
  rfl
theorem len__law_price {K : Frag} {vs : List V} {H : Hp} {Q : VK} {E : XK} (h : sp__law_price K vs H Q E) : vs.length = 3 := by
  obtain ⟨v, T, W, X, rfl, _⟩ := h
  rfl
def t__law_price_rows (K : Frag) : TS := (tSeq (tAsg (tDispT (tTup (tCons (tC (.int 0)) (tCons (tC (.int 0)) tNil))) (tC (.int 0))) (gName 3)) (tSeq (tFor (iRng1 (tCons (tOp (rAddU K) (tOp (rAddU K) (tCB (rLenU K) (tCons (tVar 1) tNil)) (tCB (rLenU K) (tCons (tVar 2) tNil))) (tC (.int 1))) tNil)) (gName 4) (tFor (iRng1 (tCons (tOp (rAddU K) (tCB rMin2' (tCons (tVar 4) (tCons (tCB (rLenU K) (tCons (tVar 1) tNil)) tNil))) (tC (.int 1))) tNil)) (gName 5) (tSeq (tAsg (tOp rSubI (tVar 4) (tVar 5)) (gName 6)) (tIfS (tTest (tOp (rInU K) (tTup (tCons (tVar 5) (tCons (tVar 6) tNil))) (tVar 3))) (tSeq (tAsg (tIxU K (tVar 3) (tTup (tCons (tVar 5) (tCons (tVar 6) tNil)))) (gName 7)) (tSeq (tAsg (tLc (iSeq K (tVar 0)) (gName 9) (tAnd (tTest (tOp (rEqU K) (tSl (rSlU K) (tVar 1) (tPart (tVar 5)) (tPart (tOp (rAddU K) (tVar 5) (tCB (rLenU K) (tCons (tIxU K (tVar 9) (tC (.int 0))) tNil))))) (tIxU K (tVar 9) (tC (.int 0))))) (tTest (tOp (rEqU K) (tSl (rSlU K) (tVar 2) (tPart (tVar 6)) (tPart (tOp (rAddU K) (tVar 6) (tCB (rLenU K) (tCons (tIxU K (tVar 9) (tC (.int 1))) tNil))))) (tIxU K (tVar 9) (tC (.int 1)))))) (tVar 9) [9]) (gName 8)) (tSeq (tIfS (tAnd (tTest (tOp (rCmp K gLt) (tVar 5) (tCB (rLenU K) (tCons (tVar 1) tNil)))) (tAnd (tTest (tOp (rCmp K gLt) (tVar 6) (tCB (rLenU K) (tCons (tVar 2) tNil)))) (tTest (tOp (rEqU K) (tIxU K (tVar 1) (tVar 5)) (tIxU K (tVar 2) (tVar 6)))))) (tDrop (tBM K "list" rAppend (tVar 8) (tCons (tTup (tCons (tIxU K (tVar 1) (tVar 5)) (tCons (tIxU K (tVar 1) (tVar 5)) (tCons (tC (.int 0)) tNil)))) tNil))) tNext) (tFor (iSeq K (tVar 8)) (gName 9) (tSeq (tAsg (tTup (tCons (tOp (rAddU K) (tVar 5) (tCB (rLenU K) (tCons (tIxU K (tVar 9) (tC (.int 0))) tNil))) (tCons (tOp (rAddU K) (tVar 6) (tCB (rLenU K) (tCons (tIxU K (tVar 9) (tC (.int 1))) tNil))) tNil))) (gName 10)) (tIfS (tOr (tTest (tOp (rNotInU K) (tVar 10) (tVar 3))) (tTest (tOp (rCmp K gLt) (tOp (rAddU K) (tVar 7) (tIxU K (tVar 9) (tC (.int 2)))) (tIxU K (tVar 3) (tVar 10))))) (tAsg (tOp (rAddU K) (tVar 7) (tIxU K (tVar 9) (tC (.int 2)))) (gSub (tVar 3) (tVar 10) (rSetU K))) tNext)))))) tNext)))) (tRet (tVar 3))))
def t__law_price (K : Frag) : TS := (tSeq (tAsg (tCall (sp__law_price_rows K) [] E0 (tCons (tVar 0) (tCons (tVar 1) (tCons (tVar 2) tNil)))) (gName 3)) (tRet (tIf (tTest (tOp (rInU K) (tTup (tCons (tCB (rLenU K) (tCons (tVar 1) tNil)) (tCons (tCB (rLenU K) (tCons (tVar 2) tNil)) tNil))) (tVar 3))) (tIxU K (tVar 3) (tTup (tCons (tCB (rLenU K) (tCons (tVar 1) tNil)) (tCons (tCB (rLenU K) (tCons (tVar 2) tNil)) tNil)))) (tC .non))))
section
variable {ρ : Rl} {K : Frag} {σ : L2.St} {H : Hp} {ta tb : TE}
theorem ev_min2 {i j : Int} (h1 : EvV ρ ta σ H (.int i)) (h2 : EvV ρ tb σ H (.int j)) : EvV ρ (tCB rMin2' (tCons ta (tCons tb tNil))) σ H (.int (if j < i then j else i)) := ev_cbV (ea_cons h1 (ea_cons h2 ea_nil)) fun H1 _ Q q => ⟨i, j, rfl, q _ H1 .rfl rfl⟩
theorem ev_lenSS {Z : List Nat} (h : EvV ρ ta σ H (.str (S Z))) (hz : Z.length ≤ 1000) : EvV ρ (tCB (rLenU K) (tCons ta tNil)) σ H (.int (Z.length : Int)) := (ev_lenS h (by rw [s_len]; omega)).val (by rw [s_len])
end
theorem pure__law_price {K : Frag} (vs : List V) (H : Hp) (Q : VK) (E : XK) (h : sp__law_price K vs H Q E) : t__law_price K { nx := fun _ H' => Q .non H', rt := Q } (start ["table", "word", "text", "made"] vs) H := by
  obtain ⟨v, T, W, X, rfl, A, k⟩ := h
  have hW := A.wl
  have hX := A.xl
  refine q_asg (ρ := exR) (R := fun v' H' => ∃ D kvs G, v' = .ref D ∧ H' D = some (.dT kvs) ∧ GT kvs G ∧ PriceIs T W X (G W.length X.length)) (ev_call (ea_cons (ev_var rfl) (ea_cons (ev_var (v := .str (S W)) rfl) (ea_cons (ev_var (v := .str (S X)) rfl) ea_nil))) fun H2 e2 Q' q' E' => ⟨v, T, W, X, rfl, ⟨e2.ds A.dd, A.ok, A.wl, A.xl⟩, fun D kvs G H' _ e hD hG hp => q' _ H' (Ext.r e) ⟨D, kvs, G, rfl, hD, hG, hp⟩⟩) fun v1 H1 e1 ⟨D, kvs, G, ev, hD, hG, hp⟩ => ?_
  subst ev
  have key : ∀ {H3 : Hp}, Ev exR (tTup (tCons (tCB (rLenU K) (tCons (tVar 1) tNil)) (tCons (tCB (rLenU K) (tCons (tVar 2) tNil)) tNil))) [some v, some (.str (S W)), some (.str (S X)), some (.ref D)] H3 (fun v H' => ∃ q, v = .ref q ∧ H' q = some (.tup ((kk (W.length, X.length)).map kV))) := fun {H3} => ev_keyI2 (ev_lenSS (ev_var rfl) (by omega)) (ev_lenSS (ev_var rfl) (by omega))
  refine s_ret (ρ := exR) (R := fun u _ => u = optI (G W.length X.length)) (ev_if (et_test ((ev_inT (k := kk (W.length, X.length)) key (ev_var rfl) fun H3 e3 => e3.ext _ _ hD).val (by rw [hG.some]))) (fun hb => ?_) fun hb => ?_) fun u H3 e3 eu => ?_
  · obtain ⟨c, hc⟩ := Option.isSome_iff_exists.mp hb
    refine (ev_getT (k := kk (W.length, X.length)) (v := .int c) (ev_var rfl) key (fun H3 e3 => e3.ext _ _ hD) (by rw [hG, hc]; rfl)).imp fun u H3 _ eu => ?_
    rw [eu, hc]
    rfl
  · refine (ev_c (v := .non)).imp fun u H3 _ eu => ?_
    rw [eu]
    cases q : G W.length X.length with
    | none => rfl
    | some z => rw [q] at hb; cases hb
  · subst eu
    exact k _ H3 (e1.trans e3).ext hp
/-- the pieces that the law takes at a place -/
structure StepsAt (T : List Pc) (W X : List Nat) (i j : Nat) (ps : List Pc) : Prop where
  sub : ∀ p ∈ ps, p ∈ pcsAt T W i ∧ at_ X j p.2.1 = true
  all : ∀ p ∈ pcsAt T W i, at_ X j p.2.1 = true → p ∈ ps
  len : ps.length ≤ 9
  sz : ∀ p ∈ ps, p.1.length ≤ 1000 ∧ p.2.1.length ≤ 1000
theorem at_one {X : List Nat} {j c : Nat} : at_ X j [c] = true ↔ X[j]? = some c := by
  unfold at_
  rw [decide_eq_true_eq]
  constructor
  · intro h
    have h2 := congrArg (fun l : List Nat => l[0]?) h
    have h3 : ((X.drop j).take 1)[0]? = some c := h2
    rw [List.getElem?_take_of_lt (by decide), List.getElem?_drop, Nat.add_zero] at h3
    exact h3
  · intro h
    obtain ⟨hlt, e⟩ := List.getElem?_eq_some_iff.mp h
    show (X.drop j).take 1 = [c]
    rw [List.drop_eq_getElem_cons hlt, e]
    rfl
theorem s_steps {K : Frag} {E : Ends} {H5 : Hp} {v : V} {T : List Pc} {W X : List Nat} {D p8 : Addr} {t i j : Nat} {c : Int} {zs : List V} {ps : List Pc} {kvs : List (List Key × V)} {G : Nat → Nat → Option Int} {u9 u10 : Option V} (hC : Costs T) (hD : H5 D = some (.dT kvs)) (hG : GT kvs G) (hI : Dpi T W X G (dn t i)) (hij : i + j = t) (hc : G i j = some c) (h8 : H5 p8 = some (.lst zs)) (n8 : p8 ≠ D) (hzs : DSs exR H5 zs (ps.map pcD)) (hs : StepsAt T W X i j ps) (hl : kvs.length ≤ 500000)
    (k : ∀ H' w9 w10 kvs' G', (exR.and D).r H5 H' → H' D = some (.dT kvs') → GT kvs' G' → Dpi T W X G' (dn t (i + 1)) → kvs'.length ≤ kvs.length + 9 → E.nx [some v, some (.str (S W)), some (.str (S X)), some (.ref D), some (.int t), some (.int i), some (.int j), some (.int c), some (.ref p8), w9, w10] H') :
    (tFor (iSeq K (tVar 8)) (gName 9) (tSeq (tAsg (tTup (tCons (tOp (rAddU K) (tVar 5) (tCB (rLenU K) (tCons (tIxU K (tVar 9) (tC (.int 0))) tNil))) (tCons (tOp (rAddU K) (tVar 6) (tCB (rLenU K) (tCons (tIxU K (tVar 9) (tC (.int 1))) tNil))) tNil))) (gName 10)) (tIfS (tOr (tTest (tOp (rNotInU K) (tVar 10) (tVar 3))) (tTest (tOp (rCmp K gLt) (tOp (rAddU K) (tVar 7) (tIxU K (tVar 9) (tC (.int 2)))) (tIxU K (tVar 3) (tVar 10))))) (tAsg (tOp (rAddU K) (tVar 7) (tIxU K (tVar 9) (tC (.int 2)))) (gSub (tVar 3) (tVar 10) (rSetU K))) tNext))) E [some v, some (.str (S W)), some (.str (S X)), some (.ref D), some (.int t), some (.int i), some (.int j), some (.int c), some (.ref p8), u9, u10] H5 := by
  have hzl : zs.length = ps.length := by rw [hzs.length, List.length_map]
  refine s_forw (ρ := exR) (ρw := exR.and D) (ew_seq (a := p8) (xs := zs) (fun _ _ e => and_of e) (ev_var rfl) fun H1 e => .of (e.keep _ _ (fun z => z.elim (fun z => z) n8) h8)) fun H6 e6 => ⟨fun m σ' H' => (exR.and D).r H6 H' ∧ ∃ (w9 w10 : Option V) (kvs' : List (List Key × V)) (G' : Nat → Nat → Option Int), σ' = [some v, some (.str (S W)), some (.str (S X)), some (.ref D), some (.int t), some (.int i), some (.int j), some (.int c), some (.ref p8), w9, w10] ∧ H' D = some (.dT kvs') ∧ GT kvs' G' ∧ Dpi T W X G' (dn t i) ∧ G' i j = some c ∧ kvs'.length ≤ kvs.length + m ∧ ∀ p ∈ ps.take m, ∃ c', G' (i + p.1.length) (j + p.2.1.length) = some c' ∧ c' ≤ c + p.2.2, ⟨.rfl, _, _, kvs, G, rfl, e6.ext _ _ hD, hG, hI, hc, Nat.le_refl _, fun p hp => by cases hp⟩, fun m σ' H' _ p => p.1, ?_, ?_⟩
  · rintro m y σ' H7 H8 hm ⟨r, w9, w10, kvs', G', rfl, hD', hG', hI', hc', hl', hps⟩ ⟨e5, hy⟩
    subst e5
    obtain ⟨dp, hdp, hDS⟩ := DqAll.get hzs hy
    rw [List.getElem?_map] at hdp
    obtain ⟨p, hp, rfl⟩ := Option.map_eq_some_iff.mp hdp
    have hmem : p ∈ ps := List.mem_of_getElem? hp
    obtain ⟨hp1, hp2⟩ := hs.sub p hmem
    have hsz := hs.sz p hmem
    have hpos : 0 < p.1.length + p.2.1.length := (pc_cost hC hp1).2
    obtain ⟨cp, rfl, hcp⟩ := pc_tup (hDS.tups (fun a xs z => r.tup _ _ (e6.tup _ _ z)) _ _ (nl_pc p))
    have htk : ps.take (m + 1) = ps.take m ++ [p] := by rw [List.take_add_one, hp]; rfl
    have sq : ∀ {H9 : Hp}, exR.r H8 H9 → SqA K H9 cp [.str (S p.1), .str (S p.2.1), .int p.2.2] := fun e9 => .inr (.inl (.inl (e9.tup _ _ hcp)))
    refine q_asg (ρ := exR) (ev_keyI2 (i := ((i + p.1.length : Nat) : Int)) (j := ((j + p.2.1.length : Nat) : Int)) ((ev_add (ev_var rfl) (ev_lenSS (Z := p.1) (ev_ix (n := 0) (ev_var rfl) ev_c (fun H9 e9 => sq e9) rfl rfl) hsz.1)).val (by rw [Int.natCast_add])) ((ev_add (ev_var rfl) (ev_lenSS (Z := p.2.1) (ev_ix (n := 1) (ev_var rfl) ev_c (fun H9 e9 => sq e9) rfl rfl) hsz.2)).val (by rw [Int.natCast_add]))) fun v2 H9 e9 ⟨q, ev, hq⟩ => ?_
    subst ev
    have key : ∀ {H10 : Hp} {σ5 : L2.St}, exR.r H9 H10 → σ5[10]? = some (some (.ref q)) → Ev exR (tVar 10) σ5 H10 (fun v H' => ∃ q, v = .ref q ∧ H' q = some (.tup ((kk (i + p.1.length, j + p.2.1.length)).map kV))) := fun {H10 σ5} e10 h => (ev_var (v := .ref q) h).imp fun u H11 e11 eu => ⟨q, eu, (e10.trans e11).ext _ _ hq⟩
    have here : ∀ {H10 : Hp}, exR.r H9 H10 → EvV exR (tOp (rAddU K) (tVar 7) (tIxU K (tVar 9) (tC (.int 2)))) [some v, some (.str (S W)), some (.str (S X)), some (.ref D), some (.int t), some (.int i), some (.int j), some (.int c), some (.ref p8), some (.ref cp), some (.ref q)] H10 (.int (c + p.2.2)) := fun {H10} e10 => ev_add (ev_var rfl) (ev_ix (n := 2) (v := .int p.2.2) (ev_var rfl) ev_c (fun H11 e11 => sq (e9.trans (e10.trans e11))) rfl rfl)
    refine s_if (ρ := exR) (b := match G' (i + p.1.length) (j + p.2.1.length) with | some c' => decide (c + p.2.2 < c') | none => true) ?_ (fun hb H10 e10 => ?_) (fun hb H10 e10 => ?_)
    · cases hg : G' (i + p.1.length) (j + p.2.1.length) with
      | none => exact (et_or (b := true) (et_test ((ev_notInT (k := kk (i + p.1.length, j + p.2.1.length)) (key .rfl rfl) (ev_var rfl) fun H11 e11 => (e9.trans e11).ext _ _ hD').val (by rw [hG'.some, hg]))) fun z => by cases z).to rfl
      | some c' =>
        refine (et_or (et_test ((ev_notInT (k := kk (i + p.1.length, j + p.2.1.length)) (key .rfl rfl) (ev_var rfl) fun H11 e11 => (e9.trans e11).ext _ _ hD').val (by rw [hG'.some, hg]))) fun _ => et_test (ev_lt (here .rfl) (ev_getT (k := kk (i + p.1.length, j + p.2.1.length)) (v := .int c') (ev_var rfl) (key .rfl rfl) (fun H11 e11 => (e9.trans e11).ext _ _ hD') (by rw [hG', hg]; rfl)))).to ?_
        rfl
    · refine s_putT (k := kk (i + p.1.length, j + p.2.1.length)) (R := fun y _ => y = .int (c + p.2.2)) (here e10) (ev_var rfl) (key e10 rfl) ((e9.trans e10).ext _ _ hD') ?_ fun y H11 H12 e11 ey e12 hD12 => ?_
      · have := hs.len
        have : m < 9 := by omega
        omega
      · subst ey
        have rD : (exR.and D).r H12 (upd H12 D (.dT (putK kvs' (kk (i + p.1.length, j + p.2.1.length)) (.int (c + p.2.2))))) := r_chgT (ρ := exR) hD12 fun z => z
        have hne : ¬ (i = i + p.1.length ∧ j = j + p.2.1.length) := by omega
        refine ⟨r.trans ((and_of (e9.trans (e10.trans (e11.trans e12)))).trans rD), _, _, _, Slip.put G' (i + p.1.length) (j + p.2.1.length) (c + p.2.2), rfl, upd_same, hG'.put _ _ _, hI'.step hC hc' hp1 hp2 (fun a b h => ?_) (fun c' h => ?_), ?_, ?_, fun p' hp' => ?_⟩
        · unfold dn at h
          omega
        · rw [h] at hb
          exact of_decide_eq_true hb
        · unfold Slip.put
          rw [if_neg hne]
          exact hc'
        · have := length_putK kvs' (kk (i + p.1.length, j + p.2.1.length)) (V.int (c + p.2.2))
          omega
        · unfold Slip.put
          by_cases z : i + p'.1.length = i + p.1.length ∧ j + p'.2.1.length = j + p.2.1.length
          · rw [if_pos z]
            rw [htk] at hp'
            rcases List.mem_append.mp hp' with h1 | h1
            · obtain ⟨c1, e1, h2⟩ := hps p' h1
              rw [z.1, z.2] at e1
              rw [e1] at hb
              have := of_decide_eq_true hb
              exact ⟨_, rfl, by omega⟩
            · rw [List.mem_singleton.mp h1]
              exact ⟨_, rfl, Int.le_refl _⟩
          · rw [if_neg z]
            rw [htk] at hp'
            rcases List.mem_append.mp hp' with h1 | h1
            · exact hps p' h1
            · rw [List.mem_singleton.mp h1] at z
              exact absurd ⟨rfl, rfl⟩ z
    · refine ⟨r.trans (and_of (e9.trans e10)), _, _, kvs', G', rfl, (e9.trans e10).ext _ _ hD', hG', hI', hc', by omega, fun p' hp' => ?_⟩
      rw [htk] at hp'
      rcases List.mem_append.mp hp' with h1 | h1
      · exact hps p' h1
      · rw [List.mem_singleton.mp h1]
        cases hg : G' (i + p.1.length) (j + p.2.1.length) with
        | none => rw [hg] at hb; cases hb
        | some c' =>
          rw [hg] at hb
          have := of_decide_eq_false hb
          exact ⟨c', rfl, by omega⟩
  · rintro σ' H7 ⟨r, w9, w10, kvs', G', rfl, hD', hG', hI', hc', hl', hps⟩
    rw [hzl, List.take_length] at hps
    refine k H7 _ _ kvs' G' ((and_of e6).trans r) hD' hG' ⟨hI'.g1, fun a b c0 hd e p hp hx => ?_, hI'.g3⟩ (by have := hs.len; omega)
    rcases hd with hd | ⟨h1, h2⟩
    · exact hI'.g2 a b c0 (.inl hd) e p hp hx
    · by_cases z : a = i
      · have : b = j := by omega
        subst z this
        rw [hc'] at e
        cases e
        exact hps p (hs.all p hp hx)
      · exact hI'.g2 a b c0 (.inr ⟨h1, by omega⟩) e p hp hx
theorem pure__law_price_rows {K : Frag} (vs : List V) (H : Hp) (Q : VK) (E : XK) (h : sp__law_price_rows K vs H Q E) : t__law_price_rows K { nx := fun _ H' => Q .non H', rt := Q } (start ["table", "word", "text", "made", "total", "i", "j", "here", "steps", "one", "at"] vs) H := by
  obtain ⟨v, T, W, X, rfl, A, k⟩ := h
  have hW := A.wl
  have hX := A.xl
  have hC := A.ok.costs
  refine q_asg (ρ := exR) (R := fun v' H' => ∃ D, v' = .ref D ∧ H D = none ∧ H' D = some (.dT [(kk (0, 0), .int 0)])) (fun H1 e1 Q' q' D hD => ?_) fun v1 H1 e1 ⟨D, ev, hD, hD1⟩ => ?_
  · refine (ev_keyI2 (ρ := exR) (i := 0) (j := 0) ev_c ev_c) (upd H1 D (.dT [])) (r_new _ hD) _ fun x H2 e2 ⟨b, ex, hb⟩ => ?_
    have hD2 : H2 D = some (.dT []) := e2.ext _ _ upd_same
    exact ⟨b, kk (0, 0), ex, hb, hD2, q' _ _ (r_mut ((r_new _ hD).trans e2) hD) ⟨D, rfl, e1.back D hD, upd_same⟩⟩
  subst ev
  have g0 : GT [(kk (0, 0), V.int 0)] (Slip.put (fun _ _ => none) 0 0 0) := GT.put (kvs := []) (G := fun _ _ => none) (fun _ _ => rfl) 0 0 0
  have d0 : Dpi T W X (Slip.put (fun _ _ => none) 0 0 0) (dn 0 0) := by
    refine ⟨fun i j c h => ?_, fun i j c h => ?_, ⟨0, rfl, Int.le_refl _⟩⟩
    · unfold Slip.put at h
      by_cases z : i = 0 ∧ j = 0
      · rw [if_pos z] at h
        cases h
        rw [z.1, z.2]
        exact .zero
      · rw [if_neg z] at h
        cases h
    · unfold dn at h
      omega
  have er : EvW exR (exR.and D) (iRng1 (tCons (tOp (rAddU K) (tOp (rAddU K) (tCB (rLenU K) (tCons (tVar 1) tNil)) (tCB (rLenU K) (tCons (tVar 2) tNil))) (tC (.int 1))) tNil)) ((start ["table", "word", "text", "made", "total", "i", "j", "here", "steps", "one", "at"] [v, .str (S W), .str (S X)]).set 3 (some (.ref D))) H1 (W.length + X.length + 1) (YFn fun m => .int ((m : Nat) : Int)) := by
    have := ew_rng (ρ := exR) (ρw := exR.and D) (i := ((W.length + X.length + 1 : Nat) : Int)) (ts := (tCons (tOp (rAddU K) (tOp (rAddU K) (tCB (rLenU K) (tCons (tVar 1) tNil)) (tCB (rLenU K) (tCons (tVar 2) tNil))) (tC (.int 1))) tNil)) (σ := (start ["table", "word", "text", "made", "total", "i", "j", "here", "steps", "one", "at"] [v, .str (S W), .str (S X)]).set 3 (some (.ref D))) (H := H1) (ea_cons ((ev_add (ev_add (ev_lenSS (Z := W) (ev_var rfl) (by omega)) (ev_lenSS (Z := X) (ev_var rfl) (by omega))) ev_c).val (by rw [Int.natCast_add, Int.natCast_add]; rfl)) ea_nil) (by omega) (by omega)
    rw [Int.toNat_natCast] at this
    exact this
  refine q_forw (ρ := exR) (ρw := exR.and D) er fun H2 e2 => ⟨fun t σ' H' => (exR.and D).r H2 H' ∧ ∃ (u4 u5 u6 u7 u8 u9 u10 : Option V) (kvs : List (List Key × V)) (G : Nat → Nat → Option Int), σ' = [some v, some (.str (S W)), some (.str (S X)), some (.ref D), u4, u5, u6, u7, u8, u9, u10] ∧ H' D = some (.dT kvs) ∧ GT kvs G ∧ Dpi T W X G (dn t 0) ∧ kvs.length ≤ 1 + t * 909, ⟨.rfl, _, _, _, _, _, _, _, _, _, rfl, e2.ext _ _ hD1, g0, d0, Nat.le_refl _⟩, fun t σ' H' _ p => p.1, ?_, ?_⟩
  · rintro t y σ' H3 H4 ht ⟨r3, u4, u5, u6, u7, u8, u9, u10, kvs, G, rfl, hD3, hG, hI, hl⟩ ⟨e5, rfl⟩
    subst e5
    have em : EvW exR (exR.and D) (iRng1 (tCons (tOp (rAddU K) (tCB rMin2' (tCons (tVar 4) (tCons (tCB (rLenU K) (tCons (tVar 1) tNil)) tNil))) (tC (.int 1))) tNil)) [some v, some (.str (S W)), some (.str (S X)), some (.ref D), some (.int t), u5, u6, u7, u8, u9, u10] H4 (min t W.length + 1) (YFn fun m => .int ((m : Nat) : Int)) := by
      have := ew_rng (ρ := exR) (ρw := exR.and D) (i := ((min t W.length + 1 : Nat) : Int)) (ts := tCons (tOp (rAddU K) (tCB rMin2' (tCons (tVar 4) (tCons (tCB (rLenU K) (tCons (tVar 1) tNil)) tNil))) (tC (.int 1))) tNil) (σ := [some v, some (.str (S W)), some (.str (S X)), some (.ref D), some (.int t), u5, u6, u7, u8, u9, u10]) (H := H4) (ea_cons ((ev_add (ev_min2 (ev_var (v := .int (t : Int)) rfl) (ev_lenSS (Z := W) (ev_var rfl) (by omega))) ev_c).val (by
        congr 1
        split <;> omega)) ea_nil) (by omega) (by omega)
      rw [Int.toNat_natCast] at this
      exact this
    refine s_forw (ρ := exR) (ρw := exR.and D) em fun H5 e5 => ⟨fun i σ' H' => (exR.and D).r H5 H' ∧ ∃ (w5 w6 w7 w8 w9 w10 : Option V) (kvs : List (List Key × V)) (G : Nat → Nat → Option Int), σ' = [some v, some (.str (S W)), some (.str (S X)), some (.ref D), some (.int t), w5, w6, w7, w8, w9, w10] ∧ H' D = some (.dT kvs) ∧ GT kvs G ∧ Dpi T W X G (dn t i) ∧ kvs.length ≤ 1 + t * 909 + i * 9, ⟨.rfl, _, _, _, _, _, _, kvs, G, rfl, e5.ext _ _ hD3, hG, hI, by omega⟩, fun i σ' H' _ p => p.1, ?_, ?_⟩
    · rintro i y σ' H6 H7 hi ⟨r6, w5, w6, w7, w8, w9, w10, kvs, G, rfl, hD6, hG, hI, hl⟩ ⟨e7, rfl⟩
      subst e7
      have hit : i ≤ t := by omega
      have hiW : i ≤ W.length := by omega
      obtain ⟨j, hj⟩ : ∃ j, i + j = t := ⟨t - i, by omega⟩
      have hl2 : kvs.length ≤ 500000 := by omega
      refine q_asgV (ρ := exR) ((ev_sub (ev_var (v := .int (t : Int)) rfl) (ev_var (v := .int (i : Int)) rfl)).val (x := .int (j : Int)) (by congr 1; omega)) fun H8 e8 => ?_
      refine s_if (ρ := exR) (et_test ((ev_inT (k := kk (i, j)) (ev_keyI2 (ev_var rfl) (ev_var rfl)) (ev_var rfl) fun H9 e9 => (e8.trans e9).ext _ _ hD6).val (by rw [hG.some]))) (fun hb H9 e9 => ?_) (fun hb H9 e9 => ?_)
      · obtain ⟨c, hc⟩ := Option.isSome_iff_exists.mp hb
        have hjX : j ≤ X.length := (hI.g1 i j c hc).le.2
        refine q_asgV (ρ := exR) (ev_getT (k := kk (i, j)) (v := .int c) (ev_var rfl) (ev_keyI2 (ev_var rfl) (ev_var rfl)) (fun H10 e10 => (e8.trans (e9.trans e10)).ext _ _ hD6) (by rw [hG, hc]; rfl)) fun H10 e10 => ?_
        have e610 : exR.r H7 H10 := e8.trans (e9.trans e10)
        have rH : (exR.and D).r H H10 := (and_of (e1.trans e2)).trans (r3.trans ((and_of e5).trans (r6.trans (and_of e610))))
        have hdd := A.dd
        cases hdd with
        | @tup a xs _ ha hxs =>
        have hta := rH.tup _ _ ha
        have hxs' : DSs exR H10 xs (T.map pcD) := DqAll.tups (fun a xs z => rH.tup _ _ z) _ _ (noLists_map fun _ _ => nl_pc _) hxs
        have hTl := A.ok.len
        have hxl : xs.length = T.length := by rw [hxs.length, List.length_map]
        refine q_asg (ρ := exR) (R := fun v' H' => ∃ p8 zs, v' = .ref p8 ∧ H10 p8 = none ∧ H' p8 = some (.lst zs) ∧ DSs exR H' zs ((T.filter fun p => at_ W i p.1 && at_ X j p.2.1).map pcD)) ?_ fun v11 H11 e11 ⟨p8, zs, ev8, hp8, h8, hzs⟩ => ?_
        · refine (ev_lcK (f := fun m => match T[m]? with | some p => at_ W i p.1 && at_ X j p.2.1 | none => false) (dd := fun m => match T[m]? with | some p => pcD p | none => .none) own_ex (by omega) (ei_seq (xs := xs) (ev_var rfl) (fun H2 e2 => .inr (.inl (.inl (e2.tup _ _ hta)))) (.inr fun H2 e2 => .inl (.inl (e2.tup _ _ hta)))) fun D' H12 r12 hD' m x H13 H14 hm r13 oD y cont hcont => ?_).imp fun u H12 r ⟨p, zs, eu, _, hp, hz, hd2⟩ => ⟨p, zs, eu, hp, hz, ?_⟩
          · obtain ⟨e14, hx⟩ := y
            subst e14
            obtain ⟨dp, hdp, hDS⟩ := DqAll.get hxs' hx
            rw [List.getElem?_map] at hdp
            obtain ⟨p, hp, rfl⟩ := Option.map_eq_some_iff.mp hdp
            have hsz := A.ok.pc p (List.mem_of_getElem? hp)
            have hDS2 : DS exR H14 x (pcD p) := (r12.trans r13).ds hDS
            obtain ⟨cp, rfl, hcp⟩ := pc_tup hDS2
            have sq : ∀ {H9 : Hp}, exR.r H14 H9 → SqA K H9 cp [.str (S p.1), .str (S p.2.1), .int p.2.2] := fun e9 => .inr (.inl (.inl (e9.tup _ _ hcp)))
            refine hcont _ _ rfl .rfl ?_ fun H15 r15 => ?_
            · rw [hp]
              refine (et_and (et_test ((ev_eqS (ev_slS (W := W) (i := i) (m := p.1.length) (ev_var rfl) (by omega) (eo_some (ev_var rfl)) (eo_some (ev_add (ev_var rfl) (ev_lenSS (Z := p.1) (ev_ix (n := 0) (ev_var rfl) ev_c (fun H9 e9 => sq e9) rfl rfl) (by omega))))) (ev_ix (n := 0) (v := .str (S p.1)) (ev_var rfl) ev_c (fun H9 e9 => sq e9) rfl rfl)).val (x := .bl (at_ W i p.1)) (by rw [s_eq]; rfl))) fun _ => et_test ((ev_eqS (ev_slS (W := X) (i := j) (m := p.2.1.length) (ev_var rfl) (by omega) (eo_some (ev_var rfl)) (eo_some (ev_add (ev_var rfl) (ev_lenSS (Z := p.2.1) (ev_ix (n := 1) (ev_var rfl) ev_c (fun H9 e9 => sq e9) rfl rfl) (by omega))))) (ev_ix (n := 1) (v := .str (S p.2.1)) (ev_var rfl) ev_c (fun H9 e9 => sq e9) rfl rfl)).val (x := .bl (at_ X j p.2.1)) (by rw [s_eq]; rfl))).to rfl
            · rw [hp]
              refine (ev_var (v := .ref cp) rfl).imp fun u H16 e16 eu => ?_
              rw [eu]
              exact hDS2.tups (fun a xs z => e16.tup _ _ (r15.tup _ _ z)) _ _ (nl_pc p)
          · have := kept_map (xs := T) (f := fun m => match T[m]? with | some p => at_ W i p.1 && at_ X j p.2.1 | none => false) (g := fun p => at_ W i p.1 && at_ X j p.2.1) (dd := fun m => match T[m]? with | some p => pcD p | none => .none) (F := pcD) (fun i' x hx => by rw [hx]; exact ⟨rfl, rfl⟩) T.length (Nat.le_refl _)
            rw [List.take_length] at this
            rw [← this, ← hxl]
            exact hd2
        · subst ev8
          have hD11 : H11 D = some (.dT kvs) := (e610.trans e11).ext _ _ hD6
          have n8 : p8 ≠ D := fun z => by
            rw [z, e610.ext _ _ hD6] at hp8
            cases hp8
          have fl := List.length_filter_le (fun p : Pc => at_ W i p.1 && at_ X j p.2.1) T
          have memF : ∀ p, p ∈ (T.filter fun p => at_ W i p.1 && at_ X j p.2.1) ↔ p ∈ T ∧ at_ W i p.1 = true ∧ at_ X j p.2.1 = true := fun p => by rw [List.mem_filter, Bool.and_eq_true]
          have inT : ∀ p ∈ (T.filter fun p => at_ W i p.1 && at_ X j p.2.1), p ∈ pcsAt T W i ∧ at_ X j p.2.1 = true := fun p hp => by
            obtain ⟨h1, h2, h3⟩ := (memF p).mp hp
            exact ⟨List.mem_append_right _ (List.mem_filter.mpr ⟨h1, h2⟩), h3⟩
          refine q_when (ρ := exR) (b := decide (i < W.length) && (decide (j < X.length) && decide (W[i]? = X[j]?))) ?_ (fun hb12 H12 e12 => ?_) (fun hb12 H12 e12 => ?_)
          · refine et_and (et_test ((ev_lt (ev_var rfl) (ev_lenSS (Z := W) (ev_var rfl) (by omega))).val (by congr 1; rw [decide_eq_decide]; omega))) fun h1 => et_and (et_test ((ev_lt (ev_var rfl) (ev_lenSS (Z := X) (ev_var rfl) (by omega))).val (by congr 1; rw [decide_eq_decide]; omega))) fun h2 => et_test ?_
            have h1' := of_decide_eq_true h1
            have h2' := of_decide_eq_true h2
            have w1 : W[i]? = some W[i] := List.getElem?_eq_getElem h1'
            have x1 : X[j]? = some X[j] := List.getElem?_eq_getElem h2'
            refine (ev_eqS (s1 := S [W[i]]) (s2 := S [X[j]]) (ev_ixS (s := S W) (i := (i : Int)) (c := W[i]) (ev_var rfl) (ev_var rfl) (by rw [s_len]; omega) (by rw [s_list]; exact atI_nat w1)) (ev_ixS (s := S X) (i := (j : Int)) (c := X[j]) (ev_var rfl) (ev_var rfl) (by rw [s_len]; omega) (by rw [s_list]; exact atI_nat x1))).val ?_
            rw [s_eq, w1, x1]
            congr 1
            rw [decide_eq_decide]
            simp
          · simp only [Bool.and_eq_true, decide_eq_true_eq] at hb12
            obtain ⟨h1, h2, h3⟩ := hb12
            have w1 : W[i]? = some W[i] := List.getElem?_eq_getElem h1
            have x1 : X[j]? = some W[i] := by rw [← h3]; exact w1
            have ixW : ∀ {H13 : Hp} {σ5 : L2.St}, σ5[1]? = some (some (.str (S W))) → σ5[5]? = some (some (.int (i : Int))) → EvV exR (tIxU K (tVar 1) (tVar 5)) σ5 H13 (.str (S [W[i]])) := fun a b => ev_ixS (s := S W) (i := (i : Int)) (c := W[i]) (ev_var a) (ev_var b) (by rw [s_len]; omega) (by rw [s_list]; exact atI_nat w1)
            refine s_app (ρ := exR) (l := p8) (xs := zs) (R := fun y H' => DS exR H' y (pcD ([W[i]], [W[i]], 0))) (e12.ext _ _ h8) (fun z => z) (ev_var rfl) ?_ ?_ fun y H13 e13 hy h813 => ?_
            · refine ev_tupDs (ds := [.str (S [W[i]]), .str (S [W[i]]), .int 0]) Le.rfl (ea_consD Le.rfl ((ixW rfl rfl).imp fun _ _ _ e => ?_) fun H5 e5 => ea_consD Le.rfl ((ixW rfl rfl).imp fun _ _ _ e => ?_) fun H6 e6 => ea_consD Le.rfl ((ev_c (v := .int 0)).imp fun _ _ _ e => ?_) fun H7 e7 => ea_nilD) (by show 3 ≤ 100000; decide)
              · rw [e]; exact .str _
              · rw [e]; exact .str _
              · rw [e]; exact .int _
            · have := hzs.length
              rw [List.length_map] at this
              omega
            · have rm : exR.r H10 (upd H13 p8 (.lst (zs ++ [y]))) := r_mut (e11.trans (e12.trans e13)) hp8
              have ru : (exR.and p8).r H13 (upd H13 p8 (.lst (zs ++ [y]))) := r_chg (ρ := exR) h813 fun z => z
              generalize eH14 : upd H13 p8 (.lst (zs ++ [y])) = H14 at rm ru
              have h814 : H14 p8 = some (.lst (zs ++ [y])) := by rw [← eH14]; exact upd_same
              refine s_steps (T := T) (W := W) (X := X) (t := t) (i := i) (j := j) (c := c) (p8 := p8) (zs := zs ++ [y]) (ps := (T.filter fun p => at_ W i p.1 && at_ X j p.2.1) ++ [([W[i]], [W[i]], 0)]) hC (rm.ext _ _ (e610.ext _ _ hD6)) hG hI hj hc h814 n8 ?_ ⟨fun p hp => ?_, fun p hp hx => ?_, ?_, fun p hp => ?_⟩ hl2 fun H' w9 w10 kvs' G' r' hD' hG' hI' hl' => ⟨r6.trans ((and_of (e610.trans rm)).trans r'), _, _, _, _, _, _, kvs', G', rfl, hD', hG', hI', by omega⟩
              · rw [List.map_append]
                refine DqAll.append ?_ (.cons ?_ .nil)
                · exact DqAll.tups (fun a xs z => ru.tup _ _ (e13.tup _ _ (e12.tup _ _ z))) _ _ (noLists_map fun _ _ => nl_pc _) hzs
                · exact hy.tups (fun a xs z => ru.tup _ _ z) _ _ (nl_pc _)
              · rcases List.mem_append.mp hp with hp | hp
                · exact inT p hp
                · rw [List.mem_singleton.mp hp]
                  exact ⟨kept_in w1, at_one.mpr x1⟩
              · rcases pc_at hp with ⟨ha, hT | ⟨c', hc', rfl⟩⟩
                · exact List.mem_append_left _ ((memF p).mpr ⟨hT, ha, hx⟩)
                · rw [w1] at hc'
                  cases hc'
                  exact List.mem_append_right _ (List.mem_singleton.mpr rfl)
              · rw [List.length_append, List.length_singleton]
                omega
              · rcases List.mem_append.mp hp with hp | hp
                · have := A.ok.pc p ((memF p).mp hp).1
                  omega
                · rw [List.mem_singleton.mp hp]
                  exact ⟨by show 1 ≤ 1000; decide, by show 1 ≤ 1000; decide⟩
          · refine s_steps (T := T) (W := W) (X := X) (t := t) (i := i) (j := j) (c := c) (p8 := p8) (zs := zs) (ps := T.filter fun p => at_ W i p.1 && at_ X j p.2.1) hC (e12.ext _ _ hD11) hG hI hj hc (e12.ext _ _ h8) n8 (e12.dss hzs) ⟨inT, fun p hp hx => ?_, by omega, fun p hp => ?_⟩ hl2 fun H' w9 w10 kvs' G' r' hD' hG' hI' hl' => ⟨r6.trans ((and_of (e610.trans (e11.trans e12))).trans r'), _, _, _, _, _, _, kvs', G', rfl, hD', hG', hI', by omega⟩
            · rcases pc_at hp with ⟨ha, hT | ⟨c', hc', rfl⟩⟩
              · exact (memF p).mpr ⟨hT, ha, hx⟩
              · have hx' := at_one.mp hx
                have l1 := (List.getElem?_eq_some_iff.mp hc').1
                have l2 := (List.getElem?_eq_some_iff.mp hx').1
                rw [decide_eq_true l1, decide_eq_true l2, decide_eq_true (by rw [hc', hx'])] at hb12
                cases hb12
            · have := A.ok.pc p ((memF p).mp hp).1
              omega
      · have hn : G i j = none := by
          cases q : G i j with
          | none => rfl
          | some z => rw [q] at hb; cases hb
        refine ⟨r6.trans (and_of (e8.trans e9)), _, _, _, _, _, _, kvs, G, rfl, (e8.trans e9).ext _ _ hD6, hG, hI.weaken fun a b c hd e => ?_, by omega⟩
        rcases hd with hd | ⟨h1, h2⟩
        · exact .inl hd
        · by_cases z : a = i
          · have : b = j := by omega
            subst z this
            rw [hn] at e
            cases e
          · exact .inr ⟨h1, by omega⟩
    · rintro σ' H6 ⟨r6, w5, w6, w7, w8, w9, w10, kvs, G, rfl, hD6, hG, hI, hl⟩
      refine ⟨r3.trans ((and_of e5).trans r6), _, _, _, _, _, _, _, kvs, G, rfl, hD6, hG, hI.weaken fun a b c hd e => ?_, by omega⟩
      have hle := (hI.g1 a b c e).le
      unfold dn at hd ⊢
      omega
  · rintro σ' H3 ⟨r3, u4, u5, u6, u7, u8, u9, u10, kvs, G, rfl, hD3, hG, hI, hl⟩
    refine s_retV (ρ := exR) (ev_var rfl) fun H4 e4 => k D kvs G H4 hD ((r_and (e1.trans e2) hD r3).trans e4).ext (e4.ext _ _ hD3) hG (hI.price fun a b ha hb => .inl (by omega))
end Slip
/-! a misspelt text -/
namespace Slip
open PySem PySem.Spec PyProof.Rows L2
theorem s_app_s (a b : List Nat) : S a ++ S b = S (a ++ b) := by
  show (⟨a.toArray ++ b.toArray⟩ : Str) = ⟨(a ++ b).toArray⟩
  simp
abbrev Lets (Z : List Nat) : Prop := ∀ c ∈ Z, c ∈ letters
theorem lets_word {Z : List Nat} (h : Lets Z) : isWordD (.str (S Z)) = true := List.all_eq_true.mpr fun c hc => decide_eq_true (h c (by rwa [s_list] at hc))
theorem lets_app {a b : List Nat} (h : Lets a) (g : Lets b) : Lets (a ++ b) := fun c hc => (List.mem_append.mp hc).elim (h c) (g c)
section
variable {ρ : Rl} {σ : L2.St} {H : Hp} {t u : TT} {tu tw : TS} {D : Ends} {C : Bool → Prop}
theorem s_ifC (h : EvTC ρ t σ H C) (h1 : C true → ∀ H1, ρ.r H H1 → tu D σ H1) (h2 : C false → ∀ H1, ρ.r H H1 → tw D σ H1) : tIfS t tu tw D σ H := h H .rfl _ fun b H1 e c => by
  cases b with
  | true => exact h1 c H1 e
  | false => exact h2 c H1 e
theorem EvT.tc {b : Bool} (h : EvT ρ t σ H b) (c : C b) : EvTC ρ t σ H C := fun H1 e Q q => h H1 e _ fun H2 e2 => q b H2 e2 c
end
def sp__law_pick (K : Frag) : Sp := fun vs H Q _ => ∃ (ra sp a : Addr) (xs : List V), vs = [.ref ra, .ref sp, .ref a] ∧ Dr K ra sp H ∧ xs ≠ [] ∧ xs.length ≤ 1000 ∧ (∀ H', (spR sp).r H H' → SqA K H' a xs) ∧ ∀ (v : V) (m : Nat) H', (spR sp).r H H' → xs[m]? = some v → Q v H'
theorem len__law_pick {K : Frag} {vs : List V} {H : Hp} {Q : VK} {E : XK} (h : sp__law_pick K vs H Q E) : vs.length = 3 := by
  obtain ⟨ra, sp, a, xs, rfl, _⟩ := h
  rfl
def t__law_pick (K : Frag) : TS := (tRet (tIxU K (tVar 2) (tCall (sp__law_take K) [] E0 (tCons (tVar 0) (tCons (tVar 1) (tCons (tCB (rLenU K) (tCons (tVar 2) tNil)) tNil))))))
theorem pure__law_pick {K : Frag} (vs : List V) (H : Hp) (Q : VK) (E : XK) (h : sp__law_pick K vs H Q E) : t__law_pick K { nx := fun _ H' => Q .non H', rt := Q } (start ["row", "spot", "things"] vs) H := by
  obtain ⟨ra, sp, a, xs, rfl, dr, hne, hl, hs, k⟩ := h
  have h0 : 0 < xs.length := List.length_pos_iff.mpr hne
  exact s_ret (ρ := spR sp) (ev_ixP (xs := xs) (ev_var rfl) (ev_take (lim := (xs.length : Int)) (ev_var rfl) (ev_var rfl) (ev_len (ev_var rfl) hs) dr (by omega)) hs) fun v H1 e1 ⟨m, hm⟩ => k v m H1 e1 hm
def sp__law_misspelt (K : Frag) : Sp := fun vs H Q _ => ∃ (ra sp : Addr) (v : V) (T : List Pc) (W : List Nat) (most : Int), vs = [.ref ra, .ref sp, v, .str (S W), .int most] ∧ Dr K ra sp H ∧ DS exR H v (tabD T) ∧ TabOk T ∧ W.length ≤ 300 ∧ Lets W ∧ ∀ Z H', (spR sp).r H H' → Z.length ≤ 80 → Lets Z → Q (.str (S Z)) H'
theorem len__law_misspelt {K : Frag} {vs : List V} {H : Hp} {Q : VK} {E : XK} (h : sp__law_misspelt K vs H Q E) : vs.length = 5 := by
  obtain ⟨ra, sp, v, T, W, most, rfl, _⟩ := h
  rfl
def t__law_misspelt (K : Frag) : TS := (tSeq (tAsg (tC (.str "")) (gName 5)) (tSeq (tAsg (tC (.int 0)) (gName 6)) (tSeq (tAsg (tVar 4) (gName 7)) (tSeq (tFor (iRng1 (tCons (tC (.int 40)) tNil)) (gName 8) (tSeq (tAsg (tLc (iSeq K (tVar 2)) (gName 10) (tAnd (tTest (tOp (rEqU K) (tSl (rSlU K) (tVar 3) (tPart (tVar 6)) (tPart (tOp (rAddU K) (tVar 6) (tCB (rLenU K) (tCons (tIxU K (tVar 10) (tC (.int 0))) tNil))))) (tIxU K (tVar 10) (tC (.int 0))))) (tTest (tOp (rCmp K gLe) (tIxU K (tVar 10) (tC (.int 2))) (tVar 7)))) (tVar 10) [10]) (gName 9)) (tIfS (tAnd (tTest (tOp (rCmp K gGt) (tCB (rLenU K) (tCons (tVar 9) tNil)) (tC (.int 0)))) (tTest (tOp (rEqU K) (tCall (sp__law_take K) [] E0 (tCons (tVar 0) (tCons (tVar 1) (tCons (tC (.int 3)) tNil)))) (tC (.int 0))))) (tSeq (tAsg (tCall (sp__law_pick K) [] E0 (tCons (tVar 0) (tCons (tVar 1) (tCons (tVar 9) tNil)))) (gName 10)) (tSeq (tAsg (tOp (rAddU K) (tVar 5) (tIxU K (tVar 10) (tC (.int 1)))) (gName 5)) (tSeq (tAsg (tOp (rAddU K) (tVar 6) (tCB (rLenU K) (tCons (tIxU K (tVar 10) (tC (.int 0))) tNil))) (gName 6)) (tAsg (tOp rSubI (tVar 7) (tIxU K (tVar 10) (tC (.int 2)))) (gName 7))))) (tIfS (tTest (tOp (rCmp K gLt) (tVar 6) (tCB (rLenU K) (tCons (tVar 3) tNil)))) (tSeq (tAsg (tOp (rAddU K) (tVar 5) (tIxU K (tVar 3) (tVar 6))) (gName 5)) (tAsg (tOp (rAddU K) (tVar 6) (tC (.int 1))) (gName 6))) tBreak)))) (tRet (tVar 5))))))
theorem pure__law_misspelt {K : Frag} (vs : List V) (H : Hp) (Q : VK) (E : XK) (h : sp__law_misspelt K vs H Q E) : t__law_misspelt K { nx := fun _ H' => Q .non H', rt := Q } (start ["row", "spot", "table", "word", "most", "made", "i", "left", "k", "steps", "one"] vs) H := by
  obtain ⟨ra, sp, v, T, W, most, rfl, dr, hd, hT, hW, hLW, k⟩ := h
  cases hd with
  | @tup a xs _ ha hxs =>
  have hxl : xs.length = T.length := by rw [hxs.length, List.length_map]
  have hTl := hT.len
  refine q_asgV (ρ := exR) ev_c fun H1 e1 => ?_
  refine q_asgV (ρ := exR) ev_c fun H2 e2 => ?_
  refine q_asgV (ρ := exR) (ev_var rfl) fun H3 e3 => ?_
  have e03 : (spR sp).r H H3 := (e1.trans (e2.trans e3)).ext.r
  refine q_for (ρ := spR sp) (n := 40) (Y := YFn fun m => .int ((m : Nat) : Int)) (ei_rng (i := 40) (ea_cons ev_c ea_nil) (by decide) (by decide)) fun H4 e4 => ⟨fun n σ' H' => (spR sp).r H4 H' ∧ ∃ (Z : List Nat) (i : Nat) (lf : Int) (u8 u9 u10 : Option V), σ' = [some (.ref ra), some (.ref sp), some (.ref a), some (.str (S W)), some (.int most), some (.str (S Z)), some (.int i), some (.int lf), u8, u9, u10] ∧ Z.length ≤ 2 * n ∧ Lets Z ∧ i ≤ W.length, ⟨.rfl, [], 0, most, _, _, _, rfl, Nat.le_refl _, (fun c hc => by cases hc), Nat.zero_le _⟩, fun n σ' H' _ p => p.1, ?_, ?_⟩
  · rintro n y σ' H5 H6 hn ⟨r, Z, i, lf, u8, u9, u10, rfl, hZ, hLZ, hi⟩ ⟨e6, rfl⟩
    subst e6
    have rH : (spR sp).r H H6 := e03.trans (e4.trans r)
    have hta := rH.tup _ _ ha
    have dr6 := dr.sp rH
    have hxs' : DSs exR H6 xs (T.map pcD) := DqAll.tups (fun a xs z => rH.tup _ _ z) _ _ (noLists_map fun _ _ => nl_pc _) hxs
    refine q_asg (ρ := spR sp) (R := fun v' H' => ∃ p9 zs, v' = .ref p9 ∧ p9 ≠ sp ∧ H' p9 = some (.lst zs) ∧ DSs (spR sp) H' zs ((T.filter fun p => at_ W i p.1 && decide (p.2.2 ≤ lf)).map pcD)) ?_ fun v7 H7 e7 ⟨p9, zs, ev9, n9, h9, hzs⟩ => ?_
    · refine (ev_lcK (f := fun m => match T[m]? with | some p => at_ W i p.1 && decide (p.2.2 ≤ lf) | none => false) (dd := fun m => match T[m]? with | some p => pcD p | none => .none) (own_sp dr6) (by omega) (ei_seq (xs := xs) (ev_var rfl) (fun H2 e2 => .inr (.inl (.inl (e2.tup _ _ hta)))) (.inr fun H2 e2 => .inl (.inl (e2.tup _ _ hta)))) fun D' H12 r12 hD' m x H13 H14 hm r13 oD y cont hcont => ?_).imp fun u H12 r ⟨p, zs, eu, np, hp, hz, hd2⟩ => ⟨p, zs, eu, np, hz, ?_⟩
      · obtain ⟨e14, hx⟩ := y
        subst e14
        obtain ⟨dp, hdp, hDS⟩ := DqAll.get hxs' hx
        rw [List.getElem?_map] at hdp
        obtain ⟨p, hp, rfl⟩ := Option.map_eq_some_iff.mp hdp
        have hsz := hT.pc p (List.mem_of_getElem? hp)
        have hDS2 : DS exR H14 x (pcD p) := hDS.tups (fun a xs z => r13.tup _ _ (r12.tup _ _ z)) _ _ (nl_pc p)
        obtain ⟨cp, rfl, hcp⟩ := pc_tup hDS2
        have sq : ∀ {H9 : Hp}, (spR sp).r H14 H9 → SqA K H9 cp [.str (S p.1), .str (S p.2.1), .int p.2.2] := fun e9 => .inr (.inl (.inl (e9.tup _ _ hcp)))
        refine hcont _ _ rfl .rfl ?_ fun H15 r15 => ?_
        · rw [hp]
          refine (et_and (et_test ((ev_eqS (ev_slS (W := W) (i := i) (m := p.1.length) (ev_var rfl) (by omega) (eo_some (ev_var rfl)) (eo_some (ev_add (ev_var rfl) (ev_lenSS (Z := p.1) (ev_ix (n := 0) (ev_var rfl) ev_c (fun H9 e9 => sq e9) rfl rfl) (by omega))))) (ev_ix (n := 0) (v := .str (S p.1)) (ev_var rfl) ev_c (fun H9 e9 => sq e9) rfl rfl)).val (x := .bl (at_ W i p.1)) (by rw [s_eq]; rfl))) fun _ => et_test (ev_le (ev_ix (n := 2) (v := .int p.2.2) (ev_var rfl) ev_c (fun H9 e9 => sq e9) rfl rfl) (ev_var rfl))).to rfl
        · rw [hp]
          refine (ev_var (v := .ref cp) rfl).imp fun u H16 e16 eu => ?_
          rw [eu]
          exact hDS2.tups (fun a xs z => e16.tup _ _ (r15.tup _ _ z)) _ _ (nl_pc p)
      · have := kept_map (xs := T) (f := fun m => match T[m]? with | some p => at_ W i p.1 && decide (p.2.2 ≤ lf) | none => false) (g := fun p => at_ W i p.1 && decide (p.2.2 ≤ lf)) (dd := fun m => match T[m]? with | some p => pcD p | none => .none) (F := pcD) (fun i' x hx => by rw [hx]; exact ⟨rfl, rfl⟩) T.length (Nat.le_refl _)
        rw [List.take_length] at this
        rw [← this, ← hxl]
        exact hd2
    · subst ev9
      have dr7 := dr6.sp e7
      have sq9 : ∀ H', (spR sp).r H7 H' → SqA K H' p9 zs := fun H' e => .inl (.of (e.keep _ _ n9 h9))
      have hzl := hzs.length
      rw [List.length_map] at hzl
      have hfl := List.length_filter_le (fun p : Pc => at_ W i p.1 && decide (p.2.2 ≤ lf)) T
      refine s_ifC (ρ := spR sp) (C := fun b => b = true → zs ≠ []) ?_ (fun hb H8 e8 => ?_) (fun _ H8 e8 => ?_)
      · by_cases hz : zs = []
        · refine EvT.tc (b := false) ((et_and (b := true) (et_test ((ev_gt (ev_len (ev_var rfl) sq9) ev_c).val (x := .bl false) (by rw [hz]; rfl))) fun z => by cases z).to rfl) fun z => by cases z
        · refine etc_and (et_test ((ev_gt (ev_len (ev_var rfl) sq9) ev_c).val (x := .bl true) (by
            have := List.length_pos_iff.mpr hz
            congr 1
            exact decide_eq_true (by omega)))) (etc_test ((ev_op2 (Ra := fun v _ => Below 3 v) (Rb := fun v _ => v = .int 0) (R := fun v _ => ∃ b, v = .bl b ∧ (b = true → zs ≠ [])) (ev_take (ev_var rfl) (ev_var rfl) ev_c dr7 (by decide)) (fun x H1 e1 _ => ev_c) fun x y H1 H2 e1 e2 ⟨m, ex, _⟩ ey => ?_)))
          subst ex ey
          exact fun H3 e3 Q q => .inl ⟨rfl, q _ H3 .rfl ⟨_, rfl, fun _ => hz⟩⟩
      · have hne := hb rfl
        have e78 := e7.trans e8
        refine q_asg (ρ := spR sp) (R := fun v' _ => ∃ m : Nat, zs[m]? = some v') (ev_call (ea_cons (ev_var rfl) (ea_cons (ev_var rfl) (ea_cons (ev_var rfl) ea_nil))) fun H9 e9 Q' q' E' => ⟨ra, sp, p9, zs, rfl, dr7.sp (e8.trans e9), hne, by omega, fun H' e => sq9 H' (e8.trans (e9.trans e)), fun v m H' e hm => q' v H' e ⟨m, hm⟩⟩) fun v9 H9 e9 ⟨m, hm⟩ => ?_
        obtain ⟨dp, hdp, hDS⟩ := DqAll.get ((e8.trans e9).dss hzs) hm
        rw [List.getElem?_map] at hdp
        obtain ⟨p, hp, rfl⟩ := Option.map_eq_some_iff.mp hdp
        obtain ⟨hpT, hpa⟩ := List.mem_filter.mp (List.mem_of_getElem? hp)
        rw [Bool.and_eq_true] at hpa
        have hsz := hT.pc p hpT
        have hlt := hT.lt p hpT
        obtain ⟨cp, rfl, hcp⟩ := pc_tup (hDS.tups (fun a xs z => z) _ _ (nl_pc p))
        have sq : ∀ {H10 : Hp}, (spR sp).r H9 H10 → SqA K H10 cp [.str (S p.1), .str (S p.2.1), .int p.2.2] := fun e9 => .inr (.inl (.inl (e9.tup _ _ hcp)))
        refine q_asgV (ρ := spR sp) ((ev_addS (s1 := S Z) (s2 := S p.2.1) (ev_var rfl) (ev_ix (n := 1) (ev_var rfl) ev_c (fun H10 e10 => sq e10) rfl rfl) (by rw [s_len, s_len]; omega)).val (by rw [s_app_s])) fun H10 e10 => ?_
        refine q_asgV (ρ := spR sp) ((ev_add (ev_var rfl) (ev_lenSS (Z := p.1) (ev_ix (n := 0) (ev_var rfl) ev_c (fun H11 e11 => sq (e10.trans e11)) rfl rfl) (by omega))).val (x := .int ((i + p.1.length : Nat) : Int)) (by rw [Int.natCast_add])) fun H11 e11 => ?_
        refine s_asgV (ρ := spR sp) (ev_sub (ev_var rfl) (ev_ix (n := 2) (v := .int p.2.2) (ev_var rfl) ev_c (fun H12 e12 => sq (e10.trans (e11.trans e12))) rfl rfl)) fun H12 e12 => ?_
        exact ⟨r.trans (e78.trans (e9.trans (e10.trans (e11.trans e12)))), Z ++ p.2.1, i + p.1.length, lf - p.2.2, _, _, _, rfl, by rw [List.length_append]; omega, lets_app hLZ hlt.2, at_le hi hpa.1⟩
      · refine s_if (ρ := spR sp) (et_test (ev_lt (ev_var rfl) (ev_lenSS (Z := W) (ev_var rfl) (by omega)))) (fun hb9 H9 e9 => ?_) (fun hb9 H9 e9 => ?_)
        · have hlt : i < W.length := by
            have := of_decide_eq_true hb9
            omega
          have w1 : W[i]? = some W[i] := List.getElem?_eq_getElem hlt
          refine q_asgV (ρ := spR sp) ((ev_addS (s1 := S Z) (s2 := S [W[i]]) (ev_var rfl) (ev_ixS (s := S W) (i := (i : Int)) (c := W[i]) (ev_var rfl) (ev_var rfl) (by rw [s_len]; omega) (by rw [s_list]; exact atI_nat w1)) (by rw [s_len, s_len]; show Z.length + 1 ≤ _; omega)).val (by rw [s_app_s])) fun H10 e10 => ?_
          refine s_asgV (ρ := spR sp) ((ev_add (ev_var rfl) ev_c).val (x := .int ((i + 1 : Nat) : Int)) rfl) fun H11 e11 => ?_
          exact ⟨r.trans (e7.trans (e8.trans (e9.trans (e10.trans e11)))), Z ++ [W[i]], i + 1, lf, _, _, _, rfl, by rw [List.length_append]; show Z.length + 1 ≤ _; omega, lets_app hLZ (fun c hc => by rw [List.mem_singleton.mp hc]; exact hLW _ (List.getElem_mem hlt)), hlt⟩
        · refine s_retV (ρ := spR sp) (ev_var rfl) fun H10 e10 => k Z H10 ?_ (by omega) hLZ
          exact rH.trans (e7.trans (e8.trans (e9.trans e10)))
  · rintro σ' H5 ⟨r, Z, i, lf, u8, u9, u10, rfl, hZ, hLZ, hi⟩
    exact s_retV (ρ := spR sp) (ev_var rfl) fun H6 e6 => k Z H6 (e03.trans (e4.trans (r.trans e6))) (by omega) hLZ
end Slip
/-! least_table: rules, the def -/
namespace Slip
open PySem PySem.Spec PyProof.Rows L2
section
variable {ρ ρw : Rl} {K : Frag} {σ : L2.St} {H H' : Hp} {te ta tb : TE} {a : Addr} {xs ys : List V} {D : Ends} {tz tu : TS} {n : Nat} {x y : V} {wi : TI} {g : TG}
theorem g_sub3 {i j k l : Nat} {Q : L2.St → Hp → Prop} {b : Addr} {p q r : V} (hs : SqA K H a [x, .ref b]) (h3 : SqA K H b [p, q, r]) (q' : Q ((((σ.set i (some x)).set j (some p)).set k (some q)).set l (some r)) H) :
    gSeq K 2 (gCons (gName i) (gCons (gSeq K 3 (gCons (gName j) (gCons (gName k) (gCons (gName l) gNil)))) gNil)) (.ref a) σ H Q := by
  have h := g_seq3 (σ := σ.set i (some x)) (i := j) (j := k) (l := l) (Q := fun σ2 H2 => gNil [] σ2 H2 Q) h3 ⟨rfl, q'⟩
  rcases hs with hs | hs
  · exact .inr ⟨a, _, rfl, hs, rfl, x, _, rfl, .ref b, _, rfl, h⟩
  · exact .inl ⟨a, _, rfl, hs, rfl, x, _, rfl, .ref b, _, rfl, h⟩
theorem ew_enumU (le : ∀ H1 H2, ρ.r H1 H2 → ρw.r H1 H2) (h : EvV ρ te σ H (.ref a)) (hs : (∀ H1, ρw.r H H1 → SqL K H1 a xs) ∨ (∀ H1, ρw.r H H1 → SqT K H1 a xs)) : EvW ρ ρw (iEnumU K (tCons te tNil)) σ H xs.length (YPair (fun i => some (.int (i : Nat))) fun i => xs[i]?) := fun H1 e1 R k => by
  rcases hs with hs | hs
  · exact .inl (ea_cons h ea_nil H1 e1 _ fun vs H2 e2 ev => ⟨a, _, ev, hs H2 (le _ _ (e1.trans e2)), k _ H2 e2 (walk_enum.mono (fun H3 e3 => hs H3 ((le _ _ (e1.trans e2)).trans e3)) fun _ _ _ _ _ _ y => y)⟩)
  · refine .inr (ea_cons h ea_nil H1 e1 _ fun vs H2 e2 ev => ⟨a, _, ev, hs H2 (le _ _ (e1.trans e2)), k _ H2 e2 ?_⟩)
    have hw : ∀ H3, ρw.r H2 H3 → SqT K H3 a xs := fun H3 e3 => hs H3 ((le _ _ (e1.trans e2)).trans e3)
    refine ⟨fun i H3 hi q => ⟨xs, xs[i], hw H3 q, List.getElem?_eq_getElem hi⟩, fun H3 q => ⟨xs, hw H3 q, rfl⟩, fun i H3 v H4 hi q y => ?_⟩
    obtain ⟨T, x, h1, h2, h3, h4⟩ := y
    exact ⟨T, .int (i : Nat), x, h1, h2, h3, rfl, h4 xs (hw H3 q)⟩
theorem ev_listOf (own : Own ρ H) (h : Ev ρ te σ H (fun v H2 => ∃ b, v = .ref b ∧ SqA K H2 b xs)) : Ev ρ (tCB (rLstOf K) (tCons te tNil)) σ H (fun v H2 => ∃ p, v = .ref p ∧ ¬ ρ.S p ∧ H p = none ∧ H2 p = some (.lst xs)) :=
  fun H1 e1 Q q => h H1 e1 _ fun v H2 e2 ⟨b, ev, hb⟩ => ⟨b, xs, by rw [ev], hb, fun l hl => q _ _ (e2.trans (r_new _ hl)) ⟨l, rfl, ((own.r e1).r e2).fresh hl, (e1.trans e2).back l hl, upd_same⟩⟩
theorem ev_slV {tl th : TO} {lo hi : Option Int} (h : EvV ρ te σ H (.ref a)) (h1 : EvO ρ tl σ H lo) (h2 : EvO ρ th σ H hi) (hs : ∀ H1, ρ.r H H1 → SqA K H1 a xs) : Ev ρ (tSl (rSlU K) te tl th) σ H (fun u H2 => ∃ b, u = .ref b ∧ SqA K H2 b (cutV xs lo hi)) := fun H0 e Q q =>
  h H0 e _ fun w H2 e2 ew => by
    subst ew
    refine h1 H2 (e.trans e2) _ fun H3 e3 => h2 H3 ((e.trans e2).trans e3) _ fun H4 e4 => ?_
    have e24 := (e2.trans e3).trans e4
    rcases hs H4 (e.trans e24) with hq | hq
    · exact .inl ⟨a, xs, rfl, hq, fun p hp => q _ _ (e24.trans (r_new _ hp)) ⟨p, rfl, .inl (.of upd_same)⟩⟩
    · refine .inr (.inl ⟨a, xs, rfl, hq, fun hw => q _ _ e24 ⟨a, rfl, .inr ?_⟩, fun _ p hp => q _ _ (e24.trans (r_new _ hp)) ⟨p, rfl, .inr (.inl (.inl upd_same))⟩⟩)
      unfold cutV
      rw [hw.1, hw.2, List.drop_zero, Nat.sub_zero, List.take_length]
      exact hq
/-- two new lists, one behind the other -/
theorem ev_catLL (own : Own ρ H) (h1 : Ev ρ ta σ H (fun v H2 => ∃ p, v = .ref p ∧ ¬ ρ.S p ∧ H p = none ∧ H2 p = some (.lst xs))) (h2 : ∀ H1, ρ.r H H1 → Ev ρ tb σ H1 (fun v H2 => ∃ p, v = .ref p ∧ ¬ ρ.S p ∧ H1 p = none ∧ H2 p = some (.lst ys))) (hz : xs.length + ys.length ≤ 100000) :
    Ev ρ (tOp (rAddU K) ta tb) σ H (fun v H2 => ∃ p, v = .ref p ∧ ¬ ρ.S p ∧ H p = none ∧ H2 p = some (.lst (xs ++ ys))) := fun H1 e1 Q q =>
  h1 H1 e1 _ fun x H2 e2 ⟨p, ex, nS, _, hp⟩ => h2 H2 (e1.trans e2) H2 .rfl _ fun y H3 e3 ⟨r, ey, _, _, hr⟩ => by
    subst ex ey
    exact .inr (.inr (.inr ⟨p, r, xs, ys, rfl, rfl, e3.keep _ _ nS hp, hr, Evl.sz_of hz, fun l hl => q _ _ ((e2.trans e3).trans (r_new _ hl)) ⟨l, rfl, (((own.r e1).r e2).r e3).fresh hl, ((e1.trans e2).trans e3).back l hl, upd_same⟩⟩))
theorem ev_check1 {E : XK} (own : Own ρ H) (h1 : EvV ρ ta σ H (.bl true)) : Ev ρ (tCall (sp_check_arguments K) [] E (tCons (tLst (tCons ta tNil)) tNil)) σ H (fun _ _ => True) :=
  ev_callR (ea_one (ev_lstN own (ea_cons h1 ea_nil) (by show 1 ≤ 100000; decide))) fun vs H1 e1 ⟨u, eu, p, ep, nS, hp⟩ => by
    subst eu ep
    exact fun H2 e2 Q q E => ⟨p, 1, rfl, .of (e2.keep _ _ nS hp), fun H' e => q _ H' (Ext.r e) trivial⟩
/-- an answer of price -/
theorem ev_price {ta tb tc : TE} {E : XK} {v : V} {d : PyData} {T : List Pc} {W X : List Nat} (h1 : EvV exR ta σ H v) (h2 : EvV exR tb σ H (.str (S W))) (h3 : EvV exR tc σ H (.str (S X))) (A : Ask H v d T W X) : Ev exR (tCall (sp_price K) [] E (tCons ta (tCons tb (tCons tc tNil)))) σ H (fun u _ => ∃ o, u = optI o ∧ PriceIs T W X o) :=
  ev_call (ea_cons h1 (ea_cons h2 (ea_cons h3 ea_nil))) fun H1 e1 Q q E => ⟨v, d, T, W, X, rfl, ⟨e1.ds A.dd, A.t, A.s, A.e, A.ok, A.w, A.x, A.wl, A.xl⟩, fun o H' e hp => q _ H' (Ext.r e) ⟨o, rfl, hp⟩⟩
/-- the test whether a fault stays -/
theorem et_keep {T : List Pc} {p : Pc} {o : Option Int} (h1 : EvV ρ ta σ H (optI o)) (h2 : EvV ρ tb σ H (.int p.2.2)) (hk : PriceIs (rem T p) p.1 p.2.1 o) : ∃ b, EvT ρ (tOr (tTest (tOp rIsN ta (tC .non))) (tTest (tOp (rCmp K gGt) ta tb))) σ H b ∧ (b = true ↔ Keep T p) := by
  cases o with
  | none => exact ⟨true, (et_or (a := true) (b := false) ((et_test (ev_isN h1)).to (by rfl)) fun z => by cases z).to rfl, fun _ => (keep_iff hk).mpr trivial, fun _ => rfl⟩
  | some c => exact ⟨decide (p.2.2 < c), (et_or (a := false) (b := decide (p.2.2 < c)) ((et_test (ev_isN h1)).to (by rfl)) fun _ => et_test (ev_gt h1 h2)).to (by rw [Bool.false_or]), by
      rw [keep_iff hk, decide_eq_true_eq]⟩
end
/-- a table's parts, at each place -/
theorem item_at {ρ : Rl} {H : Hp} {d : PyData} {T : List Pc} {xs : List V} (e : tupD d = tabD T) (hx : DSs ρ H xs (itemsD d)) {i : Nat} {x : V} (hi : xs[i]? = some x) : ∃ b dx p, x = .ref b ∧ T[i]? = some p ∧ (itemsD d)[i]? = some dx ∧ tupD dx = pcD p ∧ ∀ (K : Frag) H', ρ.r H H' → SqA K H' b [.str (S p.1), .str (S p.2.1), .int p.2.2] := by
  obtain ⟨dx, hdx, hx2⟩ := DqAll.get hx hi
  obtain ⟨p, hp, htp⟩ := item_pc e hdx
  obtain ⟨q1, q2⟩ := mixed_pc htp
  obtain ⟨c, us, rfl, hus, hU, _⟩ := DS.seqd (ρ := ρ) hx2 q1
  rw [q2] at hus
  cases hus with
  | cons u1 hus => cases hus with
    | cons u2 hus => cases hus with
      | cons u3 hus =>
        cases hus
        cases u1
        cases u2
        cases u3
        exact ⟨c, dx, p, rfl, hp, hdx, htp, hU⟩
theorem fault_mixed {x : PyData} {p : Pc} (h : tupD x = pcD p) : isFaultD x = isFaultD (pcD p) := by
  obtain ⟨q1, q2⟩ := mixed_pc h
  unfold isFaultD isTripleD
  rw [q1, q2]
  rfl
theorem table_mixed {d : PyData} {T : List Pc} (e : tupD d = tabD T) (h : TabOk T) (s : TSort T) : isTableD d = true := by
  unfold isTableD
  rw [(items_map e).1, pairs_map e, pw_rising _ (List.pairwise_map.mpr s), items_len e, decide_eq_true h.len, List.all_eq_true.mpr fun x hx => ?_]
  · rfl
  · obtain ⟨i, hi, rfl⟩ := List.mem_iff_getElem.mp hx
    obtain ⟨p, hp, ep⟩ := item_pc e (List.getElem?_eq_getElem hi)
    rw [fault_mixed ep]
    exact pc_fault (h.pc p (List.mem_of_getElem? hp)) (h.lt p (List.mem_of_getElem? hp))
theorem smAll_cut {ds es : List PyData} (h : smAll ds = true) (hs : ∀ d ∈ es, d ∈ ds) : smAll es = true := smAll_of fun d hd => smAll_mem h (hs d hd)
theorem cut_to (xs : List V) (i : Nat) : cutV xs none (some (i : Int)) = xs.take i := by
  unfold cutV
  rw [HT.sIx_none, HT.sIx_nat, List.drop_zero, Nat.sub_zero]
  by_cases h : i ≤ xs.length
  · rw [Nat.min_eq_left h]
  · rw [Nat.min_eq_right (by omega), List.take_of_length_le (Nat.le_refl _), List.take_of_length_le (by omega)]
theorem cut_from (xs : List V) (i : Nat) : cutV xs (some (i : Int)) none = xs.drop i := by
  unfold cutV
  rw [HT.sIx_none, HT.sIx_nat]
  by_cases h : i ≤ xs.length
  · rw [Nat.min_eq_left h, List.take_of_length_le (by rw [List.length_drop]; exact Nat.le_refl _)]
  · rw [Nat.min_eq_right (by omega), List.drop_of_length_le (Nat.le_refl _), List.drop_of_length_le (by omega), List.take_nil]
section
open Classical
/-- the kept ones of the first i -/
noncomputable def keepTo (T : List Pc) (i : Nat) : List Pc := (T.take i).filter fun p => decide (Keep T p)
theorem keepTo_zero (T : List Pc) : keepTo T 0 = [] := rfl
theorem keepTo_all (T : List Pc) : keepTo T T.length = least T := by
  unfold keepTo least
  rw [List.take_length]
theorem keepTo_yes {T : List Pc} {i : Nat} {p : Pc} (h : T[i]? = some p) (k : Keep T p) : keepTo T (i + 1) = keepTo T i ++ [p] := by
  unfold keepTo
  rw [List.take_add_one, h, List.filter_append]
  congr 1
  exact List.filter_cons_of_pos (decide_eq_true k)
theorem keepTo_no {T : List Pc} {i : Nat} {p : Pc} (h : T[i]? = some p) (k : ¬ Keep T p) : keepTo T (i + 1) = keepTo T i := by
  unfold keepTo
  rw [List.take_add_one, h, List.filter_append]
  have e : List.filter (fun p => decide (Keep T p)) [p] = [] := List.filter_cons_of_neg (p := fun p => decide (Keep T p)) fun z => k (of_decide_eq_true z)
  show _ ++ List.filter (fun p => decide (Keep T p)) [p] = _
  rw [e, List.append_nil]
theorem keepTo_len (T : List Pc) (i : Nat) : (keepTo T i).length ≤ T.length := Nat.le_trans (List.length_filter_le _ _) (by rw [List.length_take]; omega)
end
/-- a fault as a tuple of three variables -/
theorem ev_pc {ρ : Rl} {σ : L2.St} {H : Hp} {i j l : Nat} {p : Pc} (h1 : σ[i]? = some (some (.str (S p.1)))) (h2 : σ[j]? = some (some (.str (S p.2.1)))) (h3 : σ[l]? = some (some (.int p.2.2))) : Ev ρ (tTup (tCons (tVar i) (tCons (tVar j) (tCons (tVar l) tNil)))) σ H (fun v H' => DS ρ H' v (pcD p)) :=
  ev_tupDs (ds := [.str (S p.1), .str (S p.2.1), .int p.2.2]) Le.rfl (ea_consD Le.rfl ((ev_var (v := .str (S p.1)) h1).imp fun _ _ _ e => by rw [e]; exact .str _) fun H5 e5 => ea_consD Le.rfl ((ev_var (v := .str (S p.2.1)) h2).imp fun _ _ _ e => by rw [e]; exact .str _) fun H6 e6 => ea_consD Le.rfl ((ev_var (v := .int p.2.2) h3).imp fun _ _ _ e => by rw [e]; exact .int _) fun H7 e7 => ea_nilD) (by show 3 ≤ 100000; decide)
/-- a table handed in -/
structure Tab (H : Hp) (v : V) (d : PyData) (T : List Pc) : Prop where
  dd : DS exR H v d
  s : sm d = true
  e : tupD d = tabD T
  ok : TabOk T
  so : TSort T
theorem Tab.t {H : Hp} {v : V} {d : PyData} {T : List Pc} (h : Tab H v d T) : isTableD d = true := table_mixed h.e h.ok h.so
theorem Tab.r {H H' : Hp} {v : V} {d : PyData} {T : List Pc} (h : Tab H v d T) (e : exR.r H H') : Tab H' v d T := ⟨e.ds h.dd, h.s, h.e, h.ok, h.so⟩
theorem Tab.ask {H : Hp} {v : V} {d : PyData} {T : List Pc} (h : Tab H v d T) {W X : List Nat} (w : Lets W) (x : Lets X) (wl : W.length ≤ 300) (xl : X.length ≤ 300) : Ask H v d T W X := ⟨h.dd, h.t, h.s, h.e, h.ok, lets_word w, lets_word x, wl, xl⟩
theorem DSs.less {ρ : Rl} {D : Addr} {H : Hp} {vs : List V} {ds : List PyData} (h : DSs (ρ.and D) H vs ds) : DSs ρ H vs ds := h.move (fun a _ s q => ⟨fun z => s (.inl z), q⟩) fun _ _ q => q
/-- the table without the i-th, as a list -/
theorem Tab.less {H : Hp} {d : PyData} {T : List Pc} {q : Addr} {zs : List V} {v : V} {i : Nat} {H0 : Hp} (A : Tab H0 v d T) (hq : H q = some (.lst zs)) (hz : DSs exR H zs ((itemsD d).take i ++ (itemsD d).drop (i + 1))) : Tab H (.ref q) (.list ((itemsD d).take i ++ (itemsD d).drop (i + 1))) (less T i) := by
  refine ⟨.lst (fun z => z) hq hz, ?_, ?_, A.ok.sub (less_sub T i), A.so.sub (less_sub T i)⟩
  · have h1 := sm_items A.s
    show (decide (((itemsD d).take i ++ (itemsD d).drop (i + 1)).length ≤ 1000) && smAll ((itemsD d).take i ++ (itemsD d).drop (i + 1))) = true
    rw [smAll_cut h1.2 fun x hx => (List.mem_append.mp hx).elim List.mem_of_mem_take List.mem_of_mem_drop, Bool.and_true, decide_eq_true_eq, List.length_append, List.length_take, List.length_drop]
    omega
  · show PyData.tuple (tupAll _) = .tuple ((Slip.less T i).map pcD)
    rw [tupAll_map, List.map_append, List.map_take, List.map_drop, (items_map A.e).2]
    unfold Slip.less
    rw [List.map_append, List.map_take, List.map_drop]
def sp_least_table (K : Frag) : Sp := fun vs H Q _ => ∃ (v : V) (d : PyData) (T : List Pc), vs = [v] ∧ Tab H v d T ∧ ∀ v' H', Ext H H' → DS exR H' v' (tabD (least T)) → Q v' H'
theorem len_least_table {K : Frag} {vs : List V} {H : Hp} {Q : VK} {E : XK} (h : sp_least_table K vs H Q E) : vs.length = 1 := by
  obtain ⟨v, d, T, rfl, _⟩ := h
  rfl
def t_least_table (K : Frag) : TS := (tSeq (tDrop (tCall (sp_check_arguments K) [] E0 (tCons (tLst (tCons (tCall (sp_is_table K) [] E0 (tCons (tVar 0) tNil)) tNil)) tNil))) (tSeq (tAsg (tLst tNil) (gName 1)) (tSeq (tFor (iEnumU K (tCons (tVar 0) tNil)) (gSeq K 2 (gCons (gName 2) (gCons (gSeq K 3 (gCons (gName 3) (gCons (gName 4) (gCons (gName 5) gNil)))) gNil))) (tSeq (tAsg (tOp (rAddU K) (tCB (rLstOf K) (tCons (tSl (rSlU K) (tVar 0) tNoPart (tPart (tVar 2))) tNil)) (tCB (rLstOf K) (tCons (tSl (rSlU K) (tVar 0) (tPart (tOp (rAddU K) (tVar 2) (tC (.int 1)))) tNoPart) tNil))) (gName 6)) (tSeq (tAsg (tCall (sp_price K) [] E0 (tCons (tVar 6) (tCons (tVar 3) (tCons (tVar 4) tNil)))) (gName 7)) (tIfS (tOr (tTest (tOp rIsN (tVar 7) (tC .non))) (tTest (tOp (rCmp K gGt) (tVar 7) (tVar 5)))) (tDrop (tBM K "list" rAppend (tVar 1) (tCons (tTup (tCons (tVar 3) (tCons (tVar 4) (tCons (tVar 5) tNil)))) tNil))) tNext)))) (tRet (tCB (rTupOf K) (tCons (tVar 1) tNil))))))
theorem pure_least_table {K : Frag} (vs : List V) (H : Hp) (Q : VK) (E : XK) (h : sp_least_table K vs H Q E) : t_least_table K { nx := fun _ H' => Q .non H', rt := Q } (start ["table", "kept", "at", "meant", "written", "cost", "others", "made"] vs) H := by
  obtain ⟨v, d, T, rfl, A, k⟩ := h
  have sq := (items_map A.e).1
  have h8 := A.ok.len
  refine q_drop (ρ := exR) (ev_check1 own_ex ((ev_B1 (F := isTableD) (ev_var rfl) A.dd A.s).val (by rw [A.t]))) fun _ H1 e1 _ => ?_
  refine q_asg (ρ := exR) (R := fun v' H' => ∃ p, v' = .ref p ∧ H1 p = none ∧ H' p = some (.lst [])) ((ev_lst (Rr := fun vs _ => vs = []) ea_nil fun vs H4 _ e => by rw [e]; show 0 ≤ 100000; decide).imp fun u H4 e4 ⟨p, vs, H5, eu, ev, hp, e5, eH⟩ => ⟨p, eu, e5.back p hp, by rw [eH, ev]; exact upd_same⟩) fun v2 H2 e2 ⟨p, ev2, hp1, hp2⟩ => ?_
  subst ev2
  have hp0 : H p = none := e1.back p hp1
  have A2 : DS (exR.and p) H2 v d := (and_of (e1.trans e2)).ds (A.dd.and hp0)
  obtain ⟨a, xs, rfl, hxs, hA, hor⟩ := DS.seqd (ρ := exR.and p) A2 sq
  have hlen : xs.length = T.length := by rw [hxs.length, items_len A.e]
  refine q_forw (ρ := exR) (ρw := exR.and p) (ew_enumU (fun _ _ => and_of) (ev_var rfl) (hor.imp (fun z H1 e => z K H1 e) fun z H1 e => z K H1 e)) fun H3 e3 => ⟨fun i σ' H' => (exR.and p).r H3 H' ∧ (∃ u2 u3 u4 u5 u6 u7, σ' = [some (.ref a), some (.ref p), u2, u3, u4, u5, u6, u7]) ∧ ∃ ys, H' p = some (.lst ys) ∧ DSs exR H' ys ((keepTo T i).map pcD), ⟨.rfl, ⟨_, _, _, _, _, _, rfl⟩, [], e3.ext _ _ hp2, by rw [keepTo_zero]; exact .nil⟩, fun i σ' H' _ h => h.1, ?_, ?_⟩
  · rintro i x σ' H' H'' hi ⟨r, ⟨u2, u3, u4, u5, u6, u7, rfl⟩, ys, hp', hys⟩ ⟨Ta, x1, y1, rfl, hT, eH, e1', e2'⟩
    cases e1'
    have r' : exR.r H' H'' := by rw [eH]; exact r_new _ hT
    have hTa : H'' Ta = some (.tup [.int (i : Nat), y1]) := by rw [eH]; exact upd_same
    obtain ⟨b, dx, pc, rfl, hpc, hdx, htp, hU⟩ := item_at (ρ := exR.and p) A.e hxs e2'
    have r2 : (exR.and p).r H2 H'' := (and_of e3).trans (r.trans (and_of r'))
    have hpT := List.mem_of_getElem? hpc
    have hpl := A.ok.pc pc hpT
    have hlt := A.ok.lt pc hpT
    refine g_sub3 (.inr (.inl (.inl hTa))) (hU K H'' r2) ?_
    refine q_asg (ρ := exR) (R := fun v' H6 => ∃ q, v' = .ref q ∧ H6 q = some (.lst (xs.take i ++ xs.drop (i + 1)))) (((ev_catLL (ρ := exR) own_ex (ev_listOf own_ex (ev_slV (ev_var rfl) eo_none (eo_some (i := (i : Int)) (ev_var rfl)) fun H5 e5 => hA K H5 (r2.trans (and_of e5)))) (fun H5 e5 => ev_listOf own_ex (ev_slV (ev_var rfl) (eo_some (i := ((i + 1 : Nat) : Int)) ((ev_add (i := (i : Int)) (j := 1) (ev_var rfl) ev_c).val (by rfl))) eo_none fun H6 e6 => hA K H6 (r2.trans (and_of (e5.trans e6))))) ?_).imp fun u H6 e6 ⟨q, eu, _, _, hq⟩ => ⟨q, eu, by rw [hq, cut_to, cut_from]⟩)) fun v4 H4 e4 ⟨q, ev4, hq⟩ => ?_
    · have h1 := cutV_length xs none (some (i : Int))
      have h2 := cutV_length xs (some ((i + 1 : Nat) : Int)) none
      omega
    subst ev4
    have hz : DSs (exR.and p) H4 (xs.take i ++ xs.drop (i + 1)) ((itemsD d).take i ++ (itemsD d).drop (i + 1)) := (((r2.trans (and_of e4)).dss hxs).take i).append (((r2.trans (and_of e4)).dss hxs).drop (i + 1))
    have A4 := A.less hq hz.less
    refine q_asg (ρ := exR) (ev_price (W := pc.1) (X := pc.2.1) (ev_var rfl) (ev_var rfl) (ev_var rfl) (A4.ask hlt.1 hlt.2 (by omega) (by omega))) fun v5 H5 e5 ⟨o, ev5, hpr⟩ => ?_
    subst ev5
    obtain ⟨bb, ht, hb⟩ := et_keep (ρ := exR) (K := K) (σ := [some (.ref a), some (.ref p), some (.int (i : Nat)), some (.str (S pc.1)), some (.str (S pc.2.1)), some (.int pc.2.2), some (.ref q), some (optI o)]) (H := H5) (ta := tVar 7) (tb := tVar 5) (T := T) (p := pc) (o := o) (ev_var rfl) (ev_var rfl) (hpr.congr (mem_less A.so.nodup hpc))
    refine s_if (ρ := exR) ht (fun hy H6 e6 => ?_) fun hn H6 e6 => ?_
    · have e36 : exR.r H' H6 := r'.trans (e4.trans (e5.trans e6))
      refine s_app (ρ := exR) (l := p) (xs := ys) (e36.ext _ _ hp') (fun z => z) (ev_var rfl) (ev_pc rfl rfl rfl) ?_ fun y H7 e7 hy7 hp7 => ?_
      · have := hys.length
        rw [List.length_map] at this
        have := keepTo_len T i
        omega
      · have rc : (exR.and p).r H7 (upd H7 p (.lst (ys ++ [y]))) := r_chg (ρ := exR) hp7 fun z => z
        refine ⟨r.trans ((and_of (e36.trans e7)).trans rc), ⟨_, _, _, _, _, _, rfl⟩, _, upd_same, ?_⟩
        rw [keepTo_yes hpc (hb.mp hy), List.map_append]
        exact (DqAll.tups rc.tup _ _ (noLists_map fun _ _ => nl_pc _) ((e36.trans e7).dss hys)).append (.cons (hy7.tups rc.tup _ _ (nl_pc _)) .nil)
    · have e36 : exR.r H' H6 := r'.trans (e4.trans (e5.trans e6))
      refine ⟨r.trans (and_of e36), ⟨_, _, _, _, _, _, rfl⟩, ys, e36.ext _ _ hp', ?_⟩
      rw [keepTo_no hpc fun z => by rw [hb.mpr z] at hn; cases hn]
      exact e36.dss hys
  · rintro σ' H' ⟨r, ⟨u2, u3, u4, u5, u6, u7, rfl⟩, ys, hp', hys⟩
    rw [hlen, keepTo_all] at hys
    refine s_ret (ρ := exR) (R := fun v' H6 => DS exR H6 v' (tabD (least T)) ∧ exR.r H H6) (ev_cbV (ea_cons (ev_var (v := .ref p) rfl) ea_nil) fun H4 e4 Q' q' => ⟨p, ys, rfl, .inl ⟨.of (e4.ext _ _ hp'), fun l hl => q' _ _ (r_new _ hl) ⟨?_, ?_⟩⟩⟩) fun v4 H4 e4 ⟨hv, e0⟩ => k v4 H4 e0.ext hv
    · exact .tup upd_same ((e4.trans (r_new _ hl)).dss hys)
    · exact r_and e1 hp0 ((and_of (e2.trans e3)).trans (r.trans (and_of (e4.trans (r_new _ hl)))))
end Slip
/-! prices and cuts: the law itself -/
namespace Slip
open PySem PySem.Spec PyProof.Rows L2
section
variable {ρ : Rl} {K : Frag} {σ : L2.St} {H : Hp} {t : TT} {ta tb te : TE} {tu tz : TS} {D : Ends} {x y z v : V} {d e : PyData}
theorem q_any (C : L2.St → Hp → Prop) (hz : ∀ σ' H', C σ' H' → tz D σ' H') (hu : ∀ N : L2.St → Hp → Prop, (∀ σ' H', C σ' H' → N σ' H') → tu { D with nx := N } σ H) : tSeq tu tz D σ H := hu (tz D) hz
theorem q_unp2 {i j : Nat} {ta : TA} (h : EvAV ρ ta σ H [x, y]) (k : ∀ H1, ρ.r H H1 → tz D ((σ.set i (some x)).set j (some y)) H1) : tSeq (tAsg (tTup ta) (gSeq K 2 (gCons (gName i) (gCons (gName j) gNil)))) tz D σ H := by
  show (tTup ta) σ H fun v H1 => gSeq K 2 (gCons (gName i) (gCons (gName j) gNil)) v σ H1 (tz D)
  refine (ev_tup h (fun vs H1 _ e => by rw [e]; show 2 ≤ 100000; decide)) H .rfl _ fun v H1 e1 ⟨p, vs, H2, ev, evs, hp, r2, eH⟩ => ?_
  subst ev evs
  exact g_seq2 (.inr (.inl (.inl (by rw [eH]; exact upd_same)))) (k H1 e1)
theorem ev_ifV {b : Bool} (h : EvT ρ t σ H b) (h1 : EvV ρ ta σ H x) (h2 : EvV ρ tb σ H y) : EvV ρ (tIf t ta tb) σ H (if b then x else y) := by
  cases b with
  | true => exact ev_if h (fun _ => h1) fun z => by cases z
  | false => exact ev_if h (fun z => by cases z) fun _ => h2
theorem ev_eqD2 (h1 : Ev ρ ta σ H (fun v H' => DS ρ H' v d)) (h2 : ∀ H1, ρ.r H H1 → Ev ρ tb σ H1 (fun v H' => DS ρ H' v e)) (sd : SeqAt.shaped d = true) (se : SeqAt.shaped e = true) : EvV ρ (tOp (rEqU K) ta tb) σ H (.bl (PyData.eqv d e)) :=
  ev_op2 h1 (fun x' H1 e1 _ => h2 H1 e1) fun x' y' H1 H2 e1 e2 hx hy H3 e3 Q q => .inr ⟨d, e, ((e2.trans e3).ds hx).dp _ _, (e3.ds hy).dp _ _, sd, se, q _ H3 .rfl rfl⟩
theorem ev_notInTu {ds : List PyData} (h1 : EvV ρ ta σ H x) (h2 : EvV ρ tb σ H y) (hd : DS ρ H x d) (he : DS ρ H y (.tuple ds)) (sd : SeqAt.shaped d = true) (dp : d.depth ≤ 60) (se : SeqAt.shaped (.tuple ds) = true) : EvV ρ (tOp (rNotInTu K) ta tb) σ H (.bl (!ds.any fun z => PyData.eqv z d)) :=
  ev_op h1 h2 (.const fun H1 e1 _ q => ⟨d, ds, (e1.ds hd).dp _ _, (e1.ds he).dp _ _, sd, dp, se, q⟩)
theorem s_par3 {i j l : Nat} {ta : TA} (h : EvAV ρ ta σ H [x, y, z]) (k : ∀ H1, ρ.r H H1 → D.nx (((σ.set i (some x)).set j (some y)).set l (some z)) H1) : tPar3 i j l ta D σ H := h H .rfl _ fun vs H1 e1 ev => ⟨x, y, z, ev, k H1 e1⟩
end
theorem strOk_s {Z : List Nat} (h : Lets Z) (hz : Z.length ≤ 1000) : PyData.strOk (S Z) = true := by
  have hl : ∀ c ∈ letters, c < 0x110000 := by decide +kernel
  show Z.toArray.all (fun c => decide (c < 0x110000)) = true
  rw [List.all_toArray, List.all_eq_true]
  exact fun c hc => decide_eq_true (hl c (h c hc))
theorem shaped_pc {p : Pc} (h1 : Lets p.1) (h2 : Lets p.2.1) (l1 : p.1.length ≤ 1000) (l2 : p.2.1.length ≤ 1000) : SeqAt.shaped (pcD p) = true := by
  have : PyData.depth (pcD p) ≤ 64 := by simp [pcD, PyData.depth, PyData.depthAll]
  unfold SeqAt.shaped
  rw [decide_eq_true this, Bool.and_true]
  show (PyData.strOk (S p.1) && (PyData.strOk (S p.2.1) && (true && true))) = true
  rw [strOk_s h1 l1, strOk_s h2 l2]
  rfl
theorem shaped_tab {T : List Pc} (hT : TabOk T) : SeqAt.shaped (tabD T) = true := by
  have hd : PyData.depth (tabD T) ≤ 64 := by
    have := depth_all (D := 1) (ds := T.map pcD) fun d hd => by
      obtain ⟨p, _, rfl⟩ := List.mem_map.mp hd
      simp [pcD, PyData.depth, PyData.depthAll]
    show PyData.depthAll (T.map pcD) + 1 ≤ 64
    omega
  unfold SeqAt.shaped
  rw [decide_eq_true hd, Bool.and_true]
  show PyData.canLayAll0 (T.map pcD) = true
  have : ∀ qs : List Pc, (∀ p ∈ qs, SeqAt.shaped (pcD p) = true) → PyData.canLayAll0 (qs.map pcD) = true := by
    intro qs
    induction qs with
    | nil => exact fun _ => rfl
    | cons q qs ih =>
      intro h
      show (PyData.canLay0 (pcD q) && PyData.canLayAll0 (qs.map pcD)) = true
      rw [SeqAt.canLay_of_shaped (h q List.mem_cons_self), ih fun p hp => h p (List.mem_cons_of_mem _ hp)]
      rfl
  exact this T fun p hp => shaped_pc (hT.lt p hp).1 (hT.lt p hp).2 (by have := hT.pc p hp; omega) (by have := hT.pc p hp; omega)
theorem cut16 (Z : List Nat) : cutS (S Z) none (some ((16 : Nat) : Int)) = S (Z.take 16) := by
  unfold cutS
  rw [s_len, s_list, HT.sIx_none, HT.sIx_nat, List.drop_zero, Nat.sub_zero]
  have : Z.take (min 16 Z.length) = Z.take 16 := by
    by_cases h : 16 ≤ Z.length
    · rw [Nat.min_eq_left h]
    · rw [Nat.min_eq_right (by omega), List.take_of_length_le (Nat.le_refl _), List.take_of_length_le (by omega)]
  rw [this]
theorem ev_sl16 {ρ : Rl} {K : Frag} {σ : L2.St} {H : Hp} {te : TE} (h : Ev ρ te σ H (fun v _ => ∃ Z : List Nat, v = .str (S Z) ∧ Z.length ≤ 1000 ∧ Lets Z)) : Ev ρ (tSl (rSlU K) te tNoPart (tPart (tC (.int 16)))) σ H (fun v _ => ∃ X : List Nat, v = .str (S X) ∧ X.length ≤ 16 ∧ Lets X) := fun H0 e Q q =>
  h H0 e _ fun v H1 e1 ⟨Z, ev, hz, hL⟩ => (eo_none (ρ := ρ)) H1 .rfl _ fun H2 e2 => (eo_some (i := ((16 : Nat) : Int)) (ev_c (ρ := ρ) (v := .int 16))) H2 .rfl _ fun H3 e3 => by
    subst ev
    exact .inr (.inr ⟨_, rfl, Evl.sz_of (by rw [s_len]; omega), by
      rw [cut16]
      exact q _ H3 ((e1.trans e2).trans e3) ⟨_, rfl, by rw [List.length_take]; omega, fun c hc => hL c (List.mem_of_mem_take hc)⟩⟩)
def optD : Option Int → PyData
  | some i => .int i
  | none => .none
theorem opt_ds {ρ : Rl} {H : Hp} (o : Option Int) : DS ρ H (optI o) (optD o) := by
  cases o with
  | none => exact .non
  | some i => exact .int i
theorem back_len (f : List En) : ∀ n k, (back f n k).length ≤ n
  | 0, _ => Nat.le_refl _
  | n + 1, k => by
    show (if k = (0, 0) then [] else match val f k with
      | some v => v.2 :: back f n (k.1 - v.2.1.length, k.2 - v.2.2.1.length)
      | none => [] : List Pc).length ≤ _
    split
    · exact Nat.zero_le _
    · split
      · rw [List.length_cons]
        have := back_len f n
        exact Nat.succ_le_succ (this _)
      · exact Nat.zero_le _
/-- what a cut is -/
theorem cut_is {T : List Pc} (hT : Costs T) {W X : List Nat} {f : List En} (hR : Run T W X [] [qi0] f) {o : Option Int} (ho : PriceIs T W X o) :
    (o = none ∧ cutD' f (W.length, X.length) = .none) ∨ ∃ c ps, o = some c ∧ cutD' f (W.length, X.length) = .tuple (ps.map pcD) ∧ CutTo T W X W.length X.length c ps ∧ ps.length ≤ W.length + X.length := by
  have dn := hR.done hT (inv_start1 T W X)
  have e := dn.price.unique ho
  unfold priceOf at e
  cases q : val f (W.length, X.length) with
  | none =>
    rw [q] at e
    left
    refine ⟨e.symm, ?_⟩
    unfold cutD'
    rw [val_none q]
    rfl
  | some v =>
    obtain ⟨c, p⟩ := v
    rw [q] at e
    right
    have hm := val_some q
    refine ⟨c, cutOf f (W.length, X.length), e.symm, ?_, back_cut hT dn (W.length + X.length) _ hm (Nat.le_refl _), ?_⟩
    · unfold cutD'
      rw [has_iff.mpr ⟨_, hm, rfl⟩]
      rfl
    · unfold cutOf
      rw [List.length_reverse]
      exact back_len f _ _
end Slip
/-! unlike, is_alike -/
namespace Slip
open PySem PySem.Spec PyProof.Rows L2
def sizeD (p : Pc) : PyData := .tuple [.int (p.1.length + p.2.1.length : Nat), .int p.1.length, .str (S p.1), .int p.2.1.length, .str (S p.2.1)]
abbrev Rw := Pc × Option Int × Option Int
def rowV (r : Rw) : List V := [.str (S r.1.1), .str (S r.1.2.1), optI r.2.1, optI r.2.2]
def rowD (r : Rw) : PyData := .tuple [.str (S r.1.1), .str (S r.1.2.1), optD r.2.1, optD r.2.2]
section
variable {ρ : Rl} {K : Frag} {σ : L2.St} {H : Hp} {te : TE} {D : Ends} {tz : TS} {g : TG} {R : V → Hp → Prop}
theorem q_asgG (h : Ev ρ te σ H R) (k : ∀ v H1, ρ.r H H1 → R v H1 → g v σ H1 (fun σ2 H2 => tz D σ2 H2)) : tSeq (tAsg te g) tz D σ H := h H .rfl _ fun v H1 e rv => k v H1 e rv
end
def sp_size_of (K : Frag) : Sp := fun vs H Q _ => ∃ (b : Addr) (r : Rw), vs = [.ref b] ∧ H b = some (.tup (rowV r)) ∧ r.1.1.length ≤ 300 ∧ r.1.2.1.length ≤ 300 ∧ ∀ kv H', Ext H H' → DS exR H' kv (sizeD r.1) → Q kv H'
theorem len_size_of {K : Frag} {vs : List V} {H : Hp} {Q : VK} {E : XK} (h : sp_size_of K vs H Q E) : vs.length = 1 := by
  obtain ⟨b, r, rfl, _⟩ := h
  rfl
def t_size_of (K : Frag) : TS := (tSeq (tAsg (tSl (rSlU K) (tVar 0) tNoPart (tPart (tC (.int 2)))) (gSeq K 2 (gCons (gName 1) (gCons (gName 2) gNil)))) (tRet (tTup (tCons (tOp (rAddU K) (tCB (rLenU K) (tCons (tVar 1) tNil)) (tCB (rLenU K) (tCons (tVar 2) tNil))) (tCons (tCB (rLenU K) (tCons (tVar 1) tNil)) (tCons (tVar 1) (tCons (tCB (rLenU K) (tCons (tVar 2) tNil)) (tCons (tVar 2) tNil))))))))
theorem pure_size_of {K : Frag} (vs : List V) (H : Hp) (Q : VK) (E : XK) (h : sp_size_of K vs H Q E) : t_size_of K { nx := fun _ H' => Q .non H', rt := Q } (start ["row", "word", "text"] vs) H := by
  obtain ⟨b, r, rfl, hb, h1, h2, k⟩ := h
  have lenS : ∀ {i : Nat} {Z : List Nat} {H5 : Hp} {σ5 : L2.St}, σ5[i]? = some (some (.str (S Z))) → Z.length ≤ 300 → EvV exR (tCB (rLenU K) (tCons (tVar i) tNil)) σ5 H5 (.int (Z.length : Int)) := fun h hz => (ev_lenS (ev_var h) (by rw [s_len]; omega)).val (by rw [s_len])
  refine q_asgG (ρ := exR) (ev_slV (xs := rowV r) (ev_var rfl) eo_none (eo_some (i := ((2 : Nat) : Int)) ev_c) fun H1 e1 => .inr (.inl (.inl (e1.tup _ _ hb)))) fun v1 H1 e1 ⟨c, ev1, hc⟩ => ?_
  subst ev1
  rw [cut_to] at hc
  refine g_seq2 (x := .str (S r.1.1)) (y := .str (S r.1.2.1)) hc ?_
  refine s_ret (ρ := exR) (R := fun v H' => DS exR H' v (sizeD r.1)) (ev_tupDs (ds := [.int (r.1.1.length + r.1.2.1.length : Nat), .int r.1.1.length, .str (S r.1.1), .int r.1.2.1.length, .str (S r.1.2.1)]) Le.rfl (ea_consD Le.rfl (((ev_add (lenS (Z := r.1.1) rfl h1) (lenS (Z := r.1.2.1) rfl h2))).imp fun _ _ _ e => ?_) fun H3 e3 => ea_consD Le.rfl ((lenS (Z := r.1.1) rfl h1).imp fun _ _ _ e => ?_) fun H4 e4 => ea_consD Le.rfl ((ev_var (v := .str (S r.1.1)) rfl).imp fun _ _ _ e => ?_) fun H5 e5 => ea_consD Le.rfl ((lenS (Z := r.1.2.1) rfl h2).imp fun _ _ _ e => ?_) fun H6 e6 => ea_consD Le.rfl ((ev_var (v := .str (S r.1.2.1)) rfl).imp fun _ _ _ e => ?_) fun H7 e7 => ea_nilD) (by show 5 ≤ 100000; decide)) fun v2 H2 e2 hd => k v2 H2 (e1.trans e2).ext hd
  all_goals rw [e]
  · exact .int _
  · exact .int _
  · exact .str _
  · exact .int _
  · exact .str _
/-- equal prices for a piece's word and text -/
def Eqp (T1 T2 : List Pc) (r : Pc) : Prop := ∃ o, PriceIs T1 r.1 r.2.1 o ∧ PriceIs T2 r.1 r.2.1 o
def Odd (T1 T2 : List Pc) (r : Rw) : Prop := PriceIs T1 r.1.1 r.1.2.1 r.2.1 ∧ PriceIs T2 r.1.1 r.1.2.1 r.2.2 ∧ r.2.1 ≠ r.2.2
theorem price_some {T : List Pc} (hT : Costs T) (W X : List Nat) : ∃ o, PriceIs T W X o := by
  classical
  by_cases h : ∃ c, Way T W X W.length X.length c
  · have : ∀ (n : Nat) (c : Int), Way T W X W.length X.length c → c.toNat ≤ n → ∃ c', Way T W X W.length X.length c' ∧ ∀ c'', Way T W X W.length X.length c'' → c' ≤ c'' := by
      intro n
      induction n with
      | zero =>
        intro c w hn
        exact ⟨c, w, fun c'' w'' => by have := w''.pos hT; have := w.pos hT; omega⟩
      | succ n ih =>
        intro c w hn
        by_cases h2 : ∃ c'', Way T W X W.length X.length c'' ∧ c'' < c
        · obtain ⟨c'', w'', hl⟩ := h2
          exact ih c'' w'' (by have := w''.pos hT; have := w.pos hT; omega)
        · exact ⟨c, w, fun c'' w'' => Int.not_lt.mp fun z => h2 ⟨c'', w'', z⟩⟩
    obtain ⟨c, w⟩ := h
    obtain ⟨c', w', hm⟩ := this _ c w (Nat.le_refl _)
    exact ⟨some c', w', hm⟩
  · exact ⟨none, fun c w => h ⟨c, w⟩⟩
theorem eqp_gen {T1 T2 : List Pc} (h1 : Costs T1) (h2 : Costs T2) : (∀ r ∈ T1 ++ T2, Eqp T1 T2 r) ↔ Gen T1 T2 ∧ Gen T2 T1 := by
  constructor
  · intro h
    exact ⟨gen_of fun p hp => h p (List.mem_append_left _ hp), gen_of fun p hp => let ⟨o, a, b⟩ := h p (List.mem_append_right _ hp); ⟨o, b, a⟩⟩
  · rintro ⟨g1, g2⟩ r hr
    obtain ⟨o, ho⟩ := price_some h1 r.1 r.2.1
    obtain ⟨o', ho'⟩ := price_some h2 r.1 r.2.1
    have := g1.price g2 ho ho'
    subst this
    exact ⟨o, ho, ho'⟩
/-- what unlike tells -/
structure Tells (T1 T2 : List Pc) (r : Rw) : Prop where
  mem : r.1 ∈ T1 ++ T2
  odd : Odd T1 T2 r
  least : ∀ q : Rw, q.1 ∈ T1 ++ T2 → Odd T1 T2 q → PySem.W.dataLt (sizeD q.1) (sizeD r.1) = false
def sp_unlike (K : Frag) : Sp := fun vs H Q _ => ∃ (v1 v2 : V) (d1 d2 : PyData) (T1 T2 : List Pc), vs = [v1, v2] ∧ Tab H v1 d1 T1 ∧ Tab H v2 d2 T2 ∧ (∀ H', Ext H H' → (∀ r ∈ T1 ++ T2, Eqp T1 T2 r) → Q .non H') ∧
  ∀ b r H', Ext H H' → Tells T1 T2 r → H' b = some (.tup (rowV r)) → Q (.ref b) H'
def sp_is_alike (K : Frag) : Sp := fun vs H Q _ => ∃ (v1 v2 : V) (d1 d2 : PyData) (T1 T2 : List Pc), vs = [v1, v2] ∧ Tab H v1 d1 T1 ∧ Tab H v2 d2 T2 ∧ ∀ b H', Ext H H' → (b = true ↔ Gen T1 T2 ∧ Gen T2 T1) → Q (.bl b) H'
theorem len_unlike {K : Frag} {vs : List V} {H : Hp} {Q : VK} {E : XK} (h : sp_unlike K vs H Q E) : vs.length = 2 := by
  obtain ⟨v1, v2, d1, d2, T1, T2, rfl, _⟩ := h
  rfl
theorem len_is_alike {K : Frag} {vs : List V} {H : Hp} {Q : VK} {E : XK} (h : sp_is_alike K vs H Q E) : vs.length = 2 := by
  obtain ⟨v1, v2, d1, d2, T1, T2, rfl, _⟩ := h
  rfl
def t_is_alike (K : Frag) : TS := (tRet (tOp rIsN (tCall (sp_unlike K) [] E0 (tCons (tVar 0) (tCons (tVar 1) tNil))) (tC .non)))
def t_unlike (K : Frag) : TS := (tSeq (tDrop (tCall (sp_check_arguments K) [] E0 (tCons (tLst (tCons (tCall (sp_is_table K) [] E0 (tCons (tVar 0) tNil)) (tCons (tCall (sp_is_table K) [] E0 (tCons (tVar 1) tNil)) tNil))) tNil))) (tSeq (tAsg (tLst tNil) (gName 2)) (tSeq (tFor (iSeq K (tOp (rAddU K) (tCB (rLstOf K) (tCons (tVar 0) tNil)) (tCB (rLstOf K) (tCons (tVar 1) tNil)))) (gSeq K 3 (gCons (gName 3) (gCons (gName 4) (gCons (gName 5) gNil)))) (tSeq (tAsg (tCall (sp_price K) [] E0 (tCons (tVar 0) (tCons (tVar 3) (tCons (tVar 4) tNil)))) (gName 6)) (tSeq (tAsg (tCall (sp_price K) [] E0 (tCons (tVar 1) (tCons (tVar 3) (tCons (tVar 4) tNil)))) (gName 7)) (tIfS (tTest (tOp (rNeU K) (tVar 6) (tVar 7))) (tDrop (tBM K "list" rAppend (tVar 2) (tCons (tTup (tCons (tVar 3) (tCons (tVar 4) (tCons (tVar 6) (tCons (tVar 7) tNil))))) tNil))) tNext)))) (tSeq (tIfS (tNot (tTru K (tVar 2))) (tRet (tC .non)) tNext) (tRet (tCKw (rMinKey K (sp_size_of K) (He.ga K "size_of")) (tCons (tVar 2) tNil) (tCons (tC (.ref (He.ga K "size_of"))) tNil)))))))
theorem pure_is_alike {K : Frag} (vs : List V) (H : Hp) (Q : VK) (E : XK) (h : sp_is_alike K vs H Q E) : t_is_alike K { nx := fun _ H' => Q .non H', rt := Q } (start ["one", "other"] vs) H := by
  obtain ⟨v1, v2, d1, d2, T1, T2, rfl, A1, A2, k⟩ := h
  have he := eqp_gen A1.ok.costs A2.ok.costs
  refine s_ret (ρ := exR) (R := fun v _ => ∃ b, v = .bl b ∧ (b = true ↔ Gen T1 T2 ∧ Gen T2 T1)) (ev_opP (Pa := fun v => ∃ b, decide (v = V.non) = b ∧ (b = true ↔ Gen T1 T2 ∧ Gen T2 T1)) (Pb := fun v => v = .non) (ev_call (ea_cons (ev_var rfl) (ea_cons (ev_var (v := v2) rfl) ea_nil)) fun H1 e1 Q' q' E' => ⟨v1, v2, d1, d2, T1, T2, rfl, A1.r e1, A2.r e1, fun H2 e2 hs => q' _ H2 (Ext.r e2) ⟨true, rfl, fun _ => he.mp hs, fun _ => rfl⟩, fun b r H2 e2 ht _ => q' _ H2 (Ext.r e2) ⟨false, rfl, ⟨fun z => absurd z Bool.false_ne_true, fun g => ?_⟩⟩⟩) ev_c fun x y ⟨b, eb, hb⟩ ey => ?_) fun v H1 e1 ⟨b, ev, hb⟩ => by subst ev; exact k b H1 e1.ext hb
  · obtain ⟨o, a1, a2⟩ := he.mpr g r.1 ht.mem
    exact absurd ((ht.odd.1.unique a1).trans (ht.odd.2.1.unique a2).symm) ht.odd.2.2
  · subst ey
    exact fun H1 e1 Q q => ⟨rfl, q _ H1 .rfl ⟨b, by rw [eb], hb⟩⟩
/-- what unlike has found -/
structure FoundAt (H : Hp) (T1 T2 : List Pc) (i : Nat) (ys : List V) (rs : List Rw) : Prop where
  len : ys.length = rs.length
  le : rs.length ≤ i
  at_ : ∀ (m : Nat) r, rs[m]? = some r → ∃ b, ys[m]? = some (.ref b) ∧ H b = some (.tup (rowV r))
  odd : ∀ r ∈ rs, r.1 ∈ T1 ++ T2 ∧ Odd T1 T2 r
  all : ∀ (j : Nat) p, j < i → (T1 ++ T2)[j]? = some p → Eqp T1 T2 p ∨ ∃ r ∈ rs, r.1 = p
theorem FoundAt.r {ρ : Rl} {H H' : Hp} {T1 T2 : List Pc} {i : Nat} {ys : List V} {rs : List Rw} (f : FoundAt H T1 T2 i ys rs) (e : ρ.r H H') : FoundAt H' T1 T2 i ys rs :=
  ⟨f.len, f.le, fun m r h => let ⟨b, h1, h2⟩ := f.at_ m r h; ⟨b, h1, e.tup _ _ h2⟩, f.odd, f.all⟩
theorem FoundAt.eq {H : Hp} {T1 T2 : List Pc} {i : Nat} {ys : List V} {rs : List Rw} (f : FoundAt H T1 T2 i ys rs) {p : Pc} (hp : (T1 ++ T2)[i]? = some p) (h : Eqp T1 T2 p) : FoundAt H T1 T2 (i + 1) ys rs :=
  ⟨f.len, Nat.le_succ_of_le f.le, f.at_, f.odd, fun j q hj hq => by
    by_cases z : j = i
    · subst z
      rw [hp] at hq
      cases hq
      exact .inl h
    · exact f.all j q (by omega) hq⟩
theorem FoundAt.snoc {H : Hp} {T1 T2 : List Pc} {i : Nat} {ys : List V} {rs : List Rw} (f : FoundAt H T1 T2 i ys rs) {r : Rw} {b : Addr} (hp : (T1 ++ T2)[i]? = some r.1) (h : Odd T1 T2 r) (hb : H b = some (.tup (rowV r))) : FoundAt H T1 T2 (i + 1) (ys ++ [.ref b]) (rs ++ [r]) where
  len := by rw [List.length_append, List.length_append, f.len]; rfl
  le := by rw [List.length_append]; exact Nat.succ_le_succ f.le
  at_ := fun m q hm => by
    by_cases z : m < rs.length
    · rw [List.getElem?_append_left z] at hm
      obtain ⟨c, h1, h2⟩ := f.at_ m q hm
      exact ⟨c, by rw [List.getElem?_append_left (by rw [f.len]; exact z)]; exact h1, h2⟩
    · rw [List.getElem?_append_right (by omega)] at hm
      have hm0 : m - rs.length = 0 := by
        have := (List.getElem?_eq_some_iff.mp hm).1
        simp at this
        omega
      rw [hm0] at hm
      cases hm
      refine ⟨b, ?_, hb⟩
      rw [List.getElem?_append_right (by rw [f.len]; omega), f.len, hm0]
      rfl
  odd := fun q hq => by
    rcases List.mem_append.mp hq with hq | hq
    · exact f.odd q hq
    · rw [List.mem_singleton.mp hq]
      exact ⟨List.mem_of_getElem? hp, h⟩
  all := fun j q hj hq => by
    by_cases z : j = i
    · subst z
      rw [hp] at hq
      cases hq
      exact .inr ⟨r, List.mem_append_right _ (List.mem_singleton.mpr rfl), rfl⟩
    · rcases f.all j q (by omega) hq with h | ⟨s, hs, e⟩
      · exact .inl h
      · exact .inr ⟨s, List.mem_append_left _ hs, e⟩
theorem scal_opt (o o' : Option Int) : scal (optI o) (optI o') = true := by cases o <;> cases o' <;> rfl
theorem optI_inj {o o' : Option Int} (h : optI o = optI o') : o = o' := by
  cases o <;> cases o' <;> first | rfl | cases h | skip
  rfl
def kdOf (rs : List Rw) (i : Nat) : PyData := match rs[i]? with | some r => sizeD r.1 | none => sizeD ([], [], 0)
theorem kd_ok (rs : List Rw) : KeyOk (kdOf rs) := by
  have : ∀ i, ∃ p, kdOf rs i = sizeD p := fun i => by
    unfold kdOf
    cases rs[i]? with
    | none => exact ⟨_, rfl⟩
    | some r => exact ⟨_, rfl⟩
  refine ⟨fun i j => ?_, fun i => ?_, fun i => ?_, fun i => ?_⟩ <;> obtain ⟨p, e⟩ := this i <;> rw [e]
  · obtain ⟨q, e'⟩ := this j
    rw [e']
    simp [sizeD, PySem.W.alike, PySem.W.alikeAll]
  · exact fun z => by cases z
  · rfl
  · simp [sizeD, PyData.depth, PyData.depthAll]
theorem item_at2 {ρ : Rl} {H : Hp} {d1 d2 : PyData} {T1 T2 : List Pc} {xs1 xs2 : List V} (e1 : tupD d1 = tabD T1) (e2 : tupD d2 = tabD T2) (h1 : DSs ρ H xs1 (itemsD d1)) (h2 : DSs ρ H xs2 (itemsD d2)) {i : Nat} {x : V} (hi : (xs1 ++ xs2)[i]? = some x) : ∃ b p, x = .ref b ∧ (T1 ++ T2)[i]? = some p ∧ ∀ (K : Frag) H', ρ.r H H' → SqA K H' b [.str (S p.1), .str (S p.2.1), .int p.2.2] := by
  have l1 : xs1.length = T1.length := by rw [h1.length, items_len e1]
  by_cases z : i < xs1.length
  · rw [List.getElem?_append_left z] at hi
    obtain ⟨b, dx, p, a1, a2, _, _, a3⟩ := item_at e1 h1 hi
    exact ⟨b, p, a1, by rw [List.getElem?_append_left (by omega)]; exact a2, a3⟩
  · rw [List.getElem?_append_right (by omega)] at hi
    obtain ⟨b, dx, p, a1, a2, _, _, a3⟩ := item_at e2 h2 hi
    exact ⟨b, p, a1, by rw [List.getElem?_append_right (by omega), ← l1]; exact a2, a3⟩
theorem pure_unlike {K : Frag} (vs : List V) (H : Hp) (Q : VK) (E : XK) (h : sp_unlike K vs H Q E) : t_unlike K { nx := fun _ H' => Q .non H', rt := Q } (start ["one", "other", "found", "word", "text", "_", "first", "second"] vs) H := by
  obtain ⟨v1, v2, d1, d2, T1, T2, rfl, A1, A2, kn, ks⟩ := h
  have h81 := A1.ok.len
  have h82 := A2.ok.len
  refine q_drop (ρ := exR) (ev_check2 own_ex ((ev_B1 (F := isTableD) (ev_var rfl) A1.dd A1.s).val (by rw [A1.t])) ((ev_B1 (F := isTableD) (ev_var (v := v2) rfl) A2.dd A2.s).val (by rw [A2.t]))) fun _ H1 e1 _ => ?_
  refine q_asg (ρ := exR) (R := fun v' H' => ∃ p, v' = .ref p ∧ H1 p = none ∧ H' p = some (.lst [])) ((ev_lst (Rr := fun vs _ => vs = []) ea_nil fun vs H4 _ e => by rw [e]; show 0 ≤ 100000; decide).imp fun u H4 e4 ⟨p, vs, H5, eu, ev, hp, e5, eH⟩ => ⟨p, eu, e5.back p hp, by rw [eH, ev]; exact upd_same⟩) fun v3 H2 e2 ⟨p, ev3, hp1, hp2⟩ => ?_
  subst ev3
  have hp0 : H p = none := e1.back p hp1
  have own2 : Own (exR.and p) H2 := own_ex.and (ρ := exR) (H := H) (e1.trans e2) (by rw [hp2]; exact Option.some_ne_none _)
  have B1 : DS (exR.and p) H2 v1 d1 := (and_of (e1.trans e2)).ds (A1.dd.and hp0)
  have B2 : DS (exR.and p) H2 v2 d2 := (and_of (e1.trans e2)).ds (A2.dd.and hp0)
  obtain ⟨a1, xs1, rfl, hxs1, hA1, _⟩ := DS.seqd (ρ := exR.and p) B1 (items_map A1.e).1
  obtain ⟨a2, xs2, rfl, hxs2, hA2, _⟩ := DS.seqd (ρ := exR.and p) B2 (items_map A2.e).1
  have l1 : xs1.length = T1.length := by rw [hxs1.length, items_len A1.e]
  have l2 : xs2.length = T2.length := by rw [hxs2.length, items_len A2.e]
  have hlist : Ev exR (tOp (rAddU K) (tCB (rLstOf K) (tCons (tVar 0) tNil)) (tCB (rLstOf K) (tCons (tVar 1) tNil))) [some (.ref a1), some (.ref a2), some (.ref p), none, none, none, none, none] H2 (fun v H3 => ∃ q, v = .ref q ∧ ¬ exR.S q ∧ H2 q = none ∧ H3 q = some (.lst (xs1 ++ xs2))) :=
    ev_catLL (ρ := exR) own_ex (ev_listOf own_ex ((ev_var (v := .ref a1) rfl).imp fun v H3 e3 ev => ⟨a1, ev, hA1 K H3 (and_of e3)⟩)) (fun H4 e4 => ev_listOf own_ex ((ev_var (v := .ref a2) rfl).imp fun v H3 e3 ev => ⟨a2, ev, hA2 K H3 (and_of (e4.trans e3))⟩)) (by omega)
  refine q_forw (ρ := exR) (ρw := exR.and p) (ew_new own2 hlist) fun H3 e3 => ⟨fun i σ' H' => (exR.and p).r H3 H' ∧ (∃ u3 u4 u5 u6 u7, σ' = [some (.ref a1), some (.ref a2), some (.ref p), u3, u4, u5, u6, u7]) ∧ ∃ ys rs, H' p = some (.lst ys) ∧ FoundAt H' T1 T2 i ys rs, ⟨.rfl, ⟨_, _, _, _, _, rfl⟩, [], [], e3.ext _ _ hp2, ⟨rfl, Nat.le_refl _, fun m r h => by simp at h, fun r h => by simp at h, fun j p h => by omega⟩⟩, fun i σ' H' _ h => h.1, ?_, ?_⟩
  · rintro i x σ' H' H'' hi ⟨r, ⟨u3, u4, u5, u6, u7, rfl⟩, ys, rs, hp', hF⟩ ⟨eH, hx⟩
    subst eH
    have r2 : (exR.and p).r H2 H'' := (and_of e3).trans r
    obtain ⟨b, pc, rfl, hpc, hU⟩ := item_at2 (ρ := exR.and p) A1.e A2.e hxs1 hxs2 hx
    have hpT := List.mem_of_getElem? hpc
    have hok : (pc.1.length ≤ 2 ∧ pc.2.1.length ≤ 2) ∧ Lets pc.1 ∧ Lets pc.2.1 := by
      rcases List.mem_append.mp hpT with h | h
      · have := A1.ok.pc pc h
        exact ⟨by omega, A1.ok.lt pc h⟩
      · have := A2.ok.pc pc h
        exact ⟨by omega, A2.ok.lt pc h⟩
    refine g_seq3 (hU K H'' r2) ?_
    have C1 : Tab H'' (.ref a1) d1 T1 := ⟨(r2.ds B1).less, A1.s, A1.e, A1.ok, A1.so⟩
    have C2 : Tab H'' (.ref a2) d2 T2 := ⟨(r2.ds B2).less, A2.s, A2.e, A2.ok, A2.so⟩
    refine q_asg (ρ := exR) (ev_price (W := pc.1) (X := pc.2.1) (ev_var rfl) (ev_var rfl) (ev_var rfl) (C1.ask hok.2.1 hok.2.2 (by omega) (by omega))) fun v4 H4 e4 ⟨o, ev4, hpo⟩ => ?_
    subst ev4
    refine q_asg (ρ := exR) (ev_price (W := pc.1) (X := pc.2.1) (ev_var rfl) (ev_var rfl) (ev_var rfl) ((C2.r e4).ask hok.2.1 hok.2.2 (by omega) (by omega))) fun v5 H5 e5 ⟨o', ev5, hpo'⟩ => ?_
    subst ev5
    refine s_if (ρ := exR) (et_test (ev_neV (ev_var (v := optI o) rfl) (ev_var (v := optI o') rfl) (scal_opt o o'))) (fun hb H6 e6 => ?_) fun hb H6 e6 => ?_
    · have hne : o ≠ o' := fun z => by rw [z, decide_eq_true rfl] at hb; cases hb
      have e36 : exR.r H'' H6 := e4.trans (e5.trans e6)
      refine s_app (ρ := exR) (l := p) (xs := ys) (R := fun v H7 => ∃ c, v = .ref c ∧ H7 c = some (.tup (rowV (pc, o, o')))) (e36.ext _ _ hp') (fun z => z) (ev_var rfl) ?_ ?_ fun y H7 e7 ⟨c, ey, hc⟩ hp7 => ?_
      · exact (ev_tup (ea_cons (ev_var (v := .str (S pc.1)) rfl) (ea_cons (ev_var (v := .str (S pc.2.1)) rfl) (ea_cons (ev_var (v := optI o) rfl) (ea_cons (ev_var (v := optI o') rfl) ea_nil)))) fun vs H7 _ e => by rw [e]; show 4 ≤ 100000; decide).imp fun v H7 e7 ⟨c, vs, H8, ev, evs, hc, _, eH⟩ => ⟨c, ev, by rw [eH, evs]; exact upd_same⟩
      · have := hF.len
        have := hF.le
        rw [List.length_append] at hi
        omega
      · subst ey
        have rc : (exR.and p).r H7 (upd H7 p (.lst (ys ++ [.ref c]))) := r_chg (ρ := exR) hp7 fun z => z
        exact ⟨r.trans ((and_of (e36.trans e7)).trans rc), ⟨_, _, _, _, _, rfl⟩, _, rs ++ [(pc, o, o')], upd_same, ((hF.r (e36.trans e7)).r rc).snoc hpc ⟨hpo, hpo', hne⟩ (rc.tup _ _ hc)⟩
    · have heq : o = o' := by
        have : decide (optI o = optI o') = true := by
          cases q : decide (optI o = optI o') with
          | true => rfl
          | false => rw [q] at hb; cases hb
        exact optI_inj (of_decide_eq_true this)
      subst heq
      have e36 : exR.r H'' H6 := e4.trans (e5.trans e6)
      exact ⟨r.trans (and_of e36), ⟨_, _, _, _, _, rfl⟩, ys, rs, e36.ext _ _ hp', (hF.r e36).eq hpc ⟨o, hpo, hpo'⟩⟩
  · rintro σ' H' ⟨r, ⟨u3, u4, u5, u6, u7, rfl⟩, ys, rs, hp', hF⟩
    have e0 : ∀ {H4 : Hp}, exR.r H' H4 → Ext H H4 := fun e4 => (r_and e1 hp0 ((and_of (e2.trans e3)).trans (r.trans (and_of e4)))).ext
    have hl : (xs1 ++ xs2).length = (T1 ++ T2).length := by rw [List.length_append, List.length_append, l1, l2]
    rw [hl] at hF
    refine q_when (ρ := exR) (et_not (et_truL (ev_var rfl) fun H4 e4 => e4.ext _ _ hp')) (fun hb H4 e4 => s_retV (ρ := exR) ev_c fun H5 e5 => kn H5 (e0 (e4.trans e5)) fun q hq => ?_) fun hb H4 e4 => ?_
    · have hy : ys = [] := by
        cases ys with
        | nil => rfl
        | cons _ _ => cases hb
      have hr : rs = [] := by
        have := hF.len
        rw [hy] at this
        exact List.length_eq_zero_iff.mp this.symm
      obtain ⟨j, hj, e⟩ := List.mem_iff_getElem.mp hq
      rcases hF.all j q hj (by rw [List.getElem?_eq_getElem hj, e]) with h | ⟨s, hs, _⟩
      · exact h
      · rw [hr] at hs
        cases hs
    · have hne : ys ≠ [] := fun z => by rw [z] at hb; cases hb
      refine s_ret (ρ := exR) (R := fun v H6 => ∃ b q, v = .ref b ∧ Tells T1 T2 q ∧ H6 b = some (.tup (rowV q))) (fun H5 e5 Q' q' => ?_) fun v H6 e6 ⟨b, q, ev, ht, hq⟩ => by subst ev; exact ks b q H6 (e0 (e4.trans e6)) ht hq
      have e45 := e4.trans e5
      refine ea_cons (ρ := exR) (ev_var (v := .ref p) rfl) ea_nil H5 .rfl _ fun vs H6 e6 evs => ea_cons (ρ := exR) (ev_c (v := .ref (He.ga K "size_of"))) ea_nil H6 .rfl _ fun zs H7 e7 ezs => ?_
      have e17 : exR.r H' H7 := e45.trans (e6.trans e7)
      have hF7 := hF.r e17
      refine ⟨p, ys, kdOf rs, evs, ezs, fun H8 e8 => .of (e8 _ _ (e17.ext _ _ hp')), hne, kd_ok rs, fun m x hx H8 e8 Q2 q2 => ?_, fun x m H8 e8 hx hm => ?_⟩
      · have hm : m < rs.length := by rw [← hF7.len]; exact (List.getElem?_eq_some_iff.mp hx).1
        obtain ⟨b, h1, h2⟩ := hF7.at_ m rs[m] (List.getElem?_eq_getElem hm)
        rw [hx] at h1
        cases h1
        have hr := (hF.odd rs[m] (List.getElem_mem hm)).1
        have hok : rs[m].1.1.length ≤ 2 ∧ rs[m].1.2.1.length ≤ 2 := by
          rcases List.mem_append.mp hr with h | h
          · have := A1.ok.pc _ h
            omega
          · have := A2.ok.pc _ h
            omega
        refine ⟨b, rs[m], rfl, e8 _ _ h2, by omega, by omega, fun kv H9 e9 hd => q2 kv H9 e9 ?_⟩
        unfold kdOf
        rw [List.getElem?_eq_getElem hm]
        exact hd
      · have hml : m < rs.length := by rw [← hF7.len]; exact (List.getElem?_eq_some_iff.mp hx).1
        obtain ⟨b, h1, h2⟩ := hF7.at_ m rs[m] (List.getElem?_eq_getElem hml)
        rw [hx] at h1
        cases h1
        have hr := hF.odd rs[m] (List.getElem_mem hml)
        refine q' _ H8 ((e6.trans e7).trans (Ext.r e8)) ⟨b, rs[m], rfl, ⟨hr.1, hr.2, fun q hq ho => ?_⟩, e8 _ _ h2⟩
        obtain ⟨j, hj, e⟩ := List.mem_iff_getElem.mp hq
        rcases hF.all j q.1 hj (by rw [List.getElem?_eq_getElem hj, e]) with ⟨o, a1, a2⟩ | ⟨s, hs, es⟩
        · exact absurd ((ho.1.unique a1).trans (ho.2.1.unique a2).symm) ho.2.2
        · obtain ⟨n, hn, en⟩ := List.mem_iff_getElem.mp hs
          have := hm n (by rw [hF7.len]; exact hn)
          unfold kdOf at this
          rw [List.getElem?_eq_getElem hn, List.getElem?_eq_getElem hml, en] at this
          rw [← es]
          exact this
end Slip
/-! the law's least table -/
namespace Slip
open PySem PySem.Spec PyProof.Rows L2
theorem eqv_pc (p q : Pc) : PyData.eqv (pcD p) (pcD q) = decide (p = q) := by
  have : PyData.eqv (pcD p) (pcD q) = (PyData.eqv (.str (S p.1)) (.str (S q.1)) && (PyData.eqv (.str (S p.2.1)) (.str (S q.2.1)) && (PyData.eqv (.int p.2.2) (.int q.2.2) && true))) := rfl
  rw [this, eqv_str, eqv_str, s_eq, s_eq, Bool.and_true]
  have hi : PyData.eqv (.int p.2.2) (.int q.2.2) = decide (p.2.2 = q.2.2) := by
    show (p.2.2 == q.2.2) = _
    rw [Bool.eq_iff_iff]
    simp
  rw [hi]
  rw [Bool.eq_iff_iff]
  simp only [Bool.and_eq_true, decide_eq_true_eq]
  exact ⟨fun h => Prod.ext h.1 (Prod.ext h.2.1 h.2.2), fun h => by rw [h]; exact ⟨rfl, rfl, rfl⟩⟩
section
variable {ρ ρw : Rl} {K : Frag} {σ : L2.St} {H : Hp} {te : TE} {a : Addr} {xs : List V}
/-- a tuple that stays -/
theorem ew_seqT (le : ∀ H1 H2, ρ.r H1 H2 → ρw.r H1 H2) (h : EvV ρ te σ H (.ref a)) (hs : ∀ H1, ρw.r H H1 → SqT K H1 a xs) : EvW ρ ρw (iSeq K te) σ H xs.length (YAt xs) := fun H1 e1 R k =>
  .inr (.inl (h H1 e1 _ fun v H2 e2 hv => ⟨a, hv, ⟨xs, hs H2 (le _ _ (e1.trans e2))⟩, k _ H2 e2 (walk_tup.mono (fun H3 e3 => hs H3 ((le _ _ (e1.trans e2)).trans e3)) fun _ _ _ _ _ _ y => y)⟩))
end
/-- a table of tuples -/
theorem tab_tup {H : Hp} {v : V} {T : List Pc} (h : DS exR H v (tabD T)) : ∃ a xs, v = .ref a ∧ H a = some (.tup xs) ∧ DSs exR H xs (T.map pcD) := by
  unfold tabD at h
  cases h with
  | tup hs ha => exact ⟨_, _, rfl, hs, ha⟩
theorem nl_tab (T : List Pc) : noList (tabD T) = true := noLists_map fun _ _ => nl_pc _
/-- it survives any change -/
theorem tab_any {ρ ρ' : Rl} {H H' : Hp} {v : V} {T : List Pc} (e : ρ.r H H') {A : Addr → Prop} (h : Dq A H v (tabD T)) : DS ρ' H' v (tabD T) := h.tups e.tup _ _ (nl_tab T)
def sp__law_least_table (K : Frag) : Sp := fun vs H Q _ => ∃ (v : V) (T : List Pc), vs = [v] ∧ DS exR H v (tabD T) ∧ TabOk T ∧ TSort T ∧ ∀ v' H', Ext H H' → DS exR H' v' (tabD (least T)) → Q v' H'
theorem len__law_least_table {K : Frag} {vs : List V} {H : Hp} {Q : VK} {E : XK} (h : sp__law_least_table K vs H Q E) : vs.length = 1 := by
  obtain ⟨v, T, rfl, _⟩ := h
  rfl
def t__law_least_table (K : Frag) : TS := (tSeq (tAsg (tLst tNil) (gName 1)) (tSeq (tFor (iSeq K (tVar 0)) (gName 2) (tSeq (tAsg (tCall (sp__law_price K) [] E0 (tCons (tCB (rTupOf K) (tCons (tLc (iSeq K (tVar 0)) (gName 4) (tTest (tOp (rNeU K) (tVar 4) (tVar 2))) (tVar 4) [4]) tNil)) (tCons (tIxU K (tVar 2) (tC (.int 0))) (tCons (tIxU K (tVar 2) (tC (.int 1))) tNil)))) (gName 3)) (tIfS (tOr (tTest (tOp rIsN (tVar 3) (tC .non))) (tTest (tOp (rCmp K gGt) (tVar 3) (tIxU K (tVar 2) (tC (.int 2)))))) (tDrop (tBM K "list" rAppend (tVar 1) (tCons (tVar 2) tNil))) tNext))) (tRet (tCB (rTupOf K) (tCons (tVar 1) tNil)))))
/-- the table without one of its faults -/
def out (T : List Pc) (p : Pc) : List Pc := T.filter fun q => !decide (q = p)
theorem mem_out {T : List Pc} {p : Pc} (q : Pc) : q ∈ out T p ↔ q ∈ rem T p := by
  unfold out
  rw [mem_rem, List.mem_filter, Bool.not_eq_true', decide_eq_false_iff_not]
theorem pure__law_least_table {K : Frag} (vs : List V) (H : Hp) (Q : VK) (E : XK) (h : sp__law_least_table K vs H Q E) : t__law_least_table K { nx := fun _ H' => Q .non H', rt := Q } (start ["table", "made", "one", "rest", "other"] vs) H := by
  obtain ⟨v, T, rfl, hd, ok, so, k⟩ := h
  have h8 := ok.len
  refine q_asg (ρ := exR) (R := fun v' H' => ∃ p, v' = .ref p ∧ H p = none ∧ H' p = some (.lst [])) ((ev_lst (Rr := fun vs _ => vs = []) ea_nil fun vs H4 _ e => by rw [e]; show 0 ≤ 100000; decide).imp fun u H4 e4 ⟨p, vs, H5, eu, ev, hp, e5, eH⟩ => ⟨p, eu, e5.back p hp, by rw [eH, ev]; exact upd_same⟩) fun v2 H2 e2 ⟨p, ev2, hp0, hp2⟩ => ?_
  subst ev2
  have hd2 := e2.ds hd
  obtain ⟨a, xs, rfl, ha, hxs⟩ := tab_tup hd2
  have hlen : xs.length = T.length := by rw [hxs.length, List.length_map]
  have keepA : ∀ {H3 : Hp}, (exR.and p).r H2 H3 → DS exR H3 (.ref a) (tabD T) ∧ SqT K H3 a xs ∧ DSs exR H3 xs (T.map pcD) := fun e => ⟨tab_any e hd2, .inl (.inl (e.tup _ _ ha)), DqAll.tups e.tup _ _ (nl_tab T) hxs⟩
  refine q_forw (ρ := exR) (ρw := exR.and p) (ew_seqT (fun _ _ => and_of) (ev_var rfl) fun H1 e1 => (keepA e1).2.1) fun H3 e3 => ⟨fun i σ' H' => (exR.and p).r H3 H' ∧ (∃ u2 u3, σ' = [some (.ref a), some (.ref p), u2, u3, none]) ∧ ∃ ys, H' p = some (.lst ys) ∧ DSs exR H' ys ((keepTo T i).map pcD), ⟨.rfl, ⟨_, _, rfl⟩, [], e3.ext _ _ hp2, by rw [keepTo_zero]; exact .nil⟩, fun i σ' H' _ h => h.1, ?_, ?_⟩
  · rintro i x σ' H' H'' hi ⟨r, ⟨u2, u3, rfl⟩, ys, hp', hys⟩ ⟨eH, hx⟩
    subst eH
    have r2 : (exR.and p).r H2 H'' := (and_of e3).trans r
    obtain ⟨ka, kb, kc⟩ := keepA r2
    obtain ⟨b, dx, pc, rfl, hpc, hdx, htp, hU⟩ := item_at (ρ := exR) (d := tabD T) (tup_tab T) kc hx
    have hpT := List.mem_of_getElem? hpc
    have hpl := ok.pc pc hpT
    have hlt := ok.lt pc hpT
    have hdx' : dx = pcD pc := by
      have : (T.map pcD)[i]? = some dx := hdx
      rw [List.getElem?_map, hpc] at this
      exact (Option.some.inj this).symm
    subst hdx'
    have hxd : DS exR H'' (.ref b) (pcD pc) := by
      obtain ⟨e, he, hq⟩ := DqAll.get kc hx
      rw [List.getElem?_map, hpc] at he
      cases he
      exact hq
    show (tSeq _ _) _ _ _
    refine q_asg (ρ := exR) (R := fun u _ => ∃ o, u = optI o ∧ PriceIs (rem T pc) pc.1 pc.2.1 o) ?_ fun v4 H4 e4 ⟨o, ev4, hpo⟩ => ?_
    · have hlc : Ev exR (tLc (iSeq K (tVar 0)) (gName 4) (tTest (tOp (rNeU K) (tVar 4) (tVar 2))) (tVar 4) [4]) [some (.ref a), some (.ref p), some (.ref b), u3, none] H'' (fun v H5 => ∃ l zs, v = .ref l ∧ ¬ exR.S l ∧ H5 l = some (.lst zs) ∧ DSs exR H5 zs ((out T pc).map pcD)) := by
        refine (ev_lcK (f := fun m => match T[m]? with | some q => !decide (q = pc) | none => false) (dd := fun m => match T[m]? with | some q => pcD q | none => .none) own_ex (by omega) (ei_seq (xs := xs) (ev_var rfl) (fun H5 e5 => .inr (e5.sqT kb)) (.inr fun H5 e5 => e5.sqT kb)) fun D H5 r5 hD m y H6 H7 hm r6 oD yy cont hc => ?_).imp fun u H5 r5 ⟨l, zs, eu, nS, _, hz, hzs⟩ => ⟨l, zs, eu, nS, hz, ?_⟩
        · obtain ⟨eH6, hy⟩ := yy
          subst eH6
          obtain ⟨e, he, hq⟩ := DqAll.get kc hy
          rw [List.getElem?_map] at he
          cases hTm : T[m]? with
          | none => rw [hTm] at he; cases he
          | some q =>
            rw [hTm] at he
            cases he
            have hqT := List.mem_of_getElem? hTm
            have hql := ok.pc q hqT
            have hqlt := ok.lt q hqT
            refine hc _ _ rfl .rfl ?_ fun H8 r8 => ?_
            · rw [hTm]
              exact (et_test (ev_neD (ev_var (v := y) rfl) (ev_var (v := .ref b) rfl) ((r5.trans r6).ds hq) ((r5.trans r6).ds hxd) (shaped_pc hqlt.1 hqlt.2 (by omega) (by omega)) (shaped_pc hlt.1 hlt.2 (by omega) (by omega)))).to (by rw [eqv_pc])
            · rw [hTm]
              exact (ev_var (v := y) rfl).imp fun _ _ r9 ev => by
                rw [ev]
                exact hq.tups ((r5.trans r6).trans (r8.trans r9)).tup _ _ (nl_pc q)
        · have := kept_map (xs := T) (f := fun m => match T[m]? with | some q => !decide (q = pc) | none => false) (g := fun q => !decide (q = pc)) (dd := fun m => match T[m]? with | some q => pcD q | none => .none) (F := pcD) (fun i' x hx => by rw [hx]; exact ⟨rfl, rfl⟩) T.length (Nat.le_refl _)
          rw [List.take_length] at this
          unfold out
          rw [← this, ← hlen]
          exact hzs
      refine ev_callR (ea_consR (Rr := fun u ws H6 => ws = [.str (S pc.1), .str (S pc.2.1)] ∧ DS exR H6 u (.tuple ((out T pc).map pcD))) (ev_tupOf (C := fun ds => ds = (out T pc).map pcD) Le.rfl (hlc.imp fun u H5 _ ⟨l, zs, eu, nS, hz, hzs⟩ => ⟨l, zs, _, eu, nS, hz, hzs, rfl⟩)) fun u H5 e5 ⟨ds, hds, hu⟩ => (ea_cons (ev_ix (n := 0) (v := .str (S pc.1)) (ev_var (v := .ref b) rfl) ev_c (fun H6 e6 => hU K H6 (e5.trans e6)) rfl rfl) (ea_cons (ev_ix (n := 1) (v := .str (S pc.2.1)) (ev_var (v := .ref b) rfl) ev_c (fun H6 e6 => hU K H6 (e5.trans e6)) rfl rfl) ea_nil)).imp fun ws H6 e6 ew => ⟨ew, by rw [← hds]; exact e6.ds hu⟩) fun vs H5 e5 ⟨u, ws, evs, ew, hu⟩ => ?_
      subst evs ew
      exact fun H6 e7 Q' q' E' => ⟨u, out T pc, pc.1, pc.2.1, rfl, ⟨e7.ds hu, ok.sub List.filter_sublist, by omega, by omega⟩, fun o H' e hp => q' _ H' (Ext.r e) ⟨o, rfl, hp.congr mem_out⟩⟩
    · subst ev4
      obtain ⟨bb, ht, hb⟩ := et_keep (ρ := exR) (K := K) (σ := [some (.ref a), some (.ref p), some (.ref b), some (optI o), none]) (H := H4) (ta := tVar 3) (tb := tIxU K (tVar 2) (tC (.int 2))) (T := T) (p := pc) (o := o) (ev_var rfl) (ev_ix (n := 2) (v := .int pc.2.2) (ev_var (v := .ref b) rfl) ev_c (fun H6 e6 => hU K H6 (e4.trans e6)) rfl rfl) hpo
      refine s_if (ρ := exR) ht (fun hy H6 e6 => ?_) fun hn H6 e6 => ?_
      · refine s_app (ρ := exR) (l := p) (xs := ys) ((e4.trans e6).ext _ _ hp') (fun z => z) (ev_var rfl) (ev_var (v := .ref b) rfl) ?_ fun y H7 e7 ey hp7 => ?_
        · have := hys.length
          rw [List.length_map] at this
          have := keepTo_len T i
          omega
        · subst ey
          have e47 := e4.trans (e6.trans e7)
          have rc : (exR.and p).r H7 (upd H7 p (.lst (ys ++ [.ref b]))) := r_chg (ρ := exR) hp7 fun z => z
          refine ⟨r.trans ((and_of e47).trans rc), ⟨_, _, rfl⟩, _, upd_same, ?_⟩
          rw [keepTo_yes hpc (hb.mp hy), List.map_append]
          exact (DqAll.tups rc.tup _ _ (noLists_map fun _ _ => nl_pc _) (e47.dss hys)).append (.cons ((e47.ds hxd).tups rc.tup _ _ (nl_pc _)) .nil)
      · have e46 := e4.trans e6
        refine ⟨r.trans (and_of e46), ⟨_, _, rfl⟩, ys, e46.ext _ _ hp', ?_⟩
        rw [keepTo_no hpc fun z => by rw [hb.mpr z] at hn; cases hn]
        exact e46.dss hys
  · rintro σ' H' ⟨r, ⟨u2, u3, rfl⟩, ys, hp', hys⟩
    rw [hlen, keepTo_all] at hys
    refine s_ret (ρ := exR) (R := fun v' H6 => DS exR H6 v' (tabD (least T)) ∧ exR.r H H6) (ev_cbV (ea_cons (ev_var (v := .ref p) rfl) ea_nil) fun H4 e4 Q' q' => ⟨p, ys, rfl, .inl ⟨.of (e4.ext _ _ hp'), fun l hl => q' _ _ (r_new _ hl) ⟨?_, ?_⟩⟩⟩) fun v4 H4 e4 ⟨hv, e0⟩ => k v4 H4 e0.ext hv
    · exact .tup upd_same ((e4.trans (r_new _ hl)).dss hys)
    · exact r_and .rfl hp0 ((and_of (e2.trans e3)).trans (r.trans (and_of (e4.trans (r_new _ hl)))))
end Slip
/-! a table put together in a dict -/
namespace Slip
open PySem PySem.Spec PyProof.Rows L2
abbrev DT := List (List Key × V)
def keyP (p : Pc) : List Key := [.inr (S p.1), .inr (S p.2.1)]
/-- p's price stands in the dict -/
def HasP (kvs : DT) (p : Pc) : Prop := valV kvs (keyP p) = some (.int p.2.2)
theorem key_inj {p q : Pc} (h : keyP p = keyP q) : p.1 = q.1 ∧ p.2.1 = q.2.1 := by
  unfold keyP at h
  injection h with h1 h2
  injection h2 with h2 _
  injection h1 with h1
  injection h2 with h2
  exact ⟨s_inj h1, s_inj h2⟩
theorem key_ne {T : List Pc} (s : TSort T) {p q : Pc} (hp : p ∈ T) (hq : q ∈ T) (h : keyP p = keyP q) : p = q := by
  obtain ⟨h1, h2⟩ := key_inj h
  apply Classical.byContradiction
  intro hne
  have e : pairD p = pairD q := by unfold pairD; rw [h1, h2]
  have : ∀ (a b : Pc), pairD a = pairD b → ¬ PySem.W.dataLt (pairD a) (pairD b) = true := fun a b e z => by rw [e, lt_irr] at z; cases z
  obtain ⟨i, hi, ei⟩ := List.mem_iff_getElem.mp hp
  obtain ⟨j, hj, ej⟩ := List.mem_iff_getElem.mp hq
  have pw := List.pairwise_iff_getElem.mp s
  rcases Nat.lt_trichotomy i j with z | z | z
  · exact this p q e (by rw [← ei, ← ej]; exact pw i j hi hj z)
  · subst z
    exact hne (ei.symm.trans ej)
  · exact this q p e.symm (by rw [← ei, ← ej]; exact pw j i hj hi z)
theorem val_in {kvs : DT} {k : List Key} {v : V} (h : valV kvs k = some v) : (k, v) ∈ kvs := by
  unfold valV at h
  cases q : kvs.find? fun kv => decide (kv.1 = k) with
  | none => rw [q] at h; cases h
  | some kv =>
    rw [q] at h
    have h1 := List.mem_of_find?_eq_some q
    have h2 : kv.1 = k := of_decide_eq_true (List.find?_some (p := fun kv : List Key × V => decide (kv.1 = k)) q)
    have h3 : kv.2 = v := Option.some.inj h
    have : kv = (k, v) := Prod.ext h2 h3
    rwa [this] at h1
theorem ent_pc {p : Pc} (h : p.1.length ≤ 2 ∧ p.2.1.length ≤ 2 ∧ p.1 ≠ p.2.1 ∧ 1 ≤ p.2.2 ∧ p.2.2 ≤ 9) (g : Lets p.1 ∧ Lets p.2.1) : Ent (keyP p, .int p.2.2) :=
  ⟨S p.1, S p.2.1, p.2.2, rfl, piece_of (by rw [s_len]; exact h.1) (by rw [s_list]; exact g.1), piece_of (by rw [s_len]; exact h.2.1) (by rw [s_list]; exact g.2), fun z => h.2.2.1 (s_inj z), h.2.2.2.1, h.2.2.2.2⟩
theorem ent_put {kvs : DT} (he : ∀ p ∈ kvs, Ent p) {k : List Key} {v : V} (h : Ent (k, v)) : ∀ p ∈ putK kvs k v, Ent p := fun p hp => by
  rcases put_mem hp with z | rfl
  · exact he p z
  · exact h
/-- the table that a dict gives -/
theorem held_table {kvs : DT} {ys : List (List Key × Addr)} (he : ∀ p ∈ kvs, Ent p) (hp : (ys.map (·.1)).Perm (kvs.map (·.1))) (ht : isTableD (.tuple (ys.map fun b => entD kvs b.1)) = true) (hn : noLists (ys.map fun b => entD kvs b.1) = true) :
    ∃ M, (ys.map fun b => entD kvs b.1) = M.map pcD ∧ TabOk M ∧ TSort M ∧ ∀ p, p ∈ M ↔ HasP kvs p := by
  obtain ⟨M, e, ok⟩ := table_pcs ht
  have so := table_sort ht e
  rw [tup_self _ (show noList (.tuple (ys.map fun b => entD kvs b.1)) = true from hn)] at e
  unfold tabD at e
  injection e with e
  refine ⟨M, e, ok, so, fun p => ?_⟩
  have h1 : p ∈ M ↔ pcD p ∈ M.map pcD := ⟨fun h => List.mem_map.mpr ⟨p, h, rfl⟩, fun h => by
    obtain ⟨q, hq, eq⟩ := List.mem_map.mp h
    rwa [← pc_inj eq]⟩
  rw [h1, ← e, List.mem_map]
  constructor
  · rintro ⟨b, hb, eb⟩
    obtain ⟨s, t, c, k1, k2, k3, _⟩ := ent_at he (hp.mem_iff.mp (List.mem_map.mpr ⟨b, hb, rfl⟩))
    rw [k3] at eb
    unfold pcD at eb
    simp only [PyData.tuple.injEq, List.cons.injEq, PyData.str.injEq, PyData.int.injEq, and_true] at eb
    unfold HasP keyP
    rw [← eb.1, ← eb.2.1, ← eb.2.2, ← k1, k2]
  · intro h
    have hk : keyP p ∈ kvs.map (·.1) := List.mem_map.mpr ⟨_, val_in h, rfl⟩
    obtain ⟨b, hb, eb⟩ := List.mem_map.mp (hp.mem_iff.mpr hk)
    refine ⟨b, hb, ?_⟩
    rw [eb]
    unfold HasP at h
    unfold entD keyP
    unfold keyP at h
    rw [h]
    rfl
section
variable {ρ : Rl} {K : Frag} {σ : L2.St} {H : Hp} {D : Addr} {kvs : DT}
/-- tuple([key + (held[key],) for key in sorted(held)]) -/
theorem ev_tabHeld {i j : Nat} (own : Own ρ H) (nD : ¬ ρ.S D) (hD : H D = some (.dT kvs)) (h8 : kvs.length ≤ 8) (he : ∀ p ∈ kvs, Ent p) (h1 : σ[i]? = some (some (.ref D))) (hw : ∀ x, wipe ((wipe σ [j]).set j (some x)) [j] = wipe σ [j]) (hi : ∀ x, ((wipe σ [j]).set j (some x))[i]? = some (some (.ref D))) (hj : ∀ x, ((wipe σ [j]).set j (some x))[j]? = some (some x)) :
    Ev ρ (tCB (rTupOf K) (tCons (tLc (iSeq K (tCB (rSortU K) (tCons (tVar i) tNil))) (gName j) tYes (tOp (rAddU K) (tVar j) (tTup (tCons (tIxU K (tVar i) (tVar j)) tNil))) [j]) tNil)) σ H (fun v H2 => ∃ M, DS ρ H2 v (tabD M) ∧ TabOk M ∧ TSort M ∧ ∀ p, p ∈ M ↔ HasP kvs p) := by
  have hlc := ev_lcx (ρ := ρ) (wi := iSeq K (tCB (rSortU K) (tCons (tVar i) tNil))) (σ := σ) (H := H) (g := gName j) (tt := tYes) (te := tOp (rAddU K) (tVar j) (tTup (tCons (tIxU K (tVar i) (tVar j)) tNil))) (vs := [j])
    (R := fun u H2 => ∃ p xs ds, u = .ref p ∧ ¬ ρ.S p ∧ H2 p = some (.lst xs) ∧ DSs ρ H2 xs ds ∧ (∃ M, ds = M.map pcD ∧ TabOk M ∧ TSort M ∧ ∀ p, p ∈ M ↔ HasP kvs p)) (eix_sortT own (ev_var h1) (fun H1 e => e.keep _ _ nD hD) (by omega) (ent_alike he) (ent_nonempty he)) fun n' Y' H3 J ⟨ys, hp, hnd, hpw, hn', hY'⟩ e3 hI => ?_
  · refine (ev_tupOf (ρf := ρ) (C := fun ds => ∃ M, ds = M.map pcD ∧ TabOk M ∧ TSort M ∧ ∀ p, p ∈ M ↔ HasP kvs p) Le.rfl hlc).imp fun v H3 e3 ⟨ds, ⟨M, e, a, b, c⟩, hv⟩ => ⟨M, by unfold tabD; rw [← e]; exact hv, a, b, c⟩
  · subst hn' hY'
    have hl : ys.length = kvs.length := by
      have := hp.length_eq
      rwa [List.length_map, List.length_map] at this
    refine (ev_lcD (dd := fun i => match ys[i]? with | some b => entD kvs b.1 | none => .none) (own.r e3) (by omega) hI hw (fun i H2 x H3 y => y.1) ?_).imp ?_
    · rintro D' H4 e4 hD' m x H5 H6 hm r5 oD ⟨e6, b, hb, rfl, hk⟩
      obtain ⟨s, t, c, k1, k2, k3, _⟩ := ent_at he (hp.mem_iff.mp (List.mem_map.mpr ⟨b, List.mem_of_getElem? hb, rfl⟩))
      rw [hb]
      show Ev ρ _ _ H5 (fun y H4 => DS (ρ.and D') H4 y (entD kvs b.1))
      rw [k3]
      rw [k1] at hk k2
      have hD5 : H5 D = some (.dT kvs) := (e3.trans (e4.trans r5)).keep _ _ nD hD
      refine ev_op2 (Ra := fun v _ => v = .ref b.2) (Rb := fun v H7 => ∃ q, v = .ref q ∧ H7 q = some (.tup [.int c])) (ev_var (hj _)) (fun x H7 e7 ex => ?_) (fun x y H7 H8 e7 e8 ex ⟨q, ey, hq⟩ => ?_)
      · refine (ev_tup (Rr := fun vs _ => vs = [.int c]) ((ea_one (Ra := fun v _ => v = .int c) ?_).imp fun vs H8 e8 ⟨u, e9, e10⟩ => by rw [e9, e10]) fun vs H8 _ e => by rw [e]; show 1 ≤ 100000; decide).imp fun v H8 e8 ⟨p, vs, H9, ev, evs, hp9, r9, eH⟩ => ⟨p, ev, by rw [eH, evs]; exact upd_same⟩
        intro H8 e8 Q' q'
        refine .inr (ev_var (ρ := ρ) (v := .ref D) (hi _) H8 .rfl _ fun o H9 e9 eo => ?_)
        subst eo
        refine ev_var (ρ := ρ) (v := .ref b.2) (hj _) H9 .rfl _ fun o H10 e10 eo => ?_
        subst eo
        have e510 := e7.trans (e8.trans (e9.trans e10))
        refine ⟨D, .int c, rfl, ?_, q' _ H10 (e9.trans e10) rfl⟩
        rw [← k2]
        exact DGet.t (e510.keep _ _ nD hD5) (e510.tup _ _ hk)
      · subst ex ey
        intro H9 e9 Q' q'
        have hb9 := (e7.trans (e8.trans e9)).tup _ _ hk
        have hq9 := e9.tup _ _ hq
        refine .inr (.inr (.inl ⟨b.2, q, _, _, rfl, rfl, .inl (.inl hb9), .inl (.inl hq9), by show 3 ≤ sizeLine; decide, fun z => (by cases z), fun _ z => (by cases z), fun _ _ p hp => q' _ _ (r_new _ hp) (.tup upd_same (.cons (.str s) (.cons (.str t) (.cons (.int c) .nil))))⟩))
    · rintro u H4 e4 ⟨p, xs, rfl, nS, hp0, hx, hds⟩
      have em : (List.range ys.length).map (fun i => match ys[i]? with | some b => entD kvs b.1 | none => .none) = ys.map fun b => entD kvs b.1 := by
        refine List.ext_getElem? fun i => ?_
        rw [List.getElem?_map, List.getElem?_map]
        by_cases hi : i < ys.length
        · rw [List.getElem?_range hi, List.getElem?_eq_getElem hi]
          show some (match ys[i]? with | some b => entD kvs b.1 | none => .none) = some (entD kvs ys[i].1)
          rw [List.getElem?_eq_getElem hi]
        · rw [List.getElem?_eq_none_iff.mpr (by rw [List.length_range]; omega), List.getElem?_eq_none_iff.mpr (by omega)] <;> rfl
      rw [em] at hds
      refine ⟨p, xs, _, rfl, nS, hx, hds, held_table he hp (table_of he hp hnd hpw h8) (noLists_map fun b hb => ?_)⟩
      obtain ⟨s, t, c, _, _, k3, _⟩ := ent_at he (hp.mem_iff.mp (List.mem_map.mpr ⟨b, hb, rfl⟩))
      rw [k3]
      rfl
end
section
variable {ρ : Rl} {K : Frag} {σ : L2.St} {H : Hp} {te ta tb : TE} {a : Addr} {D : Ends} {tz : TS} {y : V} {d : PyData}
/-- not _law_so(.., ..) where both are the same -/
theorem et_so {E : XK} (h1 : Ev ρ ta σ H (fun v H' => DS exR H' v d)) (h2 : ∀ H7, ρ.r H H7 → EvV ρ tb σ H7 y) (hy : DS exR H y d) (hd : noList d = true ∧ soD d d = true ∧ sm d = true ∧ d.depth < 8) : EvT ρ (tNot (tB (tCall (sp__law_so K 8) [] E (tCons ta (tCons tb tNil))))) σ H false :=
  et_not (a := true) (et_B (ev_callR (sp := sp__law_so K 8) (R := fun v _ => v = .bl true) (ea_consR (Ra := fun v H' => DS exR H' v d) (Rr := fun x ws H' => ws = [y] ∧ DS exR H' x d) h1 fun x H7 e7 hx => (ea_cons (h2 H7 e7) ea_nil).imp fun ws H8 e8 ew => ⟨ew, hx.tups e8.tup _ _ hd.1⟩) fun vs H7 e7 ⟨x, ws, ev, ew, hx⟩ => by
    subst ev ew
    exact fun H8 e8 Q' q' E' => ⟨x, y, d, d, rfl, hx.tups e8.tup _ _ hd.1, hy.tups (fun a xs z => e8.tup _ _ (e7.tup _ _ z)) _ _ hd.1, hd.2.2.1, hd.2.2.2, fun H' e => q' _ H' (Ext.r e) (by rw [hd.2.1])⟩))
theorem bool_facts (b : Bool) : noList (.bool b) = true ∧ soD (.bool b) (.bool b) = true ∧ sm (.bool b) = true ∧ (PyData.bool b).depth < 8 := by
  cases b <;> exact ⟨rfl, rfl, rfl, by show 0 < 8; decide⟩
theorem tab_facts {T : List Pc} (ok : TabOk T) (so : TSort T) : noList (tabD T) = true ∧ soD (tabD T) (tabD T) = true ∧ sm (tabD T) = true ∧ (tabD T).depth < 8 := by
  have hno := nl_tab T
  obtain ⟨hpl, hdep⟩ := table_plain (ds := T.map pcD) hno (tab_table ok so)
  exact ⟨hno, so_self _ hpl, plain_sm _ hpl, Nat.lt_of_le_of_lt hdep (by decide)⟩
/-- one[:2], a key -/
theorem ev_slK {x y z : V} (h : EvV ρ te σ H (.ref a)) (hs : ∀ H1, ρ.r H H1 → SqT K H1 a [x, y, z]) : Ev ρ (tSl (rSlU K) te tNoPart (tPart (tC (.int 2)))) σ H (fun v H2 => ∃ q, v = .ref q ∧ H2 q = some (.tup [x, y])) := fun H0 e Q q =>
  h H0 e _ fun w H2 e2 ew => by
    subst ew
    refine eo_none (ρ := ρ) (σ := σ) H2 .rfl _ fun H3 e3 => eo_some (ρ := ρ) (σ := σ) (i := ((2 : Nat) : Int)) ev_c H3 .rfl _ fun H4 e4 => ?_
    refine .inr (.inl ⟨a, _, rfl, hs H4 (e.trans (e2.trans (e3.trans e4))), fun hw => ?_, fun _ p hp => q _ _ ((e2.trans (e3.trans e4)).trans (r_new _ hp)) ⟨p, rfl, ?_⟩⟩)
    · have := hw.2
      rw [HT.sIx_nat] at this
      exact absurd this (by show ¬ min 2 3 = 3; decide)
    · rw [cut_to]
      exact upd_same
/-- two that are drawn -/
theorem q_parR {i j : Nat} {ta : TA} {R : List V → Hp → Prop} (h : EvA ρ ta σ H R) (k : ∀ vs H1, ρ.r H H1 → R vs H1 → ∃ x y, vs = [x, y] ∧ tz D ((σ.set i (some x)).set j (some y)) H1) : tSeq (tPar i j ta) tz D σ H := by
  show ta σ H fun vs H1 => ∃ v w, vs = [v, w] ∧ tz D ((σ.set i (some v)).set j (some w)) H1
  exact h H .rfl _ fun vs H1 e1 ev => k vs H1 e1 ev
theorem ev_lenT {P : Addr} {kvs : DT} (h : EvV ρ te σ H (.ref P)) (hP : ∀ H1, ρ.r H H1 → H1 P = some (.dT kvs)) : EvV ρ (tCB (rLenU K) (tCons te tNil)) σ H (.int (kvs.length : Int)) :=
  ev_cbV (ea_cons h ea_nil) fun H1 e1 Q q => .inr (.inr ⟨P, kvs, rfl, hP H1 e1, q _ H1 .rfl rfl⟩)
end
/-- a pick from a table of tuples -/
theorem ev_pickT {K : Frag} {σ : L2.St} {H : Hp} {sp ra a : Addr} {T : List Pc} {xs : List V} {ta tb tc : TE} {E : XK} (h1 : EvV (spR sp) ta σ H (.ref ra)) (h2 : EvV (spR sp) tb σ H (.ref sp)) (h3 : EvV (spR sp) tc σ H (.ref a)) (dr : Dr K ra sp H) (ha : H a = some (.tup xs)) (hxs : DSs exR H xs (T.map pcD)) (hne : T ≠ []) (hl : T.length ≤ 8) :
    Ev (spR sp) (tCall (sp__law_pick K) [] E (tCons ta (tCons tb (tCons tc tNil)))) σ H (fun v H' => ∃ b p, v = .ref b ∧ p ∈ T ∧ H' b = some (.tup [.str (S p.1), .str (S p.2.1), .int p.2.2])) :=
  ev_call (ea_cons h1 (ea_cons h2 (ea_cons h3 ea_nil))) fun H1 e1 Q q E => by
    have hlen : xs.length = T.length := by rw [hxs.length, List.length_map]
    refine ⟨ra, sp, a, xs, rfl, dr.sp e1, fun z => hne (List.length_eq_zero_iff.mp (by rw [← hlen, z]; rfl)), by omega, fun H' e => .inr (.inl (.inl ((e1.trans e).tup _ _ ha))), fun v m H' e hv => ?_⟩
    obtain ⟨e', he, hq⟩ := DqAll.get hxs hv
    rw [List.getElem?_map] at he
    obtain ⟨p, hp, rfl⟩ := Option.map_eq_some_iff.mp he
    obtain ⟨b, rfl, hb⟩ := pc_tup hq
    exact q _ H' e ⟨b, p, rfl, List.mem_of_getElem? hp, e.tup _ _ (e1.tup _ _ hb)⟩
end Slip
/-! the law -/
namespace Slip
open PySem PySem.Spec PyProof.Rows L2
theorem Tab.of {H : Hp} {v : V} {T : List Pc} (h : DS exR H v (tabD T)) (ok : TabOk T) (so : TSort T) : Tab H v (tabD T) T := ⟨h, (tab_facts ok so).2.2.1, tup_tab T, ok, so⟩
section
variable {ρ : Rl} {K : Frag} {σ : L2.St} {H : Hp} {te ta tb : TE} {x y : V} {T T1 T2 : List Pc} {E : XK}
theorem ev_least (h1 : EvV ρ ta σ H x) (hx : DS exR H x (tabD T)) (ok : TabOk T) (so : TSort T) : Ev ρ (tCall (sp_least_table K) [] E (tCons ta tNil)) σ H (fun v H' => DS exR H' v (tabD (least T))) :=
  ev_call (ea_cons h1 ea_nil) fun H1 e1 Q q E => ⟨x, tabD T, T, rfl, .of (tab_any e1 hx) ok so, fun v' H' e hd => q _ H' (Ext.r e) hd⟩
theorem ev_alike {b : Bool} (h1 : Ev ρ ta σ H (fun v H' => DS exR H' v (tabD T1))) (h2 : ∀ H1, ρ.r H H1 → EvV ρ tb σ H1 y) (hy : DS exR H y (tabD T2)) (k1 : TabOk T1) (s1 : TSort T1) (k2 : TabOk T2) (s2 : TSort T2) (hb : b = true ↔ Gen T1 T2 ∧ Gen T2 T1) :
    Ev ρ (tCall (sp_is_alike K) [] E (tCons ta (tCons tb tNil))) σ H (fun v H' => DS exR H' v (.bool b)) :=
  ev_callR (ea_consR (Rr := fun x ws H' => ws = [y] ∧ DS exR H' x (tabD T1)) h1 fun x H1 e1 hx => (ea_cons (h2 H1 e1) ea_nil).imp fun ws H2 e2 ew => ⟨ew, tab_any e2 hx⟩) fun vs H1 e1 ⟨x, ws, ev, ew, hx⟩ => by
    subst ev ew
    refine fun H2 e2 Q q E => ⟨x, y, tabD T1, tabD T2, T1, T2, rfl, .of (tab_any e2 hx) k1 s1, .of (tab_any (e1.trans e2) hy) k2 s2, fun b' H' e hb' => q _ H' (Ext.r e) ?_⟩
    have : b' = b := by rw [Bool.eq_iff_iff, hb', hb]
    rw [this]
    exact .bl b
theorem cutD_to (ds : List PyData) (i : Nat) : cutD ds none (some (i : Int)) = ds.take i := by
  unfold cutD
  rw [HT.sIx_none, HT.sIx_nat, List.drop_zero, Nat.sub_zero]
  by_cases h : i ≤ ds.length
  · rw [Nat.min_eq_left h]
  · rw [Nat.min_eq_right (by omega), List.take_of_length_le (Nat.le_refl _), List.take_of_length_le (by omega)]
theorem cutD_from (ds : List PyData) (i : Nat) : cutD ds (some (i : Int)) none = ds.drop i := by
  unfold cutD
  rw [HT.sIx_none, HT.sIx_nat]
  by_cases h : i ≤ ds.length
  · rw [Nat.min_eq_left h, List.take_of_length_le (by rw [List.length_drop]; exact Nat.le_refl _)]
  · rw [Nat.min_eq_right (by omega), List.drop_of_length_le (Nat.le_refl _), List.drop_of_length_le (by omega), List.take_nil]
/-- t[:k] + t[k + 1:] -/
theorem ev_cutTab {i j k : Nat} (h1 : σ[i]? = some (some x)) (h2 : σ[j]? = some (some (.int (k : Int)))) (hx : DS exR H x (tabD T)) (hl : T.length ≤ 8) : Ev ρ (tOp (rAddU K) (tSl (rSlU K) (tVar i) tNoPart (tPart (tVar j))) (tSl (rSlU K) (tVar i) (tPart (tOp (rAddU K) (tVar j) (tC (.int 1)))) tNoPart)) σ H (fun v H' => DS exR H' v (tabD (less T k))) := by
  refine (ev_catD (C1 := fun ds => ds = (T.take k).map pcD) (C2 := fun ds => ds = (T.drop (k + 1)).map pcD) ((ev_slD (ρf := ρ) (ds := T.map pcD) Le.rfl (ev_var h1) eo_none (eo_some (i := (k : Int)) (ev_var h2)) (tab_any (ρ := ρ) .rfl hx)).imp fun v H1 e1 hv => ⟨_, rfl, by rw [List.map_take, ← cutD_to]; exact hv⟩) (fun H1 e1 => (ev_slD (ρf := ρ) (ds := T.map pcD) Le.rfl (ev_var h1) (eo_some (i := ((k + 1 : Nat) : Int)) ((ev_add (i := (k : Int)) (j := 1) (ev_var h2) ev_c).val (by rfl))) eo_none (tab_any e1 hx)).imp fun v H2 e2 hv => ⟨_, rfl, by rw [List.map_drop, ← cutD_from]; exact hv⟩) fun ds es h1 h2 => ?_).imp fun v H1 e1 ⟨ds, ⟨d1, d2, c1, c2, ed⟩, hv⟩ => ?_
  · rw [h1, h2, List.length_map, List.length_map, List.length_take, List.length_drop]
    omega
  · subst c1 c2 ed
    unfold tabD less
    rw [List.map_append]
    exact hv.ex
end
/-- what the dict holds -/
structure HeldAt (kvs : DT) (A : List Pc) (P : Pc → Prop) : Prop where
  ent : ∀ p ∈ kvs, Ent p
  sub : ∀ p ∈ A, HasP kvs p
  new : ∀ p, HasP kvs p → P p
theorem has_put {kvs : DT} {p q : Pc} : HasP (putK kvs (keyP p) (.int p.2.2)) q ↔ if keyP q = keyP p then p = q else HasP kvs q := by
  unfold HasP
  rw [valV_put]
  by_cases h : keyP q = keyP p
  · rw [if_pos h, if_pos h]
    obtain ⟨h1, h2⟩ := key_inj h
    constructor
    · intro e
      have e' : p.2.2 = q.2.2 := by
        injection e with e
        injection e
      exact Prod.ext h1.symm (Prod.ext h2.symm e')
    · intro e
      rw [e]
  · rw [if_neg h, if_neg h]
theorem held_nil {P : Pc → Prop} : HeldAt [] [] P := ⟨(fun p hp => nomatch hp), (fun p hp => nomatch hp), (fun p hp => nomatch (show (none : Option V) = some _ from hp))⟩
theorem HeldAt.one {kvs : DT} {T : List Pc} {i : Nat} {p : Pc} (s : TSort T) (ok : TabOk T) (h : HeldAt kvs (T.take i) (fun q => q ∈ T.take i)) (hp : T[i]? = some p) : HeldAt (putK kvs (keyP p) (.int p.2.2)) (T.take (i + 1)) (fun q => q ∈ T.take (i + 1)) := by
  have hpT := List.mem_of_getElem? hp
  have et : T.take (i + 1) = T.take i ++ [p] := by rw [List.take_add_one, hp]; rfl
  refine ⟨ent_put h.ent (ent_pc (ok.pc p hpT) (ok.lt p hpT)), fun q hq => ?_, fun q hq => ?_⟩
  · rw [has_put]
    rw [et] at hq
    by_cases z : keyP q = keyP p
    · rw [if_pos z]
      have hqT : q ∈ T := by
        rcases List.mem_append.mp hq with hq | hq
        · exact List.mem_of_mem_take hq
        · rw [List.mem_singleton.mp hq]; exact hpT
      exact (key_ne s hqT hpT z).symm
    · rw [if_neg z]
      rcases List.mem_append.mp hq with hq | hq
      · exact h.sub q hq
      · rw [List.mem_singleton.mp hq] at z
        exact absurd rfl z
  · rw [has_put] at hq
    rw [et]
    by_cases z : keyP q = keyP p
    · rw [if_pos z] at hq
      exact List.mem_append_right _ (List.mem_singleton.mpr hq.symm)
    · rw [if_neg z] at hq
      exact List.mem_append_left _ (h.new q hq)
theorem HeldAt.more {kvs : DT} {D : List Pc} {P : Pc → Prop} {p : Pc} (h : HeldAt kvs D P) (hn : valV kvs (keyP p) = none) (he : Ent (keyP p, .int p.2.2)) (hP : P p) : HeldAt (putK kvs (keyP p) (.int p.2.2)) D P := by
  refine ⟨ent_put h.ent he, fun q hq => ?_, fun q hq => ?_⟩
  · rw [has_put]
    have h1 := h.sub q hq
    by_cases z : keyP q = keyP p
    · unfold HasP at h1
      rw [z, hn] at h1
      cases h1
    · rw [if_neg z]
      exact h1
  · rw [has_put] at hq
    by_cases z : keyP q = keyP p
    · rw [if_pos z] at hq
      rw [← hq]
      exact hP
    · rw [if_neg z] at hq
      exact h.new q hq
end Slip
/-! d.pop(key) of a dict with tuples for keys; max of two -/
namespace Slip
open PySem PySem.W PySem.Calls PyProof.Rows PyProof.V PySem.Spec L2
section
variable {K : Type} [DecidableEq K]
variable {prog : Program} {w : World} {knd : HeapKind prog w K}
set_option maxHeartbeats 8000000 in
theorem meetsPop1 {d b : Addr} {k : K} (hd : (d == sysModules) = false) :
    MeetsIn prog w (Builtin.«dict.pop» ⟨[.ref d, .ref b], []⟩) (fun A R s => ∃ xs p, knd.room A.in1 ∧ knd.is s.heap k b ∧ s.heap.DictOfH knd d xs ∧ xs.length ≤ sizeLine ∧ atKey xs k = some p ∧
      ∀ h' tk, h'.DictOfH knd d (DT.dropH xs k) → Heap.SameBut d s.heap h' → R (.ok (.ret p.2)) { s with heap := h', toks := tk }) :=
  .of_wp fun A R s ⟨xs, p0, hu, hkey, hm, hsz, hp0, hsome⟩ => by
    obtain ⟨o, es, ep, ho, hc, hdat, he, his, hn⟩ := id hm
    have hes : es.size = xs.length := size_of_entries he
    have hpart : (keyPart (Value.ref b)).isSome = false := rfl
    unfold Builtin.«dict.pop»
    refine wpAny_bind ?_
    unfold Builtin.Dict.keyAndDefault
    refine wpAny_bind (wpAny_notOrdered_dict hm.typeIs ?_)
    show wpAny _ _ (pure (d, Value.ref b, none)) _ _ s
    refine wpAny_pure ?_
    simp only [hpart, Bool.false_eq_true, if_false]
    refine wpAny_bind (wpAny_dictEntries ho hdat (wpAny_bind (wpAny_pure ?_)))
    cases hem : es.isEmpty with
    | true =>
      have h0 : xs = [] := by
        have z : es.size = 0 := by simpa using hem
        exact List.length_eq_zero_iff.mp (by omega)
      rw [h0] at hp0
      cases hp0
    | false =>
      simp only [Bool.false_eq_true, if_false]
      refine wpAny_bind (DT.takeH hu hkey hm hsz (fun hno => ?_) fun p e hp hev h' hm' hs' => ?_)
      · rw [hno] at hp0
        cases hp0
      · rw [hp] at hp0
        cases hp0
        simp only [Option.isNone_some, Bool.false_eq_true, if_false]
        exact wpAny_bind (wpAny_letGo (wpAny_pure ⟨e.val, rfl, by rw [hev]; exact hsome h' _ hm' hs'⟩))
end
variable {X : Cx}
def rPopT1 : V → List V → Hp → VK → Prop := fun x xs H Q => ∃ (a : Addr) (kvs : List (List L2.Key × V)) (k : List L2.Key) (b : Addr) (v : V), x = .ref a ∧ xs = [.ref b] ∧ H a = some (.dT kvs) ∧ H b = some (.tup (k.map kV)) ∧
  valV kvs k = some v ∧ Q v (upd H a (.dT (dropK kvs k)))
theorem mt_popT1 (hu : X.A.units + 1 < cLine) : MtR X "dict.pop" rPopT1 := by
  intro pins s σ H x xs v us Q I rx rxs h
  obtain ⟨a, kvs, k, b, v0, rfl, rfl, ha, hb, hv, q1⟩ := h
  cases rx
  obtain ⟨u1, rfl, r1⟩ := rxs.one
  cases r1
  obtain ⟨z, hd, xs', rel, dd⟩ := dt_of I.hok ha
  have hz : xs'.length ≤ sizeLine := by rw [← Paired.length rel]; exact z
  have r := rel.val k
  obtain ⟨p, hp, rv⟩ : ∃ p, atKey xs' k = some p ∧ RelV v0 p.2 := by
    rw [hv] at r
    cases ep : atKey xs' k with
    | none =>
      rw [ep] at r
      exact (show False from r).elim
    | some p =>
      rw [ep] at r
      exact ⟨p, rfl, r⟩
  refine call_meetsIn PySem.F.slot_dict_pop dd.typeIs PySem.F.entry_dict_pop (PySem.F.args_dict_pop_2 _ _) (meetsPop1 (knd := tupleKind (mixKind X.prog X.w)) (k := k) hd)
    ⟨xs', p, tupleKind_room_in1 hu, key_of I.hok hb, dd, hz, hp, fun h' tk dd' hs => ?_⟩
  obtain ⟨o, es, ep, hq, h2, h3, h4, _, h5⟩ := dd'
  have I2 : Inv X pins σ (upd H a (.dT (dropK kvs k))) { s with heap := h', toks := tk } :=
    d_write I (by rw [ha]; exact True.intro) hs ⟨o, hq⟩ ⟨Nat.le_trans (dropK_le kvs k) z, hd, _, (DX.KT_drop k rel).keeps (fun c ys ec => (by rw [upd_ne (ne_of ec ha (fun z => nomatch z))]; exact ec)), o, es, ep, hq, h2, h3, h4, h5⟩
  show EP X pins σ Q p.2 _
  exact ⟨v0, _, I2, rv, q1⟩
def rMax2' : RCa := fun xs H Q => ∃ i j, xs = [.int i, .int j] ∧ Q (.int (if j > i then j else i)) H
theorem call_max2' (hc : X.calm = true) : CallR X (.builtin "max") rMax2' := call_max2 hc
end Slip
/-! tables alike for what is small; the least difference -/
namespace Slip
open PySem PySem.Spec PyProof.Rows L2
theorem Way.small {T T' : List Pc} {n : Nat} (h : ∀ p ∈ T, sizeP p < n → GenP T' p) {W X : List Nat} (hn : W.length + X.length < n) {i j : Nat} {c : Int} (w : Way T W X i j c) : ∃ c', Way T' W X i j c' ∧ c' ≤ c := by
  induction w with
  | zero => exact ⟨0, .zero, Int.le_refl _⟩
  | @step i j c p w hp hx ih =>
    obtain ⟨c1, w1, h1⟩ := ih
    have hl := w.le
    rcases pc_at hp with ⟨ha, hT | ⟨x, hx', rfl⟩⟩
    · have l1 := at_le hl.1 ha
      have l2 := at_le hl.2 hx
      obtain ⟨c2, w2, h2⟩ := h p hT (by unfold sizeP; omega)
      exact ⟨c1 + c2, w1.comp ha hx w2, by omega⟩
    · exact ⟨c1 + 0, .step w1 (kept_in hx') hx, by show c1 + 0 ≤ c + 0; omega⟩
theorem small_price {T1 T2 : List Pc} {n : Nat} (h : ∀ p ∈ T1 ++ T2, sizeP p < n → Eqp T1 T2 p) {W X : List Nat} (hn : W.length + X.length < n) {o o' : Option Int} (p1 : PriceIs T1 W X o) (p2 : PriceIs T2 W X o') : o = o' := by
  have g1 : ∀ p ∈ T1, sizeP p < n → GenP T2 p := fun p hp hs => by
    obtain ⟨q, a, b⟩ := h p (List.mem_append_left _ hp) hs
    have w := gen_one hp
    cases q with
    | none => exact absurd w (a _)
    | some c => exact ⟨c, b.1, a.2 _ w⟩
  have g2 : ∀ p ∈ T2, sizeP p < n → GenP T1 p := fun p hp hs => by
    obtain ⟨q, a, b⟩ := h p (List.mem_append_right _ hp) hs
    have w := gen_one hp
    cases q with
    | none => exact absurd w (b _)
    | some c => exact ⟨c, a.1, b.2 _ w⟩
  cases o with
  | none =>
    cases o' with
    | none => rfl
    | some c =>
      obtain ⟨c', w, _⟩ := p2.1.small g2 hn
      exact absurd w (p1 c')
  | some c =>
    obtain ⟨c1, w1, h1⟩ := p1.1.small g1 hn
    cases o' with
    | none => exact absurd w1 (p2 c1)
    | some c' =>
      obtain ⟨c2, w2, h2⟩ := p2.1.small g2 hn
      have a := p1.2 _ w2
      have b := p2.2 _ w1
      have : c = c' := by omega
      rw [this]
theorem size_lt {p q : Pc} (h : sizeP p < sizeP q) : PySem.W.dataLt (sizeD p) (sizeD q) = true := by
  unfold sizeD
  rw [PySem.W.dataLt_tuple]
  have e : PyData.eqv (.int (p.1.length + p.2.1.length : Nat)) (.int (q.1.length + q.2.1.length : Nat)) = false := by
    show (((p.1.length + p.2.1.length : Nat) : Int) == ((q.1.length + q.2.1.length : Nat) : Int)) = false
    rw [beq_eq_false_iff_ne]
    unfold sizeP at h
    omega
  rw [PySem.W.dataLt_all_no (by simp [PySem.W.alike]) e, lt_int]
  unfold sizeP at h
  exact decide_eq_true (by omega)
theorem Tells.small {T1 T2 : List Pc} (k1 : Costs T1) (k2 : Costs T2) {r : Rw} (t : Tells T1 T2 r) : ∀ p ∈ T1 ++ T2, sizeP p < sizeP r.1 → Eqp T1 T2 p := fun p hp hs => by
  obtain ⟨o, ho⟩ := price_some k1 p.1 p.2.1
  obtain ⟨o', ho'⟩ := price_some k2 p.1 p.2.1
  by_cases h : o = o'
  · subst h
    exact ⟨o, ho, ho'⟩
  · have := t.least (p, o, o') hp ⟨ho, ho', h⟩
    rw [size_lt hs] at this
    cases this
theorem size_same {p q : Pc} (h1 : PySem.W.dataLt (sizeD p) (sizeD q) = false) (h2 : PySem.W.dataLt (sizeD q) (sizeD p) = false) : p.1 = q.1 ∧ p.2.1 = q.2.1 := by
  have al : PySem.W.alike (sizeD p) (sizeD q) = true := by simp [sizeD, PySem.W.alike, PySem.W.alikeAll]
  have e := toks_same al (lex_total (O := itemOrd) _ _ h1 h2)
  have e' : (PyData.eqv (.int (p.1.length + p.2.1.length : Nat)) (.int (q.1.length + q.2.1.length : Nat)) && (PyData.eqv (.int p.1.length) (.int q.1.length) && (PyData.eqv (.str (S p.1)) (.str (S q.1)) && (PyData.eqv (.int p.2.1.length) (.int q.2.1.length) && (PyData.eqv (.str (S p.2.1)) (.str (S q.2.1)) && true))))) = true := e
  rw [eqv_str, eqv_str, s_eq, s_eq] at e'
  simp only [Bool.and_eq_true, decide_eq_true_eq] at e'
  exact ⟨e'.2.2.1, e'.2.2.2.2.1⟩
theorem Tells.same {T1 T2 : List Pc} {r s : Rw} (t : Tells T1 T2 r) (u : Tells T1 T2 s) : rowV r = rowV s ∧ rowD r = rowD s ∧ sizeP r.1 = sizeP s.1 := by
  obtain ⟨h1, h2⟩ := size_same (u.least r t.mem t.odd) (t.least s u.mem u.odd)
  have a := t.odd.1
  have b := t.odd.2.1
  rw [h1, h2] at a b
  have e1 := a.unique u.odd.1
  have e2 := b.unique u.odd.2.1
  unfold rowV rowD sizeP
  rw [h1, h2, e1, e2]
  exact ⟨rfl, rfl, rfl⟩
theorem row_ds {ρ : Rl} {H : Hp} {b : Addr} {r : Rw} (h : H b = some (.tup (rowV r))) : DS ρ H (.ref b) (rowD r) :=
  .tup h (.cons (.str _) (.cons (.str _) (.cons (opt_ds _) (.cons (opt_ds _) .nil))))
theorem nl_opt (o : Option Int) : noList (optD o) = true := by cases o <;> rfl
theorem nl_row (r : Rw) : noList (rowD r) = true := by
  show (true && (true && (noList (optD r.2.1) && (noList (optD r.2.2) && true)))) = true
  rw [nl_opt, nl_opt]
  rfl
theorem so_opt (o : Option Int) : soD (optD o) (optD o) = true := by
  cases o with
  | none => rfl
  | some c => exact decide_eq_true rfl
theorem sm_opt (o : Option Int) : sm (optD o) = true := by cases o <;> rfl
theorem row_facts {r : Rw} (h1 : r.1.1.length ≤ 300) (h2 : r.1.2.1.length ≤ 300) : noList (rowD r) = true ∧ soD (rowD r) (rowD r) = true ∧ sm (rowD r) = true ∧ (rowD r).depth < 8 := by
  refine ⟨nl_row r, ?_, ?_, ?_⟩
  · show (decide (S r.1.1 = S r.1.1) && (decide (S r.1.2.1 = S r.1.2.1) && (soD (optD r.2.1) (optD r.2.1) && (soD (optD r.2.2) (optD r.2.2) && true)))) = true
    rw [decide_eq_true rfl, decide_eq_true rfl, so_opt, so_opt]
    rfl
  · show (decide (4 ≤ 1000) && (decide ((S r.1.1).length ≤ 1000) && (decide ((S r.1.2.1).length ≤ 1000) && (sm (optD r.2.1) && (sm (optD r.2.2) && true))))) = true
    rw [s_len, s_len, decide_eq_true (show r.1.1.length ≤ 1000 by omega), decide_eq_true (show r.1.2.1.length ≤ 1000 by omega), sm_opt, sm_opt]
    rfl
  · have : (rowD r).depth ≤ 1 := by
      unfold rowD
      cases r.2.1 <;> cases r.2.2 <;> simp [optD, PyData.depth, PyData.depthAll]
    omega
end Slip
/-! the law's differences -/
namespace Slip
open PySem PySem.Spec PyProof.Rows L2
def rowW (r : Rw) : List V := [.int (r.1.1.length + r.1.2.1.length : Nat), .int r.1.1.length, .str (S r.1.1), .int r.1.2.1.length, .str (S r.1.2.1), optI r.2.1, optI r.2.2]
def sizeL (p : Pc) : List PyData := [.int (p.1.length + p.2.1.length : Nat), .int p.1.length, .str (S p.1), .int p.2.1.length, .str (S p.2.1)]
def rowE (r : Rw) : List PyData := sizeL r.1 ++ [optD r.2.1, optD r.2.2]
theorem rowE_ds {ρ : Rl} {H : Hp} {b : Addr} {r : Rw} (h : H b = some (.tup (rowW r))) : DS ρ H (.ref b) (.tuple (rowE r)) :=
  .tup h (.cons (.int _) (.cons (.int _) (.cons (.str _) (.cons (.int _) (.cons (.str _) (.cons (opt_ds _) (.cons (opt_ds _) .nil)))))))
/-- what the law has found -/
structure FoundB (H : Hp) (T1 T2 : List Pc) (i : Nat) (ys : List V) (rs : List Rw) : Prop where
  len : ys.length = rs.length
  le : rs.length ≤ i
  at_ : ∀ (m : Nat) r, rs[m]? = some r → ∃ b, ys[m]? = some (.ref b) ∧ H b = some (.tup (rowW r))
  odd : ∀ r ∈ rs, r.1 ∈ T1 ++ T2 ∧ Odd T1 T2 r
  all : ∀ (j : Nat) p, j < i → (T1 ++ T2)[j]? = some p → Eqp T1 T2 p ∨ ∃ r ∈ rs, r.1 = p
theorem FoundB.r {ρ : Rl} {H H' : Hp} {T1 T2 : List Pc} {i : Nat} {ys : List V} {rs : List Rw} (f : FoundB H T1 T2 i ys rs) (e : ρ.r H H') : FoundB H' T1 T2 i ys rs :=
  ⟨f.len, f.le, fun m r h => let ⟨b, h1, h2⟩ := f.at_ m r h; ⟨b, h1, e.tup _ _ h2⟩, f.odd, f.all⟩
theorem FoundB.eq {H : Hp} {T1 T2 : List Pc} {i : Nat} {ys : List V} {rs : List Rw} (f : FoundB H T1 T2 i ys rs) {p : Pc} (hp : (T1 ++ T2)[i]? = some p) (h : Eqp T1 T2 p) : FoundB H T1 T2 (i + 1) ys rs :=
  ⟨f.len, Nat.le_succ_of_le f.le, f.at_, f.odd, fun j q hj hq => by
    by_cases z : j = i
    · subst z
      rw [hp] at hq
      cases hq
      exact .inl h
    · exact f.all j q (by omega) hq⟩
theorem FoundB.snoc {H : Hp} {T1 T2 : List Pc} {i : Nat} {ys : List V} {rs : List Rw} (f : FoundB H T1 T2 i ys rs) {r : Rw} {b : Addr} (hp : (T1 ++ T2)[i]? = some r.1) (h : Odd T1 T2 r) (hb : H b = some (.tup (rowW r))) : FoundB H T1 T2 (i + 1) (ys ++ [.ref b]) (rs ++ [r]) where
  len := by rw [List.length_append, List.length_append, f.len]; rfl
  le := by rw [List.length_append]; exact Nat.succ_le_succ f.le
  at_ := fun m q hm => by
    by_cases z : m < rs.length
    · rw [List.getElem?_append_left z] at hm
      obtain ⟨c, h1, h2⟩ := f.at_ m q hm
      exact ⟨c, by rw [List.getElem?_append_left (by rw [f.len]; exact z)]; exact h1, h2⟩
    · rw [List.getElem?_append_right (by omega)] at hm
      have hm0 : m - rs.length = 0 := by
        have := (List.getElem?_eq_some_iff.mp hm).1
        simp at this
        omega
      rw [hm0] at hm
      cases hm
      refine ⟨b, ?_, hb⟩
      rw [List.getElem?_append_right (by rw [f.len]; omega), f.len, hm0]
      rfl
  odd := fun q hq => by
    rcases List.mem_append.mp hq with hq | hq
    · exact f.odd q hq
    · rw [List.mem_singleton.mp hq]
      exact ⟨List.mem_of_getElem? hp, h⟩
  all := fun j q hj hq => by
    by_cases z : j = i
    · subst z
      rw [hp] at hq
      cases hq
      exact .inr ⟨r, List.mem_append_right _ (List.mem_singleton.mpr rfl), rfl⟩
    · rcases f.all j q (by omega) hq with h | ⟨s, hs, e⟩
      · exact .inl h
      · exact .inr ⟨s, List.mem_append_left _ hs, e⟩
section
variable {ρ ρw : Rl} {K : Frag} {σ : L2.St} {H : Hp} {te : TE} {D : Ends} {tz tu : TS} {g : TG} {ds : List PyData}
/-- for x in a tuple that may be new -/
theorem q_forwD (le : ∀ H1 H2, ρ.r H1 H2 → ρw.r H1 H2) (h : Ev ρ te σ H (fun v H2 => DS exR H2 v (.tuple ds))) (k : ∀ a xs H1, ρ.r H H1 → H1 a = some (.tup xs) → DSs exR H1 xs ds → ∃ Pv : Nat → L2.St → Hp → Prop, Pv 0 σ H1 ∧ (∀ i σ' H', i ≤ xs.length → Pv i σ' H' → ρw.r H1 H') ∧
    (∀ i x σ' H' H'', i < xs.length → Pv i σ' H' → YAt xs i H' x H'' → g x σ' H'' fun σ2 H2 => tu { D with nx := Pv (i + 1), ct := Pv (i + 1), bk := tz D } σ2 H2) ∧ ∀ σ' H', Pv xs.length σ' H' → tz D σ' H') : tSeq (tFor (iSeq K te) g tu) tz D σ H :=
  .inr (.inl (h H .rfl _ fun v H1 e1 hd => by
    obtain ⟨a, xs, rfl, hxs, ha, _⟩ := DS.tupl hd
    obtain ⟨Pv, h0, hr, hs, hdn⟩ := k a xs H1 e1 ha hxs
    exact ⟨a, rfl, ⟨xs, .inl (.inl ha)⟩, for_it (D := { D with nx := tz D }) (G := fun H3 => ρw.r H1 H3) (walk_tup.mono (fun H3 e3 => .inl (.inl (e3.tup _ _ ha))) fun _ _ _ _ _ _ y => y) Pv h0 hr hs hdn⟩))
end
def sp__law_differ (K : Frag) : Sp := fun vs H Q _ => ∃ (v1 v2 : V) (T1 T2 : List Pc), vs = [v1, v2] ∧ DS exR H v1 (tabD T1) ∧ DS exR H v2 (tabD T2) ∧ TabOk T1 ∧ TabOk T2 ∧ ∀ p ys rs H', H p = none → Ext H H' → H' p = some (.lst ys) → FoundB H' T1 T2 (T1 ++ T2).length ys rs → Q (.ref p) H'
theorem len__law_differ {K : Frag} {vs : List V} {H : Hp} {Q : VK} {E : XK} (h : sp__law_differ K vs H Q E) : vs.length = 2 := by
  obtain ⟨v1, v2, T1, T2, rfl, _⟩ := h
  rfl
def t__law_differ (K : Frag) : TS := (tSeq (tAsg (tLst tNil) (gName 2)) (tSeq (tFor (iSeq K (tOp (rAddU K) (tVar 0) (tVar 1))) (gName 3) (tSeq (tPar 4 5 (tCons (tCall (sp__law_price K) [] E0 (tCons (tVar 0) (tCons (tIxU K (tVar 3) (tC (.int 0))) (tCons (tIxU K (tVar 3) (tC (.int 1))) tNil)))) (tCons (tCall (sp__law_price K) [] E0 (tCons (tVar 1) (tCons (tIxU K (tVar 3) (tC (.int 0))) (tCons (tIxU K (tVar 3) (tC (.int 1))) tNil)))) tNil))) (tIfS (tTest (tOp (rNeU K) (tVar 4) (tVar 5))) (tDrop (tBM K "list" rAppend (tVar 2) (tCons (tTup (tCons (tOp (rAddU K) (tCB (rLenU K) (tCons (tIxU K (tVar 3) (tC (.int 0))) tNil)) (tCB (rLenU K) (tCons (tIxU K (tVar 3) (tC (.int 1))) tNil))) (tCons (tCB (rLenU K) (tCons (tIxU K (tVar 3) (tC (.int 0))) tNil)) (tCons (tIxU K (tVar 3) (tC (.int 0))) (tCons (tCB (rLenU K) (tCons (tIxU K (tVar 3) (tC (.int 1))) tNil)) (tCons (tIxU K (tVar 3) (tC (.int 1))) (tCons (tVar 4) (tCons (tVar 5) tNil)))))))) tNil))) tNext))) (tRet (tVar 2))))
theorem pure__law_differ {K : Frag} (vs : List V) (H : Hp) (Q : VK) (E : XK) (h : sp__law_differ K vs H Q E) : t__law_differ K { nx := fun _ H' => Q .non H', rt := Q } (start ["one", "other", "found", "fault", "first", "second"] vs) H := by
  obtain ⟨v1, v2, T1, T2, rfl, hd1, hd2, ok1, ok2, k⟩ := h
  have h81 := ok1.len
  have h82 := ok2.len
  refine q_asg (ρ := exR) (R := fun v' H' => ∃ p, v' = .ref p ∧ H p = none ∧ H' p = some (.lst [])) ((ev_lst (Rr := fun vs _ => vs = []) ea_nil fun vs H4 _ e => by rw [e]; show 0 ≤ 100000; decide).imp fun u H4 e4 ⟨p, vs, H5, eu, ev, hp, e5, eH⟩ => ⟨p, eu, e5.back p hp, by rw [eH, ev]; exact upd_same⟩) fun v3 H2 e2 ⟨p, ev3, hp0, hp2⟩ => ?_
  subst ev3
  have B1 : DS exR H2 v1 (tabD T1) := e2.ds hd1
  have B2 : DS exR H2 v2 (tabD T2) := e2.ds hd2
  have hcat : Ev exR (tOp (rAddU K) (tVar 0) (tVar 1)) [some v1, some v2, some (.ref p), none, none, none] H2 (fun v H3 => DS exR H3 v (tabD (T1 ++ T2))) :=
    (ev_catD (C1 := fun ds => ds = T1.map pcD) (C2 := fun ds => ds = T2.map pcD) ((ev_var (v := v1) rfl).imp fun v H3 e3 ev => ⟨_, rfl, by rw [ev]; exact e3.ds B1⟩) (fun H4 e4 => (ev_var (v := v2) rfl).imp fun v H3 e3 ev => ⟨_, rfl, by rw [ev]; exact (e4.trans e3).ds B2⟩) fun ds es a b => by rw [a, b, List.length_map, List.length_map]; omega).imp fun v H3 e3 ⟨ds, ⟨d1, d2, a, b, e⟩, hv⟩ => by
      subst a b e
      unfold tabD
      rw [List.map_append]
      exact hv
  refine q_forwD (ρ := exR) (ρw := exR.and p) (fun _ _ => and_of) hcat fun a xs H3 e3 ha hxs => ⟨fun i σ' H' => (exR.and p).r H3 H' ∧ (∃ u3 u4 u5, σ' = [some v1, some v2, some (.ref p), u3, u4, u5]) ∧ ∃ ys rs, H' p = some (.lst ys) ∧ FoundB H' T1 T2 i ys rs, ⟨.rfl, ⟨_, _, _, rfl⟩, [], [], e3.ext _ _ hp2, ⟨rfl, Nat.le_refl _, fun m r h => by simp at h, fun r h => by simp at h, fun j p h => by omega⟩⟩, fun i σ' H' _ h => h.1, ?_, ?_⟩
  · rintro i x σ' H' H'' hi ⟨r, ⟨u3, u4, u5, rfl⟩, ys, rs, hp', hF⟩ ⟨eH, hx⟩
    subst eH
    have r3 : (exR.and p).r H2 H'' := (and_of e3).trans r
    obtain ⟨e', he, hq⟩ := DqAll.get hxs hx
    have he' : ((T1 ++ T2).map pcD)[i]? = some e' := he
    rw [List.getElem?_map] at he'
    obtain ⟨pc, hpc, rfl⟩ := Option.map_eq_some_iff.mp he'
    have hpT := List.mem_of_getElem? hpc
    obtain ⟨b, rfl, hb⟩ := pc_tup hq
    have hb2 := r.tup _ _ hb
    have hok : (pc.1.length ≤ 2 ∧ pc.2.1.length ≤ 2) := by
      rcases List.mem_append.mp hpT with h | h
      · have := ok1.pc pc h
        omega
      · have := ok2.pc pc h
        omega
    have C1 : DS exR H'' v1 (tabD T1) := tab_any r3 B1
    have C2 : DS exR H'' v2 (tabD T2) := tab_any r3 B2
    have sq : ∀ {H1 : Hp}, exR.r H'' H1 → SqA K H1 b [.str (S pc.1), .str (S pc.2.1), .int pc.2.2] := fun e => .inr (.inl (.inl (e.tup _ _ hb2)))
    have call : ∀ {j : Nat} {v : V} {T : List Pc} {σ5 : L2.St} {H5 : Hp}, σ5[j]? = some (some v) → σ5[3]? = some (some (.ref b)) → exR.r H'' H5 → DS exR H'' v (tabD T) → TabOk T → Ev exR (tCall (sp__law_price K) [] E0 (tCons (tVar j) (tCons (tIxU K (tVar 3) (tC (.int 0))) (tCons (tIxU K (tVar 3) (tC (.int 1))) tNil)))) σ5 H5 (fun u _ => ∃ o, u = optI o ∧ PriceIs T pc.1 pc.2.1 o) := fun {j v T σ5 H5} a1 a2 e hd ok =>
      ev_call (ea_cons (ev_var a1) (ea_cons (ev_ix (n := 0) (v := .str (S pc.1)) (ev_var a2) ev_c (fun H6 e6 => sq (e.trans e6)) rfl rfl) (ea_cons (ev_ix (n := 1) (v := .str (S pc.2.1)) (ev_var a2) ev_c (fun H6 e6 => sq (e.trans e6)) rfl rfl) ea_nil))) fun H6 e6 Q' q' E' => ⟨v, T, pc.1, pc.2.1, rfl, ⟨(e.trans e6).ds hd, ok, by omega, by omega⟩, fun o H' e' hp => q' _ H' (Ext.r e') ⟨o, rfl, hp⟩⟩
    refine q_parR (ρ := exR) (ea_consR (Rr := fun x ws _ => (∃ o, x = optI o ∧ PriceIs T1 pc.1 pc.2.1 o) ∧ ∃ w, ws = [w] ∧ ∃ o, w = optI o ∧ PriceIs T2 pc.1 pc.2.1 o) (call rfl rfl .rfl C1 ok1) fun x H1 e1 hx => (ea_one (call (v := v2) rfl rfl e1 C2 ok2)).imp fun ws H2' e2' ⟨w, ew, hw⟩ => ⟨hx, w, ew, hw⟩) fun vs H4 e4 ⟨x, ws, evs, ⟨o, ex, ho⟩, w, ews, ⟨o', ew, ho'⟩⟩ => ⟨x, w, by rw [evs, ews], ?_⟩
    subst ex ew
    have sq4 : ∀ {H1 : Hp}, exR.r H4 H1 → SqA K H1 b [.str (S pc.1), .str (S pc.2.1), .int pc.2.2] := fun e => sq (e4.trans e)
    refine s_if (ρ := exR) (et_test (ev_neV (ev_var (v := optI o) rfl) (ev_var (v := optI o') rfl) (scal_opt o o'))) (fun hb H6 e6 => ?_) fun hb H6 e6 => ?_
    · have hne : o ≠ o' := fun z => by rw [z, decide_eq_true rfl] at hb; cases hb
      have e36 : exR.r H'' H6 := e4.trans e6
      have len0 : ∀ {H7 : Hp} {σ5 : L2.St}, exR.r H6 H7 → σ5[3]? = some (some (.ref b)) → EvV exR (tCB (rLenU K) (tCons (tIxU K (tVar 3) (tC (.int 0))) tNil)) σ5 H7 (.int (pc.1.length : Int)) := fun e7 a2 => ev_lenSS (Z := pc.1) (ev_ix (n := 0) (ev_var a2) ev_c (fun H8 e8 => sq4 (e6.trans (e7.trans e8))) rfl rfl) (by omega)
      have len1 : ∀ {H7 : Hp} {σ5 : L2.St}, exR.r H6 H7 → σ5[3]? = some (some (.ref b)) → EvV exR (tCB (rLenU K) (tCons (tIxU K (tVar 3) (tC (.int 1))) tNil)) σ5 H7 (.int (pc.2.1.length : Int)) := fun e7 a2 => ev_lenSS (Z := pc.2.1) (ev_ix (n := 1) (ev_var a2) ev_c (fun H8 e8 => sq4 (e6.trans (e7.trans e8))) rfl rfl) (by omega)
      refine s_app (ρ := exR) (l := p) (xs := ys) (R := fun v H7 => ∃ c, v = .ref c ∧ H7 c = some (.tup (rowW (pc, o, o')))) (e36.ext _ _ hp') (fun z => z) (ev_var rfl) ?_ ?_ fun y H7 e7 ⟨c, ey, hc⟩ hp7 => ?_
      · exact (ev_tup (ea_cons (ev_add (len0 .rfl rfl) (len1 .rfl rfl)) (ea_cons (len0 .rfl rfl) (ea_cons (ev_ix (n := 0) (v := .str (S pc.1)) (ev_var (v := .ref b) rfl) ev_c (fun H6' e6' => sq4 (e6.trans e6')) rfl rfl) (ea_cons (len1 .rfl rfl) (ea_cons (ev_ix (n := 1) (v := .str (S pc.2.1)) (ev_var (v := .ref b) rfl) ev_c (fun H6' e6' => sq4 (e6.trans e6')) rfl rfl) (ea_cons (ev_var (v := optI o) rfl) (ea_cons (ev_var (v := optI o') rfl) ea_nil))))))) fun vs H7 _ e => by rw [e]; show 7 ≤ 100000; decide).imp fun v H7 e7 ⟨c, vs, H8, ev, evs, hc, _, eH⟩ => ⟨c, ev, by rw [eH, evs]; exact upd_same⟩
      · have := hF.len
        have := hF.le
        have hl := hxs.length
        rw [List.length_map, List.length_append] at hl
        omega
      · subst ey
        have rc : (exR.and p).r H7 (upd H7 p (.lst (ys ++ [.ref c]))) := r_chg (ρ := exR) hp7 fun z => z
        exact ⟨r.trans ((and_of (e36.trans e7)).trans rc), ⟨_, _, _, rfl⟩, _, rs ++ [(pc, o, o')], upd_same, ((hF.r (e36.trans e7)).r rc).snoc hpc ⟨ho, ho', hne⟩ (rc.tup _ _ hc)⟩
    · have heq : o = o' := by
        have : decide (optI o = optI o') = true := by
          cases q : decide (optI o = optI o') with
          | true => rfl
          | false => rw [q] at hb; cases hb
        exact optI_inj (of_decide_eq_true this)
      subst heq
      have e36 : exR.r H'' H6 := e4.trans e6
      exact ⟨r.trans (and_of e36), ⟨_, _, _, rfl⟩, ys, rs, e36.ext _ _ hp', (hF.r e36).eq hpc ⟨o, ho, ho'⟩⟩
  · rintro σ' H' ⟨r, ⟨u3, u4, u5, rfl⟩, ys, rs, hp', hF⟩
    have hl : xs.length = (T1 ++ T2).length := by rw [hxs.length, List.length_map]
    rw [hl] at hF
    refine s_retV (ρ := exR) (ev_var (v := .ref p) rfl) fun H4 e4 => k p ys rs H4 hp0 ?_ (e4.ext _ _ hp') (hF.r e4)
    exact (r_and .rfl hp0 ((and_of (e2.trans e3)).trans (r.trans (and_of e4)))).ext
end Slip
/-! the law's other table -/
namespace Slip
open PySem PySem.Spec PyProof.Rows L2
def clip (c : Int) : Int := if c < 9 then c else 9
def EntW (p : List Key × V) : Prop := ∃ (s t : Str) (c : Int), p = ([.inr s, .inr t], .int c) ∧ OkP s ∧ OkP t ∧ s ≠ t ∧ 1 ≤ c
def pcOf (kvs : DT) (k : List Key) : Pc :=
  match k, valV kvs k with
  | [.inr s, .inr t], some (.int c) => (s.cps.toList, t.cps.toList, clip c)
  | _, _ => ([], [], 0)
theorem entW_at {kvs : DT} (he : ∀ p ∈ kvs, EntW p) {k : List Key} (hk : k ∈ kvs.map (·.1)) : ∃ (s t : Str) (c : Int), k = [.inr s, .inr t] ∧ valV kvs k = some (.int c) ∧ pcOf kvs k = (s.cps.toList, t.cps.toList, clip c) ∧ OkP s ∧ OkP t ∧ s ≠ t ∧ 1 ≤ c := by
  obtain ⟨p, hp, rfl⟩ := List.mem_map.mp hk
  obtain ⟨v, hv, hm⟩ := val_mem hp
  obtain ⟨s, t, c, e, h1, h2, h3, h4⟩ := he _ hm
  have e1 : p.1 = [.inr s, .inr t] := congrArg Prod.fst e
  have e2 : v = .int c := congrArg Prod.snd e
  rw [e2] at hv
  refine ⟨s, t, c, e1, hv, ?_, h1, h2, h3, h4⟩
  rw [e1] at hv ⊢
  unfold pcOf
  rw [hv]
theorem entW_alike {kvs : DT} (he : ∀ p ∈ kvs, EntW p) : PySem.W.AllAlike (kvs.map fun p => keyT p.1) := by
  intro d hd e hd2
  obtain ⟨p, hp, rfl⟩ := List.mem_map.mp hd
  obtain ⟨q, hq, rfl⟩ := List.mem_map.mp hd2
  obtain ⟨s, t, c, rfl, _⟩ := he p hp
  obtain ⟨s', t', c', rfl, _⟩ := he q hq
  rfl
theorem entW_nonempty {kvs : DT} (he : ∀ p ∈ kvs, EntW p) : ∀ p ∈ kvs, p.1 ≠ [] := by
  intro p hp z
  obtain ⟨s, t, c, e, _⟩ := he p hp
  rw [e] at z
  cases z
/-- rows of a table, of any number -/
structure Rows (M : List Pc) : Prop where
  so : TSort M
  pc : ∀ p ∈ M, (p.1.length ≤ 2 ∧ p.2.1.length ≤ 2 ∧ p.1 ≠ p.2.1 ∧ 1 ≤ p.2.2 ∧ p.2.2 ≤ 9) ∧ Lets p.1 ∧ Lets p.2.1
theorem Rows.tab {M : List Pc} (h : Rows M) : TabOk (M.take 8) ∧ TSort (M.take 8) :=
  ⟨⟨by rw [List.length_take]; omega, fun p hp => (h.pc p (List.mem_of_mem_take hp)).1, fun p hp => (h.pc p (List.mem_of_mem_take hp)).2⟩, h.so.sub (List.take_sublist 8 M)⟩
theorem rows_of {kvs : DT} {ys : List (List Key × Addr)} (he : ∀ p ∈ kvs, EntW p) (hp : (ys.map (·.1)).Perm (kvs.map (·.1))) (nd : (ys.map (·.1)).Nodup) (pw : ys.Pairwise (fun b c => PySem.W.dataLt (keyT c.1) (keyT b.1) = false)) : Rows (ys.map fun b => pcOf kvs b.1) := by
  have at_ : ∀ b ∈ ys, ∃ (s t : Str) (c : Int), b.1 = [.inr s, .inr t] ∧ valV kvs b.1 = some (.int c) ∧ pcOf kvs b.1 = (s.cps.toList, t.cps.toList, clip c) ∧ OkP s ∧ OkP t ∧ s ≠ t ∧ 1 ≤ c := fun b hb =>
    entW_at he (hp.mem_iff.mp (List.mem_map.mpr ⟨b, hb, rfl⟩))
  constructor
  · unfold TSort
    rw [List.pairwise_map]
    have nd' : ys.Pairwise (fun b c => b.1 ≠ c.1) := List.pairwise_map.mp nd
    refine List.Pairwise.imp_of_mem ?_ (List.pairwise_and_iff.mpr ⟨pw, nd'⟩)
    intro b c hb hc ⟨h1, h2⟩
    obtain ⟨s, t, c1, k1, _, e1, _⟩ := at_ b hb
    obtain ⟨s', t', c2, k2, _, e2, _⟩ := at_ c hc
    rw [e1, e2]
    unfold pairD
    show PySem.W.dataLt (.tuple [.str (S s.cps.toList), .str (S t.cps.toList)]) (.tuple [.str (S s'.cps.toList), .str (S t'.cps.toList)]) = true
    rw [s_of, s_of, s_of, s_of]
    rw [k1, k2] at h1 h2
    refine lt_strict rfl ?_ h1
    cases q : PyData.eqv (.tuple [.str s, .str t]) (.tuple [.str s', .str t']) with
    | false => rfl
    | true =>
      have q' : (PyData.eqv (.str s) (.str s') && (PyData.eqv (.str t) (.str t') && true)) = true := q
      rw [eqv_str, eqv_str, Bool.and_true] at q'
      have q2 : s = s' ∧ t = t' := by simpa using q'
      rw [q2.1, q2.2] at h2
      exact absurd rfl h2
  · intro p hpm
    obtain ⟨b, hb, rfl⟩ := List.mem_map.mp hpm
    obtain ⟨s, t, c, _, _, e1, h1, h2, h3, h4⟩ := at_ b hb
    rw [e1]
    refine ⟨⟨?_, ?_, ?_, ?_, ?_⟩, h1.2, h2.2⟩
    · have := h1.1
      rw [← len_cps] at this
      exact this
    · have := h2.1
      rw [← len_cps] at this
      exact this
    · exact fun z => h3 (by rw [← s_of s, ← s_of t]; exact congrArg S z)
    · show 1 ≤ clip c
      unfold clip
      split <;> omega
    · show clip c ≤ 9
      unfold clip
      split <;> omega
section
variable {ρ : Rl} {K : Frag} {σ : L2.St} {H : Hp} {D : Addr} {kvs : DT}
/-- [key + (min(9, held[key]),) for key in sorted(held)] -/
theorem ev_madeHeld {i j : Nat} (own : Own ρ H) (nD : ¬ ρ.S D) (hD : H D = some (.dT kvs)) (h8 : kvs.length ≤ 1000) (he : ∀ p ∈ kvs, EntW p) (h1 : σ[i]? = some (some (.ref D))) (hw : ∀ x, wipe ((wipe σ [j]).set j (some x)) [j] = wipe σ [j]) (hi : ∀ x, ((wipe σ [j]).set j (some x))[i]? = some (some (.ref D))) (hj : ∀ x, ((wipe σ [j]).set j (some x))[j]? = some (some x)) :
    Ev ρ (tLc (iSeq K (tCB (rSortU K) (tCons (tVar i) tNil))) (gName j) tYes (tOp (rAddU K) (tVar j) (tTup (tCons (tCB rMin2' (tCons (tC (.int 9)) (tCons (tIxU K (tVar i) (tVar j)) tNil))) tNil))) [j]) σ H (fun v H2 => ∃ p xs M, v = .ref p ∧ ¬ ρ.S p ∧ H2 p = some (.lst xs) ∧ DSs ρ H2 xs (M.map pcD) ∧ Rows M ∧ M.length ≤ 1000) := by
  refine ev_lcx (ρ := ρ) (wi := iSeq K (tCB (rSortU K) (tCons (tVar i) tNil))) (σ := σ) (H := H) (g := gName j) (tt := tYes) (te := tOp (rAddU K) (tVar j) (tTup (tCons (tCB rMin2' (tCons (tC (.int 9)) (tCons (tIxU K (tVar i) (tVar j)) tNil))) tNil))) (vs := [j])
    (R := fun u H2 => ∃ p xs M, u = .ref p ∧ ¬ ρ.S p ∧ H2 p = some (.lst xs) ∧ DSs ρ H2 xs (M.map pcD) ∧ Rows M ∧ M.length ≤ 1000) (eix_sortT own (ev_var h1) (fun H1 e => e.keep _ _ nD hD) (by omega) (entW_alike he) (entW_nonempty he)) fun n' Y' H3 J ⟨ys, hp, hnd, hpw, hn', hY'⟩ e3 hI => ?_
  subst hn' hY'
  have hl : ys.length = kvs.length := by
    have := hp.length_eq
    rwa [List.length_map, List.length_map] at this
  refine (ev_lcD (dd := fun i => match ys[i]? with | some b => pcD (pcOf kvs b.1) | none => .none) (own.r e3) (by omega) hI hw (fun i H2 x H3 y => y.1) ?_).imp ?_
  · rintro D' H4 e4 hD' m x H5 H6 hm r5 oD ⟨e6, b, hb, rfl, hk⟩
    obtain ⟨s, t, c, k1, k2, k3, _⟩ := entW_at he (hp.mem_iff.mp (List.mem_map.mpr ⟨b, List.mem_of_getElem? hb, rfl⟩))
    rw [hb]
    show Ev ρ _ _ H5 (fun y H4 => DS (ρ.and D') H4 y (pcD (pcOf kvs b.1)))
    rw [k3]
    have hk0 := hk
    rw [k1] at hk
    have hD5 : H5 D = some (.dT kvs) := (e3.trans (e4.trans r5)).keep _ _ nD hD
    refine ev_op2 (Ra := fun v _ => v = .ref b.2) (Rb := fun v H7 => ∃ q, v = .ref q ∧ H7 q = some (.tup [.int (clip c)])) (ev_var (hj _)) (fun x H7 e7 ex => ?_) (fun x y H7 H8 e7 e8 ex ⟨q, ey, hq⟩ => ?_)
    · have hg : EvV ρ (tCB rMin2' (tCons (tC (.int 9)) (tCons (tIxU K (tVar i) (tVar j)) tNil))) ((wipe σ [j]).set j (some (.ref b.2))) H7 (.int (clip c)) :=
        (ev_min2 (i := 9) (j := c) ev_c (ev_getT (k := b.1) (kvs := kvs) (ev_var (hi _)) ((ev_var (v := .ref b.2) (hj _)).imp fun v H8 e8 ev => ⟨b.2, ev, (e7.trans e8).tup _ _ hk0⟩) (fun H8 e8 => (e7.trans e8).keep _ _ nD hD5) k2)).val rfl
      exact (ev_tup (Rr := fun vs _ => vs = [.int (clip c)]) (ea_cons hg ea_nil) fun vs H8 _ e => by rw [e]; show 1 ≤ 100000; decide).imp fun v H8 e8 ⟨p, vs, H9, ev, evs, hp9, r9, eH⟩ => ⟨p, ev, by rw [eH, evs]; exact upd_same⟩
    · subst ex ey
      intro H9 e9 Q' q'
      have hb9 := (e7.trans (e8.trans e9)).tup _ _ hk
      have hq9 := e9.tup _ _ hq
      refine .inr (.inr (.inl ⟨b.2, q, _, _, rfl, rfl, .inl (.inl hb9), .inl (.inl hq9), by show 3 ≤ sizeLine; decide, fun z => (by cases z), fun _ z => (by cases z), fun _ _ p hp => q' _ _ (r_new _ hp) ?_⟩))
      show DS (ρ.and D') _ _ (.tuple [.str (S s.cps.toList), .str (S t.cps.toList), .int (clip c)])
      rw [s_of, s_of]
      exact .tup upd_same (.cons (.str s) (.cons (.str t) (.cons (.int (clip c)) .nil)))
  · rintro u H4 e4 ⟨p, xs, rfl, nS, hp0, hx, hds⟩
    have em : (List.range ys.length).map (fun i => match ys[i]? with | some b => pcD (pcOf kvs b.1) | none => .none) = (ys.map fun b => pcOf kvs b.1).map pcD := by
      refine List.ext_getElem? fun i => ?_
      rw [List.getElem?_map, List.getElem?_map, List.getElem?_map]
      by_cases hi : i < ys.length
      · rw [List.getElem?_range hi, List.getElem?_eq_getElem hi]
        show some (match ys[i]? with | some b => pcD (pcOf kvs b.1) | none => .none) = some (pcD (pcOf kvs ys[i].1))
        rw [List.getElem?_eq_getElem hi]
      · rw [List.getElem?_eq_none_iff.mpr (by rw [List.length_range]; omega), List.getElem?_eq_none_iff.mpr (by omega)] <;> rfl
    rw [em] at hds
    exact ⟨p, xs, _, rfl, nS, hx, hds, rows_of he hp hnd hpw, by rw [List.length_map]; omega⟩
end
section
variable {ρ : Rl} {K : Frag} {σ : L2.St} {H : Hp} {te ta ti : TE} {D : Ends} {P : Addr} {kvs : DT} {k : List Key} {R : V → Hp → Prop}
theorem s_putTR (nP : ¬ ρ.S P) (hv : Ev ρ te σ H R) (ho : EvV ρ ta σ H (.ref P)) (hi : Ev ρ ti σ H (fun v H' => ∃ q, v = .ref q ∧ H' q = some (.tup (k.map kV)))) (hP : H P = some (.dT kvs)) (hl : kvs.length < 1000000)
    (cont : ∀ y H1 H2, ρ.r H H1 → R y H1 → ρ.r H1 H2 → H2 P = some (.dT kvs) → D.nx σ (upd H2 P (.dT (putK kvs k y)))) : tAsg te (gSub ta ti (rSetU K)) D σ H := hv H .rfl _ fun v H1 e1 ev =>
  ho H1 e1 _ fun o H2 e2 eo => by
    subst eo
    exact hi H2 (e1.trans e2) _ fun w H3 e3 ⟨q, ew, hq⟩ => by
      subst ew
      have e := e1.trans (e2.trans e3)
      exact .inr ⟨P, _, rfl, .inr ⟨kvs, k, q, e.keep _ _ nP hP, rfl, hq, Nat.lt_of_lt_of_le hl (by decide), rfl⟩, cont v H1 H3 e1 ev (e2.trans e3) (e.keep _ _ nP hP)⟩
end
theorem entW_of {p : Pc} {c : Int} (h1 : p.1.length ≤ 2) (h2 : p.2.1.length ≤ 2) (hne : p.1 ≠ p.2.1) (g : Lets p.1 ∧ Lets p.2.1) (hc : 1 ≤ c) : EntW (keyP p, .int c) :=
  ⟨S p.1, S p.2.1, c, rfl, ⟨by rw [s_len]; exact h1, by rw [s_list]; exact g.1⟩, ⟨by rw [s_len]; exact h2, by rw [s_list]; exact g.2⟩, fun z => hne (s_inj z), hc⟩
theorem entW_put {kvs : DT} (he : ∀ p ∈ kvs, EntW p) {k : List Key} {v : V} (h : EntW (k, v)) : ∀ p ∈ putK kvs k v, EntW p := fun p hp => by
  rcases put_mem hp with z | rfl
  · exact he p z
  · exact h
theorem ent_w {p : List Key × V} (h : Ent p) : EntW p := by
  obtain ⟨s, t, c, e, h1, h2, h3, h4, _⟩ := h
  have ok : ∀ {s : Str}, isPieceD (.str s) = true → OkP s := fun {s} hp => by
    have hp' : (isWordD (.str s) && decide ((s.length : Int) ≤ 2)) = true := hp
    rw [Bool.and_eq_true, decide_eq_true_eq] at hp'
    exact ⟨by omega, fun c hc => of_decide_eq_true (List.all_eq_true.mp hp'.1 c hc)⟩
  exact ⟨s, t, c, e, ok h1, ok h2, h3, h4⟩
theorem entW_drop {kvs : DT} (he : ∀ p ∈ kvs, EntW p) (k : List Key) : ∀ p ∈ dropK kvs k, EntW p := fun p hp => he p (List.mem_filter.mp hp).1
end Slip
/-! the law's other table: the def -/
namespace Slip
open PySem PySem.Spec PyProof.Rows L2
def sp__law_other_table (K : Frag) : Sp := fun vs H Q _ => ∃ (ra sp : Addr) (v : V) (z : Str) (T : List Pc), vs = [.ref ra, .ref sp, v, .str z] ∧ Dr K ra sp H ∧ Few z ∧ DS exR H v (tabD T) ∧ TabOk T ∧ TSort T ∧ ∀ v' M H', (spR sp).r H H' → DS exR H' v' (tabD M) → TabOk M → TSort M → Q v' H'
theorem len__law_other_table {K : Frag} {vs : List V} {H : Hp} {Q : VK} {E : XK} (h : sp__law_other_table K vs H Q E) : vs.length = 4 := by
  obtain ⟨ra, sp, v, z, T, rfl, _⟩ := h
  rfl
def t__law_other_table (K : Frag) : TS := (tSeq (tAsg (tCall (sp__law_take K) [] E0 (tCons (tVar 0) (tCons (tVar 1) (tCons (tC (.int 5)) tNil)))) (gName 4)) (tSeq (tAsg tDNewT (gName 5)) (tSeq (tFor (iSeq K (tVar 2)) (gName 6) (tAsg (tIxU K (tVar 6) (tC (.int 2))) (gSub (tVar 5) (tSl (rSlU K) (tVar 6) tNoPart (tPart (tC (.int 2)))) (rSetU K)))) (tSeq (tIfS (tOr (tTest (tOp (rEqU K) (tVar 4) (tC (.int 0)))) (tTest (tOp (rEqU K) (tCB (rLenU K) (tCons (tVar 2) tNil)) (tC (.int 0))))) (tRet (tCall (sp__law_table K) [] E0 (tCons (tVar 0) (tCons (tVar 1) (tCons (tC (.int 6)) (tCons (tVar 3) tNil)))))) tNext) (tSeq (tIfS (tTest (tOp (rEqU K) (tVar 4) (tC (.int 1)))) (tFor (iRng1 (tCons (tC (.int 3)) tNil)) (gName 7) (tSeq (tPar 6 8 (tCons (tCall (sp__law_pick K) [] E0 (tCons (tVar 0) (tCons (tVar 1) (tCons (tVar 2) tNil)))) (tCons (tCall (sp__law_pick K) [] E0 (tCons (tVar 0) (tCons (tVar 1) (tCons (tVar 2) tNil)))) tNil))) (tSeq (tAsg (tTup (tCons (tOp (rAddU K) (tIxU K (tVar 6) (tC (.int 0))) (tIxU K (tVar 8) (tC (.int 0)))) (tCons (tOp (rAddU K) (tIxU K (tVar 6) (tC (.int 1))) (tIxU K (tVar 8) (tC (.int 1)))) tNil))) (gName 9)) (tIfS (tAnd (tTest (tOp (rCmp K gLt) (tCB (rLenU K) (tCons (tIxU K (tVar 9) (tC (.int 0))) tNil)) (tC (.int 3)))) (tAnd (tTest (tOp (rCmp K gLt) (tCB (rLenU K) (tCons (tIxU K (tVar 9) (tC (.int 1))) tNil)) (tC (.int 3)))) (tAnd (tTest (tOp (rNeU K) (tIxU K (tVar 9) (tC (.int 0))) (tIxU K (tVar 9) (tC (.int 1))))) (tAnd (tTest (tOp (rNotInU K) (tVar 9) (tVar 5))) (tTest (tOp (rCmp K gLt) (tOp (rAddU K) (tIxU K (tVar 6) (tC (.int 2))) (tIxU K (tVar 8) (tC (.int 2)))) (tC (.int 10)))))))) (tAsg (tOp (rAddU K) (tOp (rAddU K) (tIxU K (tVar 6) (tC (.int 2))) (tIxU K (tVar 8) (tC (.int 2)))) (tCall (sp__law_take K) [] E0 (tCons (tVar 0) (tCons (tVar 1) (tCons (tC (.int 2)) tNil))))) (gSub (tVar 5) (tVar 9) (rSetU K))) tNext)))) (tIfS (tTest (tOp (rEqU K) (tVar 4) (tC (.int 2)))) (tSeq (tAsg (tCall (sp__law_pick K) [] E0 (tCons (tVar 0) (tCons (tVar 1) (tCons (tVar 2) tNil)))) (gName 6)) (tAsg (tCB rMin2' (tCons (tC (.int 9)) (tCons (tCB rMax2' (tCons (tC (.int 1)) (tCons (tOp rSubI (tOp (rAddU K) (tIxU K (tVar 6) (tC (.int 2))) (tCall (sp__law_take K) [] E0 (tCons (tVar 0) (tCons (tVar 1) (tCons (tC (.int 3)) tNil))))) (tC (.int 1))) tNil))) tNil))) (gSub (tVar 5) (tSl (rSlU K) (tVar 6) tNoPart (tPart (tC (.int 2)))) (rSetU K)))) (tIfS (tTest (tOp (rEqU K) (tVar 4) (tC (.int 3)))) (tDrop (tBM K "dict" rPopT1 (tVar 5) (tCons (tSl (rSlU K) (tCall (sp__law_pick K) [] E0 (tCons (tVar 0) (tCons (tVar 1) (tCons (tVar 2) tNil)))) tNoPart (tPart (tC (.int 2)))) tNil))) tNext))) (tSeq (tAsg (tLc (iSeq K (tCB (rSortU K) (tCons (tVar 5) tNil))) (gName 9) tYes (tOp (rAddU K) (tVar 9) (tTup (tCons (tCB rMin2' (tCons (tC (.int 9)) (tCons (tIxU K (tVar 5) (tVar 9)) tNil))) tNil))) [9]) (gName 10)) (tRet (tCB (rTupOf K) (tCons (tSl (rSlU K) (tVar 10) tNoPart (tPart (tC (.int 8)))) tNil)))))))))
section
variable {ρ : Rl} {K : Frag} {σ : L2.St} {H : Hp} {te : TE} {T : List Pc}
/-- pick[:2], a key -/
theorem ev_slKR (h : Ev ρ te σ H (fun v H2 => ∃ b p, v = .ref b ∧ p ∈ T ∧ H2 b = some (.tup [.str (S p.1), .str (S p.2.1), .int p.2.2]))) : Ev ρ (tSl (rSlU K) te tNoPart (tPart (tC (.int 2)))) σ H (fun v H2 => ∃ q p, v = .ref q ∧ p ∈ T ∧ H2 q = some (.tup [.str (S p.1), .str (S p.2.1)])) := fun H0 e Q q =>
  h H0 e _ fun w H2 e2 ⟨b, p, ew, hp, hb⟩ => by
    subst ew
    refine eo_none (ρ := ρ) (σ := σ) H2 .rfl _ fun H3 e3 => eo_some (ρ := ρ) (σ := σ) (i := ((2 : Nat) : Int)) ev_c H3 .rfl _ fun H4 e4 => ?_
    refine .inr (.inl ⟨b, _, rfl, .inl (.inl ((e3.trans e4).tup _ _ hb)), fun hw => ?_, fun _ l hl => q _ _ ((e2.trans (e3.trans e4)).trans (r_new _ hl)) ⟨l, p, rfl, hp, ?_⟩⟩)
    · have := hw.2
      rw [HT.sIx_nat] at this
      exact absurd this (by show ¬ min 2 3 = 3; decide)
    · rw [cut_to]
      exact upd_same
end
/-- d.pop(key) -/
theorem s_dpop {ρ : Rl} {K : Frag} {σ : L2.St} {H : Hp} {ta te : TE} {D : Ends} {P : Addr} {kvs : DT} (ha : EvV ρ ta σ H (.ref P)) (hP : ∀ H1, ρ.r H H1 → H1 P = some (.dT kvs)) (h : Ev ρ te σ H (fun v H2 => ∃ q k v', v = .ref q ∧ H2 q = some (.tup (k.map kV)) ∧ valV kvs k = some v'))
    (k : ∀ H1 k, ρ.r H H1 → H1 P = some (.dT kvs) → D.nx σ (upd H1 P (.dT (dropK kvs k)))) : tDrop (tBM K "dict" rPopT1 ta (tCons te tNil)) D σ H := ha H .rfl _ fun v H1 e1 ev => by
  subst ev
  exact ⟨.inr (.inr (.inl ⟨rfl, .inr ⟨kvs, hP H1 e1⟩⟩)), h H1 e1 _ fun y H2 e2 ⟨q, k', v', ey, hq, hv⟩ => ⟨P, kvs, k', q, v', rfl, by rw [ey], hP H2 (e1.trans e2), hq, hv, k H2 k' (e1.trans e2) (hP H2 (e1.trans e2))⟩⟩
theorem pure__law_other_table {K : Frag} (vs : List V) (H : Hp) (Q : VK) (E : XK) (h : sp__law_other_table K vs H Q E) : t__law_other_table K { nx := fun _ H' => Q .non H', rt := Q } (start ["row", "spot", "table", "few", "kind", "held", "one", "again", "other", "key", "made"] vs) H := by
  obtain ⟨ra, sp, tv, z, T, rfl, dr, few, hds, ok, so, k⟩ := h
  have own := own_sp dr
  have h8 := ok.len
  refine q_asg (ρ := spR sp) (ev_take (ev_var rfl) (ev_var rfl) ev_c dr (by decide)) fun v H1 e1 ⟨kd, ev, _, _⟩ => ?_
  subst ev
  refine q_asg (ρ := spR sp) (R := fun v H' => ∃ D, v = .ref D ∧ H1 D = none ∧ H' D = some (.dT [])) (fun H2 e2 Q q p hp => q _ _ (r_new _ hp) ⟨p, rfl, e2.back p hp, upd_same⟩) fun v H2 e2 ⟨D, ev, hD0, hD⟩ => ?_
  subst ev
  have nD : ¬ (spR sp).S D := (own.r e1).fresh hD0
  have hDH : H D = none := e1.back D hD0
  obtain ⟨da, xs, rfl, hda, hxs⟩ := tab_tup hds
  have hlen : xs.length = T.length := by rw [hxs.length, List.length_map]
  have e02 := e1.trans e2
  have hda2 := e02.tup _ _ hda
  have hxs2 : DSs exR H2 xs (T.map pcD) := DqAll.tups e02.tup _ _ (nl_tab T) hxs
  refine q_forw (ρ := spR sp) (ρw := (spR sp).and D) (ew_seqT (fun _ _ => and_of) (ev_var rfl) fun H1 e1 => .inl (.inl (e1.tup _ _ hda2))) fun H3 e3 => ⟨fun i σ' H' => ((spR sp).and D).r H3 H' ∧ ∃ (w6 : Option V) (kvs : DT), σ' = [some (.ref ra), some (.ref sp), some (.ref da), some (.str z), some (.int kd), some (.ref D), w6, none, none, none, none] ∧ H' D = some (.dT kvs) ∧ kvs.length ≤ i ∧ HeldAt kvs (T.take i) (fun q => q ∈ T.take i), ⟨.rfl, _, [], rfl, e3.keep _ _ nD hD, Nat.le_refl _, (held_nil : HeldAt [] (T.take 0) _)⟩, fun i σ' H' _ p => p.1, ?_, ?_⟩
  · rintro i x σ' H17 H18 hi ⟨r17, w9, kvs, rfl, hDk, hkl, hA⟩ ⟨e18, hx⟩
    subst e18
    have e1518 : ((spR sp).and D).r H2 H18 := (and_of e3).trans r17
    obtain ⟨e', he, hq⟩ := DqAll.get hxs2 hx
    rw [List.getElem?_map] at he
    obtain ⟨p, hp, rfl⟩ := Option.map_eq_some_iff.mp he
    obtain ⟨b, rfl, hb⟩ := pc_tup hq
    have hb18 := e1518.tup _ _ hb
    refine s_putT (k := keyP p) (R := fun v _ => v = .int p.2.2) (ev_ix (ρ := exR) (n := 2) (v := .int p.2.2) (ev_var (v := .ref b) rfl) ev_c (fun H1 e1 => .inr (.inl (.inl (e1.tup _ _ hb18)))) rfl rfl) (ev_var rfl) (ev_slK (ev_var (v := .ref b) rfl) fun H1 e1 => .inl (.inl (e1.tup _ _ hb18))) hDk (by omega) fun y H1 H2' e1 ey e2' hD2 => ?_
    subst ey
    refine ⟨r17.trans ((and_of (Ext.r (e1.trans e2').ext)).trans (r_chgT hD2 nD)), _, _, rfl, upd_same, ?_, hA.one so ok hp⟩
    have := length_putK kvs (keyP p) (.int p.2.2)
    omega
  · rintro σ' H17 ⟨r17, w6, kvs0, rfl, hDk0, hkl0, hA0⟩
    rw [hlen] at hkl0
    have hA1 : HeldAt kvs0 T (fun q => q ∈ T) := by
      rw [hlen, List.take_length] at hA0
      exact hA0
    have r017 : ((spR sp).and D).r H H17 := (and_of (e02.trans e3)).trans r17
    have s017 : (spR sp).r H H17 := r_and .rfl hDH r017
    have dr17 := dr.sp s017
    have hda17 := r017.tup _ _ hda
    have hxs17 : DSs exR H17 xs (T.map pcD) := DqAll.tups r017.tup _ _ (nl_tab T) hxs
    refine q_when (ρ := spR sp) (et_or (et_test (ev_eqI (ev_var rfl) ev_c)) fun _ => et_test (ev_eqI (ev_len (ev_var rfl) fun H1 e1 => .inr (.inl (.inl (e1.tup _ _ hda17)))) ev_c)) (fun _ H18 e18 => ?_) fun hb H18 e18 => ?_
    · refine s_ret (ρ := spR sp) (R := fun v H' => (spR sp).r H H' ∧ ∃ M, DS exR H' v (tabD M) ∧ TabOk M ∧ TSort M) (ev_call (ea_cons (ev_var rfl) (ea_cons (ev_var rfl) (ea_cons ev_c (ea_cons (ev_var rfl) ea_nil)))) fun H19 e19 Q' q' E' => ⟨ra, sp, 6, z, rfl, dr17.sp (e18.trans e19), by decide, by decide, few, fun v ds H' e h1 h2 h3 => q' v H' e ⟨s017.trans (e18.trans (e19.trans e)), ?_⟩⟩) fun v H19 e19 ⟨s, M, a, b, c⟩ => k v M H19 s a b c
      obtain ⟨M, eM, hM⟩ := table_pcs h3
      have soM := table_sort h3 eM
      rw [tup_self _ (show noList (.tuple ds) = true from h2)] at eM
      rw [eM] at h1
      exact ⟨M, h1.ex, hM, soM⟩
    have hne : T ≠ [] := fun z => by
      have h0 : xs.length = 0 := by rw [hlen, z]; rfl
      rw [h0] at hb
      simp at hb
    have r18 : ((spR sp).and D).r H17 H18 := and_of e18
    have entW0 : ∀ p ∈ kvs0, EntW p := fun p hp => ent_w (hA1.ent p hp)
    have hDk18 : H18 D = some (.dT kvs0) := e18.keep _ _ nD hDk0
    have pick : ∀ {σ5 : L2.St} {H5 : Hp}, ((spR sp).and D).r H17 H5 → σ5[0]? = some (some (.ref ra)) → σ5[1]? = some (some (.ref sp)) → σ5[2]? = some (some (.ref da)) → Ev (spR sp) (tCall (sp__law_pick K) [] E0 (tCons (tVar 0) (tCons (tVar 1) (tCons (tVar 2) tNil)))) σ5 H5 (fun v H' => ∃ b p, v = .ref b ∧ p ∈ T ∧ H' b = some (.tup [.str (S p.1), .str (S p.2.1), .int p.2.2])) := fun {σ5 H5} e a0 a1 a2 =>
      ev_pickT (ev_var a0) (ev_var a1) (ev_var a2) (dr.sp (r_and .rfl hDH (r017.trans e))) (e.tup _ _ hda17) (DqAll.tups e.tup _ _ (nl_tab T) hxs17) hne h8
    refine q_any (fun σ' H' => ((spR sp).and D).r H18 H' ∧ ∃ (kvs : DT) (w6 w7 w8 w9 : Option V), σ' = [some (.ref ra), some (.ref sp), some (.ref da), some (.str z), some (.int kd), some (.ref D), w6, w7, w8, w9, none] ∧ H' D = some (.dT kvs) ∧ kvs.length ≤ 11 ∧ ∀ p ∈ kvs, EntW p) ?_ fun N hN => ?_
    · rintro σ' H19 ⟨r19, kvs, w6, w7, w8, w9, rfl, hDk, hkl, hent⟩
      have s019 : (spR sp).r H H19 := r_and .rfl hDH (r017.trans (r18.trans r19))
      refine q_asg (ρ := spR sp) (ev_madeHeld (i := 5) (j := 9) (own.r s019) nD hDk (by omega) hent rfl (fun _ => rfl) (fun _ => rfl) (fun _ => rfl)) fun v H20 e20 ⟨p, ms, M, ev, nS, hp, hms, hR, hM⟩ => ?_
      subst ev
      refine s_ret (ρ := spR sp) (R := fun v H' => (spR sp).r H H' ∧ DS exR H' v (tabD (M.take 8))) ((ev_tupOf (ρf := spR sp) (C := fun ds => ds = (M.take 8).map pcD) Le.rfl ((ev_slL (own.r (s019.trans e20)) (ev_var (v := .ref p) rfl) eo_none (eo_some (i := ((8 : Nat) : Int)) ev_c) fun H1 e1 => .of (e1.keep _ _ nS hp)).imp fun v H1 e1 ⟨l, ev, nl, hl⟩ => ⟨l, _, _, ev, nl, hl, ?_, rfl⟩)).imp fun v H1 e1 ⟨ds, ed, hv⟩ => ⟨s019.trans (e20.trans e1), by unfold tabD; rw [← ed]; exact hv.ex⟩) fun v H1 e1 ⟨s, hv⟩ => k v (M.take 8) H1 s hv hR.tab.1 hR.tab.2
      rw [cut_to, List.map_take]
      exact (e1.dss hms).take 8
    · have fin : ∀ {kvs : DT} {w6 w7 w8 w9 : Option V} {H' : Hp}, ((spR sp).and D).r H18 H' → H' D = some (.dT kvs) → kvs.length ≤ 11 → (∀ p ∈ kvs, EntW p) → N [some (.ref ra), some (.ref sp), some (.ref da), some (.str z), some (.int kd), some (.ref D), w6, w7, w8, w9, none] H' := fun {kvs w6 w7 w8 w9 H'} r hDk hl he => hN _ _ ⟨r, kvs, w6, w7, w8, w9, rfl, hDk, hl, he⟩
      refine s_if (ρ := spR sp) (et_test (ev_eqI (ev_var rfl) ev_c)) (fun _ H19 e19 => ?_) fun _ H19 e19 => ?_
      · refine s_forw (ρ := spR sp) (ρw := (spR sp).and D) (ew_rng (i := 3) (ea_cons ev_c ea_nil) (by decide) (by decide)) fun H20 e20 => ⟨fun i σ' H' => ((spR sp).and D).r H20 H' ∧ ∃ (kvs : DT) (w6 w7 w8 w9 : Option V), σ' = [some (.ref ra), some (.ref sp), some (.ref da), some (.str z), some (.int kd), some (.ref D), w6, w7, w8, w9, none] ∧ H' D = some (.dT kvs) ∧ kvs.length ≤ 8 + i ∧ ∀ p ∈ kvs, EntW p, ⟨.rfl, kvs0, _, _, _, _, rfl, (e19.trans e20).keep _ _ nD hDk18, by omega, entW0⟩, fun i σ' H' _ p => p.1, ?_, ?_⟩
        · rintro i x σ' H21 H22 hi ⟨r21, kvs, w6, w7, w8, w9, rfl, hDk, hkl, hent⟩ ⟨e22, rfl⟩
          subst e22
          have hi3 : i < 3 := hi
          have r1722 : ((spR sp).and D).r H17 H22 := r18.trans ((and_of (e19.trans e20)).trans r21)
          refine q_parR (ρ := spR sp) (ea_consR (Rr := fun v ws H' => (∃ b p, v = .ref b ∧ p ∈ T ∧ H' b = some (.tup [.str (S p.1), .str (S p.2.1), .int p.2.2])) ∧ ∃ w, ws = [w] ∧ ∃ b p, w = .ref b ∧ p ∈ T ∧ H' b = some (.tup [.str (S p.1), .str (S p.2.1), .int p.2.2])) (pick r1722 rfl rfl rfl) fun v H1 e1 ⟨b, p, ev, hp, hb⟩ => (ea_one (pick (r1722.trans (and_of e1)) rfl rfl rfl)).imp fun ws H2' e2' ⟨w, ew, hw⟩ => ⟨⟨b, p, ev, hp, e2'.tup _ _ hb⟩, w, ew, hw⟩) fun vs H23 e23 ⟨v, ws, evs, ⟨ba, pa, ev, hpa, hba⟩, w, ews, ⟨bb, pb, ew, hpb, hbb⟩⟩ => ⟨v, w, by rw [evs, ews], ?_⟩
          subst ev ew
          have qa : ∀ {H1 : Hp}, (spR sp).r H23 H1 → SqA K H1 ba [.str (S pa.1), .str (S pa.2.1), .int pa.2.2] := fun e => .inr (.inl (.inl (e.tup _ _ hba)))
          have qb : ∀ {H1 : Hp}, (spR sp).r H23 H1 → SqA K H1 bb [.str (S pb.1), .str (S pb.2.1), .int pb.2.2] := fun e => .inr (.inl (.inl (e.tup _ _ hbb)))
          have la := ok.pc pa hpa
          have lb := ok.pc pb hpb
          have ta := ok.lt pa hpa
          have tb := ok.lt pb hpb
          refine q_asg (ρ := spR sp) (R := fun v H' => ∃ q, v = .ref q ∧ H' q = some (.tup ((keyP (joined pa pb)).map kV))) ((ev_tup (ea_cons ((ev_addS (s1 := S pa.1) (s2 := S pb.1) (ev_ix (n := 0) (ev_var (v := .ref ba) rfl) ev_c (fun H1 e1 => qa e1) rfl rfl) (ev_ix (n := 0) (ev_var (v := .ref bb) rfl) ev_c (fun H1 e1 => qb e1) rfl rfl) (by rw [s_len, s_len]; omega)).val (x := .str (S (joined pa pb).1)) (by rw [s_app_s]; rfl)) (ea_cons ((ev_addS (s1 := S pa.2.1) (s2 := S pb.2.1) (ev_ix (n := 1) (ev_var (v := .ref ba) rfl) ev_c (fun H1 e1 => qa e1) rfl rfl) (ev_ix (n := 1) (ev_var (v := .ref bb) rfl) ev_c (fun H1 e1 => qb e1) rfl rfl) (by rw [s_len, s_len]; omega)).val (x := .str (S (joined pa pb).2.1)) (by rw [s_app_s]; rfl)) ea_nil)) fun vs H1 _ e => by rw [e]; show 2 ≤ 100000; decide).imp fun v H1 _ ⟨c, vs, H2', ev, evs, hc, _, eH⟩ => ⟨c, ev, by rw [eH, evs]; exact upd_same⟩) fun v H24 e24 ⟨q, ev, hq⟩ => ?_
          subst ev
          have le1 : (joined pa pb).1.length = pa.1.length + pb.1.length := List.length_append
          have le2 : (joined pa pb).2.1.length = pa.2.1.length + pb.2.1.length := List.length_append
          have sq : ∀ {H1 : Hp}, (spR sp).r H24 H1 → SqA K H1 q [.str (S (joined pa pb).1), .str (S (joined pa pb).2.1)] := fun e => .inr (.inl (.inl (e.tup _ _ hq)))
          have hD24 : ∀ H1, (spR sp).r H24 H1 → H1 D = some (.dT kvs) := fun H1 e1 => (e23.trans (e24.trans e1)).keep _ _ nD hDk
          refine s_if (ρ := spR sp) (et_and (et_test (ev_lt (ev_lenSS (Z := (joined pa pb).1) (ev_ix (n := 0) (ev_var (v := .ref q) rfl) ev_c (fun H1 e1 => sq e1) rfl rfl) (by omega)) ev_c)) fun _ => et_and (et_test (ev_lt (ev_lenSS (Z := (joined pa pb).2.1) (ev_ix (n := 1) (ev_var (v := .ref q) rfl) ev_c (fun H1 e1 => sq e1) rfl rfl) (by omega)) ev_c)) fun _ => et_and (et_test (ev_neS (s1 := S (joined pa pb).1) (s2 := S (joined pa pb).2.1) (ev_ix (n := 0) (ev_var (v := .ref q) rfl) ev_c (fun H1 e1 => sq e1) rfl rfl) (ev_ix (n := 1) (ev_var (v := .ref q) rfl) ev_c (fun H1 e1 => sq e1) rfl rfl))) fun _ => et_and (et_test (ev_notInT (k := keyP (joined pa pb)) ((ev_var (v := .ref q) rfl).imp fun v H1 e1 ev => ⟨q, ev, e1.tup _ _ hq⟩) (ev_var rfl) hD24)) fun _ => et_test (ev_lt (ev_add (i := pa.2.2) (j := pb.2.2) (ev_ix (n := 2) (ev_var (v := .ref ba) rfl) ev_c (fun H1 e1 => qa (e24.trans e1)) rfl rfl) (ev_ix (n := 2) (ev_var (v := .ref bb) rfl) ev_c (fun H1 e1 => qb (e24.trans e1)) rfl rfl)) ev_c)) (fun hb H25 e25 => ?_) fun _ H25 e25 => ⟨r21.trans (and_of (e23.trans (e24.trans e25))), kvs, _, _, _, _, rfl, hD24 _ e25, by omega, hent⟩
          simp only [Bool.and_eq_true, decide_eq_true_eq, Bool.not_eq_true', decide_eq_false_iff_not, Option.isSome_eq_false_iff, Option.isNone_iff_eq_none] at hb
          obtain ⟨b1, b2, b3, b4, b5⟩ := hb
          have hD25 := hD24 _ e25
          have e2325 := e24.trans e25
          have dr25 : Dr K ra sp H25 := dr.sp (r_and .rfl hDH (r017.trans (r1722.trans (and_of (e23.trans e2325)))))
          refine s_putTR (ρ := spR sp) nD (k := keyP (joined pa pb)) (R := fun v _ => ∃ c : Int, v = .int c ∧ 1 ≤ c) (ev_opP (r := rAddU K) (Pa := fun v => v = .int (pa.2.2 + pb.2.2)) (Pb := Below 2) (ev_add (i := pa.2.2) (j := pb.2.2) (ev_ix (n := 2) (ev_var (v := .ref ba) rfl) ev_c (fun H1 e1 => qa (e2325.trans e1)) rfl rfl) (ev_ix (n := 2) (ev_var (v := .ref bb) rfl) ev_c (fun H1 e1 => qb (e2325.trans e1)) rfl rfl)) (ev_take (ev_var rfl) (ev_var rfl) ev_c dr25 (by decide)) fun x y ex ⟨m, ey, m0, m2⟩ => ?_) (ev_var rfl) ((ev_var (v := .ref q) rfl).imp fun v H1 e1 ev => ⟨q, ev, e1.tup _ _ (e25.tup _ _ hq)⟩) hD25 (by omega) fun y H1 H2' e1 ⟨c, ey, hc⟩ e2' hD2 => ?_
          · subst ex ey
            exact fun H1 e1 Q' q' => .inl ⟨_, m, rfl, rfl, q' _ H1 .rfl ⟨_, rfl, by omega⟩⟩
          · subst ey
            refine ⟨r21.trans ((and_of (e23.trans (e2325.trans (e1.trans e2')))).trans (r_chgT hD2 nD)), _, _, _, _, _, rfl, upd_same, ?_, entW_put hent (entW_of (by omega) (by omega) (fun z => b3 (by rw [z])) ⟨lets_app ta.1 tb.1, lets_app ta.2 tb.2⟩ hc)⟩
            have := length_putK kvs (keyP (joined pa pb)) (.int c)
            omega
        · rintro σ' H21 ⟨r21, kvs, w6, w7, w8, w9, rfl, hDk, hkl, hent⟩
          exact fin ((and_of (e19.trans e20)).trans r21) hDk (by have : kvs.length ≤ 8 + 3 := hkl; omega) hent
      · refine s_if (ρ := spR sp) (et_test (ev_eqI (ev_var rfl) ev_c)) (fun _ H20 e20 => ?_) fun _ H20 e20 => ?_
        · have r1720 : ((spR sp).and D).r H17 H20 := r18.trans (and_of (e19.trans e20))
          refine q_asg (ρ := spR sp) (pick r1720 rfl rfl rfl) fun v H21 e21 ⟨b, p, ev, hp, hb⟩ => ?_
          subst ev
          have lp := ok.pc p hp
          have r1721 := r1720.trans (and_of e21)
          have dr21 : Dr K ra sp H21 := dr.sp (r_and .rfl hDH (r017.trans r1721))
          have hadd : Ev (spR sp) (tOp (rAddU K) (tIxU K (tVar 6) (tC (.int 2))) (tCall (sp__law_take K) [] E0 (tCons (tVar 0) (tCons (tVar 1) (tCons (tC (.int 3)) tNil))))) [some (.ref ra), some (.ref sp), some (.ref da), some (.str z), some (.int kd), some (.ref D), some (.ref b), none, none, none, none] H21 (fun v _ => ∃ m : Int, v = .int m) :=
            ev_opP (r := rAddU K) (Pa := fun v => v = .int p.2.2) (Pb := Below 3) (ev_ix (n := 2) (ev_var (v := .ref b) rfl) ev_c (fun H1 e1 => .inr (.inl (.inl (e1.tup _ _ hb)))) rfl rfl) (ev_take (ev_var rfl) (ev_var rfl) ev_c dr21 (by decide)) fun x y ex ⟨m, ey, m0, m2⟩ => by
              subst ex ey
              exact fun H1 e1 Q' q' => .inl ⟨_, m, rfl, rfl, q' _ H1 .rfl ⟨_, rfl⟩⟩
          have hsub : Ev (spR sp) (tOp rSubI (tOp (rAddU K) (tIxU K (tVar 6) (tC (.int 2))) (tCall (sp__law_take K) [] E0 (tCons (tVar 0) (tCons (tVar 1) (tCons (tC (.int 3)) tNil))))) (tC (.int 1))) [some (.ref ra), some (.ref sp), some (.ref da), some (.str z), some (.int kd), some (.ref D), some (.ref b), none, none, none, none] H21 (fun v _ => ∃ m : Int, v = .int m) :=
            ev_opP (r := rSubI) (Pa := fun v => ∃ m : Int, v = .int m) (Pb := fun v => v = .int 1) hadd ev_c fun x y ⟨m, ex⟩ ey => by
              subst ex ey
              exact fun H1 e1 Q' q' => ⟨m, 1, rfl, rfl, q' _ H1 .rfl ⟨_, rfl⟩⟩
          have hmax : Ev (spR sp) (tCB rMax2' (tCons (tC (.int 1)) (tCons (tOp rSubI (tOp (rAddU K) (tIxU K (tVar 6) (tC (.int 2))) (tCall (sp__law_take K) [] E0 (tCons (tVar 0) (tCons (tVar 1) (tCons (tC (.int 3)) tNil))))) (tC (.int 1))) tNil))) [some (.ref ra), some (.ref sp), some (.ref da), some (.str z), some (.int kd), some (.ref D), some (.ref b), none, none, none, none] H21 (fun v _ => ∃ m : Int, v = .int m ∧ 1 ≤ m) :=
            ev_cb (ea_consP (Pa := fun v => v = .int 1) ev_c (ea_consP (Pr := fun ws => ws = []) hsub ea_nil)) fun vs H1 e1 ⟨x, ws, evs, ex, y, ws', ews, ⟨m, ey⟩, e0⟩ => by
              subst evs ex ews ey e0
              exact fun H2 e2 Q' q' => ⟨1, m, rfl, q' _ H2 .rfl ⟨_, rfl, by split <;> omega⟩⟩
          have hmin : Ev (spR sp) (tCB rMin2' (tCons (tC (.int 9)) (tCons (tCB rMax2' (tCons (tC (.int 1)) (tCons (tOp rSubI (tOp (rAddU K) (tIxU K (tVar 6) (tC (.int 2))) (tCall (sp__law_take K) [] E0 (tCons (tVar 0) (tCons (tVar 1) (tCons (tC (.int 3)) tNil))))) (tC (.int 1))) tNil))) tNil))) [some (.ref ra), some (.ref sp), some (.ref da), some (.str z), some (.int kd), some (.ref D), some (.ref b), none, none, none, none] H21 (fun v _ => ∃ m : Int, v = .int m ∧ 1 ≤ m) :=
            ev_cb (ea_consP (Pa := fun v => v = .int 9) ev_c (ea_consP (Pr := fun ws => ws = []) hmax ea_nil)) fun vs H1 e1 ⟨x, ws, evs, ex, y, ws', ews, ⟨m, ey, hm⟩, e0⟩ => by
              subst evs ex ews ey e0
              exact fun H2 e2 Q' q' => ⟨9, m, rfl, q' _ H2 .rfl ⟨_, rfl, by split <;> omega⟩⟩
          refine s_putTR (ρ := spR sp) nD (k := keyP p) hmin (ev_var rfl) (ev_slK (ev_var (v := .ref b) rfl) fun H1 e1 => .inl (.inl (e1.tup _ _ hb))) ((e19.trans (e20.trans e21)).keep _ _ nD hDk18) (by omega) fun y H1 H2' e1 ⟨c, ey, hc⟩ e2' hD2 => ?_
          subst ey
          refine fin ((and_of (e19.trans (e20.trans (e21.trans (e1.trans e2'))))).trans (r_chgT hD2 nD)) upd_same ?_ (entW_put entW0 (entW_of lp.1 lp.2.1 lp.2.2.1 (ok.lt p hp) hc))
          have := length_putK kvs0 (keyP p) (.int c)
          omega
        · refine s_if (ρ := spR sp) (et_test (ev_eqI (ev_var rfl) ev_c)) (fun _ H21 e21 => ?_) fun _ H21 e21 => fin (and_of (e19.trans (e20.trans e21))) ((e19.trans (e20.trans e21)).keep _ _ nD hDk18) (by omega) entW0
          have e1821 := e19.trans (e20.trans e21)
          refine s_dpop (ρ := spR sp) (kvs := kvs0) (ev_var rfl) (fun H1 e1 => (e1821.trans e1).keep _ _ nD hDk18) ((ev_slKR (pick (r18.trans (and_of e1821)) rfl rfl rfl)).imp fun v H1 e1 ⟨q, p, ev, hp, hq⟩ => ⟨q, keyP p, .int p.2.2, ev, hq, hA1.sub p hp⟩) fun H22 k' e22 hD22 => ?_
          exact fin ((and_of (e1821.trans e22)).trans (r_chgT hD22 nD)) upd_same (by have := dropK_le kvs0 k'; omega) (entW_drop entW0 _)
end Slip
/-! law_k07: the law -/
namespace Slip
open PySem PySem.Spec PyProof.Rows L2
section
variable {ρ : Rl} {K : Frag} {σ : L2.St} {H : Hp} {ta tb tc : TE} {d e : PyData} {E : XK}
theorem ev_cmpDD {g : PyData → PyData → Bool} (h1 : Ev ρ ta σ H (fun v H' => DS ρ H' v d)) (h2 : ∀ H1, ρ.r H H1 → Ev ρ tb σ H1 (fun v H' => DS ρ H' v e)) (al : PySem.W.alike d e = true) (nn : d ≠ .none) (dp : d.depth ≤ 64) : EvV ρ (tOp (rCmp K g) ta tb) σ H (.bl (g d e)) :=
  ev_op2 h1 (fun x' H1 e1 _ => h2 H1 e1) fun x' y' H1 H2 e1 e2 hx hy H3 e3 Q q => ⟨d, e, ((e2.trans e3).ds hx).dp _ _, (e3.ds hy).dp _ _, al, nn, dp, q _ H3 .rfl rfl⟩
/-- the law's price, known -/
theorem ev_lp {v : V} {T : List Pc} {W X : List Nat} {o : Option Int} (h1 : EvV ρ ta σ H v) (h2 : EvV ρ tb σ H (.str (S W))) (h3 : EvV ρ tc σ H (.str (S X))) (hd : DS exR H v (tabD T)) (ok : TabOk T) (hW : W.length ≤ 100) (hX : X.length ≤ 100) (ho : PriceIs T W X o) : EvV ρ (tCall (sp__law_price K) [] E (tCons ta (tCons tb (tCons tc tNil)))) σ H (optI o) :=
  ev_call (ea_cons h1 (ea_cons h2 (ea_cons h3 ea_nil))) fun H1 e1 Q q E => ⟨v, T, W, X, rfl, ⟨tab_any e1 hd, ok, hW, hX⟩, fun o' H' e hp => q _ H' (Ext.r e) (by rw [hp.unique ho])⟩
theorem ev_pr {v : V} {T : List Pc} {W X : List Nat} {o : Option Int} (h1 : EvV ρ ta σ H v) (h2 : EvV ρ tb σ H (.str (S W))) (h3 : EvV ρ tc σ H (.str (S X))) (hd : DS exR H v (tabD T)) (ok : TabOk T) (so : TSort T) (w : Lets W) (x : Lets X) (hW : W.length ≤ 100) (hX : X.length ≤ 100) (ho : PriceIs T W X o) : EvV ρ (tCall (sp_price K) [] E (tCons ta (tCons tb (tCons tc tNil)))) σ H (optI o) :=
  ev_call (ea_cons h1 (ea_cons h2 (ea_cons h3 ea_nil))) fun H1 e1 Q q E => ⟨v, tabD T, T, W, X, rfl, (Tab.of (tab_any e1 hd) ok so).ask w x (by omega) (by omega), fun o' H' e hp => q _ H' (Ext.r e) (by rw [hp.unique ho])⟩
end
theorem take5 (r : Rw) : (rowE r).take 5 = sizeL r.1 := rfl
theorem FoundB.full {H : Hp} {T M : List Pc} {ys : List V} {rs : List Rw} (f : FoundB H T M (T ++ M).length ys rs) (q : Rw) (hq : q.1 ∈ T ++ M) (ho : Odd T M q) : ∃ s ∈ rs, s.1 = q.1 := by
  obtain ⟨j, hj, e⟩ := List.mem_iff_getElem.mp hq
  rcases f.all j q.1 hj (by rw [List.getElem?_eq_getElem hj, e]) with ⟨o, a1, a2⟩ | h
  · exact absurd ((ho.1.unique a1).trans (ho.2.1.unique a2).symm) ho.2.2
  · exact h
theorem FoundB.none {H : Hp} {T M : List Pc} {ys : List V} {rs : List Rw} (f : FoundB H T M (T ++ M).length ys rs) : rs = [] ↔ ∀ r ∈ T ++ M, Eqp T M r := by
  constructor
  · intro h r hr
    obtain ⟨j, hj, e⟩ := List.mem_iff_getElem.mp hr
    rcases f.all j r hj (by rw [List.getElem?_eq_getElem hj, e]) with h1 | ⟨s, hs, _⟩
    · exact h1
    · rw [h] at hs
      cases hs
  · intro h
    cases rs with
    | nil => rfl
    | cons r rs =>
      obtain ⟨hm, ho⟩ := f.odd r List.mem_cons_self
      obtain ⟨o, a, b⟩ := h r.1 hm
      exact absurd ((ho.1.unique a).trans (ho.2.1.unique b).symm) ho.2.2
theorem FoundB.tells {H : Hp} {T M : List Pc} {ys : List V} {rs : List Rw} (f : FoundB H T M (T ++ M).length ys rs) {r : Rw} (hr : r ∈ rs) (hl : ∀ (j : Nat) s, j < rs.length → rs[j]? = some s → PySem.W.dataLt (sizeD s.1) (sizeD r.1) = false) : Tells T M r :=
  ⟨(f.odd r hr).1, (f.odd r hr).2, fun q hq ho => by
    obtain ⟨s, hs, es⟩ := f.full q hq ho
    obtain ⟨j, hj, ej⟩ := List.mem_iff_getElem.mp hs
    have := hl j s hj (by rw [List.getElem?_eq_getElem hj, ej])
    rwa [es] at this⟩
/-- a table handed in, under ρ -/
structure TabR (ρ : Rl) (H : Hp) (v : V) (d : PyData) (T : List Pc) : Prop where
  dd : DS ρ H v d
  s : sm d = true
  e : tupD d = tabD T
theorem TabR.tab {ρ : Rl} {H H' : Hp} {v : V} {d : PyData} {T : List Pc} (h : TabR ρ H v d T) (e : ρ.r H H') (ok : TabOk T) (so : TSort T) : Tab H' v d T := ⟨(e.ds h.dd).ex, h.s, h.e, ok, so⟩
def sp_law (K : Frag) : Sp := fun vs H Q _ => ∃ (a : Addr) (ns : List Int), vs = [.ref a] ∧ SqL K H a (ns.map V.int) ∧ ns.length ≤ 63 ∧ ∀ H', Q (.bl true) H'
theorem len_law {K : Frag} {vs : List V} {H : Hp} {Q : VK} {E : XK} (h : sp_law K vs H Q E) : vs.length = 1 := by
  obtain ⟨a, ns, rfl, _⟩ := h
  rfl
def t_law (K : Frag) : TS := (tSeq (tAsg (tCall (sp__law_numbers K) [] E0 (tCons (tVar 0) tNil)) (gName 1)) (tSeq (tAsg (tLst (tCons (tC (.int 0)) tNil)) (gName 2)) (tSeq (tAsg (tCall (sp__law_few K) [] E0 (tCons (tVar 1) (tCons (tVar 2) (tCons (tLst (tCons (tC (.int 2)) (tCons (tC (.int 2)) (tCons (tC (.int 3)) (tCons (tC (.int 6)) tNil))))) tNil)))) (gName 3)) (tSeq (tAsg (tCall (sp__law_table K) [] E0 (tCons (tVar 1) (tCons (tVar 2) (tCons (tC (.int 8)) (tCons (tVar 3) tNil))))) (gName 4)) (tSeq (tFor (iRng1 (tCons (tC (.int 4)) tNil)) (gName 5) (tSeq (tAsg (tCall (sp__law_other_table K) [] E0 (tCons (tVar 1) (tCons (tVar 2) (tCons (tVar 4) (tCons (tVar 3) tNil))))) (gName 6)) (tSeq (tAsg (tCall (sp__law_differ K) [] E0 (tCons (tVar 4) (tCons (tVar 6) tNil))) (gName 7)) (tSeq (tIfS (tNot (tB (tCall (sp__law_so K 8) [] E0 (tCons (tCall (sp_is_alike K) [] E0 (tCons (tCall (sp__law_handed K) [] E0 (tCons (tVar 1) (tCons (tVar 2) (tCons (tVar 4) tNil)))) (tCons (tCall (sp__law_handed K) [] E0 (tCons (tVar 1) (tCons (tVar 2) (tCons (tVar 6) tNil)))) tNil))) (tCons (tOp (rEqU K) (tCB (rLenU K) (tCons (tVar 7) tNil)) (tC (.int 0))) tNil))))) (tRet (tC (.bl false))) tNext) (tSeq (tAsg (tC .non) (gName 8)) (tSeq (tIfS (tTest (tOp (rCmp K gGt) (tCB (rLenU K) (tCons (tVar 7) tNil)) (tC (.int 0)))) (tSeq (tAsg (tIxU K (tVar 7) (tC (.int 0))) (gName 9)) (tSeq (tFor (iSeq K (tVar 7)) (gName 10) (tIfS (tTest (tOp (rCmp K gLt) (tSl (rSlU K) (tVar 10) tNoPart (tPart (tC (.int 5)))) (tSl (rSlU K) (tVar 9) tNoPart (tPart (tC (.int 5)))))) (tAsg (tVar 10) (gName 9)) tNext)) (tAsg (tTup (tCons (tIxU K (tVar 9) (tC (.int 2))) (tCons (tIxU K (tVar 9) (tC (.int 4))) (tCons (tIxU K (tVar 9) (tC (.int 5))) (tCons (tIxU K (tVar 9) (tC (.int 6))) tNil))))) (gName 8)))) tNext) (tSeq (tIfS (tNot (tB (tCall (sp__law_so K 8) [] E0 (tCons (tCall (sp_unlike K) [] E0 (tCons (tCall (sp__law_handed K) [] E0 (tCons (tVar 1) (tCons (tVar 2) (tCons (tVar 4) tNil)))) (tCons (tCall (sp__law_handed K) [] E0 (tCons (tVar 1) (tCons (tVar 2) (tCons (tVar 6) tNil)))) tNil))) (tCons (tVar 8) tNil))))) (tRet (tC (.bl false))) tNext) (tFor (iRng1 (tCons (tC (.int 3)) tNil)) (gName 11) (tSeq (tAsg (tCall (sp__law_letters K) [] E0 (tCons (tVar 1) (tCons (tVar 2) (tCons (tC (.int 5)) (tCons (tVar 3) tNil))))) (gName 12)) (tSeq (tAsg (tCall (sp__law_misspelt K) [] E0 (tCons (tVar 1) (tCons (tVar 2) (tCons (tIxU K (tLst (tCons (tVar 4) (tCons (tVar 6) tNil))) (tCall (sp__law_take K) [] E0 (tCons (tVar 1) (tCons (tVar 2) (tCons (tC (.int 2)) tNil))))) (tCons (tVar 12) (tCons (tC (.int 20)) tNil)))))) (gName 13)) (tIfS (tOr (tTest (tOp rIsN (tVar 8) (tC .non))) (tTest (tOp (rCmp K gLt) (tOp (rAddU K) (tCB (rLenU K) (tCons (tVar 12) tNil)) (tCB (rLenU K) (tCons (tVar 13) tNil))) (tOp (rAddU K) (tCB (rLenU K) (tCons (tIxU K (tVar 8) (tC (.int 0))) tNil)) (tCB (rLenU K) (tCons (tIxU K (tVar 8) (tC (.int 1))) tNil)))))) (tSeq (tIfS (tTest (tOp (rNeU K) (tCall (sp__law_price K) [] E0 (tCons (tVar 4) (tCons (tVar 12) (tCons (tVar 13) tNil)))) (tCall (sp__law_price K) [] E0 (tCons (tVar 6) (tCons (tVar 12) (tCons (tVar 13) tNil)))))) (tRet (tC (.bl false))) tNext) (tIfS (tAnd (tTest (tOp (rCmp K gLt) (tCB (rLenU K) (tCons (tVar 13) tNil)) (tC (.int 17)))) (tNot (tB (tCall (sp__law_so K 8) [] E0 (tCons (tCall (sp_price K) [] E0 (tCons (tVar 6) (tCons (tVar 12) (tCons (tVar 13) tNil)))) (tCons (tCall (sp__law_price K) [] E0 (tCons (tVar 4) (tCons (tVar 12) (tCons (tVar 13) tNil)))) tNil)))))) (tRet (tC (.bl false))) tNext)) tNext))))))))))) (tRet (tC (.bl true))))))))
theorem pure_law {K : Frag} (vs : List V) (H : Hp) (Q : VK) (E : XK) (h : sp_law K vs H Q E) : t_law K { nx := fun _ H' => Q .non H', rt := Q } (start ["script", "row", "spot", "few", "table", "again", "other", "found", "due", "best", "one", "turns", "word", "text"] vs) H := by
  obtain ⟨a, ns, rfl, hq, hl, k⟩ := h
  refine q_asg (ρ := exR) (R := fun v H' => ∃ (p : Addr) (ms : List Int), v = .ref p ∧ H' p = some (.lst (ms.map V.int)) ∧ ms ≠ []) (ev_call (ea_cons (ev_var rfl) ea_nil) fun H1 e1 Q' q' E' => ⟨a, ns, rfl, ext_sqL e1.ext hq, hl, fun p ms H' hp e hp' hm => q' _ H' (Ext.r e) ⟨p, ms, rfl, hp', hm⟩⟩) fun v H1 e1 ⟨ra, ms, ev, hra, hms⟩ => ?_
  subst ev
  refine q_asg (ρ := exR) (R := fun v H' => ∃ p, v = .ref p ∧ H1 p = none ∧ H' p = some (.lst [.int 0]) ∧ exR.r H1 H') ?_ fun v H2 e2 ⟨sp, ev, hsp0, hsp, _⟩ => ?_
  · refine (ev_lst (ea_cons (ev_c (v := .int 0)) ea_nil) fun vs H2 _ e => by rw [e]; show 1 ≤ 100000; decide).imp fun v H2 r ⟨p, vs, H3, ev, evs, hp, r3, eH⟩ => ?_
    subst ev evs
    exact ⟨p, rfl, r3.back p hp, by rw [eH]; exact upd_same, r⟩
  subst ev
  have nsp : ra ≠ sp := fun z => by rw [← z, hra] at hsp0; cases hsp0
  have dr : Dr K ra sp H2 := ⟨⟨ms, hms, .of (e2.ext _ _ hra)⟩, ⟨0, Int.le_refl _, hsp⟩, nsp⟩
  have ow : ∀ H3, (spR sp).r H2 H3 → Own (spR sp) H3 := fun H3 e => own_sp (dr.sp e)
  refine q_asg (ρ := spR sp) (R := fun v _ => ∃ z : Str, v = .str z ∧ Few z) ?_ fun v H3 e3 ⟨z, ev, few⟩ => ?_
  · refine ev_callR (sp := sp__law_few K) (ea_consV (ev_var (v := .ref ra) rfl) (ea_consV (ev_var (v := .ref sp) rfl) (ea_one (ev_lstN (xs := ([2, 2, 3, 6] : List Int).map V.int) (ow H2 .rfl) (ea_cons ev_c (ea_cons ev_c (ea_cons ev_c (ea_cons ev_c ea_nil)))) (by show 4 ≤ 100000; decide))))) ?_
    rintro vs H3 e3 ⟨ws, rfl, ws2, rfl, x, rfl, za, rfl, nz, hz⟩
    exact fun H4 e4 Q' q' E' => ⟨ra, sp, za, [2, 2, 3, 6], rfl, dr.sp (e3.trans e4), nz, .of (e4.keep _ _ nz hz), by simp, by decide, fun z H' e f => q' _ H' e ⟨z, rfl, f⟩⟩
  subst ev
  refine q_asg (ρ := spR sp) (R := fun v H' => ∃ T, DS exR H' v (tabD T) ∧ TabOk T ∧ TSort T) (ev_call (ea_cons (ev_var rfl) (ea_cons (ev_var rfl) (ea_cons ev_c (ea_cons (ev_var rfl) ea_nil)))) fun H4 e4 Q' q' E' => ⟨ra, sp, 8, z, rfl, dr.sp (e3.trans e4), by decide, by decide, few, fun v ds H' e h1 h2 h3 => q' v H' e ?_⟩) fun tv H4 e4 ⟨T, hds, okT, soT⟩ => ?_
  · obtain ⟨T, eT, hT⟩ := table_pcs h3
    have so := table_sort h3 eT
    rw [tup_self _ (show noList (.tuple ds) = true from h2)] at eT
    rw [eT] at h1
    exact ⟨T, h1.ex, hT, so⟩
  have e24 := e3.trans e4
  obtain ⟨nlT, _, smT, dpT⟩ := tab_facts okT soT
  refine q_for (ρ := spR sp) (n := 4) (Y := YFn fun m => .int ((m : Nat) : Int)) (ei_rng (i := 4) (ea_cons ev_c ea_nil) (by decide) (by decide)) fun H5 e5 => ⟨fun n σ' H' => (spR sp).r H5 H' ∧ ∃ u5 u6 u7 u8 u9 u10 u11 u12 u13 : Option V, σ' = [some (.ref a), some (.ref ra), some (.ref sp), some (.str z), some tv, u5, u6, u7, u8, u9, u10, u11, u12, u13], ⟨.rfl, _, _, _, _, _, _, _, _, _, rfl⟩, fun n σ' H' _ p => p.1, ?_, ?_⟩
  · rintro n y σ' H6 H7 hn ⟨r, u5, u6, u7, u8, u9, u10, u11, u12, u13, rfl⟩ ⟨e7, rfl⟩
    subst e7
    have e27 : (spR sp).r H2 H7 := e24.trans (e5.trans r)
    have hds7 : DS exR H7 tv (tabD T) := tab_any (e5.trans r) hds
    refine q_asg (ρ := spR sp) (R := fun v H' => ∃ M, DS exR H' v (tabD M) ∧ TabOk M ∧ TSort M) (ev_call (ea_cons (ev_var rfl) (ea_cons (ev_var rfl) (ea_cons (ev_var (v := tv) rfl) (ea_cons (ev_var rfl) ea_nil)))) fun H8 e8 Q' q' E' => ⟨ra, sp, tv, z, T, rfl, dr.sp (e27.trans e8), few, tab_any e8 hds7, okT, soT, fun v' M H' e h1 h2 h3 => q' _ H' e ⟨M, h1, h2, h3⟩⟩) fun ov H8 e8 ⟨M, hdo, okM, soM⟩ => ?_
    obtain ⟨nlM, _, smM, dpM⟩ := tab_facts okM soM
    have e28 := e27.trans e8
    have hds8 : DS exR H8 tv (tabD T) := tab_any e8 hds7
    refine q_asg (ρ := spR sp) (R := fun v H' => ∃ p ys rs, v = .ref p ∧ ¬ (spR sp).S p ∧ H' p = some (.lst ys) ∧ FoundB H' T M (T ++ M).length ys rs) (ev_call (ea_cons (ev_var (v := tv) rfl) (ea_cons (ev_var (v := ov) rfl) ea_nil)) fun H9 e9 Q' q' E' => ⟨tv, ov, T, M, rfl, tab_any e9 hds8, tab_any e9 hdo, okT, okM, fun p ys rs H' hp e hy hF => q' _ H' (Ext.r e) ⟨p, ys, rs, rfl, (ow H9 (e28.trans e9)).fresh hp, hy, hF⟩⟩) fun v H9 e9 ⟨p, ys, rs, ev, nS, hys, hF⟩ => ?_
    subst ev
    have e29 := e28.trans e9
    have hds9 : DS exR H9 tv (tabD T) := tab_any e9 hds8
    have hdo9 : DS exR H9 ov (tabD M) := tab_any e9 hdo
    have two : ∀ {σ5 : L2.St} {H10 : Hp}, (spR sp).r H9 H10 → σ5[1]? = some (some (.ref ra)) → σ5[2]? = some (some (.ref sp)) → σ5[4]? = some (some tv) → σ5[6]? = some (some ov) → EvA (spR sp) (tCons (tCall (sp__law_handed K) [] E0 (tCons (tVar 1) (tCons (tVar 2) (tCons (tVar 4) tNil)))) (tCons (tCall (sp__law_handed K) [] E0 (tCons (tVar 1) (tCons (tVar 2) (tCons (tVar 6) tNil)))) tNil)) σ5 H10 (fun vs H' => ∃ x y dx dy, vs = [x, y] ∧ TabR (spR sp) H' x dx T ∧ TabR (spR sp) H' y dy M) := fun {σ5 H10} e a1 a2 a4 a6 =>
      (ea_consR (Ra := fun v H' => ∃ d', DS (spR sp) H' v d' ∧ Mixed (tabD T) d') (Rr := fun x ws H' => ∃ y dx dy, ws = [y] ∧ TabR (spR sp) H' x dx T ∧ TabR (spR sp) H' y dy M) (ev_handed (ev_var a1) (ev_var a2) (ev_var a4) (dr.sp (e29.trans e)) (tab_any e hds9) nlT smT dpT) fun x H11 e11 ⟨dx, hx, mx⟩ => (ea_one (ev_handed (ev_var a1) (ev_var a2) (ev_var a6) (dr.sp (e29.trans (e.trans e11))) (tab_any (e.trans e11) hdo9) nlM smM dpM)).imp fun ws H12 e12 ⟨y, ew, dy, hy, my⟩ => ⟨y, dx, dy, ew, ⟨e12.ds hx, by rw [mixed_sm mx]; exact smT, mx⟩, ⟨hy, by rw [mixed_sm my]; exact smM, my⟩⟩).imp fun vs H12 e12 ⟨x, ws, ev, y, dx, dy, ew, A1, A2⟩ => ⟨x, y, dx, dy, by rw [ev, ew], A1, A2⟩
    have hb : decide ((ys.length : Int) = 0) = true ↔ Gen T M ∧ Gen M T := by
      rw [decide_eq_true_eq, ← eqp_gen okT.costs okM.costs, ← hF.none]
      have := hF.len
      exact ⟨fun h => List.length_eq_zero_iff.mp (by omega), fun h => by rw [h] at this; exact congrArg _ this⟩
    refine q_when (ρ := spR sp) (et_so (y := .bl (decide ((ys.length : Int) = 0))) (d := .bool (decide ((ys.length : Int) = 0))) (ev_callR (sp := sp_is_alike K) (two .rfl rfl rfl rfl rfl) fun vs H10 e10 ⟨x, y, dx, dy, ev, A1, A2⟩ => ?_) (fun H10 e10 => ev_eqI (ev_len (ev_var rfl) fun H11 e11 => .inl (.of ((e10.trans e11).keep _ _ nS hys))) ev_c) (.bl _) (bool_facts _)) (fun hb => by cases hb) fun _ H10 e10 => ?_
    · subst ev
      have hbb : ∀ b : Bool, (b = true ↔ Gen T M ∧ Gen M T) → b = decide ((ys.length : Int) = 0) := fun b hb' => by rw [Bool.eq_iff_iff, hb', hb]
      exact fun H11 e11 Q' q' E' => ⟨x, y, dx, dy, T, M, rfl, A1.tab e11 okT soT, A2.tab e11 okM soM, fun b H' e hb' => q' _ H' (Ext.r e) (by rw [hbb b hb']; exact .bl _)⟩
    · refine q_asgV (ρ := spR sp) (ev_c (v := .non)) fun H11 e11 => ?_
      have e911 := e10.trans e11
      have hys11 : H11 p = some (.lst ys) := e911.keep _ _ nS hys
      have hF11 := hF.r e911
      refine q_any (fun σ' H' => (spR sp).r H11 H' ∧ ∃ (v8 : V) (w9 w10 : Option V), σ' = [some (.ref a), some (.ref ra), some (.ref sp), some (.str z), some tv, some (.int n), some ov, some (.ref p), some v8, w9, w10, u11, u12, u13] ∧ ((v8 = .non ∧ rs = []) ∨ ∃ q s, v8 = .ref q ∧ Tells T M s ∧ s ∈ rs ∧ H' q = some (.tup (rowV s)))) ?_ fun N hN => ?_
      · rintro σ' H12 ⟨r12, v8, w9, w10, rfl, hv8⟩
        have e912 : (spR sp).r H9 H12 := e911.trans r12
        have h2 : ∀ s ∈ rs, s.1.1.length ≤ 2 ∧ s.1.2.1.length ≤ 2 := fun s hs => by
          rcases List.mem_append.mp (hF.odd s hs).1 with h | h
          · have := okT.pc _ h
            omega
          · have := okM.pc _ h
            omega
        obtain ⟨dD, hdD, fD, hun1, hun2, htest⟩ : ∃ dD, DS exR H12 v8 dD ∧ (noList dD = true ∧ soD dD dD = true ∧ sm dD = true ∧ dD.depth < 8) ∧ (∀ H' : Hp, (∀ r ∈ T ++ M, Eqp T M r) → DS exR H' .non dD) ∧ (∀ (H' : Hp) b r, Tells T M r → H' b = some (.tup (rowV r)) → DS exR H' (.ref b) dD) ∧
            ∀ {W X : List Nat} {σ5 : L2.St} {H5 : Hp}, (spR sp).r H12 H5 → σ5[8]? = some (some v8) → σ5[12]? = some (some (.str (S W))) → σ5[13]? = some (some (.str (S X))) → W.length ≤ 300 → X.length ≤ 300 → ∃ b, EvT (spR sp) (tOr (tTest (tOp rIsN (tVar 8) (tC .non))) (tTest (tOp (rCmp K gLt) (tOp (rAddU K) (tCB (rLenU K) (tCons (tVar 12) tNil)) (tCB (rLenU K) (tCons (tVar 13) tNil))) (tOp (rAddU K) (tCB (rLenU K) (tCons (tIxU K (tVar 8) (tC (.int 0))) tNil)) (tCB (rLenU K) (tCons (tIxU K (tVar 8) (tC (.int 1))) tNil)))))) σ5 H5 b ∧ (b = true → ∀ o o', PriceIs T W X o → PriceIs M W X o' → o = o') := by
          rcases hv8 with ⟨rfl, hrs⟩ | ⟨q, s, rfl, ht, hs, hq⟩
          · have hEq := hF.none.mp hrs
            refine ⟨.none, .non, ⟨rfl, rfl, rfl, by decide⟩, fun H' _ => .non, fun H' b r ht _ => ?_, fun {W X σ5 H5} e a8 a12 a13 hW hX => ⟨true, (et_or (a := true) (b := false) ((et_test (ev_isN (ev_var a8))).to rfl) fun z => by cases z).to rfl, fun _ o o' h1 h2 => small_price (n := W.length + X.length + 1) (fun p hp _ => hEq p hp) (by omega) h1 h2⟩⟩
            obtain ⟨o, x1, x2⟩ := hEq r.1 ht.mem
            exact absurd ((ht.odd.1.unique x1).trans (ht.odd.2.1.unique x2).symm) ht.odd.2.2
          · have hl2 := h2 s hs
            refine ⟨rowD s, row_ds hq, row_facts (by omega) (by omega), fun H' hEq => ?_, fun H' b r hr hb => by rw [← (hr.same ht).2.1]; exact row_ds hb, fun {W X σ5 H5} e a8 a12 a13 hW hX => ⟨decide ((W.length : Int) + (X.length : Int) < (s.1.1.length : Int) + (s.1.2.1.length : Int)), ?_, fun hb o o' h1 h2 => ?_⟩⟩
            · obtain ⟨o, x1, x2⟩ := hEq s.1 ht.mem
              exact absurd ((ht.odd.1.unique x1).trans (ht.odd.2.1.unique x2).symm) ht.odd.2.2
            · have sq : ∀ {H1 : Hp}, (spR sp).r H5 H1 → SqA K H1 q (rowV s) := fun e1 => .inr (.inl (.inl ((e.trans e1).tup _ _ hq)))
              exact (et_or (a := false) ((et_test (ev_isN (ev_var a8))).to rfl) fun _ => et_test (ev_lt (ev_add (ev_lenSS (Z := W) (ev_var a12) (by omega)) (ev_lenSS (Z := X) (ev_var a13) (by omega))) (ev_add (ev_lenSS (Z := s.1.1) (ev_ix (n := 0) (xs := rowV s) (ev_var a8) ev_c (fun H1 e1 => sq e1) rfl rfl) (by omega)) (ev_lenSS (Z := s.1.2.1) (ev_ix (n := 1) (xs := rowV s) (ev_var a8) ev_c (fun H1 e1 => sq e1) rfl rfl) (by omega))))).to (by rw [Bool.false_or])
            · have hb' := of_decide_eq_true hb
              exact small_price (n := sizeP s.1) (fun p hp hs => ht.small okT.costs okM.costs p hp hs) (by unfold sizeP; omega) h1 h2
        refine q_when (ρ := spR sp) (et_so (y := v8) (d := dD) (ev_callR (sp := sp_unlike K) (two e912 rfl rfl rfl rfl) fun vs H13 e13 ⟨x, y, dx, dy, ev, A1, A2⟩ => by
          subst ev
          exact fun H14 e14 Q' q' E' => ⟨x, y, dx, dy, T, M, rfl, A1.tab e14 okT soT, A2.tab e14 okM soM, fun H' e hs => q' _ H' (Ext.r e) (hun1 H' hs), fun b r H' e ht hb => q' _ H' (Ext.r e) (hun2 H' b r ht hb)⟩) (fun H13 _ => ev_var rfl) hdD fD) (fun hb => by cases hb) fun _ H13 e13 => ?_
        refine s_for (ρ := spR sp) (n := 3) (Y := YFn fun m => .int ((m : Nat) : Int)) (ei_rng (i := 3) (ea_cons ev_c ea_nil) (by decide) (by decide)) fun H14 e14 => ⟨fun i σ' H' => (spR sp).r H14 H' ∧ ∃ w11 w12 w13 : Option V, σ' = [some (.ref a), some (.ref ra), some (.ref sp), some (.str z), some tv, some (.int n), some ov, some (.ref p), some v8, w9, w10, w11, w12, w13], ⟨.rfl, _, _, _, rfl⟩, fun i σ' H' _ p => p.1, ?_, ?_⟩
        · rintro i x σ' H15 H16 hi ⟨r15, w11, w12, w13, rfl⟩ ⟨e16, rfl⟩
          subst e16
          have e1216 : (spR sp).r H12 H16 := e13.trans (e14.trans r15)
          have e916 := e912.trans e1216
          have dr16 := dr.sp (e29.trans e916)
          have lets : ∀ {s : Str}, (∀ c ∈ s.cps.toList, c ∈ z.cps.toList) → Lets s.cps.toList := fun h c hc => few.low c (h c hc)
          refine q_asg (ρ := spR sp) (R := fun v _ => ∃ W : List Nat, v = .str (S W) ∧ W.length ≤ 5 ∧ Lets W) ((ev_letters (most := 5) (z := z) (ev_var rfl) (ev_var rfl) ev_c (ev_var rfl) dr16 (by decide) (by decide) few.pos (by have := few.le; omega)).imp fun v H17 e17 ⟨s, ev, hsl, hsc⟩ => ⟨s.cps.toList, by rw [s_of]; exact ev, by rw [len_cps]; omega, lets hsc⟩) fun v H17 e17 ⟨W, ev, hW, hLW⟩ => ?_
          subst ev
          have e917 := e916.trans e17
          have dr17 := dr16.sp e17
          have hixL : ∀ {σ5 : L2.St}, σ5[1]? = some (some (.ref ra)) → σ5[2]? = some (some (.ref sp)) → σ5[4]? = some (some tv) → σ5[6]? = some (some ov) → Ev (spR sp) (tIxU K (tLst (tCons (tVar 4) (tCons (tVar 6) tNil))) (tCall (sp__law_take K) [] E0 (tCons (tVar 1) (tCons (tVar 2) (tCons (tC (.int 2)) tNil))))) σ5 H17 (fun v _ => ∃ m : Nat, ([tv, ov] : List V)[m]? = some v) := fun a1 a2 a4 a6 =>
            ev_ixNew (ρ := spR sp) (K := K) (H := H17) (xs := [tv, ov]) (ev_lstN (own_sp dr17) (ea_cons (ev_var a4) (ea_cons (ev_var a6) ea_nil)) (by show 2 ≤ 100000; decide)) (fun H9 e9 => ev_take (E := E0) (ta := tVar 1) (tb := tVar 2) (tc := tC (.int 2)) (lim := (([tv, ov].length : Nat) : Int)) (ev_var a1) (ev_var a2) ev_c (dr17.sp e9) (by show (0 : Int) < 2; decide))
          refine q_asg (ρ := spR sp) (R := fun v _ => ∃ X : List Nat, v = .str (S X) ∧ X.length ≤ 80 ∧ Lets X) (ev_callR (sp := sp__law_misspelt K) ((ea_consP (Pa := fun v => v = .ref ra) (ev_var rfl) (ea_consP (Pa := fun v => v = .ref sp) (ev_var rfl) (ea_consP (Pr := fun ws => ws = [.str (S W), .int 20]) (hixL rfl rfl rfl rfl) (ea_cons (ev_var rfl) (ea_cons ev_c ea_nil))))).imp (Rr' := fun vs _ => ∃ (v : V) (T' : List Pc), vs = [.ref ra, .ref sp, v, .str (S W), .int 20] ∧ DS exR H9 v (tabD T') ∧ TabOk T') fun vs H1 _ ⟨x, ws, e1, ex, y, ws', e2, ey, u, ws'', e3, ⟨m', hm'⟩, e4⟩ => by
              subst e1 ex e2 ey e3 e4
              match m', hm' with
              | 0, h => cases h; exact ⟨_, T, rfl, hds9, okT⟩
              | 1, h => cases h; exact ⟨_, M, rfl, hdo9, okM⟩) fun vs H18 e18 ⟨v, T', ev, hd', ok'⟩ => ?_) fun v H18 e18 ⟨X, ev, hX, hLX⟩ => ?_
          · subst ev
            exact fun H19 e19 Q' q' E' => ⟨ra, sp, v, T', W, 20, rfl, dr17.sp (e18.trans e19), tab_any (e917.trans (e18.trans e19)) hd', ok', by omega, hLW, fun Z H' e hz hL => q' _ H' e ⟨Z, rfl, hz, hL⟩⟩
          subst ev
          have e1218 := e1216.trans (e17.trans e18)
          have hds18 : DS exR H18 tv (tabD T) := tab_any (e912.trans e1218) hds9
          have hdo18 : DS exR H18 ov (tabD M) := tab_any (e912.trans e1218) hdo9
          obtain ⟨b, ht, hsame⟩ := htest (W := W) (X := X) (σ5 := [some (.ref a), some (.ref ra), some (.ref sp), some (.str z), some tv, some (.int n), some ov, some (.ref p), some v8, w9, w10, some (.int (i : Nat)), some (.str (S W)), some (.str (S X))]) (H5 := H18) e1218 rfl rfl rfl (by omega) (by omega)
          have e1418 : (spR sp).r H14 H18 := r15.trans (e17.trans e18)
          refine s_if (ρ := spR sp) ht (fun hb H19 e19 => ?_) fun _ H19 e19 => ⟨e1418.trans e19, _, _, _, rfl⟩
          obtain ⟨o, ho⟩ := price_some okT.costs W X
          obtain ⟨o', ho'⟩ := price_some okM.costs W X
          have := hsame hb o o' ho ho'
          subst this
          have hds19 : DS exR H19 tv (tabD T) := tab_any e19 hds18
          have hdo19 : DS exR H19 ov (tabD M) := tab_any e19 hdo18
          refine q_when (ρ := spR sp) (b := false) ((et_test (ev_neV (ev_lp (v := tv) (W := W) (X := X) (o := o) (ev_var rfl) (ev_var rfl) (ev_var rfl) hds19 okT (by omega) (by omega) ho) (ev_lp (v := ov) (W := W) (X := X) (o := o) (ev_var rfl) (ev_var rfl) (ev_var rfl) hdo19 okM (by omega) (by omega) ho') (scal_opt o o))).to (by rw [decide_eq_true rfl]; rfl)) (fun hb => by cases hb) fun _ H20 e20 => ?_
          have hds20 : DS exR H20 tv (tabD T) := tab_any e20 hds19
          have hdo20 : DS exR H20 ov (tabD M) := tab_any e20 hdo19
          have fo : noList (optD o) = true ∧ soD (optD o) (optD o) = true ∧ sm (optD o) = true ∧ (optD o).depth < 8 := by
            refine ⟨nl_opt o, so_opt o, sm_opt o, ?_⟩
            cases o <;> (show 0 < 8; decide)
          refine s_if (ρ := spR sp) (b := false) ((et_and (b := false) (et_test (ev_lt (ev_lenSS (Z := X) (ev_var rfl) (by omega)) ev_c)) fun _ => et_so (y := optI o) (d := optD o) ((ev_pr (v := ov) (W := W) (X := X) (o := o) (ev_var rfl) (ev_var rfl) (ev_var rfl) hdo20 okM soM hLW hLX (by omega) (by omega) ho').imp fun v H21 _ ev => by rw [ev]; exact opt_ds o) (fun H21 e21 => ev_lp (v := tv) (W := W) (X := X) (o := o) (ev_var rfl) (ev_var rfl) (ev_var rfl) (tab_any e21 hds20) okT (by omega) (by omega) ho) (opt_ds o) fo).to (by rw [Bool.and_false])) (fun hb => by cases hb) fun _ H21 e21 => ⟨e1418.trans (e19.trans (e20.trans e21)), _, _, _, rfl⟩
        · rintro σ' H15 ⟨r15, w11, w12, w13, rfl⟩
          exact ⟨r.trans (e8.trans (e9.trans (e912.trans (e13.trans (e14.trans r15))))), _, _, _, _, _, _, _, _, _, rfl⟩
      · refine s_if (ρ := spR sp) (et_test (ev_gt (ev_len (ev_var rfl) fun H12 e12 => .inl (.of (e12.keep _ _ nS hys11))) ev_c)) (fun hb H12 e12 => ?_) fun hb H12 e12 => hN _ _ ⟨e12, .non, _, _, rfl, .inl ⟨rfl, ?_⟩⟩
        · have h0 : 0 < ys.length := by have : (0 : Int) < (ys.length : Int) := of_decide_eq_true hb; omega
          have hF12 := hF11.r e12
          have hlen := hF12.len
          obtain ⟨b0, hy0, hb0⟩ := hF12.at_ 0 rs[0] (List.getElem?_eq_getElem (by omega))
          have hys12 : H12 p = some (.lst ys) := e12.keep _ _ nS hys11
          have sqp : ∀ {H1 : Hp}, (spR sp).r H12 H1 → SqL K H1 p ys := fun e => .of (e.keep _ _ nS hys12)
          refine q_asgV (ρ := spR sp) (ev_ix (n := 0) (xs := ys) (v := .ref b0) (ev_var rfl) ev_c (fun H1 e1 => .inl (sqp e1)) rfl hy0) fun H13 e13 => ?_
          have al : ∀ p q : Pc, PySem.W.alike (.tuple (sizeL p)) (.tuple (sizeL q)) = true := fun p q => by simp [sizeL, PySem.W.alike, PySem.W.alikeAll]
          refine q_for (ρ := spR sp) (ei_seq (a := p) (xs := ys) (ev_var rfl) (fun H1 e1 => .inl (sqp (e13.trans e1))) (.inl fun H1 e1 => sqp (e13.trans e1))) fun H14 e14 => ⟨fun i σ' H' => (spR sp).r H14 H' ∧ ∃ (b : Addr) (s : Rw) (w10 : Option V), σ' = [some (.ref a), some (.ref ra), some (.ref sp), some (.str z), some tv, some (.int n), some ov, some (.ref p), some .non, some (.ref b), w10, u11, u12, u13] ∧ s ∈ rs ∧ H' b = some (.tup (rowW s)) ∧ ∀ (j : Nat) s', j < i → rs[j]? = some s' → PySem.W.dataLt (sizeD s'.1) (sizeD s.1) = false, ⟨.rfl, b0, rs[0], _, rfl, List.getElem_mem _, (e13.trans e14).tup _ _ hb0, fun j s' hj => absurd hj (Nat.not_lt_zero _)⟩, fun i σ' H' _ p => p.1, ?_, ?_⟩
          · rintro i x σ' H15 H16 hi ⟨r15, b, s, w10, rfl, hs, hbs, hmin⟩ ⟨e16, hx⟩
            subst e16
            have hir : i < rs.length := by omega
            obtain ⟨bi, hyi, hbi⟩ := hF12.at_ i rs[i] (List.getElem?_eq_getElem hir)
            rw [hx] at hyi
            cases hyi
            have hbi16 := (e13.trans (e14.trans r15)).tup _ _ hbi
            have sl : ∀ {j : Nat} {v : V} {q : Rw} {σ5 : L2.St} {H17 : Hp}, σ5[j]? = some (some v) → DS (spR sp) H17 v (.tuple (rowE q)) → Ev (spR sp) (tSl (rSlU K) (tVar j) tNoPart (tPart (tC (.int 5)))) σ5 H17 (fun v H' => DS (spR sp) H' v (.tuple (sizeL q.1))) := fun {j v q σ5 H17} a1 hd =>
              (ev_slD (ρf := spR sp) Le.rfl (ev_var a1) eo_none (eo_some (i := ((5 : Nat) : Int)) ev_c) hd).imp fun v H1 e1 hv => by rw [cutD_to] at hv; exact hv
            refine s_if (ρ := spR sp) (et_test (ev_cmpDD (g := gLt) (d := .tuple (sizeL rs[i].1)) (e := .tuple (sizeL s.1)) (sl (v := .ref bi) rfl (rowE_ds hbi16)) (fun H17 e17 => sl (v := .ref b) rfl (rowE_ds (e17.tup _ _ hbs))) (al _ _) (fun z => by cases z) (by simp [sizeL, PyData.depth, PyData.depthAll]))) (fun hlt H17 e17 => ?_) fun hlt H17 e17 => ?_
            · have hlt' : PySem.W.dataLt (sizeD rs[i].1) (sizeD s.1) = true := hlt
              refine s_asgV (ρ := spR sp) (ev_var (v := .ref bi) rfl) fun H18 e18 => ⟨r15.trans (e17.trans e18), bi, rs[i], _, rfl, List.getElem_mem _, (e17.trans e18).tup _ _ hbi16, fun j s' hj hs' => ?_⟩
              by_cases zj : j = i
              · subst zj
                rw [List.getElem?_eq_getElem hir] at hs'
                cases hs'
                exact lt_irr _
              · cases q : PySem.W.dataLt (sizeD s'.1) (sizeD rs[i].1) with
                | false => rfl
                | true =>
                  have := hmin j s' (by omega) hs'
                  rw [lt_trans q hlt'] at this
                  cases this
            · have hlt' : PySem.W.dataLt (sizeD rs[i].1) (sizeD s.1) = false := hlt
              refine ⟨r15.trans e17, b, s, _, rfl, hs, e17.tup _ _ hbs, fun j s' hj hs' => ?_⟩
              by_cases zj : j = i
              · subst zj
                rw [List.getElem?_eq_getElem hir] at hs'
                cases hs'
                exact hlt'
              · exact hmin j s' (by omega) hs'
          · rintro σ' H15 ⟨r15, b, s, w10, rfl, hs, hbs, hmin⟩
            rw [hlen] at hmin
            have ix : ∀ {m : Nat} {v : V} {σ5 : L2.St} {H17 : Hp}, (spR sp).r H15 H17 → σ5[9]? = some (some (.ref b)) → (rowW s)[m]? = some v → EvV (spR sp) (tIxU K (tVar 9) (tC (.int (m : Nat)))) σ5 H17 v := fun {m v σ5 H17} e a1 hm => ev_ix (n := m) (xs := rowW s) (ev_var a1) ev_c (fun H1 e1 => .inr (.inl (.inl ((e.trans e1).tup _ _ hbs)))) rfl hm
            refine s_asg (ρ := spR sp) (i := 8) (R := fun v H' => ∃ q, v = .ref q ∧ H' q = some (.tup (rowV s))) ((ev_tup (ea_cons (ix (m := 2) .rfl rfl rfl) (ea_cons (ix (m := 4) .rfl rfl rfl) (ea_cons (ix (m := 5) .rfl rfl rfl) (ea_cons (ix (m := 6) .rfl rfl rfl) ea_nil)))) fun vs H1 _ e => by rw [e]; show 4 ≤ 100000; decide).imp fun v H1 _ ⟨q, vs, H2', ev, evs, hc, _, eH⟩ => ⟨q, ev, by rw [eH, evs]; exact upd_same⟩) fun v H16 e16 ⟨q, ev, hq⟩ => ?_
            subst ev
            exact hN _ _ ⟨e12.trans (e13.trans (e14.trans (r15.trans e16))), .ref q, _, _, rfl, .inr ⟨q, s, rfl, hF.tells hs hmin, hs, hq⟩⟩
        · have := hF.len
          have h0 : ¬ (0 < (ys.length : Int)) := of_decide_eq_false hb
          exact List.length_eq_zero_iff.mp (by omega)
  · rintro σ' H6 ⟨r, u5, u6, u7, u8, u9, u10, u11, u12, u13, rfl⟩
    exact s_retV (ρ := exR) ev_c fun H7 e7 => k H7
end Slip
namespace K07
open PySem PySem.Spec PyProof.Rows L2 Slip
theorem no__law_so {K : Frag} {vs : List V} {H : Hp} {Q : VK} {E : XK} : ¬ sp__law_so K 0 vs H Q E := fun ⟨_, _, _, _, _, _, _, _, h, _⟩ => absurd h (Nat.not_lt_zero _)
theorem no__law_listed {K : Frag} {vs : List V} {H : Hp} {Q : VK} {E : XK} : ¬ sp__law_listed K 0 vs H Q E := fun ⟨_, _, _, _, _, _, _, h, _⟩ => absurd h (Nat.not_lt_zero _)
theorem no__law_levels {K : Frag} {vs : List V} {H : Hp} {Q : VK} {E : XK} : ¬ sp__law_levels K 0 vs H Q E := fun ⟨_, _, _, _, _, _, _, _, _, _, _, _, h, _⟩ => absurd h (Nat.not_lt_zero _)
def top (i : Nat) : Stmt := PySem.Challenge.pw_slipworth_k07_whole_tables_alike.main.body.getD i (.Pass ⟨0, 0, 0, 0⟩)
abbrev st_check_arguments : Stmt := top 6
abbrev st_is_whole : Stmt := top 7
abbrev st_is_sequence : Stmt := top 8
abbrev st_is_triple : Stmt := top 9
abbrev st_is_word : Stmt := top 10
abbrev st_is_short : Stmt := top 11
abbrev st_is_rising : Stmt := top 12
abbrev st_is_table : Stmt := top 17
abbrev st_is_fault : Stmt := top 18
abbrev st_is_piece : Stmt := top 19
abbrev st_price : Stmt := top 20
abbrev st_pieces_along : Stmt := top 21
abbrev st_pieces_at : Stmt := top 22
abbrev st_best_ways : Stmt := top 23
abbrev st_is_alike : Stmt := top 25
abbrev st_unlike : Stmt := top 26
abbrev st_size_of : Stmt := top 27
abbrev st__law_so : Stmt := top 29
abbrev st__law_numbers : Stmt := top 30
abbrev st__law_draw : Stmt := top 31
abbrev st__law_take : Stmt := top 32
abbrev st__law_listed : Stmt := top 33
abbrev st__law_handed : Stmt := top 34
abbrev st__law_levels : Stmt := top 35
abbrev st__law_pick : Stmt := top 36
abbrev st__law_price_rows : Stmt := top 37
abbrev st__law_price : Stmt := top 38
abbrev st__law_letters : Stmt := top 39
abbrev st__law_few : Stmt := top 40
abbrev st__law_table : Stmt := top 41
abbrev st__law_misspelt : Stmt := top 42
abbrev st__law_other_table : Stmt := top 43
abbrev st__law_differ : Stmt := top 44
abbrev st_law : Stmt := top 45
abbrev names_check_arguments : List Str := ["fits", "at", "fit"]
theorem sc_check_arguments : FnScope names_check_arguments ["fits"] (defScope st_check_arguments) := ⟨rfl, rfl, rfl, by decide +kernel, rfl, by decide +kernel, by decide +kernel⟩
abbrev names_is_whole : List Str := ["value", "low", "high"]
theorem sc_is_whole : FnScope names_is_whole ["value", "low", "high"] (defScope st_is_whole) := ⟨rfl, rfl, rfl, by decide +kernel, rfl, by decide +kernel, by decide +kernel⟩
abbrev names_is_sequence : List Str := ["value"]
theorem sc_is_sequence : FnScope names_is_sequence ["value"] (defScope st_is_sequence) := ⟨rfl, rfl, rfl, by decide +kernel, rfl, by decide +kernel, by decide +kernel⟩
abbrev names_is_triple : List Str := ["value"]
theorem sc_is_triple : FnScope names_is_triple ["value"] (defScope st_is_triple) := ⟨rfl, rfl, rfl, by decide +kernel, rfl, by decide +kernel, by decide +kernel⟩
abbrev names_is_word : List Str := ["value", "letter"]
theorem sc_is_word : FnScope names_is_word ["value"] (defScope st_is_word) := ⟨rfl, rfl, rfl, by decide +kernel, rfl, by decide +kernel, by decide +kernel⟩
abbrev names_is_short : List Str := ["value", "most"]
theorem sc_is_short : FnScope names_is_short ["value", "most"] (defScope st_is_short) := ⟨rfl, rfl, rfl, by decide +kernel, rfl, by decide +kernel, by decide +kernel⟩
abbrev names_is_rising : List Str := ["rows", "at"]
theorem sc_is_rising : FnScope names_is_rising ["rows"] (defScope st_is_rising) := ⟨rfl, rfl, rfl, by decide +kernel, rfl, by decide +kernel, by decide +kernel⟩
abbrev names_is_table : List Str := ["value", "fault"]
theorem sc_is_table : FnScope names_is_table ["value"] (defScope st_is_table) := ⟨rfl, rfl, rfl, by decide +kernel, rfl, by decide +kernel, by decide +kernel⟩
abbrev names_is_fault : List Str := ["value", "meant", "written", "cost"]
theorem sc_is_fault : FnScope names_is_fault ["value"] (defScope st_is_fault) := ⟨rfl, rfl, rfl, by decide +kernel, rfl, by decide +kernel, by decide +kernel⟩
abbrev names_is_piece : List Str := ["value"]
theorem sc_is_piece : FnScope names_is_piece ["value"] (defScope st_is_piece) := ⟨rfl, rfl, rfl, by decide +kernel, rfl, by decide +kernel, by decide +kernel⟩
abbrev names_price : List Str := ["table", "word", "text", "best", "goal"]
theorem sc_price : FnScope names_price ["table", "word", "text"] (defScope st_price) := ⟨rfl, rfl, rfl, by decide +kernel, rfl, by decide +kernel, by decide +kernel⟩
abbrev names_pieces_along : List Str := ["table", "word", "at"]
theorem sc_pieces_along : FnScope names_pieces_along ["table", "word"] (defScope st_pieces_along) := ⟨rfl, rfl, rfl, by decide +kernel, rfl, by decide +kernel, by decide +kernel⟩
abbrev names_pieces_at : List Str := ["table", "word", "at", "kept", "faults", "letter", "meant", "written", "cost"]
theorem sc_pieces_at : FnScope names_pieces_at ["table", "word", "at"] (defScope st_pieces_at) := ⟨rfl, rfl, rfl, by decide +kernel, rfl, by decide +kernel, by decide +kernel⟩
abbrev names_best_ways : List Str := ["table", "word", "text", "pieces", "best", "queue", "total", "at", "to", "last", "piece", "meant", "written", "cost"]
theorem sc_best_ways : FnScope names_best_ways ["table", "word", "text"] (defScope st_best_ways) := ⟨rfl, rfl, rfl, by decide +kernel, rfl, by decide +kernel, by decide +kernel⟩
abbrev names_is_alike : List Str := ["one", "other"]
theorem sc_is_alike : FnScope names_is_alike ["one", "other"] (defScope st_is_alike) := ⟨rfl, rfl, rfl, by decide +kernel, rfl, by decide +kernel, by decide +kernel⟩
abbrev names_unlike : List Str := ["one", "other", "found", "word", "text", "_", "first", "second"]
theorem sc_unlike : FnScope names_unlike ["one", "other"] (defScope st_unlike) := ⟨rfl, rfl, rfl, by decide +kernel, rfl, by decide +kernel, by decide +kernel⟩
abbrev names_size_of : List Str := ["row", "word", "text"]
theorem sc_size_of : FnScope names_size_of ["row"] (defScope st_size_of) := ⟨rfl, rfl, rfl, by decide +kernel, rfl, by decide +kernel, by decide +kernel⟩
abbrev names__law_so : List Str := ["found", "wanted", "k"]
theorem sc__law_so : FnScope names__law_so ["found", "wanted"] (defScope st__law_so) := ⟨rfl, rfl, rfl, by decide +kernel, rfl, by decide +kernel, by decide +kernel⟩
abbrev names__law_numbers : List Str := ["script", "row", "cell", "left", "k", "mixed"]
theorem sc__law_numbers : FnScope names__law_numbers ["script"] (defScope st__law_numbers) := ⟨rfl, rfl, rfl, by decide +kernel, rfl, by decide +kernel, by decide +kernel⟩
abbrev names__law_draw : List Str := ["row", "at", "limit", "mixed"]
theorem sc__law_draw : FnScope names__law_draw ["row", "at", "limit"] (defScope st__law_draw) := ⟨rfl, rfl, rfl, by decide +kernel, rfl, by decide +kernel, by decide +kernel⟩
abbrev names__law_take : List Str := ["row", "spot", "limit"]
theorem sc__law_take : FnScope names__law_take ["row", "spot", "limit"] (defScope st__law_take) := ⟨rfl, rfl, rfl, by decide +kernel, rfl, by decide +kernel, by decide +kernel⟩
abbrev names__law_listed : List Str := ["value", "one"]
theorem sc__law_listed : FnScope names__law_listed ["value"] (defScope st__law_listed) := ⟨rfl, rfl, rfl, by decide +kernel, rfl, by decide +kernel, by decide +kernel⟩
abbrev names__law_handed : List Str := ["row", "spot", "value", "kind"]
theorem sc__law_handed : FnScope names__law_handed ["row", "spot", "value"] (defScope st__law_handed) := ⟨rfl, rfl, rfl, by decide +kernel, rfl, by decide +kernel, by decide +kernel⟩
abbrev names__law_levels : List Str := ["row", "spot", "value", "made", "one"]
theorem sc__law_levels : FnScope names__law_levels ["row", "spot", "value"] (defScope st__law_levels) := ⟨rfl, rfl, rfl, by decide +kernel, rfl, by decide +kernel, by decide +kernel⟩
abbrev names__law_pick : List Str := ["row", "spot", "things"]
theorem sc__law_pick : FnScope names__law_pick ["row", "spot", "things"] (defScope st__law_pick) := ⟨rfl, rfl, rfl, by decide +kernel, rfl, by decide +kernel, by decide +kernel⟩
abbrev names__law_price_rows : List Str := ["table", "word", "text", "made", "total", "i", "j", "here", "steps", "one", "at"]
theorem sc__law_price_rows : FnScope names__law_price_rows ["table", "word", "text"] (defScope st__law_price_rows) := ⟨rfl, rfl, rfl, by decide +kernel, rfl, by decide +kernel, by decide +kernel⟩
abbrev names__law_price : List Str := ["table", "word", "text", "made"]
theorem sc__law_price : FnScope names__law_price ["table", "word", "text"] (defScope st__law_price) := ⟨rfl, rfl, rfl, by decide +kernel, rfl, by decide +kernel, by decide +kernel⟩
abbrev names__law_letters : List Str := ["row", "spot", "most", "few", "made", "k"]
theorem sc__law_letters : FnScope names__law_letters ["row", "spot", "most", "few"] (defScope st__law_letters) := ⟨rfl, rfl, rfl, by decide +kernel, rfl, by decide +kernel, by decide +kernel⟩
abbrev names__law_few : List Str := ["row", "spot", "sizes", "size", "made", "k"]
theorem sc__law_few : FnScope names__law_few ["row", "spot", "sizes"] (defScope st__law_few) := ⟨rfl, rfl, rfl, by decide +kernel, rfl, by decide +kernel, by decide +kernel⟩
abbrev names__law_table : List Str := ["row", "spot", "many", "few", "held", "k", "kind", "one", "other"]
theorem sc__law_table : FnScope names__law_table ["row", "spot", "many", "few"] (defScope st__law_table) := ⟨rfl, rfl, rfl, by decide +kernel, rfl, by decide +kernel, by decide +kernel⟩
abbrev names__law_misspelt : List Str := ["row", "spot", "table", "word", "most", "made", "i", "left", "k", "steps", "one"]
theorem sc__law_misspelt : FnScope names__law_misspelt ["row", "spot", "table", "word", "most"] (defScope st__law_misspelt) := ⟨rfl, rfl, rfl, by decide +kernel, rfl, by decide +kernel, by decide +kernel⟩
abbrev names__law_other_table : List Str := ["row", "spot", "table", "few", "kind", "held", "one", "again", "other", "key", "made"]
theorem sc__law_other_table : FnScope names__law_other_table ["row", "spot", "table", "few"] (defScope st__law_other_table) := ⟨rfl, rfl, rfl, by decide +kernel, rfl, by decide +kernel, by decide +kernel⟩
abbrev names__law_differ : List Str := ["one", "other", "found", "fault", "first", "second"]
theorem sc__law_differ : FnScope names__law_differ ["one", "other"] (defScope st__law_differ) := ⟨rfl, rfl, rfl, by decide +kernel, rfl, by decide +kernel, by decide +kernel⟩
abbrev names_law : List Str := ["script", "row", "spot", "few", "table", "again", "other", "found", "due", "best", "one", "turns", "word", "text"]
theorem sc_law : FnScope names_law ["script"] (defScope st_law) := ⟨rfl, rfl, rfl, by decide +kernel, rfl, by decide +kernel, by decide +kernel⟩
structure Env (K : Frag) (mg : Str → Option Value) : Type where
  d_check_arguments : FuncData
  F_check_arguments : FnP K "check_arguments" st_check_arguments (He.ga K "check_arguments") d_check_arguments
  g_check_arguments : mg "check_arguments" = some (.ref (He.ga K "check_arguments"))
  d_is_whole : FuncData
  F_is_whole : FnP K "is_whole" st_is_whole (He.ga K "is_whole") d_is_whole
  g_is_whole : mg "is_whole" = some (.ref (He.ga K "is_whole"))
  d_is_sequence : FuncData
  F_is_sequence : FnP K "is_sequence" st_is_sequence (He.ga K "is_sequence") d_is_sequence
  g_is_sequence : mg "is_sequence" = some (.ref (He.ga K "is_sequence"))
  d_is_triple : FuncData
  F_is_triple : FnP K "is_triple" st_is_triple (He.ga K "is_triple") d_is_triple
  g_is_triple : mg "is_triple" = some (.ref (He.ga K "is_triple"))
  d_is_word : FuncData
  F_is_word : FnP K "is_word" st_is_word (He.ga K "is_word") d_is_word
  g_is_word : mg "is_word" = some (.ref (He.ga K "is_word"))
  d_is_short : FuncData
  F_is_short : FnP K "is_short" st_is_short (He.ga K "is_short") d_is_short
  g_is_short : mg "is_short" = some (.ref (He.ga K "is_short"))
  d_is_rising : FuncData
  F_is_rising : FnP K "is_rising" st_is_rising (He.ga K "is_rising") d_is_rising
  g_is_rising : mg "is_rising" = some (.ref (He.ga K "is_rising"))
  d_is_table : FuncData
  F_is_table : FnP K "is_table" st_is_table (He.ga K "is_table") d_is_table
  g_is_table : mg "is_table" = some (.ref (He.ga K "is_table"))
  d_is_fault : FuncData
  F_is_fault : FnP K "is_fault" st_is_fault (He.ga K "is_fault") d_is_fault
  g_is_fault : mg "is_fault" = some (.ref (He.ga K "is_fault"))
  d_is_piece : FuncData
  F_is_piece : FnP K "is_piece" st_is_piece (He.ga K "is_piece") d_is_piece
  g_is_piece : mg "is_piece" = some (.ref (He.ga K "is_piece"))
  d_price : FuncData
  F_price : FnP K "price" st_price (He.ga K "price") d_price
  g_price : mg "price" = some (.ref (He.ga K "price"))
  d_pieces_along : FuncData
  F_pieces_along : FnP K "pieces_along" st_pieces_along (He.ga K "pieces_along") d_pieces_along
  g_pieces_along : mg "pieces_along" = some (.ref (He.ga K "pieces_along"))
  d_pieces_at : FuncData
  F_pieces_at : FnP K "pieces_at" st_pieces_at (He.ga K "pieces_at") d_pieces_at
  g_pieces_at : mg "pieces_at" = some (.ref (He.ga K "pieces_at"))
  d_best_ways : FuncData
  F_best_ways : FnP K "best_ways" st_best_ways (He.ga K "best_ways") d_best_ways
  g_best_ways : mg "best_ways" = some (.ref (He.ga K "best_ways"))
  d_is_alike : FuncData
  F_is_alike : FnP K "is_alike" st_is_alike (He.ga K "is_alike") d_is_alike
  g_is_alike : mg "is_alike" = some (.ref (He.ga K "is_alike"))
  d_unlike : FuncData
  F_unlike : FnP K "unlike" st_unlike (He.ga K "unlike") d_unlike
  g_unlike : mg "unlike" = some (.ref (He.ga K "unlike"))
  d_size_of : FuncData
  F_size_of : FnP K "size_of" st_size_of (He.ga K "size_of") d_size_of
  g_size_of : mg "size_of" = some (.ref (He.ga K "size_of"))
  d__law_so : FuncData
  F__law_so : FnP K "_law_so" st__law_so (He.ga K "_law_so") d__law_so
  g__law_so : mg "_law_so" = some (.ref (He.ga K "_law_so"))
  d__law_numbers : FuncData
  F__law_numbers : FnP K "_law_numbers" st__law_numbers (He.ga K "_law_numbers") d__law_numbers
  g__law_numbers : mg "_law_numbers" = some (.ref (He.ga K "_law_numbers"))
  d__law_draw : FuncData
  F__law_draw : FnP K "_law_draw" st__law_draw (He.ga K "_law_draw") d__law_draw
  g__law_draw : mg "_law_draw" = some (.ref (He.ga K "_law_draw"))
  d__law_take : FuncData
  F__law_take : FnP K "_law_take" st__law_take (He.ga K "_law_take") d__law_take
  g__law_take : mg "_law_take" = some (.ref (He.ga K "_law_take"))
  d__law_listed : FuncData
  F__law_listed : FnP K "_law_listed" st__law_listed (He.ga K "_law_listed") d__law_listed
  g__law_listed : mg "_law_listed" = some (.ref (He.ga K "_law_listed"))
  d__law_handed : FuncData
  F__law_handed : FnP K "_law_handed" st__law_handed (He.ga K "_law_handed") d__law_handed
  g__law_handed : mg "_law_handed" = some (.ref (He.ga K "_law_handed"))
  d__law_levels : FuncData
  F__law_levels : FnP K "_law_levels" st__law_levels (He.ga K "_law_levels") d__law_levels
  g__law_levels : mg "_law_levels" = some (.ref (He.ga K "_law_levels"))
  d__law_pick : FuncData
  F__law_pick : FnP K "_law_pick" st__law_pick (He.ga K "_law_pick") d__law_pick
  g__law_pick : mg "_law_pick" = some (.ref (He.ga K "_law_pick"))
  d__law_price_rows : FuncData
  F__law_price_rows : FnP K "_law_price_rows" st__law_price_rows (He.ga K "_law_price_rows") d__law_price_rows
  g__law_price_rows : mg "_law_price_rows" = some (.ref (He.ga K "_law_price_rows"))
  d__law_price : FuncData
  F__law_price : FnP K "_law_price" st__law_price (He.ga K "_law_price") d__law_price
  g__law_price : mg "_law_price" = some (.ref (He.ga K "_law_price"))
  d__law_letters : FuncData
  F__law_letters : FnP K "_law_letters" st__law_letters (He.ga K "_law_letters") d__law_letters
  g__law_letters : mg "_law_letters" = some (.ref (He.ga K "_law_letters"))
  d__law_few : FuncData
  F__law_few : FnP K "_law_few" st__law_few (He.ga K "_law_few") d__law_few
  g__law_few : mg "_law_few" = some (.ref (He.ga K "_law_few"))
  d__law_table : FuncData
  F__law_table : FnP K "_law_table" st__law_table (He.ga K "_law_table") d__law_table
  g__law_table : mg "_law_table" = some (.ref (He.ga K "_law_table"))
  d__law_misspelt : FuncData
  F__law_misspelt : FnP K "_law_misspelt" st__law_misspelt (He.ga K "_law_misspelt") d__law_misspelt
  g__law_misspelt : mg "_law_misspelt" = some (.ref (He.ga K "_law_misspelt"))
  d__law_other_table : FuncData
  F__law_other_table : FnP K "_law_other_table" st__law_other_table (He.ga K "_law_other_table") d__law_other_table
  g__law_other_table : mg "_law_other_table" = some (.ref (He.ga K "_law_other_table"))
  d__law_differ : FuncData
  F__law_differ : FnP K "_law_differ" st__law_differ (He.ga K "_law_differ") d__law_differ
  g__law_differ : mg "_law_differ" = some (.ref (He.ga K "_law_differ"))
  d_law : FuncData
  F_law : FnP K "law" st_law (He.ga K "law") d_law
  g_law : mg "law" = some (.ref (He.ga K "law"))
  c_GREATEST_FAULT : ∃ t, mg "GREATEST_FAULT" = some (.int 9 t)
  c_LETTERS : ∃ t, mg "LETTERS" = some (.str "abcdef" t)
  c_MOST_FAULTS : ∃ t, mg "MOST_FAULTS" = some (.int 8 t)
  c_MOST_IN_PIECE : ∃ t, mg "MOST_IN_PIECE" = some (.int 2 t)
  z_all : mg "all" = none
  z_bool : mg "bool" = none
  z_enumerate : mg "enumerate" = none
  z_int : mg "int" = none
  z_isinstance : mg "isinstance" = none
  z_len : mg "len" = none
  z_list : mg "list" = none
  z_max : mg "max" = none
  z_min : mg "min" = none
  z_range : mg "range" = none
  z_sorted : mg "sorted" = none
  z_str : mg "str" = none
  z_tuple : mg "tuple" = none
  i_heappop : mg "heappop" = some (.builtin "_heapq.heappop")
  i_heappush : mg "heappush" = some (.builtin "_heapq.heappush")
section
variable {K : Frag} {mg : Str → Option Value} {P : Program} {w : World} {base : Heap}
theorem Env.b_check_arguments (E : Env K mg) : Binds K E.d_check_arguments ["fits"] [] := FunD.bindsN E.F_check_arguments fun _ _ _ _ _ _ us hl => match us, hl with | [_], _ => rfl
theorem Env.b_is_whole (E : Env K mg) : Binds K E.d_is_whole ["value", "low", "high"] [] := FunD.bindsN E.F_is_whole fun _ _ _ _ _ _ us hl => match us, hl with | [_, _, _], _ => rfl
theorem Env.b_is_sequence (E : Env K mg) : Binds K E.d_is_sequence ["value"] [] := FunD.bindsN E.F_is_sequence fun _ _ _ _ _ _ us hl => match us, hl with | [_], _ => rfl
theorem Env.b_is_triple (E : Env K mg) : Binds K E.d_is_triple ["value"] [] := FunD.bindsN E.F_is_triple fun _ _ _ _ _ _ us hl => match us, hl with | [_], _ => rfl
theorem Env.b_is_word (E : Env K mg) : Binds K E.d_is_word ["value"] [] := FunD.bindsN E.F_is_word fun _ _ _ _ _ _ us hl => match us, hl with | [_], _ => rfl
theorem Env.b_is_short (E : Env K mg) : Binds K E.d_is_short ["value", "most"] [] := FunD.bindsN E.F_is_short fun _ _ _ _ _ _ us hl => match us, hl with | [_, _], _ => rfl
theorem Env.b_is_rising (E : Env K mg) : Binds K E.d_is_rising ["rows"] [] := FunD.bindsN E.F_is_rising fun _ _ _ _ _ _ us hl => match us, hl with | [_], _ => rfl
theorem Env.b_is_table (E : Env K mg) : Binds K E.d_is_table ["value"] [] := FunD.bindsN E.F_is_table fun _ _ _ _ _ _ us hl => match us, hl with | [_], _ => rfl
theorem Env.b_is_fault (E : Env K mg) : Binds K E.d_is_fault ["value"] [] := FunD.bindsN E.F_is_fault fun _ _ _ _ _ _ us hl => match us, hl with | [_], _ => rfl
theorem Env.b_is_piece (E : Env K mg) : Binds K E.d_is_piece ["value"] [] := FunD.bindsN E.F_is_piece fun _ _ _ _ _ _ us hl => match us, hl with | [_], _ => rfl
theorem Env.b_price (E : Env K mg) : Binds K E.d_price ["table", "word", "text"] [] := FunD.bindsN E.F_price fun _ _ _ _ _ _ us hl => match us, hl with | [_, _, _], _ => rfl
theorem Env.b_pieces_along (E : Env K mg) : Binds K E.d_pieces_along ["table", "word"] [] := FunD.bindsN E.F_pieces_along fun _ _ _ _ _ _ us hl => match us, hl with | [_, _], _ => rfl
theorem Env.b_pieces_at (E : Env K mg) : Binds K E.d_pieces_at ["table", "word", "at"] [] := FunD.bindsN E.F_pieces_at fun _ _ _ _ _ _ us hl => match us, hl with | [_, _, _], _ => rfl
theorem Env.b_best_ways (E : Env K mg) : Binds K E.d_best_ways ["table", "word", "text"] [] := FunD.bindsN E.F_best_ways fun _ _ _ _ _ _ us hl => match us, hl with | [_, _, _], _ => rfl
theorem Env.b_is_alike (E : Env K mg) : Binds K E.d_is_alike ["one", "other"] [] := FunD.bindsN E.F_is_alike fun _ _ _ _ _ _ us hl => match us, hl with | [_, _], _ => rfl
theorem Env.b_unlike (E : Env K mg) : Binds K E.d_unlike ["one", "other"] [] := FunD.bindsN E.F_unlike fun _ _ _ _ _ _ us hl => match us, hl with | [_, _], _ => rfl
theorem Env.b_size_of (E : Env K mg) : Binds K E.d_size_of ["row"] [] := FunD.bindsN E.F_size_of fun _ _ _ _ _ _ us hl => match us, hl with | [_], _ => rfl
theorem Env.b__law_so (E : Env K mg) : Binds K E.d__law_so ["found", "wanted"] [] := FunD.bindsN E.F__law_so fun _ _ _ _ _ _ us hl => match us, hl with | [_, _], _ => rfl
theorem Env.b__law_numbers (E : Env K mg) : Binds K E.d__law_numbers ["script"] [] := FunD.bindsN E.F__law_numbers fun _ _ _ _ _ _ us hl => match us, hl with | [_], _ => rfl
theorem Env.b__law_draw (E : Env K mg) : Binds K E.d__law_draw ["row", "at", "limit"] [] := FunD.bindsN E.F__law_draw fun _ _ _ _ _ _ us hl => match us, hl with | [_, _, _], _ => rfl
theorem Env.b__law_take (E : Env K mg) : Binds K E.d__law_take ["row", "spot", "limit"] [] := FunD.bindsN E.F__law_take fun _ _ _ _ _ _ us hl => match us, hl with | [_, _, _], _ => rfl
theorem Env.b__law_listed (E : Env K mg) : Binds K E.d__law_listed ["value"] [] := FunD.bindsN E.F__law_listed fun _ _ _ _ _ _ us hl => match us, hl with | [_], _ => rfl
theorem Env.b__law_handed (E : Env K mg) : Binds K E.d__law_handed ["row", "spot", "value"] [] := FunD.bindsN E.F__law_handed fun _ _ _ _ _ _ us hl => match us, hl with | [_, _, _], _ => rfl
theorem Env.b__law_levels (E : Env K mg) : Binds K E.d__law_levels ["row", "spot", "value"] [] := FunD.bindsN E.F__law_levels fun _ _ _ _ _ _ us hl => match us, hl with | [_, _, _], _ => rfl
theorem Env.b__law_pick (E : Env K mg) : Binds K E.d__law_pick ["row", "spot", "things"] [] := FunD.bindsN E.F__law_pick fun _ _ _ _ _ _ us hl => match us, hl with | [_, _, _], _ => rfl
theorem Env.b__law_price_rows (E : Env K mg) : Binds K E.d__law_price_rows ["table", "word", "text"] [] := FunD.bindsN E.F__law_price_rows fun _ _ _ _ _ _ us hl => match us, hl with | [_, _, _], _ => rfl
theorem Env.b__law_price (E : Env K mg) : Binds K E.d__law_price ["table", "word", "text"] [] := FunD.bindsN E.F__law_price fun _ _ _ _ _ _ us hl => match us, hl with | [_, _, _], _ => rfl
theorem Env.b__law_letters (E : Env K mg) : Binds K E.d__law_letters ["row", "spot", "most", "few"] [] := FunD.bindsN E.F__law_letters fun _ _ _ _ _ _ us hl => match us, hl with | [_, _, _, _], _ => rfl
theorem Env.b__law_few (E : Env K mg) : Binds K E.d__law_few ["row", "spot", "sizes"] [] := FunD.bindsN E.F__law_few fun _ _ _ _ _ _ us hl => match us, hl with | [_, _, _], _ => rfl
theorem Env.b__law_table (E : Env K mg) : Binds K E.d__law_table ["row", "spot", "many", "few"] [] := FunD.bindsN E.F__law_table fun _ _ _ _ _ _ us hl => match us, hl with | [_, _, _, _], _ => rfl
theorem Env.b__law_misspelt (E : Env K mg) : Binds K E.d__law_misspelt ["row", "spot", "table", "word", "most"] [] := FunD.bindsN E.F__law_misspelt fun _ _ _ _ _ _ us hl => match us, hl with | [_, _, _, _, _], _ => rfl
theorem Env.b__law_other_table (E : Env K mg) : Binds K E.d__law_other_table ["row", "spot", "table", "few"] [] := FunD.bindsN E.F__law_other_table fun _ _ _ _ _ _ us hl => match us, hl with | [_, _, _, _], _ => rfl
theorem Env.b__law_differ (E : Env K mg) : Binds K E.d__law_differ ["one", "other"] [] := FunD.bindsN E.F__law_differ fun _ _ _ _ _ _ us hl => match us, hl with | [_, _], _ => rfl
theorem Env.b_law (E : Env K mg) : Binds K E.d_law ["script"] [] := FunD.bindsN E.F_law fun _ _ _ _ _ _ us hl => match us, hl with | [_], _ => rfl
theorem Env.k_is_alike_0_2 (E : Env K mg) : KwTo E.d_is_alike ["one", "other"] 0 ["one", "other"] := kwTo E.F_is_alike fun _ _ _ _ _ _ us ws hu hw => match us, ws, hu, hw with | [], [_, _], _, _ => rfl
theorem Env.k_unlike_0_2 (E : Env K mg) : KwTo E.d_unlike ["one", "other"] 0 ["one", "other"] := kwTo E.F_unlike fun _ _ _ _ _ _ us ws hu hw => match us, ws, hu, hw with | [], [_, _], _, _ => rfl
set_option maxHeartbeats 4000000 in
theorem ok_check_arguments (E : Env K mg)  : FnOk P w K mg base CX0 1 (He.ga K "check_arguments") E.d_check_arguments ["fits"] (sp_check_arguments K) := by
  refine E.F_check_arguments.ok sc_check_arguments (fun vs H Q E' h => len_check_arguments h) (fun cdv A outer s H vs Q E' hr h => ⟨(t_check_arguments K), PSs.nox ?_, pure_check_arguments vs H Q E' h⟩)
  exact (pss_one (ps_for PassesOwn.never rfl (pi_enum (by rfl) E.z_enumerate (pa_cons (pv 0) pa_nil)) (pg_seq (n := 2) rfl (pgs_cons (pg_name (i := 1) sc_check_arguments.nd rfl (by first | exact Or.inl rfl | exact Or.inr rfl)) (pgs_cons (pg_name (i := 2) sc_check_arguments.nd rfl (by first | exact Or.inl rfl | exact Or.inr rfl)) pgs_nil))) (pss_one (ps_if (pt_not (pt_truth (pv 2) (by intro _; rfl))) (pss_one ps_never) pss_nil))))
set_option maxHeartbeats 4000000 in
theorem ok_is_whole (E : Env K mg)  : FnOk P w K mg base CX0 1 (He.ga K "is_whole") E.d_is_whole ["value", "low", "high"] (sp_is_whole K) := by
  refine E.F_is_whole.ok sc_is_whole (fun vs H Q E' h => len_is_whole h) (fun cdv A outer s H vs Q E' hr h => ⟨(t_is_whole K), PSs.nox ?_, pure_is_whole vs H Q E' h⟩)
  exact (pss_one (ps_ret (pe_and (pe_callB call_isiU (by rfl) E.z_isinstance (by decide +kernel) (pa_cons (pv 0) (pa_cons (pe_bltn (v := .ty "int") rfl E.z_int (by decide +kernel) rfl) pa_nil))) (pe_and (pe_not (pe_callB call_isiU (by rfl) E.z_isinstance (by decide +kernel) (pa_cons (pv 0) (pa_cons (pe_bltn (v := .ty "bool") rfl E.z_bool (by decide +kernel) rfl) pa_nil)))) (pe_one (pe_chain (op_leD hr.units) (op_leD hr.units) (pv 1) (pv 0) (pv 2)))))))
set_option maxHeartbeats 4000000 in
theorem ok_is_sequence (E : Env K mg)  : FnOk P w K mg base CX0 1 (He.ga K "is_sequence") E.d_is_sequence ["value"] (sp_is_sequence K) := by
  refine E.F_is_sequence.ok sc_is_sequence (fun vs H Q E' h => len_is_sequence h) (fun cdv A outer s H vs Q E' hr h => ⟨(t_is_sequence K), PSs.nox ?_, pure_is_sequence vs H Q E' h⟩)
  exact (pss_one (ps_ret (pe_callB call_isiU (by rfl) E.z_isinstance (by decide +kernel) (pa_cons (pv 0) (pa_cons (pe_tup (pa_cons (pe_bltn (v := .ty "list") rfl E.z_list (by decide +kernel) rfl) (pa_cons (pe_bltn (v := .ty "tuple") rfl E.z_tuple (by decide +kernel) rfl) pa_nil))) pa_nil)))))
set_option maxHeartbeats 4000000 in
theorem ok_is_triple (E : Env K mg) (G_is_sequence : FnOk P w K mg base CX0 1 (He.ga K "is_sequence") E.d_is_sequence ["value"] (sp_is_sequence K)) : FnOk P w K mg base CX0 2 (He.ga K "is_triple") E.d_is_triple ["value"] (sp_is_triple K) := by
  refine E.F_is_triple.ok sc_is_triple (fun vs H Q E' h => len_is_triple h) (fun cdv A outer s H vs Q E' hr h => ⟨(t_is_triple K), PSs.nox ?_, pure_is_triple vs H Q E' h⟩)
  exact (pss_one (ps_ret (pe_and (pe_call G_is_sequence (hr.mono (by decide)) rfl E.g_is_sequence E.F_is_sequence.kp E.b_is_sequence .nil pass0 (pa_cons (pv 0) pa_nil)) (pe_one (pe_cmpR (op_eqU hr.units) (pe_callB call_lenU (by rfl) E.z_len (by decide +kernel) (pa_cons (pv 0) pa_nil)) pe_int (nomark _))))))
set_option maxHeartbeats 4000000 in
theorem ok_is_word (E : Env K mg)  : FnOk P w K mg base CX0 1 (He.ga K "is_word") E.d_is_word ["value"] (sp_is_word K) := by
  refine E.F_is_word.ok sc_is_word (fun vs H Q E' h => len_is_word h) (fun cdv A outer s H vs Q E' hr h => ⟨(t_is_word K), PSs.nox ?_, pure_is_word vs H Q E' h⟩)
  exact (pss_one (ps_ret (pe_and (pe_callB call_isiU (by rfl) E.z_isinstance (by decide +kernel) (pa_cons (pv 0) (pa_cons (pe_bltn (v := .ty "str") rfl E.z_str (by decide +kernel) rfl) pa_nil))) (pe_one (pe_callB (cr_all rfl) (by rfl) E.z_all (by decide +kernel) (pa_cons (pe_lc (own := [("letter", 1)]) (g := (gName 1)) (tt := tYes) rfl sc_is_word.nd (pi_seq (pv 0)) (blkOk_by (own := [("letter", 1)]) (N := names_is_word) (sc := defScope st_is_word) (by decide +kernel)) (fun _ _ _ _ _ => (pg_name (i := 1) sc_is_word.nd rfl (by first | exact Or.inl rfl | exact Or.inr rfl))) (fun _ _ _ _ _ => pts_nil) (fun _ _ _ _ _ => (pe_cmpR (op_inU (hu_of hr)) (pv 1) (pe_glob rfl E.c_LETTERS.choose_spec ⟨_, rfl⟩) (by rfl)))) pa_nil))))))
set_option maxHeartbeats 4000000 in
theorem ok_is_short (E : Env K mg) (G_is_word : FnOk P w K mg base CX0 1 (He.ga K "is_word") E.d_is_word ["value"] (sp_is_word K)) : FnOk P w K mg base CX0 2 (He.ga K "is_short") E.d_is_short ["value", "most"] (sp_is_short K) := by
  refine E.F_is_short.ok sc_is_short (fun vs H Q E' h => len_is_short h) (fun cdv A outer s H vs Q E' hr h => ⟨(t_is_short K), PSs.nox ?_, pure_is_short vs H Q E' h⟩)
  exact (pss_one (ps_ret (pe_and (pe_call G_is_word (hr.mono (by decide)) rfl E.g_is_word E.F_is_word.kp E.b_is_word .nil pass0 (pa_cons (pv 0) pa_nil)) (pe_one (pe_cmpR (op_leD hr.units) (pe_callB call_lenU (by rfl) E.z_len (by decide +kernel) (pa_cons (pv 0) pa_nil)) (pv 1) (nomark _))))))
set_option maxHeartbeats 4000000 in
theorem ok_is_rising (E : Env K mg)  : FnOk P w K mg base CX0 1 (He.ga K "is_rising") E.d_is_rising ["rows"] (sp_is_rising K) := by
  refine E.F_is_rising.ok sc_is_rising (fun vs H Q E' h => len_is_rising h) (fun cdv A outer s H vs Q E' hr h => ⟨(t_is_rising K), PSs.nox ?_, pure_is_rising vs H Q E' h⟩)
  exact (pss_one (ps_ret (pe_callB (cr_all rfl) (by rfl) E.z_all (by decide +kernel) (pa_cons (pe_lc (own := [("at", 1)]) (g := (gName 1)) (tt := tYes) rfl sc_is_rising.nd (pi_range1 (by rfl) E.z_range (pa_cons (pe_op op_sub (pe_callB call_lenU (by rfl) E.z_len (by decide +kernel) (pa_cons (pv 0) pa_nil)) pe_int) pa_nil)) (blkOk_by (own := [("at", 1)]) (N := names_is_rising) (sc := defScope st_is_rising) (by decide +kernel)) (fun _ _ _ _ _ => (pg_name (i := 1) sc_is_rising.nd rfl (by first | exact Or.inl rfl | exact Or.inr rfl))) (fun _ _ _ _ _ => pts_nil) (fun _ _ _ _ _ => (pe_cmpR (op_ltD hr.units) (pe_ixU (hu_of hr) (pv 0) (pv 1) (fun _ _ => rfl) (fun _ _ => rfl)) (pe_ixU (hu_of hr) (pv 0) (pe_op op_addU (pv 1) pe_int) (fun _ _ => rfl) (fun _ _ => rfl)) (nomark _)))) pa_nil))))
set_option maxHeartbeats 4000000 in
theorem ok_is_table (E : Env K mg) (G_is_sequence : FnOk P w K mg base CX0 1 (He.ga K "is_sequence") E.d_is_sequence ["value"] (sp_is_sequence K)) (G_is_fault : FnOk P w K mg base CX0 4 (He.ga K "is_fault") E.d_is_fault ["value"] (sp_is_fault K)) (G_is_rising : FnOk P w K mg base CX0 1 (He.ga K "is_rising") E.d_is_rising ["rows"] (sp_is_rising K)) : FnOk P w K mg base CX0 5 (He.ga K "is_table") E.d_is_table ["value"] (sp_is_table K) := by
  refine E.F_is_table.ok sc_is_table (fun vs H Q E' h => len_is_table h) (fun cdv A outer s H vs Q E' hr h => ⟨(t_is_table K), PSs.nox ?_, pure_is_table vs H Q E' h⟩)
  exact (pss_cons (ps_if (PW.pt (pw_or (pt_not (pt_val (pe_call G_is_sequence (hr.mono (by decide)) rfl E.g_is_sequence E.F_is_sequence.kp E.b_is_sequence .nil pass0 (pa_cons (pv 0) pa_nil)))) (pw_or1 (pt_cmpR (op_gtD hr.units) (pe_callB call_lenU (by rfl) E.z_len (by decide +kernel) (pa_cons (pv 0) pa_nil)) (pe_glob rfl E.c_MOST_FAULTS.choose_spec ⟨_, rfl⟩) (nomark _))))) (pss_one (ps_ret pe_bl)) pss_nil) (pss_cons (ps_if (pt_not (pt_val (pe_callB (cr_all rfl) (by rfl) E.z_all (by decide +kernel) (pa_cons (pe_lc (own := [("fault", 1)]) (g := (gName 1)) (tt := tYes) rfl sc_is_table.nd (pi_seq (pv 0)) (blkOk_by (own := [("fault", 1)]) (N := names_is_table) (sc := defScope st_is_table) (by decide +kernel)) (fun _ _ _ _ _ => (pg_name (i := 1) sc_is_table.nd rfl (by first | exact Or.inl rfl | exact Or.inr rfl))) (fun _ _ _ _ _ => pts_nil) (fun _ _ _ _ _ => (pe_call G_is_fault (hr.mono (by decide)) rfl E.g_is_fault E.F_is_fault.kp E.b_is_fault .nil pass0 (pa_cons (pv 1) pa_nil)))) pa_nil)))) (pss_one (ps_ret pe_bl)) pss_nil) (pss_one (ps_ret (pe_call G_is_rising (hr.mono (by decide)) rfl E.g_is_rising E.F_is_rising.kp E.b_is_rising .nil pass0 (pa_cons (pe_lc (own := [("fault", 1)]) (g := (gName 1)) (tt := tYes) rfl sc_is_table.nd (pi_seq (pv 0)) (blkOk_by (own := [("fault", 1)]) (N := names_is_table) (sc := defScope st_is_table) (by decide +kernel)) (fun _ _ _ _ _ => (pg_name (i := 1) sc_is_table.nd rfl (by first | exact Or.inl rfl | exact Or.inr rfl))) (fun _ _ _ _ _ => pts_nil) (fun _ _ _ _ _ => (pe_tup (pa_cons (pe_ixU (hu_of hr) (pv 1) pe_int (fun _ _ => rfl) (fun _ _ => rfl)) (pa_cons (pe_ixU (hu_of hr) (pv 1) pe_int (fun _ _ => rfl) (fun _ _ => rfl)) pa_nil))))) pa_nil))))))
set_option maxHeartbeats 4000000 in
theorem ok_is_fault (E : Env K mg) (G_is_triple : FnOk P w K mg base CX0 2 (He.ga K "is_triple") E.d_is_triple ["value"] (sp_is_triple K)) (G_is_piece : FnOk P w K mg base CX0 3 (He.ga K "is_piece") E.d_is_piece ["value"] (sp_is_piece K)) (G_is_whole : FnOk P w K mg base CX0 1 (He.ga K "is_whole") E.d_is_whole ["value", "low", "high"] (sp_is_whole K)) : FnOk P w K mg base CX0 4 (He.ga K "is_fault") E.d_is_fault ["value"] (sp_is_fault K) := by
  refine E.F_is_fault.ok sc_is_fault (fun vs H Q E' h => len_is_fault h) (fun cdv A outer s H vs Q E' hr h => ⟨(t_is_fault K), PSs.nox ?_, pure_is_fault vs H Q E' h⟩)
  exact (pss_cons (ps_if (pt_not (pt_val (pe_call G_is_triple (hr.mono (by decide)) rfl E.g_is_triple E.F_is_triple.kp E.b_is_triple .nil pass0 (pa_cons (pv 0) pa_nil)))) (pss_one (ps_ret pe_bl)) pss_nil) (pss_cons (ps_asg (pv 0) (pg_seq (n := 3) rfl (pgs_cons (pg_name (i := 1) sc_is_fault.nd rfl (by first | exact Or.inl rfl | exact Or.inr rfl)) (pgs_cons (pg_name (i := 2) sc_is_fault.nd rfl (by first | exact Or.inl rfl | exact Or.inr rfl)) (pgs_cons (pg_name (i := 3) sc_is_fault.nd rfl (by first | exact Or.inl rfl | exact Or.inr rfl)) pgs_nil))))) (pss_cons (ps_if (PW.pt (pw_or (pt_not (pt_val (pe_call G_is_piece (hr.mono (by decide)) rfl E.g_is_piece E.F_is_piece.kp E.b_is_piece .nil pass0 (pa_cons (pv 1) pa_nil)))) (pw_or (pt_not (pt_val (pe_call G_is_piece (hr.mono (by decide)) rfl E.g_is_piece E.F_is_piece.kp E.b_is_piece .nil pass0 (pa_cons (pv 2) pa_nil)))) (pw_or1 (pt_cmpR (op_eqU hr.units) (pv 1) (pv 2) (nomark _)))))) (pss_one (ps_ret pe_bl)) pss_nil) (pss_one (ps_ret (pe_call G_is_whole (hr.mono (by decide)) rfl E.g_is_whole E.F_is_whole.kp E.b_is_whole .nil pass0 (pa_cons (pv 3) (pa_cons pe_int (pa_cons (pe_glob rfl E.c_GREATEST_FAULT.choose_spec ⟨_, rfl⟩) pa_nil)))))))))
set_option maxHeartbeats 4000000 in
theorem ok_is_piece (E : Env K mg) (G_is_short : FnOk P w K mg base CX0 2 (He.ga K "is_short") E.d_is_short ["value", "most"] (sp_is_short K)) : FnOk P w K mg base CX0 3 (He.ga K "is_piece") E.d_is_piece ["value"] (sp_is_piece K) := by
  refine E.F_is_piece.ok sc_is_piece (fun vs H Q E' h => len_is_piece h) (fun cdv A outer s H vs Q E' hr h => ⟨(t_is_piece K), PSs.nox ?_, pure_is_piece vs H Q E' h⟩)
  exact (pss_one (ps_ret (pe_call G_is_short (hr.mono (by decide)) rfl E.g_is_short E.F_is_short.kp E.b_is_short .nil pass0 (pa_cons (pv 0) (pa_cons (pe_glob rfl E.c_MOST_IN_PIECE.choose_spec ⟨_, rfl⟩) pa_nil)))))
set_option maxHeartbeats 4000000 in
theorem ok_price (E : Env K mg) (G_check_arguments : FnOk P w K mg base CX0 1 (He.ga K "check_arguments") E.d_check_arguments ["fits"] (sp_check_arguments K)) (G_is_word : FnOk P w K mg base CX0 1 (He.ga K "is_word") E.d_is_word ["value"] (sp_is_word K)) (G_is_table : FnOk P w K mg base CX0 5 (He.ga K "is_table") E.d_is_table ["value"] (sp_is_table K)) (G_best_ways : FnOk P w K mg base CX0 5 (He.ga K "best_ways") E.d_best_ways ["table", "word", "text"] (sp_best_ways K)) : FnOk P w K mg base CX0 7 (He.ga K "price") E.d_price ["table", "word", "text"] (sp_price K) := by
  refine E.F_price.ok sc_price (fun vs H Q E' h => len_price h) (fun cdv A outer s H vs Q E' hr h => ⟨(t_price K), PSs.nox ?_, pure_price vs H Q E' h⟩)
  exact (pss_cons (ps_expr (pe_call G_check_arguments (hr.mono (by decide)) rfl E.g_check_arguments E.F_check_arguments.kp E.b_check_arguments .nil pass0 (pa_cons (pe_lst (pa_cons (pe_call G_is_table (hr.mono (by decide)) rfl E.g_is_table E.F_is_table.kp E.b_is_table .nil pass0 (pa_cons (pv 0) pa_nil)) (pa_cons (pe_call G_is_word (hr.mono (by decide)) rfl E.g_is_word E.F_is_word.kp E.b_is_word .nil pass0 (pa_cons (pv 1) pa_nil)) (pa_cons (pe_call G_is_word (hr.mono (by decide)) rfl E.g_is_word E.F_is_word.kp E.b_is_word .nil pass0 (pa_cons (pv 2) pa_nil)) pa_nil)))) pa_nil))) (pss_cons (ps_set (i := 3) sc_price.nd rfl (by first | exact Or.inl rfl | exact Or.inr rfl) (pe_call G_best_ways (hr.mono (by decide)) rfl E.g_best_ways E.F_best_ways.kp E.b_best_ways .nil pass0 (pa_cons (pv 0) (pa_cons (pv 1) (pa_cons (pv 2) pa_nil))))) (pss_cons (ps_set (i := 4) sc_price.nd rfl (by first | exact Or.inl rfl | exact Or.inr rfl) (pe_tup (pa_cons (pe_callB call_lenU (by rfl) E.z_len (by decide +kernel) (pa_cons (pv 1) pa_nil)) (pa_cons (pe_callB call_lenU (by rfl) E.z_len (by decide +kernel) (pa_cons (pv 2) pa_nil)) pa_nil)))) (pss_one (ps_ret (pe_ifExp (pt_cmpR (op_inU (hu_of hr)) (pv 4) (pv 3) (by rfl)) (pe_ixU (hu_of hr) (pe_ixU (hu_of hr) (pv 3) (pv 4) (fun _ _ => rfl) (fun _ _ => rfl)) pe_int (fun _ _ => rfl) (fun _ _ => rfl)) pe_non))))))
set_option maxHeartbeats 4000000 in
theorem ok_pieces_along (E : Env K mg) (G_pieces_at : FnOk P w K mg base CX0 1 (He.ga K "pieces_at") E.d_pieces_at ["table", "word", "at"] (sp_pieces_at K)) : FnOk P w K mg base CX0 3 (He.ga K "pieces_along") E.d_pieces_along ["table", "word"] (sp_pieces_along K) := by
  refine E.F_pieces_along.ok sc_pieces_along (fun vs H Q E' h => len_pieces_along h) (fun cdv A outer s H vs Q E' hr h => ⟨(t_pieces_along K), PSs.nox ?_, pure_pieces_along vs H Q E' h⟩)
  exact (pss_one (ps_ret (pe_lc (own := [("at", 2)]) (g := (gName 2)) (tt := tYes) rfl sc_pieces_along.nd (pi_range1 (by rfl) E.z_range (pa_cons (pe_op op_addU (pe_callB call_lenU (by rfl) E.z_len (by decide +kernel) (pa_cons (pv 1) pa_nil)) pe_int) pa_nil)) (blkOk_by (own := [("at", 2)]) (N := names_pieces_along) (sc := defScope st_pieces_along) (by decide +kernel)) (fun _ _ _ _ _ => (pg_name (i := 2) sc_pieces_along.nd rfl (by first | exact Or.inl rfl | exact Or.inr rfl))) (fun _ _ _ _ _ => pts_nil) (fun _ _ _ _ _ => (pe_call G_pieces_at (hr.mono (by decide)) rfl E.g_pieces_at E.F_pieces_at.kp E.b_pieces_at .nil pass0 (pa_cons (pv 0) (pa_cons (pv 1) (pa_cons (pv 2) pa_nil))))))))
set_option maxHeartbeats 4000000 in
theorem ok_pieces_at (E : Env K mg)  : FnOk P w K mg base CX0 1 (He.ga K "pieces_at") E.d_pieces_at ["table", "word", "at"] (sp_pieces_at K) := by
  refine E.F_pieces_at.ok sc_pieces_at (fun vs H Q E' h => len_pieces_at h) (fun cdv A outer s H vs Q E' hr h => ⟨(t_pieces_at K), PSs.nox ?_, pure_pieces_at vs H Q E' h⟩)
  exact (pss_cons (ps_setLc (i := 3) (own := [("letter", 5)]) (g := (gName 5)) (tt := tYes) rfl sc_pieces_at.nd rfl rfl (sw_true rfl rfl rfl (by decide +kernel)) (pi_seq (pe_slice sl_U (pv 1) (po_some (pv 2)) (po_some (pe_op op_addU (pv 2) pe_int)))) (blkOk_by (own := [("letter", 5)]) (N := names_pieces_at) (sc := defScope st_pieces_at) (by decide +kernel)) (fun _ _ _ _ _ => (pg_name (i := 5) sc_pieces_at.nd rfl (by first | exact Or.inl rfl | exact Or.inr rfl))) (fun _ _ _ _ _ => pts_nil) (fun _ _ _ _ _ => (pe_tup (pa_cons (pv 5) (pa_cons (pv 5) (pa_cons pe_int pa_nil)))))) (pss_cons (ps_setLc (i := 4) (own := [("meant", 6), ("written", 7), ("cost", 8)]) (g := (gSeq K 3 (gCons (gName 6) (gCons (gName 7) (gCons (gName 8) gNil))))) (tt := (tTest (tOp (rEqU K) (tSl (rSlU K) (tVar 1) (tPart (tVar 2)) (tPart (tOp (rAddU K) (tVar 2) (tCB (rLenU K) (tCons (tVar 6) tNil))))) (tVar 6)))) rfl sc_pieces_at.nd rfl rfl (sw_true rfl rfl rfl (by decide +kernel)) (pi_seq (pv 0)) (blkOk_by (own := [("meant", 6), ("written", 7), ("cost", 8)]) (N := names_pieces_at) (sc := defScope st_pieces_at) (by decide +kernel)) (fun _ _ _ _ _ => (pg_seq (n := 3) rfl (pgs_cons (pg_name (i := 6) sc_pieces_at.nd rfl (by first | exact Or.inl rfl | exact Or.inr rfl)) (pgs_cons (pg_name (i := 7) sc_pieces_at.nd rfl (by first | exact Or.inl rfl | exact Or.inr rfl)) (pgs_cons (pg_name (i := 8) sc_pieces_at.nd rfl (by first | exact Or.inl rfl | exact Or.inr rfl)) pgs_nil))))) (fun _ _ _ _ _ => (pts_one (pt_cmpR (op_eqU hr.units) (pe_slice sl_U (pv 1) (po_some (pv 2)) (po_some (pe_op op_addU (pv 2) (pe_callB call_lenU (by rfl) E.z_len (by decide +kernel) (pa_cons (pv 6) pa_nil))))) (pv 6) (nomark _)))) (fun _ _ _ _ _ => (pe_tup (pa_cons (pv 6) (pa_cons (pv 7) (pa_cons (pv 8) pa_nil)))))) (pss_one (ps_ret (pe_op op_addU (pv 3) (pv 4))))))
set_option maxHeartbeats 4000000 in
theorem ok_best_ways (E : Env K mg) (G_pieces_along : FnOk P w K mg base CX0 3 (He.ga K "pieces_along") E.d_pieces_along ["table", "word"] (sp_pieces_along K)) : FnOk P w K mg base CX0 5 (He.ga K "best_ways") E.d_best_ways ["table", "word", "text"] (sp_best_ways K) := by
  refine E.F_best_ways.ok sc_best_ways (fun vs H Q E' h => len_best_ways h) (fun cdv A outer s H vs Q E' hr h => ⟨(t_best_ways K), PSs.nox ?_, pure_best_ways vs H Q E' h⟩)
  exact (pss_cons (ps_set (i := 3) sc_best_ways.nd rfl (by first | exact Or.inl rfl | exact Or.inr rfl) (pe_call G_pieces_along (hr.mono (by decide)) rfl E.g_pieces_along E.F_pieces_along.kp E.b_pieces_along .nil pass0 (pa_cons (pv 0) (pa_cons (pv 1) pa_nil)))) (pss_cons (ps_set (i := 4) sc_best_ways.nd rfl (by first | exact Or.inl rfl | exact Or.inr rfl) pe_dnewT) (pss_cons (ps_set (i := 5) sc_best_ways.nd rfl (by first | exact Or.inl rfl | exact Or.inr rfl) (pe_lst (pa_cons (pe_tup (pa_cons pe_int (pa_cons pe_int (pa_cons pe_int (pa_cons (pe_tup (pa_cons pe_str (pa_cons pe_str (pa_cons pe_int pa_nil)))) pa_nil))))) pa_nil))) (pss_cons (ps_while PassesOwn.never (PW.pt (pw_and (pt_truth (pv 5) (by intro _; rfl)) (pw_and1 (pt_cmpR (op_notInU (hu_of hr)) (pe_tup (pa_cons (pe_callB call_lenU (by rfl) E.z_len (by decide +kernel) (pa_cons (pv 1) pa_nil)) (pa_cons (pe_callB call_lenU (by rfl) E.z_len (by decide +kernel) (pa_cons (pv 2) pa_nil)) pa_nil))) (pv 4) (by rfl))))) (pss_cons (ps_asg (pe_callG (hpop_rule hr.units) (by rfl) E.i_heappop (pa_cons (pv 5) pa_nil)) (pg_seq (n := 4) rfl (pgs_cons (pg_name (i := 6) sc_best_ways.nd rfl (by first | exact Or.inl rfl | exact Or.inr rfl)) (pgs_cons (pg_name (i := 7) sc_best_ways.nd rfl (by first | exact Or.inl rfl | exact Or.inr rfl)) (pgs_cons (pg_name (i := 8) sc_best_ways.nd rfl (by first | exact Or.inl rfl | exact Or.inr rfl)) (pgs_cons (pg_name (i := 9) sc_best_ways.nd rfl (by first | exact Or.inl rfl | exact Or.inr rfl)) pgs_nil)))))) (pss_one (ps_if (pt_cmpR (op_notInU (hu_of hr)) (pe_tup (pa_cons (pv 7) (pa_cons (pv 8) pa_nil))) (pv 4) (by rfl)) (pss_cons (ps_asg (pe_tup (pa_cons (pv 6) (pa_cons (pv 9) pa_nil))) (pg_sub (pv 4) (pe_tup (pa_cons (pv 7) (pa_cons (pv 8) pa_nil))) (set_U (hu_of hr)))) (pss_one (ps_for PassesOwn.never rfl (pi_seq (pe_ixU (hu_of hr) (pv 3) (pv 7) (fun _ _ => rfl) (fun _ _ => rfl))) (pg_name (i := 10) sc_best_ways.nd rfl (by first | exact Or.inl rfl | exact Or.inr rfl)) (pss_cons (ps_asg (pv 10) (pg_seq (n := 3) rfl (pgs_cons (pg_name (i := 11) sc_best_ways.nd rfl (by first | exact Or.inl rfl | exact Or.inr rfl)) (pgs_cons (pg_name (i := 12) sc_best_ways.nd rfl (by first | exact Or.inl rfl | exact Or.inr rfl)) (pgs_cons (pg_name (i := 13) sc_best_ways.nd rfl (by first | exact Or.inl rfl | exact Or.inr rfl)) pgs_nil))))) (pss_one (ps_if (pt_cmpR (op_eqU hr.units) (pe_slice sl_U (pv 2) (po_some (pv 8)) (po_some (pe_op op_addU (pv 8) (pe_callB call_lenU (by rfl) E.z_len (by decide +kernel) (pa_cons (pv 12) pa_nil))))) (pv 12) (nomark _)) (pss_one (ps_expr (pe_callG (hpush_rule hr.units) (by rfl) E.i_heappush (pa_cons (pv 5) (pa_cons (pe_tup (pa_cons (pe_op op_addU (pv 6) (pv 13)) (pa_cons (pe_op op_addU (pv 7) (pe_callB call_lenU (by rfl) E.z_len (by decide +kernel) (pa_cons (pv 11) pa_nil))) (pa_cons (pe_op op_addU (pv 8) (pe_callB call_lenU (by rfl) E.z_len (by decide +kernel) (pa_cons (pv 12) pa_nil))) (pa_cons (pv 10) pa_nil))))) pa_nil))))) pss_nil)))))) pss_nil)))) (pss_one (ps_ret (pv 4)))))))
set_option maxHeartbeats 4000000 in
theorem ok_is_alike (E : Env K mg) (G_unlike : FnOk P w K mg base CX0 9 (He.ga K "unlike") E.d_unlike ["one", "other"] (sp_unlike K)) : FnOk P w K mg base CX0 10 (He.ga K "is_alike") E.d_is_alike ["one", "other"] (sp_is_alike K) := by
  refine E.F_is_alike.ok sc_is_alike (fun vs H Q E' h => len_is_alike h) (fun cdv A outer s H vs Q E' hr h => ⟨(t_is_alike K), PSs.nox ?_, pure_is_alike vs H Q E' h⟩)
  exact (pss_one (ps_ret (pe_cmpR op_isN1 (pe_call G_unlike (hr.mono (by decide)) rfl E.g_unlike E.F_unlike.kp E.b_unlike .nil pass0 (pa_cons (pv 0) (pa_cons (pv 1) pa_nil))) pe_non (nomark _))))
set_option maxHeartbeats 4000000 in
theorem ok_unlike (E : Env K mg) (G_check_arguments : FnOk P w K mg base CX0 1 (He.ga K "check_arguments") E.d_check_arguments ["fits"] (sp_check_arguments K)) (G_is_table : FnOk P w K mg base CX0 5 (He.ga K "is_table") E.d_is_table ["value"] (sp_is_table K)) (G_price : FnOk P w K mg base CX0 7 (He.ga K "price") E.d_price ["table", "word", "text"] (sp_price K)) (G_size_of : FnOk P w K mg base CX0 1 (He.ga K "size_of") E.d_size_of ["row"] (sp_size_of K)) : FnOk P w K mg base CX0 9 (He.ga K "unlike") E.d_unlike ["one", "other"] (sp_unlike K) := by
  refine E.F_unlike.ok sc_unlike (fun vs H Q E' h => len_unlike h) (fun cdv A outer s H vs Q E' hr h => ⟨(t_unlike K), PSs.nox ?_, pure_unlike vs H Q E' h⟩)
  exact (pss_cons (ps_expr (pe_call G_check_arguments (hr.mono (by decide)) rfl E.g_check_arguments E.F_check_arguments.kp E.b_check_arguments .nil pass0 (pa_cons (pe_lst (pa_cons (pe_call G_is_table (hr.mono (by decide)) rfl E.g_is_table E.F_is_table.kp E.b_is_table .nil pass0 (pa_cons (pv 0) pa_nil)) (pa_cons (pe_call G_is_table (hr.mono (by decide)) rfl E.g_is_table E.F_is_table.kp E.b_is_table .nil pass0 (pa_cons (pv 1) pa_nil)) pa_nil))) pa_nil))) (pss_cons (ps_set (i := 2) sc_unlike.nd rfl (by first | exact Or.inl rfl | exact Or.inr rfl) (pe_lst pa_nil)) (pss_cons (ps_for PassesOwn.never rfl (pi_seq (pe_op op_addU (pe_callTy call_lstOf (by rfl) E.z_list (by decide +kernel) (pa_cons (pv 0) pa_nil)) (pe_callTy call_lstOf (by rfl) E.z_list (by decide +kernel) (pa_cons (pv 1) pa_nil)))) (pg_seq (n := 3) rfl (pgs_cons (pg_name (i := 3) sc_unlike.nd rfl (by first | exact Or.inl rfl | exact Or.inr rfl)) (pgs_cons (pg_name (i := 4) sc_unlike.nd rfl (by first | exact Or.inl rfl | exact Or.inr rfl)) (pgs_cons (pg_name (i := 5) sc_unlike.nd rfl (by first | exact Or.inl rfl | exact Or.inr rfl)) pgs_nil)))) (pss_cons (ps_set (i := 6) sc_unlike.nd rfl (by first | exact Or.inl rfl | exact Or.inr rfl) (pe_call G_price (hr.mono (by decide)) rfl E.g_price E.F_price.kp E.b_price .nil pass0 (pa_cons (pv 0) (pa_cons (pv 3) (pa_cons (pv 4) pa_nil))))) (pss_cons (ps_set (i := 7) sc_unlike.nd rfl (by first | exact Or.inl rfl | exact Or.inr rfl) (pe_call G_price (hr.mono (by decide)) rfl E.g_price E.F_price.kp E.b_price .nil pass0 (pa_cons (pv 1) (pa_cons (pv 3) (pa_cons (pv 4) pa_nil))))) (pss_one (ps_if (pt_cmpR (op_neU hr.units) (pv 6) (pv 7) (nomark _)) (pss_one (ps_expr (pe_bm PySem.F.plainAttrs_list PySem.F.slot_list_append PySem.F.type_list_append mt_append (pv 2) (pa_cons (pe_tup (pa_cons (pv 3) (pa_cons (pv 4) (pa_cons (pv 6) (pa_cons (pv 7) pa_nil))))) pa_nil)))) pss_nil))))) (pss_cons (ps_if (pt_not (pt_truth (pv 2) (by intro _; rfl))) (pss_one (ps_ret pe_non)) pss_nil) (pss_one (ps_ret (pe_callBK (cr_minKey G_size_of (hr.mono (by decide)) E.b_size_of) (by rfl) E.z_min (by decide +kernel) (pa_cons (pv 2) pa_nil) (pk_cons (pe_glob rfl E.g_size_of rfl) pk_nil))))))))
set_option maxHeartbeats 4000000 in
theorem ok_size_of (E : Env K mg)  : FnOk P w K mg base CX0 1 (He.ga K "size_of") E.d_size_of ["row"] (sp_size_of K) := by
  refine E.F_size_of.ok sc_size_of (fun vs H Q E' h => len_size_of h) (fun cdv A outer s H vs Q E' hr h => ⟨(t_size_of K), PSs.nox ?_, pure_size_of vs H Q E' h⟩)
  exact (pss_cons (ps_asg (pe_slice sl_U (pv 0) po_none (po_some pe_int)) (pg_seq (n := 2) rfl (pgs_cons (pg_name (i := 1) sc_size_of.nd rfl (by first | exact Or.inl rfl | exact Or.inr rfl)) (pgs_cons (pg_name (i := 2) sc_size_of.nd rfl (by first | exact Or.inl rfl | exact Or.inr rfl)) pgs_nil)))) (pss_one (ps_ret (pe_tup (pa_cons (pe_op op_addU (pe_callB call_lenU (by rfl) E.z_len (by decide +kernel) (pa_cons (pv 1) pa_nil)) (pe_callB call_lenU (by rfl) E.z_len (by decide +kernel) (pa_cons (pv 2) pa_nil))) (pa_cons (pe_callB call_lenU (by rfl) E.z_len (by decide +kernel) (pa_cons (pv 1) pa_nil)) (pa_cons (pv 1) (pa_cons (pe_callB call_lenU (by rfl) E.z_len (by decide +kernel) (pa_cons (pv 2) pa_nil)) (pa_cons (pv 2) pa_nil)))))))))
set_option maxHeartbeats 4000000 in
theorem ok__law_so {n : Nat} (E : Env K mg) (G_self : FnOk P w K mg base CX0 (n + 1) (He.ga K "_law_so") E.d__law_so ["found", "wanted"] (sp__law_so K n)) : FnOk P w K mg base CX0 (n + 1 + 1) (He.ga K "_law_so") E.d__law_so ["found", "wanted"] (sp__law_so K (n + 1)) := by
  refine E.F__law_so.ok sc__law_so (fun vs H Q E' h => len__law_so h) (fun cdv A outer s H vs Q E' hr h => ⟨(t__law_so K n), PSs.nox ?_, pure__law_so vs H Q E' h⟩)
  exact (pss_cons (ps_if (pt_cmpR op_isN1 (pv 1) pe_non (nomark _)) (pss_one (ps_ret (pe_cmpR op_isN1 (pv 0) pe_non (nomark _)))) pss_nil) (pss_cons (ps_if (pt_val (pe_callB call_isiU (by rfl) E.z_isinstance (by decide +kernel) (pa_cons (pv 1) (pa_cons (pe_bltn (v := .ty "tuple") rfl E.z_tuple (by decide +kernel) rfl) pa_nil)))) (pss_cons (ps_if (PW.pt (pw_or (pt_not (pt_val (pe_callB call_isiU (by rfl) E.z_isinstance (by decide +kernel) (pa_cons (pv 0) (pa_cons (pe_bltn (v := .ty "tuple") rfl E.z_tuple (by decide +kernel) rfl) pa_nil))))) (pw_or1 (pt_cmpR (op_neU hr.units) (pe_callB call_lenU (by rfl) E.z_len (by decide +kernel) (pa_cons (pv 0) pa_nil)) (pe_callB call_lenU (by rfl) E.z_len (by decide +kernel) (pa_cons (pv 1) pa_nil)) (nomark _))))) (pss_one (ps_ret pe_bl)) pss_nil) (pss_cons (ps_for PassesOwn.never rfl (pi_range1 (by rfl) E.z_range (pa_cons (pe_callB call_lenU (by rfl) E.z_len (by decide +kernel) (pa_cons (pv 1) pa_nil)) pa_nil)) (pg_name (i := 2) sc__law_so.nd rfl (by first | exact Or.inl rfl | exact Or.inr rfl)) (pss_one (ps_if (pt_not (pt_val (pe_call G_self hr rfl E.g__law_so E.F__law_so.kp E.b__law_so .nil pass0 (pa_cons (pe_ixU (hu_of hr) (pv 0) (pv 2) (fun _ _ => rfl) (fun _ _ => rfl)) (pa_cons (pe_ixU (hu_of hr) (pv 1) (pv 2) (fun _ _ => rfl) (fun _ _ => rfl)) pa_nil))))) (pss_one (ps_ret pe_bl)) pss_nil))) (pss_one (ps_ret pe_bl)))) pss_nil) (pss_cons (ps_if (PW.pt (pw_or (pt_val (pe_callB call_isiU (by rfl) E.z_isinstance (by decide +kernel) (pa_cons (pv 1) (pa_cons (pe_bltn (v := .ty "bool") rfl E.z_bool (by decide +kernel) rfl) pa_nil)))) (pw_or1 (pt_val (pe_callB call_isiU (by rfl) E.z_isinstance (by decide +kernel) (pa_cons (pv 0) (pa_cons (pe_bltn (v := .ty "bool") rfl E.z_bool (by decide +kernel) rfl) pa_nil))))))) (pss_one (ps_ret (pe_and (pe_callB call_isiU (by rfl) E.z_isinstance (by decide +kernel) (pa_cons (pv 1) (pa_cons (pe_bltn (v := .ty "bool") rfl E.z_bool (by decide +kernel) rfl) pa_nil))) (pe_and (pe_callB call_isiU (by rfl) E.z_isinstance (by decide +kernel) (pa_cons (pv 0) (pa_cons (pe_bltn (v := .ty "bool") rfl E.z_bool (by decide +kernel) rfl) pa_nil))) (pe_one (pe_cmpR (op_eqU hr.units) (pv 0) (pv 1) (nomark _))))))) pss_nil) (pss_cons (ps_if (pt_val (pe_callB call_isiU (by rfl) E.z_isinstance (by decide +kernel) (pa_cons (pv 1) (pa_cons (pe_bltn (v := .ty "int") rfl E.z_int (by decide +kernel) rfl) pa_nil)))) (pss_one (ps_ret (pe_and (pe_callB call_isiU (by rfl) E.z_isinstance (by decide +kernel) (pa_cons (pv 0) (pa_cons (pe_bltn (v := .ty "int") rfl E.z_int (by decide +kernel) rfl) pa_nil))) (pe_one (pe_cmpR (op_eqU hr.units) (pv 0) (pv 1) (nomark _)))))) pss_nil) (pss_one (ps_ret (pe_and (pe_callB call_isiU (by rfl) E.z_isinstance (by decide +kernel) (pa_cons (pv 1) (pa_cons (pe_bltn (v := .ty "str") rfl E.z_str (by decide +kernel) rfl) pa_nil))) (pe_and (pe_callB call_isiU (by rfl) E.z_isinstance (by decide +kernel) (pa_cons (pv 0) (pa_cons (pe_bltn (v := .ty "str") rfl E.z_str (by decide +kernel) rfl) pa_nil))) (pe_one (pe_cmpR (op_eqU hr.units) (pv 0) (pv 1) (nomark _)))))))))))
set_option maxHeartbeats 4000000 in
theorem ok__law_numbers (E : Env K mg)  : FnOk P w K mg base CX0 1 (He.ga K "_law_numbers") E.d__law_numbers ["script"] (sp__law_numbers K) := by
  refine E.F__law_numbers.ok sc__law_numbers (fun vs H Q E' h => len__law_numbers h) (fun cdv A outer s H vs Q E' hr h => ⟨(t__law_numbers K), PSs.nox ?_, pure__law_numbers vs H Q E' h⟩)
  exact (pss_cons (ps_set (i := 1) sc__law_numbers.nd rfl (by first | exact Or.inl rfl | exact Or.inr rfl) (pe_lst pa_nil)) (pss_cons (ps_for PassesOwn.never rfl (pi_seq (pe_slice sl_U (pv 0) po_none (po_some pe_int))) (pg_name (i := 2) sc__law_numbers.nd rfl (by first | exact Or.inl rfl | exact Or.inr rfl)) (pss_one (ps_if (pt_cmpR (op_geD hr.units) (pv 2) (pe_op op_powI pe_int pe_int) (nomark _)) (pss_cons (ps_set (i := 3) sc__law_numbers.nd rfl (by first | exact Or.inl rfl | exact Or.inr rfl) (pv 2)) (pss_one (ps_for PassesOwn.never rfl (pi_range1 (by rfl) E.z_range (pa_cons pe_int pa_nil)) (pg_name (i := 4) sc__law_numbers.nd rfl (by first | exact Or.inl rfl | exact Or.inr rfl)) (pss_cons (ps_if (pt_cmpR (op_eqU hr.units) (pv 3) pe_int (nomark _)) (pss_one ps_break) pss_nil) (pss_cons (ps_expr (pe_bm PySem.F.plainAttrs_list PySem.F.slot_list_append PySem.F.type_list_append mt_append (pv 1) (pa_cons (pe_op op_modI (pe_callTy call_intOf (by rfl) E.z_int (by decide +kernel) (pa_cons (pv 3) pa_nil)) pe_int) pa_nil))) (pss_one (ps_set (i := 3) sc__law_numbers.nd rfl (by first | exact Or.inl rfl | exact Or.inr rfl) (pe_op op_fdivI (pv 3) pe_int)))))))) (pss_one (ps_for PassesOwn.never rfl (pi_range1 (by rfl) E.z_range (pa_cons pe_int pa_nil)) (pg_name (i := 4) sc__law_numbers.nd rfl (by first | exact Or.inl rfl | exact Or.inr rfl)) (pss_cons (ps_set (i := 5) sc__law_numbers.nd rfl (by first | exact Or.inl rfl | exact Or.inr rfl) (pe_op op_modI (pe_callTy call_intOf (by rfl) E.z_int (by decide +kernel) (pa_cons (pe_op op_addU (pe_op op_addU (pe_op op_mulI (pv 2) pe_int) (pe_op op_mulI (pv 4) pe_int)) pe_int) pa_nil)) pe_int)) (pss_one (ps_expr (pe_bm PySem.F.plainAttrs_list PySem.F.slot_list_append PySem.F.type_list_append mt_append (pv 1) (pa_cons (pe_op op_modI (pe_callTy call_intOf (by rfl) E.z_int (by decide +kernel) (pa_cons (pe_op op_addU (pe_op op_mulI (pv 5) pe_int) (pv 4)) pa_nil)) pe_int) pa_nil)))))))))) (pss_cons (ps_if (pt_cmpR (op_eqU hr.units) (pe_callB call_lenU (by rfl) E.z_len (by decide +kernel) (pa_cons (pv 1) pa_nil)) pe_int (nomark _)) (pss_one (ps_expr (pe_bm PySem.F.plainAttrs_list PySem.F.slot_list_append PySem.F.type_list_append mt_append (pv 1) (pa_cons pe_int pa_nil)))) pss_nil) (pss_one (ps_ret (pv 1))))))
set_option maxHeartbeats 4000000 in
theorem ok__law_draw (E : Env K mg)  : FnOk P w K mg base CX0 1 (He.ga K "_law_draw") E.d__law_draw ["row", "at", "limit"] (sp__law_draw K) := by
  refine E.F__law_draw.ok sc__law_draw (fun vs H Q E' h => len__law_draw h) (fun cdv A outer s H vs Q E' hr h => ⟨(t__law_draw K), PSs.nox ?_, pure__law_draw vs H Q E' h⟩)
  exact (pss_cons (ps_if (pt_cmpR (op_ltD hr.units) (pv 1) (pe_callB call_lenU (by rfl) E.z_len (by decide +kernel) (pa_cons (pv 0) pa_nil)) (nomark _)) (pss_one (ps_ret (pe_op op_modI (pe_callTy call_intOf (by rfl) E.z_int (by decide +kernel) (pa_cons (pe_ixU (hu_of hr) (pv 0) (pv 1) (fun _ _ => rfl) (fun _ _ => rfl)) pa_nil)) (pv 2)))) pss_nil) (pss_cons (ps_set (i := 3) sc__law_draw.nd rfl (by first | exact Or.inl rfl | exact Or.inr rfl) (pe_op op_modI (pe_callTy call_intOf (by rfl) E.z_int (by decide +kernel) (pa_cons (pe_op op_addU (pe_op op_addU (pe_op op_mulI (pe_ixU (hu_of hr) (pv 0) (pe_op op_modI (pe_callTy call_intOf (by rfl) E.z_int (by decide +kernel) (pa_cons (pv 1) pa_nil)) (pe_callB call_lenU (by rfl) E.z_len (by decide +kernel) (pa_cons (pv 0) pa_nil))) (fun _ _ => rfl) (fun _ _ => rfl)) pe_int) (pe_op op_mulI (pv 1) pe_int)) pe_int) pa_nil)) pe_int)) (pss_one (ps_ret (pe_op op_modI (pe_callTy call_intOf (by rfl) E.z_int (by decide +kernel) (pa_cons (pe_op op_modI (pe_callTy call_intOf (by rfl) E.z_int (by decide +kernel) (pa_cons (pe_op op_addU (pe_op op_mulI (pv 3) pe_int) (pv 1)) pa_nil)) pe_int) pa_nil)) (pv 2))))))
set_option maxHeartbeats 4000000 in
theorem ok__law_take (E : Env K mg) (G__law_draw : FnOk P w K mg base CX0 1 (He.ga K "_law_draw") E.d__law_draw ["row", "at", "limit"] (sp__law_draw K)) : FnOk P w K mg base CX0 2 (He.ga K "_law_take") E.d__law_take ["row", "spot", "limit"] (sp__law_take K) := by
  refine E.F__law_take.ok sc__law_take (fun vs H Q E' h => len__law_take h) (fun cdv A outer s H vs Q E' hr h => ⟨(t__law_take K), PSs.nox ?_, pure__law_take vs H Q E' h⟩)
  exact (pss_cons (ps_asg (pe_op op_addU (pe_ixU (hu_of hr) (pv 1) pe_int (fun _ _ => rfl) (fun _ _ => rfl)) pe_int) (pg_sub (pv 1) pe_int (set_U (hu_of hr)))) (pss_one (ps_ret (pe_call G__law_draw (hr.mono (by decide)) rfl E.g__law_draw E.F__law_draw.kp E.b__law_draw .nil pass0 (pa_cons (pv 0) (pa_cons (pe_op op_sub (pe_ixU (hu_of hr) (pv 1) pe_int (fun _ _ => rfl) (fun _ _ => rfl)) pe_int) (pa_cons (pv 2) pa_nil)))))))
set_option maxHeartbeats 4000000 in
theorem ok__law_listed {n : Nat} (E : Env K mg) (G_self : FnOk P w K mg base CX0 (n + 1) (He.ga K "_law_listed") E.d__law_listed ["value"] (sp__law_listed K n)) : FnOk P w K mg base CX0 (n + 1 + 1) (He.ga K "_law_listed") E.d__law_listed ["value"] (sp__law_listed K (n + 1)) := by
  refine E.F__law_listed.ok sc__law_listed (fun vs H Q E' h => len__law_listed h) (fun cdv A outer s H vs Q E' hr h => ⟨(t__law_listed K n), PSs.nox ?_, pure__law_listed vs H Q E' h⟩)
  exact (pss_cons (ps_if (pt_val (pe_callB call_isiU (by rfl) E.z_isinstance (by decide +kernel) (pa_cons (pv 0) (pa_cons (pe_bltn (v := .ty "tuple") rfl E.z_tuple (by decide +kernel) rfl) pa_nil)))) (pss_one (ps_ret (pe_lc (own := [("one", 1)]) (g := (gName 1)) (tt := tYes) rfl sc__law_listed.nd (pi_seq (pv 0)) (blkOk_by (own := [("one", 1)]) (N := names__law_listed) (sc := defScope st__law_listed) (by decide +kernel)) (fun _ _ _ _ _ => (pg_name (i := 1) sc__law_listed.nd rfl (by first | exact Or.inl rfl | exact Or.inr rfl))) (fun _ _ _ _ _ => pts_nil) (fun _ _ _ _ _ => (pe_call G_self hr rfl E.g__law_listed E.F__law_listed.kp E.b__law_listed .nil pass0 (pa_cons (pv 1) pa_nil)))))) pss_nil) (pss_one (ps_ret (pv 0))))
set_option maxHeartbeats 4000000 in
theorem ok__law_handed (E : Env K mg) (G__law_take : FnOk P w K mg base CX0 2 (He.ga K "_law_take") E.d__law_take ["row", "spot", "limit"] (sp__law_take K)) (G__law_listed : FnOk P w K mg base CX0 9 (He.ga K "_law_listed") E.d__law_listed ["value"] (sp__law_listed K 8)) (G__law_levels : FnOk P w K mg base CX0 12 (He.ga K "_law_levels") E.d__law_levels ["row", "spot", "value"] (sp__law_levels K 9)) : FnOk P w K mg base CX0 13 (He.ga K "_law_handed") E.d__law_handed ["row", "spot", "value"] (sp__law_handed K) := by
  refine E.F__law_handed.ok sc__law_handed (fun vs H Q E' h => len__law_handed h) (fun cdv A outer s H vs Q E' hr h => ⟨(t__law_handed K), PSs.nox ?_, pure__law_handed vs H Q E' h⟩)
  exact (pss_cons (ps_set (i := 3) sc__law_handed.nd rfl (by first | exact Or.inl rfl | exact Or.inr rfl) (pe_call G__law_take (hr.mono (by decide)) rfl E.g__law_take E.F__law_take.kp E.b__law_take .nil pass0 (pa_cons (pv 0) (pa_cons (pv 1) (pa_cons pe_int pa_nil))))) (pss_cons (ps_if (pt_cmpR (op_eqU hr.units) (pv 3) pe_int (nomark _)) (pss_one (ps_ret (pe_call G__law_listed (hr.mono (by decide)) rfl E.g__law_listed E.F__law_listed.kp E.b__law_listed .nil pass0 (pa_cons (pv 2) pa_nil)))) pss_nil) (pss_one (ps_ret (pe_ifExp (pt_cmpR (op_eqU hr.units) (pv 3) pe_int (nomark _)) (pe_call G__law_levels (hr.mono (by decide)) rfl E.g__law_levels E.F__law_levels.kp E.b__law_levels .nil pass0 (pa_cons (pv 0) (pa_cons (pv 1) (pa_cons (pv 2) pa_nil)))) (pv 2))))))
set_option maxHeartbeats 4000000 in
theorem ok__law_levels {n : Nat} (E : Env K mg) (G__law_take : FnOk P w K mg base CX0 2 (He.ga K "_law_take") E.d__law_take ["row", "spot", "limit"] (sp__law_take K)) (G_self : FnOk P w K mg base CX0 (n + 3) (He.ga K "_law_levels") E.d__law_levels ["row", "spot", "value"] (sp__law_levels K n)) : FnOk P w K mg base CX0 (n + 3 + 1) (He.ga K "_law_levels") E.d__law_levels ["row", "spot", "value"] (sp__law_levels K (n + 1)) := by
  refine E.F__law_levels.ok sc__law_levels (fun vs H Q E' h => len__law_levels h) (fun cdv A outer s H vs Q E' hr h => ⟨(t__law_levels K n), PSs.nox ?_, pure__law_levels vs H Q E' h⟩)
  exact (pss_cons (ps_if (pt_not (pt_val (pe_callB call_isiU (by rfl) E.z_isinstance (by decide +kernel) (pa_cons (pv 2) (pa_cons (pe_bltn (v := .ty "tuple") rfl E.z_tuple (by decide +kernel) rfl) pa_nil))))) (pss_one (ps_ret (pv 2))) pss_nil) (pss_cons (ps_setLc (i := 3) (own := [("one", 4)]) (g := (gName 4)) (tt := tYes) rfl sc__law_levels.nd rfl rfl (sw_true rfl rfl rfl (by decide +kernel)) (pi_seq (pv 2)) (blkOk_by (own := [("one", 4)]) (N := names__law_levels) (sc := defScope st__law_levels) (by decide +kernel)) (fun _ _ _ _ _ => (pg_name (i := 4) sc__law_levels.nd rfl (by first | exact Or.inl rfl | exact Or.inr rfl))) (fun _ _ _ _ _ => pts_nil) (fun _ _ _ _ _ => (pe_call G_self hr rfl E.g__law_levels E.F__law_levels.kp E.b__law_levels .nil pass0 (pa_cons (pv 0) (pa_cons (pv 1) (pa_cons (pv 4) pa_nil)))))) (pss_one (ps_ret (pe_ifExp (pt_cmpR (op_eqU hr.units) (pe_call G__law_take (hr.mono (by omega)) rfl E.g__law_take E.F__law_take.kp E.b__law_take .nil pass0 (pa_cons (pv 0) (pa_cons (pv 1) (pa_cons pe_int pa_nil)))) pe_int (nomark _)) (pv 3) (pe_callTy call_tupOf (by rfl) E.z_tuple (by decide +kernel) (pa_cons (pv 3) pa_nil)))))))
set_option maxHeartbeats 4000000 in
theorem ok__law_pick (E : Env K mg) (G__law_take : FnOk P w K mg base CX0 2 (He.ga K "_law_take") E.d__law_take ["row", "spot", "limit"] (sp__law_take K)) : FnOk P w K mg base CX0 3 (He.ga K "_law_pick") E.d__law_pick ["row", "spot", "things"] (sp__law_pick K) := by
  refine E.F__law_pick.ok sc__law_pick (fun vs H Q E' h => len__law_pick h) (fun cdv A outer s H vs Q E' hr h => ⟨(t__law_pick K), PSs.nox ?_, pure__law_pick vs H Q E' h⟩)
  exact (pss_one (ps_ret (pe_ixU (hu_of hr) (pv 2) (pe_call G__law_take (hr.mono (by decide)) rfl E.g__law_take E.F__law_take.kp E.b__law_take .nil pass0 (pa_cons (pv 0) (pa_cons (pv 1) (pa_cons (pe_callB call_lenU (by rfl) E.z_len (by decide +kernel) (pa_cons (pv 2) pa_nil)) pa_nil)))) (fun _ _ => rfl) (fun _ _ => rfl))))
set_option maxHeartbeats 4000000 in
theorem ok__law_price_rows (E : Env K mg)  : FnOk P w K mg base CX0 1 (He.ga K "_law_price_rows") E.d__law_price_rows ["table", "word", "text"] (sp__law_price_rows K) := by
  refine E.F__law_price_rows.ok sc__law_price_rows (fun vs H Q E' h => len__law_price_rows h) (fun cdv A outer s H vs Q E' hr h => ⟨(t__law_price_rows K), PSs.nox ?_, pure__law_price_rows vs H Q E' h⟩)
  exact (pss_cons (ps_set (i := 3) sc__law_price_rows.nd rfl (by first | exact Or.inl rfl | exact Or.inr rfl) (pe_dispT (hu_of hr) (pe_tup (pa_cons pe_int (pa_cons pe_int pa_nil))) pe_int)) (pss_cons (ps_for PassesOwn.never rfl (pi_range1 (by rfl) E.z_range (pa_cons (pe_op op_addU (pe_op op_addU (pe_callB call_lenU (by rfl) E.z_len (by decide +kernel) (pa_cons (pv 1) pa_nil)) (pe_callB call_lenU (by rfl) E.z_len (by decide +kernel) (pa_cons (pv 2) pa_nil))) pe_int) pa_nil)) (pg_name (i := 4) sc__law_price_rows.nd rfl (by first | exact Or.inl rfl | exact Or.inr rfl)) (pss_one (ps_for PassesOwn.never rfl (pi_range1 (by rfl) E.z_range (pa_cons (pe_op op_addU (pe_callB (call_min2' rfl) (by rfl) E.z_min (by decide +kernel) (pa_cons (pv 4) (pa_cons (pe_callB call_lenU (by rfl) E.z_len (by decide +kernel) (pa_cons (pv 1) pa_nil)) pa_nil))) pe_int) pa_nil)) (pg_name (i := 5) sc__law_price_rows.nd rfl (by first | exact Or.inl rfl | exact Or.inr rfl)) (pss_cons (ps_set (i := 6) sc__law_price_rows.nd rfl (by first | exact Or.inl rfl | exact Or.inr rfl) (pe_op op_sub (pv 4) (pv 5))) (pss_one (ps_if (pt_cmpR (op_inU (hu_of hr)) (pe_tup (pa_cons (pv 5) (pa_cons (pv 6) pa_nil))) (pv 3) (by rfl)) (pss_cons (ps_set (i := 7) sc__law_price_rows.nd rfl (by first | exact Or.inl rfl | exact Or.inr rfl) (pe_ixU (hu_of hr) (pv 3) (pe_tup (pa_cons (pv 5) (pa_cons (pv 6) pa_nil))) (fun _ _ => rfl) (fun _ _ => rfl))) (pss_cons (ps_setLc (i := 8) (own := [("one", 9)]) (g := (gName 9)) (tt := (tAnd (tTest (tOp (rEqU K) (tSl (rSlU K) (tVar 1) (tPart (tVar 5)) (tPart (tOp (rAddU K) (tVar 5) (tCB (rLenU K) (tCons (tIxU K (tVar 9) (tC (.int 0))) tNil))))) (tIxU K (tVar 9) (tC (.int 0))))) (tTest (tOp (rEqU K) (tSl (rSlU K) (tVar 2) (tPart (tVar 6)) (tPart (tOp (rAddU K) (tVar 6) (tCB (rLenU K) (tCons (tIxU K (tVar 9) (tC (.int 1))) tNil))))) (tIxU K (tVar 9) (tC (.int 1))))))) rfl sc__law_price_rows.nd rfl rfl (sw_true rfl rfl rfl (by decide +kernel)) (pi_seq (pv 0)) (blkOk_by (own := [("one", 9)]) (N := names__law_price_rows) (sc := defScope st__law_price_rows) (by decide +kernel)) (fun _ _ _ _ _ => (pg_name (i := 9) sc__law_price_rows.nd rfl (by first | exact Or.inl rfl | exact Or.inr rfl))) (fun _ _ _ _ _ => (pts_one (PW.pt (pw_and (pt_cmpR (op_eqU hr.units) (pe_slice sl_U (pv 1) (po_some (pv 5)) (po_some (pe_op op_addU (pv 5) (pe_callB call_lenU (by rfl) E.z_len (by decide +kernel) (pa_cons (pe_ixU (hu_of hr) (pv 9) pe_int (fun _ _ => rfl) (fun _ _ => rfl)) pa_nil))))) (pe_ixU (hu_of hr) (pv 9) pe_int (fun _ _ => rfl) (fun _ _ => rfl)) (nomark _)) (pw_and1 (pt_cmpR (op_eqU hr.units) (pe_slice sl_U (pv 2) (po_some (pv 6)) (po_some (pe_op op_addU (pv 6) (pe_callB call_lenU (by rfl) E.z_len (by decide +kernel) (pa_cons (pe_ixU (hu_of hr) (pv 9) pe_int (fun _ _ => rfl) (fun _ _ => rfl)) pa_nil))))) (pe_ixU (hu_of hr) (pv 9) pe_int (fun _ _ => rfl) (fun _ _ => rfl)) (nomark _))))))) (fun _ _ _ _ _ => (pv 9))) (pss_cons (ps_if (PW.pt (pw_and (pt_cmpR (op_ltD hr.units) (pv 5) (pe_callB call_lenU (by rfl) E.z_len (by decide +kernel) (pa_cons (pv 1) pa_nil)) (nomark _)) (pw_and (pt_cmpR (op_ltD hr.units) (pv 6) (pe_callB call_lenU (by rfl) E.z_len (by decide +kernel) (pa_cons (pv 2) pa_nil)) (nomark _)) (pw_and1 (pt_cmpR (op_eqU hr.units) (pe_ixU (hu_of hr) (pv 1) (pv 5) (fun _ _ => rfl) (fun _ _ => rfl)) (pe_ixU (hu_of hr) (pv 2) (pv 6) (fun _ _ => rfl) (fun _ _ => rfl)) (nomark _)))))) (pss_one (ps_expr (pe_bm PySem.F.plainAttrs_list PySem.F.slot_list_append PySem.F.type_list_append mt_append (pv 8) (pa_cons (pe_tup (pa_cons (pe_ixU (hu_of hr) (pv 1) (pv 5) (fun _ _ => rfl) (fun _ _ => rfl)) (pa_cons (pe_ixU (hu_of hr) (pv 1) (pv 5) (fun _ _ => rfl) (fun _ _ => rfl)) (pa_cons pe_int pa_nil)))) pa_nil)))) pss_nil) (pss_one (ps_for PassesOwn.never rfl (pi_seq (pv 8)) (pg_name (i := 9) sc__law_price_rows.nd rfl (by first | exact Or.inl rfl | exact Or.inr rfl)) (pss_cons (ps_set (i := 10) sc__law_price_rows.nd rfl (by first | exact Or.inl rfl | exact Or.inr rfl) (pe_tup (pa_cons (pe_op op_addU (pv 5) (pe_callB call_lenU (by rfl) E.z_len (by decide +kernel) (pa_cons (pe_ixU (hu_of hr) (pv 9) pe_int (fun _ _ => rfl) (fun _ _ => rfl)) pa_nil))) (pa_cons (pe_op op_addU (pv 6) (pe_callB call_lenU (by rfl) E.z_len (by decide +kernel) (pa_cons (pe_ixU (hu_of hr) (pv 9) pe_int (fun _ _ => rfl) (fun _ _ => rfl)) pa_nil))) pa_nil)))) (pss_one (ps_if (PW.pt (pw_or (pt_cmpR (op_notInU (hu_of hr)) (pv 10) (pv 3) (by rfl)) (pw_or1 (pt_cmpR (op_ltD hr.units) (pe_op op_addU (pv 7) (pe_ixU (hu_of hr) (pv 9) pe_int (fun _ _ => rfl) (fun _ _ => rfl))) (pe_ixU (hu_of hr) (pv 3) (pv 10) (fun _ _ => rfl) (fun _ _ => rfl)) (nomark _))))) (pss_one (ps_asg (pe_op op_addU (pv 7) (pe_ixU (hu_of hr) (pv 9) pe_int (fun _ _ => rfl) (fun _ _ => rfl))) (pg_sub (pv 3) (pv 10) (set_U (hu_of hr))))) pss_nil)))))))) pss_nil)))))) (pss_one (ps_ret (pv 3)))))
set_option maxHeartbeats 4000000 in
theorem ok__law_price (E : Env K mg) (G__law_price_rows : FnOk P w K mg base CX0 1 (He.ga K "_law_price_rows") E.d__law_price_rows ["table", "word", "text"] (sp__law_price_rows K)) : FnOk P w K mg base CX0 2 (He.ga K "_law_price") E.d__law_price ["table", "word", "text"] (sp__law_price K) := by
  refine E.F__law_price.ok sc__law_price (fun vs H Q E' h => len__law_price h) (fun cdv A outer s H vs Q E' hr h => ⟨(t__law_price K), PSs.nox ?_, pure__law_price vs H Q E' h⟩)
  exact (pss_cons (ps_set (i := 3) sc__law_price.nd rfl (by first | exact Or.inl rfl | exact Or.inr rfl) (pe_call G__law_price_rows (hr.mono (by decide)) rfl E.g__law_price_rows E.F__law_price_rows.kp E.b__law_price_rows .nil pass0 (pa_cons (pv 0) (pa_cons (pv 1) (pa_cons (pv 2) pa_nil))))) (pss_one (ps_ret (pe_ifExp (pt_cmpR (op_inU (hu_of hr)) (pe_tup (pa_cons (pe_callB call_lenU (by rfl) E.z_len (by decide +kernel) (pa_cons (pv 1) pa_nil)) (pa_cons (pe_callB call_lenU (by rfl) E.z_len (by decide +kernel) (pa_cons (pv 2) pa_nil)) pa_nil))) (pv 3) (by rfl)) (pe_ixU (hu_of hr) (pv 3) (pe_tup (pa_cons (pe_callB call_lenU (by rfl) E.z_len (by decide +kernel) (pa_cons (pv 1) pa_nil)) (pa_cons (pe_callB call_lenU (by rfl) E.z_len (by decide +kernel) (pa_cons (pv 2) pa_nil)) pa_nil))) (fun _ _ => rfl) (fun _ _ => rfl)) pe_non))))
set_option maxHeartbeats 4000000 in
theorem ok__law_letters (E : Env K mg) (G__law_take : FnOk P w K mg base CX0 2 (He.ga K "_law_take") E.d__law_take ["row", "spot", "limit"] (sp__law_take K)) : FnOk P w K mg base CX0 3 (He.ga K "_law_letters") E.d__law_letters ["row", "spot", "most", "few"] (sp__law_letters K) := by
  refine E.F__law_letters.ok sc__law_letters (fun vs H Q E' h => len__law_letters h) (fun cdv A outer s H vs Q E' hr h => ⟨(t__law_letters K), PSs.nox ?_, pure__law_letters vs H Q E' h⟩)
  exact (pss_cons (ps_set (i := 4) sc__law_letters.nd rfl (by first | exact Or.inl rfl | exact Or.inr rfl) pe_str) (pss_cons (ps_for PassesOwn.never rfl (pi_range1 (by rfl) E.z_range (pa_cons (pe_call G__law_take (hr.mono (by decide)) rfl E.g__law_take E.F__law_take.kp E.b__law_take .nil pass0 (pa_cons (pv 0) (pa_cons (pv 1) (pa_cons (pe_op op_addU (pv 2) pe_int) pa_nil)))) pa_nil)) (pg_name (i := 5) sc__law_letters.nd rfl (by first | exact Or.inl rfl | exact Or.inr rfl)) (pss_one (ps_set (i := 4) sc__law_letters.nd rfl (by first | exact Or.inl rfl | exact Or.inr rfl) (pe_op op_addU (pv 4) (pe_ixU (hu_of hr) (pv 3) (pe_call G__law_take (hr.mono (by decide)) rfl E.g__law_take E.F__law_take.kp E.b__law_take .nil pass0 (pa_cons (pv 0) (pa_cons (pv 1) (pa_cons (pe_callB call_lenU (by rfl) E.z_len (by decide +kernel) (pa_cons (pv 3) pa_nil)) pa_nil)))) (fun _ _ => rfl) (fun _ _ => rfl)))))) (pss_one (ps_ret (pv 4)))))
set_option maxHeartbeats 4000000 in
theorem ok__law_few (E : Env K mg) (G__law_take : FnOk P w K mg base CX0 2 (He.ga K "_law_take") E.d__law_take ["row", "spot", "limit"] (sp__law_take K)) : FnOk P w K mg base CX0 3 (He.ga K "_law_few") E.d__law_few ["row", "spot", "sizes"] (sp__law_few K) := by
  refine E.F__law_few.ok sc__law_few (fun vs H Q E' h => len__law_few h) (fun cdv A outer s H vs Q E' hr h => ⟨(t__law_few K), PSs.nox ?_, pure__law_few vs H Q E' h⟩)
  exact (pss_cons (ps_set (i := 3) sc__law_few.nd rfl (by first | exact Or.inl rfl | exact Or.inr rfl) (pe_ixU (hu_of hr) (pv 2) (pe_call G__law_take (hr.mono (by decide)) rfl E.g__law_take E.F__law_take.kp E.b__law_take .nil pass0 (pa_cons (pv 0) (pa_cons (pv 1) (pa_cons (pe_callB call_lenU (by rfl) E.z_len (by decide +kernel) (pa_cons (pv 2) pa_nil)) pa_nil)))) (fun _ _ => rfl) (fun _ _ => rfl))) (pss_cons (ps_set (i := 4) sc__law_few.nd rfl (by first | exact Or.inl rfl | exact Or.inr rfl) pe_str) (pss_cons (ps_for PassesOwn.never rfl (pi_range1 (by rfl) E.z_range (pa_cons pe_int pa_nil)) (pg_name (i := 5) sc__law_few.nd rfl (by first | exact Or.inl rfl | exact Or.inr rfl)) (pss_one (ps_if (PW.pt (pw_and (pt_cmpR (op_ltD hr.units) (pe_callB call_lenU (by rfl) E.z_len (by decide +kernel) (pa_cons (pv 4) pa_nil)) (pv 3) (nomark _)) (pw_and1 (pt_cmpR (op_ltD hr.units) (pe_call G__law_take (hr.mono (by decide)) rfl E.g__law_take E.F__law_take.kp E.b__law_take .nil pass0 (pa_cons (pv 0) (pa_cons (pv 1) (pa_cons (pe_op op_sub pe_int (pv 5)) pa_nil)))) (pe_op op_sub (pv 3) (pe_callB call_lenU (by rfl) E.z_len (by decide +kernel) (pa_cons (pv 4) pa_nil))) (nomark _))))) (pss_one (ps_set (i := 4) sc__law_few.nd rfl (by first | exact Or.inl rfl | exact Or.inr rfl) (pe_op op_addU (pv 4) (pe_ixU (hu_of hr) pe_str (pv 5) (fun _ _ => rfl) (fun _ _ => rfl))))) pss_nil))) (pss_one (ps_ret (pv 4))))))
set_option maxHeartbeats 4000000 in
theorem ok__law_table (E : Env K mg) (G__law_take : FnOk P w K mg base CX0 2 (He.ga K "_law_take") E.d__law_take ["row", "spot", "limit"] (sp__law_take K)) (G__law_letters : FnOk P w K mg base CX0 3 (He.ga K "_law_letters") E.d__law_letters ["row", "spot", "most", "few"] (sp__law_letters K)) : FnOk P w K mg base CX0 5 (He.ga K "_law_table") E.d__law_table ["row", "spot", "many", "few"] (sp__law_table K) := by
  refine E.F__law_table.ok sc__law_table (fun vs H Q E' h => len__law_table h) (fun cdv A outer s H vs Q E' hr h => ⟨(t__law_table K), PSs.nox ?_, pure__law_table vs H Q E' h⟩)
  exact (pss_cons (ps_set (i := 4) sc__law_table.nd rfl (by first | exact Or.inl rfl | exact Or.inr rfl) pe_dnewT) (pss_cons (ps_for PassesOwn.never rfl (pi_range1 (by rfl) E.z_range (pa_cons (pe_call G__law_take (hr.mono (by decide)) rfl E.g__law_take E.F__law_take.kp E.b__law_take .nil pass0 (pa_cons (pv 0) (pa_cons (pv 1) (pa_cons (pe_op op_addU (pv 2) pe_int) pa_nil)))) pa_nil)) (pg_name (i := 5) sc__law_table.nd rfl (by first | exact Or.inl rfl | exact Or.inr rfl)) (pss_cons (ps_set (i := 6) sc__law_table.nd rfl (by first | exact Or.inl rfl | exact Or.inr rfl) (pe_call G__law_take (hr.mono (by decide)) rfl E.g__law_take E.F__law_take.kp E.b__law_take .nil pass0 (pa_cons (pv 0) (pa_cons (pv 1) (pa_cons pe_int pa_nil))))) (pss_cons (ps_set (i := 7) sc__law_table.nd rfl (by first | exact Or.inl rfl | exact Or.inr rfl) (pe_call G__law_letters (hr.mono (by decide)) rfl E.g__law_letters E.F__law_letters.kp E.b__law_letters .nil pass0 (pa_cons (pv 0) (pa_cons (pv 1) (pa_cons pe_int (pa_cons (pv 3) pa_nil)))))) (pss_cons (ps_set (i := 8) sc__law_table.nd rfl (by first | exact Or.inl rfl | exact Or.inr rfl) (pe_call G__law_letters (hr.mono (by decide)) rfl E.g__law_letters E.F__law_letters.kp E.b__law_letters .nil pass0 (pa_cons (pv 0) (pa_cons (pv 1) (pa_cons pe_int (pa_cons (pv 3) pa_nil)))))) (pss_cons (ps_if (pt_cmpR (op_eqU hr.units) (pv 6) pe_int (nomark _)) (pss_one (ps_set (i := 7) sc__law_table.nd rfl (by first | exact Or.inl rfl | exact Or.inr rfl) pe_str)) (pss_one (ps_if (pt_cmpR (op_eqU hr.units) (pv 6) pe_int (nomark _)) (pss_one (ps_set (i := 8) sc__law_table.nd rfl (by first | exact Or.inl rfl | exact Or.inr rfl) pe_str)) (pss_one (ps_if (PW.pt (pw_and (pt_cmpR (op_eqU hr.units) (pv 6) pe_int (nomark _)) (pw_and1 (pt_cmpR (op_eqU hr.units) (pe_callB call_lenU (by rfl) E.z_len (by decide +kernel) (pa_cons (pv 7) pa_nil)) pe_int (nomark _))))) (pss_one (ps_set (i := 8) sc__law_table.nd rfl (by first | exact Or.inl rfl | exact Or.inr rfl) (pe_op op_addU (pe_ixU (hu_of hr) (pv 7) pe_int (fun _ _ => rfl) (fun _ _ => rfl)) (pe_ixU (hu_of hr) (pv 7) pe_int (fun _ _ => rfl) (fun _ _ => rfl))))) pss_nil))))) (pss_one (ps_if (pt_cmpR (op_neU hr.units) (pv 7) (pv 8) (nomark _)) (pss_one (ps_asg (pe_op op_addU pe_int (pe_call G__law_take (hr.mono (by decide)) rfl E.g__law_take E.F__law_take.kp E.b__law_take .nil pass0 (pa_cons (pv 0) (pa_cons (pv 1) (pa_cons (pe_ixU (hu_of hr) (pe_lst (pa_cons pe_int (pa_cons pe_int (pa_cons pe_int pa_nil)))) (pe_call G__law_take (hr.mono (by decide)) rfl E.g__law_take E.F__law_take.kp E.b__law_take .nil pass0 (pa_cons (pv 0) (pa_cons (pv 1) (pa_cons pe_int pa_nil)))) (fun _ _ => rfl) (fun _ _ => rfl)) pa_nil))))) (pg_sub (pv 4) (pe_tup (pa_cons (pv 7) (pa_cons (pv 8) pa_nil))) (set_U (hu_of hr))))) pss_nil))))))) (pss_one (ps_ret (pe_callTy call_tupOf (by rfl) E.z_tuple (by decide +kernel) (pa_cons (pe_lc (own := [("one", 7)]) (g := (gName 7)) (tt := tYes) rfl sc__law_table.nd (pi_seq (pe_callB (call_sortU (by rfl) hr.units) (by rfl) E.z_sorted (by decide +kernel) (pa_cons (pv 4) pa_nil))) (blkOk_by (own := [("one", 7)]) (N := names__law_table) (sc := defScope st__law_table) (by decide +kernel)) (fun _ _ _ _ _ => (pg_name (i := 7) sc__law_table.nd rfl (by first | exact Or.inl rfl | exact Or.inr rfl))) (fun _ _ _ _ _ => pts_nil) (fun _ _ _ _ _ => (pe_op op_addU (pv 7) (pe_tup (pa_cons (pe_ixU (hu_of hr) (pv 4) (pv 7) (fun _ _ => rfl) (fun _ _ => rfl)) pa_nil))))) pa_nil))))))
set_option maxHeartbeats 4000000 in
theorem ok__law_misspelt (E : Env K mg) (G__law_take : FnOk P w K mg base CX0 2 (He.ga K "_law_take") E.d__law_take ["row", "spot", "limit"] (sp__law_take K)) (G__law_pick : FnOk P w K mg base CX0 3 (He.ga K "_law_pick") E.d__law_pick ["row", "spot", "things"] (sp__law_pick K)) : FnOk P w K mg base CX0 4 (He.ga K "_law_misspelt") E.d__law_misspelt ["row", "spot", "table", "word", "most"] (sp__law_misspelt K) := by
  refine E.F__law_misspelt.ok sc__law_misspelt (fun vs H Q E' h => len__law_misspelt h) (fun cdv A outer s H vs Q E' hr h => ⟨(t__law_misspelt K), PSs.nox ?_, pure__law_misspelt vs H Q E' h⟩)
  exact (pss_cons (ps_set (i := 5) sc__law_misspelt.nd rfl (by first | exact Or.inl rfl | exact Or.inr rfl) pe_str) (pss_cons (ps_set (i := 6) sc__law_misspelt.nd rfl (by first | exact Or.inl rfl | exact Or.inr rfl) pe_int) (pss_cons (ps_set (i := 7) sc__law_misspelt.nd rfl (by first | exact Or.inl rfl | exact Or.inr rfl) (pv 4)) (pss_cons (ps_for PassesOwn.never rfl (pi_range1 (by rfl) E.z_range (pa_cons pe_int pa_nil)) (pg_name (i := 8) sc__law_misspelt.nd rfl (by first | exact Or.inl rfl | exact Or.inr rfl)) (pss_cons (ps_setLc (i := 9) (own := [("one", 10)]) (g := (gName 10)) (tt := (tAnd (tTest (tOp (rEqU K) (tSl (rSlU K) (tVar 3) (tPart (tVar 6)) (tPart (tOp (rAddU K) (tVar 6) (tCB (rLenU K) (tCons (tIxU K (tVar 10) (tC (.int 0))) tNil))))) (tIxU K (tVar 10) (tC (.int 0))))) (tTest (tOp (rCmp K gLe) (tIxU K (tVar 10) (tC (.int 2))) (tVar 7))))) rfl sc__law_misspelt.nd rfl rfl (sw_true rfl rfl rfl (by decide +kernel)) (pi_seq (pv 2)) (blkOk_by (own := [("one", 10)]) (N := names__law_misspelt) (sc := defScope st__law_misspelt) (by decide +kernel)) (fun _ _ _ _ _ => (pg_name (i := 10) sc__law_misspelt.nd rfl (by first | exact Or.inl rfl | exact Or.inr rfl))) (fun _ _ _ _ _ => (pts_one (PW.pt (pw_and (pt_cmpR (op_eqU hr.units) (pe_slice sl_U (pv 3) (po_some (pv 6)) (po_some (pe_op op_addU (pv 6) (pe_callB call_lenU (by rfl) E.z_len (by decide +kernel) (pa_cons (pe_ixU (hu_of hr) (pv 10) pe_int (fun _ _ => rfl) (fun _ _ => rfl)) pa_nil))))) (pe_ixU (hu_of hr) (pv 10) pe_int (fun _ _ => rfl) (fun _ _ => rfl)) (nomark _)) (pw_and1 (pt_cmpR (op_leD hr.units) (pe_ixU (hu_of hr) (pv 10) pe_int (fun _ _ => rfl) (fun _ _ => rfl)) (pv 7) (nomark _))))))) (fun _ _ _ _ _ => (pv 10))) (pss_one (ps_if (PW.pt (pw_and (pt_cmpR (op_gtD hr.units) (pe_callB call_lenU (by rfl) E.z_len (by decide +kernel) (pa_cons (pv 9) pa_nil)) pe_int (nomark _)) (pw_and1 (pt_cmpR (op_eqU hr.units) (pe_call G__law_take (hr.mono (by decide)) rfl E.g__law_take E.F__law_take.kp E.b__law_take .nil pass0 (pa_cons (pv 0) (pa_cons (pv 1) (pa_cons pe_int pa_nil)))) pe_int (nomark _))))) (pss_cons (ps_set (i := 10) sc__law_misspelt.nd rfl (by first | exact Or.inl rfl | exact Or.inr rfl) (pe_call G__law_pick (hr.mono (by decide)) rfl E.g__law_pick E.F__law_pick.kp E.b__law_pick .nil pass0 (pa_cons (pv 0) (pa_cons (pv 1) (pa_cons (pv 9) pa_nil))))) (pss_cons (ps_set (i := 5) sc__law_misspelt.nd rfl (by first | exact Or.inl rfl | exact Or.inr rfl) (pe_op op_addU (pv 5) (pe_ixU (hu_of hr) (pv 10) pe_int (fun _ _ => rfl) (fun _ _ => rfl)))) (pss_cons (ps_set (i := 6) sc__law_misspelt.nd rfl (by first | exact Or.inl rfl | exact Or.inr rfl) (pe_op op_addU (pv 6) (pe_callB call_lenU (by rfl) E.z_len (by decide +kernel) (pa_cons (pe_ixU (hu_of hr) (pv 10) pe_int (fun _ _ => rfl) (fun _ _ => rfl)) pa_nil)))) (pss_one (ps_set (i := 7) sc__law_misspelt.nd rfl (by first | exact Or.inl rfl | exact Or.inr rfl) (pe_op op_sub (pv 7) (pe_ixU (hu_of hr) (pv 10) pe_int (fun _ _ => rfl) (fun _ _ => rfl)))))))) (pss_one (ps_if (pt_cmpR (op_ltD hr.units) (pv 6) (pe_callB call_lenU (by rfl) E.z_len (by decide +kernel) (pa_cons (pv 3) pa_nil)) (nomark _)) (pss_cons (ps_set (i := 5) sc__law_misspelt.nd rfl (by first | exact Or.inl rfl | exact Or.inr rfl) (pe_op op_addU (pv 5) (pe_ixU (hu_of hr) (pv 3) (pv 6) (fun _ _ => rfl) (fun _ _ => rfl)))) (pss_one (ps_set (i := 6) sc__law_misspelt.nd rfl (by first | exact Or.inl rfl | exact Or.inr rfl) (pe_op op_addU (pv 6) pe_int)))) (pss_one ps_break))))))) (pss_one (ps_ret (pv 5)))))))
set_option maxHeartbeats 4000000 in
theorem ok__law_other_table (E : Env K mg) (G__law_take : FnOk P w K mg base CX0 2 (He.ga K "_law_take") E.d__law_take ["row", "spot", "limit"] (sp__law_take K)) (G__law_table : FnOk P w K mg base CX0 5 (He.ga K "_law_table") E.d__law_table ["row", "spot", "many", "few"] (sp__law_table K)) (G__law_pick : FnOk P w K mg base CX0 3 (He.ga K "_law_pick") E.d__law_pick ["row", "spot", "things"] (sp__law_pick K)) : FnOk P w K mg base CX0 7 (He.ga K "_law_other_table") E.d__law_other_table ["row", "spot", "table", "few"] (sp__law_other_table K) := by
  refine E.F__law_other_table.ok sc__law_other_table (fun vs H Q E' h => len__law_other_table h) (fun cdv A outer s H vs Q E' hr h => ⟨(t__law_other_table K), PSs.nox ?_, pure__law_other_table vs H Q E' h⟩)
  exact (pss_cons (ps_set (i := 4) sc__law_other_table.nd rfl (by first | exact Or.inl rfl | exact Or.inr rfl) (pe_call G__law_take (hr.mono (by decide)) rfl E.g__law_take E.F__law_take.kp E.b__law_take .nil pass0 (pa_cons (pv 0) (pa_cons (pv 1) (pa_cons pe_int pa_nil))))) (pss_cons (ps_set (i := 5) sc__law_other_table.nd rfl (by first | exact Or.inl rfl | exact Or.inr rfl) pe_dnewT) (pss_cons (ps_for PassesOwn.never rfl (pi_seq (pv 2)) (pg_name (i := 6) sc__law_other_table.nd rfl (by first | exact Or.inl rfl | exact Or.inr rfl)) (pss_one (ps_asg (pe_ixU (hu_of hr) (pv 6) pe_int (fun _ _ => rfl) (fun _ _ => rfl)) (pg_sub (pv 5) (pe_slice sl_U (pv 6) po_none (po_some pe_int)) (set_U (hu_of hr)))))) (pss_cons (ps_if (PW.pt (pw_or (pt_cmpR (op_eqU hr.units) (pv 4) pe_int (nomark _)) (pw_or1 (pt_cmpR (op_eqU hr.units) (pe_callB call_lenU (by rfl) E.z_len (by decide +kernel) (pa_cons (pv 2) pa_nil)) pe_int (nomark _))))) (pss_one (ps_ret (pe_call G__law_table (hr.mono (by decide)) rfl E.g__law_table E.F__law_table.kp E.b__law_table .nil pass0 (pa_cons (pv 0) (pa_cons (pv 1) (pa_cons pe_int (pa_cons (pv 3) pa_nil))))))) pss_nil) (pss_cons (ps_if (pt_cmpR (op_eqU hr.units) (pv 4) pe_int (nomark _)) (pss_one (ps_for PassesOwn.never rfl (pi_range1 (by rfl) E.z_range (pa_cons pe_int pa_nil)) (pg_name (i := 7) sc__law_other_table.nd rfl (by first | exact Or.inl rfl | exact Or.inr rfl)) (pss_cons (ps_par (by rfl) sc__law_other_table.nd rfl rfl (by decide) rfl rfl (pa_cons (pe_call G__law_pick (hr.mono (by decide)) rfl E.g__law_pick E.F__law_pick.kp E.b__law_pick .nil pass0 (pa_cons (pv 0) (pa_cons (pv 1) (pa_cons (pv 2) pa_nil)))) (pa_cons (pe_call G__law_pick (hr.mono (by decide)) rfl E.g__law_pick E.F__law_pick.kp E.b__law_pick .nil pass0 (pa_cons (pv 0) (pa_cons (pv 1) (pa_cons (pv 2) pa_nil)))) pa_nil)) (by rfl)) (pss_cons (ps_set (i := 9) sc__law_other_table.nd rfl (by first | exact Or.inl rfl | exact Or.inr rfl) (pe_tup (pa_cons (pe_op op_addU (pe_ixU (hu_of hr) (pv 6) pe_int (fun _ _ => rfl) (fun _ _ => rfl)) (pe_ixU (hu_of hr) (pv 8) pe_int (fun _ _ => rfl) (fun _ _ => rfl))) (pa_cons (pe_op op_addU (pe_ixU (hu_of hr) (pv 6) pe_int (fun _ _ => rfl) (fun _ _ => rfl)) (pe_ixU (hu_of hr) (pv 8) pe_int (fun _ _ => rfl) (fun _ _ => rfl))) pa_nil)))) (pss_one (ps_if (PW.pt (pw_and (pt_cmpR (op_ltD hr.units) (pe_callB call_lenU (by rfl) E.z_len (by decide +kernel) (pa_cons (pe_ixU (hu_of hr) (pv 9) pe_int (fun _ _ => rfl) (fun _ _ => rfl)) pa_nil)) pe_int (nomark _)) (pw_and (pt_cmpR (op_ltD hr.units) (pe_callB call_lenU (by rfl) E.z_len (by decide +kernel) (pa_cons (pe_ixU (hu_of hr) (pv 9) pe_int (fun _ _ => rfl) (fun _ _ => rfl)) pa_nil)) pe_int (nomark _)) (pw_and (pt_cmpR (op_neU hr.units) (pe_ixU (hu_of hr) (pv 9) pe_int (fun _ _ => rfl) (fun _ _ => rfl)) (pe_ixU (hu_of hr) (pv 9) pe_int (fun _ _ => rfl) (fun _ _ => rfl)) (nomark _)) (pw_and (pt_cmpR (op_notInU (hu_of hr)) (pv 9) (pv 5) (by rfl)) (pw_and1 (pt_cmpR (op_ltD hr.units) (pe_op op_addU (pe_ixU (hu_of hr) (pv 6) pe_int (fun _ _ => rfl) (fun _ _ => rfl)) (pe_ixU (hu_of hr) (pv 8) pe_int (fun _ _ => rfl) (fun _ _ => rfl))) pe_int (nomark _)))))))) (pss_one (ps_asg (pe_op op_addU (pe_op op_addU (pe_ixU (hu_of hr) (pv 6) pe_int (fun _ _ => rfl) (fun _ _ => rfl)) (pe_ixU (hu_of hr) (pv 8) pe_int (fun _ _ => rfl) (fun _ _ => rfl))) (pe_call G__law_take (hr.mono (by decide)) rfl E.g__law_take E.F__law_take.kp E.b__law_take .nil pass0 (pa_cons (pv 0) (pa_cons (pv 1) (pa_cons pe_int pa_nil))))) (pg_sub (pv 5) (pv 9) (set_U (hu_of hr))))) pss_nil)))))) (pss_one (ps_if (pt_cmpR (op_eqU hr.units) (pv 4) pe_int (nomark _)) (pss_cons (ps_set (i := 6) sc__law_other_table.nd rfl (by first | exact Or.inl rfl | exact Or.inr rfl) (pe_call G__law_pick (hr.mono (by decide)) rfl E.g__law_pick E.F__law_pick.kp E.b__law_pick .nil pass0 (pa_cons (pv 0) (pa_cons (pv 1) (pa_cons (pv 2) pa_nil))))) (pss_one (ps_asg (pe_callB (call_min2' rfl) (by rfl) E.z_min (by decide +kernel) (pa_cons pe_int (pa_cons (pe_callB (call_max2' rfl) (by rfl) E.z_max (by decide +kernel) (pa_cons pe_int (pa_cons (pe_op op_sub (pe_op op_addU (pe_ixU (hu_of hr) (pv 6) pe_int (fun _ _ => rfl) (fun _ _ => rfl)) (pe_call G__law_take (hr.mono (by decide)) rfl E.g__law_take E.F__law_take.kp E.b__law_take .nil pass0 (pa_cons (pv 0) (pa_cons (pv 1) (pa_cons pe_int pa_nil))))) pe_int) pa_nil))) pa_nil))) (pg_sub (pv 5) (pe_slice sl_U (pv 6) po_none (po_some pe_int)) (set_U (hu_of hr)))))) (pss_one (ps_if (pt_cmpR (op_eqU hr.units) (pv 4) pe_int (nomark _)) (pss_one (ps_expr (pe_bm PySem.F.plainAttrs_dict PySem.F.slot_dict_pop PySem.F.type_dict_pop (mt_popT1 (hu_of hr)) (pv 5) (pa_cons (pe_slice sl_U (pe_call G__law_pick (hr.mono (by decide)) rfl E.g__law_pick E.F__law_pick.kp E.b__law_pick .nil pass0 (pa_cons (pv 0) (pa_cons (pv 1) (pa_cons (pv 2) pa_nil)))) po_none (po_some pe_int)) pa_nil)))) pss_nil))))) (pss_cons (ps_setLc (i := 10) (own := [("key", 9)]) (g := (gName 9)) (tt := tYes) rfl sc__law_other_table.nd rfl rfl (sw_true rfl rfl rfl (by decide +kernel)) (pi_seq (pe_callB (call_sortU (by rfl) hr.units) (by rfl) E.z_sorted (by decide +kernel) (pa_cons (pv 5) pa_nil))) (blkOk_by (own := [("key", 9)]) (N := names__law_other_table) (sc := defScope st__law_other_table) (by decide +kernel)) (fun _ _ _ _ _ => (pg_name (i := 9) sc__law_other_table.nd rfl (by first | exact Or.inl rfl | exact Or.inr rfl))) (fun _ _ _ _ _ => pts_nil) (fun _ _ _ _ _ => (pe_op op_addU (pv 9) (pe_tup (pa_cons (pe_callB (call_min2' rfl) (by rfl) E.z_min (by decide +kernel) (pa_cons pe_int (pa_cons (pe_ixU (hu_of hr) (pv 5) (pv 9) (fun _ _ => rfl) (fun _ _ => rfl)) pa_nil))) pa_nil))))) (pss_one (ps_ret (pe_callTy call_tupOf (by rfl) E.z_tuple (by decide +kernel) (pa_cons (pe_slice sl_U (pv 10) po_none (po_some pe_int)) pa_nil))))))))))
set_option maxHeartbeats 4000000 in
theorem ok__law_differ (E : Env K mg) (G__law_price : FnOk P w K mg base CX0 2 (He.ga K "_law_price") E.d__law_price ["table", "word", "text"] (sp__law_price K)) : FnOk P w K mg base CX0 4 (He.ga K "_law_differ") E.d__law_differ ["one", "other"] (sp__law_differ K) := by
  refine E.F__law_differ.ok sc__law_differ (fun vs H Q E' h => len__law_differ h) (fun cdv A outer s H vs Q E' hr h => ⟨(t__law_differ K), PSs.nox ?_, pure__law_differ vs H Q E' h⟩)
  exact (pss_cons (ps_set (i := 2) sc__law_differ.nd rfl (by first | exact Or.inl rfl | exact Or.inr rfl) (pe_lst pa_nil)) (pss_cons (ps_for PassesOwn.never rfl (pi_seq (pe_op op_addU (pv 0) (pv 1))) (pg_name (i := 3) sc__law_differ.nd rfl (by first | exact Or.inl rfl | exact Or.inr rfl)) (pss_cons (ps_par (by rfl) sc__law_differ.nd rfl rfl (by decide) rfl rfl (pa_cons (pe_call G__law_price (hr.mono (by decide)) rfl E.g__law_price E.F__law_price.kp E.b__law_price .nil pass0 (pa_cons (pv 0) (pa_cons (pe_ixU (hu_of hr) (pv 3) pe_int (fun _ _ => rfl) (fun _ _ => rfl)) (pa_cons (pe_ixU (hu_of hr) (pv 3) pe_int (fun _ _ => rfl) (fun _ _ => rfl)) pa_nil)))) (pa_cons (pe_call G__law_price (hr.mono (by decide)) rfl E.g__law_price E.F__law_price.kp E.b__law_price .nil pass0 (pa_cons (pv 1) (pa_cons (pe_ixU (hu_of hr) (pv 3) pe_int (fun _ _ => rfl) (fun _ _ => rfl)) (pa_cons (pe_ixU (hu_of hr) (pv 3) pe_int (fun _ _ => rfl) (fun _ _ => rfl)) pa_nil)))) pa_nil)) (by rfl)) (pss_one (ps_if (pt_cmpR (op_neU hr.units) (pv 4) (pv 5) (nomark _)) (pss_one (ps_expr (pe_bm PySem.F.plainAttrs_list PySem.F.slot_list_append PySem.F.type_list_append mt_append (pv 2) (pa_cons (pe_tup (pa_cons (pe_op op_addU (pe_callB call_lenU (by rfl) E.z_len (by decide +kernel) (pa_cons (pe_ixU (hu_of hr) (pv 3) pe_int (fun _ _ => rfl) (fun _ _ => rfl)) pa_nil)) (pe_callB call_lenU (by rfl) E.z_len (by decide +kernel) (pa_cons (pe_ixU (hu_of hr) (pv 3) pe_int (fun _ _ => rfl) (fun _ _ => rfl)) pa_nil))) (pa_cons (pe_callB call_lenU (by rfl) E.z_len (by decide +kernel) (pa_cons (pe_ixU (hu_of hr) (pv 3) pe_int (fun _ _ => rfl) (fun _ _ => rfl)) pa_nil)) (pa_cons (pe_ixU (hu_of hr) (pv 3) pe_int (fun _ _ => rfl) (fun _ _ => rfl)) (pa_cons (pe_callB call_lenU (by rfl) E.z_len (by decide +kernel) (pa_cons (pe_ixU (hu_of hr) (pv 3) pe_int (fun _ _ => rfl) (fun _ _ => rfl)) pa_nil)) (pa_cons (pe_ixU (hu_of hr) (pv 3) pe_int (fun _ _ => rfl) (fun _ _ => rfl)) (pa_cons (pv 4) (pa_cons (pv 5) pa_nil)))))))) pa_nil)))) pss_nil)))) (pss_one (ps_ret (pv 2)))))
set_option maxHeartbeats 4000000 in
theorem ok_law (E : Env K mg) (G__law_numbers : FnOk P w K mg base CX0 1 (He.ga K "_law_numbers") E.d__law_numbers ["script"] (sp__law_numbers K)) (G__law_few : FnOk P w K mg base CX0 3 (He.ga K "_law_few") E.d__law_few ["row", "spot", "sizes"] (sp__law_few K)) (G__law_table : FnOk P w K mg base CX0 5 (He.ga K "_law_table") E.d__law_table ["row", "spot", "many", "few"] (sp__law_table K)) (G__law_other_table : FnOk P w K mg base CX0 7 (He.ga K "_law_other_table") E.d__law_other_table ["row", "spot", "table", "few"] (sp__law_other_table K)) (G__law_differ : FnOk P w K mg base CX0 4 (He.ga K "_law_differ") E.d__law_differ ["one", "other"] (sp__law_differ K)) (G__law_so : FnOk P w K mg base CX0 9 (He.ga K "_law_so") E.d__law_so ["found", "wanted"] (sp__law_so K 8)) (G_is_alike : FnOk P w K mg base CX0 10 (He.ga K "is_alike") E.d_is_alike ["one", "other"] (sp_is_alike K)) (G__law_handed : FnOk P w K mg base CX0 13 (He.ga K "_law_handed") E.d__law_handed ["row", "spot", "value"] (sp__law_handed K)) (G_unlike : FnOk P w K mg base CX0 9 (He.ga K "unlike") E.d_unlike ["one", "other"] (sp_unlike K)) (G__law_letters : FnOk P w K mg base CX0 3 (He.ga K "_law_letters") E.d__law_letters ["row", "spot", "most", "few"] (sp__law_letters K)) (G__law_misspelt : FnOk P w K mg base CX0 4 (He.ga K "_law_misspelt") E.d__law_misspelt ["row", "spot", "table", "word", "most"] (sp__law_misspelt K)) (G__law_take : FnOk P w K mg base CX0 2 (He.ga K "_law_take") E.d__law_take ["row", "spot", "limit"] (sp__law_take K)) (G__law_price : FnOk P w K mg base CX0 2 (He.ga K "_law_price") E.d__law_price ["table", "word", "text"] (sp__law_price K)) (G_price : FnOk P w K mg base CX0 7 (He.ga K "price") E.d_price ["table", "word", "text"] (sp_price K)) : FnOk P w K mg base CX0 20 (He.ga K "law") E.d_law ["script"] (sp_law K) := by
  refine E.F_law.ok sc_law (fun vs H Q E' h => len_law h) (fun cdv A outer s H vs Q E' hr h => ⟨(t_law K), PSs.nox ?_, pure_law vs H Q E' h⟩)
  exact (pss_cons (ps_set (i := 1) sc_law.nd rfl (by first | exact Or.inl rfl | exact Or.inr rfl) (pe_call G__law_numbers (hr.mono (by decide)) rfl E.g__law_numbers E.F__law_numbers.kp E.b__law_numbers .nil pass0 (pa_cons (pv 0) pa_nil))) (pss_cons (ps_set (i := 2) sc_law.nd rfl (by first | exact Or.inl rfl | exact Or.inr rfl) (pe_lst (pa_cons pe_int pa_nil))) (pss_cons (ps_set (i := 3) sc_law.nd rfl (by first | exact Or.inl rfl | exact Or.inr rfl) (pe_call G__law_few (hr.mono (by decide)) rfl E.g__law_few E.F__law_few.kp E.b__law_few .nil pass0 (pa_cons (pv 1) (pa_cons (pv 2) (pa_cons (pe_lst (pa_cons pe_int (pa_cons pe_int (pa_cons pe_int (pa_cons pe_int pa_nil))))) pa_nil))))) (pss_cons (ps_set (i := 4) sc_law.nd rfl (by first | exact Or.inl rfl | exact Or.inr rfl) (pe_call G__law_table (hr.mono (by decide)) rfl E.g__law_table E.F__law_table.kp E.b__law_table .nil pass0 (pa_cons (pv 1) (pa_cons (pv 2) (pa_cons pe_int (pa_cons (pv 3) pa_nil)))))) (pss_cons (ps_for PassesOwn.never rfl (pi_range1 (by rfl) E.z_range (pa_cons pe_int pa_nil)) (pg_name (i := 5) sc_law.nd rfl (by first | exact Or.inl rfl | exact Or.inr rfl)) (pss_cons (ps_set (i := 6) sc_law.nd rfl (by first | exact Or.inl rfl | exact Or.inr rfl) (pe_call G__law_other_table (hr.mono (by decide)) rfl E.g__law_other_table E.F__law_other_table.kp E.b__law_other_table .nil pass0 (pa_cons (pv 1) (pa_cons (pv 2) (pa_cons (pv 4) (pa_cons (pv 3) pa_nil)))))) (pss_cons (ps_set (i := 7) sc_law.nd rfl (by first | exact Or.inl rfl | exact Or.inr rfl) (pe_call G__law_differ (hr.mono (by decide)) rfl E.g__law_differ E.F__law_differ.kp E.b__law_differ .nil pass0 (pa_cons (pv 4) (pa_cons (pv 6) pa_nil)))) (pss_cons (ps_if (pt_not (pt_val (pe_call G__law_so (hr.mono (by decide)) rfl E.g__law_so E.F__law_so.kp E.b__law_so .nil pass0 (pa_cons (pe_callK0 G_is_alike (hr.mono (by decide)) rfl E.g_is_alike E.F_is_alike.kp (E.k_is_alike_0_2) pass0 (pk_cons (pe_call G__law_handed (hr.mono (by decide)) rfl E.g__law_handed E.F__law_handed.kp E.b__law_handed .nil pass0 (pa_cons (pv 1) (pa_cons (pv 2) (pa_cons (pv 4) pa_nil)))) (pk_cons (pe_call G__law_handed (hr.mono (by decide)) rfl E.g__law_handed E.F__law_handed.kp E.b__law_handed .nil pass0 (pa_cons (pv 1) (pa_cons (pv 2) (pa_cons (pv 6) pa_nil)))) pk_nil))) (pa_cons (pe_cmpR (op_eqU hr.units) (pe_callB call_lenU (by rfl) E.z_len (by decide +kernel) (pa_cons (pv 7) pa_nil)) pe_int (nomark _)) pa_nil))))) (pss_one (ps_ret pe_bl)) pss_nil) (pss_cons (ps_set (i := 8) sc_law.nd rfl (by first | exact Or.inl rfl | exact Or.inr rfl) pe_non) (pss_cons (ps_if (pt_cmpR (op_gtD hr.units) (pe_callB call_lenU (by rfl) E.z_len (by decide +kernel) (pa_cons (pv 7) pa_nil)) pe_int (nomark _)) (pss_cons (ps_set (i := 9) sc_law.nd rfl (by first | exact Or.inl rfl | exact Or.inr rfl) (pe_ixU (hu_of hr) (pv 7) pe_int (fun _ _ => rfl) (fun _ _ => rfl))) (pss_cons (ps_for PassesOwn.never rfl (pi_seq (pv 7)) (pg_name (i := 10) sc_law.nd rfl (by first | exact Or.inl rfl | exact Or.inr rfl)) (pss_one (ps_if (pt_cmpR (op_ltD hr.units) (pe_slice sl_U (pv 10) po_none (po_some pe_int)) (pe_slice sl_U (pv 9) po_none (po_some pe_int)) (nomark _)) (pss_one (ps_set (i := 9) sc_law.nd rfl (by first | exact Or.inl rfl | exact Or.inr rfl) (pv 10))) pss_nil))) (pss_one (ps_set (i := 8) sc_law.nd rfl (by first | exact Or.inl rfl | exact Or.inr rfl) (pe_tup (pa_cons (pe_ixU (hu_of hr) (pv 9) pe_int (fun _ _ => rfl) (fun _ _ => rfl)) (pa_cons (pe_ixU (hu_of hr) (pv 9) pe_int (fun _ _ => rfl) (fun _ _ => rfl)) (pa_cons (pe_ixU (hu_of hr) (pv 9) pe_int (fun _ _ => rfl) (fun _ _ => rfl)) (pa_cons (pe_ixU (hu_of hr) (pv 9) pe_int (fun _ _ => rfl) (fun _ _ => rfl)) pa_nil))))))))) pss_nil) (pss_cons (ps_if (pt_not (pt_val (pe_call G__law_so (hr.mono (by decide)) rfl E.g__law_so E.F__law_so.kp E.b__law_so .nil pass0 (pa_cons (pe_callK0 G_unlike (hr.mono (by decide)) rfl E.g_unlike E.F_unlike.kp (E.k_unlike_0_2) pass0 (pk_cons (pe_call G__law_handed (hr.mono (by decide)) rfl E.g__law_handed E.F__law_handed.kp E.b__law_handed .nil pass0 (pa_cons (pv 1) (pa_cons (pv 2) (pa_cons (pv 4) pa_nil)))) (pk_cons (pe_call G__law_handed (hr.mono (by decide)) rfl E.g__law_handed E.F__law_handed.kp E.b__law_handed .nil pass0 (pa_cons (pv 1) (pa_cons (pv 2) (pa_cons (pv 6) pa_nil)))) pk_nil))) (pa_cons (pv 8) pa_nil))))) (pss_one (ps_ret pe_bl)) pss_nil) (pss_one (ps_for PassesOwn.never rfl (pi_range1 (by rfl) E.z_range (pa_cons pe_int pa_nil)) (pg_name (i := 11) sc_law.nd rfl (by first | exact Or.inl rfl | exact Or.inr rfl)) (pss_cons (ps_set (i := 12) sc_law.nd rfl (by first | exact Or.inl rfl | exact Or.inr rfl) (pe_call G__law_letters (hr.mono (by decide)) rfl E.g__law_letters E.F__law_letters.kp E.b__law_letters .nil pass0 (pa_cons (pv 1) (pa_cons (pv 2) (pa_cons pe_int (pa_cons (pv 3) pa_nil)))))) (pss_cons (ps_set (i := 13) sc_law.nd rfl (by first | exact Or.inl rfl | exact Or.inr rfl) (pe_call G__law_misspelt (hr.mono (by decide)) rfl E.g__law_misspelt E.F__law_misspelt.kp E.b__law_misspelt .nil pass0 (pa_cons (pv 1) (pa_cons (pv 2) (pa_cons (pe_ixU (hu_of hr) (pe_lst (pa_cons (pv 4) (pa_cons (pv 6) pa_nil))) (pe_call G__law_take (hr.mono (by decide)) rfl E.g__law_take E.F__law_take.kp E.b__law_take .nil pass0 (pa_cons (pv 1) (pa_cons (pv 2) (pa_cons pe_int pa_nil)))) (fun _ _ => rfl) (fun _ _ => rfl)) (pa_cons (pv 12) (pa_cons pe_int pa_nil))))))) (pss_one (ps_if (PW.pt (pw_or (pt_cmpR op_isN1 (pv 8) pe_non (nomark _)) (pw_or1 (pt_cmpR (op_ltD hr.units) (pe_op op_addU (pe_callB call_lenU (by rfl) E.z_len (by decide +kernel) (pa_cons (pv 12) pa_nil)) (pe_callB call_lenU (by rfl) E.z_len (by decide +kernel) (pa_cons (pv 13) pa_nil))) (pe_op op_addU (pe_callB call_lenU (by rfl) E.z_len (by decide +kernel) (pa_cons (pe_ixU (hu_of hr) (pv 8) pe_int (fun _ _ => rfl) (fun _ _ => rfl)) pa_nil)) (pe_callB call_lenU (by rfl) E.z_len (by decide +kernel) (pa_cons (pe_ixU (hu_of hr) (pv 8) pe_int (fun _ _ => rfl) (fun _ _ => rfl)) pa_nil))) (nomark _))))) (pss_cons (ps_if (pt_cmpR (op_neU hr.units) (pe_call G__law_price (hr.mono (by decide)) rfl E.g__law_price E.F__law_price.kp E.b__law_price .nil pass0 (pa_cons (pv 4) (pa_cons (pv 12) (pa_cons (pv 13) pa_nil)))) (pe_call G__law_price (hr.mono (by decide)) rfl E.g__law_price E.F__law_price.kp E.b__law_price .nil pass0 (pa_cons (pv 6) (pa_cons (pv 12) (pa_cons (pv 13) pa_nil)))) (nomark _)) (pss_one (ps_ret pe_bl)) pss_nil) (pss_one (ps_if (PW.pt (pw_and (pt_cmpR (op_ltD hr.units) (pe_callB call_lenU (by rfl) E.z_len (by decide +kernel) (pa_cons (pv 13) pa_nil)) pe_int (nomark _)) (pw_and1 (pt_not (pt_val (pe_call G__law_so (hr.mono (by decide)) rfl E.g__law_so E.F__law_so.kp E.b__law_so .nil pass0 (pa_cons (pe_call G_price (hr.mono (by decide)) rfl E.g_price E.F_price.kp E.b_price .nil pass0 (pa_cons (pv 6) (pa_cons (pv 12) (pa_cons (pv 13) pa_nil)))) (pa_cons (pe_call G__law_price (hr.mono (by decide)) rfl E.g__law_price E.F__law_price.kp E.b__law_price .nil pass0 (pa_cons (pv 4) (pa_cons (pv 12) (pa_cons (pv 13) pa_nil)))) pa_nil)))))))) (pss_one (ps_ret pe_bl)) pss_nil))) pss_nil))))))))))))) (pss_one (ps_ret pe_bl)))))))
end
/-! ### the head -/
def dd_check_arguments : He.DefD := ⟨("check_arguments", none), "check_arguments", "check_arguments", defArgs st_check_arguments, defBody st_check_arguments, defScope st_check_arguments, [], []⟩
def dd_is_whole : He.DefD := ⟨("is_whole", none), "is_whole", "is_whole", defArgs st_is_whole, defBody st_is_whole, defScope st_is_whole, [], []⟩
def dd_is_sequence : He.DefD := ⟨("is_sequence", none), "is_sequence", "is_sequence", defArgs st_is_sequence, defBody st_is_sequence, defScope st_is_sequence, [], []⟩
def dd_is_triple : He.DefD := ⟨("is_triple", none), "is_triple", "is_triple", defArgs st_is_triple, defBody st_is_triple, defScope st_is_triple, [], []⟩
def dd_is_word : He.DefD := ⟨("is_word", none), "is_word", "is_word", defArgs st_is_word, defBody st_is_word, defScope st_is_word, [], []⟩
def dd_is_short : He.DefD := ⟨("is_short", none), "is_short", "is_short", defArgs st_is_short, defBody st_is_short, defScope st_is_short, [], []⟩
def dd_is_rising : He.DefD := ⟨("is_rising", none), "is_rising", "is_rising", defArgs st_is_rising, defBody st_is_rising, defScope st_is_rising, [], []⟩
def dd_is_table : He.DefD := ⟨("is_table", none), "is_table", "is_table", defArgs st_is_table, defBody st_is_table, defScope st_is_table, [], []⟩
def dd_is_fault : He.DefD := ⟨("is_fault", none), "is_fault", "is_fault", defArgs st_is_fault, defBody st_is_fault, defScope st_is_fault, [], []⟩
def dd_is_piece : He.DefD := ⟨("is_piece", none), "is_piece", "is_piece", defArgs st_is_piece, defBody st_is_piece, defScope st_is_piece, [], []⟩
def dd_price : He.DefD := ⟨("price", none), "price", "price", defArgs st_price, defBody st_price, defScope st_price, [], []⟩
def dd_pieces_along : He.DefD := ⟨("pieces_along", none), "pieces_along", "pieces_along", defArgs st_pieces_along, defBody st_pieces_along, defScope st_pieces_along, [], []⟩
def dd_pieces_at : He.DefD := ⟨("pieces_at", none), "pieces_at", "pieces_at", defArgs st_pieces_at, defBody st_pieces_at, defScope st_pieces_at, [], []⟩
def dd_best_ways : He.DefD := ⟨("best_ways", none), "best_ways", "best_ways", defArgs st_best_ways, defBody st_best_ways, defScope st_best_ways, [], []⟩
def dd_is_alike : He.DefD := ⟨("is_alike", none), "is_alike", "is_alike", defArgs st_is_alike, defBody st_is_alike, defScope st_is_alike, [], []⟩
def dd_unlike : He.DefD := ⟨("unlike", none), "unlike", "unlike", defArgs st_unlike, defBody st_unlike, defScope st_unlike, [], []⟩
def dd_size_of : He.DefD := ⟨("size_of", none), "size_of", "size_of", defArgs st_size_of, defBody st_size_of, defScope st_size_of, [], []⟩
def dd__law_so : He.DefD := ⟨("_law_so", none), "_law_so", "_law_so", defArgs st__law_so, defBody st__law_so, defScope st__law_so, [], []⟩
def dd__law_numbers : He.DefD := ⟨("_law_numbers", none), "_law_numbers", "_law_numbers", defArgs st__law_numbers, defBody st__law_numbers, defScope st__law_numbers, [], []⟩
def dd__law_draw : He.DefD := ⟨("_law_draw", none), "_law_draw", "_law_draw", defArgs st__law_draw, defBody st__law_draw, defScope st__law_draw, [], []⟩
def dd__law_take : He.DefD := ⟨("_law_take", none), "_law_take", "_law_take", defArgs st__law_take, defBody st__law_take, defScope st__law_take, [], []⟩
def dd__law_listed : He.DefD := ⟨("_law_listed", none), "_law_listed", "_law_listed", defArgs st__law_listed, defBody st__law_listed, defScope st__law_listed, [], []⟩
def dd__law_handed : He.DefD := ⟨("_law_handed", none), "_law_handed", "_law_handed", defArgs st__law_handed, defBody st__law_handed, defScope st__law_handed, [], []⟩
def dd__law_levels : He.DefD := ⟨("_law_levels", none), "_law_levels", "_law_levels", defArgs st__law_levels, defBody st__law_levels, defScope st__law_levels, [], []⟩
def dd__law_pick : He.DefD := ⟨("_law_pick", none), "_law_pick", "_law_pick", defArgs st__law_pick, defBody st__law_pick, defScope st__law_pick, [], []⟩
def dd__law_price_rows : He.DefD := ⟨("_law_price_rows", none), "_law_price_rows", "_law_price_rows", defArgs st__law_price_rows, defBody st__law_price_rows, defScope st__law_price_rows, [], []⟩
def dd__law_price : He.DefD := ⟨("_law_price", none), "_law_price", "_law_price", defArgs st__law_price, defBody st__law_price, defScope st__law_price, [], []⟩
def dd__law_letters : He.DefD := ⟨("_law_letters", none), "_law_letters", "_law_letters", defArgs st__law_letters, defBody st__law_letters, defScope st__law_letters, [], []⟩
def dd__law_few : He.DefD := ⟨("_law_few", none), "_law_few", "_law_few", defArgs st__law_few, defBody st__law_few, defScope st__law_few, [], []⟩
def dd__law_table : He.DefD := ⟨("_law_table", none), "_law_table", "_law_table", defArgs st__law_table, defBody st__law_table, defScope st__law_table, [], []⟩
def dd__law_misspelt : He.DefD := ⟨("_law_misspelt", none), "_law_misspelt", "_law_misspelt", defArgs st__law_misspelt, defBody st__law_misspelt, defScope st__law_misspelt, [], []⟩
def dd__law_other_table : He.DefD := ⟨("_law_other_table", none), "_law_other_table", "_law_other_table", defArgs st__law_other_table, defBody st__law_other_table, defScope st__law_other_table, [], []⟩
def dd__law_differ : He.DefD := ⟨("_law_differ", none), "_law_differ", "_law_differ", defArgs st__law_differ, defBody st__law_differ, defScope st__law_differ, [], []⟩
def dd_law : He.DefD := ⟨("law", none), "law", "law", defArgs st_law, defBody st_law, defScope st_law, [], []⟩
def fn : List He.DefD := [dd_check_arguments, dd_is_whole, dd_is_sequence, dd_is_triple, dd_is_word, dd_is_short, dd_is_rising, dd_is_table, dd_is_fault, dd_is_piece, dd_price, dd_pieces_along, dd_pieces_at, dd_best_ways, dd_is_alike, dd_unlike, dd_size_of, dd__law_so, dd__law_numbers, dd__law_draw, dd__law_take, dd__law_listed, dd__law_handed, dd__law_levels, dd__law_pick, dd__law_price_rows, dd__law_price, dd__law_letters, dd__law_few, dd__law_table, dd__law_misspelt, dd__law_other_table, dd__law_differ, dd_law]
def fa0 : List He.Fa := [.glo "check_arguments", .glo "is_whole", .glo "is_sequence", .glo "is_triple", .glo "is_word", .glo "is_short", .glo "is_rising", .glo "is_table", .glo "is_fault", .glo "is_piece", .glo "price", .glo "pieces_along", .glo "pieces_at", .glo "best_ways", .glo "is_alike", .glo "unlike", .glo "size_of", .glo "_law_so", .glo "_law_numbers", .glo "_law_draw", .glo "_law_take", .glo "_law_listed", .glo "_law_handed", .glo "_law_levels", .glo "_law_pick", .glo "_law_price_rows", .glo "_law_price", .glo "_law_letters", .glo "_law_few", .glo "_law_table"]
def fa1 : List He.Fa := [.glo "_law_misspelt", .glo "_law_other_table", .glo "_law_differ", .glo "law", .int "GREATEST_FAULT" 9, .str "LETTERS" "abcdef", .int "MOST_FAULTS" 8, .int "MOST_IN_PIECE" 2, .free "all", .free "bool", .free "enumerate", .free "int", .free "isinstance", .free "len", .free "list", .free "max", .free "min", .free "range", .free "sorted", .free "str", .free "tuple"]
def fa : List He.Fa := fa0 ++ (fa1)
abbrev Rw : PySem.W.OpenRow := PySem.W.OpenLaw.row PySem.Challenge.rw_slipworth_k07_whole_tables_alike
def bs : List Bi := [("heappop", "_heapq.heappop"), ("heappush", "_heapq.heappush")]
abbrev hk : PySem.W.Hook := hookB 4 fa fn bs
def ob (s : PySem.W.SharedT) : He.AlD := obsBG 4 fa fn bs (HandSHeadRun.getT s)
theorem ob_eq (s : PySem.W.SharedT) : ob s = hk.obs s.abs := obsBG_eq (HandSHeadRun.getT_eq s)
abbrev lo0 : List PySem.Str := ["SlipError", "BadValue", "LETTERS", "check_arguments", "is_whole", "is_sequence", "is_triple", "is_word", "is_rising", "is_table", "is_fault", "is_short", "is_piece", "price", "pieces_along", "pieces_at", "best_ways", "is_alike", "unlike", "size_of", "_law_so", "_law_numbers", "_law_draw", "_law_take", "_law_listed", "_law_levels", "_law_handed", "_law_pick", "_law_price_rows", "_law_price"]
abbrev lo1 : List PySem.Str := ["_law_letters", "_law_few", "_law_table", "_law_misspelt", "_law_other_table", "_law_differ", "MOST_FAULTS", "MOST_IN_PIECE", "GREATEST_FAULT"]
abbrev loose : List PySem.Str := lo0 ++ (lo1)
theorem run (w : World) : HandSHeadRun.RunEqI Rw (PySem.W.view Rw.prog [0, 45]) hk ob 2000 loose w := by
  unfold HandSHeadRun.RunEqI
  kernel_rfl
section
variable {P : Program} {w : World} {K : Frag} {mg : Str → Option Value} {base : Heap}
theorem all_check_arguments (E : Env K mg) : FnOk P w K mg base CX0 1 (He.ga K "check_arguments") E.d_check_arguments ["fits"] (sp_check_arguments K) := ok_check_arguments E 
theorem all_is_whole (E : Env K mg) : FnOk P w K mg base CX0 1 (He.ga K "is_whole") E.d_is_whole ["value", "low", "high"] (sp_is_whole K) := ok_is_whole E 
theorem all_is_sequence (E : Env K mg) : FnOk P w K mg base CX0 1 (He.ga K "is_sequence") E.d_is_sequence ["value"] (sp_is_sequence K) := ok_is_sequence E 
theorem all_is_triple (E : Env K mg) : FnOk P w K mg base CX0 2 (He.ga K "is_triple") E.d_is_triple ["value"] (sp_is_triple K) := ok_is_triple E (all_is_sequence E)
theorem all_is_word (E : Env K mg) : FnOk P w K mg base CX0 1 (He.ga K "is_word") E.d_is_word ["value"] (sp_is_word K) := ok_is_word E 
theorem all_is_short (E : Env K mg) : FnOk P w K mg base CX0 2 (He.ga K "is_short") E.d_is_short ["value", "most"] (sp_is_short K) := ok_is_short E (all_is_word E)
theorem all_is_rising (E : Env K mg) : FnOk P w K mg base CX0 1 (He.ga K "is_rising") E.d_is_rising ["rows"] (sp_is_rising K) := ok_is_rising E 
theorem all_is_piece (E : Env K mg) : FnOk P w K mg base CX0 3 (He.ga K "is_piece") E.d_is_piece ["value"] (sp_is_piece K) := ok_is_piece E (all_is_short E)
theorem all_is_fault (E : Env K mg) : FnOk P w K mg base CX0 4 (He.ga K "is_fault") E.d_is_fault ["value"] (sp_is_fault K) := ok_is_fault E (all_is_triple E) (all_is_piece E) (all_is_whole E)
theorem all_is_table (E : Env K mg) : FnOk P w K mg base CX0 5 (He.ga K "is_table") E.d_is_table ["value"] (sp_is_table K) := ok_is_table E (all_is_sequence E) (all_is_fault E) (all_is_rising E)
theorem all_pieces_at (E : Env K mg) : FnOk P w K mg base CX0 1 (He.ga K "pieces_at") E.d_pieces_at ["table", "word", "at"] (sp_pieces_at K) := ok_pieces_at E 
theorem all_pieces_along (E : Env K mg) : FnOk P w K mg base CX0 3 (He.ga K "pieces_along") E.d_pieces_along ["table", "word"] (sp_pieces_along K) := ok_pieces_along E (all_pieces_at E)
theorem all_best_ways (E : Env K mg) : FnOk P w K mg base CX0 5 (He.ga K "best_ways") E.d_best_ways ["table", "word", "text"] (sp_best_ways K) := ok_best_ways E (all_pieces_along E)
theorem all_price (E : Env K mg) : FnOk P w K mg base CX0 7 (He.ga K "price") E.d_price ["table", "word", "text"] (sp_price K) := ok_price E (all_check_arguments E) (all_is_word E) (all_is_table E) (all_best_ways E)
theorem all_size_of (E : Env K mg) : FnOk P w K mg base CX0 1 (He.ga K "size_of") E.d_size_of ["row"] (sp_size_of K) := ok_size_of E 
theorem all_unlike (E : Env K mg) : FnOk P w K mg base CX0 9 (He.ga K "unlike") E.d_unlike ["one", "other"] (sp_unlike K) := ok_unlike E (all_check_arguments E) (all_is_table E) (all_price E) (all_size_of E)
theorem all_is_alike (E : Env K mg) : FnOk P w K mg base CX0 10 (He.ga K "is_alike") E.d_is_alike ["one", "other"] (sp_is_alike K) := ok_is_alike E (all_unlike E)
theorem rec__law_so (E : Env K mg) : ∀ n : Nat, FnOk P w K mg base CX0 (n + 1) (He.ga K "_law_so") E.d__law_so ["found", "wanted"] (sp__law_so K n)
  | 0 => E.F__law_so.ok sc__law_so (fun vs H Q E' h => len__law_so h) (fun cdv A outer s H vs Q E' hr h => absurd h no__law_so)
  | n + 1 => ok__law_so E (rec__law_so E n)
theorem all__law_so (E : Env K mg) : FnOk P w K mg base CX0 9 (He.ga K "_law_so") E.d__law_so ["found", "wanted"] (sp__law_so K 8) := rec__law_so E 8
theorem all__law_numbers (E : Env K mg) : FnOk P w K mg base CX0 1 (He.ga K "_law_numbers") E.d__law_numbers ["script"] (sp__law_numbers K) := ok__law_numbers E 
theorem all__law_draw (E : Env K mg) : FnOk P w K mg base CX0 1 (He.ga K "_law_draw") E.d__law_draw ["row", "at", "limit"] (sp__law_draw K) := ok__law_draw E 
theorem all__law_take (E : Env K mg) : FnOk P w K mg base CX0 2 (He.ga K "_law_take") E.d__law_take ["row", "spot", "limit"] (sp__law_take K) := ok__law_take E (all__law_draw E)
theorem rec__law_listed (E : Env K mg) : ∀ n : Nat, FnOk P w K mg base CX0 (n + 1) (He.ga K "_law_listed") E.d__law_listed ["value"] (sp__law_listed K n)
  | 0 => E.F__law_listed.ok sc__law_listed (fun vs H Q E' h => len__law_listed h) (fun cdv A outer s H vs Q E' hr h => absurd h no__law_listed)
  | n + 1 => ok__law_listed E (rec__law_listed E n)
theorem all__law_listed (E : Env K mg) : FnOk P w K mg base CX0 9 (He.ga K "_law_listed") E.d__law_listed ["value"] (sp__law_listed K 8) := rec__law_listed E 8
theorem rec__law_levels (E : Env K mg) : ∀ n : Nat, FnOk P w K mg base CX0 (n + 3) (He.ga K "_law_levels") E.d__law_levels ["row", "spot", "value"] (sp__law_levels K n)
  | 0 => E.F__law_levels.ok sc__law_levels (fun vs H Q E' h => len__law_levels h) (fun cdv A outer s H vs Q E' hr h => absurd h no__law_levels)
  | n + 1 => ok__law_levels E (all__law_take E) (rec__law_levels E n)
theorem all__law_levels (E : Env K mg) : FnOk P w K mg base CX0 12 (He.ga K "_law_levels") E.d__law_levels ["row", "spot", "value"] (sp__law_levels K 9) := rec__law_levels E 9
theorem all__law_handed (E : Env K mg) : FnOk P w K mg base CX0 13 (He.ga K "_law_handed") E.d__law_handed ["row", "spot", "value"] (sp__law_handed K) := ok__law_handed E (all__law_take E) (all__law_listed E) (all__law_levels E)
theorem all__law_pick (E : Env K mg) : FnOk P w K mg base CX0 3 (He.ga K "_law_pick") E.d__law_pick ["row", "spot", "things"] (sp__law_pick K) := ok__law_pick E (all__law_take E)
theorem all__law_price_rows (E : Env K mg) : FnOk P w K mg base CX0 1 (He.ga K "_law_price_rows") E.d__law_price_rows ["table", "word", "text"] (sp__law_price_rows K) := ok__law_price_rows E 
theorem all__law_price (E : Env K mg) : FnOk P w K mg base CX0 2 (He.ga K "_law_price") E.d__law_price ["table", "word", "text"] (sp__law_price K) := ok__law_price E (all__law_price_rows E)
theorem all__law_letters (E : Env K mg) : FnOk P w K mg base CX0 3 (He.ga K "_law_letters") E.d__law_letters ["row", "spot", "most", "few"] (sp__law_letters K) := ok__law_letters E (all__law_take E)
theorem all__law_few (E : Env K mg) : FnOk P w K mg base CX0 3 (He.ga K "_law_few") E.d__law_few ["row", "spot", "sizes"] (sp__law_few K) := ok__law_few E (all__law_take E)
theorem all__law_table (E : Env K mg) : FnOk P w K mg base CX0 5 (He.ga K "_law_table") E.d__law_table ["row", "spot", "many", "few"] (sp__law_table K) := ok__law_table E (all__law_take E) (all__law_letters E)
theorem all__law_misspelt (E : Env K mg) : FnOk P w K mg base CX0 4 (He.ga K "_law_misspelt") E.d__law_misspelt ["row", "spot", "table", "word", "most"] (sp__law_misspelt K) := ok__law_misspelt E (all__law_take E) (all__law_pick E)
theorem all__law_other_table (E : Env K mg) : FnOk P w K mg base CX0 7 (He.ga K "_law_other_table") E.d__law_other_table ["row", "spot", "table", "few"] (sp__law_other_table K) := ok__law_other_table E (all__law_take E) (all__law_table E) (all__law_pick E)
theorem all__law_differ (E : Env K mg) : FnOk P w K mg base CX0 4 (He.ga K "_law_differ") E.d__law_differ ["one", "other"] (sp__law_differ K) := ok__law_differ E (all__law_price E)
theorem all_law (E : Env K mg) : FnOk P w K mg base CX0 20 (He.ga K "law") E.d_law ["script"] (sp_law K) := ok_law E (all__law_numbers E) (all__law_few E) (all__law_table E) (all__law_other_table E) (all__law_differ E) (all__law_so E) (all_is_alike E) (all__law_handed E) (all_unlike E) (all__law_letters E) (all__law_misspelt E) (all__law_take E) (all__law_price E) (all_price E)
theorem facts {h : Heap} {f : Addr} (X : K.In h) (G : h.Ns mainGlobals mg) (hfa : mg ("law" : Str) = some (.ref f)) (c0 : SaysB fa fn bs K) :
    ∃ fd : FuncData, (∀ (s : Shared) (v : Value), BindsTo s fd ⟨[v], []⟩ [("script", v)]) ∧ ∀ base : Heap, K.In base → base.Ns mainGlobals mg → FnOk P w K mg base CX0 20 f fd ["script"] (sp_law K) := by
  have c := c0.d
  obtain ⟨f_check_arguments, F_check_arguments⟩ := c.def_ 0 (d := dd_check_arguments) rfl
  obtain ⟨f_is_whole, F_is_whole⟩ := c.def_ 1 (d := dd_is_whole) rfl
  obtain ⟨f_is_sequence, F_is_sequence⟩ := c.def_ 2 (d := dd_is_sequence) rfl
  obtain ⟨f_is_triple, F_is_triple⟩ := c.def_ 3 (d := dd_is_triple) rfl
  obtain ⟨f_is_word, F_is_word⟩ := c.def_ 4 (d := dd_is_word) rfl
  obtain ⟨f_is_short, F_is_short⟩ := c.def_ 5 (d := dd_is_short) rfl
  obtain ⟨f_is_rising, F_is_rising⟩ := c.def_ 6 (d := dd_is_rising) rfl
  obtain ⟨f_is_table, F_is_table⟩ := c.def_ 7 (d := dd_is_table) rfl
  obtain ⟨f_is_fault, F_is_fault⟩ := c.def_ 8 (d := dd_is_fault) rfl
  obtain ⟨f_is_piece, F_is_piece⟩ := c.def_ 9 (d := dd_is_piece) rfl
  obtain ⟨f_price, F_price⟩ := c.def_ 10 (d := dd_price) rfl
  obtain ⟨f_pieces_along, F_pieces_along⟩ := c.def_ 11 (d := dd_pieces_along) rfl
  obtain ⟨f_pieces_at, F_pieces_at⟩ := c.def_ 12 (d := dd_pieces_at) rfl
  obtain ⟨f_best_ways, F_best_ways⟩ := c.def_ 13 (d := dd_best_ways) rfl
  obtain ⟨f_is_alike, F_is_alike⟩ := c.def_ 14 (d := dd_is_alike) rfl
  obtain ⟨f_unlike, F_unlike⟩ := c.def_ 15 (d := dd_unlike) rfl
  obtain ⟨f_size_of, F_size_of⟩ := c.def_ 16 (d := dd_size_of) rfl
  obtain ⟨f__law_so, F__law_so⟩ := c.def_ 17 (d := dd__law_so) rfl
  obtain ⟨f__law_numbers, F__law_numbers⟩ := c.def_ 18 (d := dd__law_numbers) rfl
  obtain ⟨f__law_draw, F__law_draw⟩ := c.def_ 19 (d := dd__law_draw) rfl
  obtain ⟨f__law_take, F__law_take⟩ := c.def_ 20 (d := dd__law_take) rfl
  obtain ⟨f__law_listed, F__law_listed⟩ := c.def_ 21 (d := dd__law_listed) rfl
  obtain ⟨f__law_handed, F__law_handed⟩ := c.def_ 22 (d := dd__law_handed) rfl
  obtain ⟨f__law_levels, F__law_levels⟩ := c.def_ 23 (d := dd__law_levels) rfl
  obtain ⟨f__law_pick, F__law_pick⟩ := c.def_ 24 (d := dd__law_pick) rfl
  obtain ⟨f__law_price_rows, F__law_price_rows⟩ := c.def_ 25 (d := dd__law_price_rows) rfl
  obtain ⟨f__law_price, F__law_price⟩ := c.def_ 26 (d := dd__law_price) rfl
  obtain ⟨f__law_letters, F__law_letters⟩ := c.def_ 27 (d := dd__law_letters) rfl
  obtain ⟨f__law_few, F__law_few⟩ := c.def_ 28 (d := dd__law_few) rfl
  obtain ⟨f__law_table, F__law_table⟩ := c.def_ 29 (d := dd__law_table) rfl
  obtain ⟨f__law_misspelt, F__law_misspelt⟩ := c.def_ 30 (d := dd__law_misspelt) rfl
  obtain ⟨f__law_other_table, F__law_other_table⟩ := c.def_ 31 (d := dd__law_other_table) rfl
  obtain ⟨f__law_differ, F__law_differ⟩ := c.def_ 32 (d := dd__law_differ) rfl
  obtain ⟨f_law, F_law⟩ := c.def_ 33 (d := dd_law) rfl
  let E : Env K mg := {
    d_check_arguments := f_check_arguments
    F_check_arguments := F_check_arguments
    g_check_arguments := He.glo_ok X G (c.fact 0 (f := .glo "check_arguments") rfl)
    d_is_whole := f_is_whole
    F_is_whole := F_is_whole
    g_is_whole := He.glo_ok X G (c.fact 1 (f := .glo "is_whole") rfl)
    d_is_sequence := f_is_sequence
    F_is_sequence := F_is_sequence
    g_is_sequence := He.glo_ok X G (c.fact 2 (f := .glo "is_sequence") rfl)
    d_is_triple := f_is_triple
    F_is_triple := F_is_triple
    g_is_triple := He.glo_ok X G (c.fact 3 (f := .glo "is_triple") rfl)
    d_is_word := f_is_word
    F_is_word := F_is_word
    g_is_word := He.glo_ok X G (c.fact 4 (f := .glo "is_word") rfl)
    d_is_short := f_is_short
    F_is_short := F_is_short
    g_is_short := He.glo_ok X G (c.fact 5 (f := .glo "is_short") rfl)
    d_is_rising := f_is_rising
    F_is_rising := F_is_rising
    g_is_rising := He.glo_ok X G (c.fact 6 (f := .glo "is_rising") rfl)
    d_is_table := f_is_table
    F_is_table := F_is_table
    g_is_table := He.glo_ok X G (c.fact 7 (f := .glo "is_table") rfl)
    d_is_fault := f_is_fault
    F_is_fault := F_is_fault
    g_is_fault := He.glo_ok X G (c.fact 8 (f := .glo "is_fault") rfl)
    d_is_piece := f_is_piece
    F_is_piece := F_is_piece
    g_is_piece := He.glo_ok X G (c.fact 9 (f := .glo "is_piece") rfl)
    d_price := f_price
    F_price := F_price
    g_price := He.glo_ok X G (c.fact 10 (f := .glo "price") rfl)
    d_pieces_along := f_pieces_along
    F_pieces_along := F_pieces_along
    g_pieces_along := He.glo_ok X G (c.fact 11 (f := .glo "pieces_along") rfl)
    d_pieces_at := f_pieces_at
    F_pieces_at := F_pieces_at
    g_pieces_at := He.glo_ok X G (c.fact 12 (f := .glo "pieces_at") rfl)
    d_best_ways := f_best_ways
    F_best_ways := F_best_ways
    g_best_ways := He.glo_ok X G (c.fact 13 (f := .glo "best_ways") rfl)
    d_is_alike := f_is_alike
    F_is_alike := F_is_alike
    g_is_alike := He.glo_ok X G (c.fact 14 (f := .glo "is_alike") rfl)
    d_unlike := f_unlike
    F_unlike := F_unlike
    g_unlike := He.glo_ok X G (c.fact 15 (f := .glo "unlike") rfl)
    d_size_of := f_size_of
    F_size_of := F_size_of
    g_size_of := He.glo_ok X G (c.fact 16 (f := .glo "size_of") rfl)
    d__law_so := f__law_so
    F__law_so := F__law_so
    g__law_so := He.glo_ok X G (c.fact 17 (f := .glo "_law_so") rfl)
    d__law_numbers := f__law_numbers
    F__law_numbers := F__law_numbers
    g__law_numbers := He.glo_ok X G (c.fact 18 (f := .glo "_law_numbers") rfl)
    d__law_draw := f__law_draw
    F__law_draw := F__law_draw
    g__law_draw := He.glo_ok X G (c.fact 19 (f := .glo "_law_draw") rfl)
    d__law_take := f__law_take
    F__law_take := F__law_take
    g__law_take := He.glo_ok X G (c.fact 20 (f := .glo "_law_take") rfl)
    d__law_listed := f__law_listed
    F__law_listed := F__law_listed
    g__law_listed := He.glo_ok X G (c.fact 21 (f := .glo "_law_listed") rfl)
    d__law_handed := f__law_handed
    F__law_handed := F__law_handed
    g__law_handed := He.glo_ok X G (c.fact 22 (f := .glo "_law_handed") rfl)
    d__law_levels := f__law_levels
    F__law_levels := F__law_levels
    g__law_levels := He.glo_ok X G (c.fact 23 (f := .glo "_law_levels") rfl)
    d__law_pick := f__law_pick
    F__law_pick := F__law_pick
    g__law_pick := He.glo_ok X G (c.fact 24 (f := .glo "_law_pick") rfl)
    d__law_price_rows := f__law_price_rows
    F__law_price_rows := F__law_price_rows
    g__law_price_rows := He.glo_ok X G (c.fact 25 (f := .glo "_law_price_rows") rfl)
    d__law_price := f__law_price
    F__law_price := F__law_price
    g__law_price := He.glo_ok X G (c.fact 26 (f := .glo "_law_price") rfl)
    d__law_letters := f__law_letters
    F__law_letters := F__law_letters
    g__law_letters := He.glo_ok X G (c.fact 27 (f := .glo "_law_letters") rfl)
    d__law_few := f__law_few
    F__law_few := F__law_few
    g__law_few := He.glo_ok X G (c.fact 28 (f := .glo "_law_few") rfl)
    d__law_table := f__law_table
    F__law_table := F__law_table
    g__law_table := He.glo_ok X G (c.fact 29 (f := .glo "_law_table") rfl)
    d__law_misspelt := f__law_misspelt
    F__law_misspelt := F__law_misspelt
    g__law_misspelt := He.glo_ok X G (c.fact 30 (f := .glo "_law_misspelt") rfl)
    d__law_other_table := f__law_other_table
    F__law_other_table := F__law_other_table
    g__law_other_table := He.glo_ok X G (c.fact 31 (f := .glo "_law_other_table") rfl)
    d__law_differ := f__law_differ
    F__law_differ := F__law_differ
    g__law_differ := He.glo_ok X G (c.fact 32 (f := .glo "_law_differ") rfl)
    d_law := f_law
    F_law := F_law
    g_law := He.glo_ok X G (c.fact 33 (f := .glo "law") rfl)
    c_GREATEST_FAULT := He.int_ok X G (c.fact 34 (f := .int "GREATEST_FAULT" 9) rfl)
    c_LETTERS := He.str_ok X G (c.fact 35 (f := .str "LETTERS" "abcdef") rfl)
    c_MOST_FAULTS := He.int_ok X G (c.fact 36 (f := .int "MOST_FAULTS" 8) rfl)
    c_MOST_IN_PIECE := He.int_ok X G (c.fact 37 (f := .int "MOST_IN_PIECE" 2) rfl)
    z_all := He.free_ok X G (c.fact 38 (f := .free "all") rfl)
    z_bool := He.free_ok X G (c.fact 39 (f := .free "bool") rfl)
    z_enumerate := He.free_ok X G (c.fact 40 (f := .free "enumerate") rfl)
    z_int := He.free_ok X G (c.fact 41 (f := .free "int") rfl)
    z_isinstance := He.free_ok X G (c.fact 42 (f := .free "isinstance") rfl)
    z_len := He.free_ok X G (c.fact 43 (f := .free "len") rfl)
    z_list := He.free_ok X G (c.fact 44 (f := .free "list") rfl)
    z_max := He.free_ok X G (c.fact 45 (f := .free "max") rfl)
    z_min := He.free_ok X G (c.fact 46 (f := .free "min") rfl)
    z_range := He.free_ok X G (c.fact 47 (f := .free "range") rfl)
    z_sorted := He.free_ok X G (c.fact 48 (f := .free "sorted") rfl)
    z_str := He.free_ok X G (c.fact 49 (f := .free "str") rfl)
    z_tuple := He.free_ok X G (c.fact 50 (f := .free "tuple") rfl)
    i_heappop := c0.bi 0 X G
    i_heappush := c0.bi 1 X G }
  have e := hfa.symm.trans E.g_law
  cases e
  have b := FunD.bindsA (ps := ["script"]) F_law fun _ _ _ _ _ _ us hl => match us, hl with | [_], _ => rfl
  exact ⟨f_law, fun s v => b s [v] rfl, fun base _ _ => all_law E⟩
end
end K07
open PySem PySem.W PySem.Calls PyProof.Rows
theorem PySem.Challenge.cw_slipworth_k07_whole_tables_alike_holds : PySem.Challenge.rw_slipworth_k07_whole_tables_alike.Holds := by
  w_on; o_law
  refine HandSHeadRun.head_imp (r := OpenLaw.row PySem.Challenge.rw_slipworth_k07_whole_tables_alike) (q := view (OpenLaw.row PySem.Challenge.rw_slipworth_k07_whole_tables_alike).prog [0, 45]) (H := K07.hk) (ob := K07.ob) (M := 2000) (loose := K07.loose) (d := HandSHeadRun.topDef (OpenLaw.row PySem.Challenge.rw_slipworth_k07_whole_tables_alike).prog 45) (kwd := []) K07.ob_eq
    K07.run (by kernel_rfl) (by kernel_rfl) (by kernel_rfl) (by rfl) (by first | assumption | decide +kernel) (by decide +kernel) ⟨rfl, rfl, rfl, rfl, rfl, by decide +kernel⟩ ?hw ?hc
  case hw => w_witness2
  case hc =>
    refine L2.walk_ofE (l := PySem.Challenge.rw_slipworth_k07_whole_tables_alike) (n := 63) (k := 20) (x := "script") (CX := L2.CX0) rfl (by decide) (by kernel_rfl) ⟨rfl, by decide, by decide⟩ ?F (fun _ _ _ _ z => z)
    intro w mg fa h Y G hmg0
    obtain ⟨K, KX, c⟩ := Y
    have hmg : mg ("law" : PySem.Str) = some (.ref fa) := by
      have e : (HandSHeadRun.topDef (OpenLaw.row PySem.Challenge.rw_slipworth_k07_whole_tables_alike).prog 45).name = ("law" : PySem.Str) := by kernel_rfl
      rw [← e]
      exact hmg0
    obtain ⟨fd, hb, hF⟩ := K07.facts (P := (PySem.Challenge.rw_slipworth_k07_whole_tables_alike).prog) (w := w) KX G hmg c
    exact ⟨K, fd, Slip.sp_law K, KX, hb, fun H a ns hl _ hS => ⟨a, ns, rfl, hS, hl, fun _ => rfl⟩, hF⟩
