import PyProof.Rows.All
import Wide.All
import OpenK.AllK
import Wide.FinOn
import PyProof.MinMaxWalk
import KE.DataCmp
import HandS.List
import HandS.Base
import HandS.Call
import HandS.Comp
import HandS.Dict
import HandS.Iter
import HandS.Text
import HandS.Words
import HandS.Evl
import KE.SortData
import HandS.Walk
import HandS.IsInst
import HandS.TupAny
import HandS.TupLen
import HandS.Small
import HandS.Style
import HandS.Rev
import HandS.NoneIn
import HandS.TryOnly
import HandS.WordsDict
import HandS.WordsList
import HandS.Head0
import HandS.Head1
import HandS.Head2
import HandS.HeadEnd
import HandS.HeadHook1
import HandS.HeadHook2
import HandS.Defaults
import HandS.Conv
import HandS.More
import HandS.DictComp
import HandS.Deep
import HandS.HeadHook4
import HandS.HeadWalk
import HandS.Exc
import HandS.ExcOwn
import HandS.ExcInit
import HandS.ExcField
import HandS.ExcSuper
import HandS.ExcIs
import HandS.ExcValue
import PySem.Challenge.RW_slipworth_k00_errors
import HandS.WordsExc
import KE.KStateDown
set_option Elab.async false
set_option linter.all false
set_option maxRecDepth 100000
set_option maxHeartbeats 4000000
/-! heaps: an array in the order that heapq keeps, pure part -/
namespace Slip
namespace Hq
variable {γ : Type} {lt : γ → γ → Bool} {P : γ → Prop} {xs ys : Array γ}
def par (i : Nat) : Nat := (i - 1) / 2
def leAt (lt : γ → γ → Bool) (xs : Array γ) (i j : Nat) : Prop := ∀ x y, xs[i]? = some x → xs[j]? = some y → lt y x = false
/-- all in order -/
def HP (lt : γ → γ → Bool) (xs : Array γ) : Prop := ∀ i, 0 < i → leAt lt xs (par i) i
/-- .. but p against what is above it -/
def HX (lt : γ → γ → Bool) (xs : Array γ) (p : Nat) : Prop := (∀ i, 0 < i → i ≠ p → leAt lt xs (par i) i) ∧ ∀ i, 0 < i → par i = p → 0 < p → leAt lt xs (par p) i
/-- .. but p against what is above and below it -/
def HD (lt : γ → γ → Bool) (xs : Array γ) (p : Nat) : Prop := (∀ i, 0 < i → i ≠ p → par i ≠ p → leAt lt xs (par i) i) ∧ ∀ i, 0 < i → par i = p → 0 < p → leAt lt xs (par p) i
/-- an order of what stands in it -/
structure Ord (lt : γ → γ → Bool) (P : γ → Prop) : Prop where
  tr : ∀ x y z, P x → P y → P z → lt y x = false → lt z y = false → lt z x = false
  asy : ∀ x y, P x → P y → lt x y = true → lt y x = false
def AllP (P : γ → Prop) (xs : Array γ) : Prop := ∀ (i : Nat) (x : γ), xs[i]? = some x → P x
theorem par_lt {i : Nat} (h : 0 < i) : par i < i := by unfold par; omega
theorem leAt.trans (o : Ord lt P) (a : AllP P xs) {i j k : Nat} (hj : ∃ y, xs[j]? = some y) (h1 : leAt lt xs i j) (h2 : leAt lt xs j k) : leAt lt xs i k := by
  obtain ⟨y, hy⟩ := hj
  intro x z hx hz
  exact o.tr x y z (a _ _ hx) (a _ _ hy) (a _ _ hz) (h1 _ _ hx hy) (h2 _ _ hy hz)
theorem some_of_lt {i : Nat} (h : i < xs.size) : ∃ y, xs[i]? = some y := ⟨xs[i], Array.getElem?_eq_getElem h⟩
theorem lt_of_some {i : Nat} {x : γ} (h : xs[i]? = some x) : i < xs.size := by
  rcases Nat.lt_or_ge i xs.size with q | q
  · exact q
  · rw [Array.getElem?_eq_none q] at h
    cases h
section
variable {c p : Nat} (hc : c < xs.size) (hp : p < xs.size)
theorem sw_c : (xs.swap c p hc hp)[c]? = xs[p]? := by
  rw [Array.getElem?_swap]
  by_cases h : p = c
  · subst h
    rw [if_pos rfl, Array.getElem?_eq_getElem hp]
  · rw [if_neg h, if_pos rfl, Array.getElem?_eq_getElem hp]
theorem sw_p : (xs.swap c p hc hp)[p]? = xs[c]? := by
  rw [Array.getElem?_swap, if_pos rfl, Array.getElem?_eq_getElem hc]
theorem sw_o {i : Nat} (h1 : i ≠ c) (h2 : i ≠ p) : (xs.swap c p hc hp)[i]? = xs[i]? := by
  rw [Array.getElem?_swap, if_neg (Ne.symm h2), if_neg (Ne.symm h1)]
theorem sw_all (a : AllP P xs) : AllP P (xs.swap c p hc hp) := by
  intro i x h
  by_cases h1 : i = c
  · subst h1; rw [sw_c] at h; exact a _ _ h
  · by_cases h2 : i = p
    · subst h2; rw [sw_p] at h; exact a _ _ h
    · rw [sw_o hc hp h1 h2] at h; exact a _ _ h
end
/-- one turn upwards -/
theorem up_step (o : Ord lt P) (a : AllP P xs) {p : Nat} (h0 : 0 < p) (hp : p < xs.size) (hq : par p < xs.size) (h : HX lt xs p) (hl : ∀ x y, xs[p]? = some x → xs[par p]? = some y → lt x y = true) : HX lt (xs.swap (par p) p hq hp) (par p) := by
  have hpp := par_lt h0
  have hle : leAt lt xs p (par p) := fun x y hx hy => o.asy _ _ (a _ _ hx) (a _ _ hy) (hl _ _ hx hy)
  have ep := some_of_lt hp
  have eq := some_of_lt hq
  refine ⟨fun i hi hne => ?_, fun i hi hpi hq0 => ?_⟩
  · unfold leAt
    by_cases h1 : i = p
    · subst h1
      rw [sw_c, sw_p]
      exact hle
    · by_cases h2 : par i = par p
      · rw [h2, sw_c, sw_o hq hp hne h1]
        exact (hle.trans o a eq (by rw [← h2]; exact h.1 i hi h1) : leAt lt xs p i)
      · by_cases h3 : par i = p
        · rw [h3, sw_p, sw_o hq hp hne h1]
          exact h.2 i hi h3 h0
        · rw [sw_o hq hp h2 h3, sw_o hq hp hne h1]
          exact h.1 i hi h1
  · have n1 : par (par p) ≠ par p := fun e => by have := par_lt hq0; omega
    have n2 : par (par p) ≠ p := fun e => by have := par_lt hq0; omega
    have up1 : leAt lt xs (par (par p)) (par p) := h.1 _ hq0 (by omega)
    unfold leAt
    rw [sw_o hq hp n1 n2]
    by_cases h1 : i = p
    · subst h1
      rw [sw_p]
      exact up1
    · have n3 : i ≠ par p := fun e => by subst e; exact n1 hpi
      rw [sw_o hq hp n3 h1]
      exact (up1.trans o a eq (by rw [← hpi]; exact h.1 i hi h1) : leAt lt xs (par (par p)) i)
theorem up_done (o : Ord lt P) (a : AllP P xs) {p : Nat} (h : HX lt xs p) (hl : 0 < p → ∀ x y, xs[p]? = some x → xs[par p]? = some y → lt x y = false) : HP lt xs := by
  intro i hi
  by_cases h1 : i = p
  · subst h1
    exact fun x y hx hy => hl hi _ _ hy hx
  · exact h.1 i hi h1
/-- one turn downwards: c the lesser one below p -/
theorem down_step (o : Ord lt P) (a : AllP P xs) {p c : Nat} (hp : p < xs.size) (hc : c < xs.size) (h0 : 0 < c) (hcp : par c = p) (h : HD lt xs p) (hl : ∀ i, 0 < i → par i = p → i ≠ c → leAt lt xs c i) : HD lt (xs.swap c p hc hp) c := by
  have hpc := par_lt h0
  have ec := some_of_lt hc
  refine ⟨fun i hi hne hpi => ?_, fun i hi hpi _ => ?_⟩
  · unfold leAt
    by_cases h1 : i = p
    · subst h1
      have n1 : par i ≠ i := fun e => by have := par_lt hi; omega
      rw [sw_p, sw_o hc hp hpi n1]
      exact h.2 c h0 hcp hi
    · by_cases h2 : par i = p
      · rw [h2, sw_p, sw_o hc hp hne h1]
        exact hl i hi h2 hne
      · rw [sw_o hc hp hpi h2, sw_o hc hp hne h1]
        exact h.1 i hi h1 h2
  · have n1 : i ≠ c := fun e => by have := par_lt hi; omega
    have n2 : i ≠ p := fun e => by have := par_lt hi; omega
    unfold leAt
    rw [hcp, sw_p, sw_o hc hp n1 n2]
    rw [← hpi]
    exact h.1 i hi n2 (by rw [hpi]; omega)
theorem down_done {p : Nat} (h : HD lt xs p) (hl : xs.size ≤ 2 * p + 1) : HX lt xs p := by
  refine ⟨fun i hi hne => ?_, h.2⟩
  by_cases h1 : par i = p
  · intro x y hx hy
    have := lt_of_some hy
    unfold par at h1
    omega
  · exact h.1 i hi hne h1
/-- the first is a least one -/
theorem root_le (o : Ord lt P) (hP : AllP P xs) (hr : ∀ x, P x → lt x x = false) (h : HP lt xs) : ∀ n i, i ≤ n → i < xs.size → leAt lt xs 0 i
  | 0, i, hi, _ => by
    have : i = 0 := by omega
    subst this
    intro x y hx hy
    rw [hx] at hy
    cases hy
    exact hr _ (hP _ _ hx)
  | n + 1, i, hi, hz => by
    by_cases h0 : i = 0
    · subst h0
      exact root_le o hP hr h n 0 (Nat.zero_le _) hz
    · have hi0 : 0 < i := by omega
      have hpi := par_lt hi0
      exact (root_le o hP hr h n (par i) (by omega) (by omega)).trans o hP (some_of_lt (by omega)) (h i hi0)
theorem hp_pop (h : HP lt xs) : HP lt xs.pop := by
  intro i hi x y hx hy
  have h1 : ∀ (k : Nat) (z : γ), xs.pop[k]? = some z → xs[k]? = some z := fun k z e => by
    rw [Array.getElem?_pop] at e
    split at e
    · exact e
    · cases e
  exact h i hi x y (h1 _ _ hx) (h1 _ _ hy)
theorem hd_set (h : HP lt xs) {v : γ} : HD lt (xs.setIfInBounds 0 v) 0 := by
  refine ⟨fun i hi hne hpi => ?_, fun i hi hpi h0 => absurd h0 (Nat.lt_irrefl _)⟩
  unfold leAt
  rw [Array.getElem?_setIfInBounds, Array.getElem?_setIfInBounds, if_neg (Ne.symm hpi), if_neg (Ne.symm hne)]
  exact h i hi
theorem hx_push (h : HP lt xs) {v : γ} : HX lt (xs.push v) xs.size := by
  refine ⟨fun i hi hne x y hx hy => ?_, fun i hi hpi h0 x y hx hy => ?_⟩
  · have hz := lt_of_some hy
    rw [Array.size_push] at hz
    have hpi := par_lt hi
    rw [Array.getElem?_push, if_neg (by omega)] at hx hy
    exact h i hi x y hx hy
  · have hz := lt_of_some hy
    rw [Array.size_push] at hz
    have hpi' := par_lt hi
    omega
end Hq
end Slip
/-! heapq over the machine -/
namespace Slip
namespace Hq
open PySem PySem.Spec PyProof.Rows
theorem plain_sift : plainId "_heapq.heapify.sift" = true := by decide +kernel
theorem entry_sift : entryFor table "_heapq.heapify.sift" = some Builtin.«_heapq.heapify.sift» := entryFor_of_fast (by kernel_rfl)
def LstAt (h : Heap) (a : Addr) (its : Array Value) : Prop := ∃ n, h.get? a = some { cls := .type "list", dict := none, data := .seq its n, slots := #[] }
def Others (H : Heap) (a : Addr) (h : Heap) : Prop := ∀ (b : Addr) (o : Obj), b ≠ a → H.get? b = some o → h.get? b = some o
def CmpH {γ : Type} (prog : Program) (w : World) (A : Around) (H : Heap) (a : Addr) (f : γ → Value) (lt : γ → γ → Bool) (P : γ → Prop) : Prop :=
  ∀ (x y : γ) (s : Shared) (Q : Value → Shared → Prop) (E : Value → Shared → Prop), Others H a s.heap → P x → P y → Q (.bool (lt x y)) s → wpAny (model prog w) A (richCompare .Lt (f x) (f y)) Q E s
section
variable {M : Model} {A : Around} {E : Value → Shared → Prop} {s : Shared} {a : Addr} {its : Array Value} {H : Heap}
theorem LstAt.upd {h : Heap} (hl : LstAt h a its) (g : Array Value → Array Value) : LstAt (h.update a (Obj.mapSeq g)) a (g its) := by
  obtain ⟨n, e⟩ := hl
  exact ⟨_, Heap.get?_update_self _ e rfl⟩
theorem Others.upd {h : Heap} (ho : Others H a h) (g : Array Value → Array Value) : Others H a (h.update a (Obj.mapSeq g)) := fun b o hb e => (Heap.get?_update_other _ _ (Ne.symm hb)).trans (ho b o hb e)
theorem items_wp {Kf : Option (Array Value) → Sem (Array Value)} (hk : ∀ xs, Kf (some xs) = pure xs) {Q : Array Value → Shared → Prop} (hl : LstAt s.heap a its) (q : Q its s) : wpAny M A (seqItems? (.ref a) >>= Kf) Q E s := by
  obtain ⟨n, hl⟩ := hl
  refine wpAny_bind (wpAny_seqItems hl rfl ?_)
  rw [hk]
  exact wpAny_pure q
theorem less_wp {Kf : Option (Array Value) → Sem (Array Value)} (hk : ∀ xs, Kf (some xs) = pure xs) {K1 : Bool → Sem Bool} {x y : Value} {b : Bool} {n : Nat} {Q : Bool → Shared → Prop} (hl : LstAt s.heap a its) (hn : its.size = n)
    (hc : ∀ (Q : Value → Shared → Prop), Q (.bool b) s → wpAny M A (richCompare .Lt x y) Q E s) (q : Q b s) :
    wpAny M A ((holding [x, y] (richCompare .Lt x y >>= truthOfDropped)) >>= fun less => (seqItems? (.ref a) >>= Kf) >>= fun xs => if (xs.size != n) = true then K1 less else pure less) Q E s := by
  refine wpAny_bind (wpAny_holding (wpAny_bind (hc _ ?_)))
  show wpAny _ _ (truthy (.bool b)) _ _ _
  refine wpAny_truthy_bool (wpAny_bind (items_wp hk hl ?_))
  rw [if_neg (by rw [hn]; simp)]
  exact wpAny_pure q
theorem swap_wp {Kf : Option (Array Value) → Sem (Array Value)} (hk : ∀ xs, Kf (some xs) = pure xs) {Ka : Array Value → Nat → Sem Value} (hka : ∀ (xs : Array Value) (i : Nat) (v : Value), xs[i]? = some v → Ka xs i = pure v) {γ : Type} {f : γ → Value} {zs : Array γ} {i j : Nat} {Q : Unit → Shared → Prop}
    (hl : LstAt s.heap a (zs.map f)) (hi : i < zs.size) (hj : j < zs.size) (hz : zs.size ≤ sizeLine) (ho : Others H a s.heap)
    (q : ∀ h', LstAt h' a ((zs.swap i j hi hj).map f) → Others H a h' → Q () { s with heap := h' }) :
    wpAny M A ((seqItems? (.ref a) >>= Kf) >>= fun xs => Ka xs i >>= fun x => Ka xs j >>= fun y => updateSeq a fun xs => (xs.setIfInBounds i y).setIfInBounds j x) Q E s := by
  have e1 : (zs.map f)[i]? = some (f zs[i]) := by rw [Array.getElem?_map, Array.getElem?_eq_getElem hi]; rfl
  have e2 : (zs.map f)[j]? = some (f zs[j]) := by rw [Array.getElem?_map, Array.getElem?_eq_getElem hj]; rfl
  have e3 : ((zs.map f).setIfInBounds i (f zs[j])).setIfInBounds j (f zs[i]) = (zs.swap i j hi hj).map f := by
    apply Array.ext_getElem?
    intro k
    rw [Array.getElem?_map, Array.getElem?_swap, Array.getElem?_setIfInBounds, Array.getElem?_setIfInBounds, Array.size_setIfInBounds, Array.size_map, Array.getElem?_map]
    by_cases h1 : j = k
    · rw [if_pos h1, if_pos h1, if_pos hj]; rfl
    · rw [if_neg h1, if_neg h1]
      by_cases h2 : i = k
      · rw [if_pos h2, if_pos h2, if_pos hi]; rfl
      · rw [if_neg h2, if_neg h2]
  refine wpAny_bind (items_wp hk hl ?_)
  rw [hka _ _ _ e1]
  refine wpAny_bind (wpAny_pure ?_)
  rw [hka _ _ _ e2]
  refine wpAny_bind (wpAny_pure ?_)
  obtain ⟨n, hl'⟩ := hl
  refine wpAny_updateSeq hl' rfl (q _ ?_ (ho.upd _)) (by rw [Array.size_map]; exact hz) (by rw [Array.size_setIfInBounds, Array.size_setIfInBounds, Array.size_map]; omega)
  have := LstAt.upd ⟨n, hl'⟩ fun xs => (xs.setIfInBounds i (f zs[j])).setIfInBounds j (f zs[i])
  rw [e3] at this
  exact this
end
section
variable {prog : Program} {w : World} {A : Around} {R : Result → Shared → Prop} {s : Shared} {γ : Type} {lt : γ → γ → Bool} {P : γ → Prop} {f : γ → Value} {H : Heap} {a : Addr}
theorem map_at {zs : Array γ} {i : Nat} {x : γ} (h : zs[i]? = some x) : (zs.map f)[i]? = some (f x) := by
  rw [Array.getElem?_map, h]
  rfl
/-- what a call to be gone on with is -/
def Fn (prog : Program) (w : World) (A : Around) (R : Result → Shared → Prop) (fin : PySem.Fin) (s' : Shared) : Prop := match fin with
  | .done f => R (.ok f) s'
  | .again c' => c'.quiet = true ∧ codeAny (model prog w) A c' R s'
theorem up_run (o : Ord lt P) (hc : CmpH prog w A.in1 H a f lt P) (res : Value) :
    ∀ (n p : Nat) (zs : Array γ) (s : Shared), p ≤ n → p < zs.size → zs.size ≤ sizeLine → AllP P zs → HX lt zs p → LstAt s.heap a (zs.map f) → Others H a s.heap →
    (∀ (ys : Array γ) (s' : Shared), ys.Perm zs → AllP P ys → HP lt ys → LstAt s'.heap a (ys.map f) → Others H a s'.heap → s' = { s with heap := s'.heap } → R (.ok (.ret res)) s') →
    codeAny (model prog w) A (.builtin "_heapq.heapify.sift" ⟨[.ref a, .bool false, .bool false, rawInt p, rawInt 0, res, rawInt (-1)], []⟩) R s := by
  intro n
  induction n with
  | zero =>
    intro p zs s hn hp hz hP hx hl ho k
    have h0 : p = 0 := by omega
    subst h0
    refine codeAny_builtin entry_sift ?_
    rw [Around.under_plainId plain_sift _]
    refine wpAny_bind (items_wp (fun _ => rfl) hl ?_)
    exact wpAny_pure (k zs s (.refl _) hP (up_done o hP hx fun h => absurd h (Nat.lt_irrefl _)) hl ho rfl)
  | succ n ih =>
    intro p zs s hn hp hz hP hx hl ho k
    by_cases h0 : 0 < p
    · have hpp := par_lt h0
      have hq : par p < zs.size := by omega
      obtain ⟨x, hx1⟩ := some_of_lt hp
      obtain ⟨y, hy1⟩ := some_of_lt hq
      have h0' : (Int.toNat (p : Int)) > (Int.toNat ((0 : Nat) : Int)) := by simpa using h0
      refine codeAny_builtin entry_sift ?_
      rw [Around.under_plainId plain_sift _]
      refine wpAny_bind (items_wp (fun _ => rfl) hl ?_)
      simp only [Bool.false_eq_true, if_false, Int.toNat_natCast]
      rw [if_pos (by simpa using h0)]
      refine wpAny_bind ?_
      show wpAny _ _ (match (zs.map f)[p]? with | some v => pure v | none => _) _ _ s
      rw [map_at hx1]
      refine wpAny_pure (wpAny_bind ?_)
      show wpAny _ _ (match (zs.map f)[par p]? with | some v => pure v | none => _) _ _ s
      rw [map_at hy1]
      refine wpAny_pure (wpAny_bind (less_wp (fun _ => rfl) hl rfl (fun Q q => hc x y s Q _ ho (hP _ _ hx1) (hP _ _ hy1) q) ?_))
      cases hb : lt x y with
      | true =>
        refine wpAny_bind (swap_wp (fun _ => rfl) (fun xs i v e => ?_) hl hq hp hz ho fun h' hl' ho' => ?_)
        · show (match xs[i]? with | some v => pure v | none => _) = _
          rw [e]
        · refine wpAny_pure ⟨plainId_quiet plain_sift _, ih (par p) _ _ (by omega) (by rw [Array.size_swap]; exact hq) (by rw [Array.size_swap]; exact hz) (sw_all hq hp hP) (up_step o hP h0 hp hq hx fun x' y' e1 e2 => by
            rw [hx1] at e1
            rw [hy1] at e2
            cases e1
            cases e2
            exact hb) hl' ho' fun ys s' e1 e2 e3 e4 e5 e6 => k ys s' (e1.trans (Array.swap_perm hq hp)) e2 e3 e4 e5 e6⟩
      | false =>
        exact wpAny_pure (k zs s (.refl _) hP (up_done o hP hx fun _ x' y' e1 e2 => by
            rw [hx1] at e1
            rw [hy1] at e2
            cases e1
            cases e2
            exact hb) hl ho rfl)
    · exact ih p zs s (by omega) hp hz hP hx hl ho k
theorem at_k {xs : Array Value} {i : Nat} {v : Value} {K : Option Value → Sem Value} (hk : ∀ v, K (some v) = pure v) (e : xs[i]? = some v) : K xs[i]? = pure v := by rw [e]; exact hk v
theorem down_run (o : Ord lt P) (hc : CmpH prog w A.in1 H a f lt P) (res : Value) :
    ∀ (n p : Nat) (zs : Array γ) (s : Shared), zs.size - p ≤ n → p < zs.size → zs.size ≤ sizeLine → AllP P zs → HD lt zs p → LstAt s.heap a (zs.map f) → Others H a s.heap →
    (∀ (ys : Array γ) (s' : Shared), ys.Perm zs → AllP P ys → HP lt ys → LstAt s'.heap a (ys.map f) → Others H a s'.heap → s' = { s with heap := s'.heap } → R (.ok (.ret res)) s') →
    codeAny (model prog w) A (.builtin "_heapq.heapify.sift" ⟨[.ref a, .bool false, .bool true, rawInt p, rawInt 0, res, rawInt (-1)], []⟩) R s := by
  intro n
  induction n with
  | zero =>
    intro p zs s hn hp
    omega
  | succ n ih =>
    intro p zs s hn hp hz hP hx hl ho k
    have msz : (zs.map f).size = zs.size := Array.size_map
    have go : ∀ (c : Nat), (hc0 : 0 < c) → (hcp : par c = p) → (hcz : c < zs.size) → (hm : ∀ i, 0 < i → par i = p → i ≠ c → leAt lt zs c i) → ∀ (h' : Heap), LstAt h' a ((zs.swap c p hcz hp).map f) → Others H a h' →
        (Code.builtin "_heapq.heapify.sift" ⟨[.ref a, .bool false, .bool true, rawInt (c : Nat), rawInt 0, res, rawInt (-1)], []⟩).quiet = true ∧ codeAny (model prog w) A (.builtin "_heapq.heapify.sift" ⟨[.ref a, .bool false, .bool true, rawInt (c : Nat), rawInt 0, res, rawInt (-1)], []⟩) R { s with heap := h' } := by
      intro c hc0 hcp hcz hm h' hl' ho'
      have := par_lt hc0
      exact ⟨plainId_quiet plain_sift _, ih c _ _ (by rw [Array.size_swap]; omega) (by rw [Array.size_swap]; exact hcz) (by rw [Array.size_swap]; exact hz) (sw_all hcz hp hP) (down_step o hP hp hcz hc0 hcp hx hm) hl' ho' fun ys s' e1 e2 e3 e4 e5 e6 => k ys s' (e1.trans (Array.swap_perm hcz hp)) e2 e3 e4 e5 e6⟩
    refine codeAny_builtin entry_sift ?_
    rw [Around.under_plainId plain_sift _]
    refine wpAny_bind (items_wp (fun _ => rfl) hl ?_)
    simp only [if_true, Bool.false_eq_true, if_false, Int.toNat_natCast]
    by_cases h0 : p < (zs.map f).size / 2
    · rw [if_pos h0]
      have hlz : 2 * p + 1 < zs.size := by omega
      by_cases h1 : 2 * p + 1 + 1 < (zs.map f).size
      · rw [if_pos h1]
        have hrz : 2 * p + 2 < zs.size := by omega
        obtain ⟨x, hx1⟩ := some_of_lt hlz
        obtain ⟨y, hy1⟩ := some_of_lt hrz
        refine wpAny_bind ?_
        show wpAny _ _ (match (zs.map f)[2 * p + 1]? with | some v => pure v | none => _) _ _ s
        rw [map_at hx1]
        refine wpAny_pure (wpAny_bind ?_)
        show wpAny _ _ (match (zs.map f)[2 * p + 2]? with | some v => pure v | none => _) _ _ s
        rw [map_at hy1]
        refine wpAny_pure (wpAny_bind (less_wp (fun _ => rfl) hl rfl (fun Q q => hc x y s Q _ ho (hP _ _ hx1) (hP _ _ hy1) q) ?_))
        cases hb : lt x y with
        | true =>
          refine wpAny_bind (swap_wp (i := 2 * p + 1) (fun _ => rfl) (fun xs i v e => ?_) hl hlz hp hz ho fun h' hl' ho' => ?_)
          · show (match xs[i]? with | some v => pure v | none => _) = _
            rw [e]
          · refine wpAny_pure (go (2 * p + 1) (by omega) (by unfold par; omega) hlz (fun i hi hpi hne => ?_) h' hl' ho')
            have : i = 2 * p + 2 := by unfold par at hpi; omega
            subst this
            intro x' y' e1 e2
            rw [hx1] at e1
            rw [hy1] at e2
            cases e1
            cases e2
            exact o.asy _ _ (hP _ _ hx1) (hP _ _ hy1) hb
        | false =>
          refine wpAny_bind (swap_wp (i := 2 * p + 2) (fun _ => rfl) (fun xs i v e => ?_) hl hrz hp hz ho fun h' hl' ho' => ?_)
          · show (match xs[i]? with | some v => pure v | none => _) = _
            rw [e]
          · refine wpAny_pure (go (2 * p + 2) (by omega) (by unfold par; omega) hrz (fun i hi hpi hne => ?_) h' hl' ho')
            have : i = 2 * p + 1 := by unfold par at hpi; omega
            subst this
            intro x' y' e1 e2
            rw [hy1] at e1
            rw [hx1] at e2
            cases e1
            cases e2
            exact hb
      · rw [if_neg h1]
        refine wpAny_bind (swap_wp (i := 2 * p + 1) (fun _ => rfl) (fun xs i v e => ?_) hl hlz hp hz ho fun h' hl' ho' => ?_)
        · show (match xs[i]? with | some v => pure v | none => _) = _
          rw [e]
        · refine wpAny_pure (go (2 * p + 1) (by omega) (by unfold par; omega) hlz (fun i hi hpi hne => ?_) h' hl' ho')
          intro x' y' e1 e2
          have := lt_of_some e2
          unfold par at hpi
          omega
    · rw [if_neg h0]
      exact wpAny_pure ⟨plainId_quiet plain_sift _, up_run o hc res p p zs s (Nat.le_refl _) hp hz hP (down_done hx (by omega)) hl ho k⟩
/-! the two calls -/
theorem plain_push : plainId "_heapq.heappush" = true := by decide +kernel
theorem entry_push : entryFor table "_heapq.heappush" = some Builtin.«_heapq.heappush» := entryFor_of_fast (by kernel_rfl)
theorem plain_pop : plainId "_heapq.heappop" = true := by decide +kernel
theorem entry_pop : entryFor table "_heapq.heappop" = some Builtin.«_heapq.heappop» := entryFor_of_fast (by kernel_rfl)
theorem args_push (u v : Value) : argsOk "_heapq.heappush" ⟨[u, v], []⟩ := by unfold argsOk; kernel_rfl
theorem args_pop (u : Value) : argsOk "_heapq.heappop" ⟨[u], []⟩ := by unfold argsOk; kernel_rfl
theorem kind_push : builtinKind "_heapq.heappush" = none := by decide +kernel
theorem kind_pop : builtinKind "_heapq.heappop" = none := by decide +kernel
theorem push_call (o : Ord lt P) (hc : CmpH prog w A.in1 H a f lt P) {zs : Array γ} {z : γ} {Q : Value → Shared → Prop} {E : Value → Shared → Prop} (hz : zs.size < sizeLine) (hP : AllP P zs) (hPz : P z) (hx : HP lt zs) (hl : LstAt s.heap a (zs.map f)) (ho : Others H a s.heap)
    (k : ∀ (ys : Array γ) (h' : Heap), ys.Perm (zs.push z) → AllP P ys → HP lt ys → LstAt h' a (ys.map f) → Others H a h' → Q .none { s with heap := h' }) :
    wpAny (model prog w) A (call (.builtin "_heapq.heappush") [.ref a, f z]) Q E s := by
  have hT : s.TypeIs (.ref a) "list" := by
    obtain ⟨n, e⟩ := hl
    exact ⟨_, e, rfl⟩
  have ep : (zs.map f).push (f z) = (zs.push z).map f := by simp
  have sz : (zs.push z).size = zs.size + 1 := Array.size_push _
  refine call_function_tree kind_push plain_push entry_push (args_push _ _) ?_
  show wpAny _ A.in1 ((((isInstance (.ref a) (.type "list")) >>= _) >>= _) >>= _) _ _ s
  refine wpAny_bind (wpAny_bind (wpAny_bind (wpAny_isInstance (b := true) hT sub_list_self ?_)))
  refine wpAny_pure (wpAny_pure ?_)
  have hl2 : LstAt (s.heap.update a (Obj.mapSeq (·.push (f z)))) a ((zs.push z).map f) := by
    have := hl.upd (·.push (f z))
    rw [ep] at this
    exact this
  have ho2 := ho.upd (·.push (f z))
  obtain ⟨n, e⟩ := hl
  refine wpAny_bind (wpAny_updateSeq e rfl ?_ (by rw [Array.size_map]; omega) (by rw [Array.size_push, Array.size_map]; omega))
  refine wpAny_bind (items_wp (fun _ => rfl) hl2 ?_)
  refine wpAny_pure ⟨plainId_quiet plain_sift _, ?_⟩
  have e0 : ((zs.push z).map f).size - 1 = zs.size := by rw [Array.size_map, sz]; omega
  rw [e0]
  exact up_run o hc .none zs.size zs.size (zs.push z) _ (Nat.le_refl _) (by omega) (by omega) (fun i x e => by
    rw [Array.getElem?_push] at e
    split at e
    · cases e
      exact hPz
    · exact hP _ _ e) (hx_push hx) hl2 ho2 fun ys s' e1 e2 e3 e4 e5 e6 => by
      rw [e6]
      exact k ys _ e1 e2 e3 e4 e5
theorem pop_call (o : Ord lt P) (hr : ∀ x, P x → lt x x = false) (hc : CmpH prog w A.in1 H a f lt P) {zs : Array γ} {Q : Value → Shared → Prop} {E : Value → Shared → Prop} (h0 : 0 < zs.size) (hz : zs.size ≤ sizeLine) (hP : AllP P zs) (hx : HP lt zs) (hl : LstAt s.heap a (zs.map f)) (ho : Others H a s.heap)
    (k : ∀ (z : γ) (ys : Array γ) (h' : Heap), (ys.push z).Perm zs → (∀ y, y ∈ ys → lt y z = false) → P z → AllP P ys → HP lt ys → LstAt h' a (ys.map f) → Others H a h' → Q (f z) { s with heap := h' }) :
    wpAny (model prog w) A (call (.builtin "_heapq.heappop") [.ref a]) Q E s := by
  have hT : s.TypeIs (.ref a) "list" := by
    obtain ⟨n, e⟩ := hl
    exact ⟨_, e, rfl⟩
  have hl0 := hl
  have msz : (zs.map f).size = zs.size := Array.size_map
  obtain ⟨n, e⟩ := hl
  have hlast : zs.size - 1 < zs.size := by omega
  have eb : (zs.map f).back? = some (f zs[zs.size - 1]) := by
    rw [Array.back?_eq_getElem?, msz, Array.getElem?_map, Array.getElem?_eq_getElem hlast]
    rfl
  have hl2 : LstAt (s.heap.update a (Obj.mapSeq (·.pop))) a (zs.pop.map f) := by
    have := LstAt.upd ⟨n, e⟩ (·.pop)
    rw [← Array.map_pop] at this
    exact this
  have ho2 := ho.upd (·.pop)
  have le0 : ∀ i, i < zs.size → leAt lt zs 0 i := fun i hi => root_le o hP hr hx i i (Nat.le_refl _) hi
  have hPp : AllP P zs.pop := fun i x e => by
    rw [Array.getElem?_pop] at e
    split at e
    · exact hP _ _ e
    · cases e
  refine call_function_tree kind_pop plain_pop entry_pop (args_pop _) ?_
  refine wpAny_bind (wpAny_bind (m := oneArg "_heapq.heappop" _) (wpAny_pure ?_))
  refine wpAny_bind (wpAny_bind (wpAny_isInstance (b := true) hT sub_list_self ?_))
  refine wpAny_pure (wpAny_pure ?_)
  refine wpAny_bind (items_wp (fun _ => rfl) hl0 ?_)
  rw [eb]
  refine wpAny_bind (wpAny_updateSeq e rfl ?_ (by rw [msz]; omega) (by rw [Array.size_pop, msz]; omega))
  have epp : zs.pop.push zs[zs.size - 1] = zs := by
    apply Array.ext_getElem?
    intro i
    rw [Array.getElem?_push, Array.size_pop, Array.getElem?_pop]
    by_cases q : i = zs.size - 1
    · subst q
      rw [if_pos rfl, Array.getElem?_eq_getElem hlast]
    · rw [if_neg q]
      by_cases q2 : i < zs.size - 1
      · rw [if_pos q2]
      · rw [if_neg q2, Array.getElem?_eq_none (by omega)]
  by_cases h1 : zs.size = 1
  · rw [if_pos (by rw [msz, h1]; simp)]
    have i0 : zs.size - 1 = 0 := by omega
    refine wpAny_pure (k zs[zs.size - 1] zs.pop _ (by rw [epp]) (fun y hy => ?_) (hP (zs.size - 1) _ (Array.getElem?_eq_getElem hlast)) hPp (hp_pop hx) hl2 ho2)
    have : zs.pop.size = 0 := by rw [Array.size_pop]; omega
    rw [Array.eq_empty_of_size_eq_zero this] at hy
    exact absurd hy (Array.not_mem_empty _)
  · rw [if_neg (by rw [msz]; simpa using h1)]
    have h0z : 0 < zs.size := h0
    have e00 : zs[0]? = some zs[0] := Array.getElem?_eq_getElem h0
    refine wpAny_bind ?_
    show wpAny _ _ (match (zs.map f)[0]? with | some v => pure v | none => _) _ _ _
    rw [map_at e00]
    obtain ⟨n2, e2⟩ := id hl2
    refine wpAny_pure (wpAny_bind (wpAny_updateSeq e2 rfl ?_ (by rw [Array.size_map, Array.size_pop]; omega) (by rw [Array.size_setIfInBounds, Array.size_map, Array.size_pop]; omega)))
    have hl3 := hl2.upd (·.setIfInBounds 0 (f zs[zs.size - 1]))
    have e3 : (zs.pop.map f).setIfInBounds 0 (f zs[zs.size - 1]) = (zs.pop.setIfInBounds 0 zs[zs.size - 1]).map f := by rw [Array.map_setIfInBounds]
    rw [e3] at hl3
    have ho3 := ho2.upd (·.setIfInBounds 0 (f zs[zs.size - 1]))
    have s3 : (zs.pop.setIfInBounds 0 zs[zs.size - 1]).size = zs.size - 1 := by rw [Array.size_setIfInBounds, Array.size_pop]
    have hPl : P zs[zs.size - 1] := hP (zs.size - 1) _ (Array.getElem?_eq_getElem hlast)
    have hP0 : P zs[0] := hP 0 _ e00
    have eswap : (zs.pop.setIfInBounds 0 zs[zs.size - 1]).push zs[0] = zs.swap 0 (zs.size - 1) h0 hlast := by
      apply Array.ext_getElem?
      intro i
      rw [Array.getElem?_push, s3, Array.getElem?_swap, Array.getElem?_setIfInBounds, Array.size_pop, Array.getElem?_pop]
      by_cases q : i = zs.size - 1
      · rw [if_pos q, if_pos q.symm]
      · rw [if_neg q, if_neg (Ne.symm q)]
        by_cases q2 : 0 = i
        · rw [if_pos q2, if_pos q2, if_pos (by omega)]
        · rw [if_neg q2, if_neg q2]
          by_cases q3 : i < zs.size - 1
          · rw [if_pos q3]
          · rw [if_neg q3, Array.getElem?_eq_none (by omega)]
    refine wpAny_pure ⟨plainId_quiet plain_sift _, down_run o hc (f zs[0]) zs.size 0 (zs.pop.setIfInBounds 0 zs[zs.size - 1]) _ (by omega) (by omega) (by omega) (fun i x q => ?_) (hd_set (hp_pop hx)) hl3 ho3 fun ys s' e1 e2' e3' e4 e5 e6 => ?_⟩
    · rw [Array.getElem?_setIfInBounds] at q
      split at q
      · split at q
        · cases q
          exact hPl
        · cases q
      · exact hPp _ _ q
    · rw [e6]
      have pe : (ys.push zs[0]).Perm zs := ((e1.push _).trans (by rw [eswap])).trans (Array.swap_perm h0 hlast)
      refine k zs[0] ys _ pe (fun y hy => ?_) hP0 e2' e3' e4 e5
      have hy2 : y ∈ zs := pe.mem_iff.mp (by rw [Array.mem_push]; exact .inl hy)
      obtain ⟨i, hi, ei⟩ := Array.mem_iff_getElem.mp hy2
      exact le0 i hi _ _ e00 (by rw [Array.getElem?_eq_getElem hi, ei])
end
end Hq
end Slip
/-! rules of our own over the hand layer: one rule an operator, whatever its operands are -/
namespace Slip
open PySem PySem.Spec PyProof.Rows L2
section
variable {X : Cx} {e tg : Expr}
theorem pe_alt {t1 t2 : TE} (h1 : PE X e t1) (h2 : PE X e t2) : PE X e (fun σ H Q => t1 σ H Q ∨ t2 σ H Q) :=
  ⟨fun pins s σ H Q I h => h.elim (h1.run pins s σ H Q I) (h2.run pins s σ H Q I)⟩
theorem pi_alt {w1 w2 : TI} (h1 : PI X tg e w1) (h2 : PI X tg e w2) : PI X tg e (fun σ H R => w1 σ H R ∨ w2 σ H R) :=
  ⟨fun pins s σ H R I h => h.elim (h1.run pins s σ H R I) (h2.run pins s σ H R I)⟩
theorem pg_alt {g1 g2 : TG} (h1 : PG X e g1) (h2 : PG X e g2) : PG X e (fun v σ H Q => g1 v σ H Q ∨ g2 v σ H Q) :=
  ⟨fun pins s σ H v u Q I r h => h.elim (h1.run pins s σ H v u Q I r) (h2.run pins s σ H v u Q I r)⟩
theorem pset_alt {t1 t2 : TSet} (h1 : PSet X t1) (h2 : PSet X t2) : PSet X (fun o i v H Q => t1 o i v H Q ∨ t2 o i v H Q) :=
  fun pins s σ H o i v ov iv u Q I r1 r2 r3 h => h.elim (h1 pins s σ H o i v ov iv u Q I r1 r2 r3) (h2 pins s σ H o i v ov iv u Q I r1 r2 r3)
end
/-! ### comparisons of data -/
def rCmp (K : PySem.W.Frag) (g : PyData → PyData → Bool) : R2 := fun x y H Q => ∃ d e, Dp K H x d ∧ Dp K H y e ∧ PySem.W.alike d e = true ∧ d ≠ .none ∧ d.depth ≤ 64 ∧ Q (.bl (g d e)) H
abbrev gLt (d e : PyData) : Bool := PySem.W.dataLt d e
abbrev gGt (d e : PyData) : Bool := PySem.W.dataLt e d
abbrev gLe (d e : PyData) : Bool := !PySem.W.dataLt e d
abbrev gGe (d e : PyData) : Bool := !PySem.W.dataLt d e
section
variable {X : Cx}
theorem room_min {A : Around} {d e : PyData} (hd : d.depth ≤ 64) (hu : A.units + 64 < cLine) : A.units + min d.depth e.depth < cLine := by
  have := Nat.min_le_left d.depth e.depth
  omega
theorem op_ltD (hu : X.A.units + 64 < cLine) : OpR X (compareOp .Lt) (rCmp X.K gLt) := by
  intro pins s σ H x y v u Q I rx ry h
  obtain ⟨d, e, hd, he, al, nn, dp, q⟩ := h
  obtain ⟨as, r1⟩ := Dp.reads I d x v hd rx
  obtain ⟨bs, r2⟩ := Dp.reads I e y u he ry
  exact PySem.W.lt_data r1 r2 al nn (room_min dp hu) ⟨.bl _, H, I, rfl, q⟩
theorem op_gtD (hu : X.A.units + 64 < cLine) : OpR X (compareOp .Gt) (rCmp X.K gGt) := by
  intro pins s σ H x y v u Q I rx ry h
  obtain ⟨d, e, hd, he, al, nn, dp, q⟩ := h
  obtain ⟨as, r1⟩ := Dp.reads I d x v hd rx
  obtain ⟨bs, r2⟩ := Dp.reads I e y u he ry
  exact PySem.W.gt_data r1 r2 al nn (room_min dp hu) ⟨.bl _, H, I, rfl, q⟩
theorem op_leD (hu : X.A.units + 64 < cLine) : OpR X (compareOp .LtE) (rCmp X.K gLe) := by
  intro pins s σ H x y v u Q I rx ry h
  obtain ⟨d, e, hd, he, al, nn, dp, q⟩ := h
  obtain ⟨as, r1⟩ := Dp.reads I d x v hd rx
  obtain ⟨bs, r2⟩ := Dp.reads I e y u he ry
  exact PySem.W.le_data r1 r2 al nn (room_min dp hu) ⟨.bl _, H, I, rfl, q⟩
theorem op_geD (hu : X.A.units + 64 < cLine) : OpR X (compareOp .GtE) (rCmp X.K gGe) := by
  intro pins s σ H x y v u Q I rx ry h
  obtain ⟨d, e, hd, he, al, nn, dp, q⟩ := h
  obtain ⟨as, r1⟩ := Dp.reads I d x v hd rx
  obtain ⟨bs, r2⟩ := Dp.reads I e y u he ry
  exact PySem.W.ge_data r1 r2 al nn (room_min dp hu) ⟨.bl _, H, I, rfl, q⟩
end
/-! ### arithmetic by names -/
abbrev rSubI : R2 := rI0 fun i j => .int (i - j)
abbrev rAddI : R2 := rI0 fun i j => .int (i + j)
abbrev rAddS : R2 := fun x y H Q => ∃ i j, x = .str i ∧ y = .str j ∧ i.length + j.length ≤ sizeLine ∧ Q (.str (i ++ j)) H
/-! ### isinstance of data -/
/-- the built-in class of a datum -/
def tyD : PyData → String
  | .none => "NoneType"
  | .bool _ => "bool"
  | .int _ => "int"
  | .str _ => "str"
  | .list _ => "list"
  | .tuple _ => "tuple"
  | .dict _ => "dict"
end Slip
/-! what an expression comes to, with a relation between heaps -/
namespace Slip
open PySem PySem.Spec PyProof.Rows L2
abbrev Frag := PySem.W.Frag
/-- a list of one number, not below nought -/
def Spot (a : Addr) (H : Hp) : Prop := ∃ k : Int, 0 ≤ k ∧ H a = some (.lst [.int k])
/-- which objects may change (S), which of them stay a list of one number (P) -/
structure Rl where
  S : Addr → Prop
  P : Addr → Prop
  sub : ∀ a, P a → S a
structure Rl.r (ρ : Rl) (H H' : Hp) : Prop where
  keep : ∀ a o, ¬ ρ.S a → H a = some o → H' a = some o
  back : ∀ a, H' a = none → H a = none
  tup : ∀ a xs, H a = some (.tup xs) → H' a = some (.tup xs)
  frz : ∀ a o u, H a = some (.frz o u) → H' a = some (.frz o u)
  spot : ∀ a, ρ.P a → Spot a H → Spot a H'
abbrev exR : Rl := ⟨fun _ => False, fun _ => False, fun _ h => h⟩
abbrev spR (a : Addr) : Rl := ⟨fun b => b = a, fun b => b = a, fun _ h => h⟩
/-- D may change too -/
abbrev Rl.and (ρ : Rl) (D : Addr) : Rl := ⟨fun a => ρ.S a ∨ a = D, ρ.P, fun a h => .inl (ρ.sub a h)⟩
abbrev Ext (H H' : Hp) : Prop := ∀ a o, H a = some o → H' a = some o
theorem Ext.r {ρ : Rl} {H H' : Hp} (e : Ext H H') : ρ.r H H' :=
  ⟨fun a o _ h => e a o h, fun a h => Evl.fresh_back e h, fun a xs h => e a _ h, fun a o u h => e a _ h, fun a _ ⟨k, h0, h⟩ => ⟨k, h0, e a _ h⟩⟩
theorem Rl.r.rfl {ρ : Rl} {H : Hp} : ρ.r H H := Ext.r fun _ _ h => h
theorem Rl.r.trans {ρ : Rl} {H H1 H2 : Hp} (a : ρ.r H H1) (b : ρ.r H1 H2) : ρ.r H H2 :=
  ⟨fun x o n h => b.keep x o n (a.keep x o n h), fun x h => a.back x (b.back x h), fun x xs h => b.tup x xs (a.tup x xs h), fun x o u h => b.frz x o u (a.frz x o u h), fun x p h => b.spot x p (a.spot x p h)⟩
theorem Rl.r.ext {H H' : Hp} (e : exR.r H H') : Ext H H' := fun a o h => e.keep a o (fun z => z) h
theorem ext_new {H : Hp} {p : Addr} (o : HO) (h : H p = none) : Ext H (upd H p o) := fun a u q => by rw [upd_ne (ne_of_none q h)]; exact q
theorem r_new {ρ : Rl} {H : Hp} {p : Addr} (o : HO) (h : H p = none) : ρ.r H (upd H p o) := Ext.r (ext_new o h)
theorem r_new2 {ρ : Rl} {H H1 : Hp} (e : ρ.r H H1) {p : Addr} (o : HO) (h : H1 p = none) : ρ.r H (upd H1 p o) := e.trans (r_new o h)
/-- an object that H does not know may change, if it is no tuple, none that is locked -/
theorem r_mut {ρ : Rl} {H H1 : Hp} {p : Addr} {o : HO} (e : ρ.r H H1) (h : H p = none) : ρ.r H (upd H1 p o) :=
  ⟨fun a u n q => by rw [upd_ne (ne_of_none q h)]; exact e.keep a u n q,
   fun a q => by
    by_cases z : a = p
    · subst z; exact h
    · rw [upd_ne z] at q; exact e.back a q,
   fun a xs q => by rw [upd_ne (ne_of_none q h)]; exact e.tup a xs q, fun a u v q => by rw [upd_ne (ne_of_none q h)]; exact e.frz a u v q,
   fun a n ⟨k, h0, q⟩ => by
    obtain ⟨k', h0', q'⟩ := e.spot a n ⟨k, h0, q⟩
    exact ⟨k', h0', by rw [upd_ne (ne_of_none q h)]; exact q'⟩⟩
/-! ### sequences and data -/
/-- at a a list or a tuple of xs -/
def SqA (K : Frag) (H : Hp) (a : Addr) (xs : List V) : Prop := SqL K H a xs ∨ SqT K H a xs
theorem Rl.r.sqT {ρ : Rl} {K : Frag} {H H' : Hp} {a : Addr} {xs : List V} (e : ρ.r H H') (h : SqT K H a xs) : SqT K H' a xs := by
  rcases h with (h | ⟨o, h⟩) | h
  · exact .inl (.inl (e.tup _ _ h))
  · exact .inl (.inr ⟨o, e.frz _ _ _ h⟩)
  · exact .inr h
theorem Rl.r.sqL {ρ : Rl} {K : Frag} {H H' : Hp} {a : Addr} {xs : List V} (e : ρ.r H H') (n : ¬ ρ.S a) (h : SqL K H a xs) : SqL K H' a xs := by
  rcases h with (h | ⟨o, h⟩) | h
  · exact .inl (.inl (e.keep _ _ n h))
  · exact .inl (.inr ⟨o, e.frz _ _ _ h⟩)
  · exact .inr h
theorem ext_sqL {K : Frag} {H H' : Hp} {a : Addr} {xs : List V} (e : Ext H H') (h : SqL K H a xs) : SqL K H' a xs := Rl.r.sqL (ρ := exR) (Ext.r e) (fun z => z) h
theorem ext_sqT {K : Frag} {H H' : Hp} {a : Addr} {xs : List V} (e : Ext H H') (h : SqT K H a xs) : SqT K H' a xs := Rl.r.sqT (ρ := exR) (Ext.r e) h
theorem ext_sqA {K : Frag} {H H' : Hp} {a : Addr} {xs : List V} (e : Ext H H') (h : SqA K H a xs) : SqA K H' a xs := h.imp (ext_sqL e) (ext_sqT e)
/- data made in the heap: a list stands where A allows it -/
mutual
inductive Dq (A : Addr → Prop) (H : Hp) : V → PyData → Prop
  | non : Dq A H .non .none
  | bl (b : Bool) : Dq A H (.bl b) (.bool b)
  | int (i : Int) : Dq A H (.int i) (.int i)
  | str (x : Str) : Dq A H (.str x) (.str x)
  | lst {a : Addr} {xs : List V} {ds : List PyData} : A a → H a = some (.lst xs) → DqAll A H xs ds → Dq A H (.ref a) (.list ds)
  | tup {a : Addr} {xs : List V} {ds : List PyData} : H a = some (.tup xs) → DqAll A H xs ds → Dq A H (.ref a) (.tuple ds)
inductive DqAll (A : Addr → Prop) (H : Hp) : List V → List PyData → Prop
  | nil : DqAll A H [] []
  | cons {v : V} {vs : List V} {d : PyData} {ds : List PyData} : Dq A H v d → DqAll A H vs ds → DqAll A H (v :: vs) (d :: ds)
end
mutual
theorem Dq.dp {A : Addr → Prop} {K : Frag} {H : Hp} : ∀ (d : PyData) (v : V), Dq A H v d → Dp K H v d
  | .none, _, h => by cases h; exact .non
  | .bool b, _, h => by cases h; exact .bl b
  | .int i, _, h => by cases h; exact .int i
  | .str x, _, h => by cases h; exact .str x
  | .list ds, _, h => by cases h with | lst _ hs ha => exact .lst (.of hs) (DqAll.dp ds _ ha)
  | .tuple ds, _, h => by cases h with | tup hs ha => exact .tup (.inl (.inl hs)) (DqAll.dp ds _ ha)
  | .dict _, _, h => by cases h
theorem DqAll.dp {A : Addr → Prop} {K : Frag} {H : Hp} : ∀ (ds : List PyData) (vs : List V), DqAll A H vs ds → DpAll K H vs ds
  | [], _, h => by cases h; exact .nil
  | d :: ds, _, h => by cases h with | cons h1 h2 => exact .cons (Dq.dp d _ h1) (DqAll.dp ds _ h2)
end
mutual
theorem Dq.move {A A' : Addr → Prop} {H H' : Hp} (hl : ∀ a xs, A a → H a = some (.lst xs) → A' a ∧ H' a = some (.lst xs)) (ht : ∀ a xs, H a = some (.tup xs) → H' a = some (.tup xs)) : ∀ (d : PyData) (v : V), Dq A H v d → Dq A' H' v d
  | .none, _, h => by cases h; exact .non
  | .bool b, _, h => by cases h; exact .bl b
  | .int i, _, h => by cases h; exact .int i
  | .str x, _, h => by cases h; exact .str x
  | .list ds, _, h => by cases h with | lst n hs ha => exact .lst (hl _ _ n hs).1 (hl _ _ n hs).2 (DqAll.move hl ht ds _ ha)
  | .tuple ds, _, h => by cases h with | tup hs ha => exact .tup (ht _ _ hs) (DqAll.move hl ht ds _ ha)
  | .dict _, _, h => by cases h
theorem DqAll.move {A A' : Addr → Prop} {H H' : Hp} (hl : ∀ a xs, A a → H a = some (.lst xs) → A' a ∧ H' a = some (.lst xs)) (ht : ∀ a xs, H a = some (.tup xs) → H' a = some (.tup xs)) : ∀ (ds : List PyData) (vs : List V), DqAll A H vs ds → DqAll A' H' vs ds
  | [], _, h => by cases h; exact .nil
  | d :: ds, _, h => by cases h with | cons h1 h2 => exact .cons (Dq.move hl ht d _ h1) (DqAll.move hl ht ds _ h2)
end
/- no list within -/
mutual
def noList : PyData → Bool
  | .list _ => false
  | .tuple ds => noLists ds
  | _ => true
def noLists : List PyData → Bool
  | [] => true
  | d :: ds => noList d && noLists ds
end
mutual
theorem Dq.tups {A A' : Addr → Prop} {H H' : Hp} (ht : ∀ a xs, H a = some (.tup xs) → H' a = some (.tup xs)) : ∀ (d : PyData) (v : V), noList d = true → Dq A H v d → Dq A' H' v d
  | .none, _, _, h => by cases h; exact .non
  | .bool b, _, _, h => by cases h; exact .bl b
  | .int i, _, _, h => by cases h; exact .int i
  | .str x, _, _, h => by cases h; exact .str x
  | .list ds, _, n, h => by cases n
  | .tuple ds, _, n, h => by cases h with | tup hs ha => exact .tup (ht _ _ hs) (DqAll.tups ht ds _ (by simpa [noList] using n) ha)
  | .dict _, _, _, h => by cases h
theorem DqAll.tups {A A' : Addr → Prop} {H H' : Hp} (ht : ∀ a xs, H a = some (.tup xs) → H' a = some (.tup xs)) : ∀ (ds : List PyData) (vs : List V), noLists ds = true → DqAll A H vs ds → DqAll A' H' vs ds
  | [], _, _, h => by cases h; exact .nil
  | d :: ds, _, n, h => by
    have n' : noList d = true ∧ noLists ds = true := by simpa [noLists] using n
    cases h with | cons h1 h2 => exact .cons (Dq.tups ht d _ n'.1 h1) (DqAll.tups ht ds _ n'.2 h2)
end
theorem DqAll.length {A : Addr → Prop} {H : Hp} : ∀ {vs : List V} {ds : List PyData}, DqAll A H vs ds → vs.length = ds.length
  | _, _, .nil => rfl
  | _, _, .cons _ h => congrArg Nat.succ (DqAll.length h)
theorem DqAll.get {A : Addr → Prop} {H : Hp} : ∀ {vs : List V} {ds : List PyData} {i : Nat} {v : V}, DqAll A H vs ds → vs[i]? = some v → ∃ d, ds[i]? = some d ∧ Dq A H v d
  | _, _, i, v, .nil, e => by simp at e
  | _, _, 0, v, .cons h _, e => by simp at e; subst e; exact ⟨_, rfl, h⟩
  | _, _, i + 1, v, .cons _ h, e => by
    obtain ⟨d, e1, h1⟩ := DqAll.get (i := i) h (by simpa using e)
    exact ⟨d, by simpa using e1, h1⟩
theorem DqAll.get' {A : Addr → Prop} {H : Hp} : ∀ {vs : List V} {ds : List PyData} {i : Nat} {d : PyData}, DqAll A H vs ds → ds[i]? = some d → ∃ v, vs[i]? = some v ∧ Dq A H v d
  | _, _, i, v, .nil, e => by simp at e
  | _, _, 0, v, .cons h _, e => by simp at e; subst e; exact ⟨_, rfl, h⟩
  | _, _, i + 1, v, .cons _ h, e => by
    obtain ⟨d, e1, h1⟩ := DqAll.get' (i := i) h (by simpa using e)
    exact ⟨d, by simpa using e1, h1⟩
theorem DqAll.append {A : Addr → Prop} {H : Hp} : ∀ {vs ws : List V} {ds es : List PyData}, DqAll A H vs ds → DqAll A H ws es → DqAll A H (vs ++ ws) (ds ++ es)
  | _, _, _, _, .nil, h => h
  | _, _, _, _, .cons a t, h => .cons a (DqAll.append t h)
theorem DqAll.drop {A : Addr → Prop} {H : Hp} : ∀ {vs : List V} {ds : List PyData} (n : Nat), DqAll A H vs ds → DqAll A H (vs.drop n) (ds.drop n)
  | _, _, 0, h => h
  | _, _, _ + 1, .nil => .nil
  | _, _, n + 1, .cons _ t => DqAll.drop n t
theorem DqAll.take {A : Addr → Prop} {H : Hp} : ∀ {vs : List V} {ds : List PyData} (n : Nat), DqAll A H vs ds → DqAll A H (vs.take n) (ds.take n)
  | _, _, 0, h => .nil
  | _, _, _ + 1, .nil => .nil
  | _, _, n + 1, .cons a t => .cons a (DqAll.take n t)
/-- by places -/
theorem DqAll.of {A : Addr → Prop} {H : Hp} : ∀ {vs : List V} {ds : List PyData}, vs.length = ds.length → (∀ (i : Nat) v d, vs[i]? = some v → ds[i]? = some d → Dq A H v d) → DqAll A H vs ds
  | [], [], _, _ => .nil
  | v :: vs, d :: ds, hl, h => .cons (h 0 v d rfl rfl) (DqAll.of (by simpa using hl) fun i x y a b => h (i + 1) x y (by simpa using a) (by simpa using b))
  | [], _ :: _, hl, _ => by simp at hl
  | _ :: _, [], hl, _ => by simp at hl
/-- a datum that stays, whatever ρ lets change -/
abbrev DS (ρ : Rl) (H : Hp) (v : V) (d : PyData) : Prop := Dq (fun a => ¬ ρ.S a) H v d
abbrev DSs (ρ : Rl) (H : Hp) (vs : List V) (ds : List PyData) : Prop := DqAll (fun a => ¬ ρ.S a) H vs ds
theorem Rl.r.ds {ρ : Rl} {H H' : Hp} (e : ρ.r H H') {v : V} {d : PyData} (h : DS ρ H v d) : DS ρ H' v d := h.move (fun a _ n q => ⟨n, e.keep a _ n q⟩) e.tup
theorem Rl.r.dss {ρ : Rl} {H H' : Hp} (e : ρ.r H H') {v : List V} {d : List PyData} (h : DSs ρ H v d) : DSs ρ H' v d := h.move (fun a _ n q => ⟨n, e.keep a _ n q⟩) e.tup
theorem DS.ex {ρ : Rl} {H : Hp} {v : V} {d : PyData} (h : DS ρ H v d) : DS exR H v d := h.move (fun a _ n q => ⟨fun z => z, q⟩) fun _ _ q => q
/-- all that ρ lets change stands already -/
def Own (ρ : Rl) (H : Hp) : Prop := ∀ a, ρ.S a → H a ≠ none
theorem Own.r {ρ ρ' : Rl} {H H' : Hp} (o : Own ρ H) (e : ρ'.r H H') : Own ρ H' := fun a s n => o a s (e.back a n)
theorem Own.fresh {ρ : Rl} {H : Hp} (o : Own ρ H) {p : Addr} (n : H p = none) : ¬ ρ.S p := fun s => o p s n
theorem own_ex {H : Hp} : Own exR H := fun _ s => s.elim
theorem DS.seq {ρ : Rl} {H : Hp} {v : V} {ds : List PyData} (h : DS ρ H v (.list ds) ∨ DS ρ H v (.tuple ds)) : ∃ a xs, v = .ref a ∧ DSs ρ H xs ds ∧ ∀ (K : Frag) (H' : Hp), ρ.r H H' → SqA K H' a xs := by
  rcases h with h | h
  · cases h with | lst n hs ha => exact ⟨_, _, rfl, ha, fun K H' e => .inl (.of (e.keep _ _ n hs))⟩
  · cases h with | tup hs ha => exact ⟨_, _, rfl, ha, fun K H' e => .inr (.inl (.inl (e.tup _ _ hs)))⟩
theorem r_and {ρ : Rl} {D : Addr} {H H1 H2 : Hp} (e : ρ.r H H1) (n : H D = none) (e2 : (ρ.and D).r H1 H2) : ρ.r H H2 :=
  ⟨fun a o s h => e2.keep a o (fun z => z.elim s fun q => ne_of_none h n q) (e.keep a o s h), fun a h => e.back a (e2.back a h), fun a xs h => e2.tup a xs (e.tup a xs h), fun a o u h => e2.frz a o u (e.frz a o u h), fun a p h => e2.spot a p (e.spot a p h)⟩
theorem and_of {ρ : Rl} {D : Addr} {H H1 : Hp} (e : ρ.r H H1) : (ρ.and D).r H H1 := ⟨fun a o s h => e.keep a o (fun z => s (.inl z)) h, e.back, e.tup, e.frz, e.spot⟩
/-- D itself is changed -/
theorem r_chg {ρ : Rl} {D : Addr} {H : Hp} {xs ys : List V} (h : H D = some (.lst xs)) (n : ¬ ρ.S D) : (ρ.and D).r H (upd H D (.lst ys)) :=
  ⟨fun a o s q => by rw [upd_ne (fun z => s (.inr z))]; exact q,
   fun a q => by
    by_cases z : a = D
    · subst z; rw [upd_same] at q; cases q
    · rw [upd_ne z] at q; exact q,
   fun a xs q => by rw [upd_ne (ne_of q h (by intro z; cases z))]; exact q, fun a o u q => by rw [upd_ne (ne_of q h (by intro z; cases z))]; exact q,
   fun a p ⟨k, h0, q⟩ => ⟨k, h0, by rw [upd_ne (fun z : a = D => n (z ▸ ρ.sub a p))]; exact q⟩⟩
theorem DS.and {ρ : Rl} {D : Addr} {H : Hp} (n : H D = none) {v : V} {d : PyData} (h : DS ρ H v d) : DS (ρ.and D) H v d := h.move (fun a _ s q => ⟨fun z => z.elim s fun e => ne_of_none q n e, q⟩) fun _ _ q => q
theorem Rl.r.dsA {ρ : Rl} {D : Addr} {H H' : Hp} (e : ρ.r H H') {v : V} {d : PyData} (h : DS (ρ.and D) H v d) : DS (ρ.and D) H' v d := (and_of e).ds h
theorem DS.less {ρ : Rl} {D : Addr} {H : Hp} {v : V} {d : PyData} (h : DS (ρ.and D) H v d) : DS ρ H v d := h.move (fun a _ s q => ⟨fun z => s (.inl z), q⟩) fun _ _ q => q
theorem DSs.and {ρ : Rl} {D : Addr} {H : Hp} (n : H D = none) {v : List V} {d : List PyData} (h : DSs ρ H v d) : DSs (ρ.and D) H v d := h.move (fun a _ s q => ⟨fun z => z.elim s fun e => ne_of_none q n e, q⟩) fun _ _ q => q
theorem Own.and {ρ : Rl} {D : Addr} {H H' : Hp} (o : Own ρ H) (e : ρ.r H H') (h : H' D ≠ none) : Own (ρ.and D) H' := fun a s => s.elim (o.r e a) fun z => z ▸ h
/-! ### Ev -/
def Ev (ρ : Rl) (te : TE) (σ : L2.St) (H : Hp) (R : V → Hp → Prop) : Prop := ∀ H1, ρ.r H H1 → ∀ Q : VK, (∀ v H2, ρ.r H1 H2 → R v H2 → Q v H2) → te σ H1 Q
abbrev EvV (ρ : Rl) (te : TE) (σ : L2.St) (H : Hp) (v : V) : Prop := Ev ρ te σ H fun v' _ => v' = v
def EvT (ρ : Rl) (tt : TT) (σ : L2.St) (H : Hp) (b : Bool) : Prop := ∀ H1, ρ.r H H1 → ∀ Q : Bool → Hp → Prop, (∀ H2, ρ.r H1 H2 → Q b H2) → tt σ H1 Q
/-- a test of an unknown answer -/
def EvT2 (ρ : Rl) (tt : TT) (σ : L2.St) (H : Hp) : Prop := ∀ H1, ρ.r H H1 → ∀ Q : Bool → Hp → Prop, (∀ b H2, ρ.r H1 H2 → Q b H2) → tt σ H1 Q
def EvA (ρ : Rl) (ta : TA) (σ : L2.St) (H : Hp) (R : List V → Hp → Prop) : Prop := ∀ H1, ρ.r H H1 → ∀ Q : List V → Hp → Prop, (∀ vs H2, ρ.r H1 H2 → R vs H2 → Q vs H2) → ta σ H1 Q
abbrev EvAV (ρ : Rl) (ta : TA) (σ : L2.St) (H : Hp) (vs : List V) : Prop := EvA ρ ta σ H fun vs' _ => vs' = vs
def EvO (ρ : Rl) (to : TO) (σ : L2.St) (H : Hp) (o : Option Int) : Prop := ∀ H1, ρ.r H H1 → ∀ Q : Option Int → Hp → Prop, (∀ H2, ρ.r H1 H2 → Q o H2) → to σ H1 Q
/-- what is iterated over: n turns, Y tells each -/
def EvI (ρ : Rl) (wi : TI) (σ : L2.St) (H : Hp) (n : Nat) (Y : Nat → Hp → V → Hp → Prop) : Prop :=
  ∀ H1, ρ.r H H1 → ∀ R : It → Hp → Prop, (∀ J H2, ρ.r H1 H2 → Walk J n (fun H3 => ρ.r H2 H3) Y → R J H2) → wi σ H1 R
def RV (ρ : Rl) (r : R2) (x y : V) (H : Hp) (R : V → Hp → Prop) : Prop := ∀ H1, ρ.r H H1 → ∀ Q : VK, (∀ v H2, ρ.r H1 H2 → R v H2 → Q v H2) → r x y H1 Q
def RC (ρ : Rl) (r : List V → Hp → VK → Prop) (vs : List V) (H : Hp) (R : V → Hp → Prop) : Prop := ∀ H1, ρ.r H H1 → ∀ Q : VK, (∀ v H2, ρ.r H1 H2 → R v H2 → Q v H2) → r vs H1 Q
def SpR (ρ : Rl) (sp : Sp) (vs : List V) (H : Hp) (R : V → Hp → Prop) : Prop := ∀ H1, ρ.r H H1 → ∀ Q : VK, (∀ v H2, ρ.r H1 H2 → R v H2 → Q v H2) → ∀ E : XK, sp vs H1 Q E
section
variable {ρ : Rl} {K : Frag} {σ : L2.St} {H H' : Hp} {ta tb te tx : TE} {t u : TT} {x y z v : V} {r : R2} {R R' Ra Rb : V → Hp → Prop}
theorem Ev.mono (e : ρ.r H H') (h : Ev ρ te σ H R) : Ev ρ te σ H' R := fun H1 a Q q => h H1 (e.trans a) Q q
theorem EvT.mono {b : Bool} (e : ρ.r H H') (h : EvT ρ t σ H b) : EvT ρ t σ H' b := fun H1 a Q q => h H1 (e.trans a) Q q
theorem Ev.imp (h : Ev ρ te σ H R) (f : ∀ v H1, ρ.r H H1 → R v H1 → R' v H1) : Ev ρ te σ H R' := fun H1 a Q q => h H1 a Q fun v H2 e r => q v H2 e (f v H2 (a.trans e) r)
theorem Ev.val (h : EvV ρ te σ H v) (e : v = x) : EvV ρ te σ H x := by rw [← e]; exact h
theorem EvT.to {a b : Bool} (h : EvT ρ t σ H a) (e : a = b) : EvT ρ t σ H b := by rw [← e]; exact h
theorem ev_var {i : Nat} (h : σ[i]? = some (some v)) : EvV ρ (tVar i) σ H v := fun H1 _ _ q => ⟨v, h, q v H1 .rfl rfl⟩
theorem ev_c : EvV ρ (tC v) σ H v := fun H1 _ _ q => q v H1 .rfl rfl
theorem ev_op (ha : EvV ρ ta σ H x) (hb : EvV ρ tb σ H y) (hr : RV ρ r x y H R) : Ev ρ (tOp r ta tb) σ H R := fun H1 e Q q =>
  ha H1 e _ fun _ H2 e2 h2 => by
    subst h2
    exact hb H2 (e.trans e2) _ fun _ H3 e3 h3 => by
      subst h3
      exact hr H3 ((e.trans e2).trans e3) Q fun v H4 e4 rv => q v H4 ((e2.trans e3).trans e4) rv
/-- operands that may be new -/
theorem ev_op2 (ha : Ev ρ ta σ H Ra) (hb : ∀ x H1, ρ.r H H1 → Ra x H1 → Ev ρ tb σ H1 Rb) (hr : ∀ x y H1 H2, ρ.r H H1 → ρ.r H1 H2 → Ra x H1 → Rb y H2 → RV ρ r x y H2 R) : Ev ρ (tOp r ta tb) σ H R := fun H1 e Q q =>
  ha H1 e _ fun x H2 e2 rx => hb x H2 (e.trans e2) rx H2 .rfl _ fun y H3 e3 ry => hr x y H2 H3 (e.trans e2) e3 rx ry H3 .rfl Q fun v H4 e4 rv => q v H4 ((e2.trans e3).trans e4) rv
theorem RV.const (h : ∀ H1, ρ.r H H1 → ∀ Q : VK, Q z H1 → r x y H1 Q) : RV ρ r x y H (fun v' _ => v' = z) := fun H1 e Q q => h H1 e Q (q z H1 .rfl rfl)
theorem ea_nil : EvAV ρ tNil σ H [] := fun H1 _ _ q => q [] H1 .rfl rfl
theorem ea_cons {tr : TA} {vs : List V} (h : EvV ρ ta σ H x) (hr : EvAV ρ tr σ H vs) : EvAV ρ (tCons ta tr) σ H (x :: vs) := fun H1 e _ q =>
  h H1 e _ fun _ H2 e2 h2 => by
    subst h2
    exact hr H2 (e.trans e2) _ fun _ H3 e3 h3 => by
      subst h3
      exact q _ H3 (e2.trans e3) rfl
/-- the first argument new, then the rest -/
theorem ea_consR {tr : TA} {Rr : V → List V → Hp → Prop} (h : Ev ρ ta σ H Ra) (hr : ∀ x H1, ρ.r H H1 → Ra x H1 → EvA ρ tr σ H1 (Rr x)) : EvA ρ (tCons ta tr) σ H (fun vs H2 => ∃ x ws, vs = x :: ws ∧ Rr x ws H2) := fun H1 e _ q =>
  h H1 e _ fun x H2 e2 rx => hr x H2 (e.trans e2) rx H2 .rfl _ fun ws H3 e3 rw' => q _ H3 (e2.trans e3) ⟨x, ws, rfl, rw'⟩
/-- one argument, new -/
theorem ea_one (h : Ev ρ ta σ H Ra) : EvA ρ (tCons ta tNil) σ H (fun vs H2 => ∃ x, vs = [x] ∧ Ra x H2) := fun H1 e _ q =>
  h H1 e _ fun x H2 e2 rx => q _ H2 e2 ⟨x, rfl, rx⟩
theorem EvA.imp {tr : TA} {Rr Rr' : List V → Hp → Prop} (h : EvA ρ tr σ H Rr) (f : ∀ vs H1, ρ.r H H1 → Rr vs H1 → Rr' vs H1) : EvA ρ tr σ H Rr' := fun H1 a Q q => h H1 a Q fun v H2 e r => q v H2 e (f v H2 (a.trans e) r)
theorem ev_tup {ta : TA} {Rr : List V → Hp → Prop} (h : EvA ρ ta σ H Rr) (hl : ∀ vs H1, ρ.r H H1 → Rr vs H1 → vs.length ≤ 100000) : Ev ρ (tTup ta) σ H (fun v H2 => ∃ p vs H1, v = .ref p ∧ Rr vs H1 ∧ H1 p = none ∧ ρ.r H H1 ∧ H2 = upd H1 p (.tup vs)) := fun H1 e _ q =>
  h H1 e _ fun vs H2 e2 rv => ⟨Evl.sz_of (hl vs H2 (e.trans e2) rv), fun p hp => q _ _ (r_new2 e2 _ hp) ⟨p, vs, H2, rfl, rv, hp, e.trans e2, rfl⟩⟩
theorem ev_lst {ta : TA} {Rr : List V → Hp → Prop} (h : EvA ρ ta σ H Rr) (hl : ∀ vs H1, ρ.r H H1 → Rr vs H1 → vs.length ≤ 100000) : Ev ρ (tLst ta) σ H (fun v H2 => ∃ p vs H1, v = .ref p ∧ Rr vs H1 ∧ H1 p = none ∧ ρ.r H H1 ∧ H2 = upd H1 p (.lst vs)) := fun H1 e _ q =>
  h H1 e _ fun vs H2 e2 rv => ⟨Evl.sz_of (hl vs H2 (e.trans e2) rv), fun p hp => q _ _ (r_new2 e2 _ hp) ⟨p, vs, H2, rfl, rv, hp, e.trans e2, rfl⟩⟩
theorem ev_cb {r : List V → Hp → VK → Prop} {ta : TA} {Rr : List V → Hp → Prop} (h : EvA ρ ta σ H Rr) (hr : ∀ vs H1, ρ.r H H1 → Rr vs H1 → RC ρ r vs H1 R) : Ev ρ (tCB r ta) σ H R := fun H1 e Q q =>
  h H1 e _ fun vs H2 e2 rv => hr vs H2 (e.trans e2) rv H2 .rfl Q fun v H3 e3 rx => q v H3 (e2.trans e3) rx
theorem ev_cbV {r : List V → Hp → VK → Prop} {ta : TA} {vs : List V} (h : EvAV ρ ta σ H vs) (hr : RC ρ r vs H R) : Ev ρ (tCB r ta) σ H R := fun H1 e Q q =>
  h H1 e _ fun _ H2 e2 rv => by
    subst rv
    exact hr H2 (e.trans e2) Q fun v H3 e3 rx => q v H3 (e2.trans e3) rx
theorem ev_call {sp : Sp} {E : XK} {ta : TA} {vs : List V} (h : EvAV ρ ta σ H vs) (hs : SpR ρ sp vs H R) : Ev ρ (tCall sp [] E ta) σ H R := fun H1 e Q q =>
  h H1 e _ fun _ H2 e2 rv => by
    subst rv
    rw [List.append_nil]
    exact hs H2 (e.trans e2) Q (fun v H3 e3 rx => q v H3 (e2.trans e3) rx) E
theorem ev_callR {sp : Sp} {E : XK} {ta : TA} {Rr : List V → Hp → Prop} (h : EvA ρ ta σ H Rr) (hs : ∀ vs H1, ρ.r H H1 → Rr vs H1 → SpR ρ sp vs H1 R) : Ev ρ (tCall sp [] E ta) σ H R := fun H1 e Q q =>
  h H1 e _ fun vs H2 e2 rv => by
    rw [List.append_nil]
    exact hs vs H2 (e.trans e2) rv H2 .rfl Q (fun v H3 e3 rx => q v H3 (e2.trans e3) rx) E
theorem ev_callK {sp : Sp} {E : XK} {ta tk : TA} {vs zs : List V} {gV : List V → List V → List V} (h : EvAV ρ ta σ H vs) (hk : EvAV ρ tk σ H zs) (hs : SpR ρ sp (gV vs zs) H R) : Ev ρ (tCallK sp gV E ta tk) σ H R := fun H1 e Q q =>
  h H1 e _ fun _ H2 e2 rv => by
    subst rv
    exact hk H2 (e.trans e2) _ fun _ H3 e3 rz => by
      subst rz
      exact hs H3 ((e.trans e2).trans e3) Q (fun v H4 e4 rx => q v H4 ((e2.trans e3).trans e4) rx) E
theorem et_test {b : Bool} (h : EvV ρ te σ H (.bl b)) : EvT ρ (tTest te) σ H b := fun H1 e _ q => h H1 e _ fun v H2 e2 hv => ⟨b, hv, q H2 e2⟩
theorem et_B {b : Bool} (h : EvV ρ te σ H (.bl b)) : EvT ρ (tB te) σ H b := fun H1 e _ q => h H1 e _ fun v H2 e2 hv => ⟨b, hv, q H2 e2⟩
theorem et_not {a : Bool} (h1 : EvT ρ t σ H a) : EvT ρ (tNot t) σ H (!a) := fun H1 e _ q => h1 H1 e _ fun H2 e2 => q H2 e2
theorem et_and {a b : Bool} (h1 : EvT ρ t σ H a) (h2 : a = true → EvT ρ u σ H b) : EvT ρ (tAnd t u) σ H (a && b) := fun H1 e Q q => h1 H1 e _ fun H2 e2 => by
  cases a with
  | true => show u σ H2 Q; exact h2 rfl H2 (e.trans e2) Q fun H3 e3 => q H3 (e2.trans e3)
  | false => show Q false H2; exact q H2 e2
theorem et_or {a b : Bool} (h1 : EvT ρ t σ H a) (h2 : a = false → EvT ρ u σ H b) : EvT ρ (tOr t u) σ H (a || b) := fun H1 e Q q => h1 H1 e _ fun H2 e2 => by
  cases a with
  | true => show Q true H2; exact q H2 e2
  | false => show u σ H2 Q; exact h2 rfl H2 (e.trans e2) Q fun H3 e3 => q H3 (e2.trans e3)
theorem ev_andV {a b : Bool} (h1 : EvV ρ ta σ H (.bl a)) (h2 : a = true → EvV ρ tb σ H (.bl b)) : EvV ρ (tAndV ta tb) σ H (.bl (a && b)) := fun H1 e Q q => h1 H1 e _ fun v H2 e2 hv => ⟨a, hv, by
  cases a with
  | true => show tb σ H2 Q; exact h2 rfl H2 (e.trans e2) Q fun v' H3 e3 hv' => q _ H3 (e2.trans e3) hv'
  | false => show Q (.bl false) H2; exact q _ H2 e2 rfl⟩
theorem ev_orV {a b : Bool} (h1 : EvV ρ ta σ H (.bl a)) (h2 : a = false → EvV ρ tb σ H (.bl b)) : EvV ρ (tOrV ta tb) σ H (.bl (a || b)) := fun H1 e Q q => h1 H1 e _ fun v H2 e2 hv => ⟨a, hv, by
  cases a with
  | true => show Q (.bl true) H2; exact q _ H2 e2 rfl
  | false => show tb σ H2 Q; exact h2 rfl H2 (e.trans e2) Q fun v' H3 e3 hv' => q _ H3 (e2.trans e3) hv'⟩
theorem ev_notV {a : Bool} (h1 : EvV ρ ta σ H (.bl a)) : EvV ρ (tNotV ta) σ H (.bl (!a)) := fun H1 e _ q => h1 H1 e _ fun v H2 e2 hv => ⟨a, hv, q _ H2 e2 rfl⟩
theorem ev_if {b : Bool} (h : EvT ρ t σ H b) (h1 : b = true → Ev ρ ta σ H R) (h2 : b = false → Ev ρ tb σ H R) : Ev ρ (tIf t ta tb) σ H R := fun H1 e Q q => h H1 e _ fun H2 e2 => by
  cases b with
  | true => show ta σ H2 Q; exact h1 rfl H2 (e.trans e2) Q fun v H3 e3 rv => q v H3 (e2.trans e3) rv
  | false => show tb σ H2 Q; exact h2 rfl H2 (e.trans e2) Q fun v H3 e3 rv => q v H3 (e2.trans e3) rv
theorem eo_none : EvO ρ tNoPart σ H none := fun H1 _ _ q => q H1 .rfl
theorem eo_some {i : Int} (h : EvV ρ te σ H (.int i)) : EvO ρ (tPart te) σ H (some i) := fun H1 e _ q => h H1 e _ fun v H2 e2 hv => ⟨i, hv, q H2 e2⟩
/-! ### statements -/
variable {D : Ends} {tu tw tz : TS}
theorem s_ret (h : Ev ρ te σ H R) (k : ∀ v H1, ρ.r H H1 → R v H1 → D.rt v H1) : tRet te D σ H := h H .rfl _ fun v H1 e rv => k v H1 e rv
theorem s_retV (h : EvV ρ te σ H v) (k : ∀ H1, ρ.r H H1 → D.rt v H1) : tRet te D σ H := h H .rfl _ fun v' H1 e rv => by subst rv; exact k H1 e
theorem s_seq (h : tu { D with nx := tz D } σ H) : tSeq tu tz D σ H := h
theorem s_asg {i : Nat} (h : Ev ρ te σ H R) (k : ∀ v H1, ρ.r H H1 → R v H1 → D.nx (σ.set i (some v)) H1) : tAsg te (gName i) D σ H := h H .rfl _ fun v H1 e rv => k v H1 e rv
theorem q_asg {i : Nat} (h : Ev ρ te σ H R) (k : ∀ v H1, ρ.r H H1 → R v H1 → tz D (σ.set i (some v)) H1) : tSeq (tAsg te (gName i)) tz D σ H := h H .rfl _ fun v H1 e rv => k v H1 e rv
theorem q_asgV {i : Nat} (h : EvV ρ te σ H v) (k : ∀ H1, ρ.r H H1 → tz D (σ.set i (some v)) H1) : tSeq (tAsg te (gName i)) tz D σ H := h H .rfl _ fun v' H1 e rv => by subst rv; exact k H1 e
theorem s_asgV {i : Nat} (h : EvV ρ te σ H v) (k : ∀ H1, ρ.r H H1 → D.nx (σ.set i (some v)) H1) : tAsg te (gName i) D σ H := h H .rfl _ fun v' H1 e rv => by subst rv; exact k H1 e
theorem s_if {b : Bool} (h : EvT ρ t σ H b) (h1 : b = true → ∀ H1, ρ.r H H1 → tu D σ H1) (h2 : b = false → ∀ H1, ρ.r H H1 → tw D σ H1) : tIfS t tu tw D σ H := h H .rfl _ fun H1 e => by
  cases b with
  | true => show tu D σ H1; exact h1 rfl H1 e
  | false => show tw D σ H1; exact h2 rfl H1 e
theorem q_if {b : Bool} (h : EvT ρ t σ H b) (h1 : b = true → ∀ H1, ρ.r H H1 → tu { D with nx := tz D } σ H1) (h2 : b = false → ∀ H1, ρ.r H H1 → tw { D with nx := tz D } σ H1) : tSeq (tIfS t tu tw) tz D σ H := s_if (D := { D with nx := tz D }) h h1 h2
theorem q_when {b : Bool} (h : EvT ρ t σ H b) (h1 : b = true → ∀ H1, ρ.r H H1 → tu { D with nx := tz D } σ H1) (h2 : b = false → ∀ H1, ρ.r H H1 → tz D σ H1) : tSeq (tIfS t tu tNext) tz D σ H := s_if (D := { D with nx := tz D }) h h1 h2
theorem s_drop (h : Ev ρ te σ H R) (k : ∀ v H1, ρ.r H H1 → R v H1 → D.nx σ H1) : tDrop te D σ H := h H .rfl _ fun v H1 e rv => k v H1 e rv
theorem q_drop (h : Ev ρ te σ H R) (k : ∀ v H1, ρ.r H H1 → R v H1 → tz D σ H1) : tSeq (tDrop te) tz D σ H := h H .rfl _ fun v H1 e rv => k v H1 e rv
/-! ### loops -/
variable {wi : TI} {g : TG} {n : Nat} {Y : Nat → Hp → V → Hp → Prop}
theorem s_for (h : EvI ρ wi σ H n Y) (k : ∀ H1, ρ.r H H1 → ∃ Pv : Nat → L2.St → Hp → Prop, Pv 0 σ H1 ∧ (∀ i σ' H', i ≤ n → Pv i σ' H' → ρ.r H1 H') ∧
    (∀ i x σ' H' H'', i < n → Pv i σ' H' → Y i H' x H'' → g x σ' H'' fun σ2 H2 => tu { D with nx := Pv (i + 1), ct := Pv (i + 1), bk := D.nx } σ2 H2) ∧ ∀ σ' H', Pv n σ' H' → D.nx σ' H') : tFor wi g tu D σ H :=
  h H .rfl _ fun J H1 e w => by
    obtain ⟨Pv, h0, hr, hs, hd⟩ := k H1 e
    exact for_it w Pv h0 hr hs hd
theorem q_for (h : EvI ρ wi σ H n Y) (k : ∀ H1, ρ.r H H1 → ∃ Pv : Nat → L2.St → Hp → Prop, Pv 0 σ H1 ∧ (∀ i σ' H', i ≤ n → Pv i σ' H' → ρ.r H1 H') ∧
    (∀ i x σ' H' H'', i < n → Pv i σ' H' → Y i H' x H'' → g x σ' H'' fun σ2 H2 => tu { D with nx := Pv (i + 1), ct := Pv (i + 1), bk := tz D } σ2 H2) ∧ ∀ σ' H', Pv n σ' H' → tz D σ' H') : tSeq (tFor wi g tu) tz D σ H :=
  s_for (D := { D with nx := tz D }) h k
end
end Slip
/-! one rule a construct, whatever stands in it; the names that the generator prints -/
namespace Slip
open PySem PySem.Spec PyProof.Rows L2
section
variable {X : Cx} {a b e tg : Expr} {pos : Pos} {ta tb te : TE}
/-! ### + - * // % ** -/
def rAddStr : R2 := fun x y H Q => ∃ i j, x = .str i ∧ y = .str j ∧ i.length + j.length ≤ sizeLine ∧ Q (.str (i ++ j)) H
def rAddU (K : Frag) : R2 := fun x y H Q => rAddI x y H Q ∨ (rAddStr x y H Q ∨ (rCatA K x y H Q ∨ rCat x y H Q))
theorem op_addU : OpR X (binaryOp .Add) (rAddU X.K) := OpR.or (r := rAddI) op_add (OpR.or (r := rAddStr) op_add_str (OpR.or op_catA op_cat))
abbrev rMulI : R2 := rI CMul fun i j => .int (i * j)
theorem op_mulI : OpR X (binaryOp .Mult) rMulI := op_mul
abbrev rModI : R2 := rI (fun _ j => 0 < j) fun i j => .int (i % j)
theorem op_modI : OpR X (binaryOp .Mod) rModI := op_mod
abbrev rFdivI : R2 := rI CDiv fun i j => .int (i / j)
theorem op_fdivI : OpR X (binaryOp .FloorDiv) rFdivI := op_fdiv
abbrev rPowI : R2 := rI CPow fun i j => .int (i ^ j.toNat)
theorem op_powI : OpR X (binaryOp .Pow) rPowI := op_pow
abbrev rNegI : V → Hp → VK → Prop := rU fun i => .int (-i)
theorem un_negI : UnR X (unaryOp .USub) rNegI := un_neg
abbrev rAugAdd : TIp := ipI fun i j => i + j
theorem ip_augAdd : PIp X .Add rAugAdd := ip_add
/-! ### == -/
def rEqU (K : Frag) : R2 := fun x y H Q => rEq x y H Q ∨ rEqD K x y H Q
def rNeU (K : Frag) : R2 := fun x y H Q => rNe x y H Q ∨ rNeD K x y H Q
theorem op_eqU (hu : X.A.units + 64 < cLine) : OpR X (compareOp .Eq) (rEqU X.K) := OpR.or op_eq (op_eqD hu)
theorem op_neU (hu : X.A.units + 64 < cLine) : OpR X (compareOp .NotEq) (rNeU X.K) := OpR.or op_ne (op_neD hu)
/-! ### is None -/
def rIsN : R2 := fun x y H Q => y = .non ∧ Q (.bl (decide (x = .non))) H
def rNotN : R2 := fun x y H Q => y = .non ∧ Q (.bl (!decide (x = .non))) H
theorem op_isN1 : OpR X (compareOp .Is) rIsN := op_isN
theorem op_notN1 : OpR X (compareOp .IsNot) rNotN := op_notN
/-! ### in -/
def rInS : R2 := fun x y H Q => ∃ (c : Nat) (z : Str), x = .str ⟨#[c]⟩ ∧ y = .str z ∧ Q (.bl (decide (c ∈ z.cps.toList))) H
def rNotInS : R2 := fun x y H Q => ∃ (c : Nat) (z : Str), x = .str ⟨#[c]⟩ ∧ y = .str z ∧ Q (.bl (!decide (c ∈ z.cps.toList))) H
def rInD : R2 := fun x y H Q => ∃ a o, y = .ref a ∧ DGet H a x o ∧ Q (.bl o.isSome) H
def rNotInD : R2 := fun x y H Q => ∃ a o, y = .ref a ∧ DGet H a x o ∧ Q (.bl (!o.isSome)) H
theorem op_inD (hu : X.A.units + 1 < cLine) : OpR X (compareOp .In) rInD := by
  intro pins s σ H x y v u Q I rx ry h
  obtain ⟨a, o, rfl, g, q⟩ := h
  obtain rfl : u = Value.ref a := ry
  exact d_in hu I g rx fun s3 I3 => ⟨.bl o.isSome, H, I3, rfl, q⟩
theorem op_notInD (hu : X.A.units + 1 < cLine) : OpR X (compareOp .NotIn) rNotInD := by
  intro pins s σ H x y v u Q I rx ry h
  obtain ⟨a, o, rfl, g, q⟩ := h
  obtain rfl : u = Value.ref a := ry
  exact d_notIn hu I g rx fun s3 I3 => ⟨.bl (!o.isSome), H, I3, rfl, q⟩
def rInU (K : Frag) : R2 := fun x y H Q => rIn K false x y H Q ∨ (rInS x y H Q ∨ rInD x y H Q)
def rNotInU (K : Frag) : R2 := fun x y H Q => rIn K true x y H Q ∨ (rNotInS x y H Q ∨ rNotInD x y H Q)
theorem op_inU (hu : X.A.units + 1 < cLine) : OpR X (compareOp .In) (rInU X.K) := OpR.or op_in_seq (OpR.or (r := rInS) op_in_sign (op_inD hu))
theorem op_notInU (hu : X.A.units + 1 < cLine) : OpR X (compareOp .NotIn) (rNotInU X.K) := OpR.or op_notIn_seq (OpR.or (r := rNotInS) op_notIn_sign (op_notInD hu))
/-! ### subscripts, slices -/
def tIxU (K : Frag) (ta tb : TE) : TE := fun σ H Q => tOp (rIx K) ta tb σ H Q ∨ tDGet ta tb σ H Q
theorem pe_ixU (hu : X.A.units + 1 < cLine) (ha : PE X a ta) (hb : PE X b tb) (hs : PlainIx b) (hn : NoSl b) : PE X (.Subscript a b pos) (tIxU X.K ta tb) :=
  pe_alt (pe_ix ix_seq ha hb hs) (pe_dget hu ha hb hn)
def rSlU (K : Frag) : V → Option Int → Option Int → Hp → VK → Prop := fun x lo hi H Q => rSlL K x lo hi H Q ∨ (rSlA K x lo hi H Q ∨ rSlS x lo hi H Q)
theorem sl_U : SlR X (rSlU X.K) := SlR.or sl_list (SlR.or sl_tupA sl_str)
/-! ### what a for walks, targets, stores -/
def iSeq (K : Frag) (te : TE) : TI := fun σ H R => iList K te σ H R ∨ (iTup K te σ H R ∨ iStr te σ H R)
theorem pi_seq (h : PE X e te) : PI X tg e (iSeq X.K te) := pi_alt (pi_list h) (pi_alt (pi_tup h) (pi_str h))
def gSeq (K : Frag) (n : Nat) (t : TGs) : TG := fun v σ H Q => gTup K n t v σ H Q ∨ gLst K n t v σ H Q
theorem pg_seq {es : List Expr} {k : Nat} {t : TGs} {n : Nat} (hc : X.calm = true) (h : PGs X es t)
    (hn : (assignEach es X.env).length = n := by rfl) (hst : (assignEach es X.env).findIdx? (·.1) = none := by rfl) : PG X (.Tuple es k pos) (gSeq X.K n t) := pg_alt (pg_tup hc h hn hst) (pg_lst hc h hn hst)
def rSetU (K : Frag) : TSet := fun o i v H Q => rSetL o i v H Q ∨ rSetD o i v H Q
theorem set_U {K : Frag} (hu : X.A.units + 1 < cLine) : PSet X (rSetU K) := pset_alt set_list (set_dict hu)
/-! ### built-in functions -/
abbrev RCa := List V → Hp → VK → Prop
def rLenV (K : Frag) : RCa := fun xs H Q => ∃ x n, xs = [x] ∧ LenV K x H n ∧ Q (.int n) H
def rLenDK : RCa := fun xs H Q => ∃ a kvs, xs = [V.ref a] ∧ H a = some (.dK kvs) ∧ Q (.int kvs.length) H
def rLenU (K : Frag) : RCa := fun xs H Q => rLenV K xs H Q ∨ (rLenDK xs H Q ∨ rLenT xs H Q)
theorem call_lenU : CallR X (.builtin "len") (rLenU X.K) := CallR.or (r := rLenV X.K) call_len (CallR.or (r := rLenDK) call_lenD call_len_dT)
def rIntOf : RCa := fun xs H Q => (∃ i, xs = [.int i] ∧ Q (.int i) H) ∨ ∃ k, xs = [.bl k] ∧ Q (.int (if k then 1 else 0)) H
theorem call_intOf : CallR X (.type "int") rIntOf := call_int1
def rTupOf (K : Frag) : RCa := fun xs H Q => ∃ p ys, xs = [.ref p] ∧ ((SqL K H p ys ∧ ∀ l, H l = none → Q (.ref l) (upd H l (.tup ys))) ∨ (SqT K H p ys ∧ Q (.ref p) H))
theorem call_tupOf : CallR X (.type "tuple") (rTupOf X.K) := call_tuple_of
def rLstOf (K : Frag) : RCa := fun xs H Q => ∃ p ys, xs = [.ref p] ∧ (SqL K H p ys ∨ SqT K H p ys) ∧ ∀ l, H l = none → Q (.ref l) (upd H l (.lst ys))
theorem call_lstOf : CallR X (.type "list") (rLstOf X.K) := call_list_of
def rMin2' : RCa := fun xs H Q => ∃ i j, xs = [.int i, .int j] ∧ Q (.int (if j < i then j else i)) H
theorem call_min2' (hc : X.calm = true) : CallR X (.builtin "min") rMin2' := call_min2 hc
/-! ### isinstance -/
def isiB (d : PyData) (n : String) : Bool := tyD d == n || (tyD d == "bool" && n == "int")
def isiAny (d : PyData) (ns : List String) : Bool := ns.any (isiB d)
def good (n : String) : Bool := n == "int" || n == "bool" || n == "str" || n == "list" || n == "tuple"
theorem kit_good (d : PyData) (n : String) (h : good n = true) : kitB (tyD d) n = some (isiB d n) := by
  have hn : n = "int" ∨ n = "bool" ∨ n = "str" ∨ n = "list" ∨ n = "tuple" := by
    simp only [good, Bool.or_eq_true, beq_iff_eq] at h
    rcases h with (((h | h) | h) | h) | h <;> simp [h]
  rcases hn with rfl | rfl | rfl | rfl | rfl <;> cases d <;> (dsimp only [isiB, tyD]; decide +kernel)
theorem dp_ty {K : Frag} {H : Hp} {v : V} {d : PyData} (h : Dp K H v d) : TyX K H v (.type (tyD d)) := by
  cases h with
  | non => exact .base .non
  | bl b => exact .base (.bl b)
  | int i => exact .base (.int i)
  | str x => exact .base (.str x)
  | lst hs ha =>
    rcases hs with (hs | ⟨o, hs⟩) | ⟨o, its, n, hk, hc, _⟩
    · exact .base (.lst hs)
    · exact .base (.frz hs)
    · exact .kList hk hc
  | tup hs ha =>
    rcases hs with (hs | ⟨o, hs⟩) | ⟨o, its, n, hk, hc, _⟩
    · exact .base (.tup hs)
    · exact .fTuple hs
    · exact .kTuple hk hc
def rIsi1 (K : Frag) : RCa := fun xs H Q => ∃ x n d, xs = [x, .ty n] ∧ Dp K H x d ∧ good n = true ∧ Q (.bl (isiB d n)) H
def rIsi2 (K : Frag) : RCa := fun xs H Q => ∃ x p ns d, xs = [x, .ref p] ∧ H p = some (.tup (ns.map V.ty)) ∧ Dp K H x d ∧ (ns.all good) = true ∧ Q (.bl (isiAny d ns)) H
def rIsiU (K : Frag) : RCa := fun xs H Q => rIsi1 K xs H Q ∨ rIsi2 K xs H Q
theorem kit_all (K : Frag) (d : PyData) : ∀ ns : List String, ns.all good = true → PySem.W.kitAny K (.type (tyD d)) (ns.map Value.type) = some (isiAny d ns)
  | [], _ => rfl
  | n :: ns, h => by
    have h' : good n = true ∧ ns.all good = true := by simpa using h
    have ih := kit_all K d ns h'.2
    refine kitAny_cons (kit_ty (kit_good d n h'.1)) (fun e => ?_) (fun e => ?_)
    · rw [ih]; unfold isiAny; rw [List.any_cons, e, Bool.false_or]
    · unfold isiAny; rw [List.any_cons, e, Bool.true_or]
theorem cls_all : ∀ ns : List String, Paired ClsV (ns.map V.ty) (ns.map Value.type)
  | [] => .nil
  | n :: ns => .cons (.ty n) (cls_all ns)
theorem call_isiU : CallR X (.builtin "isinstance") (rIsiU X.K) := by
  refine CallR.or (fun pins s σ H xs us Q I r h => ?_) (fun pins s σ H xs us Q I r h => ?_)
  · obtain ⟨x, n, d, rfl, hd, g, q⟩ := h
    exact call_isi pins s σ H _ us Q I r ⟨x, _, _, _, _, rfl, .ty n, dp_ty hd, kit_ty (kit_good d n g), q⟩
  · obtain ⟨x, p, ns, d, rfl, hp, hd, g, q⟩ := h
    exact call_isiT pins s σ H _ us Q I r ⟨x, p, _, _, _, _, rfl, hp, cls_all ns, dp_ty hd, kit_all X.K d ns g, q⟩
/-! ### calls with keywords -/
/-- n values, then the keywords ks, each a parameter behind them -/
def KwTo (fd : FuncData) (ps : List Str) (n : Nat) (ks : List Str) : Prop := ∀ (s : Shared) (us ws : List Value), us.length = n → ws.length = ks.length → BindsTo s fd ⟨us, ks.zip ws⟩ (ps.zip (us ++ ws))
theorem run_kw {CX : CXT} {E : XK} {f : Addr} {fd : FuncData} {ps ks : List Str} {k n : Nat} {sp : Sp} {pins : List (Addr × Obj)} {σ : L2.St} {H : Hp} {s : Shared} {Q : VK} {us ws : List Value} {vs zs : List V} (F : FnOk X.prog X.w X.K X.mg X.base CX k f fd ps sp) (hr : Room k X.A) (hb : KwTo fd ps n ks) (hx : Passes CX X E)
    (I : Inv X pins σ H s) (hn : us.length = n) (hk : ps.length = n + ks.length) (r : Vals vs us) (rz : Vals zs ws) (h : sp (vs ++ zs) H Q E) : wpAny (model X.prog X.w) X.A (call (.ref f) us (ks.zip ws)) (EP X pins σ Q) X.xe s := by
  have r2 : Vals (vs ++ zs) (us ++ ws) := r.append rz
  have hl : (us ++ ws).length = ps.length := by rw [← r2.length]; exact F.len _ _ _ _ h
  have hw : ws.length = ks.length := by rw [List.length_append] at hl; omega
  refine wpAny_call (codeAny_mono (F.run X.A X.stack s H ⟨us, ks.zip ws⟩ (us ++ ws) (vs ++ zs) Q E hr I.env0 (hb s us ws hn hw) r2 h) fun r s' hq => ?_)
  cases r with
  | error e => exact hx pins σ H s e s' I hq
  | ok fl =>
    cases fl with
    | ret u => exact I.after hq
    | next => exact False.elim hq
    | brk => exact False.elim hq
    | cont => exact False.elim hq
theorem pe_callK0 {CX : CXT} {E : XK} {x : Str} {p : Pos} {f : Addr} {fd : FuncData} {ps ks : List Str} {k : Nat} {sp : Sp} {kws : List Keyword} {tk : TA} (F : FnOk X.prog X.w X.K X.mg X.base CX k f fd ps sp) (hr : Room k X.A) (hg : Gl X x) (hm : X.mg x = some (.ref f)) (hk : PySem.W.keepIn X.K (.ref f) = true)
    (hb : KwTo fd ps 0 ks) (hx : Passes CX X E) (hkw : PK X kws tk) (hall : (backToKw pos (keywordEach kws X.env)).all (·.1.isSome) = true := by rfl) (hks : (backToKw pos (keywordEach kws X.env)).filterMap (·.1) = ks := by rfl)
    (hlen : ps.length = 0 + ks.length := by rfl) (hdb : (x == ("__debug__" : Str)) = false := by decide)
    (hpl : ((backTo pos (starEach [] X.env)).any (·.1) || (backToKw pos (keywordEach kws X.env)).any (·.1.isNone)) = false := by rfl) :
    PE X (.Call (.Name x p) [] kws pos) (tCall sp [] E tk) := by
  refine ⟨fun pins s σ H Q I h => ?_⟩
  refine wpAny_Call_Name_kw (ld_glob I hg hm ?_ hdb)
  refine PySem.W.callWith_KW0 (h₀ := X.base) I.ok.mod.kin hk hall ?_ hpl
  refine thn (hkw.run pos pins s σ H _ I h) fun ws s2 ⟨zs, H2, I2, rz, q2⟩ => ⟨I2.kIn, ?_⟩
  rw [hks]
  have q3 : sp (zs ++ []) H2 Q E := q2
  rw [List.append_nil] at q3
  exact run_kw (vs := []) F hr hb hx I2 rfl hlen .nil rz q3
def tCat (t tk : TA) : TA := fun σ H Q => t σ H fun vs H1 => tk σ H1 fun zs H2 => vs.length = vs.length ∧ Q (vs ++ zs) H2
theorem pe_callKn {CX : CXT} {E : XK} {x : Str} {p : Pos} {f : Addr} {fd : FuncData} {ps ks : List Str} {k n : Nat} {sp : Sp} {kws : List Keyword} {t tk : TA} {es : List Expr} (F : FnOk X.prog X.w X.K X.mg X.base CX k f fd ps sp) (hr : Room k X.A) (hg : Gl X x) (hm : X.mg x = some (.ref f)) (hk : PySem.W.keepIn X.K (.ref f) = true)
    (hb : KwTo fd ps n ks) (hx : Passes CX X E) (ha : PA X (e :: es) t) (hkw : PK X kws tk) (hall : (backToKw pos (keywordEach kws X.env)).all (·.1.isSome) = true := by rfl) (hks : (backToKw pos (keywordEach kws X.env)).filterMap (·.1) = ks := by rfl)
    (hlen : ps.length = n + ks.length := by rfl) (hdb : (x == ("__debug__" : Str)) = false := by decide) (he : starEach (e :: es) X.env = (false, eval e X.env) :: starEach es X.env := by rfl)
    (hpl : ((backTo pos (starEach (e :: es) X.env)).any (·.1) || (backToKw pos (keywordEach kws X.env)).any (·.1.isNone)) = false := by rfl) :
    PE X (.Call (.Name x p) (e :: es) kws pos) (fun σ H Q => t σ H fun vs H1 => tk σ H1 fun zs H2 => vs.length = n ∧ sp (vs ++ zs) H2 Q E) := by
  refine ⟨fun pins s σ H Q I h => ?_⟩
  refine wpAny_Call_Name_kw (ld_glob I hg hm ?_ hdb)
  refine PySem.W.callWith_KW (h₀ := X.base) I.ok.mod.kin hk hall (thn (ha.run pos pins s σ H _ I h) fun us s1 ⟨vs, H1, I1, r, q⟩ => ?_) hpl he
  refine thn (hkw.run pos pins s1 σ H1 _ I1 q) fun ws s2 ⟨zs, H2, I2, rz, hl, q2⟩ => ⟨I2.kIn, ?_⟩
  rw [hks]
  exact run_kw F hr hb hx I2 (r.length.symm.trans hl) hlen r rz q2
end
section
variable {K : Frag} {x qual : Str} {params : Arguments} {body : List Stmt} {scope : Scope} {kws : List (Str × V)} {f : Addr} {fd : FuncData} {ps : List Str}
theorem kwTo (F : FunD K x qual params body scope [] kws f fd) {n : Nat} {ks : List Str}
    (h : ∀ (kV doc pm : Value) (an : Option Addr) (cdv ct : Value) (us ws : List Value), us.length = n → ws.length = ks.length → bindArgs (PySem.W.fnOf x qual params body scope .none kV doc pm an cdv ct) ⟨us, ks.zip ws⟩ = pure (ps.zip (us ++ ws))) : KwTo fd ps n ks := fun s us ws hu hw => by
  obtain ⟨oc, od, dV, kV, doc, pm, an, cdv, ct, osl, rfl, lk, hcd, hD, hK⟩ := F.ex
  rcases hD with ⟨_, rfl⟩ | ⟨e, _⟩
  · exact .of_eq (h kV doc pm an cdv ct us ws hu hw)
  · exact absurd rfl e
end
/-- a def of the top -/
abbrev FnP (K : Frag) (x : Str) (st : Stmt) (f : Addr) (fd : FuncData) : Prop := FunD K x x (defArgs st) (defBody st) (defScope st) [] [] f fd
end Slip
/-! heappush, heappop of data without lists -/
namespace Slip
open PySem PySem.Spec PyProof.Rows L2
/-! ### what reads off a heap without a list -/
mutual
theorem reads_nil {h : Heap} : ∀ (d : PyData) (v : Value) (as : List Addr), noList d = true → PySem.W.alike d d = true → PySem.Reads h v d as → as = []
  | .none, _, _, _, _, r => by cases r; rfl
  | .bool _, _, _, _, _, r => by cases r; rfl
  | .int _, _, _, _, _, r => by cases r; rfl
  | .str _, _, _, _, _, r => by cases r; rfl
  | .list _, _, _, n, _, _ => by cases n
  | .tuple ds, _, _, n, al, r => by
    cases r with
    | tuple h1 h2 h3 h4 => exact readsAll_nil ds _ _ (by simpa [noList] using n) (by simpa [PySem.W.alike] using al) h4
  | .dict _, _, _, n, al, r => by simp [PySem.W.alike] at al
theorem readsAll_nil {h : Heap} : ∀ (ds : List PyData) (vs : List Value) (as : List Addr), noLists ds = true → PySem.W.alikeAll ds ds = true → PySem.ReadsAll h vs ds as → as = []
  | [], _, _, _, _, r => by cases r; rfl
  | d :: ds, _, _, n, al, r => by
    have n' : noList d = true ∧ noLists ds = true := by simpa [noLists] using n
    have al' := PySem.W.alike_all_cons al
    cases r with
    | cons h1 h2 => rw [reads_nil d _ _ n'.1 al'.1 h1, readsAll_nil ds _ _ n'.2 al'.2 h2]; rfl
end
theorem reads_others {H h : Heap} {a : Addr} {d : PyData} {v : Value} {as : List Addr} (hn : noList d = true) (hal : PySem.W.alike d d = true) (ha : ∀ o, H.get? a = some o → o.cls = .type "list") (r : PySem.Reads H v d as) (ho : Hq.Others H a h) : PySem.Reads h v d as :=
  PySem.W.Reads.keepBut (a := a) (fun b o hb e => ho b o hb e) ha d v as hal r (by rw [reads_nil d v as hn hal r]; exact List.not_mem_nil)
/-! ### the rule -/
/-- what may stand in a heap -/
structure HItem (K : Frag) (H : Hp) (C : PyData → Prop) (p : V × PyData) : Prop where
  rd : Dp K H p.1 p.2
  c : C p.2
/-- a class of data that are alike -/
structure HCls (C : PyData → Prop) : Prop where
  al : ∀ d e, C d → C e → PySem.W.alike d e = true
  nn : ∀ d, C d → d ≠ .none
  nl : ∀ d, C d → noList d = true
  dp : ∀ d, C d → d.depth ≤ 60
abbrev ltP (p q : V × PyData) : Bool := PySem.W.dataLt p.2 q.2
/-- in heapq's order -/
def HQ (ps : List (V × PyData)) : Prop := Hq.HP ltP ps.toArray
def rPush (K : Frag) : List V → Hp → VK → Prop := fun xs H Q => ∃ (l : Addr) (C : PyData → Prop) (ps : List (V × PyData)) (p : V × PyData), xs = [.ref l, p.1] ∧ H l = some (.lst (ps.map Prod.fst)) ∧ ps.length < sizeLine ∧ HCls C ∧ HQ ps ∧ (∀ q ∈ ps, HItem K H C q) ∧ HItem K H C p ∧
  ∀ qs : List (V × PyData), qs.Perm (p :: ps) → HQ qs → Q .non (upd H l (.lst (qs.map Prod.fst)))
def rHpop (K : Frag) : List V → Hp → VK → Prop := fun xs H Q => ∃ (l : Addr) (C : PyData → Prop) (ps : List (V × PyData)), xs = [.ref l] ∧ H l = some (.lst (ps.map Prod.fst)) ∧ ps ≠ [] ∧ HCls C ∧ HQ ps ∧ (∀ q ∈ ps, HItem K H C q) ∧
  ∀ (p : V × PyData) (qs : List (V × PyData)), (p :: qs).Perm ps → (∀ q ∈ qs, ltP q p = false) → HQ qs → Q p.1 (upd H l (.lst (qs.map Prod.fst)))
/-- what the machine's array holds -/
abbrev Hz := (V × PyData) × Value
abbrev ltZ (z w : Hz) : Bool := PySem.W.dataLt z.1.2 w.1.2
def PZ (C : PyData → Prop) (h : Heap) (z : Hz) : Prop := RelV z.1.1 z.2 ∧ C z.1.2 ∧ ∃ as, PySem.Reads h z.2 z.1.2 as
theorem ordZ (P : Hz → Prop) : Hq.Ord ltZ P where
  tr := fun x y z _ _ _ h1 h2 => by
    cases q : ltZ z x with
    | false => rfl
    | true =>
      rcases lex_negTrans _ (PySem.W.keyToks y.1.2) _ q with a | a
      · exact absurd (h2.symm.trans a) Bool.false_ne_true
      · exact absurd (h1.symm.trans a) Bool.false_ne_true
  asy := fun x y _ _ h => by
    cases q : ltZ y x with
    | false => rfl
    | true =>
      have := lex_trans _ _ _ h q
      rw [lex_irrefl] at this
      cases this
theorem cmpZ {prog : Program} {w : World} {A : Around} {H : Heap} {a : Addr} {C : PyData → Prop} (hC : HCls C) (ha : ∀ o, H.get? a = some o → o.cls = .type "list") (hu : A.units + 60 < cLine) : Hq.CmpH prog w A H a (fun z : Hz => z.2) ltZ (PZ C H) := by
  intro x y s Q E ho ⟨_, c1, as, r1⟩ ⟨_, c2, bs, r2⟩ q
  exact PySem.W.rcLt_alike x.1.2 y.1.2 A s x.2 y.2 as bs (reads_others (hC.nl _ c1) (hC.al _ _ c1 c1) ha r1 ho) (reads_others (hC.nl _ c2) (hC.al _ _ c2 c2) ha r2 ho) (hC.al _ _ c1 c2) (hC.nn _ c1) (by
    have := Nat.min_le_left x.1.2.depth y.1.2.depth
    have := hC.dp _ c1
    omega) prog w E Q q
theorem zipVals {ps : List (V × PyData)} {its : List Value} (h : Vals (ps.map Prod.fst) its) : (ps.zip its).map (·.2) = its ∧ (ps.zip its).map (·.1) = ps ∧ ∀ z ∈ ps.zip its, RelV z.1.1 z.2 := by
  induction ps generalizing its with
  | nil =>
    cases h
    exact ⟨rfl, rfl, fun z hz => by cases hz⟩
  | cons p ps ih =>
    cases h with
    | cons h1 h2 =>
      obtain ⟨e1, e2, e3⟩ := ih h2
      refine ⟨by rw [List.zip_cons_cons, List.map_cons, e1], by rw [List.zip_cons_cons, List.map_cons, e2], fun z hz => ?_⟩
      rcases List.mem_cons.mp hz with rfl | hz
      · exact h1
      · exact e3 z hz
theorem valsZ {C : PyData → Prop} {h : Heap} : ∀ {zs : List Hz}, (∀ z ∈ zs, PZ C h z) → Vals ((zs.map (·.1)).map Prod.fst) (zs.map (·.2))
  | [], _ => .nil
  | z :: zs, hz => .cons (hz z List.mem_cons_self).1 (valsZ fun y hy => hz y (List.mem_cons_of_mem _ hy))
theorem hp_of {ps : List (V × PyData)} {zs : Array Hz} (e : zs.toList.map (·.1) = ps) : HQ ps ↔ Hq.HP ltZ zs := by
  have g : ∀ i : Nat, ps.toArray[i]? = zs[i]?.map (·.1) := fun i => by
    rw [← e]
    simp
  constructor
  · intro h i hi x y hx hy
    exact h i hi x.1 y.1 (by rw [g, hx]; rfl) (by rw [g, hy]; rfl)
  · intro h i hi x y hx hy
    rw [g] at hx hy
    cases q1 : zs[Hq.par i]? with
    | none => rw [q1] at hx; cases hx
    | some x' =>
      cases q2 : zs[i]? with
      | none => rw [q2] at hy; cases hy
      | some y' =>
        rw [q1] at hx
        rw [q2] at hy
        cases hx
        cases hy
        exact h i hi x' y' q1 q2
section
variable {X : Cx}
theorem Inv.hset {pins : List (Addr × Obj)} {σ : L2.St} {H : Hp} {s : Shared} {l : Addr} {xs ys : List V} {h' : Heap} {its' : List Value} (I : Inv X pins σ H s) (hH : H l = some (.lst xs)) (ho : Hq.Others s.heap l h') (hl : Hq.LstAt h' l its'.toArray) (hv : Vals ys its') (hz : ys.length ≤ sizeLine) :
    Inv X pins σ (upd H l (.lst ys)) { s with heap := h' } := by
  obtain ⟨n, e⟩ := hl
  exact I.write (x := l) (e := l) (t' := s.toks) (by rw [hH]; exact trivial) (.inl rfl) (fun b u hb hu => ho b u hb hu) ⟨_, e⟩ ⟨hz, its', n, hv, e⟩
theorem hz_start {pins : List (Addr × Obj)} {σ : L2.St} {H : Hp} {s : Shared} {l : Addr} {C : PyData → Prop} {ps : List (V × PyData)} (I : Inv X pins σ H s) (hH : H l = some (.lst (ps.map Prod.fst))) (hi : ∀ q ∈ ps, HItem X.K H C q) :
    ∃ zs : Array Hz, zs.toList.map (·.1) = ps ∧ Hq.AllP (PZ C s.heap) zs ∧ Hq.LstAt s.heap l (zs.map (·.2)) ∧ (∀ o, s.heap.get? l = some o → o.cls = .type "list") := by
  obtain ⟨z, its, n, r, hl, e⟩ := I.lstM hH
  obtain ⟨e1, e2, e3⟩ := zipVals r
  refine ⟨(ps.zip its).toArray, e2, fun i z hz => ?_, ⟨n, by rw [List.map_toArray, e1]; exact e⟩, fun o ho => ?_⟩
  · have hm : z ∈ ps.zip its := by
      rw [List.getElem?_toArray] at hz
      exact List.mem_of_getElem? hz
    have hp : z.1 ∈ ps := (List.of_mem_zip hm).1
    have it := hi _ hp
    exact ⟨e3 z hm, it.c, Dp.reads I _ _ _ it.rd (e3 z hm)⟩
  · rw [e] at ho
    cases ho
    rfl
theorem hpush_rule (hu : X.A.units + 64 < cLine) : CallR X (.builtin "_heapq.heappush") (rPush X.K) := by
  intro pins s σ H xs us Q I rv h
  obtain ⟨l, C, ps, p, rfl, hH, hlen, hC, hq, hi, hp, k⟩ := h
  obtain ⟨z, its, n, r, hl, e⟩ := I.lstM hH
  obtain ⟨zs, ez, hP, hL, hcl⟩ := hz_start I hH hi
  cases rv with
  | cons r1 r2 =>
    have r2' : Vals [p.1] _ := r2
    obtain ⟨u, rfl, ru⟩ := r2'.one
    cases r1
    have szs : zs.size = ps.length := by rw [← ez]; simp
    refine Hq.push_call (zs := zs) (z := (p, u)) (P := PZ C s.heap) (ordZ _) (cmpZ hC hcl (by show X.A.units + 1 + 60 < cLine; omega)) (by omega) hP ⟨ru, hp.c, Dp.reads I _ _ _ hp.rd ru⟩ ((hp_of ez).mp hq) hL (fun _ _ _ e => e) fun ys h' hperm hPy hx hl' ho => ?_
    have hperm' : ys.toList.Perm (zs.toList ++ [(p, u)]) := by
      have := hperm.toList
      rwa [Array.toList_push] at this
    have hv := valsZ (zs := ys.toList) (C := C) (h := s.heap) fun z hz => by
      obtain ⟨i, hi', e'⟩ := List.mem_iff_getElem.mp hz
      exact hPy i z (by rw [← Array.getElem?_toList]; rw [List.getElem?_eq_getElem hi', e'])
    have hp1 : (ys.toList.map (·.1)).Perm (p :: ps) := by
      have := hperm'.map (·.1)
      rw [List.map_append, ez] at this
      exact this.trans (List.perm_append_singleton _ _)
    refine ⟨.non, _, Inv.hset I hH ho (its' := ys.toList.map (·.2)) ?_ hv ?_, rfl, k _ hp1 ((hp_of rfl).mpr hx)⟩
    · have : (ys.toList.map (·.2)).toArray = ys.map (·.2) := by rw [← List.map_toArray, Array.toArray_toList]
      rw [this]
      exact hl'
    · have := hp1.length_eq
      rw [List.length_map, this]
      show ps.length + 1 ≤ _
      omega
theorem hpop_rule (hu : X.A.units + 64 < cLine) : CallR X (.builtin "_heapq.heappop") (rHpop X.K) := by
  intro pins s σ H xs us Q I rv h
  obtain ⟨l, C, ps, rfl, hH, hne, hC, hq, hi, k⟩ := h
  obtain ⟨z, its, n, r, hl, e⟩ := I.lstM hH
  obtain ⟨zs, ez, hP, hL, hcl⟩ := hz_start I hH hi
  obtain ⟨u, rfl, ru⟩ := rv.one
  cases ru
  have szs : zs.size = ps.length := by rw [← ez]; simp
  have h0 : 0 < ps.length := List.length_pos_iff.mpr hne
  rw [List.length_map] at z
  refine Hq.pop_call (zs := zs) (f := fun z : Hz => z.2) (P := PZ C s.heap) (ordZ _) (fun x _ => lex_irrefl _) (cmpZ hC hcl (by show X.A.units + 1 + 60 < cLine; omega)) (by omega) (by omega) hP ((hp_of ez).mp hq) hL (fun _ _ _ e => e) fun w ys h' hperm hmin hPw hPy hx hl' ho => ?_
  have hperm' : (ys.toList ++ [w]).Perm zs.toList := by
    have := hperm.toList
    rwa [Array.toList_push] at this
  have hv := valsZ (zs := ys.toList) (C := C) (h := s.heap) fun z hz => by
    obtain ⟨i, hi', e'⟩ := List.mem_iff_getElem.mp hz
    exact hPy i z (by rw [← Array.getElem?_toList]; rw [List.getElem?_eq_getElem hi', e'])
  have hp1 : (w.1 :: ys.toList.map (·.1)).Perm ps := by
    have := hperm'.map (·.1)
    rw [List.map_append, ez] at this
    exact (List.perm_append_singleton _ _).symm.trans this
  refine ⟨w.1.1, _, Inv.hset I hH ho (its' := ys.toList.map (·.2)) ?_ hv ?_, hPw.1, k w.1 _ hp1 (fun q hq => ?_) ((hp_of rfl).mpr hx)⟩
  · have : (ys.toList.map (·.2)).toArray = ys.map (·.2) := by rw [← List.map_toArray, Array.toArray_toList]
    rw [this]
    exact hl'
  · have := hp1.length_eq
    rw [List.length_cons] at this
    rw [List.length_map]
    omega
  · obtain ⟨z', hz', rfl⟩ := List.mem_map.mp hq
    exact hmin z' (Array.mem_toList_iff.mp hz')
end
end Slip
/-! what each construct comes to -/
namespace Slip
open PySem PySem.Spec PyProof.Rows L2
section
variable {ρ : Rl} {K : Frag} {σ : L2.St} {H H' : Hp} {ta tb te tc : TE} {t u : TT} {x y z v : V} {i j k : Int} {R : V → Hp → Prop} {a b p : Addr} {xs ys : List V} {d e : PyData}
/-! ### numbers -/
theorem ev_add (h1 : EvV ρ ta σ H (.int i)) (h2 : EvV ρ tb σ H (.int j)) : EvV ρ (tOp (rAddU K) ta tb) σ H (.int (i + j)) := ev_op h1 h2 (.const fun _ _ _ q => .inl ⟨i, j, rfl, rfl, q⟩)
theorem ev_sub (h1 : EvV ρ ta σ H (.int i)) (h2 : EvV ρ tb σ H (.int j)) : EvV ρ (tOp rSubI ta tb) σ H (.int (i - j)) := ev_op h1 h2 (.const fun _ _ _ q => ⟨i, j, rfl, rfl, q⟩)
theorem ev_mul (h1 : EvV ρ ta σ H (.int i)) (h2 : EvV ρ tb σ H (.int j)) (h : CMul i j) : EvV ρ (tOp rMulI ta tb) σ H (.int (i * j)) := ev_op h1 h2 (.const fun _ _ _ q => ⟨i, j, rfl, rfl, h, q⟩)
theorem ev_mod (h1 : EvV ρ ta σ H (.int i)) (h2 : EvV ρ tb σ H (.int j)) (h : 0 < j) : EvV ρ (tOp rModI ta tb) σ H (.int (i % j)) := ev_op h1 h2 (.const fun _ _ _ q => ⟨i, j, rfl, rfl, h, q⟩)
theorem ev_fdiv (h1 : EvV ρ ta σ H (.int i)) (h2 : EvV ρ tb σ H (.int j)) (h : CDiv i j) : EvV ρ (tOp rFdivI ta tb) σ H (.int (i / j)) := ev_op h1 h2 (.const fun _ _ _ q => ⟨i, j, rfl, rfl, h, q⟩)
theorem ev_pow (h1 : EvV ρ ta σ H (.int i)) (h2 : EvV ρ tb σ H (.int j)) (h : CPow i j) : EvV ρ (tOp rPowI ta tb) σ H (.int (i ^ j.toNat)) := ev_op h1 h2 (.const fun _ _ _ q => ⟨i, j, rfl, rfl, h, q⟩)
theorem ev_neg (h1 : EvV ρ ta σ H (.int i)) : EvV ρ (tUn rNegI ta) σ H (.int (-i)) := fun H1 e1 Q q => h1 H1 e1 _ fun v H2 e2 hv => ⟨i, hv, q _ H2 e2 rfl⟩
theorem ev_int (h1 : EvV ρ ta σ H (.int i)) : EvV ρ (tCB rIntOf (tCons ta tNil)) σ H (.int i) := ev_cbV (ea_cons h1 ea_nil) fun H1 _ Q q => .inl ⟨i, rfl, q _ H1 .rfl rfl⟩
theorem ev_intB {c : Bool} (h1 : EvV ρ ta σ H (.bl c)) : EvV ρ (tCB rIntOf (tCons ta tNil)) σ H (.int (if c then 1 else 0)) := ev_cbV (ea_cons h1 ea_nil) fun H1 _ Q q => .inr ⟨c, rfl, q _ H1 .rfl rfl⟩
/-! ### texts -/
theorem ev_addS {s1 s2 : Str} (h1 : EvV ρ ta σ H (.str s1)) (h2 : EvV ρ tb σ H (.str s2)) (h : s1.length + s2.length ≤ 100000) : EvV ρ (tOp (rAddU K) ta tb) σ H (.str (s1 ++ s2)) := ev_op h1 h2 (.const fun _ _ _ q => .inr (.inl ⟨_, _, rfl, rfl, Evl.sz_of h, q⟩))
theorem ev_ixS {s : Str} {c : Nat} (h1 : EvV ρ ta σ H (.str s)) (h2 : EvV ρ tb σ H (.int i)) (hl : s.length ≤ 100000) (h : atI s.cps.toList i = some c) : EvV ρ (tIxU K ta tb) σ H (.str ⟨#[c]⟩) :=
  fun H1 e1 Q q => .inl (ev_op h1 h2 (RV.const (r := rIx K) fun _ _ _ q => .inr (.inr ⟨s, i, c, rfl, rfl, Evl.sz_of hl, h, q⟩)) H1 e1 Q q)
theorem ev_lenS {s : Str} (h1 : EvV ρ ta σ H (.str s)) (hl : s.length ≤ 100000) : EvV ρ (tCB (rLenU K) (tCons ta tNil)) σ H (.int (s.length : Int)) := ev_cbV (ea_cons h1 ea_nil) fun H1 _ Q q => .inl ⟨_, s.length, rfl, ⟨Evl.sz_of hl, rfl⟩, q _ H1 .rfl rfl⟩
theorem ev_inS {s : Str} {c : Nat} (h1 : EvV ρ ta σ H (.str ⟨#[c]⟩)) (h2 : EvV ρ tb σ H (.str s)) : EvV ρ (tOp (rInU K) ta tb) σ H (.bl (decide (c ∈ s.cps.toList))) := ev_op h1 h2 (.const fun _ _ _ q => .inr (.inl ⟨c, s, rfl, rfl, q⟩))
theorem ev_notInS {s : Str} {c : Nat} (h1 : EvV ρ ta σ H (.str ⟨#[c]⟩)) (h2 : EvV ρ tb σ H (.str s)) : EvV ρ (tOp (rNotInU K) ta tb) σ H (.bl (!decide (c ∈ s.cps.toList))) := ev_op h1 h2 (.const fun _ _ _ q => .inr (.inl ⟨c, s, rfl, rfl, q⟩))
/-! ### sequences -/
theorem ev_ix {n : Nat} (h1 : EvV ρ ta σ H (.ref a)) (h2 : EvV ρ tb σ H (.int i)) (hs : ∀ H1, ρ.r H H1 → SqA K H1 a xs) (hi : i = (n : Int)) (h : xs[n]? = some v) : EvV ρ (tIxU K ta tb) σ H v :=
  fun H1 e1 Q q => .inl (ev_op h1 h2 (RV.const (r := rIx K) fun H2 e2 _ q => (hs H2 e2).elim (fun hs => .inl ⟨a, xs, i, v, rfl, rfl, hs, hi ▸ atI_nat h, q⟩) fun hs => .inr (.inl ⟨a, xs, i, v, rfl, rfl, hs, hi ▸ atI_nat h, q⟩)) H1 e1 Q q)
theorem ev_len (h1 : EvV ρ ta σ H (.ref a)) (hs : ∀ H1, ρ.r H H1 → SqA K H1 a xs) : EvV ρ (tCB (rLenU K) (tCons ta tNil)) σ H (.int (xs.length : Int)) :=
  ev_cbV (ea_cons h1 ea_nil) fun H1 e1 Q q => .inl ⟨_, xs.length, rfl, (hs H1 e1).elim (fun h => .inl ⟨xs, h, rfl⟩) fun h => .inr ⟨xs, h, rfl⟩, q _ H1 .rfl rfl⟩
/-! ### isinstance, is None, ==, < -/
theorem ev_isi {n : String} (h1 : EvV ρ ta σ H v) (hd : DS ρ H v d) (g : good n = true) : EvV ρ (tCB (rIsiU K) (tCons ta (tCons (tC (.ty n)) tNil))) σ H (.bl (isiB d n)) :=
  ev_cbV (ea_cons h1 (ea_cons ev_c ea_nil)) fun H1 e1 Q q => .inl ⟨v, n, d, rfl, (e1.ds hd).dp _ _, g, q _ H1 .rfl rfl⟩
theorem ev_isN (h1 : EvV ρ ta σ H v) : EvV ρ (tOp rIsN ta (tC .non)) σ H (.bl (decide (v = .non))) := ev_op h1 ev_c (.const fun _ _ _ q => ⟨rfl, q⟩)
theorem ev_notN (h1 : EvV ρ ta σ H v) : EvV ρ (tOp rNotN ta (tC .non)) σ H (.bl (!decide (v = .non))) := ev_op h1 ev_c (.const fun _ _ _ q => ⟨rfl, q⟩)
theorem ev_eqD (h1 : EvV ρ ta σ H x) (h2 : EvV ρ tb σ H y) (hd : DS ρ H x d) (he : DS ρ H y e) (sd : SeqAt.shaped d = true) (se : SeqAt.shaped e = true) : EvV ρ (tOp (rEqU K) ta tb) σ H (.bl (PyData.eqv d e)) :=
  ev_op h1 h2 (.const fun H1 e1 _ q => .inr ⟨d, e, (e1.ds hd).dp _ _, (e1.ds he).dp _ _, sd, se, q⟩)
theorem ev_neD (h1 : EvV ρ ta σ H x) (h2 : EvV ρ tb σ H y) (hd : DS ρ H x d) (he : DS ρ H y e) (sd : SeqAt.shaped d = true) (se : SeqAt.shaped e = true) : EvV ρ (tOp (rNeU K) ta tb) σ H (.bl (!PyData.eqv d e)) :=
  ev_op h1 h2 (.const fun H1 e1 _ q => .inr ⟨d, e, (e1.ds hd).dp _ _, (e1.ds he).dp _ _, sd, se, q⟩)
theorem ev_eqV (h1 : EvV ρ ta σ H x) (h2 : EvV ρ tb σ H y) (h : scal x y = true) : EvV ρ (tOp (rEqU K) ta tb) σ H (.bl (decide (x = y))) := ev_op h1 h2 (.const fun H1 e1 _ q => .inl ⟨h, q⟩)
theorem ev_neV (h1 : EvV ρ ta σ H x) (h2 : EvV ρ tb σ H y) (h : scal x y = true) : EvV ρ (tOp (rNeU K) ta tb) σ H (.bl (!decide (x = y))) := ev_op h1 h2 (.const fun H1 e1 _ q => .inl ⟨h, q⟩)
theorem decI (i j : Int) : decide (V.int i = V.int j) = decide (i = j) := by simp
theorem decS (i j : Str) : decide (V.str i = V.str j) = decide (i = j) := by simp
theorem decB (i j : Bool) : decide (V.bl i = V.bl j) = (i == j) := by cases i <;> cases j <;> rfl
theorem ev_eqI (h1 : EvV ρ ta σ H (.int i)) (h2 : EvV ρ tb σ H (.int j)) : EvV ρ (tOp (rEqU K) ta tb) σ H (.bl (decide (i = j))) := (ev_eqV h1 h2 rfl).val (by rw [decI])
theorem ev_neI (h1 : EvV ρ ta σ H (.int i)) (h2 : EvV ρ tb σ H (.int j)) : EvV ρ (tOp (rNeU K) ta tb) σ H (.bl (!decide (i = j))) := (ev_neV h1 h2 rfl).val (by rw [decI])
theorem ev_eqS {s1 s2 : Str} (h1 : EvV ρ ta σ H (.str s1)) (h2 : EvV ρ tb σ H (.str s2)) : EvV ρ (tOp (rEqU K) ta tb) σ H (.bl (decide (s1 = s2))) := (ev_eqV h1 h2 rfl).val (by rw [decS])
theorem ev_neS {s1 s2 : Str} (h1 : EvV ρ ta σ H (.str s1)) (h2 : EvV ρ tb σ H (.str s2)) : EvV ρ (tOp (rNeU K) ta tb) σ H (.bl (!decide (s1 = s2))) := (ev_neV h1 h2 rfl).val (by rw [decS])
theorem ev_eqB {c1 c2 : Bool} (h1 : EvV ρ ta σ H (.bl c1)) (h2 : EvV ρ tb σ H (.bl c2)) : EvV ρ (tOp (rEqU K) ta tb) σ H (.bl (c1 == c2)) := (ev_eqV h1 h2 rfl).val (by rw [decB])
theorem ev_cmp {g : PyData → PyData → Bool} (h1 : EvV ρ ta σ H x) (h2 : EvV ρ tb σ H y) (hd : DS ρ H x d) (he : DS ρ H y e) (al : PySem.W.alike d e = true) (nn : d ≠ .none) (dp : d.depth ≤ 64) : EvV ρ (tOp (rCmp K g) ta tb) σ H (.bl (g d e)) :=
  ev_op h1 h2 (.const fun H1 e1 _ q => ⟨d, e, (e1.ds hd).dp _ _, (e1.ds he).dp _ _, al, nn, dp, q⟩)
theorem rv_cmpI {g : PyData → PyData → Bool} (H1 : Hp) (Q : VK) (q : Q (.bl (g (.int i) (.int j))) H1) : rCmp K g (.int i) (.int j) H1 Q := ⟨.int i, .int j, .int i, .int j, rfl, by simp, by show (0 : Nat) ≤ 64; decide, q⟩
theorem ev_cmpI {g : PyData → PyData → Bool} (h1 : EvV ρ ta σ H (.int i)) (h2 : EvV ρ tb σ H (.int j)) : EvV ρ (tOp (rCmp K g) ta tb) σ H (.bl (g (.int i) (.int j))) := ev_op h1 h2 (.const fun H1 _ Q q => rv_cmpI H1 Q q)
theorem lt_int (i j : Int) : PySem.W.dataLt (.int i) (.int j) = decide (i < j) := PySem.W.dataLt_int i j
theorem ev_lt (h1 : EvV ρ ta σ H (.int i)) (h2 : EvV ρ tb σ H (.int j)) : EvV ρ (tOp (rCmp K gLt) ta tb) σ H (.bl (decide (i < j))) := (ev_cmpI h1 h2).val (by rw [show gLt (.int i) (.int j) = PySem.W.dataLt (.int i) (.int j) from rfl, lt_int])
theorem ev_gt (h1 : EvV ρ ta σ H (.int i)) (h2 : EvV ρ tb σ H (.int j)) : EvV ρ (tOp (rCmp K gGt) ta tb) σ H (.bl (decide (j < i))) := (ev_cmpI h1 h2).val (by rw [show gGt (.int i) (.int j) = PySem.W.dataLt (.int j) (.int i) from rfl, lt_int])
theorem not_lt_dec (i j : Int) : (!decide (j < i)) = decide (i ≤ j) := by
  by_cases h : i ≤ j
  · rw [decide_eq_true h, decide_eq_false (by omega)]; rfl
  · rw [decide_eq_false h, decide_eq_true (by omega)]; rfl
theorem ev_le (h1 : EvV ρ ta σ H (.int i)) (h2 : EvV ρ tb σ H (.int j)) : EvV ρ (tOp (rCmp K gLe) ta tb) σ H (.bl (decide (i ≤ j))) := (ev_cmpI h1 h2).val (by rw [show gLe (.int i) (.int j) = !PySem.W.dataLt (.int j) (.int i) from rfl, lt_int, not_lt_dec])
theorem ev_ge (h1 : EvV ρ ta σ H (.int i)) (h2 : EvV ρ tb σ H (.int j)) : EvV ρ (tOp (rCmp K gGe) ta tb) σ H (.bl (decide (j ≤ i))) := (ev_cmpI h1 h2).val (by rw [show gGe (.int i) (.int j) = !PySem.W.dataLt (.int i) (.int j) from rfl, lt_int, not_lt_dec])
theorem rle_val (i j : Int) : gLe (.int i) (.int j) = decide (i ≤ j) := by rw [show gLe (.int i) (.int j) = !PySem.W.dataLt (.int j) (.int i) from rfl, lt_int, not_lt_dec]
/-- i <= j <= k -/
theorem ev_chainLe (h1 : EvV ρ ta σ H (.int i)) (h2 : EvV ρ tb σ H (.int j)) (h3 : EvV ρ tc σ H (.int k)) : EvV ρ (tChain (rCmp K gLe) (rCmp K gLe) ta tb tc) σ H (.bl (decide (i ≤ j) && decide (j ≤ k))) := fun H1 e1 Q q =>
  h1 H1 e1 _ fun _ H2 e2 hx => by
    subst hx
    exact h2 H2 (e1.trans e2) _ fun _ H3 e3 hy => by
      subst hy
      refine rv_cmpI H3 _ ⟨_, rfl, ?_⟩
      rw [rle_val]
      cases hc : decide (i ≤ j) with
      | true =>
        rw [if_pos rfl]
        refine h3 H3 ((e1.trans e2).trans e3) _ fun _ H4 e4 hz => ?_
        subst hz
        refine rv_cmpI H4 _ ?_
        rw [rle_val]
        exact q _ H4 ((e2.trans e3).trans e4) (by rw [hc, Bool.true_and])
      | false =>
        rw [if_neg Bool.false_ne_true]
        exact q _ H3 (e2.trans e3) (by rw [hc, Bool.false_and])
/-! ### what a for walks -/
variable {wi : TI} {n : Nat} {Y : Nat → Hp → V → Hp → Prop}
theorem ei_seq (h : EvV ρ te σ H (.ref a)) (hs : ∀ H1, ρ.r H H1 → SqA K H1 a xs) (ht : (∀ H1, ρ.r H H1 → SqL K H1 a xs) ∨ (∀ H1, ρ.r H H1 → SqT K H1 a xs)) : EvI ρ (iSeq K te) σ H xs.length (YAt xs) := fun H1 e1 R k => by
  rcases ht with ht | ht
  · exact .inl (h H1 e1 _ fun v H2 e2 hv => ⟨a, hv, ⟨xs, ht H2 (e1.trans e2)⟩, k _ H2 e2 (walk_list.mono (fun H3 e3 => ht H3 ((e1.trans e2).trans e3)) fun _ _ _ _ _ _ y => y)⟩)
  · exact .inr (.inl (h H1 e1 _ fun v H2 e2 hv => ⟨a, hv, ⟨xs, ht H2 (e1.trans e2)⟩, k _ H2 e2 (walk_tup.mono (fun H3 e3 => ht H3 ((e1.trans e2).trans e3)) fun _ _ _ _ _ _ y => y)⟩))
theorem ei_str {s : Str} (h : EvV ρ te σ H (.str s)) : EvI ρ (iSeq K te) σ H s.cps.size (fun i H v H' => H' = H ∧ ∃ c, s.cps[i]? = some c ∧ v = .str ⟨#[c]⟩) := fun H1 e1 R k =>
  .inr (.inr (h H1 e1 _ fun v H2 e2 hv => ⟨s, hv, k _ H2 e2 (walk_str.mono (fun _ _ => trivial) fun _ _ _ _ _ _ y => y)⟩))
theorem ei_rng {ts : TA} (h : EvAV ρ ts σ H [.int i]) (lo : -100000 ≤ i) (hi : i ≤ 100000000) : EvI ρ (iRng1 ts) σ H i.toNat (YFn fun m => .int ((m : Nat) : Int)) := fun H1 e1 R k =>
  h H1 e1 _ fun v H2 e2 hv => ⟨i, hv, by omega, by omega, k _ H2 e2 (walk_range.mono (fun _ _ => trivial) fun m H3 x H4 _ _ y => ⟨y.1, by rw [y.2]; exact congrArg V.int (Int.zero_add _)⟩)⟩
end
end Slip
/-! comprehensions -/
namespace Slip
open PySem PySem.Spec PyProof.Rows L2
def keptN (f : Nat → Bool) (n : Nat) : List Nat := (List.range n).filter f
theorem kept_yes {f : Nat → Bool} {n : Nat} (h : f n = true) : keptN f (n + 1) = keptN f n ++ [n] := by
  unfold keptN
  rw [List.range_succ, List.filter_append, List.filter_cons, if_pos h] <;> rfl
theorem kept_no {f : Nat → Bool} {n : Nat} (h : f n = false) : keptN f (n + 1) = keptN f n := by
  unfold keptN
  rw [List.range_succ, List.filter_append, List.filter_cons, if_neg (by rw [h]; exact Bool.false_ne_true)]
  exact List.append_nil _
theorem kept_len (f : Nat → Bool) (n : Nat) : (keptN f n).length ≤ n := by
  have h := List.length_filter_le f (List.range n)
  rw [List.length_range] at h
  exact h
theorem kept_congr {f g : Nat → Bool} {n : Nat} (h : ∀ i, i < n → f i = g i) : keptN f n = keptN g n := by
  unfold keptN
  exact List.filter_congr fun i hi => h i (List.mem_range.mp hi)
theorem kept_all {f : Nat → Bool} {n : Nat} (h : ∀ i, i < n → f i = true) : keptN f n = List.range n := by
  unfold keptN
  exact List.filter_eq_self.mpr fun i hi => h i (List.mem_range.mp hi)
/-- xs, one for each kept turn -/
def Items (P : Nat → V → Prop) (is : List Nat) (xs : List V) : Prop := xs.length = is.length ∧ ∀ (m : Nat) x i, xs[m]? = some x → is[m]? = some i → P i x
theorem Items.nil {P : Nat → V → Prop} : Items P [] [] := ⟨rfl, fun m x i h => by simp at h⟩
theorem Items.snoc {P : Nat → V → Prop} {is : List Nat} {xs : List V} (h : Items P is xs) {i : Nat} {x : V} (p : P i x) : Items P (is ++ [i]) (xs ++ [x]) := by
  refine ⟨by rw [List.length_append, List.length_append, h.1]; rfl, fun m y j a b => ?_⟩
  by_cases hm : m < xs.length
  · rw [List.getElem?_append_left hm] at a
    rw [List.getElem?_append_left (h.1 ▸ hm)] at b
    exact h.2 m y j a b
  · rw [List.getElem?_append_right (by omega)] at a
    rw [List.getElem?_append_right (by have := h.1; omega)] at b
    have e : m - xs.length = 0 := by
      cases q : m - xs.length with
      | zero => rfl
      | succ z => rw [q] at a; simp at a
    rw [e] at a
    rw [← h.1, e] at b
    simp at a b
    subst a b
    exact p
theorem Items.imp {P P' : Nat → V → Prop} {is : List Nat} {xs : List V} (h : Items P is xs) (f : ∀ i x, P i x → P' i x) : Items P' is xs := ⟨h.1, fun m x i a b => f i x (h.2 m x i a b)⟩
theorem Items.map {v : Nat → V} {is : List Nat} {xs : List V} (h : Items (fun i x => x = v i) is xs) : xs = is.map v := by
  refine List.ext_getElem? fun m => ?_
  rw [List.getElem?_map]
  cases a : xs[m]? with
  | none =>
    have := List.getElem?_eq_none_iff.mp a
    rw [List.getElem?_eq_none_iff.mpr (by rw [← h.1]; exact this)] <;> rfl
  | some x =>
    have hm : m < is.length := by rw [← h.1]; exact (List.getElem?_eq_some_iff.mp a).1
    rw [List.getElem?_eq_getElem hm]
    show some x = some (v _)
    rw [h.2 m x _ a (List.getElem?_eq_getElem hm)]
section
variable {ρ : Rl} {K : Frag} {σ : L2.St} {H : Hp} {te : TE} {tt : TT} {wi : TI} {g : TG} {vs : List Nat} {n : Nat} {Y : Nat → Hp → V → Hp → Prop}
/-- what a turn's test and element come to -/
def Turn1 (ρ' : Rl) (tt : TT) (te : TE) (C : Bool → Prop) (R : V → Hp → Prop) (σ2 : L2.St) (H4 : Hp) : Prop :=
  ∀ H5, ρ'.r H4 H5 → ∀ Q : Bool → Hp → Prop, (∀ b H6, ρ'.r H5 H6 → C b → (b = true → Ev ρ' te σ2 H6 R) → Q b H6) → tt σ2 H5 Q
theorem ev_lc {R : Rl → Nat → V → Hp → Prop} {C : Nat → Bool → Prop} (own : Own ρ H) (hn : n ≤ 90000) (hI : EvI ρ wi σ H n Y)
    (hR : ∀ ρ' i x H1 H2, ρ'.r H1 H2 → R ρ' i x H1 → R ρ' i x H2) (hL : ∀ D i x H1, R (ρ.and D) i x H1 → R ρ i x H1)
    (hs : ∀ D H1, ρ.r H H1 → H1 D = none → ∀ i x H2 H3, i < n → ρ.r H1 H2 → Own (ρ.and D) H2 → Y i H2 x H3 → ∀ cont : L2.St → Hp → Prop,
      (∀ σ2 H4, wipe σ2 vs = wipe σ vs → ρ.r H2 H4 → Turn1 ρ tt te (C i) (R (ρ.and D) i) σ2 H4 → cont σ2 H4) → g x (wipe σ vs) H3 cont) :
    Ev ρ (tLc wi g tt te vs) σ H (fun v H2 => ∃ p xs, ∃ f : Nat → Bool, v = .ref p ∧ ¬ ρ.S p ∧ H p = none ∧ H2 p = some (.lst xs) ∧ (∀ i, i < n → C i (f i)) ∧ Items (fun i x => R ρ i x H2) (keptN f n) xs) := fun H0 e0 Q q =>
  hI H0 e0 _ fun J H1 e1 w D hD => by
    have e01 := e0.trans e1
    have nS : ¬ ρ.S D := (own.r e01).fresh hD
    refine lc_it w (fun i H' => ρ.r H1 H' ∧ ∃ xs, ∃ f : Nat → Bool, H' D = some (.lst xs) ∧ (∀ i', i' < i → C i' (f i')) ∧ Items (fun i' x => R (ρ.and D) i' x H') (keptN f i) xs)
      ⟨r_new _ hD, [], fun _ => true, upd_same, fun i h => absurd h (Nat.not_lt_zero i), Items.nil⟩ (fun i H' _ p => p.1) ?_ ?_
    · rintro i x H2 H3 hi ⟨r12, xs, f, hx, hC, hit⟩ y
      have oD : Own (ρ.and D) H2 := (own.r e01).and r12 (by rw [hx]; exact Option.some_ne_none _)
      refine hs D H1 e01 hD i x H2 H3 hi r12 oD y _ fun σ2 H4 hw r24 ht => ⟨hw, ?_⟩
      refine ht H4 .rfl _ fun b H5 r45 hCb he => ?_
      have r25 := r24.trans r45
      have hlen : xs.length ≤ 90000 := by
        have := hit.1
        have := kept_len f i
        omega
      have fC : ∀ c : Bool, C i c → ∀ i', i' < i + 1 → C i' ((fun j => if j = i then c else f j) i') := fun c hc i' hi' => by
        by_cases z : i' = i
        · subst z; show C i' (if i' = i' then c else f i'); rw [if_pos rfl]; exact hc
        · show C i' (if i' = i then c else f i'); rw [if_neg z]; exact hC i' (by omega)
      have fk : ∀ c : Bool, keptN (fun j => if j = i then c else f j) i = keptN f i := fun c => kept_congr fun j hj => if_neg (by omega)
      cases b with
      | true =>
        show te σ2 H5 _
        refine he rfl H5 .rfl _ fun z H6 r56 hz => ?_
        have r26 := r25.trans r56
        refine ⟨xs, r26.keep _ _ nS hx, Evl.sz_lt (by omega), r_mut (r12.trans r26) hD, xs ++ [z], fun j => if j = i then true else f j, upd_same, fC true hCb, ?_⟩
        rw [kept_yes (by show (if i = i then true else f i) = true; rw [if_pos rfl]), fk true]
        have g6 : H6 D = some (.lst xs) := r26.keep _ _ nS hx
        exact (hit.imp fun i' x' h => hR _ _ _ _ _ ((and_of r26).trans (r_chg g6 nS)) h).snoc (hR _ _ _ _ _ (r_chg g6 nS) hz)
      | false =>
        refine ⟨r12.trans r25, xs, fun j => if j = i then false else f j, r25.keep _ _ nS hx, fC false hCb, ?_⟩
        rw [kept_no (by show (if i = i then false else f i) = false; rw [if_pos rfl]), fk false]
        exact hit.imp fun i' x' h => hR _ _ _ _ _ (and_of r25) h
    · rintro H' ⟨r12, xs, f, hx, hC, hit⟩
      exact q _ H' (e1.trans r12) ⟨D, xs, f, rfl, nS, e01.back D hD, hx, hC, hit.imp fun i x z => hL D i x H' z⟩
/-- no test, one name as the target, elements whose values are known -/
theorem ev_lcV {j : Nat} {v : Nat → V} (own : Own ρ H) (hn : n ≤ 90000) (hI : EvI ρ wi σ H n Y) (hw : ∀ x, wipe ((wipe σ vs).set j (some x)) vs = wipe σ vs)
    (hY : ∀ i H2 x H3, Y i H2 x H3 → H3 = H2) (he : ∀ i x H2 H3, i < n → ρ.r H H2 → Y i H2 x H3 → EvV ρ te ((wipe σ vs).set j (some x)) H2 (v i)) :
    Ev ρ (tLc wi (gName j) tYes te vs) σ H (fun u H2 => ∃ p, u = .ref p ∧ ¬ ρ.S p ∧ H p = none ∧ H2 p = some (.lst ((List.range n).map v))) := by
  refine (ev_lc (R := fun _ i x _ => x = v i) (C := fun _ b => b = true) own hn hI (fun _ _ _ _ _ _ h => h) (fun _ _ _ _ h => h) ?_).imp ?_
  · intro D H1 r1 hD i x H2 H3 hi r2 oD y cont hc
    have e3 := hY i H2 x H3 y
    refine hc _ H3 (hw x) (by rw [e3]; exact .rfl) fun H5 r5 Q q => q true H5 .rfl rfl fun _ => ?_
    exact (he i x H2 H3 hi (r1.trans r2) y).mono (by rw [← e3]; exact r5)
  · rintro u H2 r ⟨p, xs, f, e, nS, hp, hx, hC, hit⟩
    rw [kept_all hC] at hit
    exact ⟨p, e, nS, hp, by rw [hx, hit.map]⟩
/-- no test, one name, elements that are data -/
theorem ev_lcD {j : Nat} {dd : Nat → PyData} (own : Own ρ H) (hn : n ≤ 90000) (hI : EvI ρ wi σ H n Y) (hw : ∀ x, wipe ((wipe σ vs).set j (some x)) vs = wipe σ vs)
    (hY : ∀ i H2 x H3, Y i H2 x H3 → H3 = H2)
    (he : ∀ D H1, ρ.r H H1 → H1 D = none → ∀ i x H2 H3, i < n → ρ.r H1 H2 → Own (ρ.and D) H2 → Y i H2 x H3 → Ev ρ te ((wipe σ vs).set j (some x)) H2 (fun y H4 => DS (ρ.and D) H4 y (dd i))) :
    Ev ρ (tLc wi (gName j) tYes te vs) σ H (fun u H2 => ∃ p xs, u = .ref p ∧ ¬ ρ.S p ∧ H p = none ∧ H2 p = some (.lst xs) ∧ DSs ρ H2 xs ((List.range n).map dd)) := by
  refine (ev_lc (R := fun ρ' i x H' => DS ρ' H' x (dd i)) (C := fun _ b => b = true) own hn hI (fun _ _ _ _ _ r h => r.ds h) (fun _ _ _ _ h => h.less) ?_).imp ?_
  · intro D H1 r1 hD i x H2 H3 hi r2 oD y cont hc
    have e3 := hY i H2 x H3 y
    refine hc _ H3 (hw x) (by rw [e3]; exact .rfl) fun H5 r5 Q q => q true H5 .rfl rfl fun _ => ?_
    exact (he D H1 r1 hD i x H2 H3 hi r2 oD y).mono (by rw [← e3]; exact r5)
  · rintro u H2 r ⟨p, xs, f, e, nS, hp, hx, hC, hit⟩
    rw [kept_all hC] at hit
    refine ⟨p, xs, e, nS, hp, hx, .of (by rw [hit.1, List.length_map]) fun m x d a b => ?_⟩
    rw [List.getElem?_map] at b
    cases q : (List.range n)[m]? with
    | none => rw [q] at b; cases b
    | some i =>
      rw [q] at b
      have := hit.2 m x i a q
      cases b
      exact this
end
end Slip
/-! the checks: what they promise, and that they keep it -/
namespace Slip
open PySem PySem.Spec PyProof.Rows L2
/-! ### data -/
def isSeqD : PyData → Bool
  | .list _ => true
  | .tuple _ => true
  | _ => false
def itemsD : PyData → List PyData
  | .list ds => ds
  | .tuple ds => ds
  | _ => []
mutual
def sm : PyData → Bool
  | .str s => decide (s.length ≤ 10000)
  | .list ds => decide (ds.length ≤ 1000) && smAll ds
  | .tuple ds => decide (ds.length ≤ 1000) && smAll ds
  | _ => true
def smAll : List PyData → Bool
  | [] => true
  | d :: ds => sm d && smAll ds
end
theorem smAll_mem : ∀ {ds : List PyData} {d : PyData}, smAll ds = true → d ∈ ds → sm d = true
  | e :: ds, d, h, hm => by
    have h' : sm e = true ∧ smAll ds = true := by simpa [smAll] using h
    rcases List.mem_cons.mp hm with rfl | hm
    · exact h'.1
    · exact smAll_mem h'.2 hm
theorem smAll_of : ∀ {ds : List PyData}, (∀ d ∈ ds, sm d = true) → smAll ds = true
  | [], _ => rfl
  | e :: ds, h => by
    show (sm e && smAll ds) = true
    rw [h e (List.mem_cons_self ..), smAll_of fun d hd => h d (List.mem_cons_of_mem _ hd)]
    rfl
theorem sm_str {s : Str} (h : sm (.str s) = true) : s.length ≤ 10000 := by simpa [sm] using h
theorem sm_seq {ds : List PyData} (h : sm (.list ds) = true ∨ sm (.tuple ds) = true) : ds.length ≤ 1000 ∧ smAll ds = true := by simpa [sm] using h
def letters : List Nat := ("abcdef" : Str).cps.toList
def isWordD : PyData → Bool
  | .str s => s.cps.toList.all fun c => decide (c ∈ letters)
  | _ => false
def isWholeD (lo hi : Int) : PyData → Bool
  | .int i => decide (lo ≤ i) && decide (i ≤ hi)
  | _ => false
def isTripleD (d : PyData) : Bool := isSeqD d && decide ((itemsD d).length = 3)
theorem isi_seq (d : PyData) : isiAny d ["list", "tuple"] = isSeqD d := by cases d <;> rfl
theorem DS.seqd {ρ : Rl} {H : Hp} {v : V} {d : PyData} (h : DS ρ H v d) (s : isSeqD d = true) : ∃ a xs, v = .ref a ∧ DSs ρ H xs (itemsD d) ∧ (∀ (K : Frag) (H' : Hp), ρ.r H H' → SqA K H' a xs) ∧ ((∀ (K : Frag) H', ρ.r H H' → SqL K H' a xs) ∨ ∀ (K : Frag) H', ρ.r H H' → SqT K H' a xs) := by
  cases d with
  | list ds => cases h with | lst n hs ha => exact ⟨_, _, rfl, ha, fun K H' e => .inl (.of (e.keep _ _ n hs)), .inl fun K H' e => .of (e.keep _ _ n hs)⟩
  | tuple ds => cases h with | tup hs ha => exact ⟨_, _, rfl, ha, fun K H' e => .inr (.inl (.inl (e.tup _ _ hs))), .inr fun K H' e => .inl (.inl (e.tup _ _ hs))⟩
  | none => cases s
  | bool b => cases s
  | int i => cases s
  | str x => cases s
  | dict k => cases s
theorem DS.inv_int {ρ : Rl} {H : Hp} {v : V} {d : PyData} (h : DS ρ H v d) (e : (isiB d "int" && !isiB d "bool") = true) : ∃ i, d = .int i ∧ v = .int i := by
  cases h with
  | int i => exact ⟨i, rfl, rfl⟩
  | non => exact absurd e (by show ¬ (false && !false) = true; decide)
  | bl b => exact absurd e (by show ¬ (true && !true) = true; decide)
  | str x => exact absurd e (by show ¬ (false && !false) = true; decide)
  | lst _ _ _ => exact absurd e (by show ¬ (false && !false) = true; decide)
  | tup _ _ => exact absurd e (by show ¬ (false && !false) = true; decide)
theorem DS.inv_str {ρ : Rl} {H : Hp} {v : V} {d : PyData} (h : DS ρ H v d) (e : isiB d "str" = true) : ∃ s, d = .str s ∧ v = .str s := by
  cases h with
  | str s => exact ⟨s, rfl, rfl⟩
  | non => exact absurd e (by show ¬ false = true; decide)
  | bl b => exact absurd e (by show ¬ false = true; decide)
  | int x => exact absurd e (by show ¬ false = true; decide)
  | lst _ _ _ => exact absurd e (by show ¬ false = true; decide)
  | tup _ _ => exact absurd e (by show ¬ false = true; decide)
/-! ### promises of a truth value about one datum -/
def spB1 (F : PyData → Bool) : Sp := fun vs H Q _ => ∃ v d, vs = [v] ∧ DS exR H v d ∧ sm d = true ∧ ∀ H', Ext H H' → Q (.bl (F d)) H'
theorem spB1_len {F : PyData → Bool} {vs : List V} {H : Hp} {Q : VK} {E : XK} (h : spB1 F vs H Q E) : vs.length = 1 := by
  obtain ⟨v, d, rfl, _⟩ := h
  rfl
section
variable {ρ : Rl} {K : Frag} {σ : L2.St} {H : Hp} {ta tb te : TE} {v : V} {d : PyData}
theorem useB1 {F : PyData → Bool} (hd : DS ρ H v d) (hs : sm d = true) : SpR ρ (spB1 F) [v] H (fun v' _ => v' = .bl (F d)) := fun H1 e1 Q q E => ⟨v, d, rfl, (e1.ds hd).ex, hs, fun H' e => q _ H' (Ext.r e) rfl⟩
theorem ev_B1 {F : PyData → Bool} {E : XK} (h : EvV ρ ta σ H v) (hd : DS ρ H v d) (hs : sm d = true) : EvV ρ (tCall (spB1 F) [] E (tCons ta tNil)) σ H (.bl (F d)) := ev_call (ea_cons h ea_nil) (useB1 hd hs)
theorem ev_isiLT (h : EvV ρ ta σ H v) (hd : DS ρ H v d) : EvV ρ (tCB (rIsiU K) (tCons ta (tCons (tTup (tCons (tC (.ty "list")) (tCons (tC (.ty "tuple")) tNil))) tNil))) σ H (.bl (isSeqD d)) := fun H1 e1 Q q =>
  h H1 e1 _ fun v' H2 e2 ev => by
    subst ev
    refine ⟨by show 2 ≤ sizeLine; decide, fun p hp => ?_⟩
    refine .inr ⟨_, p, ["list", "tuple"], d, rfl, upd_same, ((e1.trans (r_new2 e2 _ hp)).ds hd).dp _ _, rfl, ?_⟩
    rw [isi_seq]
    exact q _ _ (r_new2 e2 _ hp) rfl
/-- all([..]) of truth values that are known -/
theorem ev_all {n : Nat} {f : Nat → Bool} (h : Ev ρ te σ H (fun u H2 => ∃ p, u = .ref p ∧ ¬ ρ.S p ∧ H p = none ∧ H2 p = some (.lst ((List.range n).map fun i => V.bl (f i))))) : EvV ρ (tCB (rAll K) (tCons te tNil)) σ H (.bl ((List.range n).all f)) :=
  ev_cb (ea_one h) fun vs H1 e1 ⟨u, eu, p, ep, _, _, hp⟩ => by
    subst eu ep
    refine fun H2 e2 Q q => ⟨p, (List.range n).map f, rfl, ?_, ?_⟩
    · rw [List.map_map]
      exact .of (e2.keep _ _ (by assumption) hp)
    · have z : ((List.range n).map f).all id = (List.range n).all f := by rw [List.all_map]; rfl
      rw [z]
      exact q _ H2 .rfl rfl
end
theorem range_all {α : Type} (xs : List α) (f : α → Bool) (g : Nat → Bool) (h : ∀ (i : Nat) x, xs[i]? = some x → g i = f x) : (List.range xs.length).all g = xs.all f := by
  rw [Bool.eq_iff_iff, List.all_eq_true, List.all_eq_true]
  constructor
  · intro a x hx
    obtain ⟨i, hi, e⟩ := List.mem_iff_getElem.mp hx
    have e2 : xs[i]? = some x := by rw [List.getElem?_eq_getElem hi, e]
    rw [← h i x e2]
    exact a i (List.mem_range.mpr hi)
  · intro a i hi
    have hi' := List.mem_range.mp hi
    rw [h i xs[i] (List.getElem?_eq_getElem hi')]
    exact a _ (List.getElem_mem hi')
local macro_rules | `(tactic| walk_at "ev") => `(tactic| first
  | exact ev_var rfl
  | exact ev_c
  | assumption
  | (refine ev_add ?_ ?_ <;> walk_at "ev")
  | (refine ev_sub ?_ ?_ <;> walk_at "ev")
  | (refine ev_int ?_ <;> walk_at "ev"))
/-! ### the checks -/
def sp_is_sequence (K : Frag) : Sp := spB1 isSeqD
def sp_is_triple (K : Frag) : Sp := spB1 isTripleD
def sp_is_word (K : Frag) : Sp := spB1 isWordD
def sp__law_whole (K : Frag) : Sp := spB1 fun d => isiB d "int" && !isiB d "bool"
def sp_is_whole (K : Frag) : Sp := fun vs H Q _ => ∃ v lo hi d, vs = [v, .int lo, .int hi] ∧ DS exR H v d ∧ ∀ H', Ext H H' → Q (.bl (isWholeD lo hi d)) H'
theorem len_is_sequence {K : Frag} {vs : List V} {H : Hp} {Q : VK} {E : XK} (h : sp_is_sequence K vs H Q E) : vs.length = 1 := spB1_len h
theorem len_is_triple {K : Frag} {vs : List V} {H : Hp} {Q : VK} {E : XK} (h : sp_is_triple K vs H Q E) : vs.length = 1 := spB1_len h
theorem len_is_word {K : Frag} {vs : List V} {H : Hp} {Q : VK} {E : XK} (h : sp_is_word K vs H Q E) : vs.length = 1 := spB1_len h
theorem len__law_whole {K : Frag} {vs : List V} {H : Hp} {Q : VK} {E : XK} (h : sp__law_whole K vs H Q E) : vs.length = 1 := spB1_len h
theorem len_is_whole {K : Frag} {vs : List V} {H : Hp} {Q : VK} {E : XK} (h : sp_is_whole K vs H Q E) : vs.length = 3 := by
  obtain ⟨v, lo, hi, d, rfl, _⟩ := h
  rfl
def t_is_whole (K : Frag) : TS := (tRet (tAndV (tCB (rIsiU K) (tCons (tVar 0) (tCons (tC (.ty "int")) tNil))) (tAndV (tNotV (tCB (rIsiU K) (tCons (tVar 0) (tCons (tC (.ty "bool")) tNil)))) (tChain (rCmp K gLe) (rCmp K gLe) (tVar 1) (tVar 0) (tVar 2)))))
def t_is_sequence (K : Frag) : TS := (tRet (tCB (rIsiU K) (tCons (tVar 0) (tCons (tTup (tCons (tC (.ty "list")) (tCons (tC (.ty "tuple")) tNil))) tNil))))
def t_is_triple (K : Frag) : TS := (tRet (tAndV (tCall (sp_is_sequence K) [] E0 (tCons (tVar 0) tNil)) (tOp (rEqU K) (tCB (rLenU K) (tCons (tVar 0) tNil)) (tC (.int 3)))))
def t_is_word (K : Frag) : TS := (tRet (tAndV (tCB (rIsiU K) (tCons (tVar 0) (tCons (tC (.ty "str")) tNil))) (tCB (rAll K) (tCons (tLc (iSeq K (tVar 0)) (gName 1) tYes (tOp (rInU K) (tVar 1) (tC (.str "abcdef"))) [1]) tNil))))
def t__law_whole (K : Frag) : TS := (tRet (tAndV (tCB (rIsiU K) (tCons (tVar 0) (tCons (tC (.ty "int")) tNil))) (tNotV (tCB (rIsiU K) (tCons (tVar 0) (tCons (tC (.ty "bool")) tNil))))))
theorem pure_is_sequence {K : Frag} (vs : List V) (H : Hp) (Q : VK) (E : XK) (h : sp_is_sequence K vs H Q E) : t_is_sequence K { nx := fun _ H' => Q .non H', rt := Q } (start ["value"] vs) H := by
  obtain ⟨v, d, rfl, hd, hs, k⟩ := h
  exact s_retV (ρ := exR) (ev_isiLT (ev_var rfl) hd) fun H1 e => k H1 e.ext
theorem pure__law_whole {K : Frag} (vs : List V) (H : Hp) (Q : VK) (E : XK) (h : sp__law_whole K vs H Q E) : t__law_whole K { nx := fun _ H' => Q .non H', rt := Q } (start ["value"] vs) H := by
  obtain ⟨v, d, rfl, hd, hs, k⟩ := h
  exact s_retV (ρ := exR) (ev_andV (ev_isi (ev_var rfl) hd rfl) fun _ => ev_notV (ev_isi (ev_var rfl) hd rfl)) fun H1 e => k H1 e.ext
theorem pure_is_whole {K : Frag} (vs : List V) (H : Hp) (Q : VK) (E : XK) (h : sp_is_whole K vs H Q E) : t_is_whole K { nx := fun _ H' => Q .non H', rt := Q } (start ["value", "low", "high"] vs) H := by
  obtain ⟨v, lo, hi, d, rfl, hd, k⟩ := h
  cases hi2 : (isiB d "int" && !isiB d "bool") with
  | true =>
    obtain ⟨i, rfl, rfl⟩ := hd.inv_int hi2
    exact s_retV (ρ := exR) ((ev_andV (ev_isi (ev_var rfl) hd rfl) fun _ => ev_andV (ev_notV (ev_isi (ev_var rfl) hd rfl)) fun _ => ev_chainLe (ev_var rfl) (ev_var rfl) (ev_var rfl)).val rfl) fun H1 e => k H1 e.ext
  | false =>
    have e0 : isWholeD lo hi d = false := by
      cases d with
      | int i => exact absurd hi2 (by show ¬ (true && !false) = false; decide)
      | _ => rfl
    refine s_retV (ρ := exR) ((ev_andV (b := (!isiB d "bool") && false) (ev_isi (ev_var rfl) hd rfl) fun h1 => ev_andV (ev_notV (ev_isi (ev_var rfl) hd rfl)) fun h2 => ?_).val (x := .bl (isWholeD lo hi d)) ?_) fun H1 e => k H1 e.ext
    · rw [h1, h2] at hi2
      cases hi2
    · rw [e0, Bool.and_false, Bool.and_false]
theorem pure_is_triple {K : Frag} (vs : List V) (H : Hp) (Q : VK) (E : XK) (h : sp_is_triple K vs H Q E) : t_is_triple K { nx := fun _ H' => Q .non H', rt := Q } (start ["value"] vs) H := by
  obtain ⟨v, d, rfl, hd, hs, k⟩ := h
  refine s_retV (ρ := exR) ((ev_andV (b := decide ((itemsD d).length = 3)) (ev_B1 (F := isSeqD) (ev_var rfl) hd hs) fun hq => ?_).val rfl) fun H1 e => k H1 e.ext
  obtain ⟨a, xs, rfl, ha, hsq, _⟩ := hd.seqd hq
  refine (ev_eqI (ev_len (ev_var rfl) (hsq K)) ev_c).val ?_
  rw [ha.length]
  exact congrArg V.bl (by
    by_cases z : (itemsD d).length = 3
    · rw [decide_eq_true z, decide_eq_true (by omega)]
    · rw [decide_eq_false z, decide_eq_false (by omega)])
theorem pure_is_word {K : Frag} (vs : List V) (H : Hp) (Q : VK) (E : XK) (h : sp_is_word K vs H Q E) : t_is_word K { nx := fun _ H' => Q .non H', rt := Q } (start ["value", "letter"] vs) H := by
  obtain ⟨v, d, rfl, hd, hs, k⟩ := h
  cases hi2 : isiB d "str" with
  | true =>
    obtain ⟨s, rfl, rfl⟩ := hd.inv_str hi2
    have hl := sm_str hs
    have hz : s.cps.size = s.length := rfl
    refine s_retV (ρ := exR) ((ev_andV (ev_isi (ev_var rfl) hd rfl) fun _ => ev_all (n := s.cps.size) (f := fun i => decide ((s.cps[i]?).getD 0 ∈ letters)) (ev_lcV own_ex (by omega) (ei_str (ev_var rfl)) (fun x => rfl) (fun i H2 x H3 y => y.1) ?_)).val (x := .bl (isWordD (.str s))) ?_) fun H1 e => k H1 e.ext
    · rintro i x H2 H3 hi r ⟨e3, c, hc, rfl⟩
      refine (ev_inS (ev_var rfl) ev_c).val ?_
      rw [hc]
      rfl
    · rw [hi2, Bool.true_and]
      refine congrArg V.bl ?_
      have hsz : s.cps.size = s.cps.toList.length := by simp
      show (List.range s.cps.size).all _ = s.cps.toList.all _
      rw [hsz]
      refine range_all _ _ _ fun i x hx => ?_
      have : s.cps[i]? = some x := by rw [← hx]; simp
      rw [this]
      rfl
  | false =>
    have e0 : isWordD d = false := by
      cases d with
      | str i => exact absurd hi2 (by show ¬ true = false; decide)
      | _ => rfl
    refine s_retV (ρ := exR) ((ev_andV (b := false) (ev_isi (ev_var rfl) hd rfl) fun h1 => ?_).val (x := .bl (isWordD d)) ?_) fun H1 e => k H1 e.ext
    · rw [hi2] at h1
      cases h1
    · rw [e0, Bool.and_false]
/-! ### rising rows -/
/-- neighbours that can be compared -/
def okRow (ds : List PyData) : Prop := ∀ d ∈ ds, ∀ e ∈ ds, PySem.W.alike d e = true ∧ d ≠ .none ∧ d.depth ≤ 64
def risingD : List PyData → Bool
  | d :: e :: r => PySem.W.dataLt d e && risingD (e :: r)
  | _ => true
def sp_is_rising (K : Frag) : Sp := fun vs H Q _ => ∃ v d, vs = [v] ∧ DS exR H v d ∧ isSeqD d = true ∧ (itemsD d).length ≤ 1000 ∧ okRow (itemsD d) ∧ ∀ H', Ext H H' → Q (.bl (risingD (itemsD d))) H'
theorem len_is_rising {K : Frag} {vs : List V} {H : Hp} {Q : VK} {E : XK} (h : sp_is_rising K vs H Q E) : vs.length = 1 := by
  obtain ⟨v, d, rfl, _⟩ := h
  rfl
theorem rising_range : ∀ (ds : List PyData) (g : Nat → Bool), (∀ i d e, ds[i]? = some d → ds[i + 1]? = some e → g i = PySem.W.dataLt d e) → (List.range (ds.length - 1)).all g = risingD ds
  | [], g, _ => rfl
  | [d], g, _ => rfl
  | d :: e :: r, g, h => by
    have ih := rising_range (e :: r) (fun i => g (i + 1)) fun i x y a b => h (i + 1) x y (by simpa using a) (by simpa using b)
    have e1 : (d :: e :: r).length - 1 = ((e :: r).length - 1) + 1 := by simp
    rw [e1, List.range_succ_eq_map, List.all_cons, List.all_map]
    show (g 0 && (List.range ((e :: r).length - 1)).all fun i => g (i + 1)) = (PySem.W.dataLt d e && risingD (e :: r))
    rw [ih, h 0 d e rfl rfl]
def t_is_rising (K : Frag) : TS := (tRet (tCB (rAll K) (tCons (tLc (iRng1 (tCons (tOp rSubI (tCB (rLenU K) (tCons (tVar 0) tNil)) (tC (.int 1))) tNil)) (gName 1) tYes (tOp (rCmp K gLt) (tIxU K (tVar 0) (tVar 1)) (tIxU K (tVar 0) (tOp (rAddU K) (tVar 1) (tC (.int 1))))) [1]) tNil)))
theorem pure_is_rising {K : Frag} (vs : List V) (H : Hp) (Q : VK) (E : XK) (h : sp_is_rising K vs H Q E) : t_is_rising K { nx := fun _ H' => Q .non H', rt := Q } (start ["rows", "at"] vs) H := by
  obtain ⟨v, d, rfl, hd, hq, hl, ok, k⟩ := h
  obtain ⟨a, xs, rfl, ha, hsq, _⟩ := hd.seqd hq
  have hlen := ha.length
  have hn : ((xs.length : Int) - 1).toNat = xs.length - 1 := by omega
  refine s_retV (ρ := exR) ((ev_all (n := ((xs.length : Int) - 1).toNat) (f := fun i => match (itemsD d)[i]?, (itemsD d)[i + 1]? with | some x, some y => PySem.W.dataLt x y | _, _ => true)
    (ev_lcV own_ex (by omega) (ei_rng (ea_cons (ev_sub (ev_len (ev_var rfl) (hsq K)) ev_c) ea_nil) (by omega) (by omega)) (fun x => rfl) (fun i H2 x H3 y => y.1) ?_)).val (x := .bl (risingD (itemsD d))) ?_) fun H1 e => k H1 e.ext
  · rintro i x H2 H3 hi r ⟨e3, rfl⟩
    have h1 : i + 1 < xs.length := by omega
    have g1 : xs[i]? = some xs[i] := List.getElem?_eq_getElem (by omega)
    have g2 : xs[i + 1]? = some xs[i + 1] := List.getElem?_eq_getElem h1
    obtain ⟨d1, e1, q1⟩ := ha.get g1
    obtain ⟨d2, e2, q2⟩ := ha.get g2
    obtain ⟨o1, o2, o3⟩ := ok d1 (List.mem_of_getElem? e1) d2 (List.mem_of_getElem? e2)
    refine (ev_cmp (d := d1) (e := d2) (ev_ix (n := i) (ev_var rfl) (ev_var rfl) (fun H4 r4 => hsq K H4 (r.trans r4)) rfl g1) (ev_ix (n := i + 1) (ev_var rfl) (ev_add (ev_var rfl) ev_c) (fun H4 r4 => hsq K H4 (r.trans r4)) (by omega) g2) (r.ds q1) (r.ds q2) o1 o2 o3).val ?_
    show V.bl (PySem.W.dataLt d1 d2) = V.bl (match (itemsD d)[i]?, (itemsD d)[i + 1]? with | some x, some y => PySem.W.dataLt x y | _, _ => true)
    rw [e1, e2]
  · refine congrArg V.bl ?_
    rw [hn, hlen]
    refine rising_range _ _ fun i x y e1 e2 => ?_
    show (match (itemsD d)[i]?, (itemsD d)[i + 1]? with | some x, some y => PySem.W.dataLt x y | _, _ => true) = _
    rw [e1, e2]
/-! ### strings of letters -/
def isStrD (most : Int) : PyData → Bool
  | .str s => decide ((s.length : Int) ≤ most) && s.cps.toList.all fun c => decide (c ∈ letters)
  | _ => false
def sp__law_is_string (K : Frag) : Sp := fun vs H Q _ => ∃ v most d, vs = [v, .int most] ∧ DS exR H v d ∧ sm d = true ∧ ∀ H', Ext H H' → Q (.bl (isStrD most d)) H'
theorem len__law_is_string {K : Frag} {vs : List V} {H : Hp} {Q : VK} {E : XK} (h : sp__law_is_string K vs H Q E) : vs.length = 2 := by
  obtain ⟨v, lo, d, rfl, _⟩ := h
  rfl
section
variable {ρ : Rl} {K : Frag} {σ : L2.St} {H : Hp} {ta tb te : TE} {v : V} {d : PyData}
theorem ev_is_string {E : XK} {m : Int} (h : EvV ρ ta σ H v) (h2 : EvV ρ tb σ H (.int m)) (hd : DS ρ H v d) (hs : sm d = true) : EvV ρ (tCall (sp__law_is_string K) [] E (tCons ta (tCons tb tNil))) σ H (.bl (isStrD m d)) :=
  ev_call (ea_cons h (ea_cons h2 ea_nil)) fun H1 e1 Q q E => ⟨v, m, d, rfl, (e1.ds hd).ex, hs, fun H' e => q _ H' (Ext.r e) rfl⟩
theorem ev_is_whole {tc : TE} {E : XK} {lo hi : Int} (h : EvV ρ ta σ H v) (h2 : EvV ρ tb σ H (.int lo)) (h3 : EvV ρ tc σ H (.int hi)) (hd : DS ρ H v d) : EvV ρ (tCall (sp_is_whole K) [] E (tCons ta (tCons tb (tCons tc tNil)))) σ H (.bl (isWholeD lo hi d)) :=
  ev_call (ea_cons h (ea_cons h2 (ea_cons h3 ea_nil))) fun H1 e1 Q q E => ⟨v, lo, hi, d, rfl, (e1.ds hd).ex, fun H' e => q _ H' (Ext.r e) rfl⟩
/-- len of a new list -/
theorem ev_lenN {n : Int} {R : V → Hp → Prop} (h : Ev ρ te σ H R) (hs : ∀ v H1, ρ.r H H1 → R v H1 → ∃ p xs, v = .ref p ∧ ¬ ρ.S p ∧ H1 p = some (.lst xs) ∧ (xs.length : Int) = n) : EvV ρ (tCB (rLenU K) (tCons te tNil)) σ H (.int n) :=
  ev_cb (ea_one h) fun vs H1 e1 ⟨u, eu, ru⟩ => by
    obtain ⟨p, xs, rfl, nS, hp, hl⟩ := hs u H1 e1 ru
    subst eu
    exact fun H2 e2 Q q => .inl ⟨_, xs.length, rfl, .inl ⟨xs, .of (e2.keep _ _ nS hp), rfl⟩, q _ H2 .rfl (by rw [hl])⟩
end
theorem filter_len_zero {n : Nat} {f : Nat → Bool} : decide ((((List.range n).filter f).length : Int) = 0) = (List.range n).all fun i => !f i := by
  rw [Bool.eq_iff_iff, decide_eq_true_iff, List.all_eq_true]
  constructor
  · intro h i hi
    have h0 : ((List.range n).filter f) = [] := List.eq_nil_of_length_eq_zero (by omega)
    have := List.filter_eq_nil_iff.mp h0 i hi
    simpa using this
  · intro h
    have h0 : ((List.range n).filter f) = [] := List.filter_eq_nil_iff.mpr fun i hi => by simpa using h i hi
    rw [h0]
    rfl
def t__law_is_string (K : Frag) : TS := (tSeq (tIfS (tOr (tNot (tB (tCB (rIsiU K) (tCons (tVar 0) (tCons (tC (.ty "str")) tNil))))) (tTest (tOp (rCmp K gGt) (tCB (rLenU K) (tCons (tVar 0) tNil)) (tVar 1)))) (tRet (tC (.bl false))) tNext) (tRet (tOp (rEqU K) (tCB (rLenU K) (tCons (tLc (iSeq K (tVar 0)) (gName 2) (tTest (tOp (rNotInU K) (tVar 2) (tC (.str "abcdef")))) (tVar 2) [2]) tNil)) (tC (.int 0)))))
theorem pure__law_is_string {K : Frag} (vs : List V) (H : Hp) (Q : VK) (E : XK) (h : sp__law_is_string K vs H Q E) : t__law_is_string K { nx := fun _ H' => Q .non H', rt := Q } (start ["value", "most", "one"] vs) H := by
  obtain ⟨v, m, d, rfl, hd, hs, k⟩ := h
  cases hi2 : isiB d "str" with
  | true =>
    obtain ⟨s, rfl, rfl⟩ := hd.inv_str hi2
    have hl := sm_str hs
    have hz : s.cps.size = s.length := rfl
    refine q_when (ρ := exR) (et_or (et_not (et_B (ev_isi (ev_var rfl) hd rfl))) fun _ => et_test (ev_gt (ev_lenS (ev_var rfl) (by omega)) (ev_var rfl))) (fun hb H1 e => s_retV (ρ := exR) ev_c fun H2 e2 => ?_) (fun hb H1 e => ?_)
    · have hm : ¬ (s.length : Int) ≤ m := by
        rw [hi2] at hb
        have : decide (m < (s.length : Int)) = true := by simpa using hb
        have := of_decide_eq_true this
        omega
      have e0 : isStrD m (.str s) = false := by
        show (decide ((s.length : Int) ≤ m) && _) = false
        rw [decide_eq_false hm, Bool.false_and]
      have := k H2 (e.trans e2).ext
      rw [e0] at this
      exact this
    · have hm : (s.length : Int) ≤ m := by
        rw [hi2] at hb
        have : decide (m < (s.length : Int)) = false := by simpa using hb
        have := of_decide_eq_false this
        omega
      refine s_retV (ρ := exR) ((ev_eqI (ev_lenN (n := (((List.range s.cps.size).filter fun i => !decide ((s.cps[i]?).getD 0 ∈ letters)).length : Int))
        (ev_lc (R := fun _ i x _ => True) (C := fun i b => b = !decide ((s.cps[i]?).getD 0 ∈ letters)) own_ex (by omega) (ei_str (ev_var rfl)) (fun _ _ _ _ _ _ h => h) (fun _ _ _ _ h => h) ?_) ?_) ev_c).val (x := .bl (isStrD m (.str s))) ?_) fun H2 e2 => k H2 (e.trans e2).ext
      · rintro D H2 r hD i x H3 H4 hi r2 oD ⟨e3, c, hc, rfl⟩ cont hcont
        subst e3
        refine hcont _ _ rfl .rfl fun H5 r5 Q' q' => ?_
        refine et_test (ρ := exR) (H := H5) (ev_notInS (ev_var rfl) ev_c) H5 .rfl _ fun H6 r6 => q' _ H6 r6 ?_ fun _ => ?_
        · show _ = !decide ((s.cps[i]?).getD 0 ∈ letters)
          rw [hc]
          rfl
        · exact (ev_var (v := .str ⟨#[c]⟩) rfl).imp fun _ _ _ _ => trivial
      · rintro v H2 r ⟨p, xs, f, e1, nS, hp, hx, hC, hit⟩
        refine ⟨p, xs, e1, nS, hx, ?_⟩
        rw [hit.1, kept_congr hC]
        rfl
      · refine congrArg V.bl ?_
        rw [filter_len_zero]
        show _ = (decide ((s.length : Int) ≤ m) && s.cps.toList.all fun c => decide (c ∈ letters))
        rw [decide_eq_true hm, Bool.true_and]
        have hsz : s.cps.size = s.cps.toList.length := by simp
        rw [hsz]
        refine range_all _ _ _ fun i x hx => ?_
        have : s.cps[i]? = some x := by rw [← hx]; simp
        rw [this, Bool.not_not]
        rfl
  | false =>
    have e0 : isStrD m d = false := by
      cases d with
      | str i => exact absurd hi2 (by show ¬ true = false; decide)
      | _ => rfl
    rw [e0] at k
    refine q_when (ρ := exR) (et_or (b := false) (et_not (et_B (ev_isi (ev_var rfl) hd rfl))) fun h1 => ?_) (fun hb H1 e => s_retV (ρ := exR) ev_c fun H2 e2 => k H2 (e.trans e2).ext) (fun hb H1 e => ?_)
    · rw [hi2] at h1
      cases h1
    · rw [hi2] at hb
      cases hb
end Slip
/-! faults and tables -/
namespace Slip
open PySem PySem.Spec PyProof.Rows L2
def Le (ρ ρ' : Rl) : Prop := ∀ a, ρ.S a → ρ'.S a
theorem Le.rfl {ρ : Rl} : Le ρ ρ := fun _ h => h
theorem Le.and {ρ : Rl} {D : Addr} : Le ρ (ρ.and D) := fun _ h => .inl h
theorem Le.ds {ρ ρ' : Rl} (l : Le ρ ρ') {H H' : Hp} (e : ρ.r H H') {v : V} {d : PyData} (h : DS ρ' H v d) : DS ρ' H' v d := h.move (fun a _ n q => ⟨n, e.keep a _ (fun z => n (l a z)) q⟩) e.tup
theorem Le.dss {ρ ρ' : Rl} (l : Le ρ ρ') {H H' : Hp} (e : ρ.r H H') {v : List V} {d : List PyData} (h : DSs ρ' H v d) : DSs ρ' H' v d := h.move (fun a _ n q => ⟨n, e.keep a _ (fun z => n (l a z)) q⟩) e.tup
section
variable {ρ ρ' : Rl} {K : Frag} {σ : L2.St} {H : Hp} {ta tb tc te : TE} {x y z v : V} {d e f : PyData} {a : Addr}
/-- a, b, c = a sequence of three -/
theorem g_seq3 {i j l : Nat} {Q : L2.St → Hp → Prop} (hs : SqA K H a [x, y, z]) (q : Q (((σ.set i (some x)).set j (some y)).set l (some z)) H) : gSeq K 3 (gCons (gName i) (gCons (gName j) (gCons (gName l) gNil))) (.ref a) σ H Q := by
  rcases hs with h | h
  · exact .inr ⟨a, _, rfl, h, rfl, x, _, rfl, y, _, rfl, z, _, rfl, rfl, q⟩
  · exact .inl ⟨a, _, rfl, h, rfl, x, _, rfl, y, _, rfl, z, _, rfl, rfl, q⟩
/-- (a, b) of data -/
theorem ev_pairD (l : Le ρ ρ') (h1 : EvV ρ ta σ H x) (h2 : EvV ρ tb σ H y) (hx : DS ρ' H x d) (hy : DS ρ' H y e) : Ev ρ (tTup (tCons ta (tCons tb tNil))) σ H (fun v H' => DS ρ' H' v (.tuple [d, e])) :=
  (ev_tup (ea_cons h1 (ea_cons h2 ea_nil)) fun vs H1 _ e => by rw [e]; show 2 ≤ 100000; decide).imp fun v H2 r ⟨p, vs, H1, ev, evs, hp, r1, eH⟩ => by
    subst ev evs
    exact .tup (by rw [eH]; exact upd_same) (.cons (l.ds r hx) (.cons (l.ds r hy) .nil))
theorem ev_tripleD (l : Le ρ ρ') (h1 : EvV ρ ta σ H x) (h2 : EvV ρ tb σ H y) (h3 : EvV ρ tc σ H z) (hx : DS ρ' H x d) (hy : DS ρ' H y e) (hz : DS ρ' H z f) : Ev ρ (tTup (tCons ta (tCons tb (tCons tc tNil)))) σ H (fun v H' => DS ρ' H' v (.tuple [d, e, f])) :=
  (ev_tup (ea_cons h1 (ea_cons h2 (ea_cons h3 ea_nil))) fun vs H1 _ e => by rw [e]; show 3 ≤ 100000; decide).imp fun v H2 r ⟨p, vs, H1, ev, evs, hp, r1, eH⟩ => by
    subst ev evs
    exact .tup (by rw [eH]; exact upd_same) (.cons (l.ds r hx) (.cons (l.ds r hy) (.cons (l.ds r hz) .nil)))
theorem ev_rising {E : XK} {ds : List PyData} (h : Ev ρ te σ H (fun u H2 => ∃ p xs, u = .ref p ∧ ¬ ρ.S p ∧ H p = none ∧ H2 p = some (.lst xs) ∧ DSs ρ H2 xs ds)) (hl : ds.length ≤ 1000) (ok : okRow ds) : EvV ρ (tCall (sp_is_rising K) [] E (tCons te tNil)) σ H (.bl (risingD ds)) :=
  ev_callR (ea_one h) fun vs H1 e1 ⟨u, eu, p, xs, ep, nS, _, hp, hx⟩ => by
    subst eu ep
    refine fun H2 e2 Q q E => ⟨_, .list ds, rfl, ?_, rfl, hl, ok, fun H' e => q _ H' (Ext.r e) rfl⟩
    exact .lst (fun z => z) (e2.keep _ _ nS hp) ((e2.dss hx).move (fun a _ n q => ⟨fun z => z, q⟩) fun _ _ q => q)
end
theorem three {α : Type} {l : List α} (h : l.length = 3) : ∃ a b c, l = [a, b, c] := by
  match l, h with
  | [a, b, c], _ => exact ⟨a, b, c, rfl⟩
theorem DqAll.three {A : Addr → Prop} {H : Hp} {xs : List V} {m w c : PyData} (h : DqAll A H xs [m, w, c]) : ∃ x y z, xs = [x, y, z] ∧ Dq A H x m ∧ Dq A H y w ∧ Dq A H z c := by
  cases h with | cons h1 h => cases h with | cons h2 h => cases h with | cons h3 h => cases h with | nil => exact ⟨_, _, _, rfl, h1, h2, h3⟩
theorem DqAll.two {A : Addr → Prop} {H : Hp} {xs : List V} {m w : PyData} (h : DqAll A H xs [m, w]) : ∃ x y, xs = [x, y] ∧ Dq A H x m ∧ Dq A H y w := by
  cases h with | cons h1 h => cases h with | cons h2 h => cases h with | nil => exact ⟨_, _, rfl, h1, h2⟩
theorem notb {b : Bool} (h : (!b) = true) : b = false := by
  cases b
  · rfl
  · cases h
theorem notb' {b : Bool} (h : (!b) = false) : b = true := by
  cases b
  · cases h
  · rfl
def isPieceD : PyData → Bool
  | .str s => isWordD (.str s) && decide ((s.length : Int) ≤ 2)
  | _ => false
def isFaultD (d : PyData) : Bool := isTripleD d && match itemsD d with
  | [m, w, c] => isPieceD m && isPieceD w && !(PyData.eqv m w) && isWholeD 1 9 c
  | _ => false
def pairOf (d : PyData) : PyData := match itemsD d with
  | m :: w :: _ => .tuple [m, w]
  | _ => .none
def isTableD (d : PyData) : Bool := isSeqD d && decide ((itemsD d).length ≤ 8) && (itemsD d).all isFaultD && risingD ((itemsD d).map pairOf)
/-- a string of at most so many letters -/
def isShortD (n : Int) : PyData → Bool
  | .str s => isWordD (.str s) && decide ((s.length : Int) ≤ n)
  | _ => false
def sp_is_short (K : Frag) : Sp := fun vs H Q _ => ∃ v n d, vs = [v, .int n] ∧ DS exR H v d ∧ sm d = true ∧ ∀ H', Ext H H' → Q (.bl (isShortD n d)) H'
theorem len_is_short {K : Frag} {vs : List V} {H : Hp} {Q : VK} {E : XK} (h : sp_is_short K vs H Q E) : vs.length = 2 := by
  obtain ⟨v, n, d, rfl, _⟩ := h
  rfl
theorem ev_is_short {ρ : Rl} {K : Frag} {σ : L2.St} {H : Hp} {ta tb : TE} {E : XK} {v : V} {d : PyData} {n : Int} (h : EvV ρ ta σ H v) (h2 : EvV ρ tb σ H (.int n)) (hd : DS ρ H v d) (hs : sm d = true) : EvV ρ (tCall (sp_is_short K) [] E (tCons ta (tCons tb tNil))) σ H (.bl (isShortD n d)) :=
  ev_call (ea_cons h (ea_cons h2 ea_nil)) fun H1 e1 Q q E => ⟨v, n, d, rfl, (e1.ds hd).ex, hs, fun H' e => q _ H' (Ext.r e) rfl⟩
def sp_is_piece (K : Frag) : Sp := spB1 isPieceD
def sp_is_fault (K : Frag) : Sp := spB1 isFaultD
def sp_is_table (K : Frag) : Sp := spB1 isTableD
theorem len_is_piece {K : Frag} {vs : List V} {H : Hp} {Q : VK} {E : XK} (h : sp_is_piece K vs H Q E) : vs.length = 1 := spB1_len h
theorem len_is_fault {K : Frag} {vs : List V} {H : Hp} {Q : VK} {E : XK} (h : sp_is_fault K vs H Q E) : vs.length = 1 := spB1_len h
theorem len_is_table {K : Frag} {vs : List V} {H : Hp} {Q : VK} {E : XK} (h : sp_is_table K vs H Q E) : vs.length = 1 := spB1_len h
def t_is_short (K : Frag) : TS := (tRet (tAndV (tCall (sp_is_word K) [] E0 (tCons (tVar 0) tNil)) (tOp (rCmp K gLe) (tCB (rLenU K) (tCons (tVar 0) tNil)) (tVar 1))))
def t_is_piece (K : Frag) : TS := (tRet (tCall (sp_is_short K) [] E0 (tCons (tVar 0) (tCons (tC (.int 2)) tNil))))
def t_is_fault (K : Frag) : TS := (tSeq (tIfS (tNot (tB (tCall (sp_is_triple K) [] E0 (tCons (tVar 0) tNil)))) (tRet (tC (.bl false))) tNext) (tSeq (tAsg (tVar 0) (gSeq K 3 (gCons (gName 1) (gCons (gName 2) (gCons (gName 3) gNil))))) (tSeq (tIfS (tOr (tNot (tB (tCall (sp_is_piece K) [] E0 (tCons (tVar 1) tNil)))) (tOr (tNot (tB (tCall (sp_is_piece K) [] E0 (tCons (tVar 2) tNil)))) (tTest (tOp (rEqU K) (tVar 1) (tVar 2))))) (tRet (tC (.bl false))) tNext) (tRet (tCall (sp_is_whole K) [] E0 (tCons (tVar 3) (tCons (tC (.int 1)) (tCons (tC (.int 9)) tNil))))))))
def t_is_table (K : Frag) : TS := (tSeq (tIfS (tOr (tNot (tB (tCall (sp_is_sequence K) [] E0 (tCons (tVar 0) tNil)))) (tTest (tOp (rCmp K gGt) (tCB (rLenU K) (tCons (tVar 0) tNil)) (tC (.int 8))))) (tRet (tC (.bl false))) tNext) (tSeq (tIfS (tNot (tB (tCB (rAll K) (tCons (tLc (iSeq K (tVar 0)) (gName 1) tYes (tCall (sp_is_fault K) [] E0 (tCons (tVar 1) tNil)) [1]) tNil)))) (tRet (tC (.bl false))) tNext) (tRet (tCall (sp_is_rising K) [] E0 (tCons (tLc (iSeq K (tVar 0)) (gName 1) tYes (tTup (tCons (tIxU K (tVar 1) (tC (.int 0))) (tCons (tIxU K (tVar 1) (tC (.int 1))) tNil))) [1]) tNil)))))
theorem pure_is_short {K : Frag} (vs : List V) (H : Hp) (Q : VK) (E : XK) (h : sp_is_short K vs H Q E) : t_is_short K { nx := fun _ H' => Q .non H', rt := Q } (start ["value", "most"] vs) H := by
  obtain ⟨v, n, d, rfl, hd, hs, k⟩ := h
  cases hi2 : isWordD d with
  | true =>
    cases d with
    | str s =>
      have hl := sm_str hs
      cases hd
      refine s_retV (ρ := exR) ((ev_andV (ev_B1 (F := isWordD) (ev_var rfl) (.str s) hs) fun _ => ev_le (ev_lenS (ev_var rfl) (by omega)) (ev_var rfl)).val rfl) fun H1 e => k H1 e.ext
    | _ => cases hi2
  | false =>
    have e0 : isShortD n d = false := by
      cases d with
      | str s => show (isWordD (.str s) && _) = false; rw [hi2, Bool.false_and]
      | _ => rfl
    rw [e0] at k
    refine s_retV (ρ := exR) ((ev_andV (b := false) (ev_B1 (F := isWordD) (ev_var rfl) hd hs) fun h1 => ?_).val (x := .bl false) (by rw [Bool.and_false])) fun H1 e => k H1 e.ext
    rw [hi2] at h1
    cases h1
theorem pure_is_piece {K : Frag} (vs : List V) (H : Hp) (Q : VK) (E : XK) (h : sp_is_piece K vs H Q E) : t_is_piece K { nx := fun _ H' => Q .non H', rt := Q } (start ["value"] vs) H := by
  obtain ⟨v, d, rfl, hd, hs, k⟩ := h
  have e0 : isPieceD d = isShortD 2 d := by cases d <;> rfl
  rw [e0] at k
  exact s_retV (ρ := exR) (ev_is_short (ev_var rfl) ev_c hd hs) fun H1 e => k H1 e.ext
theorem piece_str {d : PyData} (h : isPieceD d = true) : ∃ s, d = .str s ∧ s.length ≤ 2 ∧ isWordD (.str s) = true := by
  cases d with
  | str s =>
    have h' : isWordD (.str s) = true ∧ (s.length : Int) ≤ 2 := by simpa [isPieceD] using h
    exact ⟨s, rfl, by omega, h'.1⟩
  | _ => cases h
theorem eqv_str (s t : Str) : PyData.eqv (.str s) (.str t) = decide (s = t) := by
  show (s == t) = decide (s = t)
  rw [Bool.eq_iff_iff]
  simp
theorem pure_is_fault {K : Frag} (vs : List V) (H : Hp) (Q : VK) (E : XK) (h : sp_is_fault K vs H Q E) : t_is_fault K { nx := fun _ H' => Q .non H', rt := Q } (start ["value", "meant", "written", "cost"] vs) H := by
  obtain ⟨v, d, rfl, hd, hs, k⟩ := h
  refine q_when (ρ := exR) (et_not (et_B (ev_B1 (F := isTripleD) (ev_var rfl) hd hs))) (fun hb H1 e => s_retV (ρ := exR) ev_c fun H2 e2 => ?_) (fun hb H1 e => ?_)
  · have e0 : isFaultD d = false := by
      unfold isFaultD
      rw [show isTripleD d = false by simpa using hb, Bool.false_and]
    rw [e0] at k
    exact k H2 (e.trans e2).ext
  have ht : isTripleD d = true := by simpa using hb
  have ht2 : isSeqD d = true ∧ (itemsD d).length = 3 := by simpa [isTripleD] using ht
  obtain ⟨a, xs, rfl, ha, hsq, _⟩ := hd.seqd ht2.1
  have hsm : smAll (itemsD d) = true := by
    cases d with
    | list ds => exact (sm_seq (.inl hs)).2
    | tuple ds => exact (sm_seq (.inr hs)).2
    | _ => rfl
  obtain ⟨m, w, c, hds⟩ := three ht2.2
  rw [hds] at ha hsm
  obtain ⟨x, y, z, rfl, hm, hw, hc⟩ := ha.three
  · have sm3 : sm m = true ∧ sm w = true ∧ sm c = true := by simpa [smAll] using hsm
    have ef : isFaultD d = (isPieceD m && isPieceD w && !(PyData.eqv m w) && isWholeD 1 9 c) := by
      unfold isFaultD
      rw [ht, hds, Bool.true_and]
    rw [ef] at k
    refine ⟨_, rfl, g_seq3 (hsq K H1 e) ?_⟩
    have gm : DS exR H1 x m := e.ds hm
    have gw : DS exR H1 y w := e.ds hw
    have gc : DS exR H1 z c := e.ds hc
    refine q_when (ρ := exR) (H := H1) (b := !(isPieceD m && isPieceD w && !(PyData.eqv m w))) ((et_or (b := !isPieceD w || PyData.eqv m w) (et_not (et_B (ev_B1 (F := isPieceD) (ev_var rfl) gm sm3.1))) fun h1 => et_or (b := PyData.eqv m w) (et_not (et_B (ev_B1 (F := isPieceD) (ev_var rfl) gw sm3.2.1))) fun h2 => et_test ?_).to ?_) (fun hb H2 e2 => s_retV (ρ := exR) ev_c fun H3 e3 => ?_) (fun hb H2 e2 => ?_)
    · obtain ⟨s, rfl, _⟩ := piece_str (d := m) (by simpa using h1)
      obtain ⟨t, rfl, _⟩ := piece_str (d := w) (by simpa using h2)
      cases gm
      cases gw
      exact (ev_eqS (ev_var rfl) (ev_var rfl)).val (by rw [eqv_str])
    · cases isPieceD m <;> cases isPieceD w <;> cases PyData.eqv m w <;> rfl
    · have e0 : (isPieceD m && isPieceD w && !(PyData.eqv m w)) = false := notb hb
      rw [e0, Bool.false_and] at k
      exact k H3 (e.trans (e2.trans e3)).ext
    · have e0 : (isPieceD m && isPieceD w && !(PyData.eqv m w)) = true := notb' hb
      rw [e0, Bool.true_and] at k
      exact s_retV (ρ := exR) (ev_is_whole (ev_var rfl) ev_c ev_c (e2.ds gc)) fun H3 e3 => k H3 (e.trans (e2.trans e3)).ext
theorem fault_parts {d : PyData} (h : isFaultD d = true) : ∃ s t c, itemsD d = [.str s, .str t, .int c] ∧ isPieceD (.str s) = true ∧ isPieceD (.str t) = true ∧ s ≠ t ∧ 1 ≤ c ∧ c ≤ 9 ∧ isSeqD d = true := by
  have h' : isTripleD d = true ∧ (match itemsD d with
    | [m, w, c] => isPieceD m && isPieceD w && !(PyData.eqv m w) && isWholeD 1 9 c
    | _ => false) = true := by simpa [isFaultD] using h
  have ht2 : isSeqD d = true ∧ (itemsD d).length = 3 := by simpa [isTripleD] using h'.1
  match hds : itemsD d, ht2.2, h'.2 with
  | [m, w, c], _, h2 =>
    have h3 : ((isPieceD m = true ∧ isPieceD w = true) ∧ PyData.eqv m w = false) ∧ isWholeD 1 9 c = true := by simpa using h2
    obtain ⟨s, rfl, _⟩ := piece_str h3.1.1.1
    obtain ⟨t, rfl, _⟩ := piece_str h3.1.1.2
    cases c with
    | int i =>
      have h4 : 1 ≤ i ∧ i ≤ 9 := by simpa [isWholeD] using h3.2
      refine ⟨s, t, i, rfl, h3.1.1.1, h3.1.1.2, ?_, h4.1, h4.2, ht2.1⟩
      have := h3.1.2
      rw [eqv_str] at this
      exact of_decide_eq_false this
    | _ => exact absurd h3.2 (by simp [isWholeD])
theorem pair_fault {d : PyData} {s t : Str} {c : PyData} (h : itemsD d = [.str s, .str t, c]) : pairOf d = .tuple [.str s, .str t] := by
  unfold pairOf
  rw [h]
theorem ok_pairs {ds : List PyData} (h : ds.all isFaultD = true) : okRow (ds.map pairOf) := by
  intro d hd e he
  obtain ⟨d', hd', rfl⟩ := List.mem_map.mp hd
  obtain ⟨e', he', rfl⟩ := List.mem_map.mp he
  obtain ⟨s, t, c, h1, _⟩ := fault_parts (List.all_eq_true.mp h d' hd')
  obtain ⟨s2, t2, c2, h2, _⟩ := fault_parts (List.all_eq_true.mp h e' he')
  rw [pair_fault h1, pair_fault h2]
  exact ⟨rfl, by simp, by show (1 : Nat) ≤ 64; decide⟩
theorem pure_is_table {K : Frag} (vs : List V) (H : Hp) (Q : VK) (E : XK) (h : sp_is_table K vs H Q E) : t_is_table K { nx := fun _ H' => Q .non H', rt := Q } (start ["value", "fault"] vs) H := by
  obtain ⟨v, d, rfl, hd, hs, k⟩ := h
  cases hq : isSeqD d with
  | false =>
    have e0 : isTableD d = false := by unfold isTableD; rw [hq]; rfl
    rw [e0] at k
    refine q_when (ρ := exR) (et_or (b := true) (et_not (et_B (ev_B1 (F := isSeqD) (ev_var rfl) hd hs))) fun h1 => ?_) (fun hb H1 e => s_retV (ρ := exR) ev_c fun H2 e2 => k H2 (e.trans e2).ext) (fun hb H1 e => ?_)
    · rw [hq] at h1
      cases h1
    · rw [hq] at hb
      cases hb
  | true =>
  obtain ⟨a, xs, rfl, ha, hsq, hsq2⟩ := hd.seqd hq
  have hlen := ha.length
  have hl1000 : (itemsD d).length ≤ 1000 ∧ smAll (itemsD d) = true := by
    cases d with
    | list ds => exact sm_seq (.inl hs)
    | tuple ds => exact sm_seq (.inr hs)
    | _ => cases hq
  refine q_when (ρ := exR) (et_or (et_not (et_B (ev_B1 (F := isSeqD) (ev_var rfl) hd hs))) fun _ => et_test (ev_gt (ev_len (ev_var rfl) (hsq K)) ev_c)) (fun hb H1 e => s_retV (ρ := exR) ev_c fun H2 e2 => ?_) (fun hb H1 e => ?_)
  · have hz : ¬ (itemsD d).length ≤ 8 := by
      rw [hq] at hb
      have : decide (8 < (xs.length : Int)) = true := by simpa using hb
      have := of_decide_eq_true this
      omega
    have e0 : isTableD d = false := by unfold isTableD; rw [decide_eq_false hz, Bool.and_false]; rfl
    rw [e0] at k
    exact k H2 (e.trans e2).ext
  have hz : (itemsD d).length ≤ 8 := by
    rw [hq] at hb
    have : decide (8 < (xs.length : Int)) = false := by simpa using hb
    have := of_decide_eq_false this
    omega
  have sqs : (∀ H2, exR.r H1 H2 → SqL K H2 a xs) ∨ ∀ H2, exR.r H1 H2 → SqT K H2 a xs := hsq2.imp (fun f H2 e2 => f K H2 (e.trans e2)) fun f H2 e2 => f K H2 (e.trans e2)
  have hx1 : DSs exR H1 xs (itemsD d) := e.dss ha
  refine q_when (ρ := exR) (b := !(itemsD d).all isFaultD) ((et_not (et_B (ev_all (n := xs.length) (f := fun i => isFaultD ((itemsD d)[i]?.getD .none)) (ev_lcV own_ex (by omega) (ei_seq (ev_var rfl) (fun H2 e2 => hsq K H2 (e.trans e2)) sqs) (fun x => rfl) (fun i H2 x H3 y => y.1) ?_)))).to ?_) (fun hb2 H2 e2 => s_retV (ρ := exR) ev_c fun H3 e3 => ?_) (fun hb2 H2 e2 => ?_)
  · rintro i x H2 H3 hi r ⟨e3, hx⟩
    obtain ⟨d1, g1, g2⟩ := hx1.get hx
    refine (ev_B1 (F := isFaultD) (ev_var rfl) (r.ds g2) (smAll_mem hl1000.2 (List.mem_of_getElem? g1))).val ?_
    rw [g1]
    rfl
  · refine congrArg (fun b => !b) ?_
    rw [hlen]
    refine range_all _ _ _ fun i x hx => ?_
    rw [hx]
    rfl
  · have hz2 : (itemsD d).all isFaultD = false := by simpa using hb2
    have e0 : isTableD d = false := by unfold isTableD; rw [hz2, Bool.and_false]; rfl
    rw [e0] at k
    exact k H3 (e.trans (e2.trans e3)).ext
  have hz2 : (itemsD d).all isFaultD = true := by simpa using hb2
  have e0 : isTableD d = risingD ((itemsD d).map pairOf) := by unfold isTableD; rw [hq, decide_eq_true hz, hz2]; rfl
  rw [e0] at k
  have hmap : (List.range xs.length).map (fun i => pairOf ((itemsD d)[i]?.getD .none)) = (itemsD d).map pairOf := by
    refine List.ext_getElem? fun i => ?_
    rw [List.getElem?_map, List.getElem?_map]
    by_cases hi : i < xs.length
    · rw [List.getElem?_range hi]
      have hi' : i < (itemsD d).length := by omega
      rw [List.getElem?_eq_getElem hi']
      show some (pairOf ((itemsD d)[i]?.getD .none)) = some (pairOf (itemsD d)[i])
      rw [List.getElem?_eq_getElem hi']
      rfl
    · rw [List.getElem?_eq_none_iff.mpr (by rw [List.length_range]; omega), List.getElem?_eq_none_iff.mpr (by omega)] <;> rfl
  have r02 := e.trans e2
  have sqs2 : (∀ H3, exR.r H2 H3 → SqL K H3 a xs) ∨ ∀ H3, exR.r H2 H3 → SqT K H3 a xs := hsq2.imp (fun f H3 e3 => f K H3 (r02.trans e3)) fun f H3 e3 => f K H3 (r02.trans e3)
  have hx2 : DSs exR H2 xs (itemsD d) := r02.dss ha
  refine s_retV (ρ := exR) (ev_rising (ds := (itemsD d).map pairOf) ?_ (by rw [List.length_map]; omega) (ok_pairs hz2)) fun H3 e3 => k H3 (r02.trans e3).ext
  rw [← hmap]
  refine ev_lcD own_ex (by omega) (ei_seq (ev_var rfl) (fun H3 e3 => hsq K H3 (r02.trans e3)) sqs2) (fun x => rfl) (fun i H2 x H3 y => y.1) ?_
  rintro D H3 r3 hD i x H4 H5 hi r4 oD ⟨e5, hx⟩
  obtain ⟨d1, g1, g2⟩ := hx2.get hx
  obtain ⟨s, t, c, p1, _, _, _, _, _, p2⟩ := fault_parts (List.all_eq_true.mp hz2 d1 (List.mem_of_getElem? g1))
  have g3 : DS exR H4 x d1 := r4.ds (r3.ds g2)
  obtain ⟨b, ys, rfl, hb3, hb4, _⟩ := g3.seqd p2
  rw [p1] at hb3
  obtain ⟨y1, y2, y3, rfl, c1, c2, c3⟩ := hb3.three
  · rw [g1]
    show Ev exR _ _ H4 (fun y H6 => DS (exR.and D) H6 y (pairOf d1))
    rw [pair_fault p1]
    cases c1
    cases c2
    exact ev_pairD .and (ev_ix (n := 0) (ev_var rfl) ev_c (hb4 K) rfl rfl) (ev_ix (n := 1) (ev_var rfl) ev_c (hb4 K) rfl rfl) (.str s) (.str t)
end Slip
/-! the law's own helpers: the draws -/
namespace Slip
open PySem PySem.Spec PyProof.Rows L2
section
variable {ρ : Rl} {K : Frag} {σ : L2.St} {H H' : Hp} {ta tb tc te ti : TE} {t u : TT} {x y z v : V} {r : R2} {R : V → Hp → Prop} {Pa Pb : V → Prop} {a l p : Addr} {xs : List V} {D : Ends} {tz tu : TS} {n : Nat} {i j : Int}
/-- operands whose values are not known -/
theorem ev_opP (ha : Ev ρ ta σ H (fun v _ => Pa v)) (hb : Ev ρ tb σ H (fun v _ => Pb v)) (hr : ∀ x y, Pa x → Pb y → RV ρ r x y H R) : Ev ρ (tOp r ta tb) σ H R := fun H1 e Q q =>
  ha H1 e _ fun x H2 e2 px => hb H2 (e.trans e2) _ fun y H3 e3 py => hr x y px py H3 ((e.trans e2).trans e3) Q fun v H4 e4 rv => q v H4 ((e2.trans e3).trans e4) rv
theorem ev_P {P : V → Prop} (h : EvV ρ te σ H v) (p : P v) : Ev ρ te σ H (fun v' _ => P v') := h.imp fun _ _ _ e => by rw [e]; exact p
theorem ea_consP {tr : TA} {Pr : List V → Prop} (h : Ev ρ ta σ H (fun v _ => Pa v)) (hr : EvA ρ tr σ H (fun vs _ => Pr vs)) : EvA ρ (tCons ta tr) σ H (fun vs _ => ∃ x ws, vs = x :: ws ∧ Pa x ∧ Pr ws) := fun H1 e _ q =>
  h H1 e _ fun x H2 e2 px => hr H2 (e.trans e2) _ fun ws H3 e3 pw => q _ H3 (e2.trans e3) ⟨x, ws, rfl, px, pw⟩
/-- xs[i] of an unknown place -/
theorem ev_ixP (h1 : EvV ρ ta σ H (.ref a)) (h2 : Ev ρ tb σ H (fun v _ => ∃ m : Int, v = .int m ∧ 0 ≤ m ∧ m < (xs.length : Int))) (hs : ∀ H1, ρ.r H H1 → SqA K H1 a xs) : Ev ρ (tIxU K ta tb) σ H (fun v _ => ∃ m : Nat, xs[m]? = some v) :=
  fun H1 e1 Q q => .inl (ev_opP (Pa := fun v => v = .ref a) h1 h2 (fun x y ex ⟨m, ey, h0, h1⟩ H2 e2 Q q => by
    subst ex ey
    have hm : m.toNat < xs.length := by omega
    have g : xs[m.toNat]? = some xs[m.toNat] := List.getElem?_eq_getElem hm
    have g2 : atI xs m = some xs[m.toNat] := by
      have := atI_nat g
      rwa [show ((m.toNat : Nat) : Int) = m by omega] at this
    exact (hs H2 e2).elim (fun hs => .inl ⟨a, xs, m, _, rfl, rfl, hs, g2, q _ H2 .rfl ⟨_, g⟩⟩) fun hs => .inr (.inl ⟨a, xs, m, _, rfl, rfl, hs, g2, q _ H2 .rfl ⟨_, g⟩⟩)) H1 e1 Q q)
theorem ev_ixSP {s : Str} (h1 : EvV ρ ta σ H (.str s)) (hl : s.length ≤ 100000) (h2 : Ev ρ tb σ H (fun v _ => ∃ m : Int, v = .int m ∧ 0 ≤ m ∧ m < (s.length : Int))) : Ev ρ (tIxU K ta tb) σ H (fun v _ => ∃ c, v = .str ⟨#[c]⟩ ∧ c ∈ s.cps.toList) :=
  fun H1 e1 Q q => .inl (ev_opP (Pa := fun v => v = .str s) h1 h2 (fun x y ex ⟨m, ey, h0, h1⟩ H2 e2 Q q => by
    subst ex ey
    have hz : s.cps.toList.length = s.length := by simp [Str.length]
    have hm : m.toNat < s.cps.toList.length := by omega
    have g : s.cps.toList[m.toNat]? = some s.cps.toList[m.toNat] := List.getElem?_eq_getElem hm
    have g2 : atI s.cps.toList m = some s.cps.toList[m.toNat] := by
      have := atI_nat g
      rwa [show ((m.toNat : Nat) : Int) = m by omega] at this
    exact .inr (.inr ⟨s, m, _, rfl, rfl, Evl.sz_of hl, g2, q _ H2 .rfl ⟨_, rfl, List.getElem_mem hm⟩⟩)) H1 e1 Q q)
/-- xs.append(e) -/
theorem s_app (hl : H l = some (.lst xs)) (nS : ¬ ρ.S l) (ha : EvV ρ ta σ H (.ref l)) (h : Ev ρ te σ H R) (hz : xs.length < 100000) (k : ∀ y H1, ρ.r H H1 → R y H1 → H1 l = some (.lst xs) → D.nx σ (upd H1 l (.lst (xs ++ [y])))) :
    tDrop (tBM K "list" rAppend ta (tCons te tNil)) D σ H := ha H .rfl _ fun v H1 e1 ev => by
  subst ev
  exact ⟨Or.inl ⟨rfl, xs, .of (e1.keep _ _ nS hl)⟩, h H1 e1 _ fun y H2 e2 ry => ⟨l, xs, y, rfl, rfl, (e1.trans e2).keep _ _ nS hl, Evl.sz_lt hz, k y H2 (e1.trans e2) ry ((e1.trans e2).keep _ _ nS hl)⟩⟩
theorem q_app (hl : H l = some (.lst xs)) (nS : ¬ ρ.S l) (ha : EvV ρ ta σ H (.ref l)) (h : Ev ρ te σ H R) (hz : xs.length < 100000) (k : ∀ y H1, ρ.r H H1 → R y H1 → H1 l = some (.lst xs) → tz D σ (upd H1 l (.lst (xs ++ [y])))) :
    tSeq (tDrop (tBM K "list" rAppend ta (tCons te tNil))) tz D σ H := s_app (D := { D with nx := tz D }) hl nS ha h hz k
/-- xs[i] = e -/
theorem q_setL {m : Nat} (hl : ∀ H1, ρ.r H H1 → H1 l = some (.lst xs)) (h : Ev ρ te σ H R) (ho : EvV ρ ta σ H (.ref l)) (hi : EvV ρ ti σ H (.int (m : Int))) (hm : m < xs.length) (k : ∀ y H1, ρ.r H H1 → R y H1 → tz D σ (upd H1 l (.lst (xs.set m y)))) (hR : ∀ y H1 H2, ρ.r H1 H2 → R y H1 → R y H2) :
    tSeq (tAsg te (gSub ta ti (rSetU K))) tz D σ H := h H .rfl _ fun y H1 e1 ry => ho H1 e1 _ fun v H2 e2 ev => by
  subst ev
  exact hi H2 (e1.trans e2) _ fun w H3 e3 ew => by
    subst ew
    have e13 := (e1.trans e2).trans e3
    exact .inl ⟨l, xs, (m : Int), m, rfl, rfl, hl H3 e13, Evl.ixN_nat hm, k y H3 e13 (hR _ _ _ (e2.trans e3) ry)⟩
/-! ### walks over what is not known ahead -/
def EvIx (ρ : Rl) (wi : TI) (σ : L2.St) (H : Hp) (C : Nat → (Nat → Hp → V → Hp → Prop) → Prop) : Prop :=
  ∀ H1, ρ.r H H1 → ∀ R : It → Hp → Prop, (∀ n Y J H2, C n Y → ρ.r H1 H2 → Walk J n (fun H3 => ρ.r H2 H3) Y → R J H2) → wi σ H1 R
variable {wi : TI} {g : TG} {C : Nat → (Nat → Hp → V → Hp → Prop) → Prop}
theorem s_forx (h : EvIx ρ wi σ H C) (k : ∀ n Y H1, C n Y → ρ.r H H1 → ∃ Pv : Nat → L2.St → Hp → Prop, Pv 0 σ H1 ∧ (∀ i σ' H', i ≤ n → Pv i σ' H' → ρ.r H1 H') ∧
    (∀ i x σ' H' H'', i < n → Pv i σ' H' → Y i H' x H'' → g x σ' H'' fun σ2 H2 => tu { D with nx := Pv (i + 1), ct := Pv (i + 1), bk := D.nx } σ2 H2) ∧ ∀ σ' H', Pv n σ' H' → D.nx σ' H') : tFor wi g tu D σ H :=
  h H .rfl _ fun n Y J H1 c e w => by
    obtain ⟨Pv, h0, hr, hs, hd⟩ := k n Y H1 c e
    exact for_it w Pv h0 hr hs hd
theorem q_forx (h : EvIx ρ wi σ H C) (k : ∀ n Y H1, C n Y → ρ.r H H1 → ∃ Pv : Nat → L2.St → Hp → Prop, Pv 0 σ H1 ∧ (∀ i σ' H', i ≤ n → Pv i σ' H' → ρ.r H1 H') ∧
    (∀ i x σ' H' H'', i < n → Pv i σ' H' → Y i H' x H'' → g x σ' H'' fun σ2 H2 => tu { D with nx := Pv (i + 1), ct := Pv (i + 1), bk := tz D } σ2 H2) ∧ ∀ σ' H', Pv n σ' H' → tz D σ' H') : tSeq (tFor wi g tu) tz D σ H :=
  s_forx (D := { D with nx := tz D }) h k
theorem eix_rng {lim : Int} (h : Ev ρ te σ H (fun v _ => ∃ m : Int, v = .int m ∧ 0 ≤ m ∧ m < lim)) (hl : lim ≤ 1000000) : EvIx ρ (iRng1 (tCons te tNil)) σ H (fun n Y => (n : Int) < lim ∧ Y = YFn fun m => .int ((m : Nat) : Int)) := fun H1 e1 R k =>
  h H1 e1 _ fun v H2 e2 ⟨m, ev, h0, h1⟩ => ⟨m, by rw [ev], by omega, by omega, k m.toNat _ _ H2 ⟨by omega, rfl⟩ e2 (walk_range.mono (fun _ _ => trivial) fun i H3 x H4 _ _ y => ⟨y.1, by rw [y.2]; exact congrArg V.int (Int.zero_add _)⟩)⟩
/-- a new list of known things -/
theorem ei_new (h : Ev ρ te σ H (fun v H2 => ∃ p, v = .ref p ∧ ¬ ρ.S p ∧ H2 p = some (.lst xs))) : EvI ρ (iSeq K te) σ H xs.length (YAt xs) := fun H1 e1 R k =>
  .inl (h H1 e1 _ fun v H2 e2 ⟨p, ev, nS, hp⟩ => ⟨p, ev, ⟨xs, .of hp⟩, k _ H2 e2 (walk_list.mono (fun H3 e3 => .of (e3.keep _ _ nS hp)) fun _ _ _ _ _ _ y => y)⟩)
/-- xs[:n] of a list -/
theorem ev_slL {tl th : TO} {lo hi : Option Int} (own : Own ρ H) (h : EvV ρ te σ H (.ref a)) (h1 : EvO ρ tl σ H lo) (h2 : EvO ρ th σ H hi) (hs : ∀ H1, ρ.r H H1 → SqL K H1 a xs) : Ev ρ (tSl (rSlU K) te tl th) σ H (fun v H2 => ∃ p, v = .ref p ∧ ¬ ρ.S p ∧ H2 p = some (.lst (cutV xs lo hi))) := fun H0 e Q q =>
  h H0 e _ fun v H2 e2 ev => by
    subst ev
    refine h1 H2 (e.trans e2) _ fun H3 e3 => h2 H3 ((e.trans e2).trans e3) _ fun H4 e4 => ?_
    have e04 := ((e.trans e2).trans e3).trans e4
    exact .inl ⟨a, xs, rfl, hs H4 e04, fun p hp => q _ _ (((e2.trans e3).trans e4).trans (r_new _ hp)) ⟨p, rfl, (own.r e04).fresh hp, upd_same⟩⟩
end
/-! ### draws -/
/-- a row of numbers at ra, the place at sp -/
def Dr (K : Frag) (ra sp : Addr) (H : Hp) : Prop := (∃ ms : List Int, ms ≠ [] ∧ SqL K H ra (ms.map V.int)) ∧ Spot sp H ∧ ra ≠ sp
theorem Dr.r {ρ : Rl} {K : Frag} {ra sp : Addr} {H H' : Hp} (d : Dr K ra sp H) (e : ρ.r H H') (h1 : ¬ ρ.S ra) (h2 : ρ.S sp → ρ.P sp) : Dr K ra sp H' := by
  obtain ⟨⟨ms, hm, hq⟩, hs, ne⟩ := d
  refine ⟨⟨ms, hm, e.sqL h1 hq⟩, ?_, ne⟩
  by_cases z : ρ.S sp
  · exact e.spot sp (h2 z) hs
  · obtain ⟨k, h0, q⟩ := hs
    exact ⟨k, h0, e.keep _ _ z q⟩
theorem Dr.sp {K : Frag} {ra sp : Addr} {H H' : Hp} (d : Dr K ra sp H) (e : (spR sp).r H H') : Dr K ra sp H' := d.r e d.2.2 fun z => z
def sp__law_draw (K : Frag) : Sp := fun vs H Q _ => ∃ (ra : Addr) (k lim : Int), vs = [.ref ra, .int k, .int lim] ∧ (∃ ms : List Int, ms ≠ [] ∧ SqL K H ra (ms.map V.int)) ∧ 0 ≤ k ∧ 0 < lim ∧ ∀ n H', 0 ≤ n → n < lim → Ext H H' → Q (.int n) H'
def sp__law_take (K : Frag) : Sp := fun vs H Q _ => ∃ (ra sp : Addr) (lim : Int), vs = [.ref ra, .ref sp, .int lim] ∧ Dr K ra sp H ∧ 0 < lim ∧ ∀ n H', 0 ≤ n → n < lim → (spR sp).r H H' → Q (.int n) H'
theorem len__law_draw {K : Frag} {vs : List V} {H : Hp} {Q : VK} {E : XK} (h : sp__law_draw K vs H Q E) : vs.length = 3 := by
  obtain ⟨ra, k, lim, rfl, _⟩ := h
  rfl
theorem len__law_take {K : Frag} {vs : List V} {H : Hp} {Q : VK} {E : XK} (h : sp__law_take K vs H Q E) : vs.length = 3 := by
  obtain ⟨ra, k, lim, rfl, _⟩ := h
  rfl
/-- a drawn number -/
abbrev Below (lim : Int) (v : V) : Prop := ∃ n : Int, v = .int n ∧ 0 ≤ n ∧ n < lim
section
variable {ρ : Rl} {K : Frag} {σ : L2.St} {H : Hp} {ta tb tc : TE} {ra sp : Addr} {lim : Int}
theorem ev_take {E : XK} (h1 : EvV (spR sp) ta σ H (.ref ra)) (h2 : EvV (spR sp) tb σ H (.ref sp)) (h3 : EvV (spR sp) tc σ H (.int lim)) (d : Dr K ra sp H) (hl : 0 < lim) : Ev (spR sp) (tCall (sp__law_take K) [] E (tCons ta (tCons tb (tCons tc tNil)))) σ H (fun v _ => Below lim v) :=
  ev_call (ea_cons h1 (ea_cons h2 (ea_cons h3 ea_nil))) fun H1 e1 Q q E => ⟨ra, sp, lim, rfl, d.sp e1, hl, fun n H' h0 h1 e => q _ H' e ⟨n, rfl, h0, h1⟩⟩
end
def t__law_draw (K : Frag) : TS := (tSeq (tIfS (tTest (tOp (rCmp K gLt) (tVar 1) (tCB (rLenU K) (tCons (tVar 0) tNil)))) (tRet (tOp rModI (tCB rIntOf (tCons (tIxU K (tVar 0) (tVar 1)) tNil)) (tVar 2))) tNext) (tSeq (tAsg (tOp rModI (tCB rIntOf (tCons (tOp (rAddU K) (tOp (rAddU K) (tOp rMulI (tIxU K (tVar 0) (tOp rModI (tCB rIntOf (tCons (tVar 1) tNil)) (tCB (rLenU K) (tCons (tVar 0) tNil)))) (tC (.int 40692))) (tOp rMulI (tVar 1) (tC (.int 7919)))) (tC (.int 3))) tNil)) (tC (.int 2147483399))) (gName 3)) (tRet (tOp rModI (tCB rIntOf (tCons (tOp rModI (tCB rIntOf (tCons (tOp (rAddU K) (tOp rMulI (tVar 3) (tC (.int 48271))) (tVar 1)) tNil)) (tC (.int 2147483647))) tNil)) (tVar 2)))))
def t__law_take (K : Frag) : TS := (tSeq (tAsg (tOp (rAddU K) (tIxU K (tVar 1) (tC (.int 0))) (tC (.int 1))) (gSub (tVar 1) (tC (.int 0)) (rSetU K))) (tRet (tCall (sp__law_draw K) [] E0 (tCons (tVar 0) (tCons (tOp rSubI (tIxU K (tVar 1) (tC (.int 0))) (tC (.int 1))) (tCons (tVar 2) tNil))))))
theorem pure__law_draw {K : Frag} (vs : List V) (H : Hp) (Q : VK) (E : XK) (h : sp__law_draw K vs H Q E) : t__law_draw K { nx := fun _ H' => Q .non H', rt := Q } (start ["row", "at", "limit", "mixed"] vs) H := by
  obtain ⟨ra, k, lim, rfl, ⟨ms, hm, hq⟩, h0, hl, q⟩ := h
  have hlen : (ms.map V.int).length = ms.length := List.length_map _
  have hpos : 0 < ms.length := by
    cases ms with
    | nil => exact absurd rfl hm
    | cons _ _ => exact Nat.succ_pos _
  have sq : ∀ H1, exR.r H H1 → SqA K H1 ra (ms.map V.int) := fun H1 e => .inl (ext_sqL e.ext hq)
  refine q_when (ρ := exR) (et_test (ev_lt (ev_var rfl) (ev_len (ev_var rfl) sq))) (fun hb H1 e => ?_) (fun hb H1 e => ?_)
  · have hk : k < (ms.length : Int) := by
      have := of_decide_eq_true hb
      rwa [hlen] at this
    have sq1 : ∀ H2, exR.r H1 H2 → SqA K H2 ra (ms.map V.int) := fun H2 e2 => sq H2 (e.trans e2)
    have g : (ms.map V.int)[k.toNat]? = some (.int (ms[k.toNat]'(by omega))) := by
      rw [List.getElem?_map, List.getElem?_eq_getElem (by omega)] <;> rfl
    exact s_retV (ρ := exR) (ev_mod (ev_int (ev_ix (n := k.toNat) (ev_var rfl) (ev_var rfl) sq1 (by omega) g)) (ev_var rfl) hl) fun H2 e2 => q _ H2 (Int.emod_nonneg _ (by omega)) (Int.emod_lt_of_pos _ hl) (e.trans e2).ext
  · have sq1 : ∀ H2, exR.r H1 H2 → SqA K H2 ra (ms.map V.int) := fun H2 e2 => sq H2 (e.trans e2)
    have hn : (k % (ms.length : Int)).toNat < ms.length := by
      have h1 := Int.emod_lt_of_pos k (show (0 : Int) < ms.length by omega)
      have h2 := Int.emod_nonneg k (show (ms.length : Int) ≠ 0 by omega)
      omega
    have g : (ms.map V.int)[(k % (ms.length : Int)).toNat]? = some (.int (ms[(k % (ms.length : Int)).toNat]'hn)) := by
      rw [List.getElem?_map, List.getElem?_eq_getElem hn] <;> rfl
    refine q_asgV (ρ := exR) (ev_mod (ev_int (ev_add (ev_add (ev_mul (ev_ix (n := (k % (ms.length : Int)).toNat) (ev_var rfl) ((ev_mod (ev_int (ev_var rfl)) (ev_len (ev_var rfl) sq1) (by omega)).val (by rw [hlen])) sq1 (by have h2 := Int.emod_nonneg k (show (ms.length : Int) ≠ 0 by omega); omega) g) ev_c (.inr (by decide))) (ev_mul (ev_var rfl) ev_c (.inr (by decide)))) ev_c)) ev_c (by decide)) fun H2 e2 => ?_
    exact s_retV (ρ := exR) (ev_mod (ev_int (ev_mod (ev_int (ev_add (ev_mul (ev_var rfl) ev_c (.inr (by decide))) (ev_var rfl))) ev_c (by decide))) (ev_var rfl) hl) fun H3 e3 => q _ H3 (Int.emod_nonneg _ (by omega)) (Int.emod_lt_of_pos _ hl) (e.trans (e2.trans e3)).ext
theorem pure__law_take {K : Frag} (vs : List V) (H : Hp) (Q : VK) (E : XK) (h : sp__law_take K vs H Q E) : t__law_take K { nx := fun _ H' => Q .non H', rt := Q } (start ["row", "spot", "limit"] vs) H := by
  obtain ⟨ra, sp, lim, rfl, ⟨⟨ms, hm, hq⟩, ⟨k, h0, hs⟩, ne⟩, hl, q⟩ := h
  have hs0 : ∀ H1, exR.r H H1 → H1 sp = some (.lst [.int k]) := fun H1 e => e.ext _ _ hs
  refine q_setL (ρ := exR) (R := fun v _ => v = .int (k + 1)) (m := 0) hs0 (ev_add (ev_ix (n := 0) (ev_var rfl) ev_c (fun H1 e => .inl (.of (hs0 H1 e))) rfl rfl) ev_c) (ev_var rfl) ev_c (by show 0 < 1; decide) (fun y H1 e1 ey => ?_) (fun _ _ _ _ h => h)
  subst ey
  have ch : (spR sp).r H (upd H1 sp (.lst [.int (k + 1)])) := by
    have e := e1.ext
    refine ⟨fun a o n h => by rw [upd_ne n]; exact e a o h, fun a h => ?_, fun a xs h => ?_, fun a o u h => ?_, fun a p h => ?_⟩
    · by_cases z : a = sp
      · subst z; rw [upd_same] at h; cases h
      · rw [upd_ne z] at h; exact e1.back a h
    · rw [upd_ne (ne_of h hs (by intro z; cases z))]; exact e a _ h
    · rw [upd_ne (ne_of h hs (by intro z; cases z))]; exact e a _ h
    · subst p
      exact ⟨k + 1, by omega, upd_same⟩
  have hq2 : SqL K (upd H1 sp (.lst [.int (k + 1)])) ra (ms.map V.int) := ch.sqL ne hq
  have hs2 : ∀ H2, exR.r (upd H1 sp (.lst [.int (k + 1)])) H2 → SqA K H2 sp [.int (k + 1)] := fun H2 e => .inl (.of (e.ext _ _ upd_same))
  refine s_ret (ρ := exR) (R := fun v _ => Below lim v) (ev_call (ea_cons (ev_var rfl) (ea_cons (ev_sub (ev_ix (n := 0) (ev_var rfl) ev_c hs2 rfl rfl) ev_c) (ea_cons (ev_var rfl) ea_nil))) fun H2 e2 Q' q' E => ⟨ra, k + 1 - 1, lim, rfl, ⟨ms, hm, ext_sqL e2.ext hq2⟩, by omega, hl, fun n H' h0 h1 e => q' _ H' (Ext.r e) ⟨n, rfl, h0, h1⟩⟩) fun v H2 e2 ⟨n, ev, h0', h1'⟩ => ?_
  subst ev
  exact q n H2 h0' h1' (ch.trans (Ext.r e2.ext))
end Slip
/-! the law's own helpers: sameness, the numbers of the script -/
namespace Slip
open PySem PySem.Spec PyProof.Rows L2
/- found is wanted, kind by kind -/
mutual
def soD : PyData → PyData → Bool
  | f, .none => (match f with | .none => true | _ => false)
  | f, .tuple ws => (match f with | .tuple fs => soAll fs ws | _ => false)
  | f, .bool b => (match f with | .bool a => a == b | _ => false)
  | f, .int j => (match f with | .int i => decide (i = j) | _ => false)
  | f, .str t => (match f with | .str s => decide (s = t) | _ => false)
  | _, .list _ => false
  | _, .dict _ => false
def soAll : List PyData → List PyData → Bool
  | [], [] => true
  | f :: fs, w :: ws => soD f w && soAll fs ws
  | [], _ :: _ => false
  | _ :: _, [] => false
end
theorem soAll_len : ∀ {fs ws : List PyData}, soAll fs ws = true → fs.length = ws.length
  | [], [], _ => rfl
  | f :: fs, w :: ws, h => by
    have h' : soD f w = true ∧ soAll fs ws = true := by simpa [soAll] using h
    exact congrArg Nat.succ (soAll_len h'.2)
  | [], _ :: _, h => by cases h
  | _ :: _, [], h => by cases h
theorem soAll_of : ∀ {fs ws : List PyData}, fs.length = ws.length → (∀ (i : Nat) f w, fs[i]? = some f → ws[i]? = some w → soD f w = true) → soAll fs ws = true
  | [], [], _, _ => rfl
  | f :: fs, w :: ws, hl, h => by
    show (soD f w && soAll fs ws) = true
    rw [h 0 f w rfl rfl, soAll_of (by simpa using hl) fun i x y a b => h (i + 1) x y (by simpa using a) (by simpa using b)]
    rfl
  | [], _ :: _, hl, _ => by simp at hl
  | _ :: _, [], hl, _ => by simp at hl
theorem soAll_no : ∀ {fs ws : List PyData} {i : Nat} {f w : PyData}, fs[i]? = some f → ws[i]? = some w → soD f w = false → soAll fs ws = false
  | f :: fs, w :: ws, 0, x, y, a, b, h => by
    cases a
    cases b
    show (soD f w && soAll fs ws) = false
    rw [h, Bool.false_and]
  | f :: fs, w :: ws, i + 1, x, y, a, b, h => by
    show (soD f w && soAll fs ws) = false
    rw [soAll_no (by simpa using a) (by simpa using b) h, Bool.and_false]
  | [], _, i, x, y, a, _, _ => by simp at a
  | _ :: _, [], i, x, y, _, b, _ => by simp at b
theorem depth_mem : ∀ {ds : List PyData} {d : PyData}, d ∈ ds → d.depth ≤ PyData.depthAll ds
  | e :: ds, d, h => by
    show d.depth ≤ max e.depth (PyData.depthAll ds)
    rcases List.mem_cons.mp h with rfl | h
    · exact Nat.le_max_left _ _
    · exact Nat.le_trans (depth_mem h) (Nat.le_max_right _ _)
/- sizes that a range can walk -/
mutual
def smB : PyData → Bool
  | .tuple ds => decide (ds.length ≤ 100000000) && smBs ds
  | _ => true
def smBs : List PyData → Bool
  | [] => true
  | d :: ds => smB d && smBs ds
end
theorem smB_mem : ∀ {ds : List PyData} {d : PyData}, smBs ds = true → d ∈ ds → smB d = true
  | e :: ds, d, h, hm => by
    have h' : smB e = true ∧ smBs ds = true := by simpa [smBs] using h
    rcases List.mem_cons.mp hm with rfl | hm
    · exact h'.1
    · exact smB_mem h'.2 hm
theorem smB_of : ∀ {ds : List PyData}, (∀ d ∈ ds, smB d = true) → smBs ds = true
  | [], _ => rfl
  | e :: ds, h => by
    show (smB e && smBs ds) = true
    rw [h e (List.mem_cons_self ..), smB_of fun d hd => h d (List.mem_cons_of_mem _ hd)]
    rfl
mutual
theorem sm_B : ∀ (d : PyData), sm d = true → smB d = true
  | .tuple ds, h => by
    have z := sm_seq (.inr h)
    show (decide (ds.length ≤ 100000000) && smBs ds) = true
    rw [decide_eq_true (show ds.length ≤ 100000000 by have := z.1; omega), sms_B ds z.2]
    rfl
  | .none, _ => rfl
  | .bool _, _ => rfl
  | .int _, _ => rfl
  | .str _, _ => rfl
  | .list _, _ => rfl
  | .dict _, _ => rfl
theorem sms_B : ∀ (ds : List PyData), smAll ds = true → smBs ds = true
  | [], _ => rfl
  | d :: ds, h => by
    have h' : sm d = true ∧ smAll ds = true := by simpa [smAll] using h
    show (smB d && smBs ds) = true
    rw [sm_B d h'.1, sms_B ds h'.2]
    rfl
end
def Sm (w : PyData) : Prop := smB w = true
theorem sm_Sm {w : PyData} (h : sm w = true) : Sm w := sm_B w h
instance {w : PyData} : Coe (sm w = true) (Sm w) := ⟨sm_Sm⟩
def sp__law_so (K : Frag) (n : Nat) : Sp := fun vs H Q _ => ∃ x y f w, vs = [x, y] ∧ DS exR H x f ∧ DS exR H y w ∧ Sm w ∧ w.depth < n ∧ ∀ H', Ext H H' → Q (.bl (soD f w)) H'
theorem len__law_so {K : Frag} {n : Nat} {vs : List V} {H : Hp} {Q : VK} {E : XK} (h : sp__law_so K n vs H Q E) : vs.length = 2 := by
  obtain ⟨x, y, f, w, rfl, _⟩ := h
  rfl
section
variable {ρ : Rl} {K : Frag} {σ : L2.St} {H : Hp} {ta tb : TE} {x y : V} {f w : PyData} {n : Nat}
theorem ev_so {E : XK} (h1 : EvV ρ ta σ H x) (h2 : EvV ρ tb σ H y) (hf : DS ρ H x f) (hw : DS ρ H y w) (hs : Sm w) (hd : w.depth < n) : EvV ρ (tCall (sp__law_so K n) [] E (tCons ta (tCons tb tNil))) σ H (.bl (soD f w)) :=
  ev_call (ea_cons h1 (ea_cons h2 ea_nil)) fun H1 e1 Q q E => ⟨x, y, f, w, rfl, (e1.ds hf).ex, (e1.ds hw).ex, hs, hd, fun H' e => q _ H' (Ext.r e) rfl⟩
end
def t__law_so (K : Frag) (n : Nat) : TS := (tSeq (tIfS (tTest (tOp rIsN (tVar 1) (tC .non))) (tRet (tOp rIsN (tVar 0) (tC .non))) tNext) (tSeq (tIfS (tB (tCB (rIsiU K) (tCons (tVar 1) (tCons (tC (.ty "tuple")) tNil)))) (tSeq (tIfS (tOr (tNot (tB (tCB (rIsiU K) (tCons (tVar 0) (tCons (tC (.ty "tuple")) tNil))))) (tTest (tOp (rNeU K) (tCB (rLenU K) (tCons (tVar 0) tNil)) (tCB (rLenU K) (tCons (tVar 1) tNil))))) (tRet (tC (.bl false))) tNext) (tSeq (tFor (iRng1 (tCons (tCB (rLenU K) (tCons (tVar 1) tNil)) tNil)) (gName 2) (tIfS (tNot (tB (tCall (sp__law_so K n) [] E0 (tCons (tIxU K (tVar 0) (tVar 2)) (tCons (tIxU K (tVar 1) (tVar 2)) tNil))))) (tRet (tC (.bl false))) tNext)) (tRet (tC (.bl true))))) tNext) (tSeq (tIfS (tOr (tB (tCB (rIsiU K) (tCons (tVar 1) (tCons (tC (.ty "bool")) tNil)))) (tB (tCB (rIsiU K) (tCons (tVar 0) (tCons (tC (.ty "bool")) tNil))))) (tRet (tAndV (tCB (rIsiU K) (tCons (tVar 1) (tCons (tC (.ty "bool")) tNil))) (tAndV (tCB (rIsiU K) (tCons (tVar 0) (tCons (tC (.ty "bool")) tNil))) (tOp (rEqU K) (tVar 0) (tVar 1))))) tNext) (tSeq (tIfS (tB (tCB (rIsiU K) (tCons (tVar 1) (tCons (tC (.ty "int")) tNil)))) (tRet (tAndV (tCB (rIsiU K) (tCons (tVar 0) (tCons (tC (.ty "int")) tNil))) (tOp (rEqU K) (tVar 0) (tVar 1)))) tNext) (tRet (tAndV (tCB (rIsiU K) (tCons (tVar 1) (tCons (tC (.ty "str")) tNil))) (tAndV (tCB (rIsiU K) (tCons (tVar 0) (tCons (tC (.ty "str")) tNil))) (tOp (rEqU K) (tVar 0) (tVar 1)))))))))
theorem pure__law_so {K : Frag} {n : Nat} (vs : List V) (H : Hp) (Q : VK) (E : XK) (h : sp__law_so K (n + 1) vs H Q E) : t__law_so K n { nx := fun _ H' => Q .non H', rt := Q } (start ["found", "wanted", "k"] vs) H := by
  obtain ⟨x, y, f, w, rfl, hf, hw, hs, hd, k⟩ := h
  cases w with
  | none =>
    cases hw
    refine q_when (ρ := exR) (b := true) ((et_test (ev_isN (v := V.non) (ev_var rfl))).to (decide_eq_true rfl)) (fun hb H1 e => s_retV (ρ := exR) (ev_isN (ev_var rfl)) fun H2 e2 => ?_) (fun hb H1 e => by cases hb)
    have : decide (x = V.non) = soD f .none := by cases hf <;> rfl
    rw [this]
    exact k H2 (e.trans e2).ext
  | list ds =>
    have e0 : soD f (.list ds) = false := by cases f <;> rfl
    rw [e0] at k
    have ne : y ≠ V.non := by cases hw; intro z; cases z
    refine q_when (ρ := exR) (b := false) ((et_test (ev_isN (ev_var rfl))).to (decide_eq_false ne)) (fun hb H1 e => by cases hb) (fun hb H1 e => ?_)
    refine q_when (ρ := exR) (b := false) (et_B (ev_isi (ev_var rfl) (e.ds hw) rfl)) (fun hb H1 e => by cases hb) (fun hb H2 e2 => ?_)
    have e12 := e.trans e2
    refine q_when (ρ := exR) (et_or (et_B (ev_isi (ev_var rfl) (e12.ds hw) rfl)) fun _ => et_B (ev_isi (ev_var rfl) (e12.ds hf) rfl)) (fun hb H3 e3 => s_retV (ρ := exR) ((ev_andV (b := true) (ev_isi (ev_var rfl) ((e12.trans e3).ds hw) rfl) fun h => by cases h)) fun H4 e4 => k H4 (e12.trans (e3.trans e4)).ext) (fun hb H3 e3 => ?_)
    have e13 := e12.trans e3
    refine q_when (ρ := exR) (b := false) (et_B (ev_isi (ev_var rfl) (e13.ds hw) rfl)) (fun hb H1 e => by cases hb) (fun hb H4 e4 => ?_)
    have e14 := e13.trans e4
    exact s_retV (ρ := exR) ((ev_andV (b := true) (ev_isi (ev_var rfl) (e14.ds hw) rfl) fun h => by cases h)) fun H5 e5 => k H5 (e14.trans e5).ext
  | dict ds => cases hw
  | bool b =>
    cases hw
    refine q_when (ρ := exR) (b := false) ((et_test (ev_isN (ev_var rfl))).to (decide_eq_false (by intro z; cases z))) (fun hb H1 e => by cases hb) (fun hb H1 e => ?_)
    refine q_when (ρ := exR) (b := false) (et_B (ev_isi (ev_var rfl) (.bl b) rfl)) (fun hb H1 e => by cases hb) (fun hb H2 e2 => ?_)
    have e12 := e.trans e2
    refine q_when (ρ := exR) (b := true) (et_or (b := true) (et_B (ev_isi (ev_var rfl) (.bl b) rfl)) fun h => by cases h) (fun hb H3 e3 => ?_) (fun hb H1 e => by cases hb)
    have e13 := e12.trans e3
    have gf := e13.ds hf
    cases hq : isiB f "bool" with
    | true =>
      cases f with
      | bool a =>
        cases hf
        exact s_retV (ρ := exR) (ev_andV (ev_isi (ev_var rfl) (.bl b) rfl) fun _ => ev_andV (ev_isi (ev_var rfl) gf rfl) fun _ => ev_eqB (ev_var rfl) (ev_var rfl)) fun H4 e4 => k H4 (e13.trans e4).ext
      | _ => exact absurd hq (by show ¬ false = true; decide)
    | false =>
      have e0 : soD f (.bool b) = false := by
        cases f with
        | bool a => exact absurd hq (by show ¬ true = false; decide)
        | _ => rfl
      rw [e0] at k
      refine s_retV (ρ := exR) ((ev_andV (b := false) (ev_isi (ev_var rfl) (.bl b) rfl) fun _ => (ev_andV (b := false) (ev_isi (ev_var rfl) gf rfl) fun h => by rw [hq] at h; cases h).val (by rw [Bool.and_false])).val (x := .bl false) (by rw [Bool.and_false])) fun H4 e4 => k H4 (e13.trans e4).ext
  | int j =>
    cases hw
    refine q_when (ρ := exR) (b := false) ((et_test (ev_isN (ev_var rfl))).to (decide_eq_false (by intro z; cases z))) (fun hb H1 e => by cases hb) (fun hb H1 e => ?_)
    refine q_when (ρ := exR) (b := false) (et_B (ev_isi (ev_var rfl) (.int j) rfl)) (fun hb H1 e => by cases hb) (fun hb H2 e2 => ?_)
    have e12 := e.trans e2
    refine q_when (ρ := exR) (et_or (et_B (ev_isi (ev_var rfl) (.int j) rfl)) fun _ => et_B (ev_isi (ev_var rfl) (e12.ds hf) rfl)) (fun hb H3 e3 => ?_) (fun hb H3 e3 => ?_)
    · have e0 : soD f (.int j) = false := by
        cases f with
        | int a => exact absurd hb (by show ¬ (false || false) = true; decide)
        | _ => rfl
      rw [e0] at k
      exact s_retV (ρ := exR) ((ev_andV (b := true) (ev_isi (ev_var rfl) (.int j) rfl) fun h => by cases h)) fun H4 e4 => k H4 (e12.trans (e3.trans e4)).ext
    · have e13 := e12.trans e3
      refine q_when (ρ := exR) (b := true) (et_B (ev_isi (ev_var rfl) (.int j) rfl)) (fun _ H4 e4 => ?_) (fun hb H1 e => by cases hb)
      have e14 := e13.trans e4
      have gf := e14.ds hf
      cases f with
      | int i =>
        cases hf
        exact s_retV (ρ := exR) (ev_andV (ev_isi (ev_var rfl) gf rfl) fun _ => ev_eqI (ev_var rfl) (ev_var rfl)) fun H5 e5 => k H5 (e14.trans e5).ext
      | bool a => exact absurd hb (by show ¬ (false || true) = false; decide)
      | none => exact s_retV (ρ := exR) ((ev_andV (b := true) (ev_isi (ev_var rfl) gf rfl) fun h => by cases h)) fun H5 e5 => k H5 (e14.trans e5).ext
      | str s => exact s_retV (ρ := exR) ((ev_andV (b := true) (ev_isi (ev_var rfl) gf rfl) fun h => by cases h)) fun H5 e5 => k H5 (e14.trans e5).ext
      | list s => exact s_retV (ρ := exR) ((ev_andV (b := true) (ev_isi (ev_var rfl) gf rfl) fun h => by cases h)) fun H5 e5 => k H5 (e14.trans e5).ext
      | tuple s => exact s_retV (ρ := exR) ((ev_andV (b := true) (ev_isi (ev_var rfl) gf rfl) fun h => by cases h)) fun H5 e5 => k H5 (e14.trans e5).ext
      | dict s => cases hf
  | str t =>
    cases hw
    refine q_when (ρ := exR) (b := false) ((et_test (ev_isN (ev_var rfl))).to (decide_eq_false (by intro z; cases z))) (fun hb H1 e => by cases hb) (fun hb H1 e => ?_)
    refine q_when (ρ := exR) (b := false) (et_B (ev_isi (ev_var rfl) (.str t) rfl)) (fun hb H1 e => by cases hb) (fun hb H2 e2 => ?_)
    have e12 := e.trans e2
    refine q_when (ρ := exR) (et_or (et_B (ev_isi (ev_var rfl) (.str t) rfl)) fun _ => et_B (ev_isi (ev_var rfl) (e12.ds hf) rfl)) (fun hb H3 e3 => ?_) (fun hb H3 e3 => ?_)
    · have e0 : soD f (.str t) = false := by
        cases f with
        | str a => exact absurd hb (by show ¬ (false || false) = true; decide)
        | _ => rfl
      rw [e0] at k
      exact s_retV (ρ := exR) ((ev_andV (b := true) (ev_isi (ev_var rfl) (.str t) rfl) fun h => by cases h)) fun H4 e4 => k H4 (e12.trans (e3.trans e4)).ext
    · have e13 := e12.trans e3
      refine q_when (ρ := exR) (b := false) (et_B (ev_isi (ev_var rfl) (.str t) rfl)) (fun hb H1 e => by cases hb) (fun _ H4 e4 => ?_)
      have e14 := e13.trans e4
      have gf := e14.ds hf
      cases hq : isiB f "str" with
      | true =>
        obtain ⟨s, rfl, rfl⟩ := hf.inv_str hq
        exact s_retV (ρ := exR) (ev_andV (ev_isi (ev_var rfl) (.str t) rfl) fun _ => ev_andV (ev_isi (ev_var rfl) gf rfl) fun _ => ev_eqS (ev_var rfl) (ev_var rfl)) fun H5 e5 => k H5 (e14.trans e5).ext
      | false =>
        have e0 : soD f (.str t) = false := by
          cases f with
          | str a => exact absurd hq (by show ¬ true = false; decide)
          | _ => rfl
        rw [e0] at k
        refine s_retV (ρ := exR) ((ev_andV (b := false) (ev_isi (ev_var rfl) (.str t) rfl) fun _ => (ev_andV (b := false) (ev_isi (ev_var rfl) gf rfl) fun h => by rw [hq] at h; cases h).val (by rw [Bool.and_false])).val (x := .bl false) (by rw [Bool.and_false])) fun H5 e5 => k H5 (e14.trans e5).ext
  | tuple ws =>
    have ne : y ≠ V.non := by cases hw; intro z; cases z
    have hz : ws.length ≤ 100000000 ∧ smBs ws = true := by simpa [smB] using (show smB (.tuple ws) = true from hs)
    have hd' : PyData.depthAll ws < n := by
      have : PyData.depthAll ws + 1 < n + 1 := hd
      omega
    refine q_when (ρ := exR) (b := false) ((et_test (ev_isN (ev_var rfl))).to (decide_eq_false ne)) (fun hb H1 e => by cases hb) (fun hb H1 e => ?_)
    refine q_when (ρ := exR) (b := true) (et_B (ev_isi (ev_var rfl) (e.ds hw) rfl)) (fun hb H2 e2 => ?_) (fun hb H1 e => by cases hb)
    have e12 := e.trans e2
    have gf := e12.ds hf
    have gw := e12.ds hw
    obtain ⟨b, ys, rfl, hys, hsy, _⟩ := gw.seqd rfl
    have ly : ys.length = ws.length := hys.length
    cases hq : isiB f "tuple" with
    | false =>
      have e0 : soD f (.tuple ws) = false := by
        cases f with
        | tuple a => exact absurd hq (by show ¬ true = false; decide)
        | _ => rfl
      rw [e0] at k
      refine q_when (ρ := exR) (b := true) ((et_or (b := true) (et_not (et_B (ev_isi (ev_var rfl) gf rfl))) fun h => by rw [hq] at h; cases h).to (by rw [hq]; rfl)) (fun hb H3 e3 => s_retV (ρ := exR) ev_c fun H4 e4 => k H4 (e12.trans (e3.trans e4)).ext) (fun hb H1 e => by cases hb)
    | true =>
      obtain ⟨fs, rfl⟩ : ∃ fs, f = .tuple fs := by
        cases f with
        | tuple a => exact ⟨a, rfl⟩
        | _ => exact absurd hq (by show ¬ false = true; decide)
      obtain ⟨a, xs, rfl, hxs, hsx, _⟩ := gf.seqd rfl
      have lx : xs.length = fs.length := hxs.length
      refine q_when (ρ := exR) (b := !decide (fs.length = ws.length)) ((et_or (b := !decide (fs.length = ws.length)) (et_not (et_B (ev_isi (ev_var rfl) gf rfl))) fun _ => (et_test (ev_neI (ev_len (ev_var rfl) (hsx K)) (ev_len (ev_var rfl) (hsy K)))).to ?_).to (by rw [hq]; rfl)) (fun hb H3 e3 => s_retV (ρ := exR) ev_c fun H4 e4 => ?_) (fun hb H3 e3 => ?_)
      · rw [lx, ly]
        refine congrArg (fun b => !b) ?_
        by_cases z : fs.length = ws.length
        · rw [decide_eq_true z, decide_eq_true (by omega)]
        · rw [decide_eq_false z, decide_eq_false (by omega)]
      · have hne : ¬ fs.length = ws.length := of_decide_eq_false (notb hb)
        have e0 : soD (.tuple fs) (.tuple ws) = false := by
          show soAll fs ws = false
          cases q : soAll fs ws with
          | true => exact absurd (soAll_len q) hne
          | false => rfl
        rw [e0] at k
        exact k H4 (e12.trans (e3.trans e4)).ext
      · have hlen : fs.length = ws.length := of_decide_eq_true (notb' hb)
        have e13 := e12.trans e3
        have sy3 : ∀ H4, exR.r H3 H4 → SqA K H4 b ys := fun H4 e4 => hsy K H4 (e3.trans e4)
        have sx3 : ∀ H4, exR.r H3 H4 → SqA K H4 a xs := fun H4 e4 => hsx K H4 (e3.trans e4)
        have dx3 : DSs exR H3 xs fs := e3.dss hxs
        have dy3 : DSs exR H3 ys ws := e3.dss hys
        refine q_for (ρ := exR) (n := ys.length) (ei_rng (ea_cons (ev_len (ev_var rfl) sy3) ea_nil) (by omega) (by omega)) fun H4 e4 => ⟨fun i σ' H' => exR.r H4 H' ∧ (∃ kv, σ' = [some (.ref a), some (.ref b), kv]) ∧ ∀ (j : Nat) f w, j < i → fs[j]? = some f → ws[j]? = some w → soD f w = true, ⟨.rfl, ⟨_, rfl⟩, fun j _ _ h => absurd h (Nat.not_lt_zero j)⟩, fun i σ' H' _ p => p.1, ?_, ?_⟩
        · rintro i v σ' H' H'' hi ⟨r, ⟨kv, rfl⟩, hall⟩ ⟨e5, rfl⟩
          subst e5
          have e35 : exR.r H3 H'' := e4.trans r
          have gx : xs[i]? = some xs[i] := List.getElem?_eq_getElem (by omega)
          have gy : ys[i]? = some ys[i] := List.getElem?_eq_getElem hi
          obtain ⟨f1, f2, f3⟩ := dx3.get gx
          obtain ⟨w1, w2, w3⟩ := dy3.get gy
          have hm := List.mem_of_getElem? w2
          refine s_if (ρ := exR) (et_not (et_B (ev_so (ev_ix (n := i) (ev_var rfl) (ev_var rfl) (fun H6 e6 => sx3 H6 (e35.trans e6)) rfl gx) (ev_ix (n := i) (ev_var rfl) (ev_var rfl) (fun H6 e6 => sy3 H6 (e35.trans e6)) rfl gy) (e35.ds f3) (e35.ds w3) (smB_mem hz.2 hm) (Nat.lt_of_le_of_lt (depth_mem hm) hd')))) (fun hb H6 e6 => s_retV (ρ := exR) ev_c fun H7 e7 => ?_) (fun hb H6 e6 => ?_)
          · have e0 : soD (.tuple fs) (.tuple ws) = false := soAll_no f2 w2 (notb hb)
            rw [e0] at k
            exact k H7 (e13.trans (e35.trans (e6.trans e7))).ext
          · refine ⟨r.trans e6, ⟨_, rfl⟩, fun j f' w' hj a1 a2 => ?_⟩
            by_cases z : j = i
            · subst z
              rw [f2] at a1
              rw [w2] at a2
              cases a1
              cases a2
              exact notb' hb
            · exact hall j f' w' (by omega) a1 a2
        · rintro σ' H' ⟨r, ⟨kv, rfl⟩, hall⟩
          refine s_retV (ρ := exR) ev_c fun H6 e6 => ?_
          have e0 : soD (.tuple fs) (.tuple ws) = true := soAll_of hlen fun i f' w' a1 a2 => hall i f' w' (by have := (List.getElem?_eq_some_iff.mp a2).1; omega) a1 a2
          rw [e0] at k
          exact k H6 (e13.trans (e4.trans (r.trans e6))).ext
end Slip
/-! the law's own helpers: the numbers of the script; data handed as lists -/
namespace Slip
open PySem PySem.Spec PyProof.Rows L2
/-! ### a walk beside which the body changes more (ρw) than what is walked did (ρ) -/
def EvW (ρ ρw : Rl) (wi : TI) (σ : L2.St) (H : Hp) (n : Nat) (Y : Nat → Hp → V → Hp → Prop) : Prop :=
  ∀ H1, ρ.r H H1 → ∀ R : It → Hp → Prop, (∀ J H2, ρ.r H1 H2 → Walk J n (fun H3 => ρw.r H2 H3) Y → R J H2) → wi σ H1 R
section
variable {ρ ρw : Rl} {K : Frag} {σ : L2.St} {H H' : Hp} {te : TE} {a : Addr} {xs : List V} {D : Ends} {tz tu : TS} {n : Nat} {i : Int} {wi : TI} {g : TG} {Y : Nat → Hp → V → Hp → Prop}
theorem s_forw (h : EvW ρ ρw wi σ H n Y) (k : ∀ H1, ρ.r H H1 → ∃ Pv : Nat → L2.St → Hp → Prop, Pv 0 σ H1 ∧ (∀ i σ' H', i ≤ n → Pv i σ' H' → ρw.r H1 H') ∧
    (∀ i x σ' H' H'', i < n → Pv i σ' H' → Y i H' x H'' → g x σ' H'' fun σ2 H2 => tu { D with nx := Pv (i + 1), ct := Pv (i + 1), bk := D.nx } σ2 H2) ∧ ∀ σ' H', Pv n σ' H' → D.nx σ' H') : tFor wi g tu D σ H :=
  h H .rfl _ fun J H1 e w => by
    obtain ⟨Pv, h0, hr, hs, hd⟩ := k H1 e
    exact for_it w Pv h0 hr hs hd
theorem q_forw (h : EvW ρ ρw wi σ H n Y) (k : ∀ H1, ρ.r H H1 → ∃ Pv : Nat → L2.St → Hp → Prop, Pv 0 σ H1 ∧ (∀ i σ' H', i ≤ n → Pv i σ' H' → ρw.r H1 H') ∧
    (∀ i x σ' H' H'', i < n → Pv i σ' H' → Y i H' x H'' → g x σ' H'' fun σ2 H2 => tu { D with nx := Pv (i + 1), ct := Pv (i + 1), bk := tz D } σ2 H2) ∧ ∀ σ' H', Pv n σ' H' → tz D σ' H') : tSeq (tFor wi g tu) tz D σ H :=
  s_forw (D := { D with nx := tz D }) h k
theorem ew_new (own : Own ρw H) (h : Ev ρ te σ H (fun v H2 => ∃ p, v = .ref p ∧ ¬ ρ.S p ∧ H p = none ∧ H2 p = some (.lst xs))) : EvW ρ ρw (iSeq K te) σ H xs.length (YAt xs) := fun H1 e1 R k =>
  .inl (h H1 e1 _ fun v H2 e2 ⟨p, ev, nS, h0, hp⟩ => ⟨p, ev, ⟨xs, .of hp⟩, k _ H2 e2 (walk_list.mono (fun H3 e3 => .of (e3.keep _ _ (own.fresh h0) hp)) fun _ _ _ _ _ _ y => y)⟩)
theorem ew_rng {ts : TA} (h : EvAV ρ ts σ H [.int i]) (lo : -100000 ≤ i) (hi : i ≤ 100000000) : EvW ρ ρw (iRng1 ts) σ H i.toNat (YFn fun m => .int ((m : Nat) : Int)) := fun H1 e1 R k =>
  h H1 e1 _ fun v H2 e2 hv => ⟨i, hv, by omega, by omega, k _ H2 e2 (walk_range.mono (fun _ _ => trivial) fun m H3 x H4 _ _ y => ⟨y.1, by rw [y.2]; exact congrArg V.int (Int.zero_add _)⟩)⟩
theorem ev_slL2 {tl th : TO} {lo hi : Option Int} (own : Own ρ H) (h : EvV ρ te σ H (.ref a)) (h1 : EvO ρ tl σ H lo) (h2 : EvO ρ th σ H hi) (hs : ∀ H1, ρ.r H H1 → SqL K H1 a xs) : Ev ρ (tSl (rSlU K) te tl th) σ H (fun v H2 => ∃ p, v = .ref p ∧ ¬ ρ.S p ∧ H p = none ∧ H2 p = some (.lst (cutV xs lo hi))) := fun H0 e Q q =>
  h H0 e _ fun v H2 e2 ev => by
    subst ev
    refine h1 H2 (e.trans e2) _ fun H3 e3 => h2 H3 ((e.trans e2).trans e3) _ fun H4 e4 => ?_
    have e04 := ((e.trans e2).trans e3).trans e4
    exact .inl ⟨a, xs, rfl, hs H4 e04, fun p hp => q _ _ (((e2.trans e3).trans e4).trans (r_new _ hp)) ⟨p, rfl, (own.r e04).fresh hp, e04.back p hp, upd_same⟩⟩
end
def sp__law_numbers (K : Frag) : Sp := fun vs H Q _ => ∃ (a : Addr) (ns : List Int), vs = [.ref a] ∧ SqL K H a (ns.map V.int) ∧ ns.length ≤ 63 ∧ ∀ p (ms : List Int) H', H p = none → Ext H H' → H' p = some (.lst (ms.map V.int)) → ms ≠ [] → Q (.ref p) H'
theorem len__law_numbers {K : Frag} {vs : List V} {H : Hp} {Q : VK} {E : XK} (h : sp__law_numbers K vs H Q E) : vs.length = 1 := by
  obtain ⟨a, ns, rfl, _⟩ := h
  rfl
theorem cut_int {ns : List Int} {lo hi : Option Int} {i : Nat} {x : V} (h : (cutV (ns.map V.int) lo hi)[i]? = some x) : ∃ n, x = .int n := by
  have hm : x ∈ ns.map V.int := List.mem_of_mem_drop (List.mem_of_mem_take (List.mem_of_getElem? h))
  obtain ⟨n, _, e⟩ := List.mem_map.mp hm
  exact ⟨n, e.symm⟩
theorem map_snoc (ms : List Int) (n : Int) : ms.map V.int ++ [V.int n] = (ms ++ [n]).map V.int := by rw [List.map_append] <;> rfl
def t__law_numbers (K : Frag) : TS := (tSeq (tAsg (tLst tNil) (gName 1)) (tSeq (tFor (iSeq K (tSl (rSlU K) (tVar 0) tNoPart (tPart (tC (.int 63))))) (gName 2) (tIfS (tTest (tOp (rCmp K gGe) (tVar 2) (tOp rPowI (tC (.int 10)) (tC (.int 18))))) (tSeq (tAsg (tVar 2) (gName 3)) (tFor (iRng1 (tCons (tC (.int 60)) tNil)) (gName 4) (tSeq (tIfS (tTest (tOp (rEqU K) (tVar 3) (tC (.int 0)))) tBreak tNext) (tSeq (tDrop (tBM K "list" rAppend (tVar 1) (tCons (tOp rModI (tCB rIntOf (tCons (tVar 3) tNil)) (tC (.int 997))) tNil))) (tAsg (tOp rFdivI (tVar 3) (tC (.int 997))) (gName 3)))))) (tFor (iRng1 (tCons (tC (.int 4)) tNil)) (gName 4) (tSeq (tAsg (tOp rModI (tCB rIntOf (tCons (tOp (rAddU K) (tOp (rAddU K) (tOp rMulI (tVar 2) (tC (.int 48271))) (tOp rMulI (tVar 4) (tC (.int 69621)))) (tC (.int 11))) tNil)) (tC (.int 2147483647))) (gName 5)) (tDrop (tBM K "list" rAppend (tVar 1) (tCons (tOp rModI (tCB rIntOf (tCons (tOp (rAddU K) (tOp rMulI (tVar 5) (tC (.int 16807))) (tVar 4)) tNil)) (tC (.int 2147483629))) tNil))))))) (tSeq (tIfS (tTest (tOp (rEqU K) (tCB (rLenU K) (tCons (tVar 1) tNil)) (tC (.int 0)))) (tDrop (tBM K "list" rAppend (tVar 1) (tCons (tC (.int 0)) tNil))) tNext) (tRet (tVar 1)))))
theorem pure__law_numbers {K : Frag} (vs : List V) (H : Hp) (Q : VK) (E : XK) (h : sp__law_numbers K vs H Q E) : t__law_numbers K { nx := fun _ H' => Q .non H', rt := Q } (start ["script", "row", "cell", "left", "k", "mixed"] vs) H := by
  obtain ⟨a, ns, rfl, hq, hl, q⟩ := h
  refine q_asg (ρ := exR) (ev_lst ea_nil fun vs H1 _ e => by rw [e]; show 0 ≤ 100000; decide) fun v H1 e1 ⟨p, vs, H0, ev, evs, hp, r0, eH⟩ => ?_
  subst ev evs
  have hp0 : H p = none := r0.back p hp
  have hp1 : H1 p = some (.lst (([] : List Int).map V.int)) := by rw [eH]; exact upd_same
  have sq1 : ∀ H2, exR.r H1 H2 → SqL K H2 a (ns.map V.int) := fun H2 e2 => ext_sqL (e1.trans e2).ext hq
  have own1 : Own (exR.and p) H1 := own_ex.and (ρ := exR) (H := H) e1 (by rw [hp1]; exact Option.some_ne_none _)
  have hcut : (cutV (ns.map V.int) none (some 63)).length ≤ 63 := Nat.le_trans (cutV_length _ _ _) (by rw [List.length_map]; exact hl)
  have chg : ∀ {H2 H3 : Hp} {ms : List Int} {n : Int}, (exR.and p).r H2 H3 → H3 p = some (.lst (ms.map V.int)) → (exR.and p).r H2 (upd H3 p (.lst (ms.map V.int ++ [V.int n]))) := fun e h => e.trans (r_chg (ρ := exR) h fun z => z)
  refine q_forw (ρ := exR) (ρw := exR.and p) (ew_new own1 (ev_slL2 own_ex (ev_var rfl) eo_none (eo_some ev_c) sq1)) fun H2 e2 => ⟨fun i σ' H' => (exR.and p).r H2 H' ∧ (∃ c l k m, σ' = [some (.ref a), some (.ref p), c, l, k, m]) ∧ ∃ ms : List Int, ms.length ≤ 60 * i ∧ H' p = some (.lst (ms.map V.int)), ⟨.rfl, ⟨_, _, _, _, rfl⟩, [], Nat.zero_le _, e2.ext _ _ hp1⟩, fun i σ' H' _ h => h.1, ?_, ?_⟩
  · rintro i x σ' H' H'' hi ⟨r, ⟨c, l, k, m, rfl⟩, ms, hms, hp'⟩ ⟨e5, hx⟩
    subst e5
    obtain ⟨n, rfl⟩ := cut_int hx
    refine s_if (ρ := exR) (et_test (ev_ge (ev_var rfl) (ev_pow ev_c ev_c ⟨by decide, by decide, by decide⟩))) (fun hb H3 e3 => ?_) (fun hb H3 e3 => ?_)
    · refine q_asgV (ρ := exR) (ev_var rfl) fun H4 e4 => ?_
      have r4 : (exR.and p).r H2 H4 := r.trans (and_of (e3.trans e4))
      have hp4 : H4 p = some (.lst (ms.map V.int)) := (e3.trans e4).ext _ _ hp'
      refine s_forw (ρ := exR) (ρw := exR.and p) (ew_rng (i := 60) (ea_cons ev_c ea_nil) (by omega) (by omega)) fun H5 e5 => ⟨fun j σ' H' => (exR.and p).r H5 H' ∧ (∃ c l k m, σ' = [some (.ref a), some (.ref p), c, some (.int l), k, m]) ∧ ∃ ms : List Int, ms.length ≤ 60 * i + j ∧ H' p = some (.lst (ms.map V.int)), ⟨.rfl, ⟨_, _, _, _, rfl⟩, ms, hms, e5.ext _ _ hp4⟩, fun i σ' H' _ h => h.1, ?_, ?_⟩
      · rintro j x σ' H' H'' hj ⟨r5, ⟨c, l, k, m, rfl⟩, ms, hms, hp'⟩ ⟨e6, rfl⟩
        subst e6
        have hj' : j < 60 := hj
        have r25 : (exR.and p).r H2 H'' := r4.trans ((and_of e5).trans r5)
        refine q_when (ρ := exR) (et_test (ev_eqI (ev_var rfl) ev_c)) (fun hb H6 e6 => ?_) (fun hb H6 e6 => ?_)
        · exact ⟨r25.trans (and_of e6), ⟨_, _, _, _, rfl⟩, ms, by omega, e6.ext _ _ hp'⟩
        · refine q_app (ρ := exR) (e6.ext _ _ hp') (fun z => z) (ev_var rfl) (ev_mod (ev_int (ev_var rfl)) ev_c (by decide)) (by rw [List.length_map]; omega) fun y H7 e7 ey hp7 => ?_
          subst ey
          have r7 := chg (n := l % 997) (r5.trans (and_of (e6.trans e7))) hp7
          refine s_asgV (ρ := exR) (ev_fdiv (ev_var rfl) ev_c ⟨by decide, by decide⟩) fun H8 e8 => ?_
          refine ⟨r7.trans (and_of e8), ⟨_, _, _, _, rfl⟩, ms ++ [l % 997], by rw [List.length_append, List.length_singleton]; omega, e8.ext _ _ ?_⟩
          rw [← map_snoc]
          exact upd_same
      · rintro σ' H' ⟨r5, ⟨c, l, k, m, rfl⟩, ms, hms, hp'⟩
        exact ⟨r4.trans ((and_of e5).trans r5), ⟨_, _, _, _, rfl⟩, ms, by have : ms.length ≤ 60 * i + 60 := hms; omega, hp'⟩
    · have r4 : (exR.and p).r H2 H3 := r.trans (and_of e3)
      have hp4 : H3 p = some (.lst (ms.map V.int)) := e3.ext _ _ hp'
      refine s_forw (ρ := exR) (ρw := exR.and p) (ew_rng (i := 4) (ea_cons ev_c ea_nil) (by omega) (by omega)) fun H5 e5 => ⟨fun j σ' H' => (exR.and p).r H5 H' ∧ (∃ l k m, σ' = [some (.ref a), some (.ref p), some (.int n), l, k, m]) ∧ ∃ ms : List Int, ms.length ≤ 60 * i + j ∧ H' p = some (.lst (ms.map V.int)), ⟨.rfl, ⟨_, _, _, rfl⟩, ms, hms, e5.ext _ _ hp4⟩, fun i σ' H' _ h => h.1, ?_, ?_⟩
      · rintro j x σ' H' H'' hj ⟨r5, ⟨l, k, m, rfl⟩, ms, hms, hp'⟩ ⟨e6, rfl⟩
        subst e6
        have hj' : j < 4 := hj
        refine q_asgV (ρ := exR) (ev_mod (ev_int (ev_add (ev_add (ev_mul (ev_var rfl) ev_c (.inr (by decide))) (ev_mul (ev_var rfl) ev_c (.inr (by decide)))) ev_c)) ev_c (by decide)) fun H6 e6 => ?_
        refine s_app (ρ := exR) (e6.ext _ _ hp') (fun z => z) (ev_var rfl) (ev_mod (ev_int (ev_add (ev_mul (ev_var rfl) ev_c (.inr (by decide))) (ev_var rfl))) ev_c (by decide)) (by rw [List.length_map]; omega) fun y H7 e7 ey hp7 => ?_
        subst ey
        refine ⟨chg (r5.trans (and_of (e6.trans e7))) hp7, ⟨_, _, _, rfl⟩, ms ++ [((n * 48271 + (j : Int) * 69621 + 11) % 2147483647 * 16807 + (j : Int)) % 2147483629], ?_, ?_⟩
        · rw [List.length_append, List.length_singleton]; omega
        · rw [← map_snoc]
          exact upd_same
      · rintro σ' H' ⟨r5, ⟨l, k, m, rfl⟩, ms, hms, hp'⟩
        exact ⟨r4.trans ((and_of e5).trans r5), ⟨_, _, _, _, rfl⟩, ms, by have : ms.length ≤ 60 * i + 4 := hms; omega, hp'⟩
  · rintro σ' H' ⟨r, ⟨c, l, k, m, rfl⟩, ms, hms, hp'⟩
    have rH : exR.r H H' := (e1.trans e2).trans .rfl |> fun e => r_and e hp0 r
    refine q_when (ρ := exR) (et_test (ev_eqI (ev_len (ev_var rfl) (fun H3 e3 => .inl (.of (e3.ext _ _ hp')))) ev_c)) (fun hb H3 e3 => ?_) (fun hb H3 e3 => ?_)
    · refine s_app (ρ := exR) (e3.ext _ _ hp') (fun z => z) (ev_var rfl) ev_c (by rw [List.length_map]; omega) fun y H4 e4 ey hp4 => ?_
      subst ey
      refine s_retV (ρ := exR) (ev_var rfl) fun H5 e5 => ?_
      refine q p (ms ++ [0]) H5 hp0 ((r_mut (rH.trans (e3.trans e4)) hp0).trans e5).ext (e5.ext _ _ ?_) (by simp)
      rw [← map_snoc]
      exact upd_same
    · refine s_retV (ρ := exR) (ev_var rfl) fun H5 e5 => q p ms H5 hp0 (rH.trans (e3.trans e5)).ext ((e3.trans e5).ext _ _ hp') ?_
      intro z
      have := of_decide_eq_false hb
      rw [z] at this
      exact this rfl
end Slip
/-! data handed as lists, as tuples, as both; drawn texts -/
namespace Slip
open PySem PySem.Spec PyProof.Rows L2
/-- a list of data, each known by its place (P); the facts stand under ρf, which lets more change than the elements do -/
theorem ev_lcF {ρ ρf : Rl} {σ : L2.St} {H : Hp} {te : TE} {wi : TI} {vs : List Nat} {n : Nat} {Y : Nat → Hp → V → Hp → Prop} {j : Nat} {P : Nat → PyData → Prop} (own : Own ρ H) (hn : n ≤ 90000) (hI : EvI ρ wi σ H n Y) (hw : ∀ x, wipe ((wipe σ vs).set j (some x)) vs = wipe σ vs)
    (hY : ∀ i H2 x H3, Y i H2 x H3 → H3 = H2)
    (he : ∀ D H1, ρ.r H H1 → H1 D = none → ∀ i x H2 H3, i < n → ρ.r H1 H2 → H2 D ≠ none → Y i H2 x H3 → Ev ρ te ((wipe σ vs).set j (some x)) H2 (fun y H4 => ∃ d, P i d ∧ DS (ρf.and D) H4 y d))
    (le : Le ρ ρf) :
    Ev ρ (tLc wi (gName j) tYes te vs) σ H (fun u H2 => ∃ p xs ds, u = .ref p ∧ ¬ ρ.S p ∧ H p = none ∧ H2 p = some (.lst xs) ∧ DSs ρf H2 xs ds ∧ ds.length = n ∧ ∀ (i : Nat) d, ds[i]? = some d → P i d) := by
  refine (ev_lc (R := fun ρ' i x H' => ∃ d, P i d ∧ Dq (fun a => ¬ ρf.S a ∧ ¬ ρ'.S a) H' x d) (C := fun _ b => b = true) own hn hI (fun ρ' _ _ H1 H2 r ⟨d, hp, h⟩ => ⟨d, hp, h.move (fun a _ n q => ⟨n, r.keep a _ n.2 q⟩) r.tup⟩) (fun D _ _ _ ⟨d, hp, h⟩ => ⟨d, hp, h.move (fun a _ n q => ⟨⟨n.1, fun z => n.2 (.inl z)⟩, q⟩) fun _ _ q => q⟩) ?_).imp ?_
  · intro D H1 r1 hD i x H2 H3 hi r2 oD y cont hc
    have e3 := hY i H2 x H3 y
    refine hc _ H3 (hw x) (by rw [e3]; exact .rfl) fun H5 r5 Q q => q true H5 .rfl rfl fun _ => ?_
    refine ((he D H1 r1 hD i x H2 H3 hi r2 (oD D (.inr rfl)) y).mono (by rw [← e3]; exact r5)).imp fun v H6 _ ⟨d, hp, h⟩ => ⟨d, hp, h.move (fun a _ n q => ⟨⟨fun z => n (.inl z), fun z => z.elim (fun z => n (.inl (le a z))) fun z => n (.inr z)⟩, q⟩) fun _ _ q => q⟩
  · rintro u H2 r ⟨p, xs, f, e, nS, hp, hx, hC, hit⟩
    rw [kept_all hC] at hit
    have hlen : xs.length = n := by rw [hit.1, List.length_range]
    -- the data, chosen place by place
    have ch : ∀ m, ∃ d, ∀ x, xs[m]? = some x → P m d ∧ DS ρf H2 x d := fun m => by
      cases a : xs[m]? with
      | none => exact ⟨.none, fun x z => by cases z⟩
      | some x =>
        have hm : m < n := by rw [← hlen]; exact (List.getElem?_eq_some_iff.mp a).1
        obtain ⟨d, hp, h⟩ := hit.2 m x m a (List.getElem?_range hm)
        exact ⟨d, fun y z => by cases z; exact ⟨hp, h.move (fun a _ n q => ⟨n.1, q⟩) fun _ _ q => q⟩⟩
    refine ⟨p, xs, (List.range n).map fun m => (ch m).choose, e, nS, hp, hx, .of (by rw [hlen, List.length_map, List.length_range]) fun m x d a b => ?_, by rw [List.length_map, List.length_range], fun i d b => ?_⟩
    · have hm : m < n := by rw [← hlen]; exact (List.getElem?_eq_some_iff.mp a).1
      rw [List.getElem?_map, List.getElem?_range hm] at b
      cases b
      exact ((ch m).choose_spec x a).2
    · have hi : i < n := by
        have := (List.getElem?_eq_some_iff.mp b).1
        rwa [List.length_map, List.length_range] at this
      rw [List.getElem?_map, List.getElem?_range hi] at b
      cases b
      have hx' : xs[i]? = some (xs[i]'(by omega)) := List.getElem?_eq_getElem (by omega)
      exact ((ch i).choose_spec _ hx').1
/- tuples as lists; all as tuples -/
mutual
def listD : PyData → PyData
  | .tuple ds => .list (listAll ds)
  | .none => .none
  | .bool b => .bool b
  | .int i => .int i
  | .str s => .str s
  | .list ds => .list ds
  | .dict k => .dict k
def listAll : List PyData → List PyData
  | [] => []
  | d :: ds => listD d :: listAll ds
end
mutual
def tupD : PyData → PyData
  | .tuple ds => .tuple (tupAll ds)
  | .list ds => .tuple (tupAll ds)
  | .none => .none
  | .bool b => .bool b
  | .int i => .int i
  | .str s => .str s
  | .dict k => .dict k
def tupAll : List PyData → List PyData
  | [] => []
  | d :: ds => tupD d :: tupAll ds
end
theorem listAll_map : ∀ ds : List PyData, listAll ds = ds.map listD
  | [] => rfl
  | d :: ds => by show listD d :: listAll ds = listD d :: ds.map listD; rw [listAll_map ds]
theorem tupAll_map : ∀ ds : List PyData, tupAll ds = ds.map tupD
  | [] => rfl
  | d :: ds => by show tupD d :: tupAll ds = tupD d :: ds.map tupD; rw [tupAll_map ds]
mutual
theorem noList_tup : ∀ d : PyData, noList (tupD d) = true
  | .tuple ds => noLists_tup ds
  | .list ds => noLists_tup ds
  | .none => rfl
  | .bool b => rfl
  | .int i => rfl
  | .str s => rfl
  | .dict k => rfl
theorem noLists_tup : ∀ ds : List PyData, noLists (tupAll ds) = true
  | [] => rfl
  | d :: ds => by
    show (noList (tupD d) && noLists (tupAll ds)) = true
    rw [noList_tup d, noLists_tup ds]
    rfl
end
mutual
theorem tup_self : ∀ d : PyData, noList d = true → tupD d = d
  | .tuple ds, h => congrArg PyData.tuple (tups_self ds (by simpa [noList] using h))
  | .list ds, h => by cases h
  | .none, _ => rfl
  | .bool b, _ => rfl
  | .int i, _ => rfl
  | .str s, _ => rfl
  | .dict k, _ => rfl
theorem tups_self : ∀ ds : List PyData, noLists ds = true → tupAll ds = ds
  | [], _ => rfl
  | d :: ds, h => by
    have h' : noList d = true ∧ noLists ds = true := by simpa [noLists] using h
    show tupD d :: tupAll ds = d :: ds
    rw [tup_self d h'.1, tups_self ds h'.2]
end
mutual
theorem tup_list : ∀ d : PyData, noList d = true → tupD (listD d) = d
  | .tuple ds, h => congrArg PyData.tuple (tups_list ds (by simpa [noList] using h))
  | .list ds, h => by cases h
  | .none, _ => rfl
  | .bool b, _ => rfl
  | .int i, _ => rfl
  | .str s, _ => rfl
  | .dict k, _ => rfl
theorem tups_list : ∀ ds : List PyData, noLists ds = true → tupAll (listAll ds) = ds
  | [], _ => rfl
  | d :: ds, h => by
    have h' : noList d = true ∧ noLists ds = true := by simpa [noLists] using h
    show tupD (listD d) :: tupAll (listAll ds) = d :: ds
    rw [tup_list d h'.1, tups_list ds h'.2]
end
mutual
theorem sm_tup : ∀ d : PyData, sm (tupD d) = sm d
  | .tuple ds => by
    have := sms_tup ds
    show (decide ((tupAll ds).length ≤ 1000) && smAll (tupAll ds)) = (decide (ds.length ≤ 1000) && smAll ds)
    rw [this, tupAll_map, List.length_map]
  | .list ds => by
    have := sms_tup ds
    show (decide ((tupAll ds).length ≤ 1000) && smAll (tupAll ds)) = (decide (ds.length ≤ 1000) && smAll ds)
    rw [this, tupAll_map, List.length_map]
  | .none => rfl
  | .bool b => rfl
  | .int i => rfl
  | .str s => rfl
  | .dict k => rfl
theorem sms_tup : ∀ ds : List PyData, smAll (tupAll ds) = smAll ds
  | [] => rfl
  | d :: ds => by
    show (sm (tupD d) && smAll (tupAll ds)) = (sm d && smAll ds)
    rw [sm_tup d, sms_tup ds]
end
mutual
theorem dep_tup : ∀ d : PyData, (tupD d).depth = d.depth
  | .tuple ds => congrArg Nat.succ (deps_tup ds)
  | .list ds => congrArg Nat.succ (deps_tup ds)
  | .none => rfl
  | .bool b => rfl
  | .int i => rfl
  | .str s => rfl
  | .dict k => rfl
theorem deps_tup : ∀ ds : List PyData, PyData.depthAll (tupAll ds) = PyData.depthAll ds
  | [] => rfl
  | d :: ds => by
    show max (tupD d).depth (PyData.depthAll (tupAll ds)) = max d.depth (PyData.depthAll ds)
    rw [dep_tup d, deps_tup ds]
end
theorem of_places {α β : Type} {ds : List α} {es : List β} {f : α → β} (hl : es.length = ds.length) (h : ∀ (i : Nat) e, es[i]? = some e → ∃ d, ds[i]? = some d ∧ e = f d) : es = ds.map f := by
  refine List.ext_getElem? fun i => ?_
  rw [List.getElem?_map]
  cases a : es[i]? with
  | none => rw [List.getElem?_eq_none_iff.mpr (by rw [← hl]; exact List.getElem?_eq_none_iff.mp a)] <;> rfl
  | some e =>
    obtain ⟨d, h1, h2⟩ := h i e a
    rw [h1, h2] <;> rfl
def sp__law_listed (K : Frag) (n : Nat) : Sp := fun vs H Q _ => ∃ (ρ : Rl) (v : V) (d : PyData), vs = [v] ∧ Own ρ H ∧ DS ρ H v d ∧ sm d = true ∧ d.depth < n ∧ ∀ v' H', Ext H H' → DS ρ H' v' (listD d) → Q v' H'
def sp__law_tupled (K : Frag) (n : Nat) : Sp := fun vs H Q _ => ∃ (v : V) (d : PyData), vs = [v] ∧ DS exR H v d ∧ sm d = true ∧ d.depth < n ∧ ∀ v' H', Ext H H' → (∀ ρ, DS ρ H' v' (tupD d)) → Q v' H'
theorem len__law_listed {K : Frag} {n : Nat} {vs : List V} {H : Hp} {Q : VK} {E : XK} (h : sp__law_listed K n vs H Q E) : vs.length = 1 := by
  obtain ⟨ρ, v, d, rfl, _⟩ := h
  rfl
theorem len__law_tupled {K : Frag} {n : Nat} {vs : List V} {H : Hp} {Q : VK} {E : XK} (h : sp__law_tupled K n vs H Q E) : vs.length = 1 := by
  obtain ⟨v, d, rfl, _⟩ := h
  rfl
theorem isi_tup {d : PyData} (h : isiB d "tuple" = true) : ∃ ds, d = .tuple ds := by
  cases d with
  | tuple a => exact ⟨a, rfl⟩
  | none => exact absurd h (by show ¬ false = true; decide)
  | bool b => exact absurd h (by show ¬ false = true; decide)
  | int b => exact absurd h (by show ¬ false = true; decide)
  | str b => exact absurd h (by show ¬ false = true; decide)
  | list b => exact absurd h (by show ¬ false = true; decide)
  | dict b => exact absurd h (by show ¬ false = true; decide)
theorem depth_seq {ds : List PyData} {n : Nat} (h : (PyData.tuple ds).depth < n + 1 ∨ (PyData.list ds).depth < n + 1) {d : PyData} (hm : d ∈ ds) : d.depth < n := by
  have h1 : PyData.depthAll ds + 1 < n + 1 := h.elim (fun h => h) fun h => h
  have := depth_mem hm
  omega
theorem DS.tupl {ρ : Rl} {H : Hp} {v : V} {ds : List PyData} (h : DS ρ H v (.tuple ds)) : ∃ a xs, v = .ref a ∧ DSs ρ H xs ds ∧ H a = some (.tup xs) ∧ ∀ (K : Frag) (ρ' : Rl) (H' : Hp), ρ'.r H H' → SqT K H' a xs := by
  cases h with | tup hs ha => exact ⟨_, _, rfl, ha, hs, fun K ρ' H' e => .inl (.inl (e.tup _ _ hs))⟩
def t__law_listed (K : Frag) (n : Nat) : TS := (tSeq (tIfS (tB (tCB (rIsiU K) (tCons (tVar 0) (tCons (tC (.ty "tuple")) tNil)))) (tRet (tLc (iSeq K (tVar 0)) (gName 1) tYes (tCall (sp__law_listed K n) [] E0 (tCons (tVar 1) tNil)) [1])) tNext) (tRet (tVar 0)))
def t__law_tupled (K : Frag) (n : Nat) : TS := (tSeq (tIfS (tOr (tB (tCB (rIsiU K) (tCons (tVar 0) (tCons (tC (.ty "list")) tNil)))) (tB (tCB (rIsiU K) (tCons (tVar 0) (tCons (tC (.ty "tuple")) tNil))))) (tRet (tCB (rTupOf K) (tCons (tLc (iSeq K (tVar 0)) (gName 1) tYes (tCall (sp__law_tupled K n) [] E0 (tCons (tVar 1) tNil)) [1]) tNil))) tNext) (tRet (tVar 0)))
theorem pure__law_listed {K : Frag} {n : Nat} (vs : List V) (H : Hp) (Q : VK) (E : XK) (h : sp__law_listed K (n + 1) vs H Q E) : t__law_listed K n { nx := fun _ H' => Q .non H', rt := Q } (start ["value", "one"] vs) H := by
  obtain ⟨ρ, v, d, rfl, own, hd, hs, dp, k⟩ := h
  have le : Le exR ρ := fun a z => z.elim
  refine q_when (ρ := exR) (et_B (ev_isi (ev_var rfl) hd.ex rfl)) (fun hb H1 e => ?_) (fun hb H1 e => s_retV (ρ := exR) (ev_var rfl) fun H2 e2 => ?_)
  · obtain ⟨ds, rfl⟩ := isi_tup hb
    have hd1 := le.ds e hd
    obtain ⟨a, xs, rfl, ha', _, hsq⟩ := hd1.tupl
    have hz := sm_seq (.inr hs)
    have hlen : xs.length = ds.length := ha'.length
    refine s_ret (ρ := exR) (ev_lcF (ρf := ρ) (P := fun i e => ∃ d, ds[i]? = some d ∧ e = listD d) own_ex (by omega) (ei_seq (ev_var rfl) (fun H2 e2 => .inr (hsq K exR H2 e2)) (.inr (hsq K exR))) (fun x => rfl) (fun i H2 x H3 y => y.1) ?_ le) fun v H2 e2 ⟨p, xs', es, ev, _, hp, hx, hds, hl, hP⟩ => ?_
    · rintro D H2 e2 hD i x H3 H4 hi e3 oD ⟨_, hx⟩
      obtain ⟨d1, g1, g2⟩ := ha'.get hx
      have hm := List.mem_of_getElem? g1
      have own3 : Own (ρ.and D) H3 := fun b s => s.elim (fun s => (own.r (e.trans (e2.trans e3))) b s) fun z => z ▸ oD
      have leD : Le exR (ρ.and D) := fun b z => .inl (le b z)
      have g3 : DS (ρ.and D) H3 x d1 := leD.ds e3 (DS.and hD (le.ds e2 g2))
      refine ev_call (ea_cons (ev_var rfl) ea_nil) fun H5 e5 Q' q' E' => ⟨ρ.and D, x, d1, rfl, own3.r e5, ?_, smAll_mem hz.2 hm, depth_seq (.inl dp) hm, fun v' H6 e6 h6 => q' _ H6 (Ext.r e6) ⟨listD d1, ⟨d1, g1, rfl⟩, h6⟩⟩
      exact leD.ds e5 g3
    · subst ev
      have : es = ds.map listD := of_places (by omega) hP
      refine k _ H2 (e.trans e2).ext (.lst ((own.r e).fresh hp) hx ?_)
      rw [listAll_map, ← this]
      exact hds
  · have : listD d = d := by
      cases d with
      | tuple ds => exact absurd hb (by show ¬ true = false; decide)
      | _ => rfl
    rw [this] at k
    exact k _ H2 (e.trans e2).ext (le.ds (e.trans e2) hd)
theorem seq_of {d : PyData} (h : (isiB d "list" || isiB d "tuple") = true) : isSeqD d = true ∧ tupD d = .tuple (tupAll (itemsD d)) := by
  cases d with
  | tuple a => exact ⟨rfl, rfl⟩
  | list b => exact ⟨rfl, rfl⟩
  | none => exact absurd h (by show ¬ (false || false) = true; decide)
  | bool b => exact absurd h (by show ¬ (false || false) = true; decide)
  | int b => exact absurd h (by show ¬ (false || false) = true; decide)
  | str b => exact absurd h (by show ¬ (false || false) = true; decide)
  | dict b => exact absurd h (by show ¬ (false || false) = true; decide)
/-- tuple(new list) -/
theorem ev_tupOf {ρ ρf : Rl} {K : Frag} {σ : L2.St} {H : Hp} {te : TE} {C : List PyData → Prop} (le : Le ρ ρf) (h : Ev ρ te σ H (fun u H2 => ∃ p xs ds, u = .ref p ∧ ¬ ρ.S p ∧ H2 p = some (.lst xs) ∧ DSs ρf H2 xs ds ∧ C ds)) : Ev ρ (tCB (rTupOf K) (tCons te tNil)) σ H (fun u H2 => ∃ ds, C ds ∧ DS ρf H2 u (.tuple ds)) :=
  ev_cb (ea_one h) fun vs H1 e1 ⟨u, eu, p, xs, ds, ep, nS, hp, hd, hC⟩ => by
    subst eu ep
    exact fun H2 e2 Q q => ⟨p, xs, rfl, .inl ⟨.of (e2.keep _ _ nS hp), fun l hl => q _ _ (r_new _ hl) ⟨ds, hC, .tup upd_same (le.dss (r_new (ρ := ρ) _ hl) (le.dss e2 hd))⟩⟩⟩
theorem pure__law_tupled {K : Frag} {n : Nat} (vs : List V) (H : Hp) (Q : VK) (E : XK) (h : sp__law_tupled K (n + 1) vs H Q E) : t__law_tupled K n { nx := fun _ H' => Q .non H', rt := Q } (start ["value", "one"] vs) H := by
  obtain ⟨v, d, rfl, hd, hs, dp, k⟩ := h
  refine q_when (ρ := exR) (et_or (et_B (ev_isi (ev_var rfl) hd rfl)) fun _ => et_B (ev_isi (ev_var rfl) hd rfl)) (fun hb H1 e => ?_) (fun hb H1 e => s_retV (ρ := exR) (ev_var rfl) fun H2 e2 => ?_)
  · obtain ⟨hq, ht⟩ := seq_of hb
    have hd1 := e.ds hd
    obtain ⟨a, xs, rfl, ha, hsq, hsq2⟩ := hd1.seqd hq
    have hz : (itemsD d).length ≤ 1000 ∧ smAll (itemsD d) = true := by
      cases d with
      | list ds => exact sm_seq (.inl hs)
      | tuple ds => exact sm_seq (.inr hs)
      | _ => cases hq
    have hdp : ∀ x, x ∈ itemsD d → x.depth < n := fun x hx => by
      cases d with
      | list ds => exact depth_seq (.inr dp) hx
      | tuple ds => exact depth_seq (.inl dp) hx
      | _ => cases hq
    have hlen : xs.length = (itemsD d).length := ha.length
    refine s_ret (ρ := exR) (ev_tupOf (ρf := exR) (C := fun es => es = (itemsD d).map tupD) Le.rfl ((ev_lcF (ρf := exR) (P := fun i e => ∃ d', (itemsD d)[i]? = some d' ∧ e = tupD d') own_ex (by omega) (ei_seq (ev_var rfl) (hsq K) (hsq2.imp (fun f => f K) fun f => f K)) (fun x => rfl) (fun i H2 x H3 y => y.1) ?_ Le.rfl).imp fun u H2 e2 ⟨p, xs', es, eu, nS, _, hx, hds, hl, hP⟩ => ⟨p, xs', es, eu, nS, hx, hds, of_places (by omega) hP⟩)) fun v H2 e2 ⟨es, he, hv⟩ => ?_
    · rintro D H2 e2 hD i x H3 H4 hi e3 oD ⟨_, hx⟩
      obtain ⟨d1, g1, g2⟩ := ha.get hx
      have hm := List.mem_of_getElem? g1
      exact ev_call (ea_cons (ev_var rfl) ea_nil) fun H5 e5 Q' q' E' => ⟨x, d1, rfl, (e2.trans (e3.trans e5)).ds g2, smAll_mem hz.2 hm, hdp _ hm, fun v' H6 e6 h6 => q' _ H6 (Ext.r e6) ⟨tupD d1, ⟨d1, g1, rfl⟩, h6 _⟩⟩
    · subst he
      rw [ht, tupAll_map] at k
      refine k v H2 (e.trans e2).ext fun ρ => ?_
      exact hv.tups (fun _ _ q => q) _ _ (by rw [← tupAll_map]; exact noLists_tup _)
  · have hnl : tupD d = d ∧ noList d = true := by
      cases d with
      | tuple ds => exact absurd hb (by show ¬ (false || true) = false; decide)
      | list ds => exact absurd hb (by show ¬ (true || false) = false; decide)
      | _ => exact ⟨rfl, rfl⟩
    rw [hnl.1] at k
    exact k v H2 (e.trans e2).ext fun ρ => ((e.trans e2).ds hd).tups (fun _ _ q => q) _ _ hnl.2
/-! ### levels, handed -/
/-- some levels are lists, the rest tuples -/
abbrev Mixed (d d' : PyData) : Prop := tupD d' = d
def sp__law_levels (K : Frag) (n : Nat) : Sp := fun vs H Q _ => ∃ (ρ : Rl) (ra sp : Addr) (v : V) (d : PyData), vs = [.ref ra, .ref sp, v] ∧ ρ.S sp ∧ Own ρ H ∧ Dr K ra sp H ∧ DS ρ H v d ∧ noList d = true ∧ sm d = true ∧ d.depth < n ∧ ∀ v' d' H', (spR sp).r H H' → DS ρ H' v' d' → Mixed d d' → Q v' H'
def sp__law_handed (K : Frag) : Sp := fun vs H Q _ => ∃ (ρ : Rl) (ra sp : Addr) (v : V) (d : PyData), vs = [.ref ra, .ref sp, v] ∧ ρ.S sp ∧ Own ρ H ∧ Dr K ra sp H ∧ DS ρ H v d ∧ noList d = true ∧ sm d = true ∧ d.depth < 8 ∧ ∀ v' d' H', (spR sp).r H H' → DS ρ H' v' d' → Mixed d d' → Q v' H'
theorem len__law_levels {K : Frag} {n : Nat} {vs : List V} {H : Hp} {Q : VK} {E : XK} (h : sp__law_levels K n vs H Q E) : vs.length = 3 := by
  obtain ⟨ρ, ra, sp, v, d, rfl, _⟩ := h
  rfl
theorem len__law_handed {K : Frag} {vs : List V} {H : Hp} {Q : VK} {E : XK} (h : sp__law_handed K vs H Q E) : vs.length = 3 := by
  obtain ⟨ρ, ra, sp, v, d, rfl, _⟩ := h
  rfl
theorem own_sp {K : Frag} {ra sp : Addr} {H : Hp} (d : Dr K ra sp H) : Own (spR sp) H := fun a e => by
  obtain ⟨k, _, h⟩ := d.2.1
  rw [show a = sp from e, h]
  exact Option.some_ne_none _
def t__law_levels (K : Frag) (n : Nat) : TS := (tSeq (tIfS (tNot (tB (tCB (rIsiU K) (tCons (tVar 2) (tCons (tC (.ty "tuple")) tNil))))) (tRet (tVar 2)) tNext) (tSeq (tAsg (tLc (iSeq K (tVar 2)) (gName 4) tYes (tCall (sp__law_levels K n) [] E0 (tCons (tVar 0) (tCons (tVar 1) (tCons (tVar 4) tNil)))) [4]) (gName 3)) (tRet (tIf (tTest (tOp (rEqU K) (tCall (sp__law_take K) [] E0 (tCons (tVar 0) (tCons (tVar 1) (tCons (tC (.int 2)) tNil)))) (tC (.int 0)))) (tVar 3) (tCB (rTupOf K) (tCons (tVar 3) tNil))))))
def t__law_handed (K : Frag) : TS := (tSeq (tAsg (tCall (sp__law_take K) [] E0 (tCons (tVar 0) (tCons (tVar 1) (tCons (tC (.int 4)) tNil)))) (gName 3)) (tSeq (tIfS (tTest (tOp (rEqU K) (tVar 3) (tC (.int 0)))) (tRet (tCall (sp__law_listed K 8) [] E0 (tCons (tVar 2) tNil))) tNext) (tRet (tIf (tTest (tOp (rEqU K) (tVar 3) (tC (.int 1)))) (tCall (sp__law_levels K 9) [] E0 (tCons (tVar 0) (tCons (tVar 1) (tCons (tVar 2) tNil)))) (tVar 2)))))
theorem pure__law_levels {K : Frag} {n : Nat} (vs : List V) (H : Hp) (Q : VK) (E : XK) (h : sp__law_levels K (n + 1) vs H Q E) : t__law_levels K n { nx := fun _ H' => Q .non H', rt := Q } (start ["row", "spot", "value", "made", "one"] vs) H := by
  obtain ⟨ρ, ra, sp, v, d, rfl, hsp, own, dr, hd, hnl, hs, dp, k⟩ := h
  have le : Le (spR sp) ρ := fun a z => z ▸ hsp
  refine q_when (ρ := exR) (et_not (et_B (ev_isi (ev_var rfl) hd.ex rfl))) (fun hb H1 e => s_retV (ρ := exR) (ev_var rfl) fun H2 e2 => ?_) (fun hb H1 e => ?_)
  · exact k v d H2 (Ext.r (e.trans e2).ext) ((Ext.r (ρ := ρ) (e.trans e2).ext).ds hd) (tup_self d hnl)
  · obtain ⟨ds, rfl⟩ := isi_tup (notb' hb)
    have hd1 : DS ρ H1 v (.tuple ds) := (Ext.r (ρ := ρ) e.ext).ds hd
    have e1 : (spR sp).r H H1 := Ext.r e.ext
    have dr1 := dr.sp e1
    have own1 := own.r e
    obtain ⟨a, xs, rfl, ha, _, hsq⟩ := hd1.tupl
    have hz := sm_seq (.inr hs)
    have hn : noLists ds = true := by simpa [noList] using hnl
    have hlen : xs.length = ds.length := ha.length
    have hmem : ∀ {ds : List PyData} {d : PyData}, noLists ds = true → d ∈ ds → noList d = true := by
      intro ds
      induction ds with
      | nil => intro d _ h; cases h
      | cons e r ih =>
        intro d h hm
        have h' : noList e = true ∧ noLists r = true := by simpa [noLists] using h
        rcases List.mem_cons.mp hm with rfl | hm
        · exact h'.1
        · exact ih h'.2 hm
    refine q_asg (ρ := spR sp) (ev_lcF (ρf := ρ) (P := fun i e => ∃ d, ds[i]? = some d ∧ d = tupD e) (own_sp dr1) (by omega) (ei_seq (ev_var rfl) (fun H2 e2 => .inr (hsq K (spR sp) H2 e2)) (.inr (hsq K (spR sp)))) (fun x => rfl) (fun i H2 x H3 y => y.1) ?_ le) fun v H2 e2 ⟨p, xs', es, ev, nS, hp, hx, hds, hl, hP⟩ => ?_
    · rintro D H2 e2 hD i x H3 H4 hi e3 oD ⟨_, hx⟩
      obtain ⟨d1, g1, g2⟩ := ha.get hx
      have hm := List.mem_of_getElem? g1
      have own3 : Own (ρ.and D) H3 := fun b s => s.elim (fun s => (own1.r (e2.trans e3)) b s) fun z => z ▸ oD
      have leD : Le (spR sp) (ρ.and D) := fun b z => .inl (le b z)
      have g3 : DS (ρ.and D) H3 x d1 := leD.ds e3 (DS.and hD (le.ds e2 g2))
      refine ev_call (ea_cons (ev_var rfl) (ea_cons (ev_var rfl) (ea_cons (ev_var rfl) ea_nil))) fun H5 e5 Q' q' E' => ⟨ρ.and D, ra, sp, x, d1, rfl, .inl hsp, own3.r e5, dr1.sp (e2.trans (e3.trans e5)), leD.ds e5 g3, hmem hn hm, smAll_mem hz.2 hm, depth_seq (.inl dp) hm, fun v' d' H6 e6 h6 hm6 => q' _ H6 e6 ⟨d', ⟨d1, g1, hm6.symm⟩, h6⟩⟩
    · subst ev
      have hes : ds = es.map tupD := of_places (by omega) fun i d hi => by
        have hi' : i < es.length := by have := (List.getElem?_eq_some_iff.mp hi).1; omega
        obtain ⟨d', h1, h2⟩ := hP i es[i] (List.getElem?_eq_getElem hi')
        rw [hi] at h1
        cases h1
        exact ⟨es[i], List.getElem?_eq_getElem hi', h2⟩
      have dr2 := dr1.sp e2
      have nSf : ¬ ρ.S p := own1.fresh hp
      have kk : ∀ H3, (spR sp).r H2 H3 → Ev (spR sp) (tIf (tTest (tOp (rEqU K) (tCall (sp__law_take K) [] E0 (tCons (tVar 0) (tCons (tVar 1) (tCons (tC (.int 2)) tNil)))) (tC (.int 0)))) (tVar 3) (tCB (rTupOf K) (tCons (tVar 3) tNil))) [some (.ref ra), some (.ref sp), some (.ref a), some (.ref p), none] H2 (fun v H' => ∃ d', DS ρ H' v d' ∧ Mixed (.tuple ds) d') := by
        intro H3 e3 H4 e4 Q' q'
        refine ev_opP (Pa := Below 2) (Pb := fun v => v = .int 0) (R := fun v _ => ∃ b, v = .bl b) (ev_take (ev_var rfl) (ev_var rfl) ev_c dr2 (by decide)) ev_c (fun x y ⟨m, ex, _⟩ ey => ?_) H4 e4 _ fun v H5 e5 ⟨b, eb⟩ => ⟨b, eb, ?_⟩
        · subst ex ey
          exact fun H6 _ Q q => .inl ⟨rfl, q _ H6 .rfl ⟨_, rfl⟩⟩
        · cases b with
          | true =>
            exact ev_var (ρ := spR sp) (H := H5) rfl H5 .rfl _ fun v H6 e6 ev => by
              subst ev
              refine q' _ H6 (e5.trans e6) ⟨.list es, .lst nSf ((e4.trans (e5.trans e6)).keep _ _ nS hx) (le.dss (e4.trans (e5.trans e6)) hds), ?_⟩
              show PyData.tuple (tupAll es) = .tuple ds
              rw [tupAll_map, ← hes]
          | false =>
            refine ev_tupOf (ρ := spR sp) (ρf := ρ) (C := fun ds => ds = es) le ((ev_var (ρ := spR sp) (v := .ref p) rfl).imp fun u H6 e6 eu => ⟨p, xs', es, eu, nS, (e4.trans (e5.trans e6)).keep _ _ nS hx, le.dss (e4.trans (e5.trans e6)) hds, rfl⟩) H5 .rfl _ fun v H6 e6 ⟨es', hes', hv⟩ => ?_
            subst hes'
            refine q' _ H6 (e5.trans e6) ⟨.tuple es', hv, ?_⟩
            show PyData.tuple (tupAll es') = .tuple ds
            rw [tupAll_map, ← hes]
      exact s_ret (ρ := spR sp) (kk H2 .rfl) fun v H3 e3 ⟨d', h1, h2⟩ => k v d' H3 (e1.trans (e2.trans e3)) h1 h2
section
variable {ρ : Rl} {K : Frag} {σ : L2.St} {H : Hp} {ta tb tc : TE} {ra sp : Addr} {v : V} {d : PyData} {E : XK}
theorem ev_handed (h1 : EvV (spR sp) ta σ H (.ref ra)) (h2 : EvV (spR sp) tb σ H (.ref sp)) (h3 : EvV (spR sp) tc σ H v) (dr : Dr K ra sp H) (hd : DS (spR sp) H v d) (hn : noList d = true) (hs : sm d = true) (dp : d.depth < 8) :
    Ev (spR sp) (tCall (sp__law_handed K) [] E (tCons ta (tCons tb (tCons tc tNil)))) σ H (fun v' H' => ∃ d', DS (spR sp) H' v' d' ∧ Mixed d d') :=
  ev_call (ea_cons h1 (ea_cons h2 (ea_cons h3 ea_nil))) fun H1 e1 Q q E => ⟨spR sp, ra, sp, v, d, rfl, rfl, own_sp (dr.sp e1), dr.sp e1, e1.ds hd, hn, hs, dp, fun v' d' H' e h m => q v' H' e ⟨d', h, m⟩⟩
end
theorem pure__law_handed {K : Frag} (vs : List V) (H : Hp) (Q : VK) (E : XK) (h : sp__law_handed K vs H Q E) : t__law_handed K { nx := fun _ H' => Q .non H', rt := Q } (start ["row", "spot", "value", "kind"] vs) H := by
  obtain ⟨ρ, ra, sp, v, d, rfl, hsp, own, dr, hd, hnl, hs, dp, k⟩ := h
  have le : Le (spR sp) ρ := fun a z => z ▸ hsp
  refine q_asg (ρ := spR sp) (ev_take (ev_var rfl) (ev_var rfl) ev_c dr (by decide)) fun v1 H1 e1 ⟨m, ev, _, _⟩ => ?_
  subst ev
  have own1 := own.r e1
  have hd1 := le.ds e1 hd
  have dr1 := dr.sp e1
  refine q_when (ρ := spR sp) (et_test (ev_eqI (ev_var rfl) ev_c)) (fun hb H2 e2 => ?_) (fun hb H2 e2 => ?_)
  · refine s_ret (ρ := spR sp) (R := fun v' H' => DS ρ H' v' (listD d)) (ev_call (ea_cons (ev_var rfl) ea_nil) fun H3 e3 Q' q' E' => ⟨ρ, v, d, rfl, own1.r (e2.trans e3), le.ds (e2.trans e3) hd1, hs, dp, fun v' H' e h => q' v' H' (Ext.r e) h⟩) fun v' H3 e3 h => ?_
    exact k v' _ H3 (e1.trans (e2.trans e3)) h (tup_list d hnl)
  · have dr2 := dr1.sp e2
    refine s_ret (ρ := spR sp) (R := fun v' H' => ∃ d', DS ρ H' v' d' ∧ Mixed d d') (ev_if (et_test (ev_eqI (ev_var rfl) ev_c)) (fun _ => ?_) fun _ => ?_) fun v' H3 e3 ⟨d', h, m⟩ => k v' d' H3 (e1.trans (e2.trans e3)) h m
    · exact ev_call (ea_cons (ev_var rfl) (ea_cons (ev_var rfl) (ea_cons (ev_var rfl) ea_nil))) fun H3 e3 Q' q' E' => ⟨ρ, ra, sp, v, d, rfl, hsp, own1.r (e2.trans e3), dr2.sp e3, le.ds (e2.trans e3) hd1, hnl, hs, Nat.lt_trans dp (by decide), fun v' d' H' e h m => q' v' H' e ⟨d', h, m⟩⟩
    · exact (ev_var (v := v) rfl).imp fun v' H3 e3 ev => by
        rw [ev]
        exact ⟨d, le.ds (e2.trans e3) hd1, tup_self d hnl⟩
end Slip
/-! drawn letters, drawn texts -/
namespace Slip
open PySem PySem.Spec PyProof.Rows L2
theorem app_cps (a b : Str) : (a ++ b).cps.toList = a.cps.toList ++ b.cps.toList := by
  show (a.cps ++ b.cps).toList = _
  simp
theorem app_len (a b : Str) : (a ++ b).length = a.length + b.length := by
  show (a.cps ++ b.cps).size = _
  simp [Str.length]
theorem len_cps (a : Str) : a.cps.toList.length = a.length := by simp [Str.length]
theorem letters_at {i : Nat} (h : i < 6) : ("abcdef" : Str).cps.toList[i]? = some (97 + i) := by
  match i, h with
  | 0, _ => decide +kernel
  | 1, _ => decide +kernel
  | 2, _ => decide +kernel
  | 3, _ => decide +kernel
  | 4, _ => decide +kernel
  | 5, _ => decide +kernel
theorem letters_mem {i : Nat} (h : i < 6) : 97 + i ∈ letters := List.mem_of_getElem? (letters_at h)
/-- the letters of a draw, ascending -/
structure Few (z : Str) : Prop where
  up : z.cps.toList.Pairwise (· < ·)
  low : ∀ c ∈ z.cps.toList, c ∈ letters
  pos : 0 < z.length
  le : z.length ≤ 6
def sp__law_few (K : Frag) : Sp := fun vs H Q _ => ∃ (ra sp za : Addr) (ss : List Int), vs = [.ref ra, .ref sp, .ref za] ∧ Dr K ra sp H ∧ za ≠ sp ∧ SqL K H za (ss.map V.int) ∧ ss ≠ [] ∧ (∀ s ∈ ss, 1 ≤ s ∧ s ≤ 6) ∧ ∀ z H', (spR sp).r H H' → Few z → Q (.str z) H'
def sp__law_letters (K : Frag) : Sp := fun vs H Q _ => ∃ (ra sp : Addr) (most : Int) (z : Str), vs = [.ref ra, .ref sp, .int most, .str z] ∧ Dr K ra sp H ∧ 0 ≤ most ∧ most ≤ 1000 ∧ 0 < z.length ∧ z.length ≤ 1000 ∧ ∀ (s : Str) H', (spR sp).r H H' → (s.length : Int) ≤ most → (∀ c ∈ s.cps.toList, c ∈ z.cps.toList) → Q (.str s) H'
theorem len__law_few {K : Frag} {vs : List V} {H : Hp} {Q : VK} {E : XK} (h : sp__law_few K vs H Q E) : vs.length = 3 := by
  obtain ⟨ra, sp, za, ss, rfl, _⟩ := h
  rfl
theorem len__law_letters {K : Frag} {vs : List V} {H : Hp} {Q : VK} {E : XK} (h : sp__law_letters K vs H Q E) : vs.length = 4 := by
  obtain ⟨ra, sp, m, z, rfl, _⟩ := h
  rfl
section
variable {K : Frag} {σ : L2.St} {H : Hp} {ta tb tc td : TE} {ra sp : Addr} {E : XK}
theorem ev_letters {most : Int} {z : Str} (h1 : EvV (spR sp) ta σ H (.ref ra)) (h2 : EvV (spR sp) tb σ H (.ref sp)) (h3 : EvV (spR sp) tc σ H (.int most)) (h4 : EvV (spR sp) td σ H (.str z)) (dr : Dr K ra sp H) (m0 : 0 ≤ most) (m1 : most ≤ 1000) (z0 : 0 < z.length) (z1 : z.length ≤ 1000) :
    Ev (spR sp) (tCall (sp__law_letters K) [] E (tCons ta (tCons tb (tCons tc (tCons td tNil))))) σ H (fun v _ => ∃ s : Str, v = .str s ∧ (s.length : Int) ≤ most ∧ ∀ c ∈ s.cps.toList, c ∈ z.cps.toList) :=
  ev_call (ea_cons h1 (ea_cons h2 (ea_cons h3 (ea_cons h4 ea_nil)))) fun H1 e1 Q q E => ⟨ra, sp, most, z, rfl, dr.sp e1, m0, m1, z0, z1, fun s H' e hl hc => q _ H' e ⟨s, rfl, hl, hc⟩⟩
end
def t__law_letters (K : Frag) : TS := (tSeq (tAsg (tC (.str "")) (gName 4)) (tSeq (tFor (iRng1 (tCons (tCall (sp__law_take K) [] E0 (tCons (tVar 0) (tCons (tVar 1) (tCons (tOp (rAddU K) (tVar 2) (tC (.int 1))) tNil)))) tNil)) (gName 5) (tAsg (tOp (rAddU K) (tVar 4) (tIxU K (tVar 3) (tCall (sp__law_take K) [] E0 (tCons (tVar 0) (tCons (tVar 1) (tCons (tCB (rLenU K) (tCons (tVar 3) tNil)) tNil)))))) (gName 4))) (tRet (tVar 4))))
def t__law_few (K : Frag) : TS := (tSeq (tAsg (tIxU K (tVar 2) (tCall (sp__law_take K) [] E0 (tCons (tVar 0) (tCons (tVar 1) (tCons (tCB (rLenU K) (tCons (tVar 2) tNil)) tNil))))) (gName 3)) (tSeq (tAsg (tC (.str "")) (gName 4)) (tSeq (tFor (iRng1 (tCons (tC (.int 6)) tNil)) (gName 5) (tIfS (tAnd (tTest (tOp (rCmp K gLt) (tCB (rLenU K) (tCons (tVar 4) tNil)) (tVar 3))) (tTest (tOp (rCmp K gLt) (tCall (sp__law_take K) [] E0 (tCons (tVar 0) (tCons (tVar 1) (tCons (tOp rSubI (tC (.int 6)) (tVar 5)) tNil)))) (tOp rSubI (tVar 3) (tCB (rLenU K) (tCons (tVar 4) tNil)))))) (tAsg (tOp (rAddU K) (tVar 4) (tIxU K (tC (.str "abcdef")) (tVar 5))) (gName 4)) tNext)) (tRet (tVar 4)))))
theorem pure__law_letters {K : Frag} (vs : List V) (H : Hp) (Q : VK) (E : XK) (h : sp__law_letters K vs H Q E) : t__law_letters K { nx := fun _ H' => Q .non H', rt := Q } (start ["row", "spot", "most", "few", "made", "k"] vs) H := by
  obtain ⟨ra, sp, most, z, rfl, dr, m0, m1, z0, z1, q⟩ := h
  refine q_asgV (ρ := spR sp) ev_c fun H1 e1 => ?_
  have dr1 := dr.sp e1
  refine q_forx (ρ := spR sp) (eix_rng (lim := most + 1) (ev_take (ev_var rfl) (ev_var rfl) (ev_add (ev_var rfl) ev_c) dr1 (by omega)) (by omega)) fun n Y H2 ⟨hn, hY⟩ e2 => ⟨fun i σ' H' => (spR sp).r H2 H' ∧ ∃ (s : Str) (kv : Option V), σ' = [some (.ref ra), some (.ref sp), some (.int most), some (.str z), some (.str s), kv] ∧ s.length ≤ i ∧ ∀ c ∈ s.cps.toList, c ∈ z.cps.toList, ⟨.rfl, "", none, rfl, Nat.le_refl _, fun c hc => by
    have : ("" : Str).cps.toList = [] := by decide +kernel
    rw [this] at hc
    cases hc⟩, fun i σ' H' _ h => h.1, ?_, ?_⟩
  · subst hY
    rintro i x σ' H' H'' hi ⟨r, s, kv, rfl, hs, hc⟩ ⟨e5, rfl⟩
    subst e5
    have dr2 := dr1.sp (e2.trans r)
    refine s_asg (ρ := spR sp) (R := fun v _ => ∃ c, v = .str (s ++ ⟨#[c]⟩) ∧ c ∈ z.cps.toList) (ev_opP (Pa := fun v => v = .str s) (Pb := fun v => ∃ c, v = .str ⟨#[c]⟩ ∧ c ∈ z.cps.toList) (ev_var rfl) (ev_ixSP (ev_var rfl) (by omega) (ev_take (ev_var rfl) (ev_var rfl) (ev_lenS (ev_var rfl) (by omega)) dr2 (by omega))) ?_) fun v H3 e3 ⟨c, ev, hcz⟩ => ?_
    · rintro x y rfl ⟨c, rfl, hcz⟩ H3 e3 Q' q'
      exact .inr (.inl ⟨s, ⟨#[c]⟩, rfl, rfl, Evl.sz_of (show s.length + 1 ≤ 100000 by omega), q' _ H3 .rfl ⟨c, rfl, hcz⟩⟩)
    · subst ev
      refine ⟨r.trans e3, s ++ ⟨#[c]⟩, some (.int (i : Int)), rfl, ?_, ?_⟩
      · rw [app_len]
        show s.length + 1 ≤ i + 1
        omega
      · intro c' hc'
        rw [app_cps] at hc'
        rcases List.mem_append.mp hc' with h | h
        · exact hc c' h
        · have : c' = c := by simpa using h
          rw [this]
          exact hcz
  · rintro σ' H' ⟨r, s, kv, rfl, hs, hc⟩
    exact s_retV (ρ := spR sp) (ev_var rfl) fun H3 e3 => q s H3 (e1.trans (e2.trans (r.trans e3))) (by omega) hc
theorem pure__law_few {K : Frag} (vs : List V) (H : Hp) (Q : VK) (E : XK) (h : sp__law_few K vs H Q E) : t__law_few K { nx := fun _ H' => Q .non H', rt := Q } (start ["row", "spot", "sizes", "size", "made", "k"] vs) H := by
  obtain ⟨ra, sp, za, ss, rfl, dr, nz, hz, hss, hsm, q⟩ := h
  have sqz : ∀ H1, (spR sp).r H H1 → SqA K H1 za (ss.map V.int) := fun H1 e => .inl (e.sqL nz hz)
  have hl : (ss.map V.int).length = ss.length := List.length_map _
  have hpos : 0 < ss.length := by
    cases ss with
    | nil => exact absurd rfl hss
    | cons _ _ => exact Nat.succ_pos _
  refine q_asg (ρ := spR sp) (ev_ixP (xs := ss.map V.int) (ev_var rfl) (ev_take (ev_var rfl) (ev_var rfl) (ev_len (ev_var rfl) sqz) dr (by rw [hl]; omega)) sqz) fun v H1 e1 ⟨m, hm⟩ => ?_
  obtain ⟨sz, hmem, rfl⟩ : ∃ s, s ∈ ss ∧ v = .int s := by
    obtain ⟨s, h1, h2⟩ := List.mem_map.mp (List.mem_of_getElem? hm)
    exact ⟨s, h1, h2.symm⟩
  obtain ⟨s1, s6⟩ := hsm sz hmem
  refine q_asgV (ρ := spR sp) ev_c fun H2 e2 => ?_
  refine q_forw (ρ := spR sp) (ρw := spR sp) (ew_rng (i := 6) (ea_cons ev_c ea_nil) (by omega) (by omega)) fun H3 e3 => ⟨fun i σ' H' => (spR sp).r H3 H' ∧ ∃ (s : Str) (kv : Option V), σ' = [some (.ref ra), some (.ref sp), some (.ref za), some (.int sz), some (.str s), kv] ∧ s.cps.toList.Pairwise (· < ·) ∧ (∀ c ∈ s.cps.toList, c ∈ letters ∧ c < 97 + i) ∧ (s.length : Int) ≤ sz ∧ sz - s.length ≤ 6 - i, ⟨.rfl, "", none, rfl, ?_, ?_, ?_, ?_⟩, fun i σ' H' _ h => h.1, ?_, ?_⟩
  · have : ("" : Str).cps.toList = [] := by decide +kernel
    rw [this]
    exact List.Pairwise.nil
  · intro c hc
    have : ("" : Str).cps.toList = [] := by decide +kernel
    rw [this] at hc
    cases hc
  · show ((0 : Nat) : Int) ≤ sz
    omega
  · show sz - ((0 : Nat) : Int) ≤ 6 - ((0 : Nat) : Int)
    omega
  · rintro i x σ' H' H'' hi ⟨r, s, kv, rfl, hup, hlow, hle, hgo⟩ ⟨e5, rfl⟩
    subst e5
    have hi6 : i < 6 := hi
    have r0 := e1.trans (e2.trans (e3.trans r))
    have dr2 := dr.sp r0
    have hs6 : s.length ≤ 6 := by omega
    have hfin : ∀ H4, (spR sp).r H'' H4 → sz - (s.length : Int) ≤ 6 - ((i + 1 : Nat) : Int) → (fun i σ' H' => (spR sp).r H3 H' ∧ ∃ (s : Str) (kv : Option V), σ' = [some (.ref ra), some (.ref sp), some (.ref za), some (.int sz), some (.str s), kv] ∧ s.cps.toList.Pairwise (· < ·) ∧ (∀ c ∈ s.cps.toList, c ∈ letters ∧ c < 97 + i) ∧ (s.length : Int) ≤ sz ∧ sz - s.length ≤ 6 - i) (i + 1) [some (.ref ra), some (.ref sp), some (.ref za), some (.int sz), some (.str s), some (.int (i : Int))] H4 := fun H4 e4 hg =>
      ⟨r.trans e4, s, _, rfl, hup, fun c hc => ⟨(hlow c hc).1, by have := (hlow c hc).2; omega⟩, hle, hg⟩
    refine ev_lt (ρ := spR sp) (H := H'') (i := (s.length : Int)) (j := sz) (ev_lenS (ev_var rfl) (by omega)) (ev_var rfl) H'' .rfl _ fun v H4 e4 ev => ⟨_, ev, ?_⟩
    by_cases hlt : (s.length : Int) < sz
    · rw [decide_eq_true hlt]
      refine iteT ?_
      refine ev_opP (Pa := Below (6 - (i : Int))) (Pb := fun v => v = .int (sz - (s.length : Int))) (R := fun v _ => ∃ b, v = .bl b ∧ (b = false → sz - (s.length : Int) ≤ 6 - (i : Int) - 1)) (ev_take (ev_var rfl) (ev_var rfl) (ev_sub ev_c (ev_var rfl)) dr2 (by omega)) (ev_sub (ev_var rfl) (ev_lenS (ev_var rfl) (by omega))) ?_ H4 e4 _ fun v H5 e5 ⟨b, eb, hb⟩ => ⟨b, eb, ?_⟩
      · rintro x y ⟨m, rfl, h0, h1⟩ rfl H5 e5 Q2 q2
        refine rv_cmpI H5 Q2 (q2 _ H5 .rfl ⟨_, rfl, fun hb => ?_⟩)
        have : PySem.W.dataLt (.int m) (.int (sz - (s.length : Int))) = false := hb
        rw [lt_int] at this
        have := of_decide_eq_false this
        omega
      · cases b with
        | true =>
          refine iteT ?_
          have hle2 : s.length + 1 ≤ 100000 := by omega
          refine s_asgV (ρ := spR sp) (ev_addS (ev_var rfl) (ev_ixS (s := "abcdef") (c := 97 + i) ev_c (ev_var rfl) (by decide +kernel) (atI_nat (letters_at hi6))) hle2) fun H6 e6 => ?_
          refine ⟨r.trans (e4.trans (e5.trans e6)), s ++ ⟨#[97 + i]⟩, _, rfl, ?_, ?_, ?_, ?_⟩
          · rw [app_cps]
            refine List.pairwise_append.mpr ⟨hup, by simp, fun a ha b hb => ?_⟩
            have : b = 97 + i := by simpa using hb
            rw [this]
            exact (hlow a ha).2
          · intro c hc
            rw [app_cps] at hc
            rcases List.mem_append.mp hc with h | h
            · exact ⟨(hlow c h).1, by have := (hlow c h).2; omega⟩
            · have : c = 97 + i := by simpa using h
              rw [this]
              exact ⟨letters_mem hi6, by omega⟩
          · rw [app_len]
            show ((s.length + 1 : Nat) : Int) ≤ sz
            omega
          · rw [app_len]
            show sz - ((s.length + 1 : Nat) : Int) ≤ 6 - ((i + 1 : Nat) : Int)
            omega
        | false =>
          refine iteF ?_
          exact hfin H5 (e4.trans e5) (by have := hb rfl; omega)
    · rw [decide_eq_false hlt]
      refine iteF (iteF ?_)
      exact hfin H4 e4 (by omega)
  · rintro σ' H' ⟨r, s, kv, rfl, hup, hlow, hle, hgo⟩
    have hgo' : sz - (s.length : Int) ≤ 6 - ((6 : Nat) : Int) := hgo
    exact s_retV (ρ := spR sp) (ev_var rfl) fun H4 e4 => q s H4 (e1.trans (e2.trans (e3.trans (r.trans e4)))) ⟨hup, fun c hc => (hlow c hc).1, by omega, by omega⟩
end Slip
/-! the law's own look at a table -/
namespace Slip
open PySem PySem.Spec PyProof.Rows L2
theorem rising_no : ∀ (ds : List PyData) (j : Nat) (x y : PyData), ds[j]? = some x → ds[j + 1]? = some y → PySem.W.dataLt x y = false → risingD ds = false
  | [], j, x, y, a, _, _ => by simp at a
  | [d], 0, x, y, _, b, _ => by simp at b
  | [d], j + 1, x, y, a, _, _ => by simp at a
  | d :: e :: r, 0, x, y, a, b, h => by
    cases a
    cases b
    show (PySem.W.dataLt d e && risingD (e :: r)) = false
    rw [h, Bool.false_and]
  | d :: e :: r, j + 1, x, y, a, b, h => by
    show (PySem.W.dataLt d e && risingD (e :: r)) = false
    rw [rising_no (e :: r) j x y (by simpa using a) (by simpa using b) h, Bool.and_false]
theorem rising_of : ∀ (ds : List PyData), (∀ (j : Nat) (x y : PyData), ds[j]? = some x → ds[j + 1]? = some y → PySem.W.dataLt x y = true) → risingD ds = true
  | [], _ => rfl
  | [d], _ => rfl
  | d :: e :: r, h => by
    show (PySem.W.dataLt d e && risingD (e :: r)) = true
    rw [h 0 d e rfl rfl, rising_of (e :: r) fun j x y a b => h (j + 1) x y (by simpa using a) (by simpa using b)]
    rfl
theorem str2_piece (d : PyData) : isStrD 2 d = isPieceD d := by
  cases d with
  | str s => exact Bool.and_comm _ _
  | _ => rfl
theorem tup_nl {d : PyData} (h : noList d = true) : isiB d "tuple" = isSeqD d := by
  cases d with
  | list ds => cases h
  | _ => rfl
def cutD (ds : List PyData) (lo hi : Option Int) : List PyData := (ds.drop (HT.sIx ds.length 0 lo)).take (HT.sIx ds.length ds.length hi - HT.sIx ds.length 0 lo)
section
variable {ρ ρf : Rl} {K : Frag} {σ : L2.St} {H : Hp} {ta tb te : TE} {x v : V} {d e : PyData} {ds es : List PyData}
/-- t[lo:hi] -/
theorem ev_slD {tl th : TO} {lo hi : Option Int} (le : Le ρ ρf) (h : EvV ρ te σ H v) (h1 : EvO ρ tl σ H lo) (h2 : EvO ρ th σ H hi) (hd : DS ρf H v (.tuple ds)) : Ev ρ (tSl (rSlU K) te tl th) σ H (fun u H2 => DS ρf H2 u (.tuple (cutD ds lo hi))) := fun H0 e Q q =>
  h H0 e _ fun w H2 e2 ew => by
    subst ew
    refine h1 H2 (e.trans e2) _ fun H3 e3 => h2 H3 ((e.trans e2).trans e3) _ fun H4 e4 => ?_
    have e04 := ((e.trans e2).trans e3).trans e4
    have e24 := (e2.trans e3).trans e4
    obtain ⟨a, xs, rfl, hx, ha, hsq⟩ := hd.tupl
    have hl := hx.length
    refine .inr (.inl ⟨a, xs, rfl, hsq K ρ H4 e04, fun hw => q _ _ e24 ?_, fun _ p hp => q _ _ (e24.trans (r_new _ hp)) (.tup upd_same ?_)⟩)
    · have z : cutD ds lo hi = ds := by
        unfold cutD
        rw [← hl, hw.1, hw.2, hl, List.drop_zero, Nat.sub_zero, List.take_length]
      rw [z]
      exact le.ds e04 hd
    · unfold cutD cutV
      rw [hl]
      exact ((le.dss (e04.trans (r_new _ hp)) hx).drop _).take _
/-- a datum against a new one -/
theorem ev_cmp2 {g : PyData → PyData → Bool} (h1 : EvV ρ ta σ H x) (hd : DS ρ H x d) (h2 : Ev ρ tb σ H (fun v H' => DS ρ H' v e)) (al : PySem.W.alike d e = true) (nn : d ≠ .none) (dp : d.depth ≤ 64) : EvV ρ (tOp (rCmp K g) ta tb) σ H (.bl (g d e)) :=
  ev_op2 (Ra := fun v' _ => v' = x) (Rb := fun v H' => DS ρ H' v e) h1 (fun x' H1 e1 _ => h2.mono e1) fun x' y' H1 H2 e1 e2 ex he => by
    subst ex
    exact fun H3 e3 Q q => ⟨d, e, ((e1.trans (e2.trans e3)).ds hd).dp _ _, (e3.ds he).dp _ _, al, nn, dp, q _ H3 .rfl rfl⟩
end
def twoPieces : List PyData → Bool
  | [m, w, _] => isPieceD m && isPieceD w
  | _ => false
theorem two_of {ds : List PyData} (h : twoPieces ds = true) : ∃ s t c, ds = [.str s, .str t, c] ∧ isPieceD (.str s) = true ∧ isPieceD (.str t) = true := by
  match ds, h with
  | [m, w, c], h =>
    have h' : isPieceD m = true ∧ isPieceD w = true := by simpa [twoPieces] using h
    obtain ⟨s, rfl, _⟩ := piece_str h'.1
    obtain ⟨t, rfl, _⟩ := piece_str h'.2
    exact ⟨s, t, c, rfl, h'.1, h'.2⟩
theorem fault_tup (m w c : PyData) : isFaultD (.tuple [m, w, c]) = (isPieceD m && isPieceD w && !(PyData.eqv m w) && isWholeD 1 9 c) := rfl
theorem fault_no {ds : List PyData} (h : twoPieces ds = false) : isFaultD (.tuple ds) = false := by
  cases q : isFaultD (.tuple ds) with
  | false => rfl
  | true =>
    obtain ⟨s, t, c, e1, e2, e3, _⟩ := fault_parts q
    have e1' : ds = [.str s, .str t, .int c] := e1
    rw [e1'] at h
    have : (isPieceD (.str s) && isPieceD (.str t)) = false := h
    rw [e2, e3] at this
    cases this
theorem fault_seq {d : PyData} (h : isSeqD d = false) : isFaultD d = false := by
  unfold isFaultD isTripleD
  rw [h]
  rfl
theorem table_nofault {d d1 : PyData} {i : Nat} (h : (itemsD d)[i]? = some d1) (hf : isFaultD d1 = false) : isTableD d = false := by
  have : (itemsD d).all isFaultD = false := by
    cases q : (itemsD d).all isFaultD with
    | false => rfl
    | true =>
      have := List.all_eq_true.mp q d1 (List.mem_of_getElem? h)
      rw [hf] at this
      cases this
  unfold isTableD
  rw [this, Bool.and_false]
  rfl
theorem table_norise {d x y : PyData} {j : Nat} (h : (itemsD d)[j]? = some x) (h2 : (itemsD d)[j + 1]? = some y) (hf : PySem.W.dataLt (pairOf x) (pairOf y) = false) : isTableD d = false := by
  have : risingD ((itemsD d).map pairOf) = false := rising_no _ j (pairOf x) (pairOf y) (by rw [List.getElem?_map, h]; rfl) (by rw [List.getElem?_map, h2]; rfl) hf
  unfold isTableD
  rw [this, Bool.and_false]
theorem table_yes {d : PyData} (hq : isSeqD d = true) (hl : (itemsD d).length ≤ 8) (hf : ∀ x ∈ itemsD d, isFaultD x = true) (hr : ∀ (j : Nat) (x y : PyData), (itemsD d)[j]? = some x → (itemsD d)[j + 1]? = some y → PySem.W.dataLt (pairOf x) (pairOf y) = true) : isTableD d = true := by
  unfold isTableD
  rw [hq, decide_eq_true hl, List.all_eq_true.mpr hf, rising_of]
  · rfl
  · intro j x y a b
    rw [List.getElem?_map] at a b
    cases qa : (itemsD d)[j]? with
    | none => rw [qa] at a; cases a
    | some x' =>
      cases qb : (itemsD d)[j + 1]? with
      | none => rw [qb] at b; cases b
      | some y' =>
        rw [qa] at a
        rw [qb] at b
        cases a
        cases b
        exact hr j x' y' qa qb
def sp__law_is_table (K : Frag) : Sp := fun vs H Q _ => ∃ v d, vs = [v] ∧ DS exR H v d ∧ sm d = true ∧ noList d = true ∧ ∀ H', Ext H H' → Q (.bl (isTableD d)) H'
theorem len__law_is_table {K : Frag} {vs : List V} {H : Hp} {Q : VK} {E : XK} (h : sp__law_is_table K vs H Q E) : vs.length = 1 := by
  obtain ⟨v, d, rfl, _⟩ := h
  rfl
theorem noLists_mem : ∀ {ds : List PyData} {d : PyData}, noLists ds = true → d ∈ ds → noList d = true
  | e :: ds, d, h, hm => by
    have h' : noList e = true ∧ noLists ds = true := by simpa [noLists] using h
    rcases List.mem_cons.mp hm with rfl | hm
    · exact h'.1
    · exact noLists_mem h'.2 hm
def t__law_is_table (K : Frag) : TS := (tSeq (tIfS (tOr (tNot (tB (tCB (rIsiU K) (tCons (tVar 0) (tCons (tC (.ty "tuple")) tNil))))) (tTest (tOp (rCmp K gGt) (tCB (rLenU K) (tCons (tVar 0) tNil)) (tC (.int 8))))) (tRet (tC (.bl false))) tNext) (tSeq (tAsg (tC .non) (gName 1)) (tSeq (tFor (iSeq K (tVar 0)) (gName 2) (tSeq (tIfS (tOr (tNot (tB (tCB (rIsiU K) (tCons (tVar 2) (tCons (tC (.ty "tuple")) tNil))))) (tOr (tTest (tOp (rNeU K) (tCB (rLenU K) (tCons (tVar 2) tNil)) (tC (.int 3)))) (tOr (tNot (tB (tCall (sp__law_is_string K) [] E0 (tCons (tIxU K (tVar 2) (tC (.int 0))) (tCons (tC (.int 2)) tNil))))) (tNot (tB (tCall (sp__law_is_string K) [] E0 (tCons (tIxU K (tVar 2) (tC (.int 1))) (tCons (tC (.int 2)) tNil)))))))) (tRet (tC (.bl false))) tNext) (tSeq (tIfS (tOr (tTest (tOp (rEqU K) (tIxU K (tVar 2) (tC (.int 0))) (tIxU K (tVar 2) (tC (.int 1))))) (tOr (tNot (tB (tCall (sp__law_whole K) [] E0 (tCons (tIxU K (tVar 2) (tC (.int 2))) tNil)))) (tNot (tTest (tChain (rCmp K gLe) (rCmp K gLe) (tC (.int 1)) (tIxU K (tVar 2) (tC (.int 2))) (tC (.int 9))))))) (tRet (tC (.bl false))) tNext) (tSeq (tIfS (tAnd (tTest (tOp rNotN (tVar 1) (tC .non))) (tNot (tTest (tOp (rCmp K gLt) (tVar 1) (tSl (rSlU K) (tVar 2) tNoPart (tPart (tC (.int 2)))))))) (tRet (tC (.bl false))) tNext) (tAsg (tSl (rSlU K) (tVar 2) tNoPart (tPart (tC (.int 2)))) (gName 1)))))) (tRet (tC (.bl true))))))
theorem pure__law_is_table {K : Frag} (vs : List V) (H : Hp) (Q : VK) (E : XK) (h : sp__law_is_table K vs H Q E) : t__law_is_table K { nx := fun _ H' => Q .non H', rt := Q } (start ["value", "before", "one"] vs) H := by
  obtain ⟨v, d, rfl, hd, hs, hn, k⟩ := h
  have ht := tup_nl hn
  cases hq : isSeqD d with
  | false =>
    have e0 : isTableD d = false := by unfold isTableD; rw [hq]; rfl
    rw [e0] at k
    refine q_when (ρ := exR) (b := true) ((et_or (b := true) (et_not (et_B (ev_isi (ev_var rfl) hd rfl))) fun h1 => ?_).to (by rw [Bool.or_true])) (fun hb H1 e => s_retV (ρ := exR) ev_c fun H2 e2 => k H2 (e.trans e2).ext) (fun hb H1 e => by cases hb)
    rw [ht, hq] at h1
    cases h1
  | true =>
  obtain ⟨ds, rfl⟩ : ∃ ds, d = .tuple ds := by
    cases d with
    | tuple ds => exact ⟨ds, rfl⟩
    | list ds => cases hn
    | _ => cases hq
  obtain ⟨a, xs, rfl, ha, hA, hsq⟩ := hd.tupl
  have hlen := ha.length
  have hl1000 := sm_seq (.inr hs)
  have hnl : noLists ds = true := by simpa [noList] using hn
  have hsA : ∀ H1, exR.r H H1 → SqA K H1 a xs := fun H1 e => .inr (hsq K exR H1 e)
  refine q_when (ρ := exR) (et_or (et_not (et_B (ev_isi (ev_var rfl) hd rfl))) fun _ => et_test (ev_gt (ev_len (ev_var rfl) hsA) ev_c)) (fun hb H1 e => s_retV (ρ := exR) ev_c fun H2 e2 => ?_) (fun hb H1 e => ?_)
  · have hz : ¬ ds.length ≤ 8 := by
      rw [ht, hq] at hb
      have : decide (8 < (xs.length : Int)) = true := by simpa using hb
      have := of_decide_eq_true this
      omega
    have e0 : isTableD (.tuple ds) = false := by
      show (true && decide (ds.length ≤ 8) && _ && _) = false
      rw [decide_eq_false hz, Bool.and_false]
      rfl
    rw [e0] at k
    exact k H2 (e.trans e2).ext
  have hz : ds.length ≤ 8 := by
    rw [ht, hq] at hb
    have : decide (8 < (xs.length : Int)) = false := by simpa using hb
    have := of_decide_eq_false this
    omega
  refine q_asgV (ρ := exR) ev_c fun H2 e2 => ?_
  have e02 := e.trans e2
  refine q_for (ρ := exR) (n := xs.length) (ei_seq (ev_var rfl) (fun H3 e3 => hsA H3 (e02.trans e3)) (.inr fun H3 e3 => hsq K exR H3 (e02.trans e3))) fun H3 e3 => ⟨fun i σ' H' => exR.r H3 H' ∧ ∃ (bv : V) (ov : Option V), σ' = [some (.ref a), some bv, ov] ∧ (∀ (j : Nat) x, j < i → ds[j]? = some x → isFaultD x = true) ∧ (∀ (j : Nat) (x y : PyData), j + 1 < i → ds[j]? = some x → ds[j + 1]? = some y → PySem.W.dataLt (pairOf x) (pairOf y) = true) ∧ ((i = 0 ∧ bv = .non) ∨ ∃ (j : Nat) (x : PyData), i = j + 1 ∧ ds[j]? = some x ∧ DS exR H' bv (pairOf x)),
    ⟨.rfl, _, _, rfl, fun j _ h => absurd h (Nat.not_lt_zero j), fun j _ _ h => absurd h (Nat.not_lt_zero _), .inl ⟨rfl, rfl⟩⟩, fun i σ' H' _ p => p.1, ?_, ?_⟩
  · rintro i x σ' H' H'' hi ⟨r, bv, ov, rfl, hF, hR, hB⟩ ⟨e5, hx⟩
    subst e5
    have r0 : exR.r H H'' := e02.trans (e3.trans r)
    obtain ⟨d1, g1, g2⟩ := ha.get hx
    have g3 : DS exR H'' x d1 := r0.ds g2
    have hm := List.mem_of_getElem? g1
    have nl1 := noLists_mem hnl hm
    have sm1 := smAll_mem hl1000.2 hm
    have t1 := tup_nl nl1
    have bad : ∀ H4, exR.r H'' H4 → isFaultD d1 = false → Q (.bl false) H4 := fun H4 e4 hf => by
      have e0 : isTableD (.tuple ds) = false := table_nofault (i := i) g1 hf
      rw [e0] at k
      exact k H4 (r0.trans e4).ext
    cases hq1 : isSeqD d1 with
    | false =>
      refine q_when (ρ := exR) (b := true) ((et_or (b := true) (et_not (et_B (ev_isi (ev_var rfl) g3 rfl))) fun h1 => ?_).to (by rw [Bool.or_true])) (fun hb H1 e => s_retV (ρ := exR) ev_c fun H2 e2 => bad H2 (e.trans e2) (fault_seq hq1)) (fun hb H1 e => by cases hb)
      rw [t1, hq1] at h1
      cases h1
    | true =>
    obtain ⟨es, rfl⟩ : ∃ es, d1 = .tuple es := by
      cases d1 with
      | tuple es => exact ⟨es, rfl⟩
      | list es => cases nl1
      | _ => cases hq1
    obtain ⟨b, ys, rfl, hy, hbA, hsb⟩ := g3.tupl
    have ly := hy.length
    have hsbA : ∀ H1, exR.r H'' H1 → SqA K H1 b ys := fun H1 e => .inr (hsb K exR H1 e)
    have sme := (sm_seq (.inr sm1)).2
    by_cases h3 : es.length = 3
    · obtain ⟨m, w, c, rfl⟩ := three h3
      obtain ⟨y1, y2, y3, rfl, c1, c2, c3⟩ := hy.three
      have s3 : sm m = true ∧ sm w = true ∧ sm c = true := by simpa [smAll] using sme
      refine q_when (ρ := exR) (H := H'') (b := !(isPieceD m && isPieceD w)) ((et_or (b := !(isPieceD m && isPieceD w)) (et_not (et_B (ev_isi (ev_var rfl) g3 rfl))) fun _ => (et_or (b := !(isPieceD m && isPieceD w)) (et_test (ev_neI (ev_len (ev_var rfl) hsbA) ev_c)) fun _ => (et_or (et_not (et_B (ev_is_string (ev_ix (n := 0) (ev_var rfl) ev_c hsbA rfl rfl) ev_c c1 s3.1))) fun _ => et_not (et_B (ev_is_string (ev_ix (n := 1) (ev_var rfl) ev_c hsbA rfl rfl) ev_c c2 s3.2.1))).to ?_).to ?_).to ?_) (fun hb H4 e4 => s_retV (ρ := exR) ev_c fun H5 e5 => ?_) (fun hb H4 e4 => ?_)
      · rw [str2_piece, str2_piece]
        cases isPieceD m <;> cases isPieceD w <;> rfl
      · show (!decide (((3 : Nat) : Int) = 3) || _) = _
        rfl
      · rfl
      · refine bad H5 (e4.trans e5) ?_
        rw [fault_tup, notb hb, Bool.false_and]
        rfl
      have hp2 := notb' hb
      have hp3 : isPieceD m = true ∧ isPieceD w = true := by simpa using hp2
      obtain ⟨s, rfl, _⟩ := piece_str hp3.1
      obtain ⟨t, rfl, _⟩ := piece_str hp3.2
      cases c1
      cases c2
      have hsbA4 : ∀ H1, exR.r H4 H1 → SqA K H1 b [.str s, .str t, y3] := fun H1 e => hsbA H1 (e4.trans e)
      have c34 := e4.ds c3
      refine q_when (ρ := exR) (H := H4) (b := !(!decide (s = t) && isWholeD 1 9 c)) ((et_or (b := !isWholeD 1 9 c) (et_test (ev_eqS (ev_ix (n := 0) (ev_var rfl) ev_c hsbA4 rfl rfl) (ev_ix (n := 1) (ev_var rfl) ev_c hsbA4 rfl rfl))) fun _ => ?_).to ?_) (fun hb H5 e5 => s_retV (ρ := exR) ev_c fun H6 e6 => ?_) (fun hb H5 e5 => ?_)
      · cases hc : (isiB c "int" && !isiB c "bool") with
        | true =>
          obtain ⟨n, rfl, rfl⟩ := c34.inv_int hc
          refine (et_or (b := !isWholeD 1 9 (.int n)) (et_not (et_B (ev_B1 (F := fun d => isiB d "int" && !isiB d "bool") (ev_ix (n := 2) (ev_var rfl) ev_c hsbA4 rfl rfl) (.int n) s3.2.2))) fun _ => et_not (et_test (ev_chainLe ev_c (ev_ix (n := 2) (ev_var rfl) ev_c hsbA4 rfl rfl) ev_c))).to rfl
        | false =>
          have e0 : isWholeD 1 9 c = false := by
            cases c with
            | int i => exact absurd hc (by show ¬ (true && !false) = false; decide)
            | _ => rfl
          rw [e0]
          refine (et_or (b := true) (et_not (et_B (ev_B1 (F := fun d => isiB d "int" && !isiB d "bool") (ev_ix (n := 2) (ev_var rfl) ev_c hsbA4 rfl rfl) c34 s3.2.2))) fun h => ?_).to (by rw [Bool.or_true]; rfl)
          have h' : (!(isiB c "int" && !isiB c "bool")) = false := h
          rw [hc] at h'
          cases h'
      · cases decide (s = t) <;> cases isWholeD 1 9 c <;> rfl
      · refine bad H6 (e4.trans (e5.trans e6)) ?_
        rw [fault_tup, hp2, eqv_str, Bool.true_and]
        exact notb hb
      have hf : isFaultD (.tuple [.str s, .str t, c]) = true := by
        rw [fault_tup, hp2, eqv_str, Bool.true_and]
        exact notb' hb
      have hpr : pairOf (.tuple [.str s, .str t, c]) = .tuple [.str s, .str t] := rfl
      have e45 := e4.trans e5
      have gt5 : DS exR H5 (.ref b) (.tuple [.str s, .str t, c]) := e45.ds g3
      -- the end of a turn
      have fin : ∀ D : Ends, (∀ σ2 H2, (exR.r H3 H2 ∧ ∃ (bv : V) (ov : Option V), σ2 = [some (.ref a), some bv, ov] ∧ (∀ (j : Nat) x, j < i + 1 → ds[j]? = some x → isFaultD x = true) ∧ (∀ (j : Nat) (x y : PyData), j + 1 < i + 1 → ds[j]? = some x → ds[j + 1]? = some y → PySem.W.dataLt (pairOf x) (pairOf y) = true) ∧ ((i + 1 = 0 ∧ bv = .non) ∨ ∃ (j : Nat) (x : PyData), i + 1 = j + 1 ∧ ds[j]? = some x ∧ DS exR H2 bv (pairOf x))) → D.nx σ2 H2) → ∀ H6, exR.r H5 H6 → (∀ (j : Nat) (x : PyData), i = j + 1 → ds[j]? = some x → PySem.W.dataLt (pairOf x) (.tuple [.str s, .str t]) = true) → tAsg (tSl (rSlU K) (tVar 2) tNoPart (tPart (tC (.int 2)))) (gName 1) D [some (.ref a), some bv, some (.ref b)] H6 := fun D hD H6 e6 hlt =>
        s_asg (ρ := exR) (ev_slD Le.rfl (ev_var rfl) eo_none (eo_some ev_c) (e6.ds gt5)) fun u H7 e7 hu => hD _ _
          ⟨r.trans (e45.trans (e6.trans e7)), _, _, rfl, fun j x hj hx' => by
            by_cases z : j = i
            · subst z
              rw [g1] at hx'
              cases hx'
              exact hf
            · exact hF j x (by omega) hx', fun j x y hj hx' hy' => by
            by_cases z : j + 1 = i
            · subst z
              rw [g1] at hy'
              cases hy'
              exact hlt j x rfl hx'
            · exact hR j x y (by omega) hx' hy', .inr ⟨i, _, rfl, g1, hu⟩⟩
      rcases hB with ⟨hi0, rfl⟩ | ⟨j, x0, hij, hx0, hb0⟩
      · refine q_when (ρ := exR) (b := false) ((et_and (b := true) (et_test (ev_notN (v := .non) (ev_var rfl))) fun h => by cases h).to rfl) (fun hb H6 e6 => by cases hb) (fun _ H6 e6 => fin _ (fun _ _ h => h) H6 e6 fun j x hij => by omega)
      · have hf0 := hF j x0 (by omega) hx0
        obtain ⟨s0, t0, n0, p0, _⟩ := fault_parts hf0
        have pr0 := pair_fault p0
        rw [pr0] at hb0
        have hbn : bv ≠ .non := by cases hb0; intro z; cases z
        refine q_when (ρ := exR) (b := !PySem.W.dataLt (pairOf x0) (.tuple [.str s, .str t])) ((et_and (b := !PySem.W.dataLt (pairOf x0) (.tuple [.str s, .str t])) (et_test (ev_notN (ev_var rfl))) fun _ => et_not (et_test ((ev_cmp2 (g := gLt) (e := .tuple [.str s, .str t]) (ev_var rfl) (e45.ds hb0) (ev_slD Le.rfl (ev_var rfl) eo_none (eo_some ev_c) gt5) rfl (by simp) (by show (1 : Nat) ≤ 64; decide)).val (by rw [pr0])))).to ?_) (fun hb H6 e6 => s_retV (ρ := exR) ev_c fun H7 e7 => ?_) (fun hb H6 e6 => fin _ (fun _ _ h => h) H6 e6 fun j' x' hij' hx' => ?_)
        · rw [decide_eq_false hbn]
          rfl
        · have e0 : isTableD (.tuple ds) = false := table_norise (j := j) (y := .tuple [.str s, .str t, c]) hx0 (by rw [← hij]; exact g1) (notb hb)
          rw [e0] at k
          exact k H7 (r0.trans (e45.trans (e6.trans e7))).ext
        · have : j' = j := by omega
          subst this
          rw [hx0] at hx'
          cases hx'
          exact notb' hb
    · refine q_when (ρ := exR) (b := true) ((et_or (b := true) (et_not (et_B (ev_isi (ev_var rfl) g3 rfl))) fun _ => (et_or (b := true) (et_test (ev_neI (ev_len (ev_var rfl) hsbA) ev_c)) fun h => ?_).to (by rw [Bool.or_true])).to (by rw [Bool.or_true])) (fun hb H4 e4 => s_retV (ρ := exR) ev_c fun H5 e5 => bad H5 (e4.trans e5) ?_) (fun hb H1 e => by cases hb)
      · have h' := of_decide_eq_true (notb' h)
        exact absurd h' (by omega)
      · refine fault_no ?_
        cases q : twoPieces es with
        | false => rfl
        | true =>
          obtain ⟨s, t, c, e1, _⟩ := two_of q
          rw [e1] at h3
          exact absurd rfl h3
  · rintro σ' H' ⟨r, bv, ov, rfl, hF, hR, hB⟩
    have e0 : isTableD (.tuple ds) = true := table_yes rfl hz (fun x hx => by
      obtain ⟨j, hj, e⟩ := List.mem_iff_getElem.mp hx
      exact hF j x (by have : j < ds.length := hj; omega) (by rw [← e]; exact List.getElem?_eq_getElem hj)) fun j x y a b => hR j x y (by have := (List.getElem?_eq_some_iff.mp b).1; have : j + 1 < ds.length := this; omega) a b
    rw [e0] at k
    exact s_retV (ρ := exR) ev_c fun H4 e4 => k H4 (e02.trans (e3.trans (r.trans e4))).ext
end Slip
/-! sorted -/
namespace Slip
open PySem PySem.Spec PyProof.Rows L2
def kD : Key → PyData
  | .inl i => .int i
  | .inr s => .str s
abbrev keyT (k : List Key) : PyData := .tuple (k.map kD)
theorem kd_dp {K : Frag} {H : Hp} (k : Key) : Dp K H (kV k) (kD k) := by
  cases k with
  | inl i => exact .int i
  | inr s => exact .str s
theorem kds_dp {K : Frag} {H : Hp} : ∀ k : List Key, DpAll K H (k.map kV) (k.map kD)
  | [] => .nil
  | a :: r => .cons (kd_dp a) (kds_dp r)
theorem kds_depth : ∀ k : List Key, PyData.depthAll (k.map kD) = 0
  | [] => rfl
  | a :: r => by
    show max (kD a).depth (PyData.depthAll (r.map kD)) = 0
    rw [kds_depth r]
    cases a <;> rfl
/-- sorted(d), the keys tuples -/
def rSortT : RCa := fun xs H Q => ∃ (a : Addr) (kvs : List (List Key × V)), xs = [.ref a] ∧ Rd H a (.dT kvs) ∧ kvs.length ≤ 90000 ∧ PySem.W.AllAlike (kvs.map fun p => keyT p.1) ∧ (∀ p ∈ kvs, p.1 ≠ []) ∧
  ∀ p (ys : List (List Key × Addr)), (ys.map (·.1)).Perm (kvs.map (·.1)) → (ys.map (·.1)).Nodup → (∀ b ∈ ys, H b.2 = some (.tup (b.1.map kV))) → ys.Pairwise (fun b c => PySem.W.dataLt (keyT c.1) (keyT b.1) = false) → H p = none → Q (.ref p) (upd H p (.lst (ys.map fun b => V.ref b.2)))
section
variable {X : Cx}
theorem call_sortT (hc : X.calm = true) (hu : X.A.units + 64 < cLine) : CallR X (.builtin "sorted") rSortT := by
  intro pins s σ H xs us Q I r q
  obtain ⟨a, kvs, rfl, hd, h9, hal, hne, q⟩ := q
  obtain ⟨u, rfl, rx⟩ := r.one
  cases rx
  obtain ⟨z, hs, ks, pr, o, es, ep, ho, hx, hdt, he, hn⟩ := (show ObjOk X.prog X.w H s.heap a (.dT kvs) from hd.ok I.hok)
  have l1 : es.size = ks.length := size_of_entries he
  have l2 : kvs.length = ks.length := Paired.length pr
  refine Calls.call_function_entry PyProof.Rows.kind_sorted PyProof.Rows.plain_sorted PyProof.Rows.entry_sorted (PyProof.Rows.args_sorted1 _) ?_
  unfold Builtin.«sorted»
  refine wpAny_bind (m := checkCount "sorted" 1 1 _) (wpAny_pure ?_)
  refine wpAny_bind (PySem.W.kdu_collect (A := X.A.in1) (kdl_raw hs hx hdt) (I.ok.hd hc) ho (by omega) fun h' tk acc hk it => ?_)
  have ea : acc.toList = ks.map fun x => Value.ref x.2.1 := by
    have hl : acc.toList.length = ks.length := by rw [Array.length_toList, it.1]; exact l1
    apply List.ext_getElem?
    intro j
    rw [List.getElem?_map]
    cases hj : acc.toList[j]? with
    | none =>
      have h1 := List.getElem?_eq_none_iff.mp hj
      rw [List.getElem?_eq_none (by omega)]
      all_goals rfl
    | some v =>
      obtain ⟨en, hen, hv⟩ := it.2 j v (by rw [← Array.getElem?_toList]; exact hj)
      have qe := entry_at he j
      rw [hen] at qe
      cases hb : ks[j]? with
      | none =>
        rw [hb] at qe
        exact nomatch (show some en = none from qe)
      | some b =>
        rw [hb] at qe
        have e2 : en = entryOfKey (tupleKind (mixKind X.prog X.w)) b := Option.some.inj qe
        rw [hv, e2]
        all_goals rfl
  have I1 : Inv X pins σ H { s with heap := h', toks := tk } := I.kept hk
  have hlen : acc.toList.length = ks.length := by rw [ea, List.length_map]
  have hz : acc.toList.length ≤ sizeLine := by rw [sizeLine_eq]; omega
  refine wpAny_bind (wpAny_newList ?_ hz)
  have hoL : (h'.push (seqObj "list" acc.toList.toArray 0)).get? h'.objs.size = some (seqObj "list" acc.toList.toArray 0) := Heap.get?_push_size _ rfl
  show wpAny _ _ _ _ _ { s with heap := h'.push (seqObj "list" acc.toList.toArray 0), toks := tk }
  -- the keys, each with its place
  have hkey : ∀ b ∈ (ks.map fun x => (x.1, x.2.1)), H b.2 = some (.tup (b.1.map kV)) := by
    intro b hb
    obtain ⟨x, hx1, rfl⟩ := List.mem_map.mp hb
    have all : ∀ {l : List (List Key × V)} {m : List (List Key × Addr × Value)}, KT H l m → ∀ x ∈ m, H x.2.1 = some (.tup (x.1.map kV)) := by
      intro l m q
      induction q with
      | nil => intro x hx; exact nomatch hx
      | @cons p q ps qs hq t ih =>
        intro x hx
        rcases List.mem_cons.mp hx with e | hx
        · subst e
          rw [← hq.1]
          exact hq.2.1
        · exact ih x hx
    exact all pr x hx1
  have hsame : (ks.map fun x => (x.1, x.2.1)).map (·.1) = kvs.map (·.1) := by
    rw [List.map_map]
    have all : ∀ {l : List (List Key × V)} {m : List (List Key × Addr × Value)}, KT H l m → m.map (fun x => x.1) = l.map (·.1) := by
      intro l m q
      induction q with
      | nil => rfl
      | @cons p q ps qs hq t ih =>
        rw [List.map_cons, List.map_cons, ih, hq.1]
    exact all pr
  have hT : ∀ b ∈ (ks.map fun x => (x.1, x.2.1)), ∃ as, Reads h' (Value.ref b.2) (keyT b.1) as := fun b hb =>
    Dp.reads I1 (keyT b.1) (.ref b.2) (.ref b.2) (.tup (.inl (.inl (hkey b hb))) (kds_dp _)) rfl
  have er : PySem.W.EachIs (fun v b => v = Value.ref b.2 ∧ b ∈ (ks.map fun x => (x.1, x.2.1))) acc.toList (ks.map fun x => (x.1, x.2.1)) := by
    rw [ea]
    have gen : ∀ (l m : List (List Key × Addr × Value)), (∀ x ∈ m, x ∈ l) → PySem.W.EachIs (fun v b => v = Value.ref b.2 ∧ b ∈ (l.map fun x => (x.1, x.2.1))) (m.map fun x => Value.ref x.2.1) (m.map fun x => (x.1, x.2.1)) := by
      intro l m
      induction m with
      | nil => intro _; exact .nil
      | cons x m ih =>
        intro h
        exact .cons ⟨rfl, List.mem_map.mpr ⟨x, h x (List.mem_cons_self ..), rfl⟩⟩ (ih fun y hy => h y (List.mem_cons_of_mem _ hy))
    exact gen ks ks fun x h => h
  have al2 : PySem.W.AllAlike ((ks.map fun x => (x.1, x.2.1)).map fun b => keyT b.1) := by
    have e : (ks.map fun x => (x.1, x.2.1)).map (fun b => keyT b.1) = kvs.map fun p => keyT p.1 := by
      rw [show (fun b : List Key × Addr => keyT b.1) = keyT ∘ (·.1) from rfl, ← List.map_map, hsame, List.map_map]
      rfl
    rw [e]
    exact hal
  have sb : PySem.W.Sortable ((ks.map fun x => (x.1, x.2.1)).map fun b => keyT b.1) := .inl fun d hd => by
    obtain ⟨b, hb, rfl⟩ := List.mem_map.mp hd
    have hm : b.1 ∈ kvs.map (·.1) := by rw [← hsame]; exact List.mem_map.mpr ⟨b, hb, rfl⟩
    obtain ⟨p, hp, e⟩ := List.mem_map.mp hm
    have := hne p hp
    cases hq : b.1 with
    | nil => exact absurd (e.trans hq) this
    | cons k r => exact ⟨kD k, r.map kD, rfl⟩
  have room : ∀ b ∈ (ks.map fun x => (x.1, x.2.1)), X.A.in1.in1.units + (keyT b.1).depth < cLine := fun b _ => by
    have e1 : (keyT b.1).depth = 1 := by show PyData.depthAll (b.1.map kD) + 1 = 1; rw [kds_depth]
    rw [e1]
    have e2 : X.A.in1.in1.units = X.A.units + 1 + 1 := rfl
    omega
  have old : ∀ b o, h'.get? b = some o → (PySem.W.sortingHeap (h'.push (seqObj "list" acc.toList.toArray 0)) h'.objs.size acc.toList).get? b = some o := fun b o e =>
    PySem.W.sortingHeap_old (Nat.ne_of_lt (Heap.lt_size e)) (Heap.get?_push_of_some _ e)
  have er2 : PySem.W.EachIs (fun v b => ∃ as, Reads (PySem.W.sortingHeap (h'.push (seqObj "list" acc.toList.toArray 0)) h'.objs.size acc.toList) v (keyT b.1) as) acc.toList (ks.map fun x => (x.1, x.2.1)) := er.mono fun v b ⟨e, hb⟩ => by
    obtain ⟨as, r⟩ := hT b hb
    rw [e]
    exact ⟨as, PyProof.Rows.Reads.keeps old r⟩
  refine wpAny_bind (wpAny_holding (wpAny_call_entry PyProof.Rows.slot_list_sort ⟨_, hoL, rfl⟩ PyProof.Rows.entry_list_sort
    (PySem.W.list_sort_vals (s := { s with heap := h'.push (seqObj "list" acc.toList.toArray 0), toks := tk }) hoL (PySem.W.SortsAt.data (s := { s with heap := PySem.W.sortingHeap (h'.push (seqObj "list" acc.toList.toArray 0)) h'.objs.size acc.toList, toks := tk }) (PySem.W.each_map (R := fun v d => ∃ as, Reads (PySem.W.sortingHeap (h'.push (seqObj "list" acc.toList.toArray 0)) h'.objs.size acc.toList) v d as) (fun b : List Key × Addr => keyT b.1) er2) al2 sb (PySem.W.bound_map room)) hz ⟨_, rfl, ?_⟩)
    (PyProof.Rows.args_list_sort _)))
  have out := PySem.W.sortVals_data (h' := PySem.W.sortingHeap (h'.push (seqObj "list" acc.toList.toArray 0)) h'.objs.size acc.toList) (R := fun v b => v = Value.ref b.2 ∧ b ∈ (ks.map fun x => (x.1, x.2.1))) (enc := fun b : List Key × Addr => keyT b.1) false er er2 al2
  have eo : PySem.W.sortVals (PySem.W.dataKind (PySem.W.sortingHeap (h'.push (seqObj "list" acc.toList.toArray 0)) h'.objs.size acc.toList) ((ks.map fun x => (x.1, x.2.1)).map fun b => keyT b.1)) false acc.toList acc.toList = ((ks.map fun x => (x.1, x.2.1)).mergeSort (PySem.W.dataLe false fun b => keyT b.1)).map (fun b => Value.ref b.2) := by
    have gen : ∀ {l : List Value} {m : List (List Key × Addr)}, PySem.W.EachIs (fun v b => v = Value.ref b.2 ∧ b ∈ (ks.map fun x => (x.1, x.2.1))) l m → l = m.map fun b => Value.ref b.2 := by
      intro l m h
      induction h with
      | nil => rfl
      | cons h t ih => rw [List.map_cons, h.1, ih]
    exact gen out
  have pm : ((ks.map fun x => (x.1, x.2.1)).mergeSort (PySem.W.dataLe false fun b => keyT b.1)).Perm (ks.map fun x => (x.1, x.2.1)) := List.mergeSort_perm _ _
  have pw := PySem.W.sort_pairwise (PySem.W.sortLe_total (listOrd itemOrd) false fun b : List Key × Addr => PySem.W.keyToks (keyT b.1)) (ks.map fun x => (x.1, x.2.1))
  generalize hys : (ks.map fun x => (x.1, x.2.1)).mergeSort (PySem.W.dataLe false fun b => keyT b.1) = ys at eo pm
  have pw' : ys.Pairwise fun b c => PySem.W.dataLt (keyT c.1) (keyT b.1) = false := by
    rw [← hys]
    refine pw.imp fun {b c} h => ?_
    have h' : (!PySem.W.dataLt (keyT c.1) (keyT b.1)) = true := h
    exact notb h'
  rw [eo]
  obtain ⟨e', he'⟩ := PyProof.Rows.sortedHeap_at (vs := acc.toList) (out := (ys.map fun b => Value.ref b.2).toArray) hoL
  have hpm := pm.map (·.1)
  rw [hsame] at hpm
  have hlen2 : (ys.map fun b => V.ref b.2).length ≤ sizeLine := by
    rw [List.length_map, pm.length_eq, List.length_map, sizeLine_eq]
    omega
  have hvals : Vals (ys.map fun b => V.ref b.2) (ys.map fun b => Value.ref b.2) := by
    have gen : ∀ l : List (List Key × Addr), Vals (l.map fun b => V.ref b.2) (l.map fun b => Value.ref b.2) := fun l => by
      induction l with
      | nil => exact .nil
      | cons x l ih => exact .cons rfl ih
    exact gen ys
  have hnd : (ys.map (·.1)).Nodup := by
    have h1 : (kvs.map (·.1)).Nodup := by
      rw [← hsame, List.map_map]
      exact hn
    exact hpm.nodup_iff.mpr h1
  refine wpAny_pure ⟨_, rfl, .ref h'.objs.size, upd H h'.objs.size (.lst (ys.map fun b => V.ref b.2)), I1.laid (t' := tk) (fun b u e => ?_) (Nat.le_refl _)
    (show ObjOk X.prog X.w _ _ _ (.lst (ys.map fun b => V.ref b.2)) from ⟨hlen2, ys.map fun b => Value.ref b.2, e', hvals, he'⟩), rfl, q _ ys hpm hnd (fun b hb => hkey b (pm.mem_iff.mp hb)) pw' (I1.hok.fresh (Nat.le_refl _))⟩
  have hb : b < h'.objs.size := Heap.lt_size e
  rw [PyProof.Rows.sortedHeap_old (Nat.ne_of_lt hb) (by rw [size_push']; exact Nat.lt_succ_of_lt hb)]
  exact Heap.get?_push_of_some _ e
end
def rSortU (K : Frag) : RCa := rSortT
theorem call_sortU {X : Cx} (hc : X.calm = true) (hu : X.A.units + 64 < cLine) : CallR X (.builtin "sorted") (rSortU X.K) := call_sortT hc hu
end Slip
/-! a drawn table -/
namespace Slip
open PySem PySem.Spec PyProof.Rows L2
/-! ### order -/
theorem toks_same {x y : PyData} (al : PySem.W.alike x y = true) (h : PySem.W.keyToks x = PySem.W.keyToks y) : PyData.eqv x y = true := by
  cases q : PyData.eqv x y with
  | true => rfl
  | false =>
    have h1 := (PySem.W.toks_eqv x y al).2 q [] [.inl 0]
    have h2 := PySem.W.lex_pre (PySem.W.keyToks y) [] [.inl 0]
    rw [h, h2, lex_irrefl] at h1
    exact absurd h1 (by decide)
theorem lt_strict {x y : PyData} (al : PySem.W.alike x y = true) (ne : PyData.eqv x y = false) (h : PySem.W.dataLt y x = false) : PySem.W.dataLt x y = true := by
  cases q : PySem.W.dataLt x y with
  | true => rfl
  | false =>
    have := toks_same al (lex_total (O := itemOrd) _ _ q h)
    rw [ne] at this
    cases this
theorem put_mem {κ : Type} [DecidableEq κ] {kvs : List (κ × V)} {k : κ} {v : V} {p : κ × V} (h : p ∈ putK kvs k v) : p ∈ kvs ∨ p = (k, v) := by
  unfold putK at h
  split at h
  · obtain ⟨q, hq, e⟩ := List.mem_map.mp h
    by_cases z : q.1 = k
    · rw [if_pos z] at e
      right
      rw [← e, z]
    · rw [if_neg z] at e
      left
      rw [← e]
      exact hq
  · rcases List.mem_append.mp h with h | h
    · exact .inl h
    · exact .inr (by simpa using h)
theorem val_mem {κ : Type} [DecidableEq κ] : ∀ {kvs : List (κ × V)} {p : κ × V}, p ∈ kvs → ∃ v, valV kvs p.1 = some v ∧ (p.1, v) ∈ kvs
  | q :: kvs, p, h => by
    by_cases z : q.1 = p.1
    · exact ⟨q.2, valV_pos z, by rw [← z]; exact List.mem_cons_self ..⟩
    · rcases List.mem_cons.mp h with rfl | h
      · exact absurd rfl z
      · obtain ⟨v, h1, h2⟩ := val_mem h
        exact ⟨v, by rw [valV_neg z, h1], List.mem_cons_of_mem _ h2⟩
/-! ### tables -/
def Ent (p : List Key × V) : Prop := ∃ (s t : Str) (c : Int), p = ([.inr s, .inr t], .int c) ∧ isPieceD (.str s) = true ∧ isPieceD (.str t) = true ∧ s ≠ t ∧ 1 ≤ c ∧ c ≤ 9
def entD (kvs : List (List Key × V)) (k : List Key) : PyData :=
  match k, valV kvs k with
  | [.inr s, .inr t], some (.int c) => .tuple [.str s, .str t, .int c]
  | _, _ => .none
theorem ent_at {kvs : List (List Key × V)} (he : ∀ p ∈ kvs, Ent p) {k : List Key} (hk : k ∈ kvs.map (·.1)) : ∃ (s t : Str) (c : Int), k = [.inr s, .inr t] ∧ valV kvs k = some (.int c) ∧ entD kvs k = .tuple [.str s, .str t, .int c] ∧ isPieceD (.str s) = true ∧ isPieceD (.str t) = true ∧ s ≠ t ∧ 1 ≤ c ∧ c ≤ 9 := by
  obtain ⟨p, hp, rfl⟩ := List.mem_map.mp hk
  obtain ⟨v, hv, hm⟩ := val_mem hp
  obtain ⟨s, t, c, e, h1, h2, h3, h4, h5⟩ := he _ hm
  have e1 : p.1 = [.inr s, .inr t] := congrArg Prod.fst e
  have e2 : v = .int c := congrArg Prod.snd e
  rw [e2] at hv
  refine ⟨s, t, c, e1, hv, ?_, h1, h2, h3, h4, h5⟩
  rw [e1] at hv ⊢
  unfold entD
  rw [hv]
theorem table_of {kvs : List (List Key × V)} {ys : List (List Key × Addr)} (he : ∀ p ∈ kvs, Ent p) (hp : (ys.map (·.1)).Perm (kvs.map (·.1))) (nd : (ys.map (·.1)).Nodup) (pw : ys.Pairwise (fun b c => PySem.W.dataLt (keyT c.1) (keyT b.1) = false)) (h8 : kvs.length ≤ 8) :
    isTableD (.tuple (ys.map fun b => entD kvs b.1)) = true := by
  have hl : ys.length = kvs.length := by
    have := hp.length_eq
    rwa [List.length_map, List.length_map] at this
  have at_ : ∀ (j : Nat) b, ys[j]? = some b → ∃ (s t : Str) (c : Int), b.1 = [.inr s, .inr t] ∧ valV kvs b.1 = some (.int c) ∧ entD kvs b.1 = .tuple [.str s, .str t, .int c] ∧ isPieceD (.str s) = true ∧ isPieceD (.str t) = true ∧ s ≠ t ∧ 1 ≤ c ∧ c ≤ 9 := fun j b hb =>
    ent_at he (hp.mem_iff.mp (List.mem_map.mpr ⟨b, List.mem_of_getElem? hb, rfl⟩))
  refine table_yes rfl (by show (ys.map _).length ≤ 8; rw [List.length_map]; omega) (fun x hx => ?_) fun j x y a b => ?_
  · obtain ⟨b, hb, rfl⟩ := List.mem_map.mp (show x ∈ ys.map fun b => entD kvs b.1 from hx)
    obtain ⟨j, hj, e⟩ := List.mem_iff_getElem.mp hb
    obtain ⟨s, t, c, _, _, e3, h1, h2, h3, h4, h5⟩ := at_ j b (by rw [← e]; exact List.getElem?_eq_getElem hj)
    show isFaultD (entD kvs b.1) = true
    rw [e3, fault_tup, h1, h2, eqv_str, decide_eq_false h3]
    show (decide ((1 : Int) ≤ c) && decide (c ≤ 9)) = true
    rw [decide_eq_true h4, decide_eq_true h5]
    rfl
  · have a' : (ys.map fun b => entD kvs b.1)[j]? = some x := a
    have b' : (ys.map fun b => entD kvs b.1)[j + 1]? = some y := b
    rw [List.getElem?_map] at a' b'
    cases qa : ys[j]? with
    | none => rw [qa] at a'; cases a'
    | some u =>
    cases qb : ys[j + 1]? with
    | none => rw [qb] at b'; cases b'
    | some w =>
    rw [qa] at a'
    rw [qb] at b'
    cases a'
    cases b'
    obtain ⟨hj, ej⟩ := List.getElem?_eq_some_iff.mp qa
    obtain ⟨hk, ek⟩ := List.getElem?_eq_some_iff.mp qb
    have h1 := List.pairwise_iff_getElem.mp pw j (j + 1) hj hk (Nat.lt_succ_self j)
    rw [ej, ek] at h1
    have h2 := List.pairwise_iff_getElem.mp nd j (j + 1) (by rw [List.length_map]; exact hj) (by rw [List.length_map]; exact hk) (Nat.lt_succ_self j)
    rw [List.getElem_map, List.getElem_map, ej, ek] at h2
    obtain ⟨s, t, c, k1, _, e1, _⟩ := at_ j u qa
    obtain ⟨s', t', c', k2, _, e2, _⟩ := at_ (j + 1) w qb
    show PySem.W.dataLt (pairOf (entD kvs u.1)) (pairOf (entD kvs w.1)) = true
    rw [e1, e2, pair_fault (d := .tuple [.str s, .str t, .int c]) rfl, pair_fault (d := .tuple [.str s', .str t', .int c']) rfl]
    rw [k1, k2] at h1 h2
    refine lt_strict rfl ?_ h1
    cases q : PyData.eqv (.tuple [.str s, .str t]) (.tuple [.str s', .str t']) with
    | false => rfl
    | true =>
      have q' : (PyData.eqv (.str s) (.str s') && (PyData.eqv (.str t) (.str t') && true)) = true := q
      rw [eqv_str, eqv_str, Bool.and_true] at q'
      have q2 : s = s' ∧ t = t' := by simpa using q'
      rw [q2.1, q2.2] at h2
      exact absurd rfl h2
theorem piece_of {s : Str} (h : s.length ≤ 2) (hc : ∀ c ∈ s.cps.toList, c ∈ letters) : isPieceD (.str s) = true := by
  show ((s.cps.toList.all fun c => decide (c ∈ letters)) && decide ((s.length : Int) ≤ 2)) = true
  rw [decide_eq_true (by omega), Bool.and_true, List.all_eq_true]
  exact fun c h => decide_eq_true (hc c h)
/-! ### rules -/
section
variable {ρ : Rl} {K : Frag} {σ : L2.St} {H : Hp} {ta tb te : TE} {xs : List V} {R : V → Hp → Prop} {wi : TI} {g : TG} {tt : TT} {vs : List Nat} {C : Nat → (Nat → Hp → V → Hp → Prop) → Prop}
/-- a list display, at a drawn place -/
theorem ev_ixNew (h1 : Ev ρ ta σ H (fun v H2 => ∃ p, v = .ref p ∧ ¬ ρ.S p ∧ H2 p = some (.lst xs))) (h2 : ∀ H1, ρ.r H H1 → Ev ρ tb σ H1 (fun v _ => ∃ m : Int, v = .int m ∧ 0 ≤ m ∧ m < (xs.length : Int))) : Ev ρ (tIxU K ta tb) σ H (fun v _ => ∃ m : Nat, xs[m]? = some v) :=
  fun H1 e1 Q q => .inl (h1 H1 e1 _ fun v H2 e2 ⟨p, ev, nS, hp⟩ => h2 H2 (e1.trans e2) H2 .rfl _ fun w H3 e3 ⟨m, ew, h0, hm⟩ => by
    subst ev ew
    have hm' : m.toNat < xs.length := by omega
    have g : xs[m.toNat]? = some xs[m.toNat] := List.getElem?_eq_getElem hm'
    have g2 : atI xs m = some xs[m.toNat] := by
      have := atI_nat g
      rwa [show ((m.toNat : Nat) : Int) = m by omega] at this
    exact .inl ⟨p, xs, m, _, rfl, rfl, .of (e3.keep _ _ nS hp), g2, q _ H3 (e2.trans e3) ⟨_, g⟩⟩)
/-- a new list of known things -/
theorem ev_lstN {ts : TA} (own : Own ρ H) (h : EvAV ρ ts σ H xs) (hl : xs.length ≤ 100000) : Ev ρ (tLst ts) σ H (fun v H2 => ∃ p, v = .ref p ∧ ¬ ρ.S p ∧ H2 p = some (.lst xs)) :=
  (ev_lst h fun vs H1 _ e => by rw [e]; exact hl).imp fun v H2 r ⟨p, vs, H1, ev, evs, hp, r1, eH⟩ => by
    subst ev evs
    exact ⟨p, rfl, (own.r r1).fresh hp, by rw [eH]; exact upd_same⟩
/-- a comprehension over what is not known ahead -/
theorem ev_lcx (hI : EvIx ρ wi σ H C) (h : ∀ n Y H1 J, C n Y → ρ.r H H1 → EvI ρ (fun _ H2 R => R J H2) σ H1 n Y → Ev ρ (tLc (fun _ H2 R => R J H2) g tt te vs) σ H1 R) : Ev ρ (tLc wi g tt te vs) σ H R := fun H0 e0 Q q =>
  hI H0 e0 _ fun n Y J H2 c e2 w => h n Y H2 J c (e0.trans e2) (fun H1 e1 R k => k J H1 .rfl (w.mono (fun H3 e3 => e1.trans e3) fun _ _ _ _ _ _ y => y)) H2 .rfl Q fun v H3 e3 r => q v H3 (e2.trans e3) r
/-- another dict at D -/
theorem r_chgT {D : Addr} {kvs kvs' : List (List Key × V)} (h : H D = some (.dT kvs)) (n : ¬ ρ.S D) : (ρ.and D).r H (upd H D (.dT kvs')) :=
  ⟨fun a o s q => by rw [upd_ne (fun z => s (.inr z))]; exact q,
   fun a q => by
    by_cases z : a = D
    · subst z; rw [upd_same] at q; cases q
    · rw [upd_ne z] at q; exact q,
   fun a xs q => by rw [upd_ne (ne_of q h (by intro z; cases z))]; exact q, fun a o u q => by rw [upd_ne (ne_of q h (by intro z; cases z))]; exact q,
   fun a p ⟨k, h0, q⟩ => ⟨k, h0, by rw [upd_ne (fun z : a = D => n (z ▸ ρ.sub a p))]; exact q⟩⟩
end
/-- sorted(d), walked -/
theorem eix_sortT {ρ : Rl} {K : Frag} {σ : L2.St} {H : Hp} {te : TE} {D : Addr} {kvs : List (List Key × V)} (own : Own ρ H) (h : EvV ρ te σ H (.ref D)) (hD : ∀ H1, ρ.r H H1 → H1 D = some (.dT kvs)) (hl : kvs.length ≤ 90000) (al : PySem.W.AllAlike (kvs.map fun p => keyT p.1)) (ne : ∀ p ∈ kvs, p.1 ≠ []) :
    EvIx ρ (iSeq K (tCB (rSortU K) (tCons te tNil))) σ H (fun n Y => ∃ ys : List (List Key × Addr), (ys.map (·.1)).Perm (kvs.map (·.1)) ∧ (ys.map (·.1)).Nodup ∧ ys.Pairwise (fun b c => PySem.W.dataLt (keyT c.1) (keyT b.1) = false) ∧ n = ys.length ∧ Y = fun i H v H' => H' = H ∧ ∃ b, ys[i]? = some b ∧ v = .ref b.2 ∧ H b.2 = some (.tup (b.1.map kV))) := fun H1 e1 R k =>
  .inl (h H1 e1 _ fun v H2 e2 ev => by
    subst ev
    refine ⟨D, kvs, rfl, .inl (hD H2 (e1.trans e2)), hl, al, ne, fun p ys hp hn hk pw hnew => ⟨p, rfl, ⟨_, .of upd_same⟩, ?_⟩⟩
    have nS : ¬ ρ.S p := (own.r (e1.trans e2)).fresh hnew
    have r2 : ρ.r H2 (upd H2 p (.lst (ys.map fun b => V.ref b.2))) := r_new _ hnew
    refine k ys.length _ _ _ ⟨ys, hp, hn, pw, rfl, rfl⟩ (e2.trans r2) ?_
    have w := walk_list (K := K) (a := p) (xs := ys.map fun b => V.ref b.2)
    rw [List.length_map] at w
    refine w.mono (fun H3 e3 => .of (e3.keep _ _ nS upd_same)) fun i H3 v H4 hi e3 y => ⟨y.1, ?_⟩
    have y2 := y.2
    rw [List.getElem?_map] at y2
    cases q : ys[i]? with
    | none => rw [q] at y2; cases y2
    | some b =>
      rw [q] at y2
      cases y2
      exact ⟨b, rfl, rfl, (r2.trans e3).tup _ _ (hk b (List.mem_of_getElem? q))⟩)
def sp__law_table (K : Frag) : Sp := fun vs H Q _ => ∃ (ra sp : Addr) (many : Int) (z : Str), vs = [.ref ra, .ref sp, .int many, .str z] ∧ Dr K ra sp H ∧ 0 ≤ many ∧ many ≤ 8 ∧ Few z ∧ ∀ v ds H', (spR sp).r H H' → DS (spR sp) H' v (.tuple ds) → noLists ds = true → isTableD (.tuple ds) = true → Q v H'
theorem len__law_table {K : Frag} {vs : List V} {H : Hp} {Q : VK} {E : XK} (h : sp__law_table K vs H Q E) : vs.length = 4 := by
  obtain ⟨ra, sp, m, z, rfl, _⟩ := h
  rfl
def t__law_table (K : Frag) : TS := (tSeq (tAsg tDNewT (gName 4)) (tSeq (tFor (iRng1 (tCons (tCall (sp__law_take K) [] E0 (tCons (tVar 0) (tCons (tVar 1) (tCons (tOp (rAddU K) (tVar 2) (tC (.int 1))) tNil)))) tNil)) (gName 5) (tSeq (tAsg (tCall (sp__law_take K) [] E0 (tCons (tVar 0) (tCons (tVar 1) (tCons (tC (.int 6)) tNil)))) (gName 6)) (tSeq (tAsg (tCall (sp__law_letters K) [] E0 (tCons (tVar 0) (tCons (tVar 1) (tCons (tC (.int 2)) (tCons (tVar 3) tNil))))) (gName 7)) (tSeq (tAsg (tCall (sp__law_letters K) [] E0 (tCons (tVar 0) (tCons (tVar 1) (tCons (tC (.int 2)) (tCons (tVar 3) tNil))))) (gName 8)) (tSeq (tIfS (tTest (tOp (rEqU K) (tVar 6) (tC (.int 0)))) (tAsg (tC (.str "")) (gName 7)) (tIfS (tTest (tOp (rEqU K) (tVar 6) (tC (.int 1)))) (tAsg (tC (.str "")) (gName 8)) (tIfS (tAnd (tTest (tOp (rEqU K) (tVar 6) (tC (.int 2)))) (tTest (tOp (rEqU K) (tCB (rLenU K) (tCons (tVar 7) tNil)) (tC (.int 2))))) (tAsg (tOp (rAddU K) (tIxU K (tVar 7) (tC (.int 1))) (tIxU K (tVar 7) (tC (.int 0)))) (gName 8)) tNext))) (tIfS (tTest (tOp (rNeU K) (tVar 7) (tVar 8))) (tAsg (tOp (rAddU K) (tC (.int 1)) (tCall (sp__law_take K) [] E0 (tCons (tVar 0) (tCons (tVar 1) (tCons (tIxU K (tLst (tCons (tC (.int 2)) (tCons (tC (.int 3)) (tCons (tC (.int 9)) tNil)))) (tCall (sp__law_take K) [] E0 (tCons (tVar 0) (tCons (tVar 1) (tCons (tC (.int 3)) tNil))))) tNil))))) (gSub (tVar 4) (tTup (tCons (tVar 7) (tCons (tVar 8) tNil))) (rSetU K))) tNext)))))) (tRet (tCB (rTupOf K) (tCons (tLc (iSeq K (tCB (rSortU K) (tCons (tVar 4) tNil))) (gName 7) tYes (tOp (rAddU K) (tVar 7) (tTup (tCons (tIxU K (tVar 4) (tVar 7)) tNil))) [7]) tNil)))))
theorem ent_alike {kvs : List (List Key × V)} (he : ∀ p ∈ kvs, Ent p) : PySem.W.AllAlike (kvs.map fun p => keyT p.1) := by
  intro d hd e hd2
  obtain ⟨p, hp, rfl⟩ := List.mem_map.mp hd
  obtain ⟨q, hq, rfl⟩ := List.mem_map.mp hd2
  obtain ⟨s, t, c, rfl, _⟩ := he p hp
  obtain ⟨s', t', c', rfl, _⟩ := he q hq
  rfl
theorem ent_nonempty {kvs : List (List Key × V)} (he : ∀ p ∈ kvs, Ent p) : ∀ p ∈ kvs, p.1 ≠ [] := by
  intro p hp
  obtain ⟨s, t, c, rfl, _⟩ := he p hp
  intro z
  cases z
theorem two_str {s : Str} (h : s.length = 2) : ∃ a b, s.cps.toList = [a, b] := by
  have h2 : s.cps.toList.length = 2 := by rw [len_cps]; exact h
  match hq : s.cps.toList, h2 with
  | [a, b], _ => exact ⟨a, b, rfl⟩
theorem noLists_map {α : Type} {f : α → PyData} : ∀ {l : List α}, (∀ a ∈ l, noList (f a) = true) → noLists (l.map f) = true
  | [], _ => rfl
  | a :: l, h => by
    show (noList (f a) && noLists (l.map f)) = true
    rw [h a (List.mem_cons_self ..), noLists_map fun b hb => h b (List.mem_cons_of_mem _ hb)]
    rfl
/-! ### a walk of unknown length beside a body that changes more -/
def EvWx (ρ ρw : Rl) (wi : TI) (σ : L2.St) (H : Hp) (C : Nat → (Nat → Hp → V → Hp → Prop) → Prop) : Prop :=
  ∀ H1, ρ.r H H1 → ∀ R : It → Hp → Prop, (∀ n Y J H2, C n Y → ρ.r H1 H2 → Walk J n (fun H3 => ρw.r H2 H3) Y → R J H2) → wi σ H1 R
section
variable {ρ ρw : Rl} {σ : L2.St} {H : Hp} {te : TE} {D : Ends} {tz tu : TS} {wi : TI} {g : TG} {C : Nat → (Nat → Hp → V → Hp → Prop) → Prop}
theorem q_forxw (h : EvWx ρ ρw wi σ H C) (k : ∀ n Y H1, C n Y → ρ.r H H1 → ∃ Pv : Nat → L2.St → Hp → Prop, Pv 0 σ H1 ∧ (∀ i σ' H', i ≤ n → Pv i σ' H' → ρw.r H1 H') ∧
    (∀ i x σ' H' H'', i < n → Pv i σ' H' → Y i H' x H'' → g x σ' H'' fun σ2 H2 => tu { D with nx := Pv (i + 1), ct := Pv (i + 1), bk := tz D } σ2 H2) ∧ ∀ σ' H', Pv n σ' H' → tz D σ' H') : tSeq (tFor wi g tu) tz D σ H :=
  h H .rfl _ fun n Y J H1 c e w => by
    obtain ⟨Pv, h0, hr, hs, hd⟩ := k n Y H1 c e
    exact for_it (D := { D with nx := tz D }) w Pv h0 hr hs hd
theorem ewx_rng {lim : Int} (h : Ev ρ te σ H (fun v _ => ∃ m : Int, v = .int m ∧ 0 ≤ m ∧ m < lim)) (hl : lim ≤ 1000000) : EvWx ρ ρw (iRng1 (tCons te tNil)) σ H (fun n Y => (n : Int) < lim ∧ Y = YFn fun m => .int ((m : Nat) : Int)) := fun H1 e1 R k =>
  h H1 e1 _ fun v H2 e2 ⟨m, ev, h0, h1⟩ => ⟨m, by rw [ev], by omega, by omega, k m.toNat _ _ H2 ⟨by omega, rfl⟩ e2 (walk_range.mono (fun _ _ => trivial) fun i H3 x H4 _ _ y => ⟨y.1, by rw [y.2]; exact congrArg V.int (Int.zero_add _)⟩)⟩
end
def OkP (s : Str) : Prop := s.length ≤ 2 ∧ ∀ c ∈ s.cps.toList, c ∈ letters
theorem okp_nil : OkP "" := ⟨by decide +kernel, fun c hc => by
  have : ("" : Str).cps.toList = [] := by decide +kernel
  rw [this] at hc
  cases hc⟩
theorem pure__law_table {K : Frag} (vs : List V) (H : Hp) (Q : VK) (E : XK) (h : sp__law_table K vs H Q E) : t__law_table K { nx := fun _ H' => Q .non H', rt := Q } (start ["row", "spot", "many", "few", "held", "k", "kind", "one", "other"] vs) H := by
  obtain ⟨ra, sp, many, z, rfl, dr, m0, m8, few, k⟩ := h
  have own := own_sp dr
  refine q_asg (ρ := spR sp) (R := fun v H' => ∃ D, v = .ref D ∧ H D = none ∧ H' D = some (.dT [])) (fun H1 e1 Q q p hp => q _ _ (r_new _ hp) ⟨p, rfl, e1.back p hp, upd_same⟩) fun v H1 e1 ⟨D, ev, hD0, hD⟩ => ?_
  subst ev
  have nD : ¬ (spR sp).S D := own.fresh hD0
  have dr1 := dr.sp e1
  have hz := few.pos
  have hz6 := few.le
  refine q_forxw (ρ := spR sp) (ρw := (spR sp).and D) (ewx_rng (lim := many + 1) (ev_take (ev_var rfl) (ev_var rfl) (ev_add (ev_var rfl) ev_c) dr1 (by omega)) (by omega)) fun n Y H2 ⟨hn, hY⟩ e2 => ⟨fun i σ' H' => ((spR sp).and D).r H2 H' ∧ ∃ (kvs : List (List Key × V)) (kv kd on ot : Option V), σ' = [some (.ref ra), some (.ref sp), some (.int many), some (.str z), some (.ref D), kv, kd, on, ot] ∧ H' D = some (.dT kvs) ∧ kvs.length ≤ i ∧ ∀ p ∈ kvs, Ent p, ⟨.rfl, [], none, none, none, none, rfl, e2.keep _ _ nD hD, Nat.le_refl _, fun p hp => nomatch hp⟩, fun i σ' H' _ h => h.1, ?_, ?_⟩
  · subst hY
    rintro i x σ' H' H'' hi ⟨r, kvs, kv, kd, on, ot, rfl, hDk, hlen, hent⟩ ⟨e5, rfl⟩
    subst e5
    have rH : (spR sp).r H H'' := r_and (e1.trans e2) hD0 r
    have dr2 : Dr K ra sp H'' := dr.sp rH
    refine q_asg (ρ := spR sp) (ev_take (ev_var rfl) (ev_var rfl) ev_c dr2 (by decide)) fun v H3 e3 ⟨m, ev, _, _⟩ => ?_
    subst ev
    refine q_asg (ρ := spR sp) (ev_letters (ev_var rfl) (ev_var rfl) ev_c (ev_var rfl) (dr2.sp e3) (by decide) (by decide) hz (by omega)) fun v H4 e4 ⟨s, ev, hs2, hsz⟩ => ?_
    subst ev
    refine q_asg (ρ := spR sp) (ev_letters (ev_var rfl) (ev_var rfl) ev_c (ev_var rfl) (dr2.sp (e3.trans e4)) (by decide) (by decide) hz (by omega)) fun v H5 e5 ⟨t, ev, ht2, htz⟩ => ?_
    subst ev
    have e35 := e3.trans (e4.trans e5)
    have oks : OkP s := ⟨by omega, fun c hc => few.low c (hsz c hc)⟩
    have okt : OkP t := ⟨by omega, fun c hc => few.low c (htz c hc)⟩
    have fin : ∀ D' : Ends, (∀ σ2 H2', (((spR sp).and D).r H2 H2' ∧ ∃ (kvs : List (List Key × V)) (kv kd on ot : Option V), σ2 = [some (.ref ra), some (.ref sp), some (.int many), some (.str z), some (.ref D), kv, kd, on, ot] ∧ H2' D = some (.dT kvs) ∧ kvs.length ≤ i + 1 ∧ ∀ p ∈ kvs, Ent p) → D'.nx σ2 H2') → ∀ (s t : Str) H6, (spR sp).r H5 H6 → OkP s → OkP t → (tIfS (tTest (tOp (rNeU K) (tVar 7) (tVar 8))) (tAsg (tOp (rAddU K) (tC (.int 1)) (tCall (sp__law_take K) [] E0 (tCons (tVar 0) (tCons (tVar 1) (tCons (tIxU K (tLst (tCons (tC (.int 2)) (tCons (tC (.int 3)) (tCons (tC (.int 9)) tNil)))) (tCall (sp__law_take K) [] E0 (tCons (tVar 0) (tCons (tVar 1) (tCons (tC (.int 3)) tNil))))) tNil))))) (gSub (tVar 4) (tTup (tCons (tVar 7) (tCons (tVar 8) tNil))) (rSetU K))) tNext) D' [some (.ref ra), some (.ref sp), some (.int many), some (.str z), some (.ref D), some (.int (i : Int)), some (.int m), some (.str s), some (.str t)] H6 := by
      intro D' hD' s t H6 e6 oks okt
      have e06 : (spR sp).r H'' H6 := e35.trans e6
      refine s_if (ρ := spR sp) (et_test (ev_neS (ev_var rfl) (ev_var rfl))) (fun hb H7 e7 => ?_) (fun hb H7 e7 => hD' _ _ ⟨r.trans (and_of (e06.trans e7)), kvs, _, _, _, _, rfl, (e06.trans e7).keep _ _ nD hDk, by omega, hent⟩)
      have hst : s ≠ t := of_decide_eq_false (notb hb)
      have e07 := e06.trans e7
      have dr7 := dr2.sp e07
      have hixL := ev_ixNew (ρ := spR sp) (K := K) (H := H7) (σ := [some (.ref ra), some (.ref sp), some (.int many), some (.str z), some (.ref D), some (.int (i : Int)), some (.int m), some (.str s), some (.str t)]) (xs := [.int 2, .int 3, .int 9]) (ev_lstN (own_sp dr7) (ea_cons ev_c (ea_cons ev_c (ea_cons ev_c ea_nil))) (by show 3 ≤ 100000; decide)) (fun H8 e8 => ev_take (E := E0) (ta := tVar 0) (tb := tVar 1) (tc := tC (.int 3)) (lim := (([V.int 2, V.int 3, V.int 9].length : Nat) : Int)) (ev_var rfl) (ev_var rfl) ev_c (dr7.sp e8) (by decide))
      have hargs : EvA (spR sp) (tCons (tVar 0) (tCons (tVar 1) (tCons (tIxU K (tLst (tCons (tC (.int 2)) (tCons (tC (.int 3)) (tCons (tC (.int 9)) tNil)))) (tCall (sp__law_take K) [] E0 (tCons (tVar 0) (tCons (tVar 1) (tCons (tC (.int 3)) tNil))))) tNil))) [some (.ref ra), some (.ref sp), some (.int many), some (.str z), some (.ref D), some (.int (i : Int)), some (.int m), some (.str s), some (.str t)] H7 (fun vs _ => ∃ l : Int, vs = [.ref ra, .ref sp, .int l] ∧ 0 < l ∧ l ≤ 9) :=
        (ea_consP (Pa := fun v => v = .ref ra) (ev_var rfl) (ea_consP (Pa := fun v => v = .ref sp) (ev_var rfl) (ea_consP (Pr := fun ws => ws = []) hixL ea_nil))).imp fun vs H1 _ ⟨x, ws, e1, ex, y, ws', e2, ey, u, ws'', e3, ⟨m', hm'⟩, e4⟩ => by
          subst e1 ex e2 ey e3 e4
          match m', hm' with
          | 0, h => cases h; exact ⟨2, rfl, by decide, by decide⟩
          | 1, h => cases h; exact ⟨3, rfl, by decide, by decide⟩
          | 2, h => cases h; exact ⟨9, rfl, by decide, by decide⟩
      have hval := ev_opP (r := rAddU K) (R := fun v _ => ∃ c : Int, v = .int c ∧ 1 ≤ c ∧ c ≤ 9) (Pa := fun v => v = .int 1) (Pb := Below 9) (ev_c (v := .int 1)) (ev_callR (sp := sp__law_take K) (E := E0) (R := fun v _ => Below 9 v) hargs fun vs H1 e ⟨l, evs, l0, l9⟩ => by
        subst evs
        exact fun H2 e2 Q q E => ⟨ra, sp, l, rfl, (dr7.sp (e.trans e2)), l0, fun n H' h0 h1 e => q _ H' e ⟨n, rfl, h0, by omega⟩⟩) (fun x y ex ⟨l, ey, l0, l9⟩ => by
        subst ex ey
        exact fun H2 e2 Q q => .inl ⟨1, l, rfl, rfl, q _ H2 .rfl ⟨1 + l, rfl, by omega, by omega⟩⟩)
      refine hval H7 .rfl _ fun v H8 e8 ⟨c, ev, c1, c9⟩ => ?_
      subst ev
      refine ev_var (ρ := spR sp) (v := .ref D) rfl H8 .rfl _ fun o H9 e9 eo => ?_
      subst eo
      refine (ev_tup (ρ := spR sp) (ea_cons (ev_var (v := .str s) rfl) (ea_cons (ev_var (v := .str t) rfl) ea_nil)) (fun vs H1 _ e => by rw [e]; show 2 ≤ 100000; decide)) H9 .rfl _ fun u H10 e10 ⟨b, ws, Hx, eu, ews, hb0, rx, eH⟩ => ?_
      subst eu ews
      have e010 := e07.trans (e8.trans (e9.trans e10))
      have hD10 : H10 D = some (.dT kvs) := e010.keep _ _ nD hDk
      have hb10 : H10 b = some (.tup (([.inr s, .inr t] : List Key).map kV)) := by rw [eH]; exact upd_same
      refine .inr ⟨D, _, rfl, DPut.t (k := [.inr s, .inr t]) hD10 hb10 (Evl.sz_lt (by omega)), hD' _ _ ⟨(r.trans (and_of e010)).trans (r_chgT hD10 nD), putK kvs [.inr s, .inr t] (.int c), _, _, _, _, rfl, upd_same, ?_, ?_⟩⟩
      · have := length_putK kvs [.inr s, .inr t] (.int c)
        omega
      · intro p hp
        rcases put_mem hp with h | rfl
        · exact hent p h
        · exact ⟨s, t, c, rfl, piece_of oks.1 oks.2, piece_of okt.1 okt.2, hst, c1, c9⟩
    refine q_if (ρ := spR sp) (et_test (ev_eqI (ev_var rfl) ev_c)) (fun hb H6 e6 => s_asgV (ρ := spR sp) ev_c fun H7 e7 => fin _ (fun _ _ h => h) "" t H7 (e6.trans e7) okp_nil okt) (fun hb H6 e6 => ?_)
    refine s_if (ρ := spR sp) (et_test (ev_eqI (ev_var rfl) ev_c)) (fun hb H7 e7 => s_asgV (ρ := spR sp) ev_c fun H8 e8 => fin _ (fun _ _ h => h) s "" H8 (e6.trans (e7.trans e8)) oks okp_nil) (fun hb H7 e7 => ?_)
    refine s_if (ρ := spR sp) (et_and (et_test (ev_eqI (ev_var rfl) ev_c)) fun _ => et_test (ev_eqI (ev_lenS (ev_var rfl) (by have := oks.1; omega)) ev_c)) (fun hb H8 e8 => ?_) (fun hb H8 e8 => fin _ (fun _ _ h => h) s t H8 (e6.trans (e7.trans e8)) oks okt)
    have hs2' : s.length = 2 := by
      have hb' : m = 2 ∧ (s.length : Int) = 2 := by simpa using hb
      omega
    obtain ⟨c0, c1, hcs⟩ := two_str hs2'
    refine s_asgV (ρ := spR sp) (ev_addS (ev_ixS (c := c1) (ev_var rfl) ev_c (by omega) (atI_nat (xs := s.cps.toList) (j := 1) (by rw [hcs]; rfl))) (ev_ixS (c := c0) (ev_var rfl) ev_c (by omega) (atI_nat (xs := s.cps.toList) (j := 0) (by rw [hcs]; rfl))) (by show 1 + 1 ≤ 100000; decide)) fun H9 e9 => fin _ (fun _ _ h => h) s _ H9 (e6.trans (e7.trans (e8.trans e9))) oks ⟨Nat.le_refl 2, ?_⟩
    intro c hc
    rw [app_cps] at hc
    have hc' : c = c1 ∨ c = c0 := by simpa using hc
    rcases hc' with rfl | rfl
    · exact oks.2 _ (by rw [hcs]; exact List.mem_cons_of_mem _ (List.mem_cons_self ..))
    · exact oks.2 _ (by rw [hcs]; exact List.mem_cons_self ..)
  · rintro σ' H' ⟨r, kvs, kv, kd, on, ot, rfl, hDk, hlen, hent⟩
    have rH : (spR sp).r H H' := r_and (e1.trans e2) hD0 r
    have ownH := own.r rH
    have h8 : kvs.length ≤ 8 := by omega
    have hlc := ev_lcx (ρ := spR sp) (wi := iSeq K (tCB (rSortU K) (tCons (tVar 4) tNil))) (σ := [some (.ref ra), some (.ref sp), some (.int many), some (.str z), some (.ref D), kv, kd, on, ot]) (H := H') (g := gName 7) (tt := tYes) (te := tOp (rAddU K) (tVar 7) (tTup (tCons (tIxU K (tVar 4) (tVar 7)) tNil))) (vs := [7])
      (R := fun u H2 => ∃ p xs ds, u = .ref p ∧ ¬ (spR sp).S p ∧ H2 p = some (.lst xs) ∧ DSs (spR sp) H2 xs ds ∧ (noLists ds = true ∧ isTableD (.tuple ds) = true)) (eix_sortT ownH (ev_var rfl) (fun H1 e => e.keep _ _ nD hDk) (by omega) (ent_alike hent) (ent_nonempty hent)) fun n' Y' H3 J ⟨ys, hp, hnd, hpw, hn', hY'⟩ e3 hI => ?_
    · refine s_ret (ρ := spR sp) (ev_tupOf (ρf := spR sp) (C := fun ds => noLists ds = true ∧ isTableD (.tuple ds) = true) Le.rfl hlc) fun v H3 e3 ⟨ds, hC, hv⟩ => k v ds H3 (rH.trans e3) hv hC.1 hC.2
    · subst hn' hY'
      have hl : ys.length = kvs.length := by
        have := hp.length_eq
        rwa [List.length_map, List.length_map] at this
      refine (ev_lcD (dd := fun i => match ys[i]? with | some b => entD kvs b.1 | none => .none) (ownH.r e3) (by omega) hI (fun x => rfl) (fun i H2 x H3 y => y.1) ?_).imp ?_
      · rintro D' H4 e4 hD' i x H5 H6 hi r5 oD ⟨e6, b, hb, rfl, hk⟩
        obtain ⟨s, t, c, k1, k2, k3, _⟩ := ent_at hent (hp.mem_iff.mp (List.mem_map.mpr ⟨b, List.mem_of_getElem? hb, rfl⟩))
        rw [hb]
        show Ev (spR sp) _ _ H5 (fun y H4 => DS ((spR sp).and D') H4 y (entD kvs b.1))
        rw [k3]
        rw [k1] at hk k2
        have hD5 : H5 D = some (.dT kvs) := (e3.trans (e4.trans r5)).keep _ _ nD hDk
        refine ev_op2 (Ra := fun v _ => v = .ref b.2) (Rb := fun v H7 => ∃ q, v = .ref q ∧ H7 q = some (.tup [.int c])) (ev_var rfl) (fun x H7 e7 ex => ?_) (fun x y H7 H8 e7 e8 ex ⟨q, ey, hq⟩ => ?_)
        · refine (ev_tup (Rr := fun vs _ => vs = [.int c]) ((ea_one (Ra := fun v _ => v = .int c) ?_).imp fun vs H8 e8 ⟨u, e9, e10⟩ => by rw [e9, e10]) fun vs H8 _ e => by rw [e]; show 1 ≤ 100000; decide).imp fun v H8 e8 ⟨p, vs, H9, ev, evs, hp9, r9, eH⟩ => ⟨p, ev, by rw [eH, evs]; exact upd_same⟩
          intro H8 e8 Q' q'
          refine .inr (ev_var (ρ := spR sp) (v := .ref D) rfl H8 .rfl _ fun o H9 e9 eo => ?_)
          subst eo
          refine ev_var (ρ := spR sp) (v := .ref b.2) rfl H9 .rfl _ fun o H10 e10 eo => ?_
          subst eo
          have e510 := e7.trans (e8.trans (e9.trans e10))
          refine ⟨D, .int c, rfl, ?_, q' _ H10 (e9.trans e10) rfl⟩
          rw [← k2]
          exact DGet.t (e510.keep _ _ nD hD5) (e510.tup _ _ hk)
        · subst ex ey
          intro H9 e9 Q' q'
          have hb9 := (e7.trans (e8.trans e9)).tup _ _ hk
          have hq9 := e9.tup _ _ hq
          refine .inr (.inr (.inl ⟨b.2, q, _, _, rfl, rfl, .inl (.inl hb9), .inl (.inl hq9), by show 3 ≤ sizeLine; decide, fun z => (by cases z), fun _ z => (by cases z), fun _ _ p hp => q' _ _ (r_new _ hp) (.tup upd_same (.cons (.str s) (.cons (.str t) (.cons (.int c) .nil))))⟩))
      · rintro u H4 e4 ⟨p, xs, rfl, nS, hp0, hx, hds⟩
        have em : (List.range ys.length).map (fun i => match ys[i]? with | some b => entD kvs b.1 | none => .none) = ys.map fun b => entD kvs b.1 := by
          refine List.ext_getElem? fun i => ?_
          rw [List.getElem?_map, List.getElem?_map]
          by_cases hi : i < ys.length
          · rw [List.getElem?_range hi, List.getElem?_eq_getElem hi]
            show some (match ys[i]? with | some b => entD kvs b.1 | none => .none) = some (entD kvs ys[i].1)
            rw [List.getElem?_eq_getElem hi]
          · rw [List.getElem?_eq_none_iff.mpr (by rw [List.length_range]; omega), List.getElem?_eq_none_iff.mpr (by omega)] <;> rfl
        rw [em] at hds
        refine ⟨p, xs, _, rfl, nS, hx, hds, noLists_map fun b hb => ?_, table_of hent hp hnd hpw h8⟩
        obtain ⟨s, t, c, _, _, k3, _⟩ := ent_at hent (hp.mem_iff.mp (List.mem_map.mpr ⟨b, hb, rfl⟩))
        rw [k3]
        rfl
end Slip
/-! a changed table -/
namespace Slip
open PySem PySem.Spec PyProof.Rows L2
/- texts, numbers, tuples of these; none is long -/
mutual
def plainT : PyData → Bool
  | .str s => decide (s.length ≤ 300)
  | .int _ => true
  | .tuple ds => decide (ds.length ≤ 300) && plainTs ds
  | _ => false
def plainTs : List PyData → Bool
  | [] => true
  | d :: ds => plainT d && plainTs ds
end
theorem plainTs_mem : ∀ {ds : List PyData} {d : PyData}, plainTs ds = true → d ∈ ds → plainT d = true
  | e :: ds, d, h, hm => by
    have h' : plainT e = true ∧ plainTs ds = true := by simpa [plainTs] using h
    rcases List.mem_cons.mp hm with rfl | hm
    · exact h'.1
    · exact plainTs_mem h'.2 hm
mutual
theorem plain_nl : ∀ d : PyData, plainT d = true → noList d = true
  | .str _, _ => rfl
  | .int _, _ => rfl
  | .tuple ds, h => by
    have h' : ds.length ≤ 300 ∧ plainTs ds = true := by simpa [plainT] using h
    exact plains_nl ds h'.2
  | .none, h => by cases h
  | .bool _, h => by cases h
  | .list _, h => by cases h
  | .dict _, h => by cases h
theorem plains_nl : ∀ ds : List PyData, plainTs ds = true → noLists ds = true
  | [], _ => rfl
  | d :: ds, h => by
    have h' : plainT d = true ∧ plainTs ds = true := by simpa [plainTs] using h
    show (noList d && noLists ds) = true
    rw [plain_nl d h'.1, plains_nl ds h'.2]
    rfl
end
mutual
theorem plain_sm : ∀ d : PyData, plainT d = true → sm d = true
  | .str s, h => by
    have h' : s.length ≤ 300 := by simpa [plainT] using h
    exact decide_eq_true (by omega)
  | .int _, _ => rfl
  | .tuple ds, h => by
    have h' : ds.length ≤ 300 ∧ plainTs ds = true := by simpa [plainT] using h
    show (decide (ds.length ≤ 1000) && smAll ds) = true
    rw [decide_eq_true (by omega), plains_sm ds h'.2]
    rfl
  | .none, h => by cases h
  | .bool _, h => by cases h
  | .list _, h => by cases h
  | .dict _, h => by cases h
theorem plains_sm : ∀ ds : List PyData, plainTs ds = true → smAll ds = true
  | [], _ => rfl
  | d :: ds, h => by
    have h' : plainT d = true ∧ plainTs ds = true := by simpa [plainTs] using h
    show (sm d && smAll ds) = true
    rw [plain_sm d h'.1, plains_sm ds h'.2]
    rfl
end
/-- no list within, none long, depth bounded -/
structure Fine (L D : Nat) (ds : List PyData) : Prop where
  all : ∀ d ∈ ds, noList d = true ∧ sm d = true ∧ d.depth ≤ D
  len : ds.length ≤ L
abbrev Good (D : Nat) (d : PyData) : Prop := noList d = true ∧ sm d = true ∧ d.depth ≤ D
theorem depth_all {D : Nat} : ∀ {ds : List PyData}, (∀ d ∈ ds, d.depth ≤ D) → PyData.depthAll ds ≤ D
  | [], _ => Nat.zero_le _
  | d :: ds, h => by
    show max d.depth (PyData.depthAll ds) ≤ D
    exact Nat.max_le.mpr ⟨h d (List.mem_cons_self ..), depth_all fun e he => h e (List.mem_cons_of_mem _ he)⟩
theorem noLists_of : ∀ {ds : List PyData}, (∀ d ∈ ds, noList d = true) → noLists ds = true
  | [], _ => rfl
  | d :: ds, h => by
    show (noList d && noLists ds) = true
    rw [h d (List.mem_cons_self ..), noLists_of fun e he => h e (List.mem_cons_of_mem _ he)]
    rfl
theorem Fine.good {L D : Nat} {ds : List PyData} (h : Fine L D ds) (hl : L ≤ 1000) : Good (D + 1) (.tuple ds) := by
  refine ⟨noLists_of fun d hd => (h.all d hd).1, ?_, ?_⟩
  · show (decide (ds.length ≤ 1000) && smAll ds) = true
    rw [decide_eq_true (Nat.le_trans h.len hl), smAll_of fun d hd => (h.all d hd).2.1]
    rfl
  · show PyData.depthAll ds + 1 ≤ D + 1
    exact Nat.succ_le_succ (depth_all fun d hd => (h.all d hd).2.2)
theorem Fine.append {L M D : Nat} {ds es : List PyData} (h : Fine L D ds) (g : Fine M D es) : Fine (L + M) D (ds ++ es) :=
  ⟨fun d hd => (List.mem_append.mp hd).elim (h.all d) (g.all d), by rw [List.length_append]; have := h.len; have := g.len; omega⟩
theorem cut_mem {ds : List PyData} {lo hi : Option Int} {d : PyData} (h : d ∈ cutD ds lo hi) : d ∈ ds := List.mem_of_mem_drop (List.mem_of_mem_take h)
theorem cut_len (ds : List PyData) (lo hi : Option Int) : (cutD ds lo hi).length ≤ ds.length := by
  unfold cutD
  rw [List.length_take, List.length_drop]
  omega
theorem Fine.cut {L D : Nat} {ds : List PyData} (h : Fine L D ds) (lo hi : Option Int) : Fine L D (cutD ds lo hi) := ⟨fun d hd => h.all d (cut_mem hd), Nat.le_trans (cut_len _ _ _) h.len⟩
theorem fine_plain {ds : List PyData} (h : plainT (.tuple ds) = true) : Fine 300 (PyData.depthAll ds) ds := by
  have h' : ds.length ≤ 300 ∧ plainTs ds = true := by simpa [plainT] using h
  exact ⟨fun d hd => ⟨plain_nl d (plainTs_mem h'.2 hd), plain_sm d (plainTs_mem h'.2 hd), depth_mem hd⟩, h'.1⟩
theorem Fine.up {L D D' : Nat} {ds : List PyData} (h : Fine L D ds) (l : D ≤ D') : Fine L D' ds := ⟨fun d hd => ⟨(h.all d hd).1, (h.all d hd).2.1, Nat.le_trans (h.all d hd).2.2 l⟩, h.len⟩
/-! ### rules -/
/-- a test whose answer is not known, but b tells C b -/
def EvTC (ρ : Rl) (tt : TT) (σ : L2.St) (H : Hp) (C : Bool → Prop) : Prop := ∀ H1, ρ.r H H1 → ∀ Q : Bool → Hp → Prop, (∀ b H2, ρ.r H1 H2 → C b → Q b H2) → tt σ H1 Q
section
variable {ρ : Rl} {K : Frag} {σ : L2.St} {H : Hp} {ta tb te : TE} {t u : TT} {tu tw tz : TS} {D : Ends} {C : Bool → Prop} {C1 C2 : List PyData → Prop} {P : V → Hp → Prop} {n : Nat} {tr : TA}
theorem q_whenC (h : EvTC ρ t σ H C) (h1 : C true → ∀ H1, ρ.r H H1 → tu { D with nx := tz D } σ H1) (h2 : C false → ∀ H1, ρ.r H H1 → tz D σ H1) : tSeq (tIfS t tu tNext) tz D σ H := h H .rfl _ fun b H1 e c => by
  cases b with
  | true => exact h1 c H1 e
  | false => exact h2 c H1 e
theorem etc_test (h : Ev ρ te σ H (fun v _ => ∃ b, v = .bl b ∧ C b)) : EvTC ρ (tTest te) σ H C := fun H1 e Q q => h H1 e _ fun v H2 e2 ⟨b, ev, c⟩ => ⟨b, ev, q b H2 e2 c⟩
theorem etc_and (h1 : EvT ρ t σ H true) (h2 : EvTC ρ u σ H C) : EvTC ρ (tAnd t u) σ H C := fun H1 e Q q => h1 H1 e _ fun H2 e2 => show u σ H2 Q from h2 H2 (e.trans e2) Q fun b H3 e3 c => q b H3 (e2.trans e3) c
/-- t + u of tuples -/
theorem ev_catD (h1 : Ev ρ ta σ H (fun v H' => ∃ ds, C1 ds ∧ DS ρ H' v (.tuple ds))) (h2 : ∀ H1, ρ.r H H1 → Ev ρ tb σ H1 (fun v H' => ∃ ds, C2 ds ∧ DS ρ H' v (.tuple ds))) (hl : ∀ ds es, C1 ds → C2 es → ds.length + es.length ≤ 100000) :
    Ev ρ (tOp (rAddU K) ta tb) σ H (fun v H' => ∃ ds, (∃ d1 d2, C1 d1 ∧ C2 d2 ∧ ds = d1 ++ d2) ∧ DS ρ H' v (.tuple ds)) :=
  ev_op2 h1 (fun x H1 e1 _ => h2 H1 e1) fun x y H1 H2 e1 e2 ⟨ds, c1, hx⟩ ⟨es, c2, hy⟩ => by
    obtain ⟨a, xs, rfl, hxs, ha, _⟩ := (e2.ds hx).tupl
    obtain ⟨b, ys, rfl, hys, hb, _⟩ := hy.tupl
    intro H3 e3 Q q
    have ga := e3.tup _ _ ha
    have gb := e3.tup _ _ hb
    have dx := e3.dss hxs
    have dy := e3.dss hys
    have lx := dx.length
    have ly := dy.length
    have ll := hl ds es c1 c2
    refine .inr (.inr (.inl ⟨a, b, xs, ys, rfl, rfl, .inl (.inl ga), .inl (.inl gb), Evl.sz_of (by omega), fun z => ?_, fun _ z => ?_, fun _ _ p hp => ?_⟩))
    · subst z
      have : ds = [] := List.eq_nil_of_length_eq_zero lx.symm
      subst this
      exact q _ H3 .rfl ⟨es, ⟨[], es, c1, c2, rfl⟩, .tup gb dy⟩
    · subst z
      have : es = [] := List.eq_nil_of_length_eq_zero ly.symm
      subst this
      exact q _ H3 .rfl ⟨ds, ⟨ds, [], c1, c2, (List.append_nil _).symm⟩, .tup ga dx⟩
    · exact q _ _ (r_new _ hp) ⟨ds ++ es, ⟨ds, es, c1, c2, rfl⟩, .tup upd_same ((r_new (ρ := ρ) _ hp).dss (dx.append dy))⟩
theorem ea_nilP : EvA ρ tNil σ H (fun vs H' => vs.length = 0 ∧ ∀ x ∈ vs, P x H') := fun H1 _ _ q => q [] H1 .rfl ⟨rfl, fun x hx => nomatch hx⟩
theorem ea_consQ (hP : ∀ v H1 H2, ρ.r H1 H2 → P v H1 → P v H2) (h : Ev ρ ta σ H P) (hr : ∀ H1, ρ.r H H1 → EvA ρ tr σ H1 (fun vs H' => vs.length = n ∧ ∀ x ∈ vs, P x H')) : EvA ρ (tCons ta tr) σ H (fun vs H' => vs.length = n + 1 ∧ ∀ x ∈ vs, P x H') := fun H1 e _ q =>
  h H1 e _ fun x H2 e2 px => hr H2 (e.trans e2) H2 .rfl _ fun ws H3 e3 ⟨hl, pw⟩ => q _ H3 (e2.trans e3) ⟨congrArg Nat.succ hl, fun y hy => (List.mem_cons.mp hy).elim (fun z => z ▸ hP _ _ _ e3 px) (pw y)⟩
/-- one of a display -/
theorem ev_pick {ts : TA} {N : Int} (own : Own ρ H) (hP : ∀ v H1 H2, ρ.r H1 H2 → P v H1 → P v H2) (h : EvA ρ ts σ H (fun vs H' => vs.length = n ∧ ∀ x ∈ vs, P x H')) (hn : n ≤ 1000) (hN : N = (n : Int)) (h2 : ∀ H1, ρ.r H H1 → Ev ρ tb σ H1 (fun v _ => Below N v)) : Ev ρ (tIxU K (tLst ts) tb) σ H P :=
  fun H1 e1 Q q => .inl (ev_lst h (fun vs _ _ c => by rw [c.1]; omega) H1 e1 _ fun v H2 e2 ⟨p, vs, H3, ev, ⟨hl, hp⟩, hnew, r3, eH⟩ => h2 H2 (e1.trans e2) H2 .rfl _ fun w H4 e4 ⟨m, ew, h0, hm⟩ => by
    subst ev ew
    have hm' : m.toNat < vs.length := by omega
    have g : vs[m.toNat]? = some vs[m.toNat] := List.getElem?_eq_getElem hm'
    have g2 : atI vs m = some vs[m.toNat] := by
      have := atI_nat g
      rwa [show ((m.toNat : Nat) : Int) = m by omega] at this
    have nS : ¬ ρ.S p := (own.r r3).fresh hnew
    have hp2 : H2 p = some (.lst vs) := by rw [eH]; exact upd_same
    exact .inl ⟨p, vs, m, _, rfl, rfl, .of (e4.keep _ _ nS hp2), g2, q _ H4 (e2.trans e4) (hP _ _ _ ((eH ▸ r_new (ρ := ρ) _ hnew : ρ.r H3 H2).trans e4) (hp _ (List.getElem_mem hm')))⟩)
end
def sp__law_table_changed (K : Frag) (n : Nat) : Sp := fun vs H Q _ => ∃ (ra sp : Addr) (v : V) (d : PyData), vs = [.ref ra, .ref sp, v] ∧ Dr K ra sp H ∧ DS (spR sp) H v d ∧ plainT d = true ∧ d.depth < n ∧ ∀ v' d' H', (spR sp).r H H' → DS (spR sp) H' v' d' → Good (d.depth + 1) d' → Q v' H'
theorem len__law_table_changed {K : Frag} {n : Nat} {vs : List V} {H : Hp} {Q : VK} {E : XK} (h : sp__law_table_changed K n vs H Q E) : vs.length = 3 := by
  obtain ⟨ra, sp, v, d, rfl, _⟩ := h
  rfl
def t__law_table_changed (K : Frag) (n : Nat) : TS := (tSeq (tIfS (tAnd (tB (tCB (rIsiU K) (tCons (tVar 2) (tCons (tC (.ty "tuple")) tNil)))) (tAnd (tTest (tOp (rCmp K gGt) (tCB (rLenU K) (tCons (tVar 2) tNil)) (tC (.int 0)))) (tTest (tOp (rCmp K gGt) (tCall (sp__law_take K) [] E0 (tCons (tVar 0) (tCons (tVar 1) (tCons (tC (.int 6)) tNil)))) (tC (.int 0)))))) (tSeq (tAsg (tCall (sp__law_take K) [] E0 (tCons (tVar 0) (tCons (tVar 1) (tCons (tCB (rLenU K) (tCons (tVar 2) tNil)) tNil)))) (gName 3)) (tRet (tOp (rAddU K) (tOp (rAddU K) (tSl (rSlU K) (tVar 2) tNoPart (tPart (tVar 3))) (tTup (tCons (tCall (sp__law_table_changed K n) [] E0 (tCons (tVar 0) (tCons (tVar 1) (tCons (tIxU K (tVar 2) (tVar 3)) tNil)))) tNil))) (tSl (rSlU K) (tVar 2) (tPart (tOp (rAddU K) (tVar 3) (tC (.int 1)))) tNoPart)))) tNext) (tSeq (tAsg (tCall (sp__law_take K) [] E0 (tCons (tVar 0) (tCons (tVar 1) (tCons (tC (.int 4)) tNil)))) (gName 4)) (tSeq (tIfS (tAnd (tB (tCB (rIsiU K) (tCons (tVar 2) (tCons (tC (.ty "tuple")) tNil)))) (tAnd (tTest (tOp (rEqU K) (tVar 4) (tC (.int 0)))) (tTest (tOp (rCmp K gGt) (tCB (rLenU K) (tCons (tVar 2) tNil)) (tC (.int 0)))))) (tRet (tOp (rAddU K) (tVar 2) (tSl (rSlU K) (tVar 2) tNoPart (tPart (tC (.int 1)))))) tNext) (tSeq (tIfS (tAnd (tB (tCB (rIsiU K) (tCons (tVar 2) (tCons (tC (.ty "tuple")) tNil)))) (tAnd (tTest (tOp (rEqU K) (tVar 4) (tC (.int 1)))) (tTest (tOp (rCmp K gGt) (tCB (rLenU K) (tCons (tVar 2) tNil)) (tC (.int 0)))))) (tRet (tSl (rSlU K) (tVar 2) (tPart (tC (.int 1))) tNoPart)) tNext) (tSeq (tIfS (tAnd (tB (tCB (rIsiU K) (tCons (tVar 2) (tCons (tC (.ty "tuple")) tNil)))) (tAnd (tTest (tOp (rEqU K) (tVar 4) (tC (.int 2)))) (tTest (tOp (rCmp K gGt) (tCB (rLenU K) (tCons (tVar 2) tNil)) (tC (.int 1)))))) (tRet (tOp (rAddU K) (tSl (rSlU K) (tVar 2) (tPart (tC (.int 1))) tNoPart) (tSl (rSlU K) (tVar 2) tNoPart (tPart (tC (.int 1)))))) tNext) (tSeq (tIfS (tAnd (tB (tCB (rIsiU K) (tCons (tVar 2) (tCons (tC (.ty "str")) tNil)))) (tTest (tOp (rCmp K gLt) (tVar 4) (tC (.int 3))))) (tRet (tIxU K (tLst (tCons (tC (.str "")) (tCons (tC (.str "ab")) (tCons (tC (.str "abc")) (tCons (tC (.str "g")) (tCons (tC (.str "fa")) (tCons (tOp (rAddU K) (tVar 2) (tC (.str "a"))) (tCons (tC (.str "A")) (tCons (tOp (rAddU K) (tVar 2) (tC (.str "\n"))) tNil))))))))) (tCall (sp__law_take K) [] E0 (tCons (tVar 0) (tCons (tVar 1) (tCons (tC (.int 8)) tNil)))))) tNext) (tSeq (tIfS (tAnd (tB (tCB (rIsiU K) (tCons (tVar 2) (tCons (tC (.ty "int")) tNil)))) (tTest (tOp (rCmp K gLt) (tVar 4) (tC (.int 3))))) (tRet (tIxU K (tLst (tCons (tC (.int 0)) (tCons (tC (.int 9)) (tCons (tC (.int 10)) (tCons (tOp (rAddU K) (tVar 2) (tC (.int 1))) (tCons (tC .non) (tCons (tC (.bl true)) tNil))))))) (tCall (sp__law_take K) [] E0 (tCons (tVar 0) (tCons (tVar 1) (tCons (tC (.int 6)) tNil)))))) tNext) (tRet (tIxU K (tLst (tCons (tC .non) (tCons (tC (.int 7)) (tCons (tC (.bl true)) (tCons (tC (.str "")) (tCons (tTup tNil) (tCons (tTup (tCons (tC (.str "a")) (tCons (tC (.str "b")) (tCons (tC (.int 1)) tNil)))) (tCons (tC (.str "a")) tNil)))))))) (tCall (sp__law_take K) [] E0 (tCons (tVar 0) (tCons (tVar 1) (tCons (tC (.int 7)) tNil)))))))))))))
/-- a good datum -/
abbrev GoodV (sp : Addr) (D : Nat) : V → Hp → Prop := fun v H => ∃ d, DS (spR sp) H v d ∧ Good D d
theorem goodV_r {sp : Addr} {D : Nat} (v : V) (H1 H2 : Hp) (e : (spR sp).r H1 H2) : GoodV sp D v H1 → GoodV sp D v H2 := fun ⟨d, h, g⟩ => ⟨d, e.ds h, g⟩
section
variable {K : Frag} {σ : L2.St} {H : Hp} {sp : Addr} {D : Nat}
theorem gv_c {v : V} {d : PyData} (hd : ∀ H', DS (spR sp) H' v d) (g : Good D d) : Ev (spR sp) (tC v) σ H (GoodV sp D) := (ev_c (v := v)).imp fun v' H1 _ e => by rw [e]; exact ⟨d, hd H1, g⟩
theorem gv_v {te : TE} {v : V} {d : PyData} (h : EvV (spR sp) te σ H v) (hd : ∀ H', DS (spR sp) H' v d) (g : Good D d) : Ev (spR sp) te σ H (GoodV sp D) := h.imp fun v' H1 _ e => by rw [e]; exact ⟨d, hd H1, g⟩
theorem gv_unit : Ev (spR sp) (tTup tNil) σ H (GoodV sp (D + 1)) := (ev_tup ea_nil fun vs H1 _ e => by rw [e]; show 0 ≤ 100000; decide).imp fun v H1 _ ⟨p, vs, H2, ev, evs, hp, r, eH⟩ => by
  subst ev evs
  exact ⟨.tuple [], .tup (by rw [eH]; exact upd_same) .nil, rfl, rfl, by show 0 + 1 ≤ D + 1; omega⟩
theorem gv_triple : Ev (spR sp) (tTup (tCons (tC (.str "a")) (tCons (tC (.str "b")) (tCons (tC (.int 1)) tNil)))) σ H (GoodV sp (D + 1)) := (ev_tripleD Le.rfl ev_c ev_c ev_c (.str "a") (.str "b") (.int 1)).imp fun v H1 _ h => ⟨_, h, rfl, by decide +kernel, by show 0 + 1 ≤ D + 1; omega⟩
end
theorem good_str {D : Nat} {s : Str} (h : s.length ≤ 1000) : Good D (.str s) := ⟨rfl, decide_eq_true (Nat.le_trans h (by decide)), Nat.zero_le _⟩
theorem good_int {D : Nat} {i : Int} : Good D (.int i) := ⟨rfl, rfl, Nat.zero_le _⟩
theorem good_bool {D : Nat} {i : Bool} : Good D (.bool i) := ⟨rfl, rfl, Nat.zero_le _⟩
theorem good_none {D : Nat} : Good D .none := ⟨rfl, rfl, Nat.zero_le _⟩
theorem pure__law_table_changed {K : Frag} {n : Nat} (vs : List V) (H : Hp) (Q : VK) (E : XK) (h : sp__law_table_changed K (n + 1) vs H Q E) : t__law_table_changed K n { nx := fun _ H' => Q .non H', rt := Q } (start ["row", "spot", "value", "at", "kind"] vs) H := by
  obtain ⟨ra, sp, v, d, rfl, dr, hd, hp, dp, k⟩ := h
  have hnl := plain_nl d hp
  have hds : ∀ H', (spR sp).r H H' → DS (spR sp) H' v d := fun H' e => e.ds hd
  -- what is left, after the kind is drawn
  have last : ∀ (σ : L2.St) (D : Ends) H1, D.rt = Q → σ[0]? = some (some (.ref ra)) → σ[1]? = some (some (.ref sp)) → (spR sp).r H H1 → tRet (tIxU K (tLst (tCons (tC .non) (tCons (tC (.int 7)) (tCons (tC (.bl true)) (tCons (tC (.str "")) (tCons (tTup tNil) (tCons (tTup (tCons (tC (.str "a")) (tCons (tC (.str "b")) (tCons (tC (.int 1)) tNil)))) (tCons (tC (.str "a")) tNil)))))))) (tCall (sp__law_take K) [] E0 (tCons (tVar 0) (tCons (tVar 1) (tCons (tC (.int 7)) tNil))))) D σ H1 := by
    intro σ D H1 hD h0 h1 e1
    have dr1 := dr.sp e1
    refine s_ret (ρ := spR sp) (ev_pick (P := GoodV sp (d.depth + 1)) (n := 7) (N := 7) (own_sp dr1) goodV_r ?_ (by decide) rfl fun H2 e2 => ev_take (ev_var h0) (ev_var h1) ev_c (dr1.sp e2) (by decide)) fun v' H2 e2 ⟨d', h, g⟩ => by rw [hD]; exact k v' d' H2 (e1.trans e2) h g
    refine ea_consQ goodV_r (gv_c (fun _ => .non) good_none) fun _ _ => ea_consQ goodV_r (gv_c (fun _ => .int 7) good_int) fun _ _ => ea_consQ goodV_r (gv_c (fun _ => .bl true) good_bool) fun _ _ => ea_consQ goodV_r (gv_c (fun _ => .str "") (good_str (by decide +kernel))) fun _ _ => ea_consQ goodV_r gv_unit fun _ _ => ea_consQ goodV_r gv_triple fun _ _ => ea_consQ goodV_r (gv_c (fun _ => .str "a") (good_str (by decide +kernel))) fun _ _ => ea_nilP
  cases d with
  | none => cases hp
  | bool b => cases hp
  | list ds => cases hp
  | dict ds => cases hp
  | str s =>
    have hs : s.length ≤ 300 := by simpa [plainT] using hp
    cases hd
    refine q_when (ρ := spR sp) (b := false) ((et_and (b := true) (et_B (ev_isi (ev_var rfl) (.str s) rfl)) fun h => by cases h).to rfl) (fun hb => by cases hb) fun _ H1 e1 => ?_
    refine q_asg (ρ := spR sp) (ev_take (ev_var rfl) (ev_var rfl) ev_c (dr.sp e1) (by decide)) fun v1 H2 e2 ⟨m, ev, _, _⟩ => ?_
    subst ev
    have e12 := e1.trans e2
    refine q_when (ρ := spR sp) (b := false) ((et_and (b := true) (et_B (ev_isi (ev_var rfl) (.str s) rfl)) fun h => by cases h).to rfl) (fun hb => by cases hb) fun _ H3 e3 => ?_
    refine q_when (ρ := spR sp) (b := false) ((et_and (b := true) (et_B (ev_isi (ev_var rfl) (.str s) rfl)) fun h => by cases h).to rfl) (fun hb => by cases hb) fun _ H4 e4 => ?_
    refine q_when (ρ := spR sp) (b := false) ((et_and (b := true) (et_B (ev_isi (ev_var rfl) (.str s) rfl)) fun h => by cases h).to rfl) (fun hb => by cases hb) fun _ H5 e5 => ?_
    have e15 := e12.trans (e3.trans (e4.trans e5))
    refine q_when (ρ := spR sp) (et_and (et_B (ev_isi (ev_var rfl) (.str s) rfl)) fun _ => et_test (ev_lt (ev_var rfl) ev_c)) (fun hb H6 e6 => ?_) fun _ H6 e6 => ?_
    · have e16 := e15.trans e6
      have dr6 := dr.sp e16
      refine s_ret (ρ := spR sp) (ev_pick (P := GoodV sp ((PyData.str s).depth + 1)) (n := 8) (N := 8) (own_sp dr6) goodV_r ?_ (by decide) rfl fun H2 e2 => ev_take (ev_var rfl) (ev_var rfl) ev_c (dr6.sp e2) (by decide)) fun v' H2 e2 ⟨d', h, g⟩ => k v' d' H2 (e16.trans e2) h g
      have one : ∀ x : Str, x.length = 1 → (s ++ x).length ≤ 1000 := fun x hx => by rw [app_len]; omega
      exact ea_consQ goodV_r (gv_c (fun _ => .str _) (good_str (by decide +kernel))) fun _ _ => ea_consQ goodV_r (gv_c (fun _ => .str _) (good_str (by decide +kernel))) fun _ _ => ea_consQ goodV_r (gv_c (fun _ => .str _) (good_str (by decide +kernel))) fun _ _ => ea_consQ goodV_r (gv_c (fun _ => .str _) (good_str (by decide +kernel))) fun _ _ => ea_consQ goodV_r (gv_c (fun _ => .str _) (good_str (by decide +kernel))) fun _ _ =>
        ea_consQ goodV_r (gv_v (ev_addS (ev_var rfl) ev_c (by have : ("a" : Str).length = 1 := by decide +kernel
                                                              omega)) (fun _ => .str _) (good_str (one _ (by decide +kernel)))) fun _ _ => ea_consQ goodV_r (gv_c (fun _ => .str _) (good_str (by decide +kernel))) fun _ _ =>
        ea_consQ goodV_r (gv_v (ev_addS (ev_var rfl) ev_c (by have : ("\n" : Str).length = 1 := by decide +kernel
                                                              omega)) (fun _ => .str _) (good_str (one _ (by decide +kernel)))) fun _ _ => ea_nilP
    · refine q_when (ρ := spR sp) (b := false) ((et_and (b := true) (et_B (ev_isi (ev_var rfl) (.str s) rfl)) fun h => by cases h).to rfl) (fun hb => by cases hb) fun _ H7 e7 => ?_
      exact last _ _ H7 rfl rfl rfl (e15.trans (e6.trans e7))
  | int i =>
    cases hd
    refine q_when (ρ := spR sp) (b := false) ((et_and (b := true) (et_B (ev_isi (ev_var rfl) (.int i) rfl)) fun h => by cases h).to rfl) (fun hb => by cases hb) fun _ H1 e1 => ?_
    refine q_asg (ρ := spR sp) (ev_take (ev_var rfl) (ev_var rfl) ev_c (dr.sp e1) (by decide)) fun v1 H2 e2 ⟨m, ev, _, _⟩ => ?_
    subst ev
    have e12 := e1.trans e2
    refine q_when (ρ := spR sp) (b := false) ((et_and (b := true) (et_B (ev_isi (ev_var rfl) (.int i) rfl)) fun h => by cases h).to rfl) (fun hb => by cases hb) fun _ H3 e3 => ?_
    refine q_when (ρ := spR sp) (b := false) ((et_and (b := true) (et_B (ev_isi (ev_var rfl) (.int i) rfl)) fun h => by cases h).to rfl) (fun hb => by cases hb) fun _ H4 e4 => ?_
    refine q_when (ρ := spR sp) (b := false) ((et_and (b := true) (et_B (ev_isi (ev_var rfl) (.int i) rfl)) fun h => by cases h).to rfl) (fun hb => by cases hb) fun _ H5 e5 => ?_
    have e15 := e12.trans (e3.trans (e4.trans e5))
    refine q_when (ρ := spR sp) (b := false) ((et_and (b := true) (et_B (ev_isi (ev_var rfl) (.int i) rfl)) fun h => by cases h).to rfl) (fun hb => by cases hb) fun _ H6 e6 => ?_
    refine q_when (ρ := spR sp) (et_and (et_B (ev_isi (ev_var rfl) (.int i) rfl)) fun _ => et_test (ev_lt (ev_var rfl) ev_c)) (fun hb H7 e7 => ?_) fun _ H7 e7 => ?_
    · have e17 := e15.trans (e6.trans e7)
      have dr7 := dr.sp e17
      refine s_ret (ρ := spR sp) (ev_pick (P := GoodV sp ((PyData.int i).depth + 1)) (n := 6) (N := 6) (own_sp dr7) goodV_r ?_ (by decide) rfl fun H2 e2 => ev_take (ev_var rfl) (ev_var rfl) ev_c (dr7.sp e2) (by decide)) fun v' H2 e2 ⟨d', h, g⟩ => k v' d' H2 (e17.trans e2) h g
      exact ea_consQ goodV_r (gv_c (fun _ => .int _) good_int) fun _ _ => ea_consQ goodV_r (gv_c (fun _ => .int _) good_int) fun _ _ => ea_consQ goodV_r (gv_c (fun _ => .int _) good_int) fun _ _ => ea_consQ goodV_r (gv_v (ev_add (ev_var rfl) ev_c) (fun _ => .int _) good_int) fun _ _ => ea_consQ goodV_r (gv_c (fun _ => .non) good_none) fun _ _ => ea_consQ goodV_r (gv_c (fun _ => .bl _) good_bool) fun _ _ => ea_nilP
    · exact last _ _ H7 rfl rfl rfl (e15.trans (e6.trans e7))
  | tuple ds =>
    obtain ⟨a, xs, rfl, hxs, ha, hsq⟩ := hd.tupl
    have fine := fine_plain hp
    have hpl : ds.length ≤ 300 ∧ plainTs ds = true := by simpa [plainT] using hp
    have hlen := hxs.length
    have sA : ∀ H1, (spR sp).r H H1 → SqA K H1 a xs := fun H1 e => .inr (hsq K (spR sp) H1 e)
    have ddep : (PyData.tuple ds).depth = PyData.depthAll ds + 1 := rfl
    -- behind the first question
    have rest : ∀ (σ : L2.St) (av kv : Option V) H1, σ = [some (.ref ra), some (.ref sp), some (.ref a), av, kv] → (spR sp).r H H1 → (tSeq (tAsg (tCall (sp__law_take K) [] E0 (tCons (tVar 0) (tCons (tVar 1) (tCons (tC (.int 4)) tNil)))) (gName 4)) (tSeq (tIfS (tAnd (tB (tCB (rIsiU K) (tCons (tVar 2) (tCons (tC (.ty "tuple")) tNil)))) (tAnd (tTest (tOp (rEqU K) (tVar 4) (tC (.int 0)))) (tTest (tOp (rCmp K gGt) (tCB (rLenU K) (tCons (tVar 2) tNil)) (tC (.int 0)))))) (tRet (tOp (rAddU K) (tVar 2) (tSl (rSlU K) (tVar 2) tNoPart (tPart (tC (.int 1)))))) tNext) (tSeq (tIfS (tAnd (tB (tCB (rIsiU K) (tCons (tVar 2) (tCons (tC (.ty "tuple")) tNil)))) (tAnd (tTest (tOp (rEqU K) (tVar 4) (tC (.int 1)))) (tTest (tOp (rCmp K gGt) (tCB (rLenU K) (tCons (tVar 2) tNil)) (tC (.int 0)))))) (tRet (tSl (rSlU K) (tVar 2) (tPart (tC (.int 1))) tNoPart)) tNext) (tSeq (tIfS (tAnd (tB (tCB (rIsiU K) (tCons (tVar 2) (tCons (tC (.ty "tuple")) tNil)))) (tAnd (tTest (tOp (rEqU K) (tVar 4) (tC (.int 2)))) (tTest (tOp (rCmp K gGt) (tCB (rLenU K) (tCons (tVar 2) tNil)) (tC (.int 1)))))) (tRet (tOp (rAddU K) (tSl (rSlU K) (tVar 2) (tPart (tC (.int 1))) tNoPart) (tSl (rSlU K) (tVar 2) tNoPart (tPart (tC (.int 1)))))) tNext) (tSeq (tIfS (tAnd (tB (tCB (rIsiU K) (tCons (tVar 2) (tCons (tC (.ty "str")) tNil)))) (tTest (tOp (rCmp K gLt) (tVar 4) (tC (.int 3))))) (tRet (tIxU K (tLst (tCons (tC (.str "")) (tCons (tC (.str "ab")) (tCons (tC (.str "abc")) (tCons (tC (.str "g")) (tCons (tC (.str "fa")) (tCons (tOp (rAddU K) (tVar 2) (tC (.str "a"))) (tCons (tC (.str "A")) (tCons (tOp (rAddU K) (tVar 2) (tC (.str "\n"))) tNil))))))))) (tCall (sp__law_take K) [] E0 (tCons (tVar 0) (tCons (tVar 1) (tCons (tC (.int 8)) tNil)))))) tNext) (tSeq (tIfS (tAnd (tB (tCB (rIsiU K) (tCons (tVar 2) (tCons (tC (.ty "int")) tNil)))) (tTest (tOp (rCmp K gLt) (tVar 4) (tC (.int 3))))) (tRet (tIxU K (tLst (tCons (tC (.int 0)) (tCons (tC (.int 9)) (tCons (tC (.int 10)) (tCons (tOp (rAddU K) (tVar 2) (tC (.int 1))) (tCons (tC .non) (tCons (tC (.bl true)) tNil))))))) (tCall (sp__law_take K) [] E0 (tCons (tVar 0) (tCons (tVar 1) (tCons (tC (.int 6)) tNil)))))) tNext) (tRet (tIxU K (tLst (tCons (tC .non) (tCons (tC (.int 7)) (tCons (tC (.bl true)) (tCons (tC (.str "")) (tCons (tTup tNil) (tCons (tTup (tCons (tC (.str "a")) (tCons (tC (.str "b")) (tCons (tC (.int 1)) tNil)))) (tCons (tC (.str "a")) tNil)))))))) (tCall (sp__law_take K) [] E0 (tCons (tVar 0) (tCons (tVar 1) (tCons (tC (.int 7)) tNil)))))))))))) { nx := fun _ H' => Q .non H', rt := Q } σ H1 := by
      rintro σ av kv H1 rfl e1
      refine q_asg (ρ := spR sp) (ev_take (ev_var rfl) (ev_var rfl) ev_c (dr.sp e1) (by decide)) fun v1 H2 e2 ⟨m, ev, _, _⟩ => ?_
      subst ev
      have e12 := e1.trans e2
      have hdat : ∀ H3, (spR sp).r H2 H3 → DS (spR sp) H3 (.ref a) (.tuple ds) := fun H3 e3 => hds H3 (e12.trans e3)
      have good : ∀ v' ds' H', (spR sp).r H2 H' → DS (spR sp) H' v' (.tuple ds') → Fine 900 (PyData.depthAll ds) ds' → Q v' H' := fun v' ds' H' e h f =>
        k v' _ H' (e12.trans e) h ⟨(f.good (by decide)).1, (f.good (by decide)).2.1, by have := (f.good (by decide)).2.2; rw [ddep]; omega⟩
      have cutE : ∀ {H3 : Hp} {tl th : TO} {lo hi : Option Int}, (spR sp).r H2 H3 → EvO (spR sp) tl [some (.ref ra), some (.ref sp), some (.ref a), av, some (.int m)] H3 lo → EvO (spR sp) th [some (.ref ra), some (.ref sp), some (.ref a), av, some (.int m)] H3 hi → Ev (spR sp) (tSl (rSlU K) (tVar 2) tl th) [some (.ref ra), some (.ref sp), some (.ref a), av, some (.int m)] H3 (fun v H' => ∃ ds', Fine 300 (PyData.depthAll ds) ds' ∧ DS (spR sp) H' v (.tuple ds')) := fun e3 h1 h2 =>
        (ev_slD Le.rfl (ev_var rfl) h1 h2 (hdat _ e3)).imp fun v H' _ h => ⟨_, fine.cut _ _, h⟩
      refine q_when (ρ := spR sp) (et_and (et_B (ev_isi (ev_var rfl) (hdat H2 .rfl) rfl)) fun _ => et_and (et_test (ev_eqI (ev_var rfl) ev_c)) fun _ => et_test (ev_gt (ev_len (ev_var rfl) (fun H3 e3 => sA H3 (e12.trans e3))) ev_c)) (fun hb H3 e3 => ?_) fun _ H3 e3 => ?_
      · refine s_ret (ρ := spR sp) (ev_catD (C1 := Fine 300 (PyData.depthAll ds)) (C2 := Fine 300 (PyData.depthAll ds)) ((ev_var (v := .ref a) rfl).imp fun v H' e ev => ⟨ds, fine, by rw [ev]; exact hdat H' (e3.trans e)⟩) (fun H4 e4 => cutE (e3.trans e4) eo_none (eo_some ev_c)) fun d1 d2 f1 f2 => by have := f1.len; have := f2.len; omega) fun v' H4 e4 ⟨ds', ⟨d1, d2, f1, f2, ed⟩, h⟩ => ?_
        exact good v' ds' H4 (e3.trans e4) h (by rw [ed]; have f := f1.append f2; exact ⟨f.all, Nat.le_trans f.len (by decide)⟩)
      refine q_when (ρ := spR sp) (et_and (et_B (ev_isi (ev_var rfl) (hdat H3 e3) rfl)) fun _ => et_and (et_test (ev_eqI (ev_var rfl) ev_c)) fun _ => et_test (ev_gt (ev_len (ev_var rfl) (fun H4 e4 => sA H4 (e12.trans (e3.trans e4)))) ev_c)) (fun hb H4 e4 => ?_) fun _ H4 e4 => ?_
      · refine s_ret (ρ := spR sp) (cutE (e3.trans e4) (eo_some ev_c) eo_none) fun v' H5 e5 ⟨ds', f, h⟩ => ?_
        exact good v' ds' H5 (e3.trans (e4.trans e5)) h ⟨f.all, Nat.le_trans f.len (by decide)⟩
      have e34 := e3.trans e4
      refine q_when (ρ := spR sp) (et_and (et_B (ev_isi (ev_var rfl) (hdat H4 e34) rfl)) fun _ => et_and (et_test (ev_eqI (ev_var rfl) ev_c)) fun _ => et_test (ev_gt (ev_len (ev_var rfl) (fun H5 e5 => sA H5 (e12.trans (e34.trans e5)))) ev_c)) (fun hb H5 e5 => ?_) fun _ H5 e5 => ?_
      · refine s_ret (ρ := spR sp) (ev_catD (C1 := Fine 300 (PyData.depthAll ds)) (C2 := Fine 300 (PyData.depthAll ds)) (cutE (e34.trans e5) (eo_some ev_c) eo_none) (fun H6 e6 => cutE (e34.trans (e5.trans e6)) eo_none (eo_some ev_c)) fun d1 d2 f1 f2 => by have := f1.len; have := f2.len; omega) fun v' H6 e6 ⟨ds', ⟨d1, d2, f1, f2, ed⟩, h⟩ => ?_
        exact good v' ds' H6 (e34.trans (e5.trans e6)) h (by rw [ed]; have f := f1.append f2; exact ⟨f.all, Nat.le_trans f.len (by decide)⟩)
      have e35 := e34.trans e5
      refine q_when (ρ := spR sp) (b := false) ((et_and (b := true) (et_B (ev_isi (ev_var rfl) (hdat H5 e35) rfl)) fun h => by cases h).to rfl) (fun hb => by cases hb) fun _ H6 e6 => ?_
      refine q_when (ρ := spR sp) (b := false) ((et_and (b := true) (et_B (ev_isi (ev_var rfl) (hdat H6 (e35.trans e6)) rfl)) fun h => by cases h).to rfl) (fun hb => by cases hb) fun _ H7 e7 => ?_
      exact last _ _ H7 rfl rfl rfl (e12.trans (e35.trans (e6.trans e7)))
    by_cases h0 : ds.length = 0
    · refine q_when (ρ := spR sp) (b := false) ((et_and (b := false) (et_B (ev_isi (ev_var rfl) hd rfl)) fun _ => (et_and (b := true) (et_test (ev_gt (ev_len (ev_var rfl) sA) ev_c)) fun h => ?_).to ?_).to rfl) (fun hb => by cases hb) fun _ H1 e1 => rest _ _ _ H1 rfl e1
      · have := of_decide_eq_true h
        omega
      · rw [decide_eq_false (by omega)]
        rfl
    · refine q_whenC (ρ := spR sp) (C := fun _ => True) (etc_and (et_B (ev_isi (ev_var rfl) hd rfl)) (etc_and ((et_test (ev_gt (ev_len (ev_var rfl) sA) ev_c)).to (decide_eq_true (by omega))) (etc_test (ev_opP (Pa := Below 6) (Pb := fun v => v = .int 0) (ev_take (ev_var rfl) (ev_var rfl) ev_c dr (by decide)) ev_c fun x y ⟨m, ex, _⟩ ey => by
        subst ex ey
        exact fun H1 e1 Q q => rv_cmpI H1 Q (q _ H1 .rfl ⟨_, rfl, trivial⟩))))) (fun _ H1 e1 => ?_) fun _ H1 e1 => rest _ _ _ H1 rfl e1
      refine q_asg (ρ := spR sp) (ev_take (ev_var rfl) (ev_var rfl) (ev_len (ev_var rfl) (fun H2 e2 => sA H2 (e1.trans e2))) (dr.sp e1) (by omega)) fun v1 H2 e2 ⟨m, ev, m0, m1⟩ => ?_
      subst ev
      have e12 := e1.trans e2
      have hm : m.toNat < xs.length := by omega
      have gx : xs[m.toNat]? = some xs[m.toNat] := List.getElem?_eq_getElem hm
      obtain ⟨dm, g1, g2⟩ := hxs.get gx
      have hmem := List.mem_of_getElem? g1
      have dmd : dm.depth ≤ PyData.depthAll ds := depth_mem hmem
      have dpn : PyData.depthAll ds + 1 < n + 1 := dp
      have hdat : ∀ H3, (spR sp).r H2 H3 → DS (spR sp) H3 (.ref a) (.tuple ds) := fun H3 e3 => hds H3 (e12.trans e3)
      refine s_ret (ρ := spR sp) (ev_catD (C1 := Fine 301 (PyData.depthAll ds + 1)) (C2 := Fine 300 (PyData.depthAll ds + 1)) ((ev_catD (C1 := Fine 300 (PyData.depthAll ds + 1)) (C2 := Fine 1 (PyData.depthAll ds + 1)) ?_ ?_ ?_).imp ?_) ?_ ?_) fun v' H3 e3 ⟨ds', ⟨d1, d2, f1, f2, ed⟩, h⟩ => ?_
      · exact (ev_slD Le.rfl (ev_var rfl) eo_none (eo_some (ev_var rfl)) (hdat H2 .rfl)).imp fun v H' _ h => ⟨_, (fine.cut _ _).up (Nat.le_succ _), h⟩
      · intro H3 e3
        refine (ev_tup (Rr := fun vs H' => ∃ x, vs = [x] ∧ GoodV sp (PyData.depthAll ds + 1) x H') (ea_one (ev_call (ea_cons (ev_var rfl) (ea_cons (ev_var rfl) (ea_cons (ev_ix (n := m.toNat) (ev_var rfl) (ev_var rfl) (fun H4 e4 => sA H4 (e12.trans (e3.trans e4))) (by omega) gx) ea_nil))) fun H4 e4 Q' q' E' => ?_)) fun vs H4 _ ⟨x, e, _⟩ => by rw [e]; show 1 ≤ 100000; decide).imp fun v H4 e4 ⟨p, vs, H5, ev, ⟨x, evs, dx, hx, gx⟩, hp5, r5, eH⟩ => ?_
        · exact ⟨ra, sp, _, dm, rfl, dr.sp (e12.trans (e3.trans e4)), (e12.trans (e3.trans e4)).ds g2, plainTs_mem hpl.2 hmem, by omega, fun v' d' H' e h g => q' v' H' e ⟨d', h, g.1, g.2.1, Nat.le_trans g.2.2 (by omega)⟩⟩
        · subst ev evs
          refine ⟨[dx], ⟨fun d hd => ?_, Nat.le_refl _⟩, .tup (by rw [eH]; exact upd_same) (.cons ((eH ▸ r_new (ρ := spR sp) _ hp5 : (spR sp).r H5 H4).ds hx) .nil)⟩
          rw [List.mem_singleton.mp hd]
          exact gx
      · intro d1 d2 f1 f2
        have := f1.len
        have := f2.len
        omega
      · rintro v H3 e3 ⟨ds', ⟨d1, d2, f1, f2, rfl⟩, h⟩
        exact ⟨_, f1.append f2, h⟩
      · intro H3 e3
        exact (ev_slD Le.rfl (ev_var rfl) (eo_some (ev_add (ev_var rfl) ev_c)) eo_none (hdat H3 e3)).imp fun v H' _ h => ⟨_, (fine.cut _ _).up (Nat.le_succ _), h⟩
      · intro d1 d2 f1 f2
        have := f1.len
        have := f2.len
        omega
      · have f := f1.append f2
        rw [← ed] at f
        have g := f.good (by decide)
        exact k v' _ H3 (e12.trans e3) h g
end Slip
/-! the law of tables -/
namespace Slip
open PySem PySem.Spec PyProof.Rows L2
/-! ### lists for tuples -/
theorem piece_tupD (m : PyData) : isPieceD (tupD m) = isPieceD m := by cases m <;> rfl
theorem whole_tupD (m : PyData) : isWholeD 1 9 (tupD m) = isWholeD 1 9 m := by cases m <;> rfl
theorem seq_tupD (m : PyData) : isSeqD (tupD m) = isSeqD m := by cases m <;> rfl
theorem items_tupD (m : PyData) : itemsD (tupD m) = (itemsD m).map tupD := by
  cases m with
  | tuple ds => exact tupAll_map ds
  | list ds => exact tupAll_map ds
  | _ => rfl
theorem fault_two {d : PyData} (hq : isSeqD d = true) (h : (itemsD d).length ≠ 3) : isFaultD d = false := by
  unfold isFaultD isTripleD
  rw [hq, decide_eq_false h]
  rfl
theorem fault_tupD (d : PyData) : isFaultD (tupD d) = isFaultD d := by
  cases hq : isSeqD d with
  | false =>
    rw [fault_seq hq, fault_seq (by rw [seq_tupD]; exact hq)]
  | true =>
    by_cases h3 : (itemsD d).length = 3
    · obtain ⟨m, w, c, e⟩ := three h3
      have e2 : itemsD (tupD d) = [tupD m, tupD w, tupD c] := by rw [items_tupD, e]; rfl
      have f1 : isFaultD d = (isPieceD m && isPieceD w && !(PyData.eqv m w) && isWholeD 1 9 c) := by
        unfold isFaultD isTripleD
        rw [hq, e]
        rfl
      have f2 : isFaultD (tupD d) = (isPieceD (tupD m) && isPieceD (tupD w) && !(PyData.eqv (tupD m) (tupD w)) && isWholeD 1 9 (tupD c)) := by
        unfold isFaultD isTripleD
        rw [seq_tupD, hq, e2]
        rfl
      rw [f1, f2, piece_tupD, piece_tupD, whole_tupD]
      cases h1 : isPieceD m with
      | false => rfl
      | true =>
        cases h2 : isPieceD w with
        | false => rfl
        | true =>
          obtain ⟨s, rfl, _⟩ := piece_str h1
          obtain ⟨t, rfl, _⟩ := piece_str h2
          rfl
    · rw [fault_two hq h3, fault_two (by rw [seq_tupD]; exact hq) (by rw [items_tupD, List.length_map]; exact h3)]
theorem pair_tupD {d : PyData} (h : isFaultD d = true) : pairOf (tupD d) = pairOf d := by
  obtain ⟨s, t, c, e, _⟩ := fault_parts h
  rw [pair_fault e, pair_fault (d := tupD d) (s := s) (t := t) (c := .int c) (by rw [items_tupD, e]; rfl)]
theorem table_tupD (d : PyData) : isTableD (tupD d) = isTableD d := by
  unfold isTableD
  rw [seq_tupD, items_tupD, List.length_map, List.all_map]
  have ha : (itemsD d).all (isFaultD ∘ tupD) = (itemsD d).all isFaultD := by
    have : isFaultD ∘ tupD = isFaultD := funext fun x => fault_tupD x
    rw [this]
  rw [ha]
  cases hf : (itemsD d).all isFaultD with
  | false => rw [Bool.and_false]; rfl
  | true =>
    have : ((itemsD d).map tupD).map pairOf = (itemsD d).map pairOf := by
      rw [List.map_map]
      exact List.map_congr_left fun x hx => pair_tupD (List.all_eq_true.mp hf x hx)
    rw [this]
/-! ### a datum is itself -/
mutual
theorem so_self : ∀ d : PyData, plainT d = true → soD d d = true
  | .str s, _ => decide_eq_true rfl
  | .int i, _ => decide_eq_true rfl
  | .tuple ds, h => by
    have h' : ds.length ≤ 300 ∧ plainTs ds = true := by simpa [plainT] using h
    exact sos_self ds h'.2
  | .none, h => by cases h
  | .bool _, h => by cases h
  | .list _, h => by cases h
  | .dict _, h => by cases h
theorem sos_self : ∀ ds : List PyData, plainTs ds = true → soAll ds ds = true
  | [], _ => rfl
  | d :: ds, h => by
    have h' : plainT d = true ∧ plainTs ds = true := by simpa [plainTs] using h
    show (soD d d && soAll ds ds) = true
    rw [so_self d h'.1, sos_self ds h'.2]
    rfl
end
theorem so_bool (b : Bool) : soD (.bool b) (.bool b) = true := by cases b <;> rfl
/-- what a table looks like -/
theorem table_plain {ds : List PyData} (hn : noLists ds = true) (h : isTableD (.tuple ds) = true) : plainT (.tuple ds) = true ∧ (PyData.tuple ds).depth ≤ 2 := by
  have h' : ((true && decide (ds.length ≤ 8)) && ds.all isFaultD) = true := by
    cases q : ((true && decide (ds.length ≤ 8)) && ds.all isFaultD) with
    | true => rfl
    | false =>
      have z : (((true && decide (ds.length ≤ 8)) && ds.all isFaultD) && risingD (ds.map pairOf)) = true := h
      rw [q] at z
      cases z
  have h2 : ds.length ≤ 8 ∧ ∀ x ∈ ds, isFaultD x = true := by simpa using h'
  have one : ∀ x ∈ ds, plainT x = true ∧ x.depth ≤ 1 := fun x hx => by
    obtain ⟨s, t, c, e, p1, p2, _, _, _, hq⟩ := fault_parts (h2.2 x hx)
    have nl := noLists_mem hn hx
    cases x with
    | tuple es =>
      have e' : es = [.str s, .str t, .int c] := e
      subst e'
      obtain ⟨s', es, l1, _⟩ := piece_str p1
      obtain ⟨t', et, l2, _⟩ := piece_str p2
      cases es
      cases et
      refine ⟨?_, Nat.le_refl _⟩
      show (decide (3 ≤ 300) && (decide (s.length ≤ 300) && (decide (t.length ≤ 300) && (true && true)))) = true
      rw [decide_eq_true (show s.length ≤ 300 by omega), decide_eq_true (show t.length ≤ 300 by omega)]
      rfl
    | list es => cases nl
    | _ => cases hq
  have all : ∀ l : List PyData, (∀ x ∈ l, plainT x = true ∧ x.depth ≤ 1) → plainTs l = true := fun l => by
    induction l with
    | nil => intro _; rfl
    | cons x l ih =>
      intro h
      show (plainT x && plainTs l) = true
      rw [(h x (List.mem_cons_self ..)).1, ih fun y hy => h y (List.mem_cons_of_mem _ hy)]
      rfl
  refine ⟨?_, ?_⟩
  · show (decide (ds.length ≤ 300) && plainTs ds) = true
    rw [decide_eq_true (by omega), all ds one]
    rfl
  · show PyData.depthAll ds + 1 ≤ 2
    have := depth_all (D := 1) fun x hx => (one x hx).2
    omega
/-! ### rules -/
section
variable {ρ ρf : Rl} {K : Frag} {σ : L2.St} {H : Hp} {ta te : TE} {tr : TA} {x : V} {d : PyData} {ds : List PyData} {Rr : List V → Hp → Prop}
theorem ea_consV (h : EvV ρ ta σ H x) (hr : EvA ρ tr σ H Rr) : EvA ρ (tCons ta tr) σ H (fun vs H' => ∃ ws, vs = x :: ws ∧ Rr ws H') := fun H1 e _ q =>
  h H1 e _ fun v H2 e2 ev => hr H2 (e.trans e2) _ fun ws H3 e3 rw' => q _ H3 (e2.trans e3) ⟨ws, by rw [ev], rw'⟩
theorem ea_nilD : EvA ρ tNil σ H (fun vs H' => DSs ρf H' vs []) := fun H1 _ _ q => q [] H1 .rfl .nil
theorem ea_consD (le : Le ρ ρf) (h : Ev ρ ta σ H (fun v H' => DS ρf H' v d)) (hr : ∀ H1, ρ.r H H1 → EvA ρ tr σ H1 (fun vs H' => DSs ρf H' vs ds)) : EvA ρ (tCons ta tr) σ H (fun vs H' => DSs ρf H' vs (d :: ds)) := fun H1 e _ q =>
  h H1 e _ fun v H2 e2 hv => hr H2 (e.trans e2) H2 .rfl _ fun ws H3 e3 hw => q _ H3 (e2.trans e3) (.cons (le.ds e3 hv) hw)
theorem ev_tupDs (le : Le ρ ρf) (h : EvA ρ tr σ H (fun vs H' => DSs ρf H' vs ds)) (hl : ds.length ≤ 100000) : Ev ρ (tTup tr) σ H (fun v H' => DS ρf H' v (.tuple ds)) :=
  (ev_tup h fun vs H1 _ e => by rw [e.length]; exact hl).imp fun v H2 r ⟨p, vs, H1, ev, hv, hp, r1, eH⟩ => by
    subst ev
    exact .tup (by rw [eH]; exact upd_same) (le.dss (eH ▸ r_new (ρ := ρ) _ hp) hv)
end
/-- what was handed looks as the table does -/
theorem mixed_table {d d' : PyData} (m : Mixed d d') : isTableD d' = isTableD d := by rw [← table_tupD d', m]
theorem mixed_sm {d d' : PyData} (m : Mixed d d') : sm d' = sm d := by rw [← sm_tup d', m]
theorem mixed_depth {d d' : PyData} (m : Mixed d d') : d'.depth = d.depth := by rw [← dep_tup d', m]
end Slip
/-! a dict made by a comprehension, its keys tuples -/
namespace Slip
open PySem PySem.Spec PyProof.Rows L2
/-- the entry goes in -/
theorem put_tup {X : Cx} {pins : List (Addr × Obj)} {σ : L2.St} {H : Hp} {s : Shared} {E : Value → Shared → Prop} {D b : Addr} {kvs : List (List Key × V)} {k : List Key} {v : V} {r : Value} {Q : Unit → Shared → Prop} (hu : X.A.units + 1 < cLine) (I : Inv X pins σ H s) (hD : H D = some (.dT kvs)) (hb : H b = some (.tup (k.map kV))) (hz : kvs.length < sizeLine)
    (rv : RelV v r) (q : ∀ s', Inv X pins σ (upd H D (.dT (putK kvs k v))) s' → Q () s') : wpAny (model X.prog X.w) X.A (dictSet D (.ref b) r) Q E s := by
  obtain ⟨zz, hs, ys, rel, dd⟩ := dt_of I.hok hD
  have len1 : ys.length ≤ sizeLine := (Paired.length rel) ▸ zz
  have len2 : (putK kvs k v).length ≤ sizeLine := Nat.le_trans (length_putK kvs k v) (Nat.succ_le_of_lt hz)
  refine wpAny_dictSet_heap (hsz := len1) (show X.A.units < cLine by omega) (key_of I.hok hb) dd fun h' dd' sb => q _ ?_
  obtain ⟨ob, es, ep, e1, e2, e3, e4, _, e5⟩ := dd'
  refine d_write I (hD ▸ True.intro) sb ⟨ob, e1⟩ ⟨len2, hs, _, Paired.mapP (rel.put k hb rv) fun p y f => ⟨f.1, by rw [upd_ne (ne_of f.2.1 hD (by intro z; cases z))]; exact f.2.1, f.2.2⟩, ob, es, ep, e1, e2, e3, e4, e5⟩
section
variable {X : Cx}
/-- {(a, b): c for target in iter if ..}: D the new dict -/
def tDcT (wi : TI) (g : TG) (tt : TT) (tk tv : TE) (vs : List Nat) : TE := fun σ H Q => wi σ H fun J H1 => ∀ D, H1 D = none → ∃ W : Nat → Nat → Hp → Prop, (∃ m, W 0 m (upd H1 D (.dT []))) ∧ ∀ i m H, W i m H →
  (J.stop i H ∧ Q (.ref D) H) ∨ (J.go i H ∧ ∃ Nx : Hp → Prop, (∀ H', Nx H' → ∃ m', m' < m ∧ W (i + 1) m' H') ∧ ∀ x H', J.yld i H x H' → g x (wipe σ vs) H' fun σ2 H2 => wipe σ2 vs = wipe σ vs ∧ tt σ2 H2 fun c H3 =>
    if c = true then tk σ2 H3 fun y H4 => tv σ2 H4 fun z H5 => ∃ (kvs : List (List Key × V)) (k : List Key) (b : Addr), y = .ref b ∧ H5 b = some (.tup (k.map kV)) ∧ H5 D = some (.dT kvs) ∧ kvs.length < sizeLine ∧ Nx (upd H5 D (.dT (putK kvs k z))) else Nx H3)
theorem pe_dcT {kx vx tg iter : Expr} {ifs : List Expr} {scope : Scope} {own : List (Str × Nat)} {pos : Pos} {wi : TI} {g : TG} {tt : TT} {tk tv : TE} (hc : X.calm = true) (hu : X.A.units + 1 < cLine) (hN : X.N.Nodup) (hi : PI X tg iter wi) (ok : BlkOk X.N X.env.scope scope own)
    (hg : ∀ s H C cl fp, PG (X.blk s H scope (compEnvC scope cl C X.env) fp) tg g) (ht : ∀ s H C cl fp, PTs (X.blk s H scope (compEnvC scope cl C X.env) fp) ifs tt)
    (hk : ∀ s H C cl fp, PE (X.blk s H scope (compEnvC scope cl C X.env) fp) kx tk) (hv : ∀ s H C cl fp, PE (X.blk s H scope (compEnvC scope cl C X.env) fp) vx tv) (hfs : ∀ x, foldedSetIterable iter X.env x = pure x := by intro _; rfl) :
    PE X (.DictComp kx vx [⟨tg, iter, ifs, 0⟩] scope pos) (tDcT wi g tt tk tv (own.map (·.2))) := by
  refine ⟨fun pins s σ H Q I asked => ?_⟩
  rw [arm_eval_DictComp]
  have cells : ∀ y ∈ scope.names, y.2 = .free → ∃ c, X.env.cells.lookup y.1 = some c := fun y hy e => (ok.free y hy e).elim (fun z => I.ok.has _ (.inl z)) fun z => I.ok.has _ (.inr z)
  refine wpAny_comprehension_free rfl hfs (closure_ok cells) ok.kind (fun y hy e => by rw [ok.uniq y hy, e]) (thn (hi.run pins s σ H _ I asked) fun xv sa walked => thn walked fun itv sb got => ?_)
  obtain ⟨it, fp, tn, J, Hb, rfl, Ib, T, stb, fb, plan⟩ := got
  refine wpAny_newObj_type (newEnv_comp ?_)
  -- the dict, at the heap's end
  have fresh : Hb sb.heap.objs.size = none := Ib.hok.fresh (Nat.le_refl _)
  generalize eD : sb.heap.objs.size = D at fresh
  obtain ⟨W, ⟨m0, w0⟩, turn⟩ := plan D fresh
  generalize esc : ({ sb with heap := sb.heap.push { cls := .type "dict", data := .dict #[] } } : Shared) = sc
  have heapc : sc.heap = sb.heap.push { cls := .type "dict", data := .dict #[] } := esc ▸ rfl
  generalize eHc : upd Hb D (.dT []) = Hc at w0
  have Ic : Inv X pins σ Hc sc := by
    subst esc eHc eD
    exact Ib.laid (t' := sb.toks) (fun b o e => Heap.get?_push_of_some _ e) (Nat.le_refl _) (dt_empty sb.heap Ib.big)
  have small : ∀ b ∈ fp, b < sb.heap.objs.size := fun b hb => (T.obj _ _ stb b hb).elim fun o z => Heap.lt_size z.1
  have fc : ∀ b ∈ fp, FpOk X pins Hc b ∧ b < sc.heap.objs.size := fun b hb => ⟨⟨by rw [← eHc, upd_ne (eD ▸ Nat.ne_of_lt (small b hb))]; exact (fb b hb).1, (fb b hb).2⟩, by rw [heapc, Heap.size_push]; exact Nat.lt_succ_of_lt (small b hb)⟩
  have stc : tn 0 sc.heap := T.keep _ _ _ stb fun b _ o e => heapc ▸ Heap.get?_push_of_some _ e
  have Id := block_start Ic ok hN fc
  have qg := hg sc Hc sc.heap.objs.size (cellsFrom (sc.heap.objs.size + 1) scope.names (cloFrom X.env.cells scope.names [])) fp
  have qt := ht sc Hc sc.heap.objs.size (cellsFrom (sc.heap.objs.size + 1) scope.names (cloFrom X.env.cells scope.names [])) fp
  have qk := hk sc Hc sc.heap.objs.size (cellsFrom (sc.heap.objs.size + 1) scope.names (cloFrom X.env.cells scope.names [])) fp
  have qv := hv sc Hc sc.heap.objs.size (cellsFrom (sc.heap.objs.size + 1) scope.names (cloFrom X.env.cells scope.names [])) fp
  have own0 : ∀ b ∈ fp, Hc b = none := fun b hb => (fc b hb).1.1
  show codeAny _ _ (.compStart _ 0 (.ref it) (.ref D) (compEnvC scope (cellsFrom (sc.heap.objs.size + 1) scope.names (cloFrom X.env.cells scope.names [])) sc.heap.objs.size X.env)) _ { sc with heap := pushCells (sc.heap.push { cls := .type "dict", data := .dict #[] }) scope.names }
  generalize ece : compEnvC scope (cellsFrom (sc.heap.objs.size + 1) scope.names (cloFrom X.env.cells scope.names [])) sc.heap.objs.size X.env = ce at Id qg qt qk qv ⊢
  have locs : ce.locals = sc.heap.objs.size := ece ▸ rfl
  generalize esd : ({ sc with heap := pushCells (sc.heap.push { cls := .type "dict", data := .dict #[] }) scope.names } : Shared) = sd at Id ⊢
  have std : tn 0 sd.heap := T.keep _ _ _ stc fun b _ o e => esd ▸ pushCells_keeps _ _ _ _ (Heap.get?_push_of_some _ e)
  have free1 : ∀ {σ' : L2.St} {H' : Hp} {s' : Shared}, Inv (X.blk sc Hc scope ce fp) [] σ' H' s' → (∀ b ∈ fp, H' b = none) → ∀ b ∈ fp, FpOk (X.blk sc Hc scope ce fp) [] H' b := fun I' nn b hb =>
    ⟨nn b hb, (I'.ok.exf b hb).1, I'.ok.exfs b hb, .inl hb, fun x c e => (I'.ok.exf b hb).2 x c e, fun p hp => nomatch (show p ∈ ([] : List (Addr × Obj)) from hp)⟩
  refine codeAny_compStart_dict ?loop (T.self X.A 0 _ _ _ std ?loop)
  refine compLoop_anyD (fun n s' => ∃ i H', Inv (X.blk sc Hc scope ce fp) [] (wipe σ (own.map (·.2))) H' s' ∧ tn i s'.heap ∧ (∀ b ∈ fp, H' b = none) ∧ W i n H') (fun n se ⟨i, He, Ie, ste, ne, we⟩ => ?_) m0 ⟨0, Hc, Id, std, own0, w0⟩
  rcases turn i n He we with ⟨stop, ends⟩ | ⟨go, Nx, less, step⟩
  · -- the end
    refine thnF (T.done (X.blk sc Hc scope ce fp) rfl rfl rfl hc i [] se _ He (fun _ _ => False) Ie (free1 Ie ne) ste stop) fun r sf ⟨er, If⟩ => ?_
    subst er
    have noL : He sc.heap.objs.size = none := locs ▸ (show He ce.locals = none from If.free)
    obtain ⟨m, ns0, _⟩ := If.loc
    have ns : sf.heap.Ns sc.heap.objs.size m := locs ▸ (show sf.heap.Ns ce.locals m from ns0)
    obtain ⟨p0, p1, p2, p3, p4, p5⟩ := Ic.fpOk (Nat.le_refl _) noL
    have Ig : Inv X pins σ He sf := Ic.call' (ch := fp) If.os If.base If.hok If.bare fun b hb => ⟨(fc b hb).1.2.2.2.1, (fc b hb).1.2.1, (fc b hb).1.2.2.2.2.1, (fc b hb).1.2.2.2.2.2⟩
    exact ⟨m, ns, fun h'' same => ⟨.ref D, He, Ig.turned (t' := sf.toks) (fun b o hb e => (same.2 b hb).trans e) p0 p1 p3 p4 p5, rfl, ends⟩⟩
  · -- a turn
    refine thnF (T.item (X.blk sc Hc scope ce fp) rfl rfl rfl hc i [] se _ He (fun _ _ => False) Ie (free1 Ie ne) ste go) fun r sf ⟨u, er, after⟩ => ?_
    subst er
    refine thnF after fun _ sg ⟨x, Hg, Ig, rx, yl, stg, ng⟩ => ?_
    refine thnF (qg.run _ sg _ Hg x u _ (Ig.pinned (free1 Ig ng) (T.obj _ _ stg)) rx (step x Hg yl)) fun _ sh ⟨σh, Hh, Ih, wh, ask⟩ => ?_
    refine thnF (qt.run _ sh σh Hh _ Ih ask) fun c si ⟨Hi, Ii, ask2⟩ => ?_
    have close : ∀ {s' : Shared} {H' : Hp}, Inv (X.blk sc Hc scope ce fp) ([] ++ pinsAt fp sg.heap) σh H' s' → Nx H' → ∃ m, m < n ∧ ∃ i H', Inv (X.blk sc Hc scope ce fp) [] (wipe σ (own.map (·.2))) H' s' ∧ tn i s'.heap ∧ (∀ b ∈ fp, H' b = none) ∧ W i m H' := fun {s' H'} I' nx => by
      obtain ⟨m', lt, w'⟩ := less H' nx
      have held : ∀ b ∈ fp, ∀ o, sg.heap.get? b = some o → s'.heap.get? b = some o ∧ H' b = none := fun b hb o e => ⟨(I'.pin (b, o) (List.mem_append_right _ (List.mem_append_right _ (mem_pinsAt hb e)))).1, (I'.pin (b, o) (List.mem_append_right _ (List.mem_append_right _ (mem_pinsAt hb e)))).2.1⟩
      refine ⟨m', lt, i + 1, H', (I'.unpinned (pins := [])).weak (by rw [← wh, wipe_length]) fun j v e => ?_, T.keep _ _ _ stg fun b hb o e => (held b hb o e).1, fun b hb => ?_, w'⟩
      · rw [← wh] at e
        exact (wipe_some e).1
      · exact (T.obj _ _ stg b hb).elim fun o z => (held b hb o z.1).2
    cases c with
    | false => exact close Ii ask2
    | true =>
      refine thnF (qk.run _ si σh Hi _ Ii ask2) fun kv sj ⟨yk, Hj, Ij, rk, ask3⟩ => ?_
      refine thnF (qv.run _ sj σh Hj _ Ij ask3) fun vv sl ⟨yv, Hl, Il, rv, kvs, k, b, ek, hb, hD, hz, nx⟩ => ?_
      subst ek
      cases (show kv = Value.ref b from rk)
      exact put_tup (X := X.blk sc Hc scope ce fp) hu Il hD hb hz rv fun sm Im => close Im nx
end
/-- the truth of a value, whatever its kind -/
def tTru (K : Frag) (ta : TE) : TT := fun σ H Q => ta σ H fun x H' => ∃ k, TruV K x H' k ∧ Q k H'
end Slip
/-! rules: a built-in that the module has by name; a dict display of one tuple; x in a tuple of data -/
namespace Slip
open PySem PySem.Spec PyProof.Rows L2
section
variable {X : Cx} {x : Str} {p pos : Pos} {e : Expr} {es : List Expr} {t : TA} {id : String} {r : List V → Hp → VK → Prop}
theorem pe_callG (hc : CallR X (.builtin id) r) (hg : Gl X x) (hm : X.mg x = some (.builtin id)) (ha : PA X (e :: es) t) (hdb : (x == ("__debug__" : Str)) = false := by decide)
    (he : starEach (e :: es) X.env = (false, eval e X.env) :: starEach es X.env := by rfl) (hpl : (backTo pos (starEach es X.env)).any (·.1) = false := by rfl) : PE X (.Call (.Name x p) (e :: es) [] pos) (tCB r t) := by
  refine ⟨fun pins s σ H Q I h => ?_⟩
  refine wpAny_Call_Name_kw (ld_glob I hg hm ?_ hdb)
  exact PyProof.Rows.callWith_builtin1 (thn (ha.run pos pins s σ H _ I h) fun us s1 ⟨vs, H1, I1, r1, q1⟩ => hc pins s1 σ H1 vs us Q I1 r1 q1) he hpl
/-- {(a, b): v} -/
def tDispT (tk tv : TE) : TE := fun σ H Q => ∀ D, H D = none → tk σ (upd H D (.dT [])) fun x H1 => tv σ H1 fun y H2 => ∃ (b : Addr) (k : List Key), x = .ref b ∧ H2 b = some (.tup (k.map kV)) ∧ H2 D = some (.dT []) ∧ Q (.ref D) (upd H2 D (.dT [(k, y)]))
theorem pe_dispT {k v : Expr} {tk tv : TE} (hu : X.A.units + 1 < cLine) (hk : PE X k tk) (hv : PE X v tv) : PE X (.Dict [some k] [v] pos) (tDispT tk tv) := by
  refine ⟨fun pins s σ H Q I q => ?_⟩
  have hn := I.hok.fresh (Nat.le_refl s.heap.objs.size)
  have I1 := I.laid (a := s.heap.objs.size) (o := .dT []) (h' := s.heap.push { cls := .type "dict", data := .dict #[] }) (t' := s.toks) (fun _ _ q => Heap.get?_push_of_some _ q) (Nat.le_refl _) (dt_empty s.heap I.big)
  rw [arm_eval_Dict, zip_pairTrees [some k] [v] X.env pos rfl rfl, dictDisplay_pairs _ (by simp [pairTrees]) (by simp [pairTrees])]
  refine wpAny_bind (wpAny_standAt (wpAny_bind ?_))
  unfold subDict
  refine wpAny_bind (wpAny_alloc (wpAny_bind (wpAny_holding ?_)))
  rw [if_pos (by simp [pairTrees])]
  refine wpAny_bind (pairTrees_cons_walk (thn (hk.run pins _ σ _ _ I1 (q _ hn)) fun u s1 ⟨x, H1, I1', rx, q1⟩ => thn (hv.run pins s1 σ H1 _ I1' q1) fun w2 s2 ⟨y, H2, I2, ry, q2⟩ => pairTrees_nil_walk ?_))
  obtain ⟨b, kk, ex, hb, hD, q3⟩ := q2
  subst ex
  obtain rfl : u = Value.ref b := rx
  refine wpAny_holding (wpAny_bind ?_)
  rw [List.forIn_cons]
  refine wpAny_bind (wpAny_bind (put_tup hu I2 hD hb (by rw [List.length_nil]; decide) ry fun s3 I3 => wpAny_pure ?_))
  show wpAny _ _ (forIn [] _ _) _ _ _
  rw [List.forIn_nil]
  exact wpAny_pure (wpAny_pure (wpAny_pure (wpAny_pure ⟨.ref s.heap.objs.size, _, I3, rfl, q3⟩)))
/-! ### x in a tuple of data -/
def rInTu (K : Frag) : R2 := fun x y H Q => ∃ d ds, Dp K H x d ∧ Dp K H y (.tuple ds) ∧ SeqAt.shaped d = true ∧ d.depth ≤ 60 ∧ SeqAt.shaped (.tuple ds) = true ∧ Q (.bl (ds.any fun z => PyData.eqv z d)) H
def rNotInTu (K : Frag) : R2 := fun x y H Q => ∃ d ds, Dp K H x d ∧ Dp K H y (.tuple ds) ∧ SeqAt.shaped d = true ∧ d.depth ≤ 60 ∧ SeqAt.shaped (.tuple ds) = true ∧ Q (.bl (!ds.any fun z => PyData.eqv z d)) H
theorem op_notInTu (hu : X.A.units + 64 < cLine) : OpR X (compareOp .NotIn) (rNotInTu X.K) := by
  intro pins s σ H x y v u Q I rx ry h
  obtain ⟨d, ds, hd, he, sd, dp, se, q⟩ := h
  obtain ⟨as, r1⟩ := Dp.reads I d x v hd rx
  obtain ⟨bs, r2⟩ := Dp.reads I (.tuple ds) y u he ry
  exact SeqAt.notIn_tuple_reads r2 r1 (SeqAt.canLay_of_shaped se) (SeqAt.canLay_of_shaped sd) (by
    have := Nat.min_le_right (PyData.depthAll ds) d.depth
    omega) ⟨.bl _, H, I, rfl, q⟩
end
end Slip
/-! the head's facts with built-ins that the module has by name -/
namespace Slip
open PySem PySem.Spec PyProof.Rows L2
/-- a name and the built-in that it stands for -/
abbrev Bi : Type := Str × String
def biOk (K : Frag) (q : Bi) : Bool := He.eqO (PySem.W.nsIn K mainGlobals q.1) (some (some (.builtin q.2)))
def obsB (fa : List He.Fa) (fn : List He.DefD) (bs : List Bi) (K : Frag) : He.AlD := ((He.obsD fa fn K).1 && bs.all (biOk K), (He.obsD fa fn K).2)
def obsBG (n : Nat) (fa : List He.Fa) (fn : List He.DefD) (bs : List Bi) (g : Addr → Option Obj) : He.AlD := obsB fa fn bs (He.frG g (He.asD g n))
def SaysB (fa : List He.Fa) (fn : List He.DefD) (bs : List Bi) (K : Frag) : Prop := obsB fa fn bs K = He.valD fn
def hookB (n : Nat) (fa : List He.Fa) (fn : List He.DefD) (bs : List Bi) : PySem.W.Hook where
  α := He.AlD
  obs := fun s => obsBG n fa fn bs s.heap.get?
  val := fun _ => He.valD fn
  says := fun _ h => ∃ K : Frag, K.In h ∧ SaysB fa fn bs K
  of := fun _ _ e => ⟨_, He.frG_in, e⟩
  keeps := fun _ _ _ ⟨K, hK, c⟩ k => ⟨K, PySem.W.Frag.In.keeps hK k, c⟩
theorem obsBG_eq {n : Nat} {fa : List He.Fa} {fn : List He.DefD} {bs : List Bi} {g : Addr → Option Obj} {s : Shared} (h : ∀ a, g a = s.heap.get? a) : obsBG n fa fn bs g = (hookB n fa fn bs).obs s := by
  have e : g = s.heap.get? := funext h
  rw [e] <;> rfl
section
variable {fa : List He.Fa} {fn : List He.DefD} {bs : List Bi} {K : Frag}
theorem SaysB.d (c : SaysB fa fn bs K) : He.SaysD fa fn K := by
  have c1 : ((He.obsD fa fn K).1 && bs.all (biOk K)) = true := congrArg (fun z : He.AlD => z.1) c
  have h : obsB fa fn bs K = He.valD fn := c
  have c2 := congrArg Prod.snd h
  exact Prod.ext (He.ba c1).1 c2
theorem SaysB.bi (c : SaysB fa fn bs K) (i : Nat) {q : Bi} {h : Heap} {mg : Str → Option Value} (X : K.In h) (G : h.Ns mainGlobals mg) (e : bs[i]? = some q := by rfl) : mg q.1 = some (.builtin q.2) := by
  have c1 : ((He.obsD fa fn K).1 && bs.all (biOk K)) = true := congrArg (fun z : He.AlD => z.1) c
  exact PySem.W.mg_of X G (He.eqO_ok (List.all_eq_true.mp (He.ba c1).2 q (List.mem_of_getElem? e)))
end
end Slip
/-! the head's facts with built-ins and tables of code objects -/
namespace Slip
open PySem PySem.Spec PyProof.Rows L2
/-- the first lambda among the arguments of calls that a def returns or assigns -/
def findLam : Nat → Expr → Option Expr
  | 0, _ => none
  | _ + 1, .Lambda a b s p => some (.Lambda a b s p)
  | n + 1, .Call _ args kws _ => match args.findSome? (findLam n) with
    | some e => some e
    | none => kws.findSome? fun k => findLam n k.value
  | _, _ => none
def lamIn (l : List Stmt) : Expr := (l.findSome? fun st => match st with
  | .Return (some e) _ => findLam 20 e
  | .Assign _ e _ => findLam 20 e
  | _ => none).getD (.Name "" ⟨0, 0, 0, 0⟩)
def lamPar : Expr → Arguments
  | .Lambda a _ _ _ => a
  | _ => ⟨[], [], none, [], [], none, []⟩
def lamBod : Expr → Expr
  | .Lambda _ b _ _ => b
  | e => e
def lamSco : Expr → Scope
  | .Lambda _ _ s _ => s
  | _ => default
theorem room66 {k : Nat} {A : Around} (r : Room k A) : A.units + 66 < cLine := by have := r.un; omega
abbrev exB (bs : List Bi) : Frag → Bool := fun K => bs.all (biOk K)
section
variable {fa : List He.Fa} {fn : List He.DefD} {tf : List He.Defn} {bs : List Bi} {K : Frag} {w : World} {h : Heap}
theorem saysX_bi (c : He.SaysX fa fn [] tf (exB bs) w h K) (i : Nat) {q : Bi} {mg : Str → Option Value} (X : K.In h) (G : h.Ns mainGlobals mg) (e : bs[i]? = some q := by rfl) : mg q.1 = some (.builtin q.2) :=
  PySem.W.mg_of X G (He.eqO_ok (List.all_eq_true.mp (show bs.all (biOk K) = true from c.more) q (List.mem_of_getElem? e)))
end
end Slip
/-! own errors without __init__ below Exception: raised without an argument, caught by their class -/
namespace Slip
open PySem PySem.Spec PyProof.Rows L2
abbrev exBase : List Value := [.type "Exception", .type "BaseException", .type "object"]
section
variable {X : Cx} {C : Addr} {bmB : List Value} {B newId initId : String}
/-- X() -/
theorem pmk_own0 {x : Str} {p pos : Pos} (F : ExcBaseFacts B newId initId bmB) (q : PySem.W.excIn X.K C bmB newId = true) (gC : X.mg x = some (.ref C)) (kC : PySem.W.keepIn X.K (.ref C) = true) (r : Raises X (.ref C)) (hg : L2.Gl X x)
    (hdb : (x == ("__debug__" : Str)) = false := by decide) : PMk X (.Call (.Name x p) [] [] pos) (fun _ H Q => Q (.ref C) none H) := by
  intro pins s σ H Q I h
  refine wpAny_Call_Name_kw (ld_glob I hg gC ?_ hdb)
  refine PySem.W.callWith_K0 I.kIn kC ?_
  show wpAny _ _ (call (.ref C) []) _ _ _
  obtain ⟨bm, N, nm, qn, bs, hdct, sn, sub, ab, col, dd, k0, k1, k2, k3, k5, mN, hC, hN, hni, T⟩ := exc_obj I.kIn q
  refine wpAny_call_exc_subT F T hC hN hni (fun h' e hm => ?_) (by show 0 ≤ sizeLine; exact Nat.zero_le _)
  exact mk_of I hm r h (I.hok.gone hm.new)
end
/-- what the top has written of an own error -/
structure ExcC (K : Frag) (mg : Str → Option Value) (x : Str) : Prop where
  g : mg x = some (.ref (He.ga K x))
  ex : PySem.W.excIn K (He.ga K x) exBase "Exception.__new__" = true
  kp : PySem.W.keepIn K (.ref (He.ga K x)) = true
  sb : PySem.W.subIn K (.ref (He.ga K x)) (.type "BaseException") = some true
  ty : PySem.W.typeIn K (.ref (He.ga K x)) = some (.type "type")
  me : PySem.W.exmOne K (.ref (He.ga K x)) (.ref (He.ga K x)) = some true
def excOk (K : Frag) (x : Str) : Bool := He.eqO (PySem.W.nsIn K mainGlobals x) (some (some (.ref (He.ga K x)))) && (PySem.W.excIn K (He.ga K x) exBase "Exception.__new__" && (PySem.W.keepIn K (.ref (He.ga K x)) &&
  (decide (PySem.W.subIn K (.ref (He.ga K x)) (.type "BaseException") = some true) && (decide (PySem.W.typeIn K (.ref (He.ga K x)) = some (.type "type")) && decide (PySem.W.exmOne K (.ref (He.ga K x)) (.ref (He.ga K x)) = some true)))))
theorem excC_of {K : Frag} {h : Heap} {mg : Str → Option Value} {x : Str} (X : K.In h) (G : h.Ns mainGlobals mg) (c : excOk K x = true) : ExcC K mg x := by
  obtain ⟨c1, c⟩ := He.ba c
  obtain ⟨c2, c⟩ := He.ba c
  obtain ⟨c3, c⟩ := He.ba c
  obtain ⟨c4, c⟩ := He.ba c
  obtain ⟨c5, c6⟩ := He.ba c
  exact ⟨PySem.W.mg_of X G (He.eqO_ok c1), c2, c3, of_decide_eq_true c4, of_decide_eq_true c5, of_decide_eq_true c6⟩
/-- raise x() -/
def tRaise (K : Frag) (x : Str) (E : XK) : TS := fun _ _ H => E (.ref (He.ga K x)) none H
theorem ExcC.mk0 {X : Cx} {x : Str} {p pos : Pos} (c : ExcC X.K X.mg x) (hg : L2.Gl X x) (hdb : (x == ("__debug__" : Str)) = false := by decide) : PMk X (.Call (.Name x p) [] [] pos) (fun _ H Q => Q (.ref (He.ga X.K x)) none H) :=
  pmk_own0 PySem.F.excBase_Exception c.ex c.g c.kp (raises_own c.sb c.ty) hg hdb
section
variable {X : Cx} {pos : Pos}
theorem run_kwS {CX : CXT} {E : L2.St → XK} {f : Addr} {fd : FuncData} {ps ks : List Str} {k n : Nat} {sp : Sp} {pins : List (Addr × Obj)} {σ : L2.St} {H : Hp} {s : Shared} {Q : VK} {us ws : List Value} {vs zs : List V} (F : FnOk X.prog X.w X.K X.mg X.base CX k f fd ps sp) (hr : Room k X.A) (hb : KwTo fd ps n ks) (hx : PassesAt CX X σ (E σ))
    (I : Inv X pins σ H s) (hn : us.length = n) (hk : ps.length = n + ks.length) (r : Vals vs us) (rz : Vals zs ws) (h : sp (vs ++ zs) H Q (E σ)) : wpAny (model X.prog X.w) X.A (call (.ref f) us (ks.zip ws)) (EP X pins σ Q) X.xe s := by
  have r2 : Vals (vs ++ zs) (us ++ ws) := r.append rz
  have hl : (us ++ ws).length = ps.length := by rw [← r2.length]; exact F.len _ _ _ _ h
  have hw : ws.length = ks.length := by rw [List.length_append] at hl; omega
  refine wpAny_call (codeAny_mono (F.run X.A X.stack s H ⟨us, ks.zip ws⟩ (us ++ ws) (vs ++ zs) Q (E σ) hr I.env0 (hb s us ws hn hw) r2 h) fun r s' hq => ?_)
  cases r with
  | error e => exact hx pins H s e s' I hq
  | ok fl =>
    cases fl with
    | ret u => exact I.after hq
    | next => exact False.elim hq
    | brk => exact False.elim hq
    | cont => exact False.elim hq
theorem pe_callK0S {CX : CXT} {E : L2.St → XK} {x : Str} {p : Pos} {f : Addr} {fd : FuncData} {ps ks : List Str} {k : Nat} {sp : Sp} {kws : List Keyword} {tk : TA} (F : FnOk X.prog X.w X.K X.mg X.base CX k f fd ps sp) (hr : Room k X.A) (hg : L2.Gl X x) (hm : X.mg x = some (.ref f)) (hk : PySem.W.keepIn X.K (.ref f) = true)
    (hb : KwTo fd ps 0 ks) (hx : ∀ σ, PassesAt CX X σ (E σ)) (hkw : PK X kws tk) (hall : (backToKw pos (keywordEach kws X.env)).all (·.1.isSome) = true := by rfl) (hks : (backToKw pos (keywordEach kws X.env)).filterMap (·.1) = ks := by rfl)
    (hlen : ps.length = 0 + ks.length := by rfl) (hdb : (x == ("__debug__" : Str)) = false := by decide)
    (hpl : ((backTo pos (starEach [] X.env)).any (·.1) || (backToKw pos (keywordEach kws X.env)).any (·.1.isNone)) = false := by rfl) :
    PE X (.Call (.Name x p) [] kws pos) (tCallS sp E tk) := by
  refine ⟨fun pins s σ H Q I h => ?_⟩
  refine wpAny_Call_Name_kw (ld_glob I hg hm ?_ hdb)
  refine PySem.W.callWith_KW0 (h₀ := X.base) I.ok.mod.kin hk hall ?_ hpl
  refine thn (hkw.run pos pins s σ H _ I h) fun ws s2 ⟨zs, H2, I2, rz, q2⟩ => ⟨I2.kIn, ?_⟩
  rw [hks]
  have q3 : sp (zs ++ []) H2 Q (E σ) := by rw [List.append_nil]; exact q2
  rw [List.append_nil] at q3
  exact run_kwS (vs := []) F hr hb (hx σ) I2 rfl hlen .nil rz q3
end
/-- try: .. except x: .. -/
def tTryO (K : Frag) (x : Str) (tb : WX → TS) (u : TS) : TS := fun D σ H => tb (fun cls _ σ' H' => cls = .ref (He.ga K x) ∧ u D σ' H') D σ H
theorem ps_tryO {X : Cx} {x : Str} {body suite : List Stmt} {b₀ : Stmt} {np pos pos' : Pos} {tb : WX → TS} {u : TS} (c : ExcC X.K X.mg x) (hs : X.stack = X.env :: X.outer) (hf : X.env.frame = some X.env.locals) (hc : L2.Gl X x) (tk : Takes X fun _ _ _ _ => False)
    (hb : ∀ (W : WX) (pn : List (Addr × Obj)) (xe : Value → Shared → Prop), Takes (X.tr pn xe) W → PassesOwn (model X.prog X.w) X.A X.env xe → PSs (X.tr pn xe) body (tb W))
    (hsu : ∀ (a : Addr) (oe : Obj) (cls : Value) (d : Option Addr) (pn : List (Addr × Obj)), Zc cls d oe → (∃ vs, oe.data = .fields vs) → PSs (X.suite a ((a, oe) :: pn)) (b₀ :: suite) u) (hdb : (x == ("__debug__" : Str)) = false := by decide) :
    PS X (.Try body [.ExceptHandler (some (.Name x np)) none (b₀ :: suite) pos'] [] [] pos) (tTryO X.K x tb u) := by
  have h := ps_try_only (X := X) (np := np) (pos := pos) (pos' := pos') (tb := fun W D σ H => ∃ W1 : WX, (∀ cls d σ' H', W1 cls d σ' H' → W cls d σ' H') ∧ tb W1 D σ H) (ts := fun _ _ _ => u) (Wout := fun _ _ _ _ => False) hs hf ⟨hc, hdb, .inl c.g⟩ tk (fun W pn xe tk1 ps => ⟨fun pins s σ H D I ⟨W1, sub, h⟩ => (hb W1 pn xe (fun u s' e => tk1 u s' (by
    obtain ⟨a, B, sI, pins', σ', H', cls, d, r0, J', nb, up, sky, na, os, ag, w⟩ := e
    exact ⟨a, B, sI, pins', σ', H', cls, d, r0, J', nb, up, sky, na, os, ag, sub _ _ _ _ w⟩)) ps).run pins s σ H D I h⟩) hsu
  refine ⟨fun pins s σ H D I h0 => h.run pins s σ H D I ⟨_, ?_, h0⟩⟩
  rintro cls d σ' H' ⟨e, h1⟩
  subst e
  exact ⟨true, c.me, fun _ a _ => h1, fun q => nomatch q⟩
end Slip
/-! own errors with fields, below own classes below Exception -/
namespace Slip
open PySem PySem.Spec PyProof.Rows L2
/-- own classes, then Exception's -/
abbrev mroX (cs : List Addr) : List Value := cs.map Value.ref ++ exBase
theorem mroX_has (cs : List Addr) (x : String) : (mroX cs).contains (.type x) = exBase.contains (.type x) := by
  induction cs with
  | nil => rfl
  | cons c cs ih =>
    show (Value.ref c :: mroX cs).contains (.type x) = _
    rw [List.contains_cons, ih]
    rfl
theorem mroX_pass (self : Value) (cs : List Addr) : refuseLoop self "__setattr__" (mroX cs) = pure () := by
  induction cs with
  | nil => exact F.store_Exception.passes self
  | cons c cs ih =>
    show refuseLoop self "__setattr__" (Value.ref c :: mroX cs) = _
    rw [refuseLoop_ref]
    exact ih
/-- what the top has written of such a class -/
structure OexE (K : Frag) (C : Addr) : Prop where
  cls : ∃ nm q N bs cs sn sub ab col dd k0 k1 k2 k3 k5, K.lookup C = some (excClassObj nm q C N bs (mroX cs) true sn sub ab col dd k0 k1 k2 k3 k5 "Exception.__new__")
  sa : PySem.W.findIn K (.ref C) "__setattr__" = some (some (.builtin "object.__setattr__"))
  exC : PySem.W.subIn K (.ref C) (.type "BaseException") = some true
  tyC : PySem.W.typeIn K (.ref C) = some (.type "type")
  kC : PySem.W.keepIn K (.ref C) = true
section
variable {prog : Program} {w : World} {A : Around} {R : Result → Shared → Prop} {hp : Heap} {g : Array GenState} {d : Drawn} {t : Nat} {os : OsState}
/-- the way of a store to the error's own dict -/
theorem osaE {K : Frag} {name : Str} {tk : Tok} {v : Value} {x C : Addr} {ox : Obj} {od : Option Obj} {cd : ClassData} {cs : List Addr}
    (X : K.In hp) (I : PySem.W.InstAt hp x ox C od) (hcd : PySem.W.clsIn K C = some cd) (hm : cd.mro = mroX cs) (ha : PySem.W.findIn K (.ref C) name = some none)
    (hq : wpAny (model prog w) A.in1 (PySem.Builtin.ObjectAttr.storeInOwnDict (.ref x) (.ref C) (.str name tk) name v false)
      (fun fin s' => match fin with | .done f => R (.ok f) s' | .again c' => c'.quiet = true ∧ codeAny (model prog w) A c' R s') (fun e s' => R (.error e) s') ⟨hp, g, d, t, os⟩) :
    codeAny (model prog w) A (.call (.builtin "object.__setattr__") ⟨[.ref x, .str name tk, v], []⟩) R ⟨hp, g, d, t, os⟩ := by
  have SF := F.store_object
  have hob : PySem.W.mroIn K C (.type "object") = some true := by
    unfold PySem.W.mroIn
    rw [hcd, Option.bind_some, hm, if_neg (by cases cs <;> exact Bool.false_ne_true), mroX_has cs "object"]
    exact congrArg some (by decide +kernel)
  have sub : PySem.W.Looks (model prog w) hp (isInstance (.ref x) (.type "object")) true := I.type.andThen (PySem.W.looks_mroIn X hob)
  have hmr : PySem.W.Looks (model prog w) hp (mroOf (.ref C)) cd.mro := (PySem.W.looks_clsIn X hcd).andThen .now
  have L3 : PySem.W.Looks (model prog w) hp (PySem.Builtin.ObjectAttr.storeTaker? none) none := .now
  refine codeAny_call_builtin SF.slot.plain SF.entry (@PySem.W.check_slot (model prog w) _ _ ⟨hp, g, d, t, os⟩ "object.__setattr__" "object" "__setattr__" (.ref x) [.str name tk, v] [] _ SF.kind SF.split sub (SF.args (.ref x) (.str name tk) v) ?_)
  rw [PySem.W.osa_eq, refuse_eq]
  refine wpAny_bind (wpAny_bind (I.type.at (wpAny_bind (hmr.at ?_))))
  rw [hm, mroX_pass]
  exact wpAny_pure (wpAny_bind (I.type.at (wpAny_bind ((PySem.W.looks_findIn X ha).at (wpAny_bind (L3.at hq))))))
/-- the first field: the error gets its dict -/
theorem osaE_new {K : Frag} {name : Str} {tk : Tok} {v : Value} {x C : Addr} {fv : Array Value} {cd : ClassData} {cs : List Addr} (X : K.In hp) (hx : hp.get? x = some { cls := .ref C, data := .fields fv }) (hcd : PySem.W.clsIn K C = some cd) (hm : cd.mro = mroX cs) (hh : cd.hasDict = true)
    (ha : PySem.W.findIn K (.ref C) name = some none)
    (hq : ∀ h' tk' dx, (∀ b o, b ≠ x → hp.get? b = some o → h'.get? b = some o) → hp.objs.size ≤ dx → dx ≠ x → h'.get? x = some { cls := .ref C, dict := some dx, data := .fields fv } → h'.Ns1 dx (fun y => if y = name then some v else none) → R (.ok (.ret .none)) ⟨h', g, d, tk', os⟩) :
    codeAny (model prog w) A (.call (.builtin "object.__setattr__") ⟨[.ref x, .str name tk, v], []⟩) R ⟨hp, g, d, t, os⟩ := by
  have lt : x ≠ hp.objs.size := Nat.ne_of_lt (Heap.lt_size hx)
  have hcls : PySem.W.Looks (model prog w) hp (classData C) cd := PySem.W.looks_clsIn X hcd
  refine osaE (od := none) X ⟨hx, rfl, rfl, trivial⟩ hcd hm ha ?_
  obtain ⟨nm, bs, mro, ns, qn, hd, sn, sb, ab, col, del⟩ := cd
  cases hh
  unfold PySem.Builtin.ObjectAttr.storeInOwnDict PySem.Builtin.ObjectAttr.ownDictForStores
  repeat (first | with_reducible refine HandSPX.store_in_new ?_ ?_ | with_reducible refine wpAny_loadPart_at hx ?_ | with_reducible refine hcls.at ?_ | wp_step)
  · exact ⟨_, #[], _, (Heap.get?_update_ne _ _ _ _ lt.symm).trans (Heap.get?_push_at rfl rfl), rfl, fun e he => absurd he (by simp), fun _ => rfl⟩
  · intro h' tk' hn' hs
    have kx : (hp.push { cls := .type "dict", data := .dict #[] }).get? x = some { cls := .ref C, data := .fields fv } := Heap.get?_push_of_some _ hx
    exact hq h' tk' hp.objs.size (fun b o hb ho => (hs.2 b (Nat.ne_of_lt (Heap.lt_size ho))).trans ((Heap.get?_update_ne _ _ _ _ hb).trans (Heap.get?_push_of_some _ ho))) (Nat.le_refl _) lt.symm ((hs.2 x lt).trans (Heap.get?_update_self _ kx rfl)) hn'
/-- a further field -/
theorem osaE_old {K : Frag} {name : Str} {tk : Tok} {v : Value} {x C dx : Addr} {fv : Array Value} {cd : ClassData} {cs : List Addr} {m0 : Str → Option Value} {nl : List Str} (X : K.In hp) (hx : hp.get? x = some { cls := .ref C, dict := some dx, data := .fields fv }) (hns : hp.Ns1 dx m0) (hw : Within m0 nl) (hz : nl.length ≤ 1000)
    (hcd : PySem.W.clsIn K C = some cd) (hm : cd.mro = mroX cs) (hh : cd.hasDict = true) (ha : PySem.W.findIn K (.ref C) name = some none)
    (hq : ∀ h' tk', (∀ b o, b ≠ dx → hp.get? b = some o → h'.get? b = some o) → h'.Ns1 dx (fun y => if y = name then some v else m0 y) → R (.ok (.ret .none)) ⟨h', g, d, tk', os⟩) :
    codeAny (model prog w) A (.call (.builtin "object.__setattr__") ⟨[.ref x, .str name tk, v], []⟩) R ⟨hp, g, d, t, os⟩ := by
  obtain ⟨oD, _, _, hoD, _, _⟩ := hns.count hw
  have hcls : PySem.W.Looks (model prog w) hp (classData C) cd := PySem.W.looks_clsIn X hcd
  refine osaE (od := some oD) X ⟨hx, rfl, rfl, hoD⟩ hcd hm ha ?_
  obtain ⟨nm, bs, mro, ns, qn, hd, sn, sb, ab, col, del⟩ := cd
  cases hh
  unfold PySem.Builtin.ObjectAttr.storeInOwnDict PySem.Builtin.ObjectAttr.ownDictForStores
  repeat (first | with_reducible refine PySem.OEX.store_in_old hns hw hz ?_ | with_reducible refine wpAny_loadPart_at hx ?_ | with_reducible refine hcls.at ?_ | wp_step)
  exact fun h' tk' hn' hs => hq h' tk' (fun b o hb ho => (hs.2 b hb).trans ho) hn'
end
section
variable {X : Cx} {pins : List (Addr × Obj)} {σ : L2.St} {H : Hp} {s : Shared} {a C dx : Addr} {f : Str} {y : V} {u : Value} {fs : List (Str × V)} {Q : Unit → Shared → Prop} {E : Value → Shared → Prop} {A : Around}
theorem OexE.cd {K : Frag} (T : OexE K C) : ∃ cd cs, PySem.W.clsIn K C = some cd ∧ cd.mro = mroX cs ∧ cd.hasDict = true := by
  obtain ⟨nm, q, N, bs, cs, sn, sub, ab, col, dd, k0, k1, k2, k3, k5, hC⟩ := T.cls
  exact ⟨_, C :: cs, by unfold PySem.W.clsIn; rw [hC] <;> rfl, rfl, rfl⟩
/-- self.f = y, the first field -/
theorem setE_new (T : OexE X.K C) (I : Inv X pins σ H s) (e : H a = some (exo a C none)) (hno : PySem.W.findIn X.K (.ref C) f = some none) (ry : RelV y u)
    (h : ∀ dx s', H dx = none → dx ≠ a → Inv X pins σ (upd (upd H dx (exd dx [(f, y)])) a (exo a C (some dx))) s' → Q () s') : wpAny (model X.prog X.w) A (setAttr (.ref a) f u) Q E s := by
  obtain ⟨cd, cs, hcl, hm, hh⟩ := T.cd
  obtain ⟨t1, ho⟩ := exo_at I.hok e
  obtain ⟨hp, g, d, t, os⟩ := s
  refine PySem.W.set_plain I.kIn (ox := { cls := .ref C, dict := none, data := .fields #[.ref t1, .none, .none, .none, .bool false, .none] }) (od := none) ⟨ho, rfl, rfl, trivial⟩ T.sa (osaE_new I.kIn ho hcl hm hh hno fun h' tk' dx k dn dne hx hn => ?_)
  have hnd : H dx = none := I.hok.fresh dn
  have big : ∀ {b : Addr} {o : Obj}, hp.get? b = some o → b ≠ dx := fun {b o} q => Nat.ne_of_lt (Nat.lt_of_lt_of_le (Heap.lt_size q) dn)
  have na : ∀ {b : Addr}, H b = none → b ≠ a := fun {b} n z => by rw [z, e] at n; cases n
  refine h dx _ hnd dne (I.un (t' := tk') ⟨fun b o q n _ _ => k b o (na n) q, fun b o q n _ _ => ⟨o.slots, k b o (na n) q⟩, fun b o q n _ => ?_, fun b o q _ => ?_, fun b xs q => ?_, fun b o v q => ?_, fun b ps q => ⟨#[], ?_⟩⟩ fun b o q => ?_)
  · rw [upd_ne (na n), upd_ne (big q)]
    exact n
  · by_cases hb : b = a
    · exact ⟨_, by rw [hb]; exact hx⟩
    · exact ⟨o, k b o hb q⟩
  · rw [upd_ne (at_ne e q exo_tup), upd_ne (ne_of_none q hnd)]
    exact q
  · rw [upd_ne (at_ne e q exo_frz), upd_ne (ne_of_none q hnd)]
    exact q
  · rw [upd_ne (at_ne e q exo_tbl), upd_ne (ne_of_none q hnd), q]
    simp
  · by_cases hb : b = a
    · subst hb
      rw [upd_same] at q
      cases q
      exact exo_ok hx
    · rw [upd_ne hb] at q
      by_cases hd : b = dx
      · subst hd
        rw [upd_same] at q
        cases q
        exact exd_ok hn (relO_put (fs := []) ry fun g => True.intro)
      · rw [upd_ne hd] at q
        refine (I.hok b o q).stay (fun c v hc z => k c v ?_ z) (fun c hc => ?_) fun c xs hc => ?_
        · rcases hc with hc | hc
          · rw [hc]; exact hb
          · exact at_ne e hc exo_own
        · rw [upd_ne (at_ne e hc exo_own), upd_ne (ne_of_none hc hnd)]; exact hc
        · rw [upd_ne (at_ne e hc exo_tup), upd_ne (ne_of_none hc hnd)]; exact hc
/-- self.f = y, a further field -/
theorem setE_old (T : OexE X.K C) (I : Inv X pins σ H s) (e : H a = some (exo a C (some dx))) (ed : H dx = some (exd dx fs)) (hl : fs.length ≤ 900) (hno : PySem.W.findIn X.K (.ref C) f = some none) (ry : RelV y u)
    (h : ∀ s', Inv X pins σ (upd H dx (exd dx ((f, y) :: fs))) s' → Q () s') : wpAny (model X.prog X.w) A (setAttr (.ref a) f u) Q E s := by
  obtain ⟨cd, cs, hcl, hm, hh⟩ := T.cd
  obtain ⟨t1, ho⟩ := exo_at I.hok e
  obtain ⟨mA, hns, rel⟩ := exd_at I.hok ed
  have hw := within_of rel
  obtain ⟨hp, g, d, t, os⟩ := s
  obtain ⟨oD, _, _, hoD, _, _⟩ := hns.count hw
  refine PySem.W.set_plain I.kIn (ox := { cls := .ref C, dict := some dx, data := .fields #[.ref t1, .none, .none, .none, .bool false, .none] }) (od := some oD) ⟨ho, rfl, rfl, hoD⟩ T.sa (osaE_old I.kIn ho hns hw (by rw [List.length_map]; omega) hcl hm hh hno fun h' tk' k hn => ?_)
  have hd : ∃ o, h'.get? dx = some o := by
    obtain ⟨o, _, _, e', _⟩ := hn
    exact ⟨o, e'⟩
  exact h _ (I.write (t' := tk') (x := dx) (e := dx) (o := exd dx ((f, y) :: fs)) (by rw [ed]; exact True.intro) (.inl rfl) k hd (exd_ok hn (relO_put ry rel)))
end
/-- self.f = e -/
def tSetE (K : Frag) (f : Str) (to te : TE) : TS := fun D σ H => te σ H fun y H1 => to σ H1 fun x H2 => ∃ a C : Addr, x = .ref a ∧ OexE K C ∧ PySem.W.findIn K (.ref C) f = some none ∧
  ((H2 a = some (exo a C none) ∧ ∀ dx, H2 dx = none → dx ≠ a → D.nx σ (upd (upd H2 dx (exd dx [(f, y)])) a (exo a C (some dx)))) ∨
    ∃ (dx : Addr) (fs : List (Str × V)), H2 a = some (exo a C (some dx)) ∧ H2 dx = some (exd dx fs) ∧ fs.length ≤ 900 ∧ D.nx σ (upd H2 dx (exd dx ((f, y) :: fs))))
section
variable {X : Cx} {o e : Expr} {es : List Expr} {to te : TE} {ta : TA} {f : Str} {p p' p1 p2 pos : Pos}
theorem ps_setE (ho : PE X o to) (he : PE X e te) (hs : swapsWith e (some (.Attribute o f p')) pos.line X.env = pure false := by rfl) : PS X (.Assign [.Attribute o f p'] e pos) (tSetE X.K f to te) := by
  refine ⟨fun pins s σ H D I h => plainObj_wpAny_Assign_Attribute (thn (he.run pins s σ H _ I h) fun v s1 ⟨y, H1, I1, r1, q1⟩ => thn (ho.run pins s1 σ H1 _ I1 q1) fun u s2 ⟨x, H2, I2, r2, a, C, ex, T, hno, q⟩ => ?_) hs⟩
  subst ex
  obtain rfl : u = Value.ref a := r2
  rcases q with ⟨ea, q⟩ | ⟨dx, fs, ea, ed, hl, q⟩
  · exact setE_new T I2 ea hno r1 fun dx s' n ne J => ⟨σ, _, J, q dx n ne⟩
  · exact setE_old T I2 ea ed hl hno r1 fun s' J => ⟨σ, _, J, q⟩
end
section
variable {X : Cx} {e : Expr} {es : List Expr} {ta : TA} {p pos : Pos}
/-- C(e, ..): an error with its fields -/
theorem pmkE {CX : CXT} {x : Str} {C fI : Addr} {k : Nat} {fd : FuncData} {ps : List Str} {sp : Sp} (T : OexE X.K C) (iC : PySem.W.findIn X.K (.ref C) "__init__" = some (some (.ref fI))) (tI : PySem.W.typeIn X.K (.ref fI) = some (.type "function"))
    (F1 : FnOk X.prog X.w X.K X.mg X.base CX k fI fd ps sp) (hr : Room (k + 1) X.A) (hb : Binds X.K fd ps []) (hx : Passes CX X (fun _ _ _ => False)) (hg : L2.Gl X x) (hm : X.mg x = some (.ref C)) (ha : PA X (e :: es) ta)
    (hdb : (x == ("__debug__" : Str)) = false := by decide) (he : starEach (e :: es) X.env = (false, eval e X.env) :: starEach es X.env := by rfl) (hpl : (backTo pos (starEach es X.env)).any (·.1) = false := by rfl) :
    PMk X (.Call (.Name x p) (e :: es) [] pos) (tMkO C sp [] ta) := by
  intro pins s σ H Q I h
  obtain ⟨nm, q, N, bs, cs, sn, sub, ab, col, dd, k0, k1, k2, k3, k5, hC⟩ := T.cls
  refine wpAny_Call_Name_kw (ld_glob I hg hm ?_ hdb)
  refine PySem.W.callWith_K (h₀ := X.base) I.ok.mod.kin T.kC (thn (ha.run pos pins s σ H _ I h) fun us s1 ⟨vs, H1, I1, r1, hz, q1⟩ => ⟨I1.kIn, ?_⟩) he hpl
  show wpAny _ _ (call (.ref C) us) _ _ _
  obtain ⟨hp, g, dr, tk, os⟩ := s1
  have up := Nat.le_succ hp.objs.size
  have keep : ∀ b o, hp.get? b = some o → ((hp.push (PySem.W.kdv_tup us)).push (PySem.HandSPX.excO C hp.objs.size)).get? b = some o := fun b o z => Heap.get?_push_of_some _ (Heap.get?_push_of_some _ z)
  have at_ : ((hp.push (PySem.W.kdv_tup us)).push (PySem.HandSPX.excO C hp.objs.size)).get? (hp.objs.size + 1) = some (PySem.HandSPX.excO C hp.objs.size) := by heap_get
  have I2 : Inv X pins σ (upd H1 (hp.objs.size + 1) (exo (hp.objs.size + 1) C none)) ⟨(hp.push (PySem.W.kdv_tup us)).push (PySem.HandSPX.excO C hp.objs.size), g, dr, tk, os⟩ :=
    I1.laid (t' := tk) (a := hp.objs.size + 1) (o := exo (hp.objs.size + 1) C none) (h' := (hp.push (PySem.W.kdv_tup us)).push (PySem.HandSPX.excO C hp.objs.size)) keep up (exo_ok at_)
  have hq := q1 (hp.objs.size + 1) (I1.hok.fresh up)
  rw [List.append_nil] at hq
  have r2 : Vals (V.ref (hp.objs.size + 1) :: vs) (Value.ref (hp.objs.size + 1) :: us) := .cons rfl r1
  have hl : (Value.ref (hp.objs.size + 1) :: us).length = ps.length := by
    have z := r2.length
    rw [F1.len _ _ _ _ hq] at z
    exact z.symm
  have hus : us.length ≤ sizeLine := by
    have := Paired.length r1
    rw [sizeLine_eq]
    omega
  have hb' := hb ⟨(hp.push (PySem.W.kdv_tup us)).push (PySem.HandSPX.excO C hp.objs.size), g, dr, tk, os⟩ (Value.ref (hp.objs.size + 1) :: us) I2.kIn (by rw [List.append_nil]; exact hl)
  rw [List.append_nil] at hb'
  refine wpAny_call (PySem.HandSPX.call_own PySem.F.excBase_Exception (mroX_has cs) (I1.kIn _ _ hC) (PySem.W.looks_findIn I1.kIn iC) (fun self => PySem.W.bind_fn I1.kIn self tI) hus
    (codeAny_mono (F1.run _ X.stack _ _ ⟨Value.ref (hp.objs.size + 1) :: us, []⟩ (Value.ref (hp.objs.size + 1) :: us) _ _ (fun _ _ _ => False) (hr.make C us []) (I2.env0.make C us []) hb' r2 hq) fun r s' z => ?_))
  match r, z with
  | .error er, z => exact hx pins σ _ _ er s' I2 z
  | .ok (.ret u), z =>
    obtain ⟨v, H2, os2, bare2, un2, hok2, rv, ev, d, fs, ea, ed, hd1, q2⟩ := z
    subst ev
    obtain ⟨h2, g2, d2, t2, os'⟩ := s'
    exact ⟨rv, mk_end (raises_own T.exC T.tyC) I1 up keep un2 hok2 os2 bare2 ea ed hd1 q2⟩
end
end Slip
/-! the head's facts with built-ins and own errors -/
namespace Slip
open PySem PySem.Spec PyProof.Rows L2
def obsE (fa : List He.Fa) (fn : List He.DefD) (ex : Frag → Bool) (K : Frag) : He.AlD := ((He.obsD fa fn K).1 && ex K, (He.obsD fa fn K).2)
def obsEG (n : Nat) (fa : List He.Fa) (fn : List He.DefD) (ex : Frag → Bool) (g : Addr → Option Obj) : He.AlD := obsE fa fn ex (He.frG g (He.asD g n))
def SaysE (fa : List He.Fa) (fn : List He.DefD) (ex : Frag → Bool) (K : Frag) : Prop := obsE fa fn ex K = He.valD fn
def hookE (n : Nat) (fa : List He.Fa) (fn : List He.DefD) (ex : Frag → Bool) : PySem.W.Hook where
  α := He.AlD
  obs := fun s => obsEG n fa fn ex s.heap.get?
  val := fun _ => He.valD fn
  says := fun _ h => ∃ K : Frag, K.In h ∧ SaysE fa fn ex K
  of := fun _ _ e => ⟨_, He.frG_in, e⟩
  keeps := fun _ _ _ ⟨K, hK, c⟩ k => ⟨K, PySem.W.Frag.In.keeps hK k, c⟩
theorem obsEG_eq {n : Nat} {fa : List He.Fa} {fn : List He.DefD} {ex : Frag → Bool} {g : Addr → Option Obj} {s : Shared} (h : ∀ a, g a = s.heap.get? a) : obsEG n fa fn ex g = (hookE n fa fn ex).obs s := by
  have e : g = s.heap.get? := funext h
  rw [e] <;> rfl
abbrev exE (bs : List Bi) (xs : List Str) : Frag → Bool := fun K => bs.all (biOk K) && xs.all (excOk K)
section
variable {fa : List He.Fa} {fn : List He.DefD} {ex : Frag → Bool} {bs : List Bi} {xs : List Str} {K : Frag}
theorem SaysE.d (c : SaysE fa fn ex K) : He.SaysD fa fn K := by
  have c1 : ((He.obsD fa fn K).1 && ex K) = true := congrArg (fun z : He.AlD => z.1) c
  have h : obsE fa fn ex K = He.valD fn := c
  have c2 := congrArg Prod.snd h
  exact Prod.ext (He.ba c1).1 c2
theorem SaysE.more (c : SaysE fa fn ex K) : ex K = true := by
  have c1 : ((He.obsD fa fn K).1 && ex K) = true := congrArg (fun z : He.AlD => z.1) c
  exact (He.ba c1).2
theorem biE (c : exE bs xs K = true) (i : Nat) {q : Bi} {h : Heap} {mg : Str → Option Value} (X : K.In h) (G : h.Ns mainGlobals mg) (e : bs[i]? = some q := by rfl) : mg q.1 = some (.builtin q.2) :=
  PySem.W.mg_of X G (He.eqO_ok (List.all_eq_true.mp (He.ba c).1 q (List.mem_of_getElem? e)))
theorem excE (c : exE bs xs K = true) (i : Nat) {x : Str} {h : Heap} {mg : Str → Option Value} (X : K.In h) (G : h.Ns mainGlobals mg) (e : xs[i]? = some x := by rfl) : ExcC K mg x :=
  excC_of X G (List.all_eq_true.mp (He.ba c).2 x (List.mem_of_getElem? e))
end
end Slip
/-! own errors with fields: what the head tells of them, raised and caught -/
namespace Slip
open PySem PySem.Spec PyProof.Rows L2
def isMroX : List Value → Bool
  | .ref _ :: r => isMroX r
  | l => l == exBase
theorem isMroX_ok : ∀ l : List Value, isMroX l = true → ∃ cs : List Addr, l = mroX cs
  | [], h => absurd h (by decide)
  | .ref c :: r, h => by
    obtain ⟨cs, e⟩ := isMroX_ok r h
    exact ⟨c :: cs, by rw [e]; rfl⟩
  | .none :: _, h => ⟨[], beq_iff_eq.mp h⟩
  | .ellipsis :: _, h => ⟨[], beq_iff_eq.mp h⟩
  | .notImplemented :: _, h => ⟨[], beq_iff_eq.mp h⟩
  | .bool _ :: _, h => ⟨[], beq_iff_eq.mp h⟩
  | .int _ _ :: _, h => ⟨[], beq_iff_eq.mp h⟩
  | .float _ _ :: _, h => ⟨[], beq_iff_eq.mp h⟩
  | .str _ _ :: _, h => ⟨[], beq_iff_eq.mp h⟩
  | .bytes _ _ :: _, h => ⟨[], beq_iff_eq.mp h⟩
  | .type _ :: _, h => ⟨[], beq_iff_eq.mp h⟩
  | .builtin _ :: _, h => ⟨[], beq_iff_eq.mp h⟩
def oexB (K : Frag) (C : Addr) : Bool := match K.lookup C with
  | some ⟨.type "type", _, .cls cd, sl⟩ => (match cd.mro, sl.toList with
    | .ref C' :: bm, [_, _, _, _, some (.builtin n), _] => C' == C && (n == "Exception.__new__" && (!cd.hasDel && (cd.hasDict && isMroX bm)))
    | _, _ => false)
  | _ => false
theorem oexB_ok {K : Frag} {C : Addr} (q : oexB K C = true) : ∃ nm qn N bs cs sn sub ab col dd k0 k1 k2 k3 k5, K.lookup C = some (excClassObj nm qn C N bs (mroX cs) true sn sub ab col dd k0 k1 k2 k3 k5 "Exception.__new__") := by
  unfold oexB at q
  split at q
  · rename_i dd cd sl ho
    split at q
    · rename_i C' bm k0 k1 k2 k3 n k5 hm hs
      obtain ⟨q1, q⟩ := He.ba q
      obtain ⟨q2, q⟩ := He.ba q
      obtain ⟨q3, q⟩ := He.ba q
      obtain ⟨q4, q5⟩ := He.ba q
      obtain ⟨cs, e⟩ := isMroX_ok bm q5
      have e1 : C' = C := beq_iff_eq.mp q1
      have e2 : n = "Exception.__new__" := beq_iff_eq.mp q2
      subst e e1 e2
      obtain ⟨nm, bs, mro, ns, qn, hd, sn, sub, ab, col, del⟩ := cd
      dsimp only at hm q3 q4
      have e3 : del = false := by simpa using q3
      subst hm e3 q4
      obtain ⟨l⟩ := sl
      have hs' : l = [k0, k1, k2, k3, some (.builtin "Exception.__new__"), k5] := hs
      subst hs'
      exact ⟨nm, qn, ns, bs, cs, sn, sub, ab, col, dd, k0, k1, k2, k3, k5, ho⟩
    · cases q
  · cases q
/-- what the top has written of an own error with fields -/
structure ExcF (K : Frag) (mg : Str → Option Value) (x : Str) (fs : List Str) : Prop where
  g : mg x = some (.ref (He.ga K x))
  ox : OexE K (He.ga K x)
  xf : XfC K (He.ga K x)
  nof : ∀ f ∈ fs, PySem.W.findIn K (.ref (He.ga K x)) f = some none
  iC : PySem.W.findIn K (.ref (He.ga K x)) "__init__" = some (some (.ref (He.ma K (He.ga K x) "__init__")))
  tI : PySem.W.typeIn K (.ref (He.ma K (He.ga K x) "__init__")) = some (.type "function")
  me : PySem.W.exmOne K (.ref (He.ga K x)) (.ref (He.ga K x)) = some true
def excFB (K : Frag) (x : Str) (fs : List Str) : Bool := He.eqO (PySem.W.nsIn K mainGlobals x) (some (some (.ref (He.ga K x)))) && (oexB K (He.ga K x) && (He.eqO (PySem.W.findIn K (.ref (He.ga K x)) "__setattr__") (some (some (.builtin "object.__setattr__"))) &&
  (decide (PySem.W.subIn K (.ref (He.ga K x)) (.type "BaseException") = some true) && (decide (PySem.W.typeIn K (.ref (He.ga K x)) = some (.type "type")) && (PySem.W.keepIn K (.ref (He.ga K x)) && (xfB K (He.ga K x) && (fs.all (fun f => He.eqO (PySem.W.findIn K (.ref (He.ga K x)) f) (some none)) &&
  (He.eqO (PySem.W.findIn K (.ref (He.ga K x)) "__init__") (some (some (.ref (He.ma K (He.ga K x) "__init__")))) && (decide (PySem.W.typeIn K (.ref (He.ma K (He.ga K x) "__init__")) = some (.type "function")) && decide (PySem.W.exmOne K (.ref (He.ga K x)) (.ref (He.ga K x)) = some true))))))))))
theorem excF_of {K : Frag} {h : Heap} {mg : Str → Option Value} {x : Str} {fs : List Str} (X : K.In h) (G : h.Ns mainGlobals mg) (c : excFB K x fs = true) : ExcF K mg x fs := by
  obtain ⟨c1, c⟩ := He.ba c
  obtain ⟨c2, c⟩ := He.ba c
  obtain ⟨c3, c⟩ := He.ba c
  obtain ⟨c4, c⟩ := He.ba c
  obtain ⟨c5, c⟩ := He.ba c
  obtain ⟨c6, c⟩ := He.ba c
  obtain ⟨c7, c⟩ := He.ba c
  obtain ⟨c8, c⟩ := He.ba c
  obtain ⟨c9, c⟩ := He.ba c
  obtain ⟨c10, c11⟩ := He.ba c
  exact ⟨PySem.W.mg_of X G (He.eqO_ok c1), ⟨oexB_ok c2, He.eqO_ok c3, of_decide_eq_true c4, of_decide_eq_true c5, c6⟩, xfB_ok c7, fun f hf => He.eqO_ok (List.all_eq_true.mp c8 f hf), He.eqO_ok c9, of_decide_eq_true c10, of_decide_eq_true c11⟩
/-- __init__ of one field -/
def sp_init1 (K : Frag) (x f : Str) : Sp := fun vs H Q _ => ∃ (a : Addr) (v : V), vs = [.ref a, v] ∧ H a = some (exo a (He.ga K x) none) ∧ ∀ dx, H dx = none → dx ≠ a → Q .non (upd (upd H dx (exd dx [(f, v)])) a (exo a (He.ga K x) (some dx)))
theorem len_init1 {K : Frag} {x f : Str} {vs : List V} {H : Hp} {Q : VK} {E : XK} (h : sp_init1 K x f vs H Q E) : vs.length = 2 := by
  obtain ⟨a, v, rfl, _⟩ := h
  rfl
theorem pure_init1 {K : Frag} {mg : Str → Option Value} {x f : Str} {fs N : List Str} (c : ExcF K mg x fs) (hf : f ∈ fs) (vs : List V) (H : Hp) (Q : VK) (E : XK) (h : sp_init1 K x f vs H Q E) {s0 s1 : Str} (hN : N = [s0, s1]) : tSetE K f (tVar 0) (tVar 1) { nx := fun _ H' => Q .non H', rt := Q } (start N vs) H := by
  obtain ⟨a, v, rfl, ha, k⟩ := h
  subst hN
  exact ⟨_, rfl, _, rfl, a, _, rfl, c.ox, c.nof f hf, .inl ⟨ha, fun dx n ne => k dx n ne⟩⟩
/-- raise x(..) -/
def tRaiseF (K : Frag) (x : Str) (sp : Sp) (ta : TA) (E : XK) : TS := fun _ σ H => tMkO (He.ga K x) sp [] ta σ H E
theorem ExcF.mk1 {X : Cx} {x : Str} {fs : List Str} {e : Expr} {es : List Expr} {ta : TA} {p pos : Pos} {k : Nat} {fd : FuncData} {ps : List Str} {sp : Sp} (c : ExcF X.K X.mg x fs) (F1 : FnOk X.prog X.w X.K X.mg X.base CX0 k (He.ma X.K (He.ga X.K x) "__init__") fd ps sp) (hr : Room (k + 1) X.A) (hb : Binds X.K fd ps [])
    (hg : L2.Gl X x) (ha : PA X (e :: es) ta) (hdb : (x == ("__debug__" : Str)) = false := by decide) (hst : starEach (e :: es) X.env = (false, eval e X.env) :: starEach es X.env := by rfl) (hpl : (backTo pos (starEach es X.env)).any (·.1) = false := by rfl) :
    PMk X (.Call (.Name x p) (e :: es) [] pos) (tMkO (He.ga X.K x) sp [] ta) := pmkE c.ox c.iC c.tI F1 hr hb pass0 hg c.g ha hdb hst hpl
/-- raise x(e): the error's own dict d holds the field -/
theorem s_raise1 {K : Frag} {x f : Str} {te : TE} {σ : L2.St} {H : Hp} {D : Ends} {E : XK} {v : V} (h : EvV exR te σ H v) (k : ∀ d H', H d = none → exR.r H H' → H' d = some (.xd [(f, v)]) → E (.ref (He.ga K x)) (some d) H') : tRaiseF K x (sp_init1 K x f) (tCons te tNil) E D σ H := by
  show (tCons te tNil) σ H fun vs H1 => vs.length ≤ 1000 ∧ ∀ a, H1 a = none → sp_init1 K x f (.ref a :: (vs ++ [])) (upd H1 a (exo a (He.ga K x) none)) (fun v H2 => v = .non ∧ ∃ (d : Addr) (fs : List (Str × V)), H2 a = some (exo a (He.ga K x) (some d)) ∧ H2 d = some (exd d fs) ∧ H1 d = none ∧ E (.ref (He.ga K x)) (some d) (upd (del H2 a) d (.xd fs))) (fun _ _ _ => False)
  exact (ea_cons h ea_nil) H .rfl _ fun vs H1 e1 ev => by
      subst ev
      refine ⟨show 1 ≤ 1000 by decide, fun a ha => ⟨a, v, rfl, upd_same, fun dx nd ne => ⟨rfl, dx, [(f, v)], upd_same, ?_, ?_, ?_⟩⟩⟩
      · rw [upd_ne ne]
        exact upd_same
      · rw [upd_ne ne] at nd
        exact nd
      · rw [upd_ne ne] at nd
        have same : ∀ b o, H1 b = some o → (upd (del (upd (upd (upd H1 a (exo a (He.ga K x) none)) dx (exd dx [(f, v)])) a (exo a (He.ga K x) (some dx))) a) dx (.xd [(f, v)])) b = some o := fun b o q => by
          have n1 : b ≠ a := ne_of_none q ha
          have n2 : b ≠ dx := ne_of_none q nd
          rw [upd_ne n2, del_ne n1, upd_ne n1, upd_ne n2, upd_ne n1]
          exact q
        exact k dx _ (e1.back dx nd) (e1.trans (Ext.r same)) upd_same
/-- try: .. except x as n: .. (n in slot i) -/
def tTryA (K : Frag) (x : Str) (i : Nat) (tb : WX → TS) (ts : Addr → Value → Option Addr → TS) : TS := fun D σ H => tb (fun cls d σ' H' => cls = .ref (He.ga K x) ∧ ∀ a, H' a = none → ts a cls d { nx := fun σ2 H2 => D.nx (σ2.set i none) H2, rt := D.rt, bk := fun σ2 H2 => D.bk (σ2.set i none) H2, ct := fun σ2 H2 => D.ct (σ2.set i none) H2 } (σ'.set i (some (.ref a))) H') D σ H
theorem ps_tryA {X : Cx} {x n : Str} {i : Nat} {fs : List Str} {body suite : List Stmt} {b₀ : Stmt} {np pos pos' : Pos} {tb : WX → TS} {ts : Addr → Value → Option Addr → TS} (c : ExcF X.K X.mg x fs) (hs : X.stack = X.env :: X.outer) (hf : X.env.frame = some X.env.locals) (hN : X.N.Nodup) (hi : X.N[i]? = some n) (hln : X.env.kindOf n = some .local) (hc : L2.Gl X x) (tk : Takes X fun _ _ _ _ => False)
    (hb : ∀ (W : WX) (pn : List (Addr × Obj)) (xe : Value → Shared → Prop), Takes (X.tr pn xe) W → PassesOwn (model X.prog X.w) X.A X.env xe → PSs (X.tr pn xe) body (tb W))
    (hsu : ∀ (a : Addr) (oe : Obj) (cls : Value) (d : Option Addr) (pn : List (Addr × Obj)), Zc cls d oe → (∃ vs, oe.data = .fields vs) → PSs (X.suite a ((a, oe) :: pn)) (b₀ :: suite) (ts a cls d)) (hdb : (x == ("__debug__" : Str)) = false := by decide) :
    PS X (.Try body [.ExceptHandler (some (.Name x np)) (some n) (b₀ :: suite) pos'] [] [] pos) (tTryA X.K x i tb ts) := by
  have h := ps_try_as (X := X) (i := i) (n := n) (np := np) (pos := pos) (pos' := pos') (tb := fun W D σ H => ∃ W1 : WX, (∀ cls d σ' H', W1 cls d σ' H' → W cls d σ' H') ∧ tb W1 D σ H) (ts := ts) (Wout := fun _ _ _ _ => False) hs hf hN hi hln ⟨hc, hdb, .inl c.g⟩ tk (fun W pn xe tk1 ps => ⟨fun pins s σ H D I ⟨W1, sub, h⟩ => (hb W1 pn xe (fun u s' e => tk1 u s' (by
    obtain ⟨a, B, sI, pins', σ', H', cls, d, r0, J', nb, up, sky, na, os, ag, w⟩ := e
    exact ⟨a, B, sI, pins', σ', H', cls, d, r0, J', nb, up, sky, na, os, ag, sub _ _ _ _ w⟩)) ps).run pins s σ H D I h⟩) hsu
  refine ⟨fun pins s σ H D I h0 => h.run pins s σ H D I ⟨_, ?_, h0⟩⟩
  rintro cls d σ' H' ⟨e, h1⟩
  subst e
  exact ⟨true, c.me, fun _ a ha => h1 a ha, fun q => nomatch q⟩
/-- n.f of a caught error -/
theorem s_xf {K : Frag} {x f : Str} {i : Nat} {a d : Addr} {σ : L2.St} {H : Hp} {v : V} {Q : V → Hp → Prop} (hi : σ[i]? = some (some (.ref a))) (hd : H d = some (.xd [(f, v)])) (q : Q v H) : tXf a (.ref (He.ga K x)) (some d) (He.ga K x) f (tVar i) σ H Q :=
  ⟨_, hi, rfl, rfl, d, _, v, rfl, hd, by simp [List.lookup], q⟩
theorem passF {X : Cx} : Passes (L2.CX X.prog X.w) X E0 := fun _ _ _ _ _ _ _ c => by
  obtain ⟨a, B, H', cls, d, rfl, fl, hok, ub, na, os, ag, hE⟩ := c
  exact hE.elim
abbrev exF (bs : List Bi) (xs : List Str) (ys : List (Str × List Str)) : Frag → Bool := fun K => bs.all (biOk K) && (xs.all (excOk K) && ys.all fun y => excFB K y.1 y.2)
section
variable {bs : List Bi} {xs : List Str} {ys : List (Str × List Str)} {K : Frag}
theorem biF (c : exF bs xs ys K = true) (i : Nat) {q : Bi} {h : Heap} {mg : Str → Option Value} (X : K.In h) (G : h.Ns mainGlobals mg) (e : bs[i]? = some q := by rfl) : mg q.1 = some (.builtin q.2) :=
  PySem.W.mg_of X G (He.eqO_ok (List.all_eq_true.mp (He.ba c).1 q (List.mem_of_getElem? e)))
theorem excE2 (c : exF bs xs ys K = true) (i : Nat) {x : Str} {h : Heap} {mg : Str → Option Value} (X : K.In h) (G : h.Ns mainGlobals mg) (e : xs[i]? = some x := by rfl) : ExcC K mg x :=
  excC_of X G (List.all_eq_true.mp (He.ba (He.ba c).2).1 x (List.mem_of_getElem? e))
theorem excFE (c : exF bs xs ys K = true) (i : Nat) {x : Str} {fs : List Str} {h : Heap} {mg : Str → Option Value} (X : K.In h) (G : h.Ns mainGlobals mg) (e : ys[i]? = some (x, fs) := by rfl) : ExcF K mg x fs :=
  excF_of X G (List.all_eq_true.mp (He.ba (He.ba c).2).2 (x, fs) (List.mem_of_getElem? e))
end
end Slip
/-! own errors made with keywords -/
namespace Slip
open PySem PySem.Spec
open PySem.W (Looks)
section
variable {M : Model} {A : Around} {E : Value → Shared → Prop} {h : Heap} {g : Array GenState} {d : Drawn} {t : Nat} {oS : OsState}
variable {nm q : Str} {C N : Addr} {bs bm mB : List Value} {wd : Bool} {sn : List Str} {sub : List Value} {ab : Bool} {cl : Option Bool} {dd : Option Addr} {w0 w1 w2 w3 w5 : Option Value} {B nId iId : String}
theorem chkNewK (ff : ExcBaseFacts B nId iId mB) (has : ∀ X : String, bm.contains (.type X) = mB.contains (.type X)) {ps : List Value} {kv : List (Str × Value)} {Q : Unit → Shared → Prop}
    (oC : h.get? C = some (excClassObj nm q C N bs bm wd sn sub ab cl dd w0 w1 w2 w3 w5 nId)) (fin : Q () ⟨h, g, d, t, oS⟩) : wpAny M A (checkBuiltinCall nId ⟨.ref C :: ps, kv⟩) Q E ⟨h, g, d, t, oS⟩ := by
  have kB : (Value.ref C :: bm).contains (.type B) = true := by rw [List.contains_cons, has, ff.hasB, Bool.or_true]
  have fStar := ff.noStar
  simp only [checkBuiltinCall, ff.newRow, ff.newSplit, ff.newKind]
  repeat (first | refine wpAny_loadPart_at oC ?_ | (refine wpAny_isSubtype_exc oC ?_; rw [kB]) | refine wpAny_staticBase_exc oC ?_ | refine wpAny_madeBy_exc oC ?_ | simp only [bne_self_eq_false, Bool.false_eq_true, if_false] | wp_step)
  exact fin
theorem chkCallK {ps : List Value} {kv : List (Str × Value)} {Q : Unit → Shared → Prop} (oC : h.get? C = some (excClassObj nm q C N bs bm wd sn sub ab cl dd w0 w1 w2 w3 w5 nId))
    (fin : Q () ⟨h, g, d, t, oS⟩) : wpAny M A (checkBuiltinCall "type.__call__" ⟨.ref C :: ps, kv⟩) Q E ⟨h, g, d, t, oS⟩ := by
  have sb := tc_sub
  have isT : (⟨h, g, d, t, oS⟩ : Shared).TypeIs (.ref C) "type" := ⟨_, oC, rfl⟩
  simp only [tc_split, checkBuiltinCall, tc_kind]
  repeat (any_goals (first | assumption | with_reducible refine wpAny_loadPart_at oC ?_ | with_reducible refine wpAny_onRaise ?_ | with_reducible refine wpAny_map ?_ | wp_step))
end
section
variable {prog : Program} {w : World} {A : Around} {E : Value → Shared → Prop} {R : Result → Shared → Prop} {h : Heap} {g : Array GenState} {d : Drawn} {t : Nat} {oS : OsState}
variable {nm q : Str} {C N : Addr} {bs bm mB : List Value} {wd : Bool} {sn : List Str} {sub : List Value} {ab : Bool} {cl : Option Bool} {dd : Option Addr} {w0 w1 w2 w3 w5 : Option Value} {B nId iId : String}
theorem newOwnK (ff : ExcBaseFacts B nId iId mB) (has : ∀ X : String, bm.contains (.type X) = mB.contains (.type X)) {ps : List Value} {kv : List (Str × Value)}
    (oC : h.get? C = some (excClassObj nm q C N bs bm wd sn sub ab cl dd w0 w1 w2 w3 w5 nId))
    (fin : R (.ok (.ret (.ref (h.objs.size + 1)))) ⟨(h.push { cls := .type "tuple", data := .seq ps.toArray }).push
      { cls := .ref C, data := .fields #[.ref h.objs.size, .none, .none, .none, .bool false, .none] }, g, d, t, oS⟩) (few : ps.length ≤ sizeLine) :
    codeAny (model prog w) A (.builtin nId ⟨.ref C :: ps, kv⟩) R ⟨h, g, d, t, oS⟩ := by
  have fEnds := ff.ends
  have kB : (Value.ref C :: bm).contains (.type B) = true := by rw [List.contains_cons, has, ff.hasB, Bool.or_true]
  have kA : (Value.ref C :: bm).contains (.type "AttributeError") = false := by rw [List.contains_cons, has, ff.noAttr]; rfl
  have kN : (Value.ref C :: bm).contains (.type "NameError") = false := by rw [List.contains_cons, has, ff.noName]; rfl
  refine codeAny_builtinAt ff.entry ?_
  (unfold Builtin.«BaseException.__new__»; refine wpAt_bind ?_)
  show wpAt _ _ _ (bind stack _) _ _ _
  refine wpAt_bind (wpAt_stack fun pp bl => wpAt_of_wpAny ?_)
  wp_walk
  refine wpAt_of_wpAny ?_
  rw [ff.owner]
  repeat (first | with_reducible refine wpAny_madeHere_exc ff.canon oC ?_ | with_reducible refine wpAny_loadPart_at oC ?_ | (with_reducible refine wpAny_isSubtype_exc oC ?_; first | rw [kB] | rw [kA] | rw [kN]) | wp_step)
  show R _ _
  rw [Heap.size_push]
  exact fin
theorem typeCallK (ff : ExcBaseFacts B nId iId mB) (has : ∀ X : String, bm.contains (.type X) = mB.contains (.type X)) {ps : List Value} {kv : List (Str × Value)} {fI : Addr} {Q : Fin → Shared → Prop}
    (oC : h.get? C = some (excClassObj nm q C N bs bm wd sn sub ab cl dd w0 w1 w2 w3 w5 nId))
    (hi : Looks (model prog w) h (typeLookup (.ref C) "__init__") (some (.ref fI))) (hb : ∀ self, Looks (model prog w) h (bindSpecial (.ref fI) self) (.ref fI, [self])) (few : ps.length ≤ sizeLine)
    (fin : codeAny (model prog w) A (.call (.ref fI) ⟨.ref (h.objs.size + 1) :: ps, kv⟩)
      (fun rr ss => match rr with | .ok (.ret v) => v = .none ∧ Q (.done (.ret (.ref (h.objs.size + 1)))) ss | .ok _ => False | .error e => E e ss)
      ⟨(h.push (PySem.W.kdv_tup ps)).push (PySem.HandSPX.excO C h.objs.size), g, d, t, oS⟩) :
    wpAny (model prog w) A (Builtin.«type.__call__» ⟨.ref C :: ps, kv⟩) Q E ⟨h, g, d, t, oS⟩ := by
  repeat (first | with_reducible refine wpAny_loadPart_at oC ?_ | with_reducible refine wpAny_madeBy_exc oC ?_ | wp_step)
  refine codeAny_call_builtin_code (Code.quiet_builtin _ ff.quiet) (chkNewK ff has oC ?_)
  refine newOwnK ff has oC ?_ few
  show wpAny _ _ _ _ _ _
  have k : ∀ b o, h.get? b = some o → ((h.push (PySem.W.kdv_tup ps)).push (PySem.HandSPX.excO C h.objs.size)).get? b = some o := fun b o e => Heap.get?_push_of_some _ (Heap.get?_push_of_some _ e)
  have hC2 := k _ _ oC
  have gE : ((h.push (PySem.W.kdv_tup ps)).push (PySem.HandSPX.excO C h.objs.size)).get? (h.objs.size + 1) = some (PySem.HandSPX.excO C h.objs.size) := by heap_get
  have kC : (Value.ref C :: bm).contains (.ref C) = true := by simp
  have i1 := hi.keeps k
  have bb := (hb (.ref (h.objs.size + 1))).keeps k
  unfold isInstance
  repeat (first | with_reducible refine wpAny_loadPart_at gE ?_ | (with_reducible refine wpAny_isSubtype_exc hC2 ?_; rw [kC]) | wp_step)
  show wpAny _ _ (typeLookup (Value.ref C) _) _ _ _
  refine i1.at ?_
  refine wpAny_holding (wpAny_bind (bb.at ?_))
  refine wpAny_bind (wpAny_call (codeAny_mono fin fun rr ss z => ?_))
  rcases rr with e | (v | _ | _ | _) <;> first | exact z | exact z.elim | skip
  obtain ⟨rfl, z⟩ := z
  first
    | refine wpAny_pure (wpAny_pure z)
    | (wp_walk; exact z)
theorem callOwnK (ff : ExcBaseFacts B nId iId mB) (has : ∀ X : String, bm.contains (.type X) = mB.contains (.type X)) {ps : List Value} {kv : List (Str × Value)} {fI : Addr}
    (oC : h.get? C = some (excClassObj nm q C N bs bm wd sn sub ab cl dd w0 w1 w2 w3 w5 nId))
    (hi : Looks (model prog w) h (typeLookup (.ref C) "__init__") (some (.ref fI))) (hb : ∀ self, Looks (model prog w) h (bindSpecial (.ref fI) self) (.ref fI, [self])) (few : ps.length ≤ sizeLine)
    (fin : codeAny (model prog w) (A.under (.builtin "type.__call__" ⟨.ref C :: ps, kv⟩)) (.call (.ref fI) ⟨.ref (h.objs.size + 1) :: ps, kv⟩) (PySem.W.InitBack (h.objs.size + 1) R)
      ⟨(h.push (PySem.W.kdv_tup ps)).push (PySem.HandSPX.excO C h.objs.size), g, d, t, oS⟩) :
    codeAny (model prog w) A (.call (.ref C) ⟨ps, kv⟩) R ⟨h, g, d, t, oS⟩ := by
  have look := tc_lookup
  have bnd := tc_bind (.ref C)
  have hasy : (⟨h, g, d, t, oS⟩ : Shared).TypeIs (.ref C) "type" := ⟨_, oC, rfl⟩
  refine codeAny_of_tree ?_
  show wpAny _ _ (callAny (Value.ref C) _) _ _ _
  repeat (any_goals (first | assumption | with_reducible refine wpAny_loadPart_at oC ?_ | wp_step))
  refine ⟨rfl, ?_⟩
  refine codeAny_call_builtin_at (Code.quiet_builtin _ (by decide +kernel)) entry_typeCall (chkCallK oC (typeCallK ff has oC hi hb few ?_))
  refine codeAny_mono fin fun rr ss z => ?_
  rcases rr with e | (v | _ | _ | _) <;> exact z
end
end Slip
/-! own errors as values: isinstance of one that has fields -/
namespace Slip
open PySem PySem.Spec PySem.W PySem.Calls PyProof.Rows
section
variable {prog : Program} {w : World} {A : Around} {E : Value → Shared → Prop} {s : Shared} {K : Frag} {x D : Addr} {o : Obj} {od : Option Obj}
theorem fo_class (hc : (clsIn K D).isSome = true) (T : L2.ExcC K D) : findObj K D od "__class__" = some (.bind (.builtin "getset_descriptor.__get__") (.builtin "object.__class__")) := by
  obtain ⟨cd, e⟩ := Option.isSome_iff_exists.mp hc
  unfold findObj
  rw [e, Option.bind_some, T.ha, Option.bind_some]
  simp [T.hn, T.ht]
theorem class_ofX {Q : Option Value → Shared → Prop} (T : L2.ExcC K D) (Y : K.In s.heap) (I : InstAt s.heap x o D od) (fin : Q (some (.ref D)) { s with toks := s.toks + 1 }) : wpAny (model prog w) A (getAttr? (.ref x) "__class__") Q E s := by
  have ff : findObj K D od "__class__" = some (.bind (.builtin "getset_descriptor.__get__") (.builtin "object.__class__")) := fo_class (by obtain ⟨cd, e, _⟩ := any_some T.hd; rw [e]; rfl) T
  obtain ⟨hp, g, d, t, os⟩ := s
  have A0 := I.type (M := model prog w)
  have A1 := looks_findIn (M := model prog w) Y T.hg
  have A2 := looks_findIn (M := model prog w) Y T.hk
  have A3 := looks_find (M := model prog w) Y I ff
  have isB : Looks (model prog w) hp (isInstance (.ref x) (.type "BaseException")) true := A0.andThen (looks_subIn Y T.hs)
  have n0 : (false && onTheHeap (Value.builtin "BaseException.__getattribute__")) = false := rfl
  have n2 : (Value.builtin "BaseException.__getattribute__" == Value.builtin "object.__getattribute__") = false := by decide +kernel
  have n1 : (onTheHeap (Value.ref D) && Value.builtin "BaseException.__getattribute__" == Value.builtin "object.__getattribute__") = false := by rw [n2]; rfl
  (unfold getAttr? getAttrBy? getAttrBy; refine wpAny_bind (wpAny_mkText (wpAny_bind (wpAny_attempt (wpAny_holding (wpAny_bind (A0.at (wpAny_bind (A1.at ?_)))))))))
  show wpAny (model prog w) _ (if (onTheHeap (Value.ref D) && Value.builtin "BaseException.__getattribute__" == Value.builtin "object.__getattribute__") = true then _ else _) _ _ _
  rw [n1, if_neg Bool.false_ne_true]
  (unfold getAttrByItsOwn hookBefore; refine wpAny_bind ?_)
  rw [if_pos (show onTheHeap (.ref D) = true from rfl)]
  refine A2.at ?_
  (refine wpAny_bind (wpAny_attempt (wpAny_holding ?_)); unfold callGetattribute)
  rw [n0, if_neg Bool.false_ne_true]
  (unfold boundAndCalled; rw [PySem.F.excAttr_ValueError.ga.bind (.ref x)])
  (refine wpAny_bind (wpAny_pure ?_))
  show wpAny _ _ (call (.builtin "BaseException.__getattribute__") [.ref x, .str "__class__" t]) _ _ ⟨hp, g, d, t + 1, os⟩
  refine wpAny_call (codeAny_call_builtin PySem.F.excAttr_ValueError.ga.plain PySem.F.entry_bexc_ga (@check_slot (model prog w) _ _ ⟨hp, g, d, t + 1, os⟩ "BaseException.__getattribute__" "BaseException" "__getattribute__" (.ref x) [.str "__class__" t] [] _ (by decide +kernel) (by decide +kernel) isB (PySem.F.args_bexc_ga (.ref x) (.str "__class__" t)) ?_))
  (unfold Builtin.«object.__getattribute__»; refine wpAny_bind (wpAny_of_eq (a := ((Value.ref x : Value), [Value.str "__class__" t])) (by first | rfl | (simp only [slotArgs]; rfl)) ?_))
  refine wpAny_bind (wpAny_pure (wpAny_bind (A0.at (wpAny_bind (A3.at ?_)))))
  show wpAny _ _ (holding [Value.builtin "object.__class__"] (call (.builtin "getset_descriptor.__get__") [.builtin "object.__class__", .ref x, .ref D]) >>= ret) _ _ ⟨hp, g, d, t + 1, os⟩
  refine wpAny_bind (wpAny_holding (wpAny_call (class_get (s := ⟨hp, g, d, t + 1, os⟩) (ox := o) (od := od) Y I T.hm (wpAny_pure ?_))))
  show wpAny _ _ (handedOut (.ref D)) _ _ ⟨hp, g, d, t + 1, os⟩
  (rw [handedOut_of (v := .ref D) rfl])
  first
    | exact wpAny_pure fin
    | exact wpAny_pure (wpAny_pure fin)
    | exact wpAny_pure (wpAny_bind (wpAny_pure (wpAny_pure fin)))
theorem kitX_exc (T : L2.ExcC K D) : KitX K (.ref x) (.ref D) (fun h => InstAt h x o D od) where
  ty := fun _ _ _ I => I.type
  it := fun _ _ Y _ => by
    obtain ⟨cdD, e, _⟩ := any_some T.hd
    unfold clsIn at e
    split at e
    · rename_i c' d' cd' sl' ho
      intro A' Q' E' s' k q
      (unfold isType loadHead; exact wpAny_bind (wpAny_loadPart (k _ _ (Y _ _ ho)) (wpAny_pure q)))
    · cases e
  ne := fun h tp dd its n sl Y htp => by
    obtain ⟨cdD, e, _⟩ := any_some T.hd
    refine Bool.eq_false_iff.mpr fun qq => ?_
    have ee : D = tp := Value.ref.inj (beq_iff_eq.mp qq)
    subst ee
    unfold clsIn at e
    split at e
    · rename_i c' d' cd' sl' ho
      have z := (Y _ _ ho).symm.trans htp
      cases z
    · cases e
  ca := fun Y I k => class_ofX T Y I k
end
end Slip
/-! own errors as values: made, asked, read -/
namespace Slip
open PySem PySem.Spec PyProof.Rows L2
/-- an own error at a of the class C, its fields fs -/
def ErrAt (H : Hp) (a C : Addr) (fs : List (Str × V)) : Prop := (fs = [] ∧ H a = some (exo a C none)) ∨ ∃ dd, H a = some (exo a C (some dd)) ∧ H dd = some (exd dd fs)
/-- C(e, .., k = v, ..) as a value -/
def tMkV (C : Addr) (n m : Nat) (sp : Sp) (gV : List V → List V → List V) (t tk : TA) : TE := fun σ H Q => t σ H fun vs H1 => tk σ H1 fun zs H2 => vs.length = n ∧ zs.length = m ∧ n ≤ 1000 ∧ ∀ a, H2 a = none → sp (gV (.ref a :: vs) zs) (upd H2 a (exo a C none)) (fun v H3 => v = .non ∧ Q (.ref a) H3) (fun _ _ _ => False)
/-- e.f of an own error -/
def tGetX (K : Frag) (f : Str) (te : TE) : TE := fun σ H Q => te σ H fun x H1 => ∃ (a C : Addr) (fs : List (Str × V)) (v : V), x = .ref a ∧ XfC K C ∧ PySem.W.findIn K (.ref C) f = some none ∧ ErrAt H1 a C fs ∧ fs.lookup f = some v ∧ Q v H1
/-- isinstance(e, c), e an own error -/
def rIsX (K : Frag) : List V → Hp → VK → Prop := fun xs H Q => ∃ (a C : Addr) (fs : List (Str × V)) (c : V) (cv : Value) (b : Bool), xs = [.ref a, c] ∧ (∀ u, RelV c u → u = cv) ∧ L2.ExcC K C ∧ ErrAt H a C fs ∧ PySem.W.kitOne K (.ref C) cv = some b ∧ Q (.bl b) H
/-- the same of the error that the suite holds -/
def rIsS (K : Frag) (cls : Value) (d : Option Addr) (a : Addr) : List V → Hp → VK → Prop := fun xs H Q => ∃ (C : Addr) (c : V) (cv : Value) (b : Bool), xs = [.ref a, c] ∧ (∀ u, RelV c u → u = cv) ∧ cls = .ref C ∧ L2.ExcC K C ∧ (d = none ∨ ∃ dd fs, d = some dd ∧ H dd = some (.xd fs)) ∧ PySem.W.kitOne K (.ref C) cv = some b ∧ Q (.bl b) H
section
variable {X : Cx} {pins : List (Addr × Obj)} {σ : L2.St} {H : Hp} {s : Shared} {a C : Addr} {fs : List (Str × V)}
theorem err_inst (I : Inv X pins σ H s) (e : ErrAt H a C fs) : ∃ o od, PySem.W.InstAt s.heap a o C od ∧ o.cls = .ref C ∧ PySem.W.notCls o = true ∧ (od = none ∨ ∃ o', od = some o') := by
  rcases e with ⟨_, ea⟩ | ⟨dd, ea, ed⟩
  · obtain ⟨t1, ho⟩ := exo_at I.hok ea
    exact ⟨_, none, ⟨ho, rfl, rfl, trivial⟩, rfl, rfl, .inl rfl⟩
  · obtain ⟨t1, ho⟩ := exo_at I.hok ea
    obtain ⟨mA, hns, rel⟩ := exd_at I.hok ed
    obtain ⟨od, hod, _⟩ := lookIn_ns hns
    exact ⟨_, some od, ⟨ho, rfl, rfl, hod⟩, rfl, rfl, .inr ⟨od, rfl⟩⟩
theorem call_isX : CallR X (.builtin "isinstance") (rIsX X.K) := by
  intro pins s σ H xs us Q I r h
  obtain ⟨a, C, fs, c, cv, b, rfl, hcv, T, e, hk, q⟩ := h
  cases r with
  | cons rx rr => cases rr with
    | cons rt rr =>
      cases rr
      cases rx
      have ec := hcv _ rt
      subst ec
      obtain ⟨o, od, J, _⟩ := err_inst I e
      exact PySem.W.kia_one (kitX_exc T) I.kIn J hk (fun z => nomatch z) fun tk => ⟨.bl b, H, I.kept (t' := tk) fun _ _ z => z, rfl, q⟩
theorem call_isS {a : Addr} {oe : Obj} {cls : Value} {d : Option Addr} {pn : List (Addr × Obj)} (hz : Zc cls d oe) (hf : ∃ vs, oe.data = .fields vs) : CallR (X.suite a ((a, oe) :: pn)) (.builtin "isinstance") (rIsS X.K cls d a) := by
  intro pins s σ H xs us Q I r h
  obtain ⟨C, c, cv, b, rfl, hcv, rfl, T, hd, hk, q⟩ := h
  cases r with
  | cons rx rr => cases rr with
    | cons rt rr =>
      cases rr
      cases rx
      have ec := hcv _ rt
      subst ec
      obtain ⟨hget, _⟩ := I.pin (a, oe) (List.mem_append.mpr (.inl List.mem_cons_self))
      obtain ⟨vs, hv⟩ := hf
      have J : ∃ od, PySem.W.InstAt s.heap a oe C od := by
        rcases hd with rfl | ⟨dd, fs, rfl, hx⟩
        · exact ⟨none, hget, hz.1, by unfold PySem.W.notCls; rw [hv] <;> rfl, by rw [hz.2]; trivial⟩
        · obtain ⟨mA, hns, _⟩ := (show ObjOk X.prog X.w H s.heap dd (.xd fs) from I.hok dd _ hx)
          obtain ⟨od, hod, _⟩ := lookIn_ns hns
          exact ⟨some od, hget, hz.1, by unfold PySem.W.notCls; rw [hv] <;> rfl, by rw [hz.2]; exact hod⟩
      obtain ⟨od, J⟩ := J
      exact PySem.W.kia_one (kitX_exc T) I.kIn J hk (fun z => nomatch z) fun tk => ⟨.bl b, H, I.kept (t' := tk) fun _ _ z => z, rfl, q⟩
theorem pe_getX {e : Expr} {te : TE} {pos : Pos} {n : Str} (he : PE X e te) (hb : attributeBase e n X.env (eval e X.env) = eval e X.env := by rfl) : PE X (.Attribute e n pos) (tGetX X.K n te) := by
  refine ⟨fun pins s σ H Q I h => ?_⟩
  refine attr_of hb (thn (he.run pins s σ H _ I h) fun u s1 hh => ?_)
  obtain ⟨x, H1, I1, rx, a, C, fs, v, ex, T, hno, er, l, q⟩ := hh
  subst ex
  obtain rfl : u = Value.ref a := rx
  rcases er with ⟨efs, _⟩ | ⟨dd, ea, ed⟩
  · rw [efs] at l; cases l
  · obtain ⟨t1, ho⟩ := exo_at I1.hok ea
    obtain ⟨mA, hns, rel⟩ := exd_at I1.hok ed
    obtain ⟨od, hod, look⟩ := lookIn_ns hns
    obtain ⟨y, hy, ry⟩ := RelO.some_of (v := v) (o := mA n) (by rw [← l]; exact rel n)
    have J : PySem.W.InstAt s1.heap a _ C (some od) := ⟨ho, rfl, rfl, hod⟩
    exact HandSPX.exc_get I1.kIn J T.ga T.gg T.exC (PySem.W.findObj_own T.hdC hno rfl (by rw [look, hy])) (handed_of ry) ⟨v, H1, I1.tok _, ry, q⟩
end
section
variable {X : Cx} {CX : CXT} {x : Str} {C fI : Addr} {k n : Nat} {fd : FuncData} {ps ks : List Str} {sp : Sp} {e : Expr} {es : List Expr} {kws : List Keyword} {t tk : TA} {p pos : Pos} {g : List Value → List Value → List Value} {gV : List V → List V → List V}
theorem runMkV {pins : List (Addr × Obj)} {σ : L2.St} {H : Hp} {s : Shared} {Q : VK} {us ws : List Value} {vs zs : List V} (T : OexE X.K C) (iC : PySem.W.findIn X.K (.ref C) "__init__" = some (some (.ref fI))) (tI : PySem.W.typeIn X.K (.ref fI) = some (.type "function"))
    (F1 : FnOk X.prog X.w X.K X.mg X.base CX k fI fd ps sp) (hr : Room (k + 1) X.A) (hb : KBn X.K fd ps (n + 1) ks g gV) (hx : Passes CX X (fun _ _ _ => False)) (I : Inv X pins σ H s) (r : Vals vs us) (rz : Vals zs ws) (l1 : vs.length = n) (l2 : zs.length = ks.length) (hn : n ≤ 1000)
    (h : ∀ a, H a = none → sp (gV (.ref a :: vs) zs) (upd H a (exo a C none)) (fun v H3 => v = .non ∧ Q (.ref a) H3) (fun _ _ _ => False)) : wpAny (model X.prog X.w) X.A (call (.ref C) us (ks.zip ws)) (EP X pins σ Q) X.xe s := by
  obtain ⟨nm, q, N, bs, cs, sn, sub, ab, col, dd, k0, k1, k2, k3, k5, oC⟩ := T.cls
  obtain ⟨hp, gs, dr, tk, os⟩ := s
  have up := Nat.le_succ hp.objs.size
  have keep : ∀ b o, hp.get? b = some o → ((hp.push (PySem.W.kdv_tup us)).push (PySem.HandSPX.excO C hp.objs.size)).get? b = some o := fun b o z => Heap.get?_push_of_some _ (Heap.get?_push_of_some _ z)
  have at_ : ((hp.push (PySem.W.kdv_tup us)).push (PySem.HandSPX.excO C hp.objs.size)).get? (hp.objs.size + 1) = some (PySem.HandSPX.excO C hp.objs.size) := by heap_get
  have I2 : Inv X pins σ (upd H (hp.objs.size + 1) (exo (hp.objs.size + 1) C none)) ⟨(hp.push (PySem.W.kdv_tup us)).push (PySem.HandSPX.excO C hp.objs.size), gs, dr, tk, os⟩ :=
    I.laid (t' := tk) (a := hp.objs.size + 1) (o := exo (hp.objs.size + 1) C none) (h' := (hp.push (PySem.W.kdv_tup us)).push (PySem.HandSPX.excO C hp.objs.size)) keep up (exo_ok at_)
  have hq := h (hp.objs.size + 1) (I.hok.fresh up)
  have rr : Vals (V.ref (hp.objs.size + 1) :: vs) (Value.ref (hp.objs.size + 1) :: us) := .cons rfl r
  have r2 := hb.rel rr rz
  have nl : (Value.ref (hp.objs.size + 1) :: us).length = n + 1 := by rw [List.length_cons, ← r.length, l1]
  have few : us.length ≤ sizeLine := by
    have := Paired.length r
    rw [sizeLine_eq]
    omega
  refine wpAny_call (callOwnK PySem.F.excBase_Exception (mroX_has cs) (I.kIn _ _ oC) (PySem.W.looks_findIn I.kIn iC) (fun self => PySem.W.bind_fn I.kIn self tI) few
    (codeAny_mono (F1.run _ X.stack _ _ ⟨Value.ref (hp.objs.size + 1) :: us, ks.zip ws⟩ (g (Value.ref (hp.objs.size + 1) :: us) ws) _ _ (fun _ _ _ => False) (hr.make C us (ks.zip ws)) (I2.env0.make C us (ks.zip ws)) (hb.to _ (Value.ref (hp.objs.size + 1) :: us) ws I2.kIn nl (rz.length.symm.trans l2)) r2 hq) fun r s' z => ?_))
  match r, z with
  | .error er, z => exact hx pins σ _ _ er s' I2 z
  | .ok (.ret u), z =>
    obtain ⟨v, H', I3, rv, ev, q3⟩ := I2.after z
    subst ev
    exact ⟨rv, ⟨V.ref (hp.objs.size + 1), H', I3, rfl, q3⟩⟩
/-- C(k = v, ..) -/
theorem pe_mkVK {fs : List Str} {m : Nat} (c : ExcF X.K X.mg x fs) (F1 : FnOk X.prog X.w X.K X.mg X.base CX k (He.ma X.K (He.ga X.K x) "__init__") fd ps sp) (hr : Room (k + 1) X.A) (hb : KBn X.K fd ps 1 ks g gV) (hx : Passes CX X (fun _ _ _ => False)) (hg : L2.Gl X x) (hkw : PK X kws tk)
    (hall : (backToKw pos (keywordEach kws X.env)).all (·.1.isSome) = true := by rfl) (hks : (backToKw pos (keywordEach kws X.env)).filterMap (·.1) = ks := by rfl) (hm : ks.length = m := by rfl) (hdb : (x == ("__debug__" : Str)) = false := by decide)
    (hpl : ((backTo pos (starEach [] X.env)).any (·.1) || (backToKw pos (keywordEach kws X.env)).any (·.1.isNone)) = false := by rfl) :
    PE X (.Call (.Name x p) [] kws pos) (tMkV (He.ga X.K x) 0 m sp gV tNil tk) := by
  subst hm
  refine ⟨fun pins s σ H Q I h => ?_⟩
  refine wpAny_Call_Name_kw (ld_glob I hg c.g ?_ hdb)
  refine PySem.W.callWith_KW0 (h₀ := X.base) I.ok.mod.kin c.ox.kC hall (thn (hkw.run pos pins s σ H _ I h) fun ws s2 ⟨zs, H2, I2, rz, l1, l2, l3, q2⟩ => ⟨I2.kIn, ?_⟩) hpl
  rw [hks]
  exact runMkV (us := []) (vs := []) c.ox c.iC c.tI F1 hr hb hx I2 .nil rz rfl l2 (Nat.zero_le _) q2
/-- C(e, ..) -/
theorem pe_mkV {fs : List Str} (c : ExcF X.K X.mg x fs) (F1 : FnOk X.prog X.w X.K X.mg X.base CX k (He.ma X.K (He.ga X.K x) "__init__") fd ps sp) (hr : Room (k + 1) X.A) (hb : KBn X.K fd ps (n + 1) [] g gV) (hx : Passes CX X (fun _ _ _ => False)) (hg : L2.Gl X x) (ha : PA X (e :: es) t)
    (hdb : (x == ("__debug__" : Str)) = false := by decide) (he : starEach (e :: es) X.env = (false, eval e X.env) :: starEach es X.env := by rfl) (hpl : (backTo pos (starEach es X.env)).any (·.1) = false := by rfl) :
    PE X (.Call (.Name x p) (e :: es) [] pos) (tMkV (He.ga X.K x) n 0 sp gV t tNil) := by
  refine ⟨fun pins s σ H Q I h => ?_⟩
  refine wpAny_Call_Name_kw (ld_glob I hg c.g ?_ hdb)
  refine PySem.W.callWith_K (h₀ := X.base) I.ok.mod.kin c.ox.kC (thn (ha.run pos pins s σ H _ I h) fun us s1 ⟨vs, H1, I1, r1, l1, l2, l3, q1⟩ => ⟨I1.kIn, ?_⟩) he hpl
  exact runMkV (ks := []) (ws := []) (zs := []) c.ox c.iC c.tI F1 hr hb hx I1 r1 .nil l1 rfl l3 q1
/-- C() where nothing is written of __init__ -/
theorem pe_mkV0 (c : Slip.ExcC X.K X.mg x) (hg : L2.Gl X x) (hdb : (x == ("__debug__" : Str)) = false := by decide) : PE X (.Call (.Name x p) [] [] pos) (fun _ H Q => ∀ a, H a = none → Q (.ref a) (upd H a (exo a (He.ga X.K x) none))) := by
  refine ⟨fun pins s σ H Q I h => ?_⟩
  refine wpAny_Call_Name_kw (ld_glob I hg c.g ?_ hdb)
  refine PySem.W.callWith_K0 I.kIn c.kp ?_
  show wpAny _ X.A (call (.ref (He.ga X.K x)) []) _ _ _
  obtain ⟨bm, N, nm, qn, bs, hdct, sn, sub, ab, col, dd, k0, k1, k2, k3, k5, mN, hC, hN, hni, T⟩ := exc_obj I.kIn c.ex
  refine wpAny_call_exc_subT PySem.F.excBase_Exception T hC hN hni (fun h' e hm => ?_) (by show 0 ≤ sizeLine; exact Nat.zero_le _)
  have gone : H e = none := I.hok.gone hm.new
  obtain ⟨t1, ho, _, _⟩ := hm.there
  exact ⟨.ref e, _, I.laidN hm.keeps hm.new gone (exo_ok (t1 := t1) ho), rfl, h e gone⟩
end
end Slip
/-! own errors as values: what is made, what the head tells, a base class caught -/
namespace Slip
open PySem PySem.Spec PyProof.Rows L2
/-- __init__ of two fields -/
def sp_init2 (K : Frag) (x f g : Str) : Sp := fun vs H Q _ => ∃ (a : Addr) (v u : V), vs = [.ref a, v, u] ∧ H a = some (exo a (He.ga K x) none) ∧ ∀ dx, H dx = none → dx ≠ a → Q .non (upd (upd (upd H dx (exd dx [(f, v)])) a (exo a (He.ga K x) (some dx))) dx (exd dx [(g, u), (f, v)]))
theorem len_init2 {K : Frag} {x f g : Str} {vs : List V} {H : Hp} {Q : VK} {E : XK} (h : sp_init2 K x f g vs H Q E) : vs.length = 3 := by
  obtain ⟨a, v, u, rfl, _⟩ := h
  rfl
theorem pure_init2 {K : Frag} {mg : Str → Option Value} {x f g : Str} {fs N : List Str} (c : ExcF K mg x fs) (hf : f ∈ fs) (hg : g ∈ fs) (vs : List V) (H : Hp) (Q : VK) (E : XK) (h : sp_init2 K x f g vs H Q E) {s0 s1 s2 : Str} (hN : N = [s0, s1, s2]) : tSeq (tSetE K f (tVar 0) (tVar 1)) (tSetE K g (tVar 0) (tVar 2)) { nx := fun _ H' => Q .non H', rt := Q } (start N vs) H := by
  obtain ⟨a, v, u, rfl, ha, k⟩ := h
  subst hN
  refine ⟨_, rfl, _, rfl, a, _, rfl, c.ox, c.nof f hf, .inl ⟨ha, fun dx n ne => ⟨_, rfl, _, rfl, a, _, rfl, c.ox, c.nof g hg, .inr ⟨dx, _, upd_same, ?_, by show 1 ≤ 900; decide, k dx n ne⟩⟩⟩⟩
  rw [upd_ne ne]
  exact upd_same
theorem err1 {ρ : Rl} {H : Hp} {a dx C : Addr} {f : Str} {v : V} (ha : H a = none) (hd : upd H a (exo a C none) dx = none) (ne : dx ≠ a) : ρ.r H (upd (upd (upd H a (exo a C none)) dx (exd dx [(f, v)])) a (exo a C (some dx))) ∧ ErrAt (upd (upd (upd H a (exo a C none)) dx (exd dx [(f, v)])) a (exo a C (some dx))) a C [(f, v)] := by
  rw [upd_ne ne] at hd
  refine ⟨Ext.r fun b o q => ?_, .inr ⟨dx, upd_same, by rw [upd_ne ne]; exact upd_same⟩⟩
  have n1 : b ≠ a := ne_of_none q ha
  have n2 : b ≠ dx := ne_of_none q hd
  rw [upd_ne n1, upd_ne n2, upd_ne n1]
  exact q
theorem err2 {ρ : Rl} {H : Hp} {a dx C : Addr} {f g : Str} {v u : V} (ha : H a = none) (hd : upd H a (exo a C none) dx = none) (ne : dx ≠ a) : ρ.r H (upd (upd (upd (upd H a (exo a C none)) dx (exd dx [(f, v)])) a (exo a C (some dx))) dx (exd dx [(g, u), (f, v)])) ∧ ErrAt (upd (upd (upd (upd H a (exo a C none)) dx (exd dx [(f, v)])) a (exo a C (some dx))) dx (exd dx [(g, u), (f, v)])) a C [(g, u), (f, v)] := by
  rw [upd_ne ne] at hd
  refine ⟨Ext.r fun b o q => ?_, .inr ⟨dx, by rw [upd_ne (Ne.symm ne)]; exact upd_same, upd_same⟩⟩
  have n1 : b ≠ a := ne_of_none q ha
  have n2 : b ≠ dx := ne_of_none q hd
  rw [upd_ne n2, upd_ne n1, upd_ne n2, upd_ne n1]
  exact q
section
variable {ρ : Rl} {K : Frag} {σ : L2.St} {H : Hp} {te tf : TE} {x f g : Str} {v u : V} {vs us : List V} {n m : Nat} {t tk : TA} {gV : List V → List V → List V}
/-- an error with one field -/
theorem ev_mkA (h : EvAV ρ t σ H vs) (hk : EvAV ρ tk σ H us) (l1 : vs.length = n) (l2 : us.length = m) (hn : n ≤ 1000) (e : ∀ a, gV (.ref a :: vs) us = [.ref a, v]) : Ev ρ (tMkV (He.ga K x) n m (sp_init1 K x f) gV t tk) σ H (fun w H' => ∃ a, w = .ref a ∧ ErrAt H' a (He.ga K x) [(f, v)]) := fun H1 e1 Q q =>
  h H1 e1 _ fun vs' H2 e2 ev => hk H2 (e1.trans e2) _ fun us' H3 e3 eu => by
    subst ev eu
    refine ⟨l1, l2, hn, fun a ha => ⟨a, v, e a, upd_same, fun dx hd ne => ⟨rfl, ?_⟩⟩⟩
    obtain ⟨h1, h2⟩ := err1 (ρ := ρ) (C := He.ga K x) (f := f) (v := v) ha hd ne
    exact q _ _ ((e2.trans e3).trans h1) ⟨a, rfl, h2⟩
/-- an error with two -/
theorem ev_mkB (h : EvAV ρ t σ H vs) (hk : EvAV ρ tk σ H us) (l1 : vs.length = n) (l2 : us.length = m) (hn : n ≤ 1000) (e : ∀ a, gV (.ref a :: vs) us = [.ref a, v, u]) : Ev ρ (tMkV (He.ga K x) n m (sp_init2 K x f g) gV t tk) σ H (fun w H' => ∃ a, w = .ref a ∧ ErrAt H' a (He.ga K x) [(g, u), (f, v)]) := fun H1 e1 Q q =>
  h H1 e1 _ fun vs' H2 e2 ev => hk H2 (e1.trans e2) _ fun us' H3 e3 eu => by
    subst ev eu
    refine ⟨l1, l2, hn, fun a ha => ⟨a, v, u, e a, upd_same, fun dx hd ne => ⟨rfl, ?_⟩⟩⟩
    obtain ⟨h1, h2⟩ := err2 (ρ := ρ) (C := He.ga K x) (f := f) (g := g) (v := v) (u := u) ha hd ne
    exact q _ _ ((e2.trans e3).trans h1) ⟨a, rfl, h2⟩
/-- an error without fields -/
def tMk0 (K : Frag) (x : Str) : TE := fun _ H Q => ∀ a, H a = none → Q (.ref a) (upd H a (exo a (He.ga K x) none))
theorem ev_mk0 : Ev ρ (tMk0 K x) σ H (fun w H' => ∃ a, w = .ref a ∧ ErrAt H' a (He.ga K x) []) := fun H1 e1 Q q a ha => q _ _ (r_new _ ha) ⟨a, rfl, .inl ⟨rfl, upd_same⟩⟩
theorem ErrAt.r {H' : Hp} {a C : Addr} {fs : List (Str × V)} (h : ErrAt H a C fs) (e : ρ.r H H') (n : ∀ b o, H b = some o → (∃ φ, o = .ext φ) → ¬ ρ.S b) : ErrAt H' a C fs := by
  rcases h with ⟨e1, h1⟩ | ⟨dd, h1, h2⟩
  · exact .inl ⟨e1, e.keep _ _ (n _ _ h1 ⟨_, rfl⟩) h1⟩
  · exact .inr ⟨dd, e.keep _ _ (n _ _ h1 ⟨_, rfl⟩) h1, e.keep _ _ (n _ _ h2 ⟨_, rfl⟩) h2⟩
/-- e.f -/
theorem ev_getX {a C : Addr} {fs : List (Str × V)} (h : EvV ρ te σ H (.ref a)) (hx : XfC K C) (hno : PySem.W.findIn K (.ref C) f = some none) (he : ∀ H1, ρ.r H H1 → ErrAt H1 a C fs) (l : fs.lookup f = some v) : EvV ρ (tGetX K f te) σ H v := fun H1 e1 Q q =>
  h H1 e1 _ fun w H2 e2 ew => ⟨a, C, fs, v, ew, hx, hno, he H2 (e1.trans e2), l, q _ H2 e2 rfl⟩
/-- isinstance(e, c) -/
theorem ev_isX {a C : Addr} {fs : List (Str × V)} {c : V} {cv : Value} {b : Bool} {ta tb : TE} (h1 : EvV ρ ta σ H (.ref a)) (h2 : EvV ρ tb σ H c) (hc : ∀ u, RelV c u → u = cv) (T : L2.ExcC K C) (he : ∀ H1, ρ.r H H1 → ErrAt H1 a C fs) (hk : PySem.W.kitOne K (.ref C) cv = some b) : EvV ρ (tCB (rIsX K) (tCons ta (tCons tb tNil))) σ H (.bl b) :=
  ev_cbV (ea_cons h1 (ea_cons h2 ea_nil)) fun H1 e1 Q q => ⟨a, C, fs, c, cv, b, rfl, hc, T, he H1 e1, hk, q _ H1 .rfl rfl⟩
end
/-! ### what the head tells -/
/-- how a call of __init__ binds -/
theorem kbnOf {K : Frag} {x qual : Str} {params : Arguments} {body : List Stmt} {scope : Scope} {kws : List (Str × V)} {f : Addr} {fd : FuncData} {ps ks : List Str} {n : Nat} {g : List Value → List Value → List Value} {gV : List V → List V → List V} (F : FunD K x qual params body scope [] kws f fd)
    (h : ∀ (kV doc pm : Value) (an : Option Addr) (cdv ct : Value) (us ws : List Value), us.length = n → ws.length = ks.length → bindArgs (PySem.W.fnOf x qual params body scope .none kV doc pm an cdv ct) ⟨us, ks.zip ws⟩ = pure (ps.zip (g us ws)))
    (hr : ∀ {vs : List V} {us : List Value} {zs : List V} {ws : List Value}, Vals vs us → Vals zs ws → Vals (gV vs zs) (g us ws)) : KBn K fd ps n ks g gV := ⟨fun s us ws _ hu hw => by
  obtain ⟨oc, od, dV, kV, doc, pm, an, cdv, ct, osl, rfl, lk, hcd, hD, hK⟩ := F.ex
  rcases hD with ⟨_, rfl⟩ | ⟨e, _⟩
  · exact .of_eq (h kV doc pm an cdv ct us ws hu hw)
  · exact absurd rfl e, hr⟩
/-- two, exchanged -/
def swp {α : Type} : List α → List α
  | [a, b] => [b, a]
  | l => l
theorem swp_vals : ∀ {zs : List V} {ws : List Value}, Vals zs ws → Vals (swp zs) (swp ws)
  | _, _, .nil => .nil
  | _, _, .cons r .nil => .cons r .nil
  | _, _, .cons r (.cons r2 .nil) => .cons r2 (.cons r .nil)
  | _, _, .cons r (.cons r2 (.cons r3 rr)) => .cons r (.cons r2 (.cons r3 rr))
abbrev IsQz := Str × (Str ⊕ String) × Bool
def cvOf (K : Frag) : Str ⊕ String → Value
  | .inl y => .ref (He.ga K y)
  | .inr T => .type T
def isCB (K : Frag) (x : Str) : Bool := He.eqO (PySem.W.findIn K (.ref (He.ga K x)) "__getattribute__") (some (some (.builtin "BaseException.__getattribute__"))) && (He.eqO (PySem.W.findIn K (.ref (He.ga K x)) "__getattr__") (some none) && (decide (PySem.W.subIn K (.ref (He.ga K x)) (.type "BaseException") = some true) && (PySem.W.hasDictIn K (He.ga K x) &&
  (He.eqO (PySem.W.findIn K (.ref (He.ga K x)) "__class__") (some (some (.builtin "object.__class__"))) && (He.eqO (PySem.W.specialIn K (.builtin "object.__class__") "__get__") (some (some (.builtin "getset_descriptor.__get__"))) && (decide (PySem.W.takesIn K (.builtin "object.__class__") = some true) && decide (PySem.W.mroIn K (He.ga K x) (.type "object") = some true)))))))
theorem isCB_ok {K : Frag} {x : Str} (c : isCB K x = true) : L2.ExcC K (He.ga K x) := by
  obtain ⟨c1, c⟩ := He.ba c
  obtain ⟨c2, c⟩ := He.ba c
  obtain ⟨c3, c⟩ := He.ba c
  obtain ⟨c4, c⟩ := He.ba c
  obtain ⟨c5, c⟩ := He.ba c
  obtain ⟨c6, c⟩ := He.ba c
  obtain ⟨c7, c8⟩ := He.ba c
  exact ⟨He.eqO_ok c1, He.eqO_ok c2, of_decide_eq_true c3, c4, He.eqO_ok c5, He.eqO_ok c6, of_decide_eq_true c7, of_decide_eq_true c8⟩
def kitB (K : Frag) (q : IsQz) : Bool := decide (PySem.W.kitOne K (.ref (He.ga K q.1)) (cvOf K q.2.1) = some q.2.2)
/-- a class that is caught in a base class's name -/
structure BaseC (K : Frag) (mg : Str → Option Value) (x : Str) (cs : List Str) : Prop where
  g : mg x = some (.ref (He.ga K x))
  me : ∀ c ∈ cs, PySem.W.exmOne K (.ref (He.ga K c)) (.ref (He.ga K x)) = some true
def baseB (K : Frag) (x : Str) (cs : List Str) : Bool := He.eqO (PySem.W.nsIn K mainGlobals x) (some (some (.ref (He.ga K x)))) && cs.all fun c => decide (PySem.W.exmOne K (.ref (He.ga K c)) (.ref (He.ga K x)) = some true)
theorem base_of {K : Frag} {h : Heap} {mg : Str → Option Value} {x : Str} {cs : List Str} (X : K.In h) (G : h.Ns mainGlobals mg) (c : baseB K x cs = true) : BaseC K mg x cs :=
  ⟨PySem.W.mg_of X G (He.eqO_ok (He.ba c).1), fun y hy => of_decide_eq_true (List.all_eq_true.mp (He.ba c).2 y hy)⟩
abbrev exH (bs : List Bi) (xs : List Str) (ys : List (Str × List Str)) (is : List Str) (qs : List IsQz) (zs : List (Str × List Str)) : Frag → Bool := fun K => exF bs xs ys K && (is.all (isCB K) && (qs.all (kitB K) && zs.all fun z => baseB K z.1 z.2))
section
variable {bs : List Bi} {xs : List Str} {ys : List (Str × List Str)} {is : List Str} {qs : List IsQz} {zs : List (Str × List Str)} {K : Frag}
theorem exH_is (c : exH bs xs ys is qs zs K = true) : ∀ x ∈ is, L2.ExcC K (He.ga K x) := fun x hx => isCB_ok (List.all_eq_true.mp (He.ba (He.ba c).2).1 x hx)
theorem exH_qs (c : exH bs xs ys is qs zs K = true) : ∀ q ∈ qs, PySem.W.kitOne K (.ref (He.ga K q.1)) (cvOf K q.2.1) = some q.2.2 := fun q hq => of_decide_eq_true (List.all_eq_true.mp (He.ba (He.ba (He.ba c).2).2).1 q hq)
theorem exH_zs (c : exH bs xs ys is qs zs K = true) (i : Nat) {x : Str} {cs : List Str} {h : Heap} {mg : Str → Option Value} (X : K.In h) (G : h.Ns mainGlobals mg) (e : zs[i]? = some (x, cs) := by rfl) : BaseC K mg x cs :=
  base_of X G (List.all_eq_true.mp (He.ba (He.ba (He.ba c).2).2).2 (x, cs) (List.mem_of_getElem? e))
end
/-! ### try: .. except a base class as n -/
def tRaise0W (K : Frag) (x : Str) (W : WX) : TS := fun _ σ H => W (.ref (He.ga K x)) none σ H
def tRaiseFW (K : Frag) (x : Str) (sp : Sp) (ta : TA) (W : WX) : TS := fun _ σ H => tMkO (He.ga K x) sp [] ta σ H fun cls d H' => W cls d σ H'
def tTryS (K : Frag) (cs : List Str) (i : Nat) (tb : WX → TS) (ts : Addr → Value → Option Addr → TS) : TS := fun D σ H => tb (fun cls d σ' H' => (∃ c ∈ cs, cls = .ref (He.ga K c)) ∧ ∀ a, H' a = none → ts a cls d { nx := fun σ2 H2 => D.nx (σ2.set i none) H2, rt := D.rt, bk := fun σ2 H2 => D.bk (σ2.set i none) H2, ct := fun σ2 H2 => D.ct (σ2.set i none) H2 } (σ'.set i (some (.ref a))) H') D σ H
theorem ps_tryS {X : Cx} {x n : Str} {i : Nat} {cs : List Str} {body suite : List Stmt} {b₀ : Stmt} {np pos pos' : Pos} {tb : WX → TS} {ts : Addr → Value → Option Addr → TS} (c : BaseC X.K X.mg x cs) (hs : X.stack = X.env :: X.outer) (hf : X.env.frame = some X.env.locals) (hN : X.N.Nodup) (hi : X.N[i]? = some n) (hln : X.env.kindOf n = some .local) (hc : L2.Gl X x) (tk : Takes X fun _ _ _ _ => False)
    (hb : ∀ (W : WX) (pn : List (Addr × Obj)) (xe : Value → Shared → Prop), Takes (X.tr pn xe) W → PassesOwn (model X.prog X.w) X.A X.env xe → PSs (X.tr pn xe) body (tb W))
    (hsu : ∀ (a : Addr) (oe : Obj) (cls : Value) (d : Option Addr) (pn : List (Addr × Obj)), Zc cls d oe → (∃ vs, oe.data = .fields vs) → PSs (X.suite a ((a, oe) :: pn)) (b₀ :: suite) (ts a cls d)) (hdb : (x == ("__debug__" : Str)) = false := by decide) :
    PS X (.Try body [.ExceptHandler (some (.Name x np)) (some n) (b₀ :: suite) pos'] [] [] pos) (tTryS X.K cs i tb ts) := by
  have h := ps_try_as (X := X) (i := i) (n := n) (np := np) (pos := pos) (pos' := pos') (tb := fun W D σ H => ∃ W1 : WX, (∀ cls d σ' H', W1 cls d σ' H' → W cls d σ' H') ∧ tb W1 D σ H) (ts := ts) (Wout := fun _ _ _ _ => False) hs hf hN hi hln ⟨hc, hdb, .inl c.g⟩ tk (fun W pn xe tk1 ps => ⟨fun pins s σ H D I ⟨W1, sub, h⟩ => (hb W1 pn xe (fun u s' e => tk1 u s' (by
    obtain ⟨a, B, sI, pins', σ', H', cls, d, r0, J', nb, up, sky, na, os, ag, w⟩ := e
    exact ⟨a, B, sI, pins', σ', H', cls, d, r0, J', nb, up, sky, na, os, ag, sub _ _ _ _ w⟩)) ps).run pins s σ H D I h⟩) hsu
  refine ⟨fun pins s σ H D I h0 => h.run pins s σ H D I ⟨_, ?_, h0⟩⟩
  rintro cls d σ' H' ⟨⟨y, hy, e⟩, h1⟩
  subst e
  exact ⟨true, c.me y hy, fun _ a ha => h1 a ha, fun q => nomatch q⟩
end Slip
/-! law_k00: errors -/
namespace Slip
open PySem PySem.Spec PyProof.Rows L2
theorem q_forL0 {ρ ρw : Rl} {K : Frag} {σ : L2.St} {H : Hp} {te : TE} {D : Ends} {tz tu : TS} {g : TG} {R0 : V → Hp → Prop} (h : Ev ρ te σ H R0) (k : ∀ v H1, ρ.r H H1 → R0 v H1 → ∃ p xs, v = .ref p ∧ H1 p = some (.lst xs) ∧ ¬ ρw.S p ∧ ∃ Pv : Nat → L2.St → Hp → Prop, Pv 0 σ H1 ∧ (∀ i σ' H', i ≤ xs.length → Pv i σ' H' → ρw.r H1 H') ∧
    (∀ i x σ' H' H'', i < xs.length → Pv i σ' H' → YAt xs i H' x H'' → g x σ' H'' fun σ2 H2 => tu { D with nx := Pv (i + 1), ct := Pv (i + 1), bk := tz D } σ2 H2) ∧ ∀ σ' H', Pv xs.length σ' H' → tz D σ' H') : tSeq (tFor (iSeq K te) g tu) tz D σ H :=
  .inl (h H .rfl _ fun v H1 e1 r0 => by
    obtain ⟨p, xs, ev, hp, nS, Pv, h0, hr, hs, hd⟩ := k v H1 e1 r0
    exact ⟨p, ev, ⟨xs, .of hp⟩, for_it (D := { D with nx := tz D }) (walk_list.mono (G' := fun H3 => ρw.r H1 H3) (fun H3 e3 => .of (e3.keep _ _ nS hp)) fun _ _ _ _ _ _ y => y) Pv h0 hr hs hd⟩)
theorem ev_catLX0 {ρ : Rl} {K : Frag} {σ : L2.St} {H : Hp} {ta tb : TE} {xs : List V} {C : List V → Prop} (own : Own ρ H) (h1 : Ev ρ ta σ H (fun v H2 => ∃ p, v = .ref p ∧ ¬ ρ.S p ∧ H2 p = some (.lst xs))) (h2 : ∀ H1, ρ.r H H1 → Ev ρ tb σ H1 (fun v H2 => ∃ p ys, v = .ref p ∧ H2 p = some (.lst ys) ∧ xs.length + ys.length ≤ 100000 ∧ C ys)) :
    Ev ρ (tOp (rAddU K) ta tb) σ H (fun v H2 => ∃ p ys, v = .ref p ∧ ¬ ρ.S p ∧ H p = none ∧ H2 p = some (.lst (xs ++ ys)) ∧ C ys) := fun H1 e1 Q q =>
  h1 H1 e1 _ fun x H2 e2 ⟨p, ex, nS, hp⟩ => h2 H2 (e1.trans e2) H2 .rfl _ fun y H3 e3 ⟨r, ys, ey, hr, hz, hC⟩ => by
    subst ex ey
    exact .inr (.inr (.inr ⟨p, r, xs, ys, rfl, rfl, e3.keep _ _ nS hp, hr, Evl.sz_of hz, fun l hl => q _ _ ((e2.trans e3).trans (r_new _ hl)) ⟨l, ys, rfl, (((own.r e1).r e2).r e3).fresh hl, ((e1.trans e2).trans e3).back l hl, upd_same, hC⟩⟩))
def errs : List Str := ["BadValue", "BadText", "BadPaper", "NotMeant", "NoWord", "Mixed", "TooMany"]
abbrev isX : List Str := errs
def isOwn : List IsQz := errs.flatMap fun x => errs.map fun y => (x, .inl y, decide (x = y))
def isBase : List IsQz := errs.map fun x => (x, .inl "SlipError", true)
def isT (T : String) (b : Bool) : List IsQz := errs.map fun x => (x, .inr T, b)
def isK : List IsQz := isOwn ++ (isBase ++ (isT "ValueError" false ++ (isT "LookupError" false ++ (isT "ArithmeticError" false ++ isT "Exception" true))))
/-- what isinstance answers -/
structure IsF (K : Frag) : Prop where
  x : ∀ x ∈ isX, L2.ExcC K (He.ga K x)
  k : ∀ z ∈ isK, PySem.W.kitOne K (.ref (He.ga K z.1)) (cvOf K z.2.1) = some z.2.2
section
variable {K : Frag} {x y : Str}
theorem IsF.own (f : IsF K) (hx : x ∈ errs) (hy : y ∈ errs) : PySem.W.kitOne K (.ref (He.ga K x)) (.ref (He.ga K y)) = some (decide (x = y)) :=
  f.k (x, .inl y, decide (x = y)) (List.mem_append_left _ (List.mem_flatMap.mpr ⟨x, hx, List.mem_map.mpr ⟨y, hy, rfl⟩⟩))
theorem IsF.base (f : IsF K) (hx : x ∈ errs) : PySem.W.kitOne K (.ref (He.ga K x)) (.ref (He.ga K "SlipError")) = some true :=
  f.k (x, .inl "SlipError", true) (List.mem_append_right _ (List.mem_append_left _ (List.mem_map.mpr ⟨x, hx, rfl⟩)))
theorem IsF.t1 (f : IsF K) (hx : x ∈ errs) : PySem.W.kitOne K (.ref (He.ga K x)) (.type "ValueError") = some false :=
  f.k (x, .inr "ValueError", false) (List.mem_append_right _ (List.mem_append_right _ (List.mem_append_left _ (List.mem_map.mpr ⟨x, hx, rfl⟩))))
theorem IsF.t2 (f : IsF K) (hx : x ∈ errs) : PySem.W.kitOne K (.ref (He.ga K x)) (.type "LookupError") = some false :=
  f.k (x, .inr "LookupError", false) (List.mem_append_right _ (List.mem_append_right _ (List.mem_append_right _ (List.mem_append_left _ (List.mem_map.mpr ⟨x, hx, rfl⟩)))))
theorem IsF.t3 (f : IsF K) (hx : x ∈ errs) : PySem.W.kitOne K (.ref (He.ga K x)) (.type "ArithmeticError") = some false :=
  f.k (x, .inr "ArithmeticError", false) (List.mem_append_right _ (List.mem_append_right _ (List.mem_append_right _ (List.mem_append_right _ (List.mem_append_left _ (List.mem_map.mpr ⟨x, hx, rfl⟩))))))
theorem IsF.t4 (f : IsF K) (hx : x ∈ errs) : PySem.W.kitOne K (.ref (He.ga K x)) (.type "Exception") = some true :=
  f.k (x, .inr "Exception", true) (List.mem_append_right _ (List.mem_append_right _ (List.mem_append_right _ (List.mem_append_right _ (List.mem_append_right _ (List.mem_map.mpr ⟨x, hx, rfl⟩))))))
end
/-! ### _law_of, _law_foreign -/
def sp__law_of (K : Frag) : Sp := fun vs H Q _ => ∃ (a : Addr) (x : Str) (fs : List (Str × V)), vs = [.ref a] ∧ x ∈ errs ∧ ErrAt H a (He.ga K x) fs ∧ ∀ p H', H p = none → Ext H H' → H' p = some (.lst (errs.map fun y => .bl (decide (x = y)))) → Q (.ref p) H'
theorem len__law_of {K : Frag} {vs : List V} {H : Hp} {Q : VK} {E : XK} (h : sp__law_of K vs H Q E) : vs.length = 1 := by
  obtain ⟨a, x, fs, rfl, _⟩ := h
  rfl
def t__law_of (K : Frag) : TS := (tSeq (tAsg (tLst (tCons (tCB (rIsX K) (tCons (tVar 0) (tCons (tC (.ref (He.ga K "BadValue"))) tNil))) (tCons (tCB (rIsX K) (tCons (tVar 0) (tCons (tC (.ref (He.ga K "BadText"))) tNil))) (tCons (tCB (rIsX K) (tCons (tVar 0) (tCons (tC (.ref (He.ga K "BadPaper"))) tNil))) (tCons (tCB (rIsX K) (tCons (tVar 0) (tCons (tC (.ref (He.ga K "NotMeant"))) tNil))) tNil))))) (gName 1)) (tRet (tOp (rAddU K) (tVar 1) (tLst (tCons (tCB (rIsX K) (tCons (tVar 0) (tCons (tC (.ref (He.ga K "NoWord"))) tNil))) (tCons (tCB (rIsX K) (tCons (tVar 0) (tCons (tC (.ref (He.ga K "Mixed"))) tNil))) (tCons (tCB (rIsX K) (tCons (tVar 0) (tCons (tC (.ref (He.ga K "TooMany"))) tNil))) tNil)))))))
theorem noS {b : Addr} : ¬ exR.S b := fun z => z
theorem pure__law_of {K : Frag} (fx : ∀ x ∈ isX, L2.ExcC K (He.ga K x)) (fk : ∀ z ∈ isK, PySem.W.kitOne K (.ref (He.ga K z.1)) (cvOf K z.2.1) = some z.2.2) (vs : List V) (H : Hp) (Q : VK) (E : XK) (h : sp__law_of K vs H Q E) : t__law_of K { nx := fun _ H' => Q .non H', rt := Q } (start ["value", "made"] vs) H := by
  obtain ⟨a, x, fs, rfl, hx, he, k⟩ := h
  have F : IsF K := ⟨fx, fk⟩
  have is : ∀ {H1 : Hp} {σ : L2.St} (y : Str), y ∈ errs → exR.r H H1 → σ[0]? = some (some (.ref a)) → EvV exR (tCB (rIsX K) (tCons (tVar 0) (tCons (tC (.ref (He.ga K y))) tNil))) σ H1 (.bl (decide (x = y))) := fun {H1 σ} y hy e1 hσ =>
    ev_isX (ev_var hσ) ev_c (fun u h => h) (F.x x hx) (fun H2 e2 => he.r (e1.trans e2) fun _ _ _ _ => noS) (F.own hx hy)
  refine q_asg (ρ := exR) (R := fun v H' => ∃ p, v = .ref p ∧ H' p = some (.lst ((["BadValue", "BadText", "BadPaper", "NotMeant"] : List Str).map fun y => .bl (decide (x = y))))) ((ev_lstN (xs := (["BadValue", "BadText", "BadPaper", "NotMeant"] : List Str).map fun y => .bl (decide (x = y))) own_ex (ea_cons (is "BadValue" (by decide +kernel) .rfl rfl) (ea_cons (is "BadText" (by decide +kernel) .rfl rfl) (ea_cons (is "BadPaper" (by decide +kernel) .rfl rfl) (ea_cons (is "NotMeant" (by decide +kernel) .rfl rfl) ea_nil)))) (by show 4 ≤ 100000; decide)).imp fun v H1 _ ⟨p, ev, _, hp⟩ => ⟨p, ev, hp⟩) fun v H1 e1 ⟨p, ev, hp⟩ => ?_
  subst ev
  refine s_ret (ρ := exR) (ev_catLX0 (C := fun ys => ys = (["NoWord", "Mixed", "TooMany"] : List Str).map fun y => .bl (decide (x = y))) own_ex ((ev_var (v := .ref p) rfl).imp fun v H2 e2 ev => ⟨p, ev, noS, e2.ext _ _ hp⟩) fun H2 e2 => (ev_lstN (xs := (["NoWord", "Mixed", "TooMany"] : List Str).map fun y => .bl (decide (x = y))) own_ex (ea_cons (is "NoWord" (by decide +kernel) (e1.trans e2) rfl) (ea_cons (is "Mixed" (by decide +kernel) (e1.trans e2) rfl) (ea_cons (is "TooMany" (by decide +kernel) (e1.trans e2) rfl) ea_nil))) (by show 3 ≤ 100000; decide)).imp fun v H3 _ ⟨q, ev, _, hq⟩ => ⟨q, _, ev, hq, by show 4 + 3 ≤ 100000; decide, rfl⟩) fun v H2 e2 ⟨q, ys, ev, _, hq0, hq, eys⟩ => ?_
  subst ev eys
  exact k q H2 (e1.back q hq0) (e1.trans e2).ext hq
def sp__law_foreign (K : Frag) : Sp := fun vs H Q _ => ∃ (a : Addr) (x : Str) (fs : List (Str × V)), vs = [.ref a] ∧ x ∈ errs ∧ ErrAt H a (He.ga K x) fs ∧ ∀ H', Ext H H' → Q (.bl false) H'
theorem len__law_foreign {K : Frag} {vs : List V} {H : Hp} {Q : VK} {E : XK} (h : sp__law_foreign K vs H Q E) : vs.length = 1 := by
  obtain ⟨a, x, fs, rfl, _⟩ := h
  rfl
def t__law_foreign (K : Frag) : TS := (tSeq (tIfS (tOr (tB (tCB (rIsX K) (tCons (tVar 0) (tCons (tC (.ty "ValueError")) tNil)))) (tB (tCB (rIsX K) (tCons (tVar 0) (tCons (tC (.ty "LookupError")) tNil))))) (tRet (tC (.bl true))) tNext) (tRet (tOrV (tCB (rIsX K) (tCons (tVar 0) (tCons (tC (.ty "ArithmeticError")) tNil))) (tNotV (tCB (rIsX K) (tCons (tVar 0) (tCons (tC (.ty "Exception")) tNil)))))))
theorem pure__law_foreign {K : Frag} (fx : ∀ x ∈ isX, L2.ExcC K (He.ga K x)) (fk : ∀ z ∈ isK, PySem.W.kitOne K (.ref (He.ga K z.1)) (cvOf K z.2.1) = some z.2.2) (vs : List V) (H : Hp) (Q : VK) (E : XK) (h : sp__law_foreign K vs H Q E) : t__law_foreign K { nx := fun _ H' => Q .non H', rt := Q } (start ["value"] vs) H := by
  obtain ⟨a, x, fs, rfl, hx, he, k⟩ := h
  have F : IsF K := ⟨fx, fk⟩
  have is : ∀ {H1 : Hp} (T : String) (b : Bool), PySem.W.kitOne K (.ref (He.ga K x)) (.type T) = some b → exR.r H H1 → EvV exR (tCB (rIsX K) (tCons (tVar 0) (tCons (tC (.ty T)) tNil))) [some (.ref a)] H1 (.bl b) := fun {H1} T b hk e1 =>
    ev_isX (ev_var rfl) ev_c (fun u h => h) (F.x x hx) (fun H2 e2 => he.r (e1.trans e2) fun _ _ _ _ => noS) hk
  refine q_when (ρ := exR) (b := false) ((et_or (a := false) (b := false) (et_B (is _ _ (F.t1 hx) .rfl)) fun _ => et_B (is _ _ (F.t2 hx) .rfl)).to rfl) (fun hb => by cases hb) fun _ H1 e1 => ?_
  exact s_retV (ρ := exR) (v := .bl false) (ev_orV (a := false) (b := false) (is _ _ (F.t3 hx) e1) fun _ => ev_notV (is _ _ (F.t4 hx) e1)) fun H2 e2 => k H2 (e1.trans e2).ext
/-! ### _law_caught -/
def sp__law_caught (K : Frag) : Sp := fun vs H Q _ => ∃ i : Int, vs = [.int i] ∧ ∀ H', Ext H H' → Q (.bl (!decide (i = 0))) H'
theorem len__law_caught {K : Frag} {vs : List V} {H : Hp} {Q : VK} {E : XK} (h : sp__law_caught K vs H Q E) : vs.length = 1 := by
  obtain ⟨i, rfl, _⟩ := h
  rfl
def t__law_caught (K : Frag) : TS := (tTryS K ["TooMany", "NotMeant"] 1 (fun W => (tSeq (tIfS (tTest (tOp (rEqU K) (tVar 0) (tC (.int 0)))) (tRaise0W K "TooMany" W) tNext) (tRaiseFW K "NotMeant" (sp_init1 K "NotMeant" "text") (tCons (tC (.str "a")) tNil) W))) (fun a0 cls0 d0 => (tRet (tCB (rIsS K cls0 d0 a0) (tCons (tVar 1) (tCons (tC (.ref (He.ga K "NotMeant"))) tNil))))))
theorem pure__law_caught {K : Frag} (fx : ∀ x ∈ isX, L2.ExcC K (He.ga K x)) (fk : ∀ z ∈ isK, PySem.W.kitOne K (.ref (He.ga K z.1)) (cvOf K z.2.1) = some z.2.2) (vs : List V) (H : Hp) (Q : VK) (E : XK) (h : sp__law_caught K vs H Q E) : t__law_caught K { nx := fun _ H' => Q .non H', rt := Q } (start ["at", "wrong"] vs) H := by
  obtain ⟨i, rfl, k⟩ := h
  have F : IsF K := ⟨fx, fk⟩
  refine q_when (ρ := exR) (b := decide (i = 0)) (et_test (ev_eqI (ev_var (i := 0) (v := .int i) rfl) ev_c)) (fun hb H1 e1 => ?_) (fun hb H1 e1 => ?_)
  · refine ⟨⟨"TooMany", by simp, rfl⟩, fun a ha => ?_⟩
    refine s_retV (ρ := exR) (v := .bl false) (ev_cbV (ea_cons (ev_var (i := 1) (v := .ref a) rfl) (ea_cons ev_c ea_nil)) fun H2 e2 Q' q' => ⟨He.ga K "TooMany", .ref (He.ga K "NotMeant"), _, false, rfl, fun u h => h, rfl, F.x _ (by decide +kernel), .inl rfl, F.own (x := "TooMany") (y := "NotMeant") (by decide +kernel) (by decide +kernel), q' _ H2 .rfl rfl⟩) fun H2 e2 => ?_
    have := k H2 (e1.trans e2).ext
    rw [hb] at this
    exact this
  · refine s_raise1 (D := { nx := fun _ H' => Q .non H', rt := Q }) (ev_c (v := .str "a")) fun d H2 hd e2 hx => ⟨⟨"NotMeant", by simp, rfl⟩, fun a ha => ?_⟩
    refine s_retV (ρ := exR) (v := .bl true) (ev_cbV (ea_cons (ev_var (i := 1) (v := .ref a) rfl) (ea_cons ev_c ea_nil)) fun H3 e3 Q' q' => ⟨He.ga K "NotMeant", .ref (He.ga K "NotMeant"), _, true, rfl, fun u h => h, rfl, F.x _ (by decide +kernel), .inr ⟨d, _, rfl, e3.ext _ _ hx⟩, F.own (x := "NotMeant") (y := "NotMeant") (by decide +kernel) (by decide +kernel), q' _ H3 .rfl rfl⟩) fun H3 e3 => ?_
    have := k H3 (e1.trans (e2.trans e3)).ext
    rw [hb] at this
    exact this
/-! ### the law's lists of errors -/
/-- v is an error of the class x with these fields -/
def EP (K : Frag) (ra sp : Addr) (x : Str) (fs : List (Str × V)) : V → Hp → Prop := fun v H => Dr K ra sp H ∧ ∃ a, v = .ref a ∧ ErrAt H a (He.ga K x) fs
theorem ErrAt.sp {K : Frag} {ra sp a C : Addr} {H H' : Hp} {fs : List (Str × V)} (h : ErrAt H a C fs) (dr : Dr K ra sp H) (e : (spR sp).r H H') : ErrAt H' a C fs := h.r e fun b o hb ⟨φ, eo⟩ z => by
  obtain ⟨k0, _, q⟩ := dr.2.1
  have : b = sp := z
  rw [this, q] at hb
  cases hb
  cases eo
theorem EP.r {K : Frag} {ra sp : Addr} {x : Str} {fs : List (Str × V)} : ∀ v H1 H2, (spR sp).r H1 H2 → EP K ra sp x fs v H1 → EP K ra sp x fs v H2 := fun v H1 H2 e ⟨dr, a, ev, h⟩ => ⟨dr.sp e, a, ev, h.sp dr e⟩
def EAll (K : Frag) (ra sp : Addr) (H : Hp) : List V → List (Str × List (Str × V)) → Prop
  | [], [] => True
  | v :: vs, x :: xs => EP K ra sp x.1 x.2 v H ∧ EAll K ra sp H vs xs
  | _, _ => False
section
variable {K : Frag} {ra sp : Addr} {σ : L2.St} {H : Hp} {ta : TE} {tr : TA}
theorem EAll.r {H' : Hp} (e : (spR sp).r H H') : ∀ {vs : List V} {xs : List (Str × List (Str × V))}, EAll K ra sp H vs xs → EAll K ra sp H' vs xs
  | [], [], _ => trivial
  | v :: vs, x :: xs, ⟨h1, h2⟩ => ⟨EP.r _ _ _ e h1, EAll.r e h2⟩
  | [], _ :: _, h => h.elim
  | _ :: _, [], h => h.elim
theorem EAll.len : ∀ {vs : List V} {xs : List (Str × List (Str × V))}, EAll K ra sp H vs xs → vs.length = xs.length
  | [], [], _ => rfl
  | v :: vs, x :: xs, ⟨_, h2⟩ => congrArg Nat.succ (EAll.len h2)
  | [], _ :: _, h => h.elim
  | _ :: _, [], h => h.elim
theorem EAll.get : ∀ {vs : List V} {xs : List (Str × List (Str × V))} {i : Nat} {v : V}, EAll K ra sp H vs xs → vs[i]? = some v → ∃ x, xs[i]? = some x ∧ EP K ra sp x.1 x.2 v H
  | v :: vs, x :: xs, 0, u, ⟨h1, _⟩, h => by cases h; exact ⟨x, rfl, h1⟩
  | v :: vs, x :: xs, i + 1, u, ⟨_, h2⟩, h => EAll.get (i := i) h2 h
  | [], _, _, _, _, h => by cases h
  | _ :: _, [], _, _, h, _ => h.elim
theorem ea_nilE : EvA (spR sp) tNil σ H (fun vs H' => EAll K ra sp H' vs []) := fun H1 _ _ q => q [] H1 .rfl trivial
theorem ea_consE {x : Str} {fs : List (Str × V)} {xs : List (Str × List (Str × V))} (h : Ev (spR sp) ta σ H (EP K ra sp x fs)) (hr : ∀ H1, (spR sp).r H H1 → EvA (spR sp) tr σ H1 (fun vs H' => EAll K ra sp H' vs xs)) : EvA (spR sp) (tCons ta tr) σ H (fun vs H' => EAll K ra sp H' vs ((x, fs) :: xs)) := fun H1 e _ q =>
  h H1 e _ fun v H2 e2 pv => hr H2 (e.trans e2) H2 .rfl _ fun ws H3 e3 pw => q _ H3 (e2.trans e3) ⟨EP.r _ _ _ e3 pv, pw⟩
theorem ev_ep {x : Str} {fs : List (Str × V)} (dr : Dr K ra sp H) (h : Ev (spR sp) ta σ H (fun w H' => ∃ a, w = .ref a ∧ ErrAt H' a (He.ga K x) fs)) : Ev (spR sp) ta σ H (EP K ra sp x fs) := h.imp fun v H' e p => ⟨dr.sp e, p⟩
/-- for made in [..]: each of them is asked the same -/
theorem q_forE {te : TA} {xs : List (Str × List (Str × V))} {D : Ends} {tz tu : TS} {m : Nat} (dr : Dr K ra sp H) (h : EvA (spR sp) te σ H (fun vs H' => EAll K ra sp H' vs xs)) (hl : xs.length ≤ 1000)
    (hb : ∀ (x : Str) (fs : List (Str × V)), (x, fs) ∈ xs → ∀ (D' : Ends) (a : Addr) (H' : Hp), (spR sp).r H H' → ErrAt H' a (He.ga K x) fs → D'.rt = D.rt → (∀ H'', (spR sp).r H' H'' → D'.nx (σ.set m (some (.ref a))) H'') → tu D' (σ.set m (some (.ref a))) H')
    (k : ∀ u H', (spR sp).r H H' → tz D (σ.set m u) H') (h0 : ∃ u, σ[m]? = some u) : tSeq (tFor (iSeq K (tLst te)) (gName m) tu) tz D σ H := by
  have e0 : ∃ u, σ = σ.set m u := by
    obtain ⟨u, z⟩ := h0
    exact ⟨u, by obtain ⟨h, e⟩ := List.getElem?_eq_some_iff.mp z; rw [← e]; exact (List.set_getElem_self h).symm⟩
  obtain ⟨u0, e0⟩ := e0
  have setset : ∀ u v, (σ.set m u).set m v = σ.set m v := fun u v => List.set_set ..
  refine q_forL0 (ρ := spR sp) (ρw := spR sp) (R0 := fun v H' => ∃ p vs, v = .ref p ∧ ¬ (spR sp).S p ∧ H' p = some (.lst vs) ∧ EAll K ra sp H' vs xs) ((ev_lst h fun vs H1 _ e => by rw [e.len]; omega).imp fun v H1 r ⟨p, vs, H2, ev, ha, hp, r2, eH⟩ => ?_) fun v H1 e1 ⟨p, vs, ev, nS, hp, ha⟩ => ⟨p, vs, ev, hp, nS, fun i σ' H' => (spR sp).r H1 H' ∧ ∃ u, σ' = σ.set m u, ⟨.rfl, u0, e0⟩, fun i σ' H' _ q => q.1, ?_, ?_⟩
  · subst ev
    have r3 : (spR sp).r H2 (upd H2 p (.lst vs)) := r_new _ hp
    exact ⟨p, vs, rfl, (own_sp (dr.sp r2)).fresh hp, by rw [eH]; exact upd_same, by rw [eH]; exact ha.r r3⟩
  · rintro i x σ' H' H'' hi ⟨r, u, rfl⟩ ⟨eH, hx⟩
    subst eH
    obtain ⟨y, hy, dry, a, ex, he⟩ := ha.get hx
    subst ex
    have dr1 := dr.sp e1
    have := hb y.1 y.2 (List.mem_of_getElem? hy) { D with nx := fun σ' H' => (spR sp).r H1 H' ∧ ∃ u, σ' = σ.set m u, ct := fun σ' H' => (spR sp).r H1 H' ∧ ∃ u, σ' = σ.set m u, bk := tz D } a H'' (e1.trans r) (he.sp dr1 r) rfl fun H3 e3 => ⟨r.trans e3, _, rfl⟩
    show tu _ ((σ.set m u).set m (some (.ref a))) H''
    rw [setset]
    exact this
  · rintro σ' H' ⟨r, u, rfl⟩
    exact k u H' (e1.trans r)
end
end Slip
/-! law_k00: the law -/
namespace Slip
open PySem PySem.Spec PyProof.Rows L2
theorem soSame8 {K : Frag} {ρ' : Rl} {σ : L2.St} {ta tb : TE} {H6 : Hp} {E : XK} {P : PyData → Prop} (h1 : Ev ρ' ta σ H6 (fun v H' => ∃ d, P d ∧ DS exR H' v d)) (h2 : ∀ H7, ρ'.r H6 H7 → Ev ρ' tb σ H7 (fun v H' => ∃ d, P d ∧ DS exR H' v d)) (hu : ∀ d e, P d → P e → d = e) (hd : ∀ d, P d → noList d = true ∧ soD d d = true ∧ Sm d ∧ d.depth < 8) : EvV ρ' (tCall (sp__law_so K 8) [] E (tCons ta (tCons tb tNil))) σ H6 (.bl true) :=
  ev_callR (sp := sp__law_so K 8) (ea_consR (Ra := fun v H' => ∃ d, P d ∧ DS exR H' v d) (Rr := fun x ws H' => ∃ y d, ws = [y] ∧ P d ∧ DS exR H' x d ∧ DS exR H' y d) h1 fun x H7 e7 ⟨d, hP, hx⟩ => (ea_one (h2 H7 e7)).imp fun ws H8 e8 ⟨y, ew, e, hP2, hy⟩ => ⟨y, d, ew, hP, hx.tups e8.tup _ _ (hd d hP).1, by rw [hu d e hP hP2]; exact hy⟩) fun vs H7 e7 ⟨x, ws, ev, y, d, ew, hP, hx, hy⟩ => by
    subst ev ew
    obtain ⟨n1, n2, n3, n4⟩ := hd d hP
    exact fun H8 e8 Q' q' E' => ⟨x, y, d, d, rfl, hx.tups e8.tup _ _ n1, hy.tups e8.tup _ _ n1, n3, n4, fun H' e => q' _ H' (Ext.r e) (by rw [n2])⟩
theorem ev_neD0 {ρ : Rl} {K : Frag} {σ : L2.St} {H : Hp} {ta tb : TE} {d e : PyData} (h1 : Ev ρ ta σ H (fun v H' => DS ρ H' v d)) (h2 : ∀ H1, ρ.r H H1 → Ev ρ tb σ H1 (fun v H' => DS ρ H' v e)) (sd : SeqAt.shaped d = true) (se : SeqAt.shaped e = true) : EvV ρ (tOp (rNeU K) ta tb) σ H (.bl (!PyData.eqv d e)) :=
  ev_op2 h1 (fun x' H1 e1 _ => h2 H1 e1) fun x' y' H1 H2 e1 e2 hx hy H3 e3 Q q => .inr ⟨d, e, ((e2.trans e3).ds hx).dp _ _, (e3.ds hy).dp _ _, sd, se, q _ H3 .rfl rfl⟩
theorem bl_dss {α : Type} {ρ : Rl} {H : Hp} (g : α → Bool) : ∀ l : List α, DSs ρ H (l.map fun y => V.bl (g y)) (l.map fun y => .bool (g y))
  | [] => .nil
  | a :: l => .cons (.bl _) (bl_dss g l)
theorem ofs_eq : ∀ i : Fin 7, PyData.eqv (.list (errs.map fun y => .bool (decide ((errs[i.val]?).getD "" = y)))) (.list ((List.range 7).map fun j : Nat => .bool (decide ((j : Int) = (i.val : Int))))) = true := by decide +kernel
theorem ofs_sh1 : ∀ i : Fin 7, SeqAt.shaped (.list (errs.map fun y => .bool (decide ((errs[i.val]?).getD "" = y)))) = true := by decide +kernel
theorem ofs_sh2 : ∀ i : Fin 7, SeqAt.shaped (.list ((List.range 7).map fun j : Nat => .bool (decide ((j : Int) = (i.val : Int))))) = true := by decide +kernel
/-- what the head tells of the fields -/
structure LawF (K : Frag) : Prop where
  at3 : ∀ x ∈ (["BadValue", "BadText", "BadPaper"] : List Str), XfC K (He.ga K x) ∧ PySem.W.findIn K (.ref (He.ga K x)) "at" = some none
  tx : XfC K (He.ga K "NotMeant") ∧ PySem.W.findIn K (.ref (He.ga K "NotMeant")) "text" = some none
  wd : XfC K (He.ga K "NoWord") ∧ PySem.W.findIn K (.ref (He.ga K "NoWord")) "word" = some none
  mx : XfC K (He.ga K "Mixed") ∧ PySem.W.findIn K (.ref (He.ga K "Mixed")) "word" = some none ∧ PySem.W.findIn K (.ref (He.ga K "Mixed")) "text" = some none
  f : IsF K
abbrev OthP (sp : Addr) : V → Hp → Prop := fun v H => ∃ d, DS (spR sp) H v d ∧ noList d = true ∧ soD d d = true ∧ Sm d ∧ d.depth < 8
theorem othP_r {sp : Addr} : ∀ v H1 H2, (spR sp).r H1 H2 → OthP sp v H1 → OthP sp v H2 := fun v H1 H2 e ⟨d, h, r⟩ => ⟨d, e.ds h, r⟩
theorem so_int (i : Int) : soD (.int i) (.int i) = true := so_self _ rfl
end Slip
namespace K00
open PySem PySem.Spec PyProof.Rows L2 Slip
def sp_law (K : Frag) : Sp := fun vs H Q _ => ∃ (a : Addr) (ns : List Int), vs = [.ref a] ∧ SqL K H a (ns.map V.int) ∧ ns.length ≤ 63 ∧ ∀ H', Q (.bl true) H'
theorem len_law {K : Frag} {vs : List V} {H : Hp} {Q : VK} {E : XK} (h : sp_law K vs H Q E) : vs.length = 1 := by
  obtain ⟨a, ns, rfl, _⟩ := h
  rfl
def t_law (K : Frag) : TS := (tSeq (tAsg (tCall (sp__law_numbers K) [] E0 (tCons (tVar 0) tNil)) (gName 1)) (tSeq (tAsg (tLst (tCons (tC (.int 0)) tNil)) (gName 2)) (tSeq (tAsg (tOp rSubI (tCall (sp__law_take K) [] E0 (tCons (tVar 1) (tCons (tVar 2) (tCons (tC (.int 997)) tNil)))) (tC (.int 9))) (gName 3)) (tSeq (tAsg (tIxU K (tLst (tCons (tC .non) (tCons (tUn rNegI (tVar 3)) (tCons (tC (.str "x")) (tCons (tTup (tCons (tVar 3) (tCons (tC (.int 2)) tNil))) (tCons (tC (.bl true)) tNil)))))) (tCall (sp__law_take K) [] E0 (tCons (tVar 1) (tCons (tVar 2) (tCons (tC (.int 5)) tNil))))) (gName 4)) (tSeq (tFor (iSeq K (tLst (tCons (tMkV (He.ga K "BadValue") 1 0 (sp_init1 K "BadValue" "at") (fun us _ => us) (tCons (tVar 3) tNil) tNil) (tCons (tMkV (He.ga K "BadText") 1 0 (sp_init1 K "BadText" "at") (fun us _ => us) (tCons (tVar 3) tNil) tNil) (tCons (tMkV (He.ga K "BadPaper") 1 0 (sp_init1 K "BadPaper" "at") (fun us _ => us) (tCons (tVar 3) tNil) tNil) (tCons (tMkV (He.ga K "BadValue") 0 1 (sp_init1 K "BadValue" "at") (fun us ws => us ++ ws) tNil (tCons (tVar 3) tNil)) (tCons (tMkV (He.ga K "BadText") 0 1 (sp_init1 K "BadText" "at") (fun us ws => us ++ ws) tNil (tCons (tVar 3) tNil)) (tCons (tMkV (He.ga K "BadPaper") 0 1 (sp_init1 K "BadPaper" "at") (fun us ws => us ++ ws) tNil (tCons (tVar 3) tNil)) tNil)))))))) (gName 5) (tIfS (tNot (tB (tCall (sp__law_so K 8) [] E0 (tCons (tGetX K "at" (tVar 5)) (tCons (tVar 3) tNil))))) (tRet (tC (.bl false))) tNext)) (tSeq (tFor (iSeq K (tLst (tCons (tMkV (He.ga K "NotMeant") 1 0 (sp_init1 K "NotMeant" "text") (fun us _ => us) (tCons (tVar 4) tNil) tNil) (tCons (tMkV (He.ga K "NotMeant") 0 1 (sp_init1 K "NotMeant" "text") (fun us ws => us ++ ws) tNil (tCons (tVar 4) tNil)) tNil)))) (gName 5) (tIfS (tNot (tB (tCall (sp__law_so K 8) [] E0 (tCons (tGetX K "text" (tVar 5)) (tCons (tVar 4) tNil))))) (tRet (tC (.bl false))) tNext)) (tSeq (tFor (iSeq K (tLst (tCons (tMkV (He.ga K "NoWord") 1 0 (sp_init1 K "NoWord" "word") (fun us _ => us) (tCons (tVar 4) tNil) tNil) (tCons (tMkV (He.ga K "NoWord") 0 1 (sp_init1 K "NoWord" "word") (fun us ws => us ++ ws) tNil (tCons (tVar 4) tNil)) tNil)))) (gName 5) (tIfS (tNot (tB (tCall (sp__law_so K 8) [] E0 (tCons (tGetX K "word" (tVar 5)) (tCons (tVar 4) tNil))))) (tRet (tC (.bl false))) tNext)) (tSeq (tFor (iSeq K (tLst (tCons (tMkV (He.ga K "Mixed") 2 0 (sp_init2 K "Mixed" "word" "text") (fun us _ => us) (tCons (tC (.str "ab")) (tCons (tC (.str "a")) tNil)) tNil) (tCons (tMkV (He.ga K "Mixed") 0 2 (sp_init2 K "Mixed" "word" "text") (fun us ws => us ++ swp ws) tNil (tCons (tC (.str "a")) (tCons (tC (.str "ab")) tNil))) tNil)))) (gName 5) (tIfS (tNot (tB (tCall (sp__law_so K 8) [] E0 (tCons (tTup (tCons (tGetX K "word" (tVar 5)) (tCons (tGetX K "text" (tVar 5)) tNil))) (tCons (tTup (tCons (tC (.str "ab")) (tCons (tC (.str "a")) tNil))) tNil))))) (tRet (tC (.bl false))) tNext)) (tSeq (tAsg (tLst (tCons (tMkV (He.ga K "BadValue") 1 0 (sp_init1 K "BadValue" "at") (fun us _ => us) (tCons (tVar 3) tNil) tNil) (tCons (tMkV (He.ga K "BadText") 1 0 (sp_init1 K "BadText" "at") (fun us _ => us) (tCons (tVar 3) tNil) tNil) (tCons (tMkV (He.ga K "BadPaper") 1 0 (sp_init1 K "BadPaper" "at") (fun us _ => us) (tCons (tVar 3) tNil) tNil) (tCons (tMkV (He.ga K "NotMeant") 1 0 (sp_init1 K "NotMeant" "text") (fun us _ => us) (tCons (tVar 4) tNil) tNil) (tCons (tMkV (He.ga K "NoWord") 1 0 (sp_init1 K "NoWord" "word") (fun us _ => us) (tCons (tVar 4) tNil) tNil) (tCons (tMkV (He.ga K "Mixed") 2 0 (sp_init2 K "Mixed" "word" "text") (fun us _ => us) (tCons (tC (.str "a")) (tCons (tC (.str "b")) tNil)) tNil) (tCons (tMk0 K "TooMany") tNil)))))))) (gName 6)) (tSeq (tFor (iRng1 (tCons (tC (.int 7)) tNil)) (gName 7) (tIfS (tOr (tTest (tOp (rNeU K) (tCall (sp__law_of K) [] E0 (tCons (tIxU K (tVar 6) (tVar 7)) tNil)) (tLc (iRng1 (tCons (tC (.int 7)) tNil)) (gName 8) tYes (tOp (rEqU K) (tVar 8) (tVar 7)) [8]))) (tOr (tB (tCall (sp__law_foreign K) [] E0 (tCons (tIxU K (tVar 6) (tVar 7)) tNil))) (tNot (tB (tCB (rIsX K) (tCons (tIxU K (tVar 6) (tVar 7)) (tCons (tC (.ref (He.ga K "SlipError"))) tNil))))))) (tRet (tC (.bl false))) tNext)) (tRet (tAndV (tNotV (tCall (sp__law_caught K) [] E0 (tCons (tC (.int 0)) tNil))) (tCall (sp__law_caught K) [] E0 (tCons (tOp (rAddU K) (tC (.int 1)) (tCall (sp__law_take K) [] E0 (tCons (tVar 1) (tCons (tVar 2) (tCons (tC (.int 9)) tNil))))) tNil))))))))))))))
theorem pure_law {K : Frag} (LF : LawF K) (vs : List V) (H : Hp) (Q : VK) (E : XK) (h : sp_law K vs H Q E) : t_law K { nx := fun _ H' => Q .non H', rt := Q } (start ["script", "row", "spot", "at", "other", "made", "every", "k", "one"] vs) H := by
  obtain ⟨a, ns, rfl, hq, hl, k⟩ := h
  refine q_asg (ρ := exR) (R := fun v H' => ∃ (p : Addr) (ms : List Int), v = .ref p ∧ H' p = some (.lst (ms.map V.int)) ∧ ms ≠ []) (ev_call (ea_cons (ev_var rfl) ea_nil) fun H1 e1 Q' q' E' => ⟨a, ns, rfl, ext_sqL e1.ext hq, hl, fun p ms H' hp e hp' hm => q' _ H' (Ext.r e) ⟨p, ms, rfl, hp', hm⟩⟩) fun v H1 e1 ⟨ra, ms, ev, hra, hms⟩ => ?_
  subst ev
  refine q_asg (ρ := exR) (R := fun v H' => ∃ p, v = .ref p ∧ H1 p = none ∧ H' p = some (.lst [.int 0]) ∧ exR.r H1 H') ?_ fun v H2 e2 ⟨sp, ev, hsp0, hsp, _⟩ => ?_
  · refine (ev_lst (ea_cons (ev_c (v := .int 0)) ea_nil) fun vs H2 _ e => by rw [e]; show 1 ≤ 100000; decide).imp fun v H2 r ⟨p, vs, H3, ev, evs, hp, r3, eH⟩ => ?_
    subst ev evs
    exact ⟨p, rfl, r3.back p hp, by rw [eH]; exact upd_same, r⟩
  subst ev
  have nsp : ra ≠ sp := fun z => by rw [← z, hra] at hsp0; cases hsp0
  have dr2 : Dr K ra sp H2 := ⟨⟨ms, hms, .of (e2.ext _ _ hra)⟩, ⟨0, Int.le_refl _, hsp⟩, nsp⟩
  -- at
  refine q_asg (ρ := spR sp) (R := fun v _ => ∃ i : Int, v = .int i) (ev_opP (r := rSubI) (Pa := Below 997) (Pb := fun v => v = .int 9) (ev_take (ev_var rfl) (ev_var rfl) ev_c dr2 (by decide)) ev_c fun x y ⟨m, ex, _, _⟩ ey => by
    subst ex ey
    exact fun H5 e5 Q' q' => ⟨m, 9, rfl, rfl, q' _ H5 .rfl ⟨m - 9, rfl⟩⟩) fun v H3 e3 ⟨i, ev⟩ => ?_
  subst ev
  have dr3 := dr2.sp e3
  -- other
  refine q_asg (ρ := spR sp) (ev_pick (P := OthP sp) (n := 5) (N := 5) (own_sp dr3) othP_r ?_ (by decide) rfl fun H4 e4 => ev_take (ev_var rfl) (ev_var rfl) ev_c (dr3.sp e4) (by decide)) fun o H4 e4 ⟨d, hd, d1, d2, d3, d4⟩ => ?_
  · have dI : ∀ {te : TE} {σ5 : L2.St} {H5 : Hp} {j : Int}, EvV (spR sp) te σ5 H5 (.int j) → Ev (spR sp) te σ5 H5 (OthP sp) := fun {te σ5 H5 j} h => h.imp fun v H6 _ e => ⟨.int j, by rw [e]; exact .int _, rfl, so_int j, rfl, by show 0 < 8; decide⟩
    refine ea_consQ othP_r ((ev_c (v := .non)).imp fun v H6 _ e => ⟨.none, by rw [e]; exact .non, rfl, rfl, rfl, by decide⟩) fun _ _ => ea_consQ othP_r (dI (ev_neg (ev_var (i := 3) (v := .int i) rfl))) fun _ _ => ea_consQ othP_r ((ev_c (v := .str "x")).imp fun v H6 _ e => ⟨.str "x", by rw [e]; exact .str _, rfl, so_self _ (by decide +kernel), rfl, by decide⟩) fun _ _ => ea_consQ othP_r ((ev_tupDs Le.rfl (ea_consD Le.rfl ((ev_var (i := 3) (v := .int i) rfl).imp fun v H6 _ e => by rw [e]; exact .int i) fun _ _ => ea_consD Le.rfl ((ev_c (v := .int 2)).imp fun v H6 _ e => by rw [e]; exact .int 2) fun _ _ => ea_nilD) (by show 2 ≤ 100000; decide)).imp fun v H6 _ h => ⟨_, h, rfl, so_self _ rfl, sm_Sm rfl, by simp [PyData.depth, PyData.depthAll]⟩) fun _ _ => ea_consQ othP_r ((ev_c (v := .bl true)).imp fun v H6 _ e => ⟨.bool true, by rw [e]; exact .bl _, rfl, rfl, rfl, by decide⟩) fun _ _ => ea_nilP
  have dr4 := dr3.sp e4
  -- at of each
  refine q_forE (m := 5) (xs := [("BadValue", [("at", .int i)]), ("BadText", [("at", .int i)]), ("BadPaper", [("at", .int i)]), ("BadValue", [("at", .int i)]), ("BadText", [("at", .int i)]), ("BadPaper", [("at", .int i)])]) dr4 ?_ (by show 6 ≤ 1000; decide) (fun x fs hx D' b H5 e5 he hrt kn => ?_) (fun u H5 e5 => ?_) ⟨_, rfl⟩
  · have pos : ∀ {H5 : Hp} (x : Str), (spR sp).r H4 H5 → Ev (spR sp) (tMkV (He.ga K x) 1 0 (sp_init1 K x "at") (fun us _ => us) (tCons (tVar 3) tNil) tNil) [some (.ref a), some (.ref ra), some (.ref sp), some (.int i), some o, none, none, none, none] H5 (EP K ra sp x [("at", .int i)]) := fun {H5} x e5 => ev_ep (dr4.sp e5) (ev_mkA (vs := [.int i]) (us := []) (v := .int i) (ea_cons (ev_var rfl) ea_nil) ea_nil rfl rfl (by decide) fun _ => rfl)
    have kws : ∀ {H5 : Hp} (x : Str), (spR sp).r H4 H5 → Ev (spR sp) (tMkV (He.ga K x) 0 1 (sp_init1 K x "at") (fun us ws => us ++ ws) tNil (tCons (tVar 3) tNil)) [some (.ref a), some (.ref ra), some (.ref sp), some (.int i), some o, none, none, none, none] H5 (EP K ra sp x [("at", .int i)]) := fun {H5} x e5 => ev_ep (dr4.sp e5) (ev_mkA (vs := []) (us := [.int i]) (v := .int i) ea_nil (ea_cons (ev_var rfl) ea_nil) rfl rfl (by decide) fun _ => rfl)
    exact ea_consE (pos _ .rfl) fun _ f1 => ea_consE (pos _ f1) fun _ f2 => ea_consE (pos _ (f1.trans f2)) fun _ f3 => ea_consE (kws _ (f1.trans (f2.trans f3))) fun _ f4 => ea_consE (kws _ (f1.trans (f2.trans (f3.trans f4)))) fun _ f5 => ea_consE (kws _ (f1.trans (f2.trans (f3.trans (f4.trans f5))))) fun _ _ => ea_nilE
  · have hx' : x ∈ (["BadValue", "BadText", "BadPaper"] : List Str) ∧ fs = ([("at", V.int i)] : List (Str × V)) := by
      simp only [List.mem_cons, List.not_mem_nil, or_false, Prod.mk.injEq] at hx ⊢
      rcases hx with ⟨h1, h2⟩ | ⟨h1, h2⟩ | ⟨h1, h2⟩ | ⟨h1, h2⟩ | ⟨h1, h2⟩ | ⟨h1, h2⟩ <;> simp [h1, h2]
    obtain ⟨hx3, rfl⟩ := hx'
    obtain ⟨X1, X2⟩ := LF.at3 x hx3
    have dr5 := dr4.sp e5
    refine s_if (ρ := spR sp) (b := false) (et_not (a := true) (et_B ((ev_so (x := .int i) (y := .int i) (f := .int i) (w := .int i) (ev_getX (a := b) (ev_var rfl) X1 X2 (fun H6 e6 => he.sp dr5 e6) rfl) (ev_var rfl) (.int _) (.int _) rfl (by show 0 < 8; decide)).val (by rw [so_int])))) (fun h => by cases h) fun _ H6 e6 => kn H6 e6
  have dr5 := dr4.sp e5
  have hd5 := e5.ds hd
  show tSeq _ _ _ [some (.ref a), some (.ref ra), some (.ref sp), some (.int i), some o, u, none, none, none] H5
  -- text
  refine q_forE (m := 5) (xs := [("NotMeant", [("text", o)]), ("NotMeant", [("text", o)])]) dr5 ?_ (by show 2 ≤ 1000; decide) (fun x fs hx D' b H6 e6 he hrt kn => ?_) (fun u H6 e6 => ?_) ⟨_, rfl⟩
  · exact ea_consE (ev_ep dr5 (ev_mkA (vs := [o]) (us := []) (v := o) (ea_cons (ev_var rfl) ea_nil) ea_nil rfl rfl (by decide) fun _ => rfl)) fun _ f1 => ea_consE (ev_ep (dr5.sp f1) (ev_mkA (vs := []) (us := [o]) (v := o) ea_nil (ea_cons (ev_var rfl) ea_nil) rfl rfl (by decide) fun _ => rfl)) fun _ _ => ea_nilE
  · have hx' : x = ("NotMeant" : Str) ∧ fs = ([("text", o)] : List (Str × V)) := by
      simp only [List.mem_cons, List.not_mem_nil, or_false, Prod.mk.injEq] at hx
      rcases hx with h | h <;> exact h
    obtain ⟨rfl, rfl⟩ := hx'
    have dr6 := dr5.sp e6
    have hd6 := e6.ds hd5
    refine s_if (ρ := spR sp) (b := false) (et_not (a := true) (et_B ((ev_so (x := o) (y := o) (f := d) (w := d) (ev_getX (a := b) (ev_var rfl) LF.tx.1 LF.tx.2 (fun H7 e7 => he.sp dr6 e7) rfl) (ev_var rfl) hd6 hd6 d3 d4).val (by rw [d2])))) (fun h => by cases h) fun _ H7 e7 => kn H7 e7
  have dr6 := dr5.sp e6
  have hd6 := e6.ds hd5
  show tSeq _ _ _ [some (.ref a), some (.ref ra), some (.ref sp), some (.int i), some o, u, none, none, none] H6
  -- word
  refine q_forE (m := 5) (xs := [("NoWord", [("word", o)]), ("NoWord", [("word", o)])]) dr6 ?_ (by show 2 ≤ 1000; decide) (fun x fs hx D' b H7 e7 he hrt kn => ?_) (fun u H7 e7 => ?_) ⟨_, rfl⟩
  · exact ea_consE (ev_ep dr6 (ev_mkA (vs := [o]) (us := []) (v := o) (ea_cons (ev_var rfl) ea_nil) ea_nil rfl rfl (by decide) fun _ => rfl)) fun _ f1 => ea_consE (ev_ep (dr6.sp f1) (ev_mkA (vs := []) (us := [o]) (v := o) ea_nil (ea_cons (ev_var rfl) ea_nil) rfl rfl (by decide) fun _ => rfl)) fun _ _ => ea_nilE
  · have hx' : x = ("NoWord" : Str) ∧ fs = ([("word", o)] : List (Str × V)) := by
      simp only [List.mem_cons, List.not_mem_nil, or_false, Prod.mk.injEq] at hx
      rcases hx with h | h <;> exact h
    obtain ⟨rfl, rfl⟩ := hx'
    have dr7 := dr6.sp e7
    have hd7 := e7.ds hd6
    refine s_if (ρ := spR sp) (b := false) (et_not (a := true) (et_B ((ev_so (x := o) (y := o) (f := d) (w := d) (ev_getX (a := b) (ev_var rfl) LF.wd.1 LF.wd.2 (fun H8 e8 => he.sp dr7 e8) rfl) (ev_var rfl) hd7 hd7 d3 d4).val (by rw [d2])))) (fun h => by cases h) fun _ H8 e8 => kn H8 e8
  have dr7 := dr6.sp e7
  show tSeq _ _ _ [some (.ref a), some (.ref ra), some (.ref sp), some (.int i), some o, u, none, none, none] H7
  -- word and text
  refine q_forE (m := 5) (xs := [("Mixed", [("text", .str "a"), ("word", .str "ab")]), ("Mixed", [("text", .str "a"), ("word", .str "ab")])]) dr7 ?_ (by show 2 ≤ 1000; decide) (fun x fs hx D' b H8 e8 he hrt kn => ?_) (fun u H8 e8 => ?_) ⟨_, rfl⟩
  · exact ea_consE (ev_ep dr7 (ev_mkB (vs := [.str "ab", .str "a"]) (us := []) (v := .str "ab") (u := .str "a") (ea_cons ev_c (ea_cons ev_c ea_nil)) ea_nil rfl rfl (by decide) fun _ => rfl)) fun _ f1 => ea_consE (ev_ep (dr7.sp f1) (ev_mkB (vs := []) (us := [.str "a", .str "ab"]) (v := .str "ab") (u := .str "a") ea_nil (ea_cons ev_c (ea_cons ev_c ea_nil)) rfl rfl (by decide) fun _ => rfl)) fun _ _ => ea_nilE
  · have hx' : x = ("Mixed" : Str) ∧ fs = ([("text", V.str "a"), ("word", .str "ab")] : List (Str × V)) := by
      simp only [List.mem_cons, List.not_mem_nil, or_false, Prod.mk.injEq] at hx
      rcases hx with h | h <;> exact h
    obtain ⟨rfl, rfl⟩ := hx'
    have dr8 := dr7.sp e8
    refine s_if (ρ := spR sp) (b := false) (et_not (a := true) (et_B (soSame8 (P := fun d => d = .tuple [.str "ab", .str "a"]) ((ev_tupDs (ρf := spR sp) Le.rfl (ea_consD Le.rfl ((ev_getX (v := .str "ab") (a := b) (ev_var (i := 5) rfl) LF.mx.1 LF.mx.2.1 (fun H9 e9 => he.sp dr8 e9) (by decide +kernel)).imp fun v H9 _ e => by rw [e]; exact .str "ab") fun H9 e9 => ea_consD Le.rfl ((ev_getX (v := .str "a") (a := b) (ev_var (i := 5) rfl) LF.mx.1 LF.mx.2.2 (fun H10 e10 => he.sp dr8 (e9.trans e10)) rfl).imp fun v H10 _ e => by rw [e]; exact .str "a") fun _ _ => ea_nilD) (by show 2 ≤ 100000; decide)).imp fun v H9 _ h => ⟨_, rfl, h.ex⟩) (fun H9 e9 => (ev_tupDs (ρf := spR sp) Le.rfl (ea_consD Le.rfl ((ev_c (v := .str "ab")).imp fun v H10 _ e => by rw [e]; exact .str "ab") fun _ _ => ea_consD Le.rfl ((ev_c (v := .str "a")).imp fun v H10 _ e => by rw [e]; exact .str "a") fun _ _ => ea_nilD) (by show 2 ≤ 100000; decide)).imp fun v H10 _ h => ⟨_, rfl, h.ex⟩) (fun d e h1 h2 => by rw [h1, h2]) fun d e => by rw [e]; exact ⟨rfl, so_self _ (by decide +kernel), sm_Sm (by decide +kernel), by simp [PyData.depth, PyData.depthAll]⟩))) (fun h => by cases h) fun _ H9 e9 => kn H9 e9
  have dr8 := dr7.sp e8
  show tSeq _ _ _ [some (.ref a), some (.ref ra), some (.ref sp), some (.int i), some o, u, none, none, none] H8
  -- every
  refine q_asg (ρ := spR sp) (R := fun v H' => ∃ p vs, v = .ref p ∧ ¬ (spR sp).S p ∧ H' p = some (.lst vs) ∧ EAll K ra sp H' vs [("BadValue", [("at", .int i)]), ("BadText", [("at", .int i)]), ("BadPaper", [("at", .int i)]), ("NotMeant", [("text", o)]), ("NoWord", [("word", o)]), ("Mixed", [("text", .str "b"), ("word", .str "a")]), ("TooMany", [])]) ((ev_lst (Rr := fun vs H' => EAll K ra sp H' vs [("BadValue", [("at", .int i)]), ("BadText", [("at", .int i)]), ("BadPaper", [("at", .int i)]), ("NotMeant", [("text", o)]), ("NoWord", [("word", o)]), ("Mixed", [("text", .str "b"), ("word", .str "a")]), ("TooMany", [])]) ?_ fun vs H9 _ e => by rw [e.len]; show 7 ≤ 100000; decide).imp fun v H9 r ⟨p, vs, H10, ev, ha, hp, r10, eH⟩ => ?_) fun v H9 e9 ⟨p, vs, ev, nS, hp, ha⟩ => ?_
  · have one : ∀ {H9 : Hp} (x f : Str) (j : Nat) (v : V), (spR sp).r H8 H9 → ([some (.ref a), some (.ref ra), some (.ref sp), some (.int i), some o, u, none, none, none] : L2.St)[j]? = some (some v) → Ev (spR sp) (tMkV (He.ga K x) 1 0 (sp_init1 K x f) (fun us _ => us) (tCons (tVar j) tNil) tNil) [some (.ref a), some (.ref ra), some (.ref sp), some (.int i), some o, u, none, none, none] H9 (EP K ra sp x [(f, v)]) := fun {H9} x f j v e9 hj => ev_ep (dr8.sp e9) (ev_mkA (vs := [v]) (us := []) (v := v) (ea_cons (ev_var hj) ea_nil) ea_nil rfl rfl (by decide) fun _ => rfl)
    exact ea_consE (one _ _ 3 _ .rfl rfl) fun _ f1 => ea_consE (one _ _ 3 _ f1 rfl) fun _ f2 => ea_consE (one _ _ 3 _ (f1.trans f2) rfl) fun _ f3 => ea_consE (one _ _ 4 _ (f1.trans (f2.trans f3)) rfl) fun _ f4 => ea_consE (one _ _ 4 _ (f1.trans (f2.trans (f3.trans f4))) rfl) fun _ f5 => ea_consE (ev_ep (dr8.sp (f1.trans (f2.trans (f3.trans (f4.trans f5))))) (ev_mkB (vs := [.str "a", .str "b"]) (us := []) (v := .str "a") (u := .str "b") (ea_cons ev_c (ea_cons ev_c ea_nil)) ea_nil rfl rfl (by decide) fun _ => rfl)) fun _ f6 => ea_consE (ev_ep (dr8.sp (f1.trans (f2.trans (f3.trans (f4.trans (f5.trans f6)))))) ev_mk0) fun _ _ => ea_nilE
  · subst ev
    have r3 : (spR sp).r H10 (upd H10 p (.lst vs)) := r_new _ hp
    exact ⟨p, vs, rfl, (own_sp (dr8.sp r10)).fresh hp, by rw [eH]; exact upd_same, by rw [eH]; exact ha.r r3⟩
  subst ev
  have dr9 := dr8.sp e9
  have hlen := ha.len
  refine q_forw (ρ := spR sp) (ρw := spR sp) (ew_rng (i := 7) (ea_cons ev_c ea_nil) (by decide) (by decide)) fun H10 e10 => ⟨fun j σ' H' => (spR sp).r H10 H' ∧ ∃ u7 : Option V, σ' = [some (.ref a), some (.ref ra), some (.ref sp), some (.int i), some o, u, some (.ref p), u7, none], ⟨.rfl, _, rfl⟩, fun j σ' H' _ q => q.1, ?_, ?_⟩
  · rintro j x σ' H11 H12 hj ⟨r, u7, rfl⟩ ⟨eH, rfl⟩
    subst eH
    have hj7 : j < 7 := hj
    have e912 := e10.trans r
    have dr12 := dr9.sp e912
    have ha12 := ha.r e912
    have hp12 := e912.keep _ _ nS hp
    obtain ⟨v, hv⟩ : ∃ v, vs[j]? = some v := ⟨_, List.getElem?_eq_getElem (by rw [hlen]; exact hj7)⟩
    obtain ⟨y, hy, _, b, eb, he⟩ := ha12.get hv
    subst eb
    have hyn : errs[j]? = some y.1 := by
      have : errs = ([("BadValue", [("at", V.int i)]), ("BadText", [("at", .int i)]), ("BadPaper", [("at", .int i)]), ("NotMeant", [("text", o)]), ("NoWord", [("word", o)]), ("Mixed", [("text", .str "b"), ("word", .str "a")]), ("TooMany", [])] : List (Str × List (Str × V))).map (·.1) := rfl
      rw [this, List.getElem?_map, hy]
      rfl
    have hye : y.1 ∈ errs := List.mem_of_getElem? hyn
    have one : ∀ {H13 : Hp}, (spR sp).r H12 H13 → EvV (spR sp) (tIxU K (tVar 6) (tVar 7)) [some (.ref a), some (.ref ra), some (.ref sp), some (.int i), some o, u, some (.ref p), some (.int (j : Int)), none] H13 (.ref b) := fun {H13} e13 => ev_ix (n := j) (xs := vs) (ev_var (i := 6) rfl) (ev_var (i := 7) (v := .int (j : Int)) rfl) (fun H14 e14 => .inl (.of ((e13.trans e14).keep _ _ nS hp12))) rfl hv
    refine s_if (ρ := spR sp) (b := false) ((et_or (a := false) (b := false) (et_test ((ev_neD0 (d := .list (errs.map fun z => .bool (decide ((errs[j]?).getD "" = z)))) (e := .list ((List.range 7).map fun m : Nat => .bool (decide ((m : Int) = (j : Int))))) ((ev_call (ea_cons (one .rfl) ea_nil) (R := fun v H' => ∃ q, v = .ref q ∧ ¬ (spR sp).S q ∧ H' q = some (.lst (errs.map fun z => .bl (decide (y.1 = z))))) fun H13 e13 Q' q' E' => ⟨b, y.1, y.2, rfl, hye, he.sp dr12 e13, fun q H' hq e hq' => q' _ H' (Ext.r e) ⟨q, rfl, (own_sp (dr12.sp e13)).fresh hq, hq'⟩⟩).imp fun v H13 _ ⟨q, ev, nq, hq⟩ => ?_) (fun H13 e13 => ?_) (ofs_sh1 ⟨j, hj7⟩) (ofs_sh2 ⟨j, hj7⟩)).val (by rw [ofs_eq ⟨j, hj7⟩]; rfl))) fun _ => et_or (a := false) (b := false) (et_B (ev_call (ea_cons (one .rfl) ea_nil) fun H13 e13 Q' q' E' => ⟨b, y.1, y.2, rfl, hye, he.sp dr12 e13, fun H' e => q' _ H' (Ext.r e) rfl⟩)) fun _ => et_not (a := true) (et_B (ev_isX (c := .ref (He.ga K "SlipError")) (cv := .ref (He.ga K "SlipError")) (one .rfl) ev_c (fun u h => h) (LF.f.x _ hye) (fun H13 e13 => he.sp dr12 e13) (LF.f.base hye)))).to rfl) (fun h => by cases h) fun _ H13 e13 => ⟨r.trans e13, _, rfl⟩
    · subst ev
      rw [hyn]
      exact .lst nq hq (bl_dss _ errs)
    · refine (ev_lcD (dd := fun m => .bool (decide ((m : Int) = (j : Int)))) (own_sp (dr12.sp e13)) (by decide) (ei_rng (i := 7) (ea_cons ev_c ea_nil) (by decide) (by decide)) (fun x => rfl) (fun i H2 x H3 y => y.1) ?_).imp fun v H14 _ ⟨q, ys, ev, nq, _, hq, hds⟩ => by rw [ev]; exact .lst nq hq hds
      rintro D' H14 e14 hD' m x H15 H16 hm r15 oD ⟨eH, rfl⟩
      exact (ev_eqI (i := (m : Int)) (j := (j : Int)) (ev_var (i := 8) rfl) (ev_var (i := 7) rfl)).imp fun v H17 _ ev => by rw [ev]; exact .bl _
  · rintro σ' H11 ⟨r, u7, rfl⟩
    have dr11 := dr9.sp (e10.trans r)
    refine s_retV (ρ := spR sp) (v := .bl true) (ev_andV (a := true) (b := true) (ev_notV (a := false) ((ev_call (R := fun v _ => v = .bl (!decide ((0 : Int) = 0))) (ea_cons ev_c ea_nil) fun H12 e12 Q' q' E' => ⟨0, rfl, fun H' e => q' _ H' (Ext.r e) rfl⟩).val rfl)) fun _ => ev_callR (sp := sp__law_caught K) (ea_one (Ra := fun v _ => ∃ m : Int, v = .int m ∧ 1 ≤ m) (ev_opP (r := rAddU K) (Pa := fun v => v = .int 1) (Pb := Below 9) ev_c (ev_take (ev_var rfl) (ev_var rfl) ev_c dr11 (by decide)) fun x y ex ⟨m, ey, l0, l1⟩ => by
      subst ex ey
      exact fun H12 e12 Q' q' => .inl ⟨1, m, rfl, rfl, q' _ H12 .rfl ⟨1 + m, rfl, by omega⟩⟩)) fun vs H12 e12 ⟨x, evs, m, ex, hm⟩ => by
      subst evs ex
      exact fun H13 e13 Q' q' E' => ⟨m, rfl, fun H' e => q' _ H' (Ext.r e) (by rw [decide_eq_false (by omega)]; rfl)⟩) fun H12 e12 => k H12
end K00
/-! a dict comprehension assigned to a local name on the same line -/
namespace Slip
open PySem PySem.Spec PyProof.Rows L2
section
variable {X : Cx}
theorem ps_setDc {i : Nat} {y : Str} {py : Pos} {kx vx tg iter : Expr} {ifs : List Expr} {scope : Scope} {own : List (Str × Nat)} {pos spos : Pos} {wi : TI} {g : TG} {tt : TT} {tk tv : TE} (hc : X.calm = true) (hN : X.N.Nodup) (hy : X.N[i]? = some y) (hyl : X.env.scope.names.lookup y = some .local)
    (hsw : swapsWith (.DictComp kx vx [⟨tg, iter, ifs, 0⟩] scope pos) (some (.Name y py)) spos.line X.env = pure true) (hi : PI X tg iter wi) (ok : BlkOk X.N X.env.scope scope own)
    (hg : ∀ (s : Shared) (H : Hp) (C : Addr) (cl : List (Str × Addr)) (fp : List Addr), PG (X.blk s H scope (compEnvC scope cl C X.env) fp) tg g) (ht : ∀ (s : Shared) (H : Hp) (C : Addr) (cl : List (Str × Addr)) (fp : List Addr), PTs (X.blk s H scope (compEnvC scope cl C X.env) fp) ifs tt)
    (hk : ∀ (s : Shared) (H : Hp) (C : Addr) (cl : List (Str × Addr)) (fp : List Addr), PE (X.blk s H scope (compEnvC scope cl C X.env) fp) kx tk)
    (he : ∀ (s : Shared) (H : Hp) (C : Addr) (cl : List (Str × Addr)) (fp : List Addr), PE (X.blk s H scope (compEnvC scope cl C X.env) fp) vx tv) (hs : ∀ x, foldedSetIterable iter X.env x = pure x := by intro _; rfl) :
    PS X (.Assign [.Name y py] (.DictComp kx vx [⟨tg, iter, ifs, 0⟩] scope pos) spos) (tAsg (tDc wi g tt tk tv (own.map (·.2))) (gName i)) := by
  refine ⟨fun pins s σ H D I h => ?_⟩
  rw [exec_Assign_Name_used _ _ _ _ hsw]
  refine wpAny_bind (wpAny_standAt (wpAny_bind ?_))
  show wpAny _ X.A (do let _ ← comprehension (.DictComp kx vx [⟨tg, iter, ifs, 0⟩] scope pos) scope X.env (firstIterPos [⟨tg, iter, ifs, 0⟩] pos) newDict false (eval iter X.env) (some (assign (.Name y py) X.env))) _ _ s
  have h : tDc wi g tt tk tv (own.map (·.2)) σ H (fun x H1 => gName i x σ H1 D.nx) := h
  refine wpAny_bind (thn (dc_core (Qf := fun _ s' => SP X pins D .next s') hc hN I hi ok hg ht hk he hs h fun L C s' m H' I' q hn f => ?_) fun _ s' hq => wpAny_pure (wpAny_pure hq))
  show wpAny _ _ (assign (.Name y py) X.env (.ref L)) _ _ _
  refine wpAny_assign_Name (store_ok2 (v := V.ref L) I' hN hy (.inl hyl) rfl (fun s2 I2 ⟨a, sb, ha⟩ => ?_) (.inr hyl))
  obtain ⟨f0, f1, f2, f3, f4, f5⟩ := f
  have haC : C ≠ a := by
    rcases ha with z | z
    · rw [z]; exact f1
    · exact fun e => f4 y a z e.symm
  refine ⟨m, hn.sameBut sb haC, fun h3 sb3 => ?_⟩
  exact ⟨_, H', I2.turned (t' := s2.toks) (fun b o hb e => (sb3.2 b hb).trans e) f0 f1 f3 f4 f5, q⟩
theorem sw_trueD {kx vx : Expr} {gs : List Comprehension} {scope : Scope} {pos py : Pos} {y : Str} {l : Nat} {env : Env} (hk : env.scope.kind = .function) (hy : env.scope.names.lookup y = some .local) (hl : (py.line == pos.line) = true)
    (ha : (scope.names.any fun (n, k) => n == y && (k == .local || k == .cell)) = false) : swapsWith (.DictComp kx vx gs scope pos) (some (.Name y py)) l env = pure true := by
  have ky : env.kindOf y = some .local := hy
  have hb : env.blockKind = .function := by unfold Env.blockKind; rw [hk]; rfl
  unfold swapsWith
  simp only [hb, ky, ha, Expr.pos, hl]
  rfl
end
end Slip
namespace K00
open PySem PySem.Spec PyProof.Rows L2 Slip
theorem no__law_so {K : Frag} {vs : List V} {H : Hp} {Q : VK} {E : XK} : ¬ sp__law_so K 0 vs H Q E := fun ⟨_, _, _, _, _, _, _, _, h, _⟩ => absurd h (Nat.not_lt_zero _)
def top (i : Nat) : Stmt := PySem.Challenge.pw_slipworth_k00_errors.main.body.getD i (.Pass ⟨0, 0, 0, 0⟩)
abbrev st__law_so : Stmt := top 10
abbrev st__law_numbers : Stmt := top 11
abbrev st__law_draw : Stmt := top 12
abbrev st__law_take : Stmt := top 13
abbrev st__law_of : Stmt := top 14
abbrev st__law_foreign : Stmt := top 15
abbrev st__law_caught : Stmt := top 16
abbrev st_law : Stmt := top 17
abbrev names__law_so : List Str := ["found", "wanted", "k"]
theorem sc__law_so : FnScope names__law_so ["found", "wanted"] (defScope st__law_so) := ⟨rfl, rfl, rfl, by decide +kernel, rfl, by decide +kernel, by decide +kernel⟩
abbrev names__law_numbers : List Str := ["script", "row", "cell", "left", "k", "mixed"]
theorem sc__law_numbers : FnScope names__law_numbers ["script"] (defScope st__law_numbers) := ⟨rfl, rfl, rfl, by decide +kernel, rfl, by decide +kernel, by decide +kernel⟩
abbrev names__law_draw : List Str := ["row", "at", "limit", "mixed"]
theorem sc__law_draw : FnScope names__law_draw ["row", "at", "limit"] (defScope st__law_draw) := ⟨rfl, rfl, rfl, by decide +kernel, rfl, by decide +kernel, by decide +kernel⟩
abbrev names__law_take : List Str := ["row", "spot", "limit"]
theorem sc__law_take : FnScope names__law_take ["row", "spot", "limit"] (defScope st__law_take) := ⟨rfl, rfl, rfl, by decide +kernel, rfl, by decide +kernel, by decide +kernel⟩
abbrev names__law_of : List Str := ["value", "made"]
theorem sc__law_of : FnScope names__law_of ["value"] (defScope st__law_of) := ⟨rfl, rfl, rfl, by decide +kernel, rfl, by decide +kernel, by decide +kernel⟩
abbrev names__law_foreign : List Str := ["value"]
theorem sc__law_foreign : FnScope names__law_foreign ["value"] (defScope st__law_foreign) := ⟨rfl, rfl, rfl, by decide +kernel, rfl, by decide +kernel, by decide +kernel⟩
abbrev names__law_caught : List Str := ["at", "wrong"]
theorem sc__law_caught : FnScope names__law_caught ["at"] (defScope st__law_caught) := ⟨rfl, rfl, rfl, by decide +kernel, rfl, by decide +kernel, by decide +kernel⟩
abbrev names_law : List Str := ["script", "row", "spot", "at", "other", "made", "every", "k", "one"]
theorem sc_law : FnScope names_law ["script"] (defScope st_law) := ⟨rfl, rfl, rfl, by decide +kernel, rfl, by decide +kernel, by decide +kernel⟩
abbrev ini_BadPaper : Stmt := inClass (top 4) 0
theorem sc_ini_BadPaper : FnScope ["self", "at"] ["self", "at"] (defScope ini_BadPaper) := ⟨rfl, rfl, rfl, by decide +kernel, rfl, by decide +kernel, by decide +kernel⟩
abbrev ini_BadText : Stmt := inClass (top 3) 0
theorem sc_ini_BadText : FnScope ["self", "at"] ["self", "at"] (defScope ini_BadText) := ⟨rfl, rfl, rfl, by decide +kernel, rfl, by decide +kernel, by decide +kernel⟩
abbrev ini_BadValue : Stmt := inClass (top 2) 0
theorem sc_ini_BadValue : FnScope ["self", "at"] ["self", "at"] (defScope ini_BadValue) := ⟨rfl, rfl, rfl, by decide +kernel, rfl, by decide +kernel, by decide +kernel⟩
abbrev ini_Mixed : Stmt := inClass (top 7) 0
theorem sc_ini_Mixed : FnScope ["self", "word", "text"] ["self", "word", "text"] (defScope ini_Mixed) := ⟨rfl, rfl, rfl, by decide +kernel, rfl, by decide +kernel, by decide +kernel⟩
abbrev ini_NoWord : Stmt := inClass (top 6) 0
theorem sc_ini_NoWord : FnScope ["self", "word"] ["self", "word"] (defScope ini_NoWord) := ⟨rfl, rfl, rfl, by decide +kernel, rfl, by decide +kernel, by decide +kernel⟩
abbrev ini_NotMeant : Stmt := inClass (top 5) 0
theorem sc_ini_NotMeant : FnScope ["self", "text"] ["self", "text"] (defScope ini_NotMeant) := ⟨rfl, rfl, rfl, by decide +kernel, rfl, by decide +kernel, by decide +kernel⟩
structure Env (K : Frag) (mg : Str → Option Value) : Type where
  d__law_so : FuncData
  F__law_so : FnP K "_law_so" st__law_so (He.ga K "_law_so") d__law_so
  g__law_so : mg "_law_so" = some (.ref (He.ga K "_law_so"))
  d__law_numbers : FuncData
  F__law_numbers : FnP K "_law_numbers" st__law_numbers (He.ga K "_law_numbers") d__law_numbers
  g__law_numbers : mg "_law_numbers" = some (.ref (He.ga K "_law_numbers"))
  d__law_draw : FuncData
  F__law_draw : FnP K "_law_draw" st__law_draw (He.ga K "_law_draw") d__law_draw
  g__law_draw : mg "_law_draw" = some (.ref (He.ga K "_law_draw"))
  d__law_take : FuncData
  F__law_take : FnP K "_law_take" st__law_take (He.ga K "_law_take") d__law_take
  g__law_take : mg "_law_take" = some (.ref (He.ga K "_law_take"))
  d__law_of : FuncData
  F__law_of : FnP K "_law_of" st__law_of (He.ga K "_law_of") d__law_of
  g__law_of : mg "_law_of" = some (.ref (He.ga K "_law_of"))
  d__law_foreign : FuncData
  F__law_foreign : FnP K "_law_foreign" st__law_foreign (He.ga K "_law_foreign") d__law_foreign
  g__law_foreign : mg "_law_foreign" = some (.ref (He.ga K "_law_foreign"))
  d__law_caught : FuncData
  F__law_caught : FnP K "_law_caught" st__law_caught (He.ga K "_law_caught") d__law_caught
  g__law_caught : mg "_law_caught" = some (.ref (He.ga K "_law_caught"))
  d_law : FuncData
  F_law : FnP K "law" st_law (He.ga K "law") d_law
  g_law : mg "law" = some (.ref (He.ga K "law"))
  z_ArithmeticError : mg "ArithmeticError" = none
  z_Exception : mg "Exception" = none
  z_LookupError : mg "LookupError" = none
  z_ValueError : mg "ValueError" = none
  z_bool : mg "bool" = none
  z_int : mg "int" = none
  z_isinstance : mg "isinstance" = none
  z_len : mg "len" = none
  z_range : mg "range" = none
  z_str : mg "str" = none
  z_tuple : mg "tuple" = none
  x_TooMany : ExcC K mg "TooMany"
  f_BadPaper : ExcF K mg "BadPaper" ["at"]
  id_BadPaper : FuncData
  iF_BadPaper : FunD K "__init__" "BadPaper.__init__" (defArgs ini_BadPaper) (defBody ini_BadPaper) (defScope ini_BadPaper) [] [] (He.ma K (He.ga K "BadPaper") "__init__") id_BadPaper
  f_BadText : ExcF K mg "BadText" ["at"]
  id_BadText : FuncData
  iF_BadText : FunD K "__init__" "BadText.__init__" (defArgs ini_BadText) (defBody ini_BadText) (defScope ini_BadText) [] [] (He.ma K (He.ga K "BadText") "__init__") id_BadText
  f_BadValue : ExcF K mg "BadValue" ["at"]
  id_BadValue : FuncData
  iF_BadValue : FunD K "__init__" "BadValue.__init__" (defArgs ini_BadValue) (defBody ini_BadValue) (defScope ini_BadValue) [] [] (He.ma K (He.ga K "BadValue") "__init__") id_BadValue
  f_Mixed : ExcF K mg "Mixed" ["word", "text"]
  id_Mixed : FuncData
  iF_Mixed : FunD K "__init__" "Mixed.__init__" (defArgs ini_Mixed) (defBody ini_Mixed) (defScope ini_Mixed) [] [] (He.ma K (He.ga K "Mixed") "__init__") id_Mixed
  f_NoWord : ExcF K mg "NoWord" ["word"]
  id_NoWord : FuncData
  iF_NoWord : FunD K "__init__" "NoWord.__init__" (defArgs ini_NoWord) (defBody ini_NoWord) (defScope ini_NoWord) [] [] (He.ma K (He.ga K "NoWord") "__init__") id_NoWord
  f_NotMeant : ExcF K mg "NotMeant" ["text"]
  id_NotMeant : FuncData
  iF_NotMeant : FunD K "__init__" "NotMeant.__init__" (defArgs ini_NotMeant) (defBody ini_NotMeant) (defScope ini_NotMeant) [] [] (He.ma K (He.ga K "NotMeant") "__init__") id_NotMeant
  bs_SlipError : BaseC K mg "SlipError" ["TooMany", "NotMeant"]
  isx : ∀ x ∈ isX, L2.ExcC K (He.ga K x)
  isk : ∀ z ∈ isK, PySem.W.kitOne K (.ref (He.ga K z.1)) (cvOf K z.2.1) = some z.2.2
section
variable {K : Frag} {mg : Str → Option Value} {P : Program} {w : World} {base : Heap}
theorem lawF (E : Env K mg) : LawF K where
  at3 := fun x hx => by
    simp only [List.mem_cons, List.not_mem_nil, or_false] at hx
    rcases hx with rfl | rfl | rfl
    · exact ⟨E.f_BadValue.xf, E.f_BadValue.nof "at" (by simp)⟩
    · exact ⟨E.f_BadText.xf, E.f_BadText.nof "at" (by simp)⟩
    · exact ⟨E.f_BadPaper.xf, E.f_BadPaper.nof "at" (by simp)⟩
  tx := ⟨E.f_NotMeant.xf, E.f_NotMeant.nof "text" (by simp)⟩
  wd := ⟨E.f_NoWord.xf, E.f_NoWord.nof "word" (by simp)⟩
  mx := ⟨E.f_Mixed.xf, E.f_Mixed.nof "word" (by simp), E.f_Mixed.nof "text" (by simp)⟩
  f := ⟨E.isx, E.isk⟩
theorem Env.b__law_so (E : Env K mg) : Binds K E.d__law_so ["found", "wanted"] [] := FunD.bindsN E.F__law_so fun _ _ _ _ _ _ us hl => match us, hl with | [_, _], _ => rfl
theorem Env.b__law_numbers (E : Env K mg) : Binds K E.d__law_numbers ["script"] [] := FunD.bindsN E.F__law_numbers fun _ _ _ _ _ _ us hl => match us, hl with | [_], _ => rfl
theorem Env.b__law_draw (E : Env K mg) : Binds K E.d__law_draw ["row", "at", "limit"] [] := FunD.bindsN E.F__law_draw fun _ _ _ _ _ _ us hl => match us, hl with | [_, _, _], _ => rfl
theorem Env.b__law_take (E : Env K mg) : Binds K E.d__law_take ["row", "spot", "limit"] [] := FunD.bindsN E.F__law_take fun _ _ _ _ _ _ us hl => match us, hl with | [_, _, _], _ => rfl
theorem Env.b__law_of (E : Env K mg) : Binds K E.d__law_of ["value"] [] := FunD.bindsN E.F__law_of fun _ _ _ _ _ _ us hl => match us, hl with | [_], _ => rfl
theorem Env.b__law_foreign (E : Env K mg) : Binds K E.d__law_foreign ["value"] [] := FunD.bindsN E.F__law_foreign fun _ _ _ _ _ _ us hl => match us, hl with | [_], _ => rfl
theorem Env.b__law_caught (E : Env K mg) : Binds K E.d__law_caught ["at"] [] := FunD.bindsN E.F__law_caught fun _ _ _ _ _ _ us hl => match us, hl with | [_], _ => rfl
theorem Env.b_law (E : Env K mg) : Binds K E.d_law ["script"] [] := FunD.bindsN E.F_law fun _ _ _ _ _ _ us hl => match us, hl with | [_], _ => rfl
theorem Env.ib_BadPaper (E : Env K mg) : Binds K E.id_BadPaper ["self", "at"] [] := FunD.bindsN E.iF_BadPaper fun _ _ _ _ _ _ us hl => match us, hl with | [_, _], _ => rfl
theorem ok_ini_BadPaper (E : Env K mg) : FnOk P w K mg base CX0 1 (He.ma K (He.ga K "BadPaper") "__init__") E.id_BadPaper ["self", "at"] (sp_init1 K "BadPaper" "at") := by
  refine E.iF_BadPaper.ok sc_ini_BadPaper (fun vs H Q E' h => len_init1 h) (fun cdv A outer s H vs Q E' hr h => ⟨tSetE K "at" (tVar 0) (tVar 1), PSs.nox ?_, pure_init1 E.f_BadPaper (by simp) vs H Q E' h rfl⟩)
  exact (pss_one (ps_setE (pv 0) (pv 1)))
theorem Env.ib_BadText (E : Env K mg) : Binds K E.id_BadText ["self", "at"] [] := FunD.bindsN E.iF_BadText fun _ _ _ _ _ _ us hl => match us, hl with | [_, _], _ => rfl
theorem ok_ini_BadText (E : Env K mg) : FnOk P w K mg base CX0 1 (He.ma K (He.ga K "BadText") "__init__") E.id_BadText ["self", "at"] (sp_init1 K "BadText" "at") := by
  refine E.iF_BadText.ok sc_ini_BadText (fun vs H Q E' h => len_init1 h) (fun cdv A outer s H vs Q E' hr h => ⟨tSetE K "at" (tVar 0) (tVar 1), PSs.nox ?_, pure_init1 E.f_BadText (by simp) vs H Q E' h rfl⟩)
  exact (pss_one (ps_setE (pv 0) (pv 1)))
theorem Env.ib_BadValue (E : Env K mg) : Binds K E.id_BadValue ["self", "at"] [] := FunD.bindsN E.iF_BadValue fun _ _ _ _ _ _ us hl => match us, hl with | [_, _], _ => rfl
theorem ok_ini_BadValue (E : Env K mg) : FnOk P w K mg base CX0 1 (He.ma K (He.ga K "BadValue") "__init__") E.id_BadValue ["self", "at"] (sp_init1 K "BadValue" "at") := by
  refine E.iF_BadValue.ok sc_ini_BadValue (fun vs H Q E' h => len_init1 h) (fun cdv A outer s H vs Q E' hr h => ⟨tSetE K "at" (tVar 0) (tVar 1), PSs.nox ?_, pure_init1 E.f_BadValue (by simp) vs H Q E' h rfl⟩)
  exact (pss_one (ps_setE (pv 0) (pv 1)))
theorem Env.ib_Mixed (E : Env K mg) : Binds K E.id_Mixed ["self", "word", "text"] [] := FunD.bindsN E.iF_Mixed fun _ _ _ _ _ _ us hl => match us, hl with | [_, _, _], _ => rfl
theorem ok_ini_Mixed (E : Env K mg) : FnOk P w K mg base CX0 1 (He.ma K (He.ga K "Mixed") "__init__") E.id_Mixed ["self", "word", "text"] (sp_init2 K "Mixed" "word" "text") := by
  refine E.iF_Mixed.ok sc_ini_Mixed (fun vs H Q E' h => len_init2 h) (fun cdv A outer s H vs Q E' hr h => ⟨tSeq (tSetE K "word" (tVar 0) (tVar 1)) (tSetE K "text" (tVar 0) (tVar 2)), PSs.nox ?_, pure_init2 E.f_Mixed (by simp) (by simp) vs H Q E' h rfl⟩)
  exact (pss_cons (ps_setE (pv 0) (pv 1)) (pss_one (ps_setE (pv 0) (pv 2))))
theorem Env.ib_NoWord (E : Env K mg) : Binds K E.id_NoWord ["self", "word"] [] := FunD.bindsN E.iF_NoWord fun _ _ _ _ _ _ us hl => match us, hl with | [_, _], _ => rfl
theorem ok_ini_NoWord (E : Env K mg) : FnOk P w K mg base CX0 1 (He.ma K (He.ga K "NoWord") "__init__") E.id_NoWord ["self", "word"] (sp_init1 K "NoWord" "word") := by
  refine E.iF_NoWord.ok sc_ini_NoWord (fun vs H Q E' h => len_init1 h) (fun cdv A outer s H vs Q E' hr h => ⟨tSetE K "word" (tVar 0) (tVar 1), PSs.nox ?_, pure_init1 E.f_NoWord (by simp) vs H Q E' h rfl⟩)
  exact (pss_one (ps_setE (pv 0) (pv 1)))
theorem Env.ib_NotMeant (E : Env K mg) : Binds K E.id_NotMeant ["self", "text"] [] := FunD.bindsN E.iF_NotMeant fun _ _ _ _ _ _ us hl => match us, hl with | [_, _], _ => rfl
theorem ok_ini_NotMeant (E : Env K mg) : FnOk P w K mg base CX0 1 (He.ma K (He.ga K "NotMeant") "__init__") E.id_NotMeant ["self", "text"] (sp_init1 K "NotMeant" "text") := by
  refine E.iF_NotMeant.ok sc_ini_NotMeant (fun vs H Q E' h => len_init1 h) (fun cdv A outer s H vs Q E' hr h => ⟨tSetE K "text" (tVar 0) (tVar 1), PSs.nox ?_, pure_init1 E.f_NotMeant (by simp) vs H Q E' h rfl⟩)
  exact (pss_one (ps_setE (pv 0) (pv 1)))
theorem Env.kb_BadPaper (E : Env K mg) : KBn K E.id_BadPaper ["self", "at"] 2 [] (fun us _ => us) (fun us _ => us) := kbnOf E.iF_BadPaper (fun _ _ _ _ _ _ us ws hu hw => match us, ws, hu, hw with | [_, _], [], _, _ => rfl) (fun r _ => r)
theorem Env.kb_BadPaper_at (E : Env K mg) : KBn K E.id_BadPaper ["self", "at"] 1 ["at"] (fun us ws => us ++ ws) (fun us ws => us ++ ws) := kbnOf E.iF_BadPaper (fun _ _ _ _ _ _ us ws hu hw => match us, ws, hu, hw with | [_], [_], _, _ => rfl) (fun r rz => r.append rz)
theorem Env.kb_BadText (E : Env K mg) : KBn K E.id_BadText ["self", "at"] 2 [] (fun us _ => us) (fun us _ => us) := kbnOf E.iF_BadText (fun _ _ _ _ _ _ us ws hu hw => match us, ws, hu, hw with | [_, _], [], _, _ => rfl) (fun r _ => r)
theorem Env.kb_BadText_at (E : Env K mg) : KBn K E.id_BadText ["self", "at"] 1 ["at"] (fun us ws => us ++ ws) (fun us ws => us ++ ws) := kbnOf E.iF_BadText (fun _ _ _ _ _ _ us ws hu hw => match us, ws, hu, hw with | [_], [_], _, _ => rfl) (fun r rz => r.append rz)
theorem Env.kb_BadValue (E : Env K mg) : KBn K E.id_BadValue ["self", "at"] 2 [] (fun us _ => us) (fun us _ => us) := kbnOf E.iF_BadValue (fun _ _ _ _ _ _ us ws hu hw => match us, ws, hu, hw with | [_, _], [], _, _ => rfl) (fun r _ => r)
theorem Env.kb_BadValue_at (E : Env K mg) : KBn K E.id_BadValue ["self", "at"] 1 ["at"] (fun us ws => us ++ ws) (fun us ws => us ++ ws) := kbnOf E.iF_BadValue (fun _ _ _ _ _ _ us ws hu hw => match us, ws, hu, hw with | [_], [_], _, _ => rfl) (fun r rz => r.append rz)
theorem Env.kb_Mixed (E : Env K mg) : KBn K E.id_Mixed ["self", "word", "text"] 3 [] (fun us _ => us) (fun us _ => us) := kbnOf E.iF_Mixed (fun _ _ _ _ _ _ us ws hu hw => match us, ws, hu, hw with | [_, _, _], [], _, _ => rfl) (fun r _ => r)
theorem Env.kb_Mixed_text_word (E : Env K mg) : KBn K E.id_Mixed ["self", "word", "text"] 1 ["text", "word"] (fun us ws => us ++ swp ws) (fun us ws => us ++ swp ws) := kbnOf E.iF_Mixed (fun _ _ _ _ _ _ us ws hu hw => match us, ws, hu, hw with | [_], [_, _], _, _ => rfl) (fun r rz => r.append (swp_vals rz))
theorem Env.kb_NoWord (E : Env K mg) : KBn K E.id_NoWord ["self", "word"] 2 [] (fun us _ => us) (fun us _ => us) := kbnOf E.iF_NoWord (fun _ _ _ _ _ _ us ws hu hw => match us, ws, hu, hw with | [_, _], [], _, _ => rfl) (fun r _ => r)
theorem Env.kb_NoWord_word (E : Env K mg) : KBn K E.id_NoWord ["self", "word"] 1 ["word"] (fun us ws => us ++ ws) (fun us ws => us ++ ws) := kbnOf E.iF_NoWord (fun _ _ _ _ _ _ us ws hu hw => match us, ws, hu, hw with | [_], [_], _, _ => rfl) (fun r rz => r.append rz)
theorem Env.kb_NotMeant (E : Env K mg) : KBn K E.id_NotMeant ["self", "text"] 2 [] (fun us _ => us) (fun us _ => us) := kbnOf E.iF_NotMeant (fun _ _ _ _ _ _ us ws hu hw => match us, ws, hu, hw with | [_, _], [], _, _ => rfl) (fun r _ => r)
theorem Env.kb_NotMeant_text (E : Env K mg) : KBn K E.id_NotMeant ["self", "text"] 1 ["text"] (fun us ws => us ++ ws) (fun us ws => us ++ ws) := kbnOf E.iF_NotMeant (fun _ _ _ _ _ _ us ws hu hw => match us, ws, hu, hw with | [_], [_], _, _ => rfl) (fun r rz => r.append rz)
set_option maxHeartbeats 4000000 in
theorem ok__law_so {n : Nat} (E : Env K mg) (G_self : FnOk P w K mg base CX0 (n + 1) (He.ga K "_law_so") E.d__law_so ["found", "wanted"] (sp__law_so K n)) : FnOk P w K mg base CX0 (n + 1 + 1) (He.ga K "_law_so") E.d__law_so ["found", "wanted"] (sp__law_so K (n + 1)) := by
  refine E.F__law_so.ok sc__law_so (fun vs H Q E' h => len__law_so h) (fun cdv A outer s H vs Q E' hr h => ⟨(t__law_so K n), PSs.nox ?_, pure__law_so vs H Q E' h⟩)
  exact (pss_cons (ps_if (pt_cmpR op_isN1 (pv 1) pe_non (nomark _)) (pss_one (ps_ret (pe_cmpR op_isN1 (pv 0) pe_non (nomark _)))) pss_nil) (pss_cons (ps_if (pt_val (pe_callB call_isiU (by rfl) E.z_isinstance (by decide +kernel) (pa_cons (pv 1) (pa_cons (pe_bltn (v := .ty "tuple") rfl E.z_tuple (by decide +kernel) rfl) pa_nil)))) (pss_cons (ps_if (PW.pt (pw_or (pt_not (pt_val (pe_callB call_isiU (by rfl) E.z_isinstance (by decide +kernel) (pa_cons (pv 0) (pa_cons (pe_bltn (v := .ty "tuple") rfl E.z_tuple (by decide +kernel) rfl) pa_nil))))) (pw_or1 (pt_cmpR (op_neU hr.units) (pe_callB call_lenU (by rfl) E.z_len (by decide +kernel) (pa_cons (pv 0) pa_nil)) (pe_callB call_lenU (by rfl) E.z_len (by decide +kernel) (pa_cons (pv 1) pa_nil)) (nomark _))))) (pss_one (ps_ret pe_bl)) pss_nil) (pss_cons (ps_for PassesOwn.never rfl (pi_range1 (by rfl) E.z_range (pa_cons (pe_callB call_lenU (by rfl) E.z_len (by decide +kernel) (pa_cons (pv 1) pa_nil)) pa_nil)) (pg_name (i := 2) sc__law_so.nd rfl (by first | exact Or.inl rfl | exact Or.inr rfl)) (pss_one (ps_if (pt_not (pt_val (pe_call G_self hr rfl E.g__law_so E.F__law_so.kp E.b__law_so .nil pass0 (pa_cons (pe_ixU (hu_of hr) (pv 0) (pv 2) (fun _ _ => rfl) (fun _ _ => rfl)) (pa_cons (pe_ixU (hu_of hr) (pv 1) (pv 2) (fun _ _ => rfl) (fun _ _ => rfl)) pa_nil))))) (pss_one (ps_ret pe_bl)) pss_nil))) (pss_one (ps_ret pe_bl)))) pss_nil) (pss_cons (ps_if (PW.pt (pw_or (pt_val (pe_callB call_isiU (by rfl) E.z_isinstance (by decide +kernel) (pa_cons (pv 1) (pa_cons (pe_bltn (v := .ty "bool") rfl E.z_bool (by decide +kernel) rfl) pa_nil)))) (pw_or1 (pt_val (pe_callB call_isiU (by rfl) E.z_isinstance (by decide +kernel) (pa_cons (pv 0) (pa_cons (pe_bltn (v := .ty "bool") rfl E.z_bool (by decide +kernel) rfl) pa_nil))))))) (pss_one (ps_ret (pe_and (pe_callB call_isiU (by rfl) E.z_isinstance (by decide +kernel) (pa_cons (pv 1) (pa_cons (pe_bltn (v := .ty "bool") rfl E.z_bool (by decide +kernel) rfl) pa_nil))) (pe_and (pe_callB call_isiU (by rfl) E.z_isinstance (by decide +kernel) (pa_cons (pv 0) (pa_cons (pe_bltn (v := .ty "bool") rfl E.z_bool (by decide +kernel) rfl) pa_nil))) (pe_one (pe_cmpR (op_eqU hr.units) (pv 0) (pv 1) (nomark _))))))) pss_nil) (pss_cons (ps_if (pt_val (pe_callB call_isiU (by rfl) E.z_isinstance (by decide +kernel) (pa_cons (pv 1) (pa_cons (pe_bltn (v := .ty "int") rfl E.z_int (by decide +kernel) rfl) pa_nil)))) (pss_one (ps_ret (pe_and (pe_callB call_isiU (by rfl) E.z_isinstance (by decide +kernel) (pa_cons (pv 0) (pa_cons (pe_bltn (v := .ty "int") rfl E.z_int (by decide +kernel) rfl) pa_nil))) (pe_one (pe_cmpR (op_eqU hr.units) (pv 0) (pv 1) (nomark _)))))) pss_nil) (pss_one (ps_ret (pe_and (pe_callB call_isiU (by rfl) E.z_isinstance (by decide +kernel) (pa_cons (pv 1) (pa_cons (pe_bltn (v := .ty "str") rfl E.z_str (by decide +kernel) rfl) pa_nil))) (pe_and (pe_callB call_isiU (by rfl) E.z_isinstance (by decide +kernel) (pa_cons (pv 0) (pa_cons (pe_bltn (v := .ty "str") rfl E.z_str (by decide +kernel) rfl) pa_nil))) (pe_one (pe_cmpR (op_eqU hr.units) (pv 0) (pv 1) (nomark _)))))))))))
set_option maxHeartbeats 4000000 in
theorem ok__law_numbers (E : Env K mg)  : FnOk P w K mg base CX0 1 (He.ga K "_law_numbers") E.d__law_numbers ["script"] (sp__law_numbers K) := by
  refine E.F__law_numbers.ok sc__law_numbers (fun vs H Q E' h => len__law_numbers h) (fun cdv A outer s H vs Q E' hr h => ⟨(t__law_numbers K), PSs.nox ?_, pure__law_numbers vs H Q E' h⟩)
  exact (pss_cons (ps_set (i := 1) sc__law_numbers.nd rfl (by first | exact Or.inl rfl | exact Or.inr rfl) (pe_lst pa_nil)) (pss_cons (ps_for PassesOwn.never rfl (pi_seq (pe_slice sl_U (pv 0) po_none (po_some pe_int))) (pg_name (i := 2) sc__law_numbers.nd rfl (by first | exact Or.inl rfl | exact Or.inr rfl)) (pss_one (ps_if (pt_cmpR (op_geD hr.units) (pv 2) (pe_op op_powI pe_int pe_int) (nomark _)) (pss_cons (ps_set (i := 3) sc__law_numbers.nd rfl (by first | exact Or.inl rfl | exact Or.inr rfl) (pv 2)) (pss_one (ps_for PassesOwn.never rfl (pi_range1 (by rfl) E.z_range (pa_cons pe_int pa_nil)) (pg_name (i := 4) sc__law_numbers.nd rfl (by first | exact Or.inl rfl | exact Or.inr rfl)) (pss_cons (ps_if (pt_cmpR (op_eqU hr.units) (pv 3) pe_int (nomark _)) (pss_one ps_break) pss_nil) (pss_cons (ps_expr (pe_bm PySem.F.plainAttrs_list PySem.F.slot_list_append PySem.F.type_list_append mt_append (pv 1) (pa_cons (pe_op op_modI (pe_callTy call_intOf (by rfl) E.z_int (by decide +kernel) (pa_cons (pv 3) pa_nil)) pe_int) pa_nil))) (pss_one (ps_set (i := 3) sc__law_numbers.nd rfl (by first | exact Or.inl rfl | exact Or.inr rfl) (pe_op op_fdivI (pv 3) pe_int)))))))) (pss_one (ps_for PassesOwn.never rfl (pi_range1 (by rfl) E.z_range (pa_cons pe_int pa_nil)) (pg_name (i := 4) sc__law_numbers.nd rfl (by first | exact Or.inl rfl | exact Or.inr rfl)) (pss_cons (ps_set (i := 5) sc__law_numbers.nd rfl (by first | exact Or.inl rfl | exact Or.inr rfl) (pe_op op_modI (pe_callTy call_intOf (by rfl) E.z_int (by decide +kernel) (pa_cons (pe_op op_addU (pe_op op_addU (pe_op op_mulI (pv 2) pe_int) (pe_op op_mulI (pv 4) pe_int)) pe_int) pa_nil)) pe_int)) (pss_one (ps_expr (pe_bm PySem.F.plainAttrs_list PySem.F.slot_list_append PySem.F.type_list_append mt_append (pv 1) (pa_cons (pe_op op_modI (pe_callTy call_intOf (by rfl) E.z_int (by decide +kernel) (pa_cons (pe_op op_addU (pe_op op_mulI (pv 5) pe_int) (pv 4)) pa_nil)) pe_int) pa_nil)))))))))) (pss_cons (ps_if (pt_cmpR (op_eqU hr.units) (pe_callB call_lenU (by rfl) E.z_len (by decide +kernel) (pa_cons (pv 1) pa_nil)) pe_int (nomark _)) (pss_one (ps_expr (pe_bm PySem.F.plainAttrs_list PySem.F.slot_list_append PySem.F.type_list_append mt_append (pv 1) (pa_cons pe_int pa_nil)))) pss_nil) (pss_one (ps_ret (pv 1))))))
set_option maxHeartbeats 4000000 in
theorem ok__law_draw (E : Env K mg)  : FnOk P w K mg base CX0 1 (He.ga K "_law_draw") E.d__law_draw ["row", "at", "limit"] (sp__law_draw K) := by
  refine E.F__law_draw.ok sc__law_draw (fun vs H Q E' h => len__law_draw h) (fun cdv A outer s H vs Q E' hr h => ⟨(t__law_draw K), PSs.nox ?_, pure__law_draw vs H Q E' h⟩)
  exact (pss_cons (ps_if (pt_cmpR (op_ltD hr.units) (pv 1) (pe_callB call_lenU (by rfl) E.z_len (by decide +kernel) (pa_cons (pv 0) pa_nil)) (nomark _)) (pss_one (ps_ret (pe_op op_modI (pe_callTy call_intOf (by rfl) E.z_int (by decide +kernel) (pa_cons (pe_ixU (hu_of hr) (pv 0) (pv 1) (fun _ _ => rfl) (fun _ _ => rfl)) pa_nil)) (pv 2)))) pss_nil) (pss_cons (ps_set (i := 3) sc__law_draw.nd rfl (by first | exact Or.inl rfl | exact Or.inr rfl) (pe_op op_modI (pe_callTy call_intOf (by rfl) E.z_int (by decide +kernel) (pa_cons (pe_op op_addU (pe_op op_addU (pe_op op_mulI (pe_ixU (hu_of hr) (pv 0) (pe_op op_modI (pe_callTy call_intOf (by rfl) E.z_int (by decide +kernel) (pa_cons (pv 1) pa_nil)) (pe_callB call_lenU (by rfl) E.z_len (by decide +kernel) (pa_cons (pv 0) pa_nil))) (fun _ _ => rfl) (fun _ _ => rfl)) pe_int) (pe_op op_mulI (pv 1) pe_int)) pe_int) pa_nil)) pe_int)) (pss_one (ps_ret (pe_op op_modI (pe_callTy call_intOf (by rfl) E.z_int (by decide +kernel) (pa_cons (pe_op op_modI (pe_callTy call_intOf (by rfl) E.z_int (by decide +kernel) (pa_cons (pe_op op_addU (pe_op op_mulI (pv 3) pe_int) (pv 1)) pa_nil)) pe_int) pa_nil)) (pv 2))))))
set_option maxHeartbeats 4000000 in
theorem ok__law_take (E : Env K mg) (G__law_draw : FnOk P w K mg base CX0 1 (He.ga K "_law_draw") E.d__law_draw ["row", "at", "limit"] (sp__law_draw K)) : FnOk P w K mg base CX0 2 (He.ga K "_law_take") E.d__law_take ["row", "spot", "limit"] (sp__law_take K) := by
  refine E.F__law_take.ok sc__law_take (fun vs H Q E' h => len__law_take h) (fun cdv A outer s H vs Q E' hr h => ⟨(t__law_take K), PSs.nox ?_, pure__law_take vs H Q E' h⟩)
  exact (pss_cons (ps_asg (pe_op op_addU (pe_ixU (hu_of hr) (pv 1) pe_int (fun _ _ => rfl) (fun _ _ => rfl)) pe_int) (pg_sub (pv 1) pe_int (set_U (hu_of hr)))) (pss_one (ps_ret (pe_call G__law_draw (hr.mono (by decide)) rfl E.g__law_draw E.F__law_draw.kp E.b__law_draw .nil pass0 (pa_cons (pv 0) (pa_cons (pe_op op_sub (pe_ixU (hu_of hr) (pv 1) pe_int (fun _ _ => rfl) (fun _ _ => rfl)) pe_int) (pa_cons (pv 2) pa_nil)))))))
set_option maxHeartbeats 4000000 in
theorem ok__law_of (E : Env K mg)  : FnOk P w K mg base CX0 2 (He.ga K "_law_of") E.d__law_of ["value"] (sp__law_of K) := by
  refine E.F__law_of.ok sc__law_of (fun vs H Q E' h => len__law_of h) (fun cdv A outer s H vs Q E' hr h => ⟨(t__law_of K), PSs.nox ?_, pure__law_of E.isx E.isk vs H Q E' h⟩)
  exact (pss_cons (ps_set (i := 1) sc__law_of.nd rfl (by first | exact Or.inl rfl | exact Or.inr rfl) (pe_lst (pa_cons (pe_callB call_isX (by rfl) E.z_isinstance (by decide +kernel) (pa_cons (pv 0) (pa_cons (pe_glob rfl E.f_BadValue.g rfl) pa_nil))) (pa_cons (pe_callB call_isX (by rfl) E.z_isinstance (by decide +kernel) (pa_cons (pv 0) (pa_cons (pe_glob rfl E.f_BadText.g rfl) pa_nil))) (pa_cons (pe_callB call_isX (by rfl) E.z_isinstance (by decide +kernel) (pa_cons (pv 0) (pa_cons (pe_glob rfl E.f_BadPaper.g rfl) pa_nil))) (pa_cons (pe_callB call_isX (by rfl) E.z_isinstance (by decide +kernel) (pa_cons (pv 0) (pa_cons (pe_glob rfl E.f_NotMeant.g rfl) pa_nil))) pa_nil)))))) (pss_one (ps_ret (pe_op op_addU (pv 1) (pe_lst (pa_cons (pe_callB call_isX (by rfl) E.z_isinstance (by decide +kernel) (pa_cons (pv 0) (pa_cons (pe_glob rfl E.f_NoWord.g rfl) pa_nil))) (pa_cons (pe_callB call_isX (by rfl) E.z_isinstance (by decide +kernel) (pa_cons (pv 0) (pa_cons (pe_glob rfl E.f_Mixed.g rfl) pa_nil))) (pa_cons (pe_callB call_isX (by rfl) E.z_isinstance (by decide +kernel) (pa_cons (pv 0) (pa_cons (pe_glob rfl E.x_TooMany.g rfl) pa_nil))) pa_nil))))))))
set_option maxHeartbeats 4000000 in
theorem ok__law_foreign (E : Env K mg)  : FnOk P w K mg base CX0 2 (He.ga K "_law_foreign") E.d__law_foreign ["value"] (sp__law_foreign K) := by
  refine E.F__law_foreign.ok sc__law_foreign (fun vs H Q E' h => len__law_foreign h) (fun cdv A outer s H vs Q E' hr h => ⟨(t__law_foreign K), PSs.nox ?_, pure__law_foreign E.isx E.isk vs H Q E' h⟩)
  exact (pss_cons (ps_if (PW.pt (pw_or (pt_val (pe_callB call_isX (by rfl) E.z_isinstance (by decide +kernel) (pa_cons (pv 0) (pa_cons (pe_bltn (v := .ty "ValueError") rfl E.z_ValueError (by decide +kernel) rfl) pa_nil)))) (pw_or1 (pt_val (pe_callB call_isX (by rfl) E.z_isinstance (by decide +kernel) (pa_cons (pv 0) (pa_cons (pe_bltn (v := .ty "LookupError") rfl E.z_LookupError (by decide +kernel) rfl) pa_nil))))))) (pss_one (ps_ret pe_bl)) pss_nil) (pss_one (ps_ret (pe_or (pe_callB call_isX (by rfl) E.z_isinstance (by decide +kernel) (pa_cons (pv 0) (pa_cons (pe_bltn (v := .ty "ArithmeticError") rfl E.z_ArithmeticError (by decide +kernel) rfl) pa_nil))) (pe_one (pe_not (pe_callB call_isX (by rfl) E.z_isinstance (by decide +kernel) (pa_cons (pv 0) (pa_cons (pe_bltn (v := .ty "Exception") rfl E.z_Exception (by decide +kernel) rfl) pa_nil)))))))))
set_option maxHeartbeats 4000000 in
theorem ok__law_caught (E : Env K mg)  : FnOk P w K mg base CX0 4 (He.ga K "_law_caught") E.d__law_caught ["at"] (sp__law_caught K) := by
  refine E.F__law_caught.ok sc__law_caught (fun vs H Q E' h => len__law_caught h) (fun cdv A outer s H vs Q E' hr h => ⟨(t__law_caught K), PSs.nox ?_, pure__law_caught E.isx E.isk vs H Q E' h⟩)
  exact (pss_one (ps_tryS (i := 1) (tb := fun W => (tSeq (tIfS (tTest (tOp (rEqU K) (tVar 0) (tC (.int 0)))) (tRaise0W K "TooMany" W) tNext) (tRaiseFW K "NotMeant" (sp_init1 K "NotMeant" "text") (tCons (tC (.str "a")) tNil) W))) (ts := fun a0 cls0 d0 => (tRet (tCB (rIsS K cls0 d0 a0) (tCons (tVar 1) (tCons (tC (.ref (He.ga K "NotMeant"))) tNil))))) E.bs_SlipError rfl rfl sc__law_caught.nd rfl (by first | rfl | decide) rfl takes0 (fun W pn xe tk ps0 => (pss_cons (ps_if (pt_cmpR (op_eqU hr.units) (pv 0) pe_int (nomark _)) (pss_one (ps_raise rfl tk (E.x_TooMany.mk0 (by exact rfl)))) pss_nil) (pss_one (ps_raise rfl tk (E.f_NotMeant.mk1 (ok_ini_NotMeant E) (hr.mono (by decide)) E.ib_NotMeant (by exact rfl) (pa_cons pe_str pa_nil)))))) (fun a0 oe0 cls0 d0 pn0 hz0 hf0 => (pss_one (ps_ret (pe_callB (call_isS hz0 hf0) (by rfl) E.z_isinstance (by decide +kernel) (pa_cons (pv 1) (pa_cons (pe_glob rfl E.f_NotMeant.g rfl) pa_nil))))))))
set_option maxHeartbeats 4000000 in
theorem ok_law (E : Env K mg) (G__law_numbers : FnOk P w K mg base CX0 1 (He.ga K "_law_numbers") E.d__law_numbers ["script"] (sp__law_numbers K)) (G__law_take : FnOk P w K mg base CX0 2 (He.ga K "_law_take") E.d__law_take ["row", "spot", "limit"] (sp__law_take K)) (G__law_so : FnOk P w K mg base CX0 9 (He.ga K "_law_so") E.d__law_so ["found", "wanted"] (sp__law_so K 8)) (G__law_of : FnOk P w K mg base CX0 2 (He.ga K "_law_of") E.d__law_of ["value"] (sp__law_of K)) (G__law_foreign : FnOk P w K mg base CX0 2 (He.ga K "_law_foreign") E.d__law_foreign ["value"] (sp__law_foreign K)) (G__law_caught : FnOk P w K mg base CX0 4 (He.ga K "_law_caught") E.d__law_caught ["at"] (sp__law_caught K)) : FnOk P w K mg base CX0 20 (He.ga K "law") E.d_law ["script"] (sp_law K) := by
  refine E.F_law.ok sc_law (fun vs H Q E' h => len_law h) (fun cdv A outer s H vs Q E' hr h => ⟨(t_law K), PSs.nox ?_, pure_law (lawF E) vs H Q E' h⟩)
  exact (pss_cons (ps_set (i := 1) sc_law.nd rfl (by first | exact Or.inl rfl | exact Or.inr rfl) (pe_call G__law_numbers (hr.mono (by decide)) rfl E.g__law_numbers E.F__law_numbers.kp E.b__law_numbers .nil pass0 (pa_cons (pv 0) pa_nil))) (pss_cons (ps_set (i := 2) sc_law.nd rfl (by first | exact Or.inl rfl | exact Or.inr rfl) (pe_lst (pa_cons pe_int pa_nil))) (pss_cons (ps_set (i := 3) sc_law.nd rfl (by first | exact Or.inl rfl | exact Or.inr rfl) (pe_op op_sub (pe_call G__law_take (hr.mono (by decide)) rfl E.g__law_take E.F__law_take.kp E.b__law_take .nil pass0 (pa_cons (pv 1) (pa_cons (pv 2) (pa_cons pe_int pa_nil)))) pe_int)) (pss_cons (ps_set (i := 4) sc_law.nd rfl (by first | exact Or.inl rfl | exact Or.inr rfl) (pe_ixU (hu_of hr) (pe_lst (pa_cons pe_non (pa_cons (pe_un un_negI (pv 3)) (pa_cons pe_str (pa_cons (pe_tup (pa_cons (pv 3) (pa_cons pe_int pa_nil))) (pa_cons pe_bl pa_nil)))))) (pe_call G__law_take (hr.mono (by decide)) rfl E.g__law_take E.F__law_take.kp E.b__law_take .nil pass0 (pa_cons (pv 1) (pa_cons (pv 2) (pa_cons pe_int pa_nil)))) (fun _ _ => rfl) (fun _ _ => rfl))) (pss_cons (ps_for PassesOwn.never rfl (pi_seq (pe_lst (pa_cons (pe_mkV (n := 1) E.f_BadValue (ok_ini_BadValue E) (hr.mono (by decide)) (E.kb_BadValue) pass0 (by exact rfl) (pa_cons (pv 3) pa_nil)) (pa_cons (pe_mkV (n := 1) E.f_BadText (ok_ini_BadText E) (hr.mono (by decide)) (E.kb_BadText) pass0 (by exact rfl) (pa_cons (pv 3) pa_nil)) (pa_cons (pe_mkV (n := 1) E.f_BadPaper (ok_ini_BadPaper E) (hr.mono (by decide)) (E.kb_BadPaper) pass0 (by exact rfl) (pa_cons (pv 3) pa_nil)) (pa_cons (pe_mkVK E.f_BadValue (ok_ini_BadValue E) (hr.mono (by decide)) (E.kb_BadValue_at) pass0 (by exact rfl) (pk_cons (pv 3) pk_nil)) (pa_cons (pe_mkVK E.f_BadText (ok_ini_BadText E) (hr.mono (by decide)) (E.kb_BadText_at) pass0 (by exact rfl) (pk_cons (pv 3) pk_nil)) (pa_cons (pe_mkVK E.f_BadPaper (ok_ini_BadPaper E) (hr.mono (by decide)) (E.kb_BadPaper_at) pass0 (by exact rfl) (pk_cons (pv 3) pk_nil)) pa_nil)))))))) (pg_name (i := 5) sc_law.nd rfl (by first | exact Or.inl rfl | exact Or.inr rfl)) (pss_one (ps_if (pt_not (pt_val (pe_call G__law_so (hr.mono (by decide)) rfl E.g__law_so E.F__law_so.kp E.b__law_so .nil pass0 (pa_cons (pe_getX (pv 5)) (pa_cons (pv 3) pa_nil))))) (pss_one (ps_ret pe_bl)) pss_nil))) (pss_cons (ps_for PassesOwn.never rfl (pi_seq (pe_lst (pa_cons (pe_mkV (n := 1) E.f_NotMeant (ok_ini_NotMeant E) (hr.mono (by decide)) (E.kb_NotMeant) pass0 (by exact rfl) (pa_cons (pv 4) pa_nil)) (pa_cons (pe_mkVK E.f_NotMeant (ok_ini_NotMeant E) (hr.mono (by decide)) (E.kb_NotMeant_text) pass0 (by exact rfl) (pk_cons (pv 4) pk_nil)) pa_nil)))) (pg_name (i := 5) sc_law.nd rfl (by first | exact Or.inl rfl | exact Or.inr rfl)) (pss_one (ps_if (pt_not (pt_val (pe_call G__law_so (hr.mono (by decide)) rfl E.g__law_so E.F__law_so.kp E.b__law_so .nil pass0 (pa_cons (pe_getX (pv 5)) (pa_cons (pv 4) pa_nil))))) (pss_one (ps_ret pe_bl)) pss_nil))) (pss_cons (ps_for PassesOwn.never rfl (pi_seq (pe_lst (pa_cons (pe_mkV (n := 1) E.f_NoWord (ok_ini_NoWord E) (hr.mono (by decide)) (E.kb_NoWord) pass0 (by exact rfl) (pa_cons (pv 4) pa_nil)) (pa_cons (pe_mkVK E.f_NoWord (ok_ini_NoWord E) (hr.mono (by decide)) (E.kb_NoWord_word) pass0 (by exact rfl) (pk_cons (pv 4) pk_nil)) pa_nil)))) (pg_name (i := 5) sc_law.nd rfl (by first | exact Or.inl rfl | exact Or.inr rfl)) (pss_one (ps_if (pt_not (pt_val (pe_call G__law_so (hr.mono (by decide)) rfl E.g__law_so E.F__law_so.kp E.b__law_so .nil pass0 (pa_cons (pe_getX (pv 5)) (pa_cons (pv 4) pa_nil))))) (pss_one (ps_ret pe_bl)) pss_nil))) (pss_cons (ps_for PassesOwn.never rfl (pi_seq (pe_lst (pa_cons (pe_mkV (n := 2) E.f_Mixed (ok_ini_Mixed E) (hr.mono (by decide)) (E.kb_Mixed) pass0 (by exact rfl) (pa_cons pe_str (pa_cons pe_str pa_nil))) (pa_cons (pe_mkVK E.f_Mixed (ok_ini_Mixed E) (hr.mono (by decide)) (E.kb_Mixed_text_word) pass0 (by exact rfl) (pk_cons pe_str (pk_cons pe_str pk_nil))) pa_nil)))) (pg_name (i := 5) sc_law.nd rfl (by first | exact Or.inl rfl | exact Or.inr rfl)) (pss_one (ps_if (pt_not (pt_val (pe_call G__law_so (hr.mono (by decide)) rfl E.g__law_so E.F__law_so.kp E.b__law_so .nil pass0 (pa_cons (pe_tup (pa_cons (pe_getX (pv 5)) (pa_cons (pe_getX (pv 5)) pa_nil))) (pa_cons (pe_tup (pa_cons pe_str (pa_cons pe_str pa_nil))) pa_nil))))) (pss_one (ps_ret pe_bl)) pss_nil))) (pss_cons (ps_set (i := 6) sc_law.nd rfl (by first | exact Or.inl rfl | exact Or.inr rfl) (pe_lst (pa_cons (pe_mkV (n := 1) E.f_BadValue (ok_ini_BadValue E) (hr.mono (by decide)) (E.kb_BadValue) pass0 (by exact rfl) (pa_cons (pv 3) pa_nil)) (pa_cons (pe_mkV (n := 1) E.f_BadText (ok_ini_BadText E) (hr.mono (by decide)) (E.kb_BadText) pass0 (by exact rfl) (pa_cons (pv 3) pa_nil)) (pa_cons (pe_mkV (n := 1) E.f_BadPaper (ok_ini_BadPaper E) (hr.mono (by decide)) (E.kb_BadPaper) pass0 (by exact rfl) (pa_cons (pv 3) pa_nil)) (pa_cons (pe_mkV (n := 1) E.f_NotMeant (ok_ini_NotMeant E) (hr.mono (by decide)) (E.kb_NotMeant) pass0 (by exact rfl) (pa_cons (pv 4) pa_nil)) (pa_cons (pe_mkV (n := 1) E.f_NoWord (ok_ini_NoWord E) (hr.mono (by decide)) (E.kb_NoWord) pass0 (by exact rfl) (pa_cons (pv 4) pa_nil)) (pa_cons (pe_mkV (n := 2) E.f_Mixed (ok_ini_Mixed E) (hr.mono (by decide)) (E.kb_Mixed) pass0 (by exact rfl) (pa_cons pe_str (pa_cons pe_str pa_nil))) (pa_cons (pe_mkV0 E.x_TooMany (by exact rfl)) pa_nil))))))))) (pss_cons (ps_for PassesOwn.never rfl (pi_range1 (by rfl) E.z_range (pa_cons pe_int pa_nil)) (pg_name (i := 7) sc_law.nd rfl (by first | exact Or.inl rfl | exact Or.inr rfl)) (pss_one (ps_if (PW.pt (pw_or (pt_cmpR (op_neU hr.units) (pe_call G__law_of (hr.mono (by decide)) rfl E.g__law_of E.F__law_of.kp E.b__law_of .nil pass0 (pa_cons (pe_ixU (hu_of hr) (pv 6) (pv 7) (fun _ _ => rfl) (fun _ _ => rfl)) pa_nil)) (pe_lc (own := [("one", 8)]) (g := (gName 8)) (tt := tYes) rfl sc_law.nd (pi_range1 (by rfl) E.z_range (pa_cons pe_int pa_nil)) (blkOk_by (own := [("one", 8)]) (N := names_law) (sc := defScope st_law) (by decide +kernel)) (fun _ _ _ _ _ => (pg_name (i := 8) sc_law.nd rfl (by first | exact Or.inl rfl | exact Or.inr rfl))) (fun _ _ _ _ _ => pts_nil) (fun _ _ _ _ _ => (pe_cmpR (op_eqU hr.units) (pv 8) (pv 7) (nomark _)))) (nomark _)) (pw_or (pt_val (pe_call G__law_foreign (hr.mono (by decide)) rfl E.g__law_foreign E.F__law_foreign.kp E.b__law_foreign .nil pass0 (pa_cons (pe_ixU (hu_of hr) (pv 6) (pv 7) (fun _ _ => rfl) (fun _ _ => rfl)) pa_nil))) (pw_or1 (pt_not (pt_val (pe_callB call_isX (by rfl) E.z_isinstance (by decide +kernel) (pa_cons (pe_ixU (hu_of hr) (pv 6) (pv 7) (fun _ _ => rfl) (fun _ _ => rfl)) (pa_cons (pe_glob rfl E.bs_SlipError.g rfl) pa_nil))))))))) (pss_one (ps_ret pe_bl)) pss_nil))) (pss_one (ps_ret (pe_and (pe_not (pe_call G__law_caught (hr.mono (by decide)) rfl E.g__law_caught E.F__law_caught.kp E.b__law_caught .nil pass0 (pa_cons pe_int pa_nil))) (pe_one (pe_call G__law_caught (hr.mono (by decide)) rfl E.g__law_caught E.F__law_caught.kp E.b__law_caught .nil pass0 (pa_cons (pe_op op_addU pe_int (pe_call G__law_take (hr.mono (by decide)) rfl E.g__law_take E.F__law_take.kp E.b__law_take .nil pass0 (pa_cons (pv 1) (pa_cons (pv 2) (pa_cons pe_int pa_nil))))) pa_nil))))))))))))))))
end
/-! ### the head -/
def dd__law_so : He.DefD := ⟨("_law_so", none), "_law_so", "_law_so", defArgs st__law_so, defBody st__law_so, defScope st__law_so, [], []⟩
def dd__law_numbers : He.DefD := ⟨("_law_numbers", none), "_law_numbers", "_law_numbers", defArgs st__law_numbers, defBody st__law_numbers, defScope st__law_numbers, [], []⟩
def dd__law_draw : He.DefD := ⟨("_law_draw", none), "_law_draw", "_law_draw", defArgs st__law_draw, defBody st__law_draw, defScope st__law_draw, [], []⟩
def dd__law_take : He.DefD := ⟨("_law_take", none), "_law_take", "_law_take", defArgs st__law_take, defBody st__law_take, defScope st__law_take, [], []⟩
def dd__law_of : He.DefD := ⟨("_law_of", none), "_law_of", "_law_of", defArgs st__law_of, defBody st__law_of, defScope st__law_of, [], []⟩
def dd__law_foreign : He.DefD := ⟨("_law_foreign", none), "_law_foreign", "_law_foreign", defArgs st__law_foreign, defBody st__law_foreign, defScope st__law_foreign, [], []⟩
def dd__law_caught : He.DefD := ⟨("_law_caught", none), "_law_caught", "_law_caught", defArgs st__law_caught, defBody st__law_caught, defScope st__law_caught, [], []⟩
def dd_law : He.DefD := ⟨("law", none), "law", "law", defArgs st_law, defBody st_law, defScope st_law, [], []⟩
def di_BadPaper : He.DefD := ⟨("BadPaper", some "__init__"), "__init__", "BadPaper.__init__", defArgs ini_BadPaper, defBody ini_BadPaper, defScope ini_BadPaper, [], []⟩
def di_BadText : He.DefD := ⟨("BadText", some "__init__"), "__init__", "BadText.__init__", defArgs ini_BadText, defBody ini_BadText, defScope ini_BadText, [], []⟩
def di_BadValue : He.DefD := ⟨("BadValue", some "__init__"), "__init__", "BadValue.__init__", defArgs ini_BadValue, defBody ini_BadValue, defScope ini_BadValue, [], []⟩
def di_Mixed : He.DefD := ⟨("Mixed", some "__init__"), "__init__", "Mixed.__init__", defArgs ini_Mixed, defBody ini_Mixed, defScope ini_Mixed, [], []⟩
def di_NoWord : He.DefD := ⟨("NoWord", some "__init__"), "__init__", "NoWord.__init__", defArgs ini_NoWord, defBody ini_NoWord, defScope ini_NoWord, [], []⟩
def di_NotMeant : He.DefD := ⟨("NotMeant", some "__init__"), "__init__", "NotMeant.__init__", defArgs ini_NotMeant, defBody ini_NotMeant, defScope ini_NotMeant, [], []⟩
def fn : List He.DefD := [dd__law_so, dd__law_numbers, dd__law_draw, dd__law_take, dd__law_of, dd__law_foreign, dd__law_caught, dd_law, di_BadPaper, di_BadText, di_BadValue, di_Mixed, di_NoWord, di_NotMeant]
def fa0 : List He.Fa := [.glo "_law_so", .glo "_law_numbers", .glo "_law_draw", .glo "_law_take", .glo "_law_of", .glo "_law_foreign", .glo "_law_caught", .glo "law", .free "ArithmeticError", .free "Exception", .free "LookupError", .free "ValueError", .free "bool", .free "int", .free "isinstance", .free "len", .free "range", .free "str", .free "tuple"]
def fa : List He.Fa := fa0
abbrev Rw : PySem.W.OpenRow := PySem.W.OpenLaw.row PySem.Challenge.rw_slipworth_k00_errors
def bs : List Bi := []
def xs : List Str := ["TooMany"]
def ys : List (Str × List Str) := [("BadPaper", ["at"]), ("BadText", ["at"]), ("BadValue", ["at"]), ("Mixed", ["word", "text"]), ("NoWord", ["word"]), ("NotMeant", ["text"])]
def zs : List (Str × List Str) := [("SlipError", ["TooMany", "NotMeant"])]
abbrev hk : PySem.W.Hook := hookE 4 fa fn (exH bs xs ys isX isK zs)
def ob (s : PySem.W.SharedT) : He.AlD := obsEG 4 fa fn (exH bs xs ys isX isK zs) (HandSHeadRun.getT s)
theorem ob_eq (s : PySem.W.SharedT) : ob s = hk.obs s.abs := obsEG_eq (HandSHeadRun.getT_eq s)
abbrev lo0 : List PySem.Str := ["SlipError", "BadValue", "BadText", "BadPaper", "NotMeant", "NoWord", "Mixed", "TooMany", "_law_so", "_law_numbers", "_law_draw", "_law_take", "_law_of", "_law_foreign", "_law_caught"]
abbrev loose : List PySem.Str := lo0
theorem run (w : World) : HandSHeadRun.RunEq Rw (PySem.W.view Rw.prog [17]) hk ob 4000 loose w := by
  intro os
  kernel_rfl
section
variable {P : Program} {w : World} {K : Frag} {mg : Str → Option Value} {base : Heap}
theorem rec__law_so (E : Env K mg) : ∀ n : Nat, FnOk P w K mg base CX0 (n + 1) (He.ga K "_law_so") E.d__law_so ["found", "wanted"] (sp__law_so K n)
  | 0 => E.F__law_so.ok sc__law_so (fun vs H Q E' h => len__law_so h) (fun cdv A outer s H vs Q E' hr h => absurd h no__law_so)
  | n + 1 => ok__law_so E (rec__law_so E n)
theorem all__law_so (E : Env K mg) : FnOk P w K mg base CX0 9 (He.ga K "_law_so") E.d__law_so ["found", "wanted"] (sp__law_so K 8) := rec__law_so E 8
theorem all__law_numbers (E : Env K mg) : FnOk P w K mg base CX0 1 (He.ga K "_law_numbers") E.d__law_numbers ["script"] (sp__law_numbers K) := ok__law_numbers E 
theorem all__law_draw (E : Env K mg) : FnOk P w K mg base CX0 1 (He.ga K "_law_draw") E.d__law_draw ["row", "at", "limit"] (sp__law_draw K) := ok__law_draw E 
theorem all__law_take (E : Env K mg) : FnOk P w K mg base CX0 2 (He.ga K "_law_take") E.d__law_take ["row", "spot", "limit"] (sp__law_take K) := ok__law_take E (all__law_draw E)
theorem all__law_of (E : Env K mg) : FnOk P w K mg base CX0 2 (He.ga K "_law_of") E.d__law_of ["value"] (sp__law_of K) := ok__law_of E 
theorem all__law_foreign (E : Env K mg) : FnOk P w K mg base CX0 2 (He.ga K "_law_foreign") E.d__law_foreign ["value"] (sp__law_foreign K) := ok__law_foreign E 
theorem all__law_caught (E : Env K mg) : FnOk P w K mg base CX0 4 (He.ga K "_law_caught") E.d__law_caught ["at"] (sp__law_caught K) := ok__law_caught E 
theorem all_law (E : Env K mg) : FnOk P w K mg base CX0 20 (He.ga K "law") E.d_law ["script"] (sp_law K) := ok_law E (all__law_numbers E) (all__law_take E) (all__law_so E) (all__law_of E) (all__law_foreign E) (all__law_caught E)
theorem facts {h : Heap} {f : Addr} (X : K.In h) (G : h.Ns mainGlobals mg) (hfa : mg ("law" : Str) = some (.ref f)) (c0 : SaysE fa fn (exH bs xs ys isX isK zs) K) :
    ∃ fd : FuncData, (∀ (s : Shared) (v : Value), BindsTo s fd ⟨[v], []⟩ [("script", v)]) ∧ ∀ base : Heap, K.In base → base.Ns mainGlobals mg → FnOk P w K mg base CX0 20 f fd ["script"] (sp_law K) := by
  have c := c0.d
  have cn : exH bs xs ys isX isK zs K = true := c0.more
  have cm : exF bs xs ys K = true := (He.ba cn).1
  obtain ⟨f__law_so, F__law_so⟩ := c.def_ 0 (d := dd__law_so) rfl
  obtain ⟨f__law_numbers, F__law_numbers⟩ := c.def_ 1 (d := dd__law_numbers) rfl
  obtain ⟨f__law_draw, F__law_draw⟩ := c.def_ 2 (d := dd__law_draw) rfl
  obtain ⟨f__law_take, F__law_take⟩ := c.def_ 3 (d := dd__law_take) rfl
  obtain ⟨f__law_of, F__law_of⟩ := c.def_ 4 (d := dd__law_of) rfl
  obtain ⟨f__law_foreign, F__law_foreign⟩ := c.def_ 5 (d := dd__law_foreign) rfl
  obtain ⟨f__law_caught, F__law_caught⟩ := c.def_ 6 (d := dd__law_caught) rfl
  obtain ⟨f_law, F_law⟩ := c.def_ 7 (d := dd_law) rfl
  obtain ⟨fi_BadPaper, Fi_BadPaper⟩ := c.def_ 8 (d := di_BadPaper) rfl
  obtain ⟨fi_BadText, Fi_BadText⟩ := c.def_ 9 (d := di_BadText) rfl
  obtain ⟨fi_BadValue, Fi_BadValue⟩ := c.def_ 10 (d := di_BadValue) rfl
  obtain ⟨fi_Mixed, Fi_Mixed⟩ := c.def_ 11 (d := di_Mixed) rfl
  obtain ⟨fi_NoWord, Fi_NoWord⟩ := c.def_ 12 (d := di_NoWord) rfl
  obtain ⟨fi_NotMeant, Fi_NotMeant⟩ := c.def_ 13 (d := di_NotMeant) rfl
  let E : Env K mg := {
    d__law_so := f__law_so
    F__law_so := F__law_so
    g__law_so := He.glo_ok X G (c.fact 0 (f := .glo "_law_so") rfl)
    d__law_numbers := f__law_numbers
    F__law_numbers := F__law_numbers
    g__law_numbers := He.glo_ok X G (c.fact 1 (f := .glo "_law_numbers") rfl)
    d__law_draw := f__law_draw
    F__law_draw := F__law_draw
    g__law_draw := He.glo_ok X G (c.fact 2 (f := .glo "_law_draw") rfl)
    d__law_take := f__law_take
    F__law_take := F__law_take
    g__law_take := He.glo_ok X G (c.fact 3 (f := .glo "_law_take") rfl)
    d__law_of := f__law_of
    F__law_of := F__law_of
    g__law_of := He.glo_ok X G (c.fact 4 (f := .glo "_law_of") rfl)
    d__law_foreign := f__law_foreign
    F__law_foreign := F__law_foreign
    g__law_foreign := He.glo_ok X G (c.fact 5 (f := .glo "_law_foreign") rfl)
    d__law_caught := f__law_caught
    F__law_caught := F__law_caught
    g__law_caught := He.glo_ok X G (c.fact 6 (f := .glo "_law_caught") rfl)
    d_law := f_law
    F_law := F_law
    g_law := He.glo_ok X G (c.fact 7 (f := .glo "law") rfl)
    z_ArithmeticError := He.free_ok X G (c.fact 8 (f := .free "ArithmeticError") rfl)
    z_Exception := He.free_ok X G (c.fact 9 (f := .free "Exception") rfl)
    z_LookupError := He.free_ok X G (c.fact 10 (f := .free "LookupError") rfl)
    z_ValueError := He.free_ok X G (c.fact 11 (f := .free "ValueError") rfl)
    z_bool := He.free_ok X G (c.fact 12 (f := .free "bool") rfl)
    z_int := He.free_ok X G (c.fact 13 (f := .free "int") rfl)
    z_isinstance := He.free_ok X G (c.fact 14 (f := .free "isinstance") rfl)
    z_len := He.free_ok X G (c.fact 15 (f := .free "len") rfl)
    z_range := He.free_ok X G (c.fact 16 (f := .free "range") rfl)
    z_str := He.free_ok X G (c.fact 17 (f := .free "str") rfl)
    z_tuple := He.free_ok X G (c.fact 18 (f := .free "tuple") rfl)
    x_TooMany := excE2 cm 0 X G
    f_BadPaper := excFE cm 0 X G
    id_BadPaper := fi_BadPaper
    iF_BadPaper := Fi_BadPaper
    f_BadText := excFE cm 1 X G
    id_BadText := fi_BadText
    iF_BadText := Fi_BadText
    f_BadValue := excFE cm 2 X G
    id_BadValue := fi_BadValue
    iF_BadValue := Fi_BadValue
    f_Mixed := excFE cm 3 X G
    id_Mixed := fi_Mixed
    iF_Mixed := Fi_Mixed
    f_NoWord := excFE cm 4 X G
    id_NoWord := fi_NoWord
    iF_NoWord := Fi_NoWord
    f_NotMeant := excFE cm 5 X G
    id_NotMeant := fi_NotMeant
    iF_NotMeant := Fi_NotMeant
    bs_SlipError := exH_zs cn 0 X G
    isx := exH_is cn
    isk := exH_qs cn }
  have e := hfa.symm.trans E.g_law
  cases e
  have b := FunD.bindsA (ps := ["script"]) F_law fun _ _ _ _ _ _ us hl => match us, hl with | [_], _ => rfl
  exact ⟨f_law, fun s v => b s [v] rfl, fun base _ _ => all_law E⟩
end
end K00
open PySem PySem.W PySem.Calls PyProof.Rows
theorem PySem.Challenge.cw_slipworth_k00_errors_holds : PySem.Challenge.rw_slipworth_k00_errors.Holds := by
  w_on; o_law
  refine HandSHeadRun.head_any (r := OpenLaw.row PySem.Challenge.rw_slipworth_k00_errors) (q := view (OpenLaw.row PySem.Challenge.rw_slipworth_k00_errors).prog [17]) (H := K00.hk) (ob := K00.ob) (M := 4000) (loose := K00.loose) (d := HandSHeadRun.topDef (OpenLaw.row PySem.Challenge.rw_slipworth_k00_errors).prog 17) (kwd := []) K00.ob_eq
    (by kernel_rfl) (fun s => by kernel_rfl) K00.run (by kernel_rfl) (by kernel_rfl) (by kernel_rfl) (by rfl) (by first | assumption | decide +kernel) (by decide +kernel) ⟨rfl, rfl, rfl, rfl, rfl, by decide +kernel⟩ ?hw ?hc
  case hw => w_witness2
  case hc =>
    refine L2.walk_ofE (l := PySem.Challenge.rw_slipworth_k00_errors) (n := 63) (k := 20) (x := "script") (CX := L2.CX0) rfl (by decide) (by kernel_rfl) ⟨rfl, by decide, by decide⟩ ?F (fun _ _ _ _ z => z)
    intro w mg fa h Y G hmg0
    obtain ⟨K, KX, c⟩ := Y
    have hmg : mg ("law" : PySem.Str) = some (.ref fa) := by
      have e : (HandSHeadRun.topDef (OpenLaw.row PySem.Challenge.rw_slipworth_k00_errors).prog 17).name = ("law" : PySem.Str) := by kernel_rfl
      rw [← e]
      exact hmg0
    obtain ⟨fd, hb, hF⟩ := K00.facts (P := (PySem.Challenge.rw_slipworth_k00_errors).prog) (w := w) KX G hmg c
    exact ⟨K, fd, K00.sp_law K, KX, hb, fun H a ns hl _ hS => ⟨a, ns, rfl, hS, hl, fun _ => rfl⟩, hF⟩
