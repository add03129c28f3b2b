import PyProof.Rows.All
import Wide.All
import OpenK.AllK
import Wide.FinOn
import HandS.Base
import HandS.Call
import HandS.List
import HandS.Comp
import HandS.Dict
import HandS.Iter
import HandS.Text
import HandS.Words
import HandS.Evl
import KE.DataCmp
import KE.SortData
import HandS.Walk
import HandS.IsInst
import HandS.TupAny
import HandS.TupLen
import HandS.Small
import HandS.Style
import HandS.Rev
import HandS.NoneIn
import HandS.TryOnly
import HandS.WordsDict
import HandS.WordsList
import HandS.Head0
import HandS.Head1
import HandS.Head2
import HandS.HeadEnd
import HandS.HeadHook1
import HandS.HeadHook2
import HandS.Defaults
import HandS.Conv
import HandS.More
import HandS.DictComp
import PySem.Challenge.RW_slipworth_k15_machines_told_apart
import HandS.WordsExc
import KE.KStateDown
set_option Elab.async false
set_option linter.all false
set_option maxRecDepth 100000
set_option maxHeartbeats 4000000
/-! rules of our own over the hand layer: one rule an operator, whatever its operands are -/
namespace Slip
open PySem PySem.Spec PyProof.Rows L2
section
variable {X : Cx} {e tg : Expr}
theorem pe_alt {t1 t2 : TE} (h1 : PE X e t1) (h2 : PE X e t2) : PE X e (fun σ H Q => t1 σ H Q ∨ t2 σ H Q) :=
  ⟨fun pins s σ H Q I h => h.elim (h1.run pins s σ H Q I) (h2.run pins s σ H Q I)⟩
theorem pi_alt {w1 w2 : TI} (h1 : PI X tg e w1) (h2 : PI X tg e w2) : PI X tg e (fun σ H R => w1 σ H R ∨ w2 σ H R) :=
  ⟨fun pins s σ H R I h => h.elim (h1.run pins s σ H R I) (h2.run pins s σ H R I)⟩
theorem pg_alt {g1 g2 : TG} (h1 : PG X e g1) (h2 : PG X e g2) : PG X e (fun v σ H Q => g1 v σ H Q ∨ g2 v σ H Q) :=
  ⟨fun pins s σ H v u Q I r h => h.elim (h1.run pins s σ H v u Q I r) (h2.run pins s σ H v u Q I r)⟩
theorem pset_alt {t1 t2 : TSet} (h1 : PSet X t1) (h2 : PSet X t2) : PSet X (fun o i v H Q => t1 o i v H Q ∨ t2 o i v H Q) :=
  fun pins s σ H o i v ov iv u Q I r1 r2 r3 h => h.elim (h1 pins s σ H o i v ov iv u Q I r1 r2 r3) (h2 pins s σ H o i v ov iv u Q I r1 r2 r3)
end
/-! ### comparisons of data -/
def rCmp (K : PySem.W.Frag) (g : PyData → PyData → Bool) : R2 := fun x y H Q => ∃ d e, Dp K H x d ∧ Dp K H y e ∧ PySem.W.alike d e = true ∧ d ≠ .none ∧ d.depth ≤ 64 ∧ Q (.bl (g d e)) H
abbrev gLt (d e : PyData) : Bool := PySem.W.dataLt d e
abbrev gGt (d e : PyData) : Bool := PySem.W.dataLt e d
abbrev gLe (d e : PyData) : Bool := !PySem.W.dataLt e d
abbrev gGe (d e : PyData) : Bool := !PySem.W.dataLt d e
section
variable {X : Cx}
theorem room_min {A : Around} {d e : PyData} (hd : d.depth ≤ 64) (hu : A.units + 64 < cLine) : A.units + min d.depth e.depth < cLine := by
  have := Nat.min_le_left d.depth e.depth
  omega
theorem op_ltD (hu : X.A.units + 64 < cLine) : OpR X (compareOp .Lt) (rCmp X.K gLt) := by
  intro pins s σ H x y v u Q I rx ry h
  obtain ⟨d, e, hd, he, al, nn, dp, q⟩ := h
  obtain ⟨as, r1⟩ := Dp.reads I d x v hd rx
  obtain ⟨bs, r2⟩ := Dp.reads I e y u he ry
  exact PySem.W.lt_data r1 r2 al nn (room_min dp hu) ⟨.bl _, H, I, rfl, q⟩
theorem op_gtD (hu : X.A.units + 64 < cLine) : OpR X (compareOp .Gt) (rCmp X.K gGt) := by
  intro pins s σ H x y v u Q I rx ry h
  obtain ⟨d, e, hd, he, al, nn, dp, q⟩ := h
  obtain ⟨as, r1⟩ := Dp.reads I d x v hd rx
  obtain ⟨bs, r2⟩ := Dp.reads I e y u he ry
  exact PySem.W.gt_data r1 r2 al nn (room_min dp hu) ⟨.bl _, H, I, rfl, q⟩
theorem op_leD (hu : X.A.units + 64 < cLine) : OpR X (compareOp .LtE) (rCmp X.K gLe) := by
  intro pins s σ H x y v u Q I rx ry h
  obtain ⟨d, e, hd, he, al, nn, dp, q⟩ := h
  obtain ⟨as, r1⟩ := Dp.reads I d x v hd rx
  obtain ⟨bs, r2⟩ := Dp.reads I e y u he ry
  exact PySem.W.le_data r1 r2 al nn (room_min dp hu) ⟨.bl _, H, I, rfl, q⟩
theorem op_geD (hu : X.A.units + 64 < cLine) : OpR X (compareOp .GtE) (rCmp X.K gGe) := by
  intro pins s σ H x y v u Q I rx ry h
  obtain ⟨d, e, hd, he, al, nn, dp, q⟩ := h
  obtain ⟨as, r1⟩ := Dp.reads I d x v hd rx
  obtain ⟨bs, r2⟩ := Dp.reads I e y u he ry
  exact PySem.W.ge_data r1 r2 al nn (room_min dp hu) ⟨.bl _, H, I, rfl, q⟩
end
/-! ### arithmetic by names -/
abbrev rSubI : R2 := rI0 fun i j => .int (i - j)
abbrev rAddI : R2 := rI0 fun i j => .int (i + j)
abbrev rAddS : R2 := fun x y H Q => ∃ i j, x = .str i ∧ y = .str j ∧ i.length + j.length ≤ sizeLine ∧ Q (.str (i ++ j)) H
/-! ### isinstance of data -/
/-- the built-in class of a datum -/
def tyD : PyData → String
  | .none => "NoneType"
  | .bool _ => "bool"
  | .int _ => "int"
  | .str _ => "str"
  | .list _ => "list"
  | .tuple _ => "tuple"
  | .dict _ => "dict"
end Slip
/-! what an expression comes to, with a relation between heaps -/
namespace Slip
open PySem PySem.Spec PyProof.Rows L2
abbrev Frag := PySem.W.Frag
/-- a list of one number, not below nought -/
def Spot (a : Addr) (H : Hp) : Prop := ∃ k : Int, 0 ≤ k ∧ H a = some (.lst [.int k])
/-- which objects may change (S), which of them stay a list of one number (P) -/
structure Rl where
  S : Addr → Prop
  P : Addr → Prop
  sub : ∀ a, P a → S a
structure Rl.r (ρ : Rl) (H H' : Hp) : Prop where
  keep : ∀ a o, ¬ ρ.S a → H a = some o → H' a = some o
  back : ∀ a, H' a = none → H a = none
  tup : ∀ a xs, H a = some (.tup xs) → H' a = some (.tup xs)
  frz : ∀ a o u, H a = some (.frz o u) → H' a = some (.frz o u)
  spot : ∀ a, ρ.P a → Spot a H → Spot a H'
abbrev exR : Rl := ⟨fun _ => False, fun _ => False, fun _ h => h⟩
abbrev spR (a : Addr) : Rl := ⟨fun b => b = a, fun b => b = a, fun _ h => h⟩
/-- D may change too -/
abbrev Rl.and (ρ : Rl) (D : Addr) : Rl := ⟨fun a => ρ.S a ∨ a = D, ρ.P, fun a h => .inl (ρ.sub a h)⟩
abbrev Ext (H H' : Hp) : Prop := ∀ a o, H a = some o → H' a = some o
theorem Ext.r {ρ : Rl} {H H' : Hp} (e : Ext H H') : ρ.r H H' :=
  ⟨fun a o _ h => e a o h, fun a h => Evl.fresh_back e h, fun a xs h => e a _ h, fun a o u h => e a _ h, fun a _ ⟨k, h0, h⟩ => ⟨k, h0, e a _ h⟩⟩
theorem Rl.r.rfl {ρ : Rl} {H : Hp} : ρ.r H H := Ext.r fun _ _ h => h
theorem Rl.r.trans {ρ : Rl} {H H1 H2 : Hp} (a : ρ.r H H1) (b : ρ.r H1 H2) : ρ.r H H2 :=
  ⟨fun x o n h => b.keep x o n (a.keep x o n h), fun x h => a.back x (b.back x h), fun x xs h => b.tup x xs (a.tup x xs h), fun x o u h => b.frz x o u (a.frz x o u h), fun x p h => b.spot x p (a.spot x p h)⟩
theorem Rl.r.ext {H H' : Hp} (e : exR.r H H') : Ext H H' := fun a o h => e.keep a o (fun z => z) h
theorem ext_new {H : Hp} {p : Addr} (o : HO) (h : H p = none) : Ext H (upd H p o) := fun a u q => by rw [upd_ne (ne_of_none q h)]; exact q
theorem r_new {ρ : Rl} {H : Hp} {p : Addr} (o : HO) (h : H p = none) : ρ.r H (upd H p o) := Ext.r (ext_new o h)
theorem r_new2 {ρ : Rl} {H H1 : Hp} (e : ρ.r H H1) {p : Addr} (o : HO) (h : H1 p = none) : ρ.r H (upd H1 p o) := e.trans (r_new o h)
/-- an object that H does not know may change, if it is no tuple, none that is locked -/
theorem r_mut {ρ : Rl} {H H1 : Hp} {p : Addr} {o : HO} (e : ρ.r H H1) (h : H p = none) : ρ.r H (upd H1 p o) :=
  ⟨fun a u n q => by rw [upd_ne (ne_of_none q h)]; exact e.keep a u n q,
   fun a q => by
    by_cases z : a = p
    · subst z; exact h
    · rw [upd_ne z] at q; exact e.back a q,
   fun a xs q => by rw [upd_ne (ne_of_none q h)]; exact e.tup a xs q, fun a u v q => by rw [upd_ne (ne_of_none q h)]; exact e.frz a u v q,
   fun a n ⟨k, h0, q⟩ => by
    obtain ⟨k', h0', q'⟩ := e.spot a n ⟨k, h0, q⟩
    exact ⟨k', h0', by rw [upd_ne (ne_of_none q h)]; exact q'⟩⟩
/-! ### sequences and data -/
/-- at a a list or a tuple of xs -/
def SqA (K : Frag) (H : Hp) (a : Addr) (xs : List V) : Prop := SqL K H a xs ∨ SqT K H a xs
theorem Rl.r.sqT {ρ : Rl} {K : Frag} {H H' : Hp} {a : Addr} {xs : List V} (e : ρ.r H H') (h : SqT K H a xs) : SqT K H' a xs := by
  rcases h with (h | ⟨o, h⟩) | h
  · exact .inl (.inl (e.tup _ _ h))
  · exact .inl (.inr ⟨o, e.frz _ _ _ h⟩)
  · exact .inr h
theorem Rl.r.sqL {ρ : Rl} {K : Frag} {H H' : Hp} {a : Addr} {xs : List V} (e : ρ.r H H') (n : ¬ ρ.S a) (h : SqL K H a xs) : SqL K H' a xs := by
  rcases h with (h | ⟨o, h⟩) | h
  · exact .inl (.inl (e.keep _ _ n h))
  · exact .inl (.inr ⟨o, e.frz _ _ _ h⟩)
  · exact .inr h
theorem ext_sqL {K : Frag} {H H' : Hp} {a : Addr} {xs : List V} (e : Ext H H') (h : SqL K H a xs) : SqL K H' a xs := Rl.r.sqL (ρ := exR) (Ext.r e) (fun z => z) h
theorem ext_sqT {K : Frag} {H H' : Hp} {a : Addr} {xs : List V} (e : Ext H H') (h : SqT K H a xs) : SqT K H' a xs := Rl.r.sqT (ρ := exR) (Ext.r e) h
theorem ext_sqA {K : Frag} {H H' : Hp} {a : Addr} {xs : List V} (e : Ext H H') (h : SqA K H a xs) : SqA K H' a xs := h.imp (ext_sqL e) (ext_sqT e)
/- data made in the heap: a list stands where A allows it -/
mutual
inductive Dq (A : Addr → Prop) (H : Hp) : V → PyData → Prop
  | non : Dq A H .non .none
  | bl (b : Bool) : Dq A H (.bl b) (.bool b)
  | int (i : Int) : Dq A H (.int i) (.int i)
  | str (x : Str) : Dq A H (.str x) (.str x)
  | lst {a : Addr} {xs : List V} {ds : List PyData} : A a → H a = some (.lst xs) → DqAll A H xs ds → Dq A H (.ref a) (.list ds)
  | tup {a : Addr} {xs : List V} {ds : List PyData} : H a = some (.tup xs) → DqAll A H xs ds → Dq A H (.ref a) (.tuple ds)
inductive DqAll (A : Addr → Prop) (H : Hp) : List V → List PyData → Prop
  | nil : DqAll A H [] []
  | cons {v : V} {vs : List V} {d : PyData} {ds : List PyData} : Dq A H v d → DqAll A H vs ds → DqAll A H (v :: vs) (d :: ds)
end
mutual
theorem Dq.dp {A : Addr → Prop} {K : Frag} {H : Hp} : ∀ (d : PyData) (v : V), Dq A H v d → Dp K H v d
  | .none, _, h => by cases h; exact .non
  | .bool b, _, h => by cases h; exact .bl b
  | .int i, _, h => by cases h; exact .int i
  | .str x, _, h => by cases h; exact .str x
  | .list ds, _, h => by cases h with | lst _ hs ha => exact .lst (.of hs) (DqAll.dp ds _ ha)
  | .tuple ds, _, h => by cases h with | tup hs ha => exact .tup (.inl (.inl hs)) (DqAll.dp ds _ ha)
  | .dict _, _, h => by cases h
theorem DqAll.dp {A : Addr → Prop} {K : Frag} {H : Hp} : ∀ (ds : List PyData) (vs : List V), DqAll A H vs ds → DpAll K H vs ds
  | [], _, h => by cases h; exact .nil
  | d :: ds, _, h => by cases h with | cons h1 h2 => exact .cons (Dq.dp d _ h1) (DqAll.dp ds _ h2)
end
mutual
theorem Dq.move {A A' : Addr → Prop} {H H' : Hp} (hl : ∀ a xs, A a → H a = some (.lst xs) → A' a ∧ H' a = some (.lst xs)) (ht : ∀ a xs, H a = some (.tup xs) → H' a = some (.tup xs)) : ∀ (d : PyData) (v : V), Dq A H v d → Dq A' H' v d
  | .none, _, h => by cases h; exact .non
  | .bool b, _, h => by cases h; exact .bl b
  | .int i, _, h => by cases h; exact .int i
  | .str x, _, h => by cases h; exact .str x
  | .list ds, _, h => by cases h with | lst n hs ha => exact .lst (hl _ _ n hs).1 (hl _ _ n hs).2 (DqAll.move hl ht ds _ ha)
  | .tuple ds, _, h => by cases h with | tup hs ha => exact .tup (ht _ _ hs) (DqAll.move hl ht ds _ ha)
  | .dict _, _, h => by cases h
theorem DqAll.move {A A' : Addr → Prop} {H H' : Hp} (hl : ∀ a xs, A a → H a = some (.lst xs) → A' a ∧ H' a = some (.lst xs)) (ht : ∀ a xs, H a = some (.tup xs) → H' a = some (.tup xs)) : ∀ (ds : List PyData) (vs : List V), DqAll A H vs ds → DqAll A' H' vs ds
  | [], _, h => by cases h; exact .nil
  | d :: ds, _, h => by cases h with | cons h1 h2 => exact .cons (Dq.move hl ht d _ h1) (DqAll.move hl ht ds _ h2)
end
/- no list within -/
mutual
def noList : PyData → Bool
  | .list _ => false
  | .tuple ds => noLists ds
  | _ => true
def noLists : List PyData → Bool
  | [] => true
  | d :: ds => noList d && noLists ds
end
mutual
theorem Dq.tups {A A' : Addr → Prop} {H H' : Hp} (ht : ∀ a xs, H a = some (.tup xs) → H' a = some (.tup xs)) : ∀ (d : PyData) (v : V), noList d = true → Dq A H v d → Dq A' H' v d
  | .none, _, _, h => by cases h; exact .non
  | .bool b, _, _, h => by cases h; exact .bl b
  | .int i, _, _, h => by cases h; exact .int i
  | .str x, _, _, h => by cases h; exact .str x
  | .list ds, _, n, h => by cases n
  | .tuple ds, _, n, h => by cases h with | tup hs ha => exact .tup (ht _ _ hs) (DqAll.tups ht ds _ (by simpa [noList] using n) ha)
  | .dict _, _, _, h => by cases h
theorem DqAll.tups {A A' : Addr → Prop} {H H' : Hp} (ht : ∀ a xs, H a = some (.tup xs) → H' a = some (.tup xs)) : ∀ (ds : List PyData) (vs : List V), noLists ds = true → DqAll A H vs ds → DqAll A' H' vs ds
  | [], _, _, h => by cases h; exact .nil
  | d :: ds, _, n, h => by
    have n' : noList d = true ∧ noLists ds = true := by simpa [noLists] using n
    cases h with | cons h1 h2 => exact .cons (Dq.tups ht d _ n'.1 h1) (DqAll.tups ht ds _ n'.2 h2)
end
theorem DqAll.length {A : Addr → Prop} {H : Hp} : ∀ {vs : List V} {ds : List PyData}, DqAll A H vs ds → vs.length = ds.length
  | _, _, .nil => rfl
  | _, _, .cons _ h => congrArg Nat.succ (DqAll.length h)
theorem DqAll.get {A : Addr → Prop} {H : Hp} : ∀ {vs : List V} {ds : List PyData} {i : Nat} {v : V}, DqAll A H vs ds → vs[i]? = some v → ∃ d, ds[i]? = some d ∧ Dq A H v d
  | _, _, i, v, .nil, e => by simp at e
  | _, _, 0, v, .cons h _, e => by simp at e; subst e; exact ⟨_, rfl, h⟩
  | _, _, i + 1, v, .cons _ h, e => by
    obtain ⟨d, e1, h1⟩ := DqAll.get (i := i) h (by simpa using e)
    exact ⟨d, by simpa using e1, h1⟩
theorem DqAll.get' {A : Addr → Prop} {H : Hp} : ∀ {vs : List V} {ds : List PyData} {i : Nat} {d : PyData}, DqAll A H vs ds → ds[i]? = some d → ∃ v, vs[i]? = some v ∧ Dq A H v d
  | _, _, i, v, .nil, e => by simp at e
  | _, _, 0, v, .cons h _, e => by simp at e; subst e; exact ⟨_, rfl, h⟩
  | _, _, i + 1, v, .cons _ h, e => by
    obtain ⟨d, e1, h1⟩ := DqAll.get' (i := i) h (by simpa using e)
    exact ⟨d, by simpa using e1, h1⟩
theorem DqAll.append {A : Addr → Prop} {H : Hp} : ∀ {vs ws : List V} {ds es : List PyData}, DqAll A H vs ds → DqAll A H ws es → DqAll A H (vs ++ ws) (ds ++ es)
  | _, _, _, _, .nil, h => h
  | _, _, _, _, .cons a t, h => .cons a (DqAll.append t h)
theorem DqAll.drop {A : Addr → Prop} {H : Hp} : ∀ {vs : List V} {ds : List PyData} (n : Nat), DqAll A H vs ds → DqAll A H (vs.drop n) (ds.drop n)
  | _, _, 0, h => h
  | _, _, _ + 1, .nil => .nil
  | _, _, n + 1, .cons _ t => DqAll.drop n t
theorem DqAll.take {A : Addr → Prop} {H : Hp} : ∀ {vs : List V} {ds : List PyData} (n : Nat), DqAll A H vs ds → DqAll A H (vs.take n) (ds.take n)
  | _, _, 0, h => .nil
  | _, _, _ + 1, .nil => .nil
  | _, _, n + 1, .cons a t => .cons a (DqAll.take n t)
/-- by places -/
theorem DqAll.of {A : Addr → Prop} {H : Hp} : ∀ {vs : List V} {ds : List PyData}, vs.length = ds.length → (∀ (i : Nat) v d, vs[i]? = some v → ds[i]? = some d → Dq A H v d) → DqAll A H vs ds
  | [], [], _, _ => .nil
  | v :: vs, d :: ds, hl, h => .cons (h 0 v d rfl rfl) (DqAll.of (by simpa using hl) fun i x y a b => h (i + 1) x y (by simpa using a) (by simpa using b))
  | [], _ :: _, hl, _ => by simp at hl
  | _ :: _, [], hl, _ => by simp at hl
/-- a datum that stays, whatever ρ lets change -/
abbrev DS (ρ : Rl) (H : Hp) (v : V) (d : PyData) : Prop := Dq (fun a => ¬ ρ.S a) H v d
abbrev DSs (ρ : Rl) (H : Hp) (vs : List V) (ds : List PyData) : Prop := DqAll (fun a => ¬ ρ.S a) H vs ds
theorem Rl.r.ds {ρ : Rl} {H H' : Hp} (e : ρ.r H H') {v : V} {d : PyData} (h : DS ρ H v d) : DS ρ H' v d := h.move (fun a _ n q => ⟨n, e.keep a _ n q⟩) e.tup
theorem Rl.r.dss {ρ : Rl} {H H' : Hp} (e : ρ.r H H') {v : List V} {d : List PyData} (h : DSs ρ H v d) : DSs ρ H' v d := h.move (fun a _ n q => ⟨n, e.keep a _ n q⟩) e.tup
theorem DS.ex {ρ : Rl} {H : Hp} {v : V} {d : PyData} (h : DS ρ H v d) : DS exR H v d := h.move (fun a _ n q => ⟨fun z => z, q⟩) fun _ _ q => q
/-- all that ρ lets change stands already -/
def Own (ρ : Rl) (H : Hp) : Prop := ∀ a, ρ.S a → H a ≠ none
theorem Own.r {ρ ρ' : Rl} {H H' : Hp} (o : Own ρ H) (e : ρ'.r H H') : Own ρ H' := fun a s n => o a s (e.back a n)
theorem Own.fresh {ρ : Rl} {H : Hp} (o : Own ρ H) {p : Addr} (n : H p = none) : ¬ ρ.S p := fun s => o p s n
theorem own_ex {H : Hp} : Own exR H := fun _ s => s.elim
theorem DS.seq {ρ : Rl} {H : Hp} {v : V} {ds : List PyData} (h : DS ρ H v (.list ds) ∨ DS ρ H v (.tuple ds)) : ∃ a xs, v = .ref a ∧ DSs ρ H xs ds ∧ ∀ (K : Frag) (H' : Hp), ρ.r H H' → SqA K H' a xs := by
  rcases h with h | h
  · cases h with | lst n hs ha => exact ⟨_, _, rfl, ha, fun K H' e => .inl (.of (e.keep _ _ n hs))⟩
  · cases h with | tup hs ha => exact ⟨_, _, rfl, ha, fun K H' e => .inr (.inl (.inl (e.tup _ _ hs)))⟩
theorem r_and {ρ : Rl} {D : Addr} {H H1 H2 : Hp} (e : ρ.r H H1) (n : H D = none) (e2 : (ρ.and D).r H1 H2) : ρ.r H H2 :=
  ⟨fun a o s h => e2.keep a o (fun z => z.elim s fun q => ne_of_none h n q) (e.keep a o s h), fun a h => e.back a (e2.back a h), fun a xs h => e2.tup a xs (e.tup a xs h), fun a o u h => e2.frz a o u (e.frz a o u h), fun a p h => e2.spot a p (e.spot a p h)⟩
theorem and_of {ρ : Rl} {D : Addr} {H H1 : Hp} (e : ρ.r H H1) : (ρ.and D).r H H1 := ⟨fun a o s h => e.keep a o (fun z => s (.inl z)) h, e.back, e.tup, e.frz, e.spot⟩
/-- D itself is changed -/
theorem r_chg {ρ : Rl} {D : Addr} {H : Hp} {xs ys : List V} (h : H D = some (.lst xs)) (n : ¬ ρ.S D) : (ρ.and D).r H (upd H D (.lst ys)) :=
  ⟨fun a o s q => by rw [upd_ne (fun z => s (.inr z))]; exact q,
   fun a q => by
    by_cases z : a = D
    · subst z; rw [upd_same] at q; cases q
    · rw [upd_ne z] at q; exact q,
   fun a xs q => by rw [upd_ne (ne_of q h (by intro z; cases z))]; exact q, fun a o u q => by rw [upd_ne (ne_of q h (by intro z; cases z))]; exact q,
   fun a p ⟨k, h0, q⟩ => ⟨k, h0, by rw [upd_ne (fun z : a = D => n (z ▸ ρ.sub a p))]; exact q⟩⟩
theorem DS.and {ρ : Rl} {D : Addr} {H : Hp} (n : H D = none) {v : V} {d : PyData} (h : DS ρ H v d) : DS (ρ.and D) H v d := h.move (fun a _ s q => ⟨fun z => z.elim s fun e => ne_of_none q n e, q⟩) fun _ _ q => q
theorem Rl.r.dsA {ρ : Rl} {D : Addr} {H H' : Hp} (e : ρ.r H H') {v : V} {d : PyData} (h : DS (ρ.and D) H v d) : DS (ρ.and D) H' v d := (and_of e).ds h
theorem DS.less {ρ : Rl} {D : Addr} {H : Hp} {v : V} {d : PyData} (h : DS (ρ.and D) H v d) : DS ρ H v d := h.move (fun a _ s q => ⟨fun z => s (.inl z), q⟩) fun _ _ q => q
theorem DSs.and {ρ : Rl} {D : Addr} {H : Hp} (n : H D = none) {v : List V} {d : List PyData} (h : DSs ρ H v d) : DSs (ρ.and D) H v d := h.move (fun a _ s q => ⟨fun z => z.elim s fun e => ne_of_none q n e, q⟩) fun _ _ q => q
theorem Own.and {ρ : Rl} {D : Addr} {H H' : Hp} (o : Own ρ H) (e : ρ.r H H') (h : H' D ≠ none) : Own (ρ.and D) H' := fun a s => s.elim (o.r e a) fun z => z ▸ h
/-! ### Ev -/
def Ev (ρ : Rl) (te : TE) (σ : L2.St) (H : Hp) (R : V → Hp → Prop) : Prop := ∀ H1, ρ.r H H1 → ∀ Q : VK, (∀ v H2, ρ.r H1 H2 → R v H2 → Q v H2) → te σ H1 Q
abbrev EvV (ρ : Rl) (te : TE) (σ : L2.St) (H : Hp) (v : V) : Prop := Ev ρ te σ H fun v' _ => v' = v
def EvT (ρ : Rl) (tt : TT) (σ : L2.St) (H : Hp) (b : Bool) : Prop := ∀ H1, ρ.r H H1 → ∀ Q : Bool → Hp → Prop, (∀ H2, ρ.r H1 H2 → Q b H2) → tt σ H1 Q
/-- a test of an unknown answer -/
def EvT2 (ρ : Rl) (tt : TT) (σ : L2.St) (H : Hp) : Prop := ∀ H1, ρ.r H H1 → ∀ Q : Bool → Hp → Prop, (∀ b H2, ρ.r H1 H2 → Q b H2) → tt σ H1 Q
def EvA (ρ : Rl) (ta : TA) (σ : L2.St) (H : Hp) (R : List V → Hp → Prop) : Prop := ∀ H1, ρ.r H H1 → ∀ Q : List V → Hp → Prop, (∀ vs H2, ρ.r H1 H2 → R vs H2 → Q vs H2) → ta σ H1 Q
abbrev EvAV (ρ : Rl) (ta : TA) (σ : L2.St) (H : Hp) (vs : List V) : Prop := EvA ρ ta σ H fun vs' _ => vs' = vs
def EvO (ρ : Rl) (to : TO) (σ : L2.St) (H : Hp) (o : Option Int) : Prop := ∀ H1, ρ.r H H1 → ∀ Q : Option Int → Hp → Prop, (∀ H2, ρ.r H1 H2 → Q o H2) → to σ H1 Q
/-- what is iterated over: n turns, Y tells each -/
def EvI (ρ : Rl) (wi : TI) (σ : L2.St) (H : Hp) (n : Nat) (Y : Nat → Hp → V → Hp → Prop) : Prop :=
  ∀ H1, ρ.r H H1 → ∀ R : It → Hp → Prop, (∀ J H2, ρ.r H1 H2 → Walk J n (fun H3 => ρ.r H2 H3) Y → R J H2) → wi σ H1 R
def RV (ρ : Rl) (r : R2) (x y : V) (H : Hp) (R : V → Hp → Prop) : Prop := ∀ H1, ρ.r H H1 → ∀ Q : VK, (∀ v H2, ρ.r H1 H2 → R v H2 → Q v H2) → r x y H1 Q
def RC (ρ : Rl) (r : List V → Hp → VK → Prop) (vs : List V) (H : Hp) (R : V → Hp → Prop) : Prop := ∀ H1, ρ.r H H1 → ∀ Q : VK, (∀ v H2, ρ.r H1 H2 → R v H2 → Q v H2) → r vs H1 Q
def SpR (ρ : Rl) (sp : Sp) (vs : List V) (H : Hp) (R : V → Hp → Prop) : Prop := ∀ H1, ρ.r H H1 → ∀ Q : VK, (∀ v H2, ρ.r H1 H2 → R v H2 → Q v H2) → ∀ E : XK, sp vs H1 Q E
section
variable {ρ : Rl} {K : Frag} {σ : L2.St} {H H' : Hp} {ta tb te tx : TE} {t u : TT} {x y z v : V} {r : R2} {R R' Ra Rb : V → Hp → Prop}
theorem Ev.mono (e : ρ.r H H') (h : Ev ρ te σ H R) : Ev ρ te σ H' R := fun H1 a Q q => h H1 (e.trans a) Q q
theorem EvT.mono {b : Bool} (e : ρ.r H H') (h : EvT ρ t σ H b) : EvT ρ t σ H' b := fun H1 a Q q => h H1 (e.trans a) Q q
theorem Ev.imp (h : Ev ρ te σ H R) (f : ∀ v H1, ρ.r H H1 → R v H1 → R' v H1) : Ev ρ te σ H R' := fun H1 a Q q => h H1 a Q fun v H2 e r => q v H2 e (f v H2 (a.trans e) r)
theorem Ev.val (h : EvV ρ te σ H v) (e : v = x) : EvV ρ te σ H x := by rw [← e]; exact h
theorem EvT.to {a b : Bool} (h : EvT ρ t σ H a) (e : a = b) : EvT ρ t σ H b := by rw [← e]; exact h
theorem ev_var {i : Nat} (h : σ[i]? = some (some v)) : EvV ρ (tVar i) σ H v := fun H1 _ _ q => ⟨v, h, q v H1 .rfl rfl⟩
theorem ev_c : EvV ρ (tC v) σ H v := fun H1 _ _ q => q v H1 .rfl rfl
theorem ev_op (ha : EvV ρ ta σ H x) (hb : EvV ρ tb σ H y) (hr : RV ρ r x y H R) : Ev ρ (tOp r ta tb) σ H R := fun H1 e Q q =>
  ha H1 e _ fun _ H2 e2 h2 => by
    subst h2
    exact hb H2 (e.trans e2) _ fun _ H3 e3 h3 => by
      subst h3
      exact hr H3 ((e.trans e2).trans e3) Q fun v H4 e4 rv => q v H4 ((e2.trans e3).trans e4) rv
/-- operands that may be new -/
theorem ev_op2 (ha : Ev ρ ta σ H Ra) (hb : ∀ x H1, ρ.r H H1 → Ra x H1 → Ev ρ tb σ H1 Rb) (hr : ∀ x y H1 H2, ρ.r H H1 → ρ.r H1 H2 → Ra x H1 → Rb y H2 → RV ρ r x y H2 R) : Ev ρ (tOp r ta tb) σ H R := fun H1 e Q q =>
  ha H1 e _ fun x H2 e2 rx => hb x H2 (e.trans e2) rx H2 .rfl _ fun y H3 e3 ry => hr x y H2 H3 (e.trans e2) e3 rx ry H3 .rfl Q fun v H4 e4 rv => q v H4 ((e2.trans e3).trans e4) rv
theorem RV.const (h : ∀ H1, ρ.r H H1 → ∀ Q : VK, Q z H1 → r x y H1 Q) : RV ρ r x y H (fun v' _ => v' = z) := fun H1 e Q q => h H1 e Q (q z H1 .rfl rfl)
theorem ea_nil : EvAV ρ tNil σ H [] := fun H1 _ _ q => q [] H1 .rfl rfl
theorem ea_cons {tr : TA} {vs : List V} (h : EvV ρ ta σ H x) (hr : EvAV ρ tr σ H vs) : EvAV ρ (tCons ta tr) σ H (x :: vs) := fun H1 e _ q =>
  h H1 e _ fun _ H2 e2 h2 => by
    subst h2
    exact hr H2 (e.trans e2) _ fun _ H3 e3 h3 => by
      subst h3
      exact q _ H3 (e2.trans e3) rfl
/-- the first argument new, then the rest -/
theorem ea_consR {tr : TA} {Rr : V → List V → Hp → Prop} (h : Ev ρ ta σ H Ra) (hr : ∀ x H1, ρ.r H H1 → Ra x H1 → EvA ρ tr σ H1 (Rr x)) : EvA ρ (tCons ta tr) σ H (fun vs H2 => ∃ x ws, vs = x :: ws ∧ Rr x ws H2) := fun H1 e _ q =>
  h H1 e _ fun x H2 e2 rx => hr x H2 (e.trans e2) rx H2 .rfl _ fun ws H3 e3 rw' => q _ H3 (e2.trans e3) ⟨x, ws, rfl, rw'⟩
/-- one argument, new -/
theorem ea_one (h : Ev ρ ta σ H Ra) : EvA ρ (tCons ta tNil) σ H (fun vs H2 => ∃ x, vs = [x] ∧ Ra x H2) := fun H1 e _ q =>
  h H1 e _ fun x H2 e2 rx => q _ H2 e2 ⟨x, rfl, rx⟩
theorem EvA.imp {tr : TA} {Rr Rr' : List V → Hp → Prop} (h : EvA ρ tr σ H Rr) (f : ∀ vs H1, ρ.r H H1 → Rr vs H1 → Rr' vs H1) : EvA ρ tr σ H Rr' := fun H1 a Q q => h H1 a Q fun v H2 e r => q v H2 e (f v H2 (a.trans e) r)
theorem ev_tup {ta : TA} {Rr : List V → Hp → Prop} (h : EvA ρ ta σ H Rr) (hl : ∀ vs H1, ρ.r H H1 → Rr vs H1 → vs.length ≤ 100000) : Ev ρ (tTup ta) σ H (fun v H2 => ∃ p vs H1, v = .ref p ∧ Rr vs H1 ∧ H1 p = none ∧ ρ.r H H1 ∧ H2 = upd H1 p (.tup vs)) := fun H1 e _ q =>
  h H1 e _ fun vs H2 e2 rv => ⟨Evl.sz_of (hl vs H2 (e.trans e2) rv), fun p hp => q _ _ (r_new2 e2 _ hp) ⟨p, vs, H2, rfl, rv, hp, e.trans e2, rfl⟩⟩
theorem ev_lst {ta : TA} {Rr : List V → Hp → Prop} (h : EvA ρ ta σ H Rr) (hl : ∀ vs H1, ρ.r H H1 → Rr vs H1 → vs.length ≤ 100000) : Ev ρ (tLst ta) σ H (fun v H2 => ∃ p vs H1, v = .ref p ∧ Rr vs H1 ∧ H1 p = none ∧ ρ.r H H1 ∧ H2 = upd H1 p (.lst vs)) := fun H1 e _ q =>
  h H1 e _ fun vs H2 e2 rv => ⟨Evl.sz_of (hl vs H2 (e.trans e2) rv), fun p hp => q _ _ (r_new2 e2 _ hp) ⟨p, vs, H2, rfl, rv, hp, e.trans e2, rfl⟩⟩
theorem ev_cb {r : List V → Hp → VK → Prop} {ta : TA} {Rr : List V → Hp → Prop} (h : EvA ρ ta σ H Rr) (hr : ∀ vs H1, ρ.r H H1 → Rr vs H1 → RC ρ r vs H1 R) : Ev ρ (tCB r ta) σ H R := fun H1 e Q q =>
  h H1 e _ fun vs H2 e2 rv => hr vs H2 (e.trans e2) rv H2 .rfl Q fun v H3 e3 rx => q v H3 (e2.trans e3) rx
theorem ev_cbV {r : List V → Hp → VK → Prop} {ta : TA} {vs : List V} (h : EvAV ρ ta σ H vs) (hr : RC ρ r vs H R) : Ev ρ (tCB r ta) σ H R := fun H1 e Q q =>
  h H1 e _ fun _ H2 e2 rv => by
    subst rv
    exact hr H2 (e.trans e2) Q fun v H3 e3 rx => q v H3 (e2.trans e3) rx
theorem ev_call {sp : Sp} {E : XK} {ta : TA} {vs : List V} (h : EvAV ρ ta σ H vs) (hs : SpR ρ sp vs H R) : Ev ρ (tCall sp [] E ta) σ H R := fun H1 e Q q =>
  h H1 e _ fun _ H2 e2 rv => by
    subst rv
    rw [List.append_nil]
    exact hs H2 (e.trans e2) Q (fun v H3 e3 rx => q v H3 (e2.trans e3) rx) E
theorem ev_callR {sp : Sp} {E : XK} {ta : TA} {Rr : List V → Hp → Prop} (h : EvA ρ ta σ H Rr) (hs : ∀ vs H1, ρ.r H H1 → Rr vs H1 → SpR ρ sp vs H1 R) : Ev ρ (tCall sp [] E ta) σ H R := fun H1 e Q q =>
  h H1 e _ fun vs H2 e2 rv => by
    rw [List.append_nil]
    exact hs vs H2 (e.trans e2) rv H2 .rfl Q (fun v H3 e3 rx => q v H3 (e2.trans e3) rx) E
theorem ev_callK {sp : Sp} {E : XK} {ta tk : TA} {vs zs : List V} {gV : List V → List V → List V} (h : EvAV ρ ta σ H vs) (hk : EvAV ρ tk σ H zs) (hs : SpR ρ sp (gV vs zs) H R) : Ev ρ (tCallK sp gV E ta tk) σ H R := fun H1 e Q q =>
  h H1 e _ fun _ H2 e2 rv => by
    subst rv
    exact hk H2 (e.trans e2) _ fun _ H3 e3 rz => by
      subst rz
      exact hs H3 ((e.trans e2).trans e3) Q (fun v H4 e4 rx => q v H4 ((e2.trans e3).trans e4) rx) E
theorem et_test {b : Bool} (h : EvV ρ te σ H (.bl b)) : EvT ρ (tTest te) σ H b := fun H1 e _ q => h H1 e _ fun v H2 e2 hv => ⟨b, hv, q H2 e2⟩
theorem et_B {b : Bool} (h : EvV ρ te σ H (.bl b)) : EvT ρ (tB te) σ H b := fun H1 e _ q => h H1 e _ fun v H2 e2 hv => ⟨b, hv, q H2 e2⟩
theorem et_not {a : Bool} (h1 : EvT ρ t σ H a) : EvT ρ (tNot t) σ H (!a) := fun H1 e _ q => h1 H1 e _ fun H2 e2 => q H2 e2
theorem et_and {a b : Bool} (h1 : EvT ρ t σ H a) (h2 : a = true → EvT ρ u σ H b) : EvT ρ (tAnd t u) σ H (a && b) := fun H1 e Q q => h1 H1 e _ fun H2 e2 => by
  cases a with
  | true => show u σ H2 Q; exact h2 rfl H2 (e.trans e2) Q fun H3 e3 => q H3 (e2.trans e3)
  | false => show Q false H2; exact q H2 e2
theorem et_or {a b : Bool} (h1 : EvT ρ t σ H a) (h2 : a = false → EvT ρ u σ H b) : EvT ρ (tOr t u) σ H (a || b) := fun H1 e Q q => h1 H1 e _ fun H2 e2 => by
  cases a with
  | true => show Q true H2; exact q H2 e2
  | false => show u σ H2 Q; exact h2 rfl H2 (e.trans e2) Q fun H3 e3 => q H3 (e2.trans e3)
theorem ev_andV {a b : Bool} (h1 : EvV ρ ta σ H (.bl a)) (h2 : a = true → EvV ρ tb σ H (.bl b)) : EvV ρ (tAndV ta tb) σ H (.bl (a && b)) := fun H1 e Q q => h1 H1 e _ fun v H2 e2 hv => ⟨a, hv, by
  cases a with
  | true => show tb σ H2 Q; exact h2 rfl H2 (e.trans e2) Q fun v' H3 e3 hv' => q _ H3 (e2.trans e3) hv'
  | false => show Q (.bl false) H2; exact q _ H2 e2 rfl⟩
theorem ev_orV {a b : Bool} (h1 : EvV ρ ta σ H (.bl a)) (h2 : a = false → EvV ρ tb σ H (.bl b)) : EvV ρ (tOrV ta tb) σ H (.bl (a || b)) := fun H1 e Q q => h1 H1 e _ fun v H2 e2 hv => ⟨a, hv, by
  cases a with
  | true => show Q (.bl true) H2; exact q _ H2 e2 rfl
  | false => show tb σ H2 Q; exact h2 rfl H2 (e.trans e2) Q fun v' H3 e3 hv' => q _ H3 (e2.trans e3) hv'⟩
theorem ev_notV {a : Bool} (h1 : EvV ρ ta σ H (.bl a)) : EvV ρ (tNotV ta) σ H (.bl (!a)) := fun H1 e _ q => h1 H1 e _ fun v H2 e2 hv => ⟨a, hv, q _ H2 e2 rfl⟩
theorem ev_if {b : Bool} (h : EvT ρ t σ H b) (h1 : b = true → Ev ρ ta σ H R) (h2 : b = false → Ev ρ tb σ H R) : Ev ρ (tIf t ta tb) σ H R := fun H1 e Q q => h H1 e _ fun H2 e2 => by
  cases b with
  | true => show ta σ H2 Q; exact h1 rfl H2 (e.trans e2) Q fun v H3 e3 rv => q v H3 (e2.trans e3) rv
  | false => show tb σ H2 Q; exact h2 rfl H2 (e.trans e2) Q fun v H3 e3 rv => q v H3 (e2.trans e3) rv
theorem eo_none : EvO ρ tNoPart σ H none := fun H1 _ _ q => q H1 .rfl
theorem eo_some {i : Int} (h : EvV ρ te σ H (.int i)) : EvO ρ (tPart te) σ H (some i) := fun H1 e _ q => h H1 e _ fun v H2 e2 hv => ⟨i, hv, q H2 e2⟩
/-! ### statements -/
variable {D : Ends} {tu tw tz : TS}
theorem s_ret (h : Ev ρ te σ H R) (k : ∀ v H1, ρ.r H H1 → R v H1 → D.rt v H1) : tRet te D σ H := h H .rfl _ fun v H1 e rv => k v H1 e rv
theorem s_retV (h : EvV ρ te σ H v) (k : ∀ H1, ρ.r H H1 → D.rt v H1) : tRet te D σ H := h H .rfl _ fun v' H1 e rv => by subst rv; exact k H1 e
theorem s_seq (h : tu { D with nx := tz D } σ H) : tSeq tu tz D σ H := h
theorem s_asg {i : Nat} (h : Ev ρ te σ H R) (k : ∀ v H1, ρ.r H H1 → R v H1 → D.nx (σ.set i (some v)) H1) : tAsg te (gName i) D σ H := h H .rfl _ fun v H1 e rv => k v H1 e rv
theorem q_asg {i : Nat} (h : Ev ρ te σ H R) (k : ∀ v H1, ρ.r H H1 → R v H1 → tz D (σ.set i (some v)) H1) : tSeq (tAsg te (gName i)) tz D σ H := h H .rfl _ fun v H1 e rv => k v H1 e rv
theorem q_asgV {i : Nat} (h : EvV ρ te σ H v) (k : ∀ H1, ρ.r H H1 → tz D (σ.set i (some v)) H1) : tSeq (tAsg te (gName i)) tz D σ H := h H .rfl _ fun v' H1 e rv => by subst rv; exact k H1 e
theorem s_asgV {i : Nat} (h : EvV ρ te σ H v) (k : ∀ H1, ρ.r H H1 → D.nx (σ.set i (some v)) H1) : tAsg te (gName i) D σ H := h H .rfl _ fun v' H1 e rv => by subst rv; exact k H1 e
theorem s_if {b : Bool} (h : EvT ρ t σ H b) (h1 : b = true → ∀ H1, ρ.r H H1 → tu D σ H1) (h2 : b = false → ∀ H1, ρ.r H H1 → tw D σ H1) : tIfS t tu tw D σ H := h H .rfl _ fun H1 e => by
  cases b with
  | true => show tu D σ H1; exact h1 rfl H1 e
  | false => show tw D σ H1; exact h2 rfl H1 e
theorem q_if {b : Bool} (h : EvT ρ t σ H b) (h1 : b = true → ∀ H1, ρ.r H H1 → tu { D with nx := tz D } σ H1) (h2 : b = false → ∀ H1, ρ.r H H1 → tw { D with nx := tz D } σ H1) : tSeq (tIfS t tu tw) tz D σ H := s_if (D := { D with nx := tz D }) h h1 h2
theorem q_when {b : Bool} (h : EvT ρ t σ H b) (h1 : b = true → ∀ H1, ρ.r H H1 → tu { D with nx := tz D } σ H1) (h2 : b = false → ∀ H1, ρ.r H H1 → tz D σ H1) : tSeq (tIfS t tu tNext) tz D σ H := s_if (D := { D with nx := tz D }) h h1 h2
theorem s_drop (h : Ev ρ te σ H R) (k : ∀ v H1, ρ.r H H1 → R v H1 → D.nx σ H1) : tDrop te D σ H := h H .rfl _ fun v H1 e rv => k v H1 e rv
theorem q_drop (h : Ev ρ te σ H R) (k : ∀ v H1, ρ.r H H1 → R v H1 → tz D σ H1) : tSeq (tDrop te) tz D σ H := h H .rfl _ fun v H1 e rv => k v H1 e rv
/-! ### loops -/
variable {wi : TI} {g : TG} {n : Nat} {Y : Nat → Hp → V → Hp → Prop}
theorem s_for (h : EvI ρ wi σ H n Y) (k : ∀ H1, ρ.r H H1 → ∃ Pv : Nat → L2.St → Hp → Prop, Pv 0 σ H1 ∧ (∀ i σ' H', i ≤ n → Pv i σ' H' → ρ.r H1 H') ∧
    (∀ i x σ' H' H'', i < n → Pv i σ' H' → Y i H' x H'' → g x σ' H'' fun σ2 H2 => tu { D with nx := Pv (i + 1), ct := Pv (i + 1), bk := D.nx } σ2 H2) ∧ ∀ σ' H', Pv n σ' H' → D.nx σ' H') : tFor wi g tu D σ H :=
  h H .rfl _ fun J H1 e w => by
    obtain ⟨Pv, h0, hr, hs, hd⟩ := k H1 e
    exact for_it w Pv h0 hr hs hd
theorem q_for (h : EvI ρ wi σ H n Y) (k : ∀ H1, ρ.r H H1 → ∃ Pv : Nat → L2.St → Hp → Prop, Pv 0 σ H1 ∧ (∀ i σ' H', i ≤ n → Pv i σ' H' → ρ.r H1 H') ∧
    (∀ i x σ' H' H'', i < n → Pv i σ' H' → Y i H' x H'' → g x σ' H'' fun σ2 H2 => tu { D with nx := Pv (i + 1), ct := Pv (i + 1), bk := tz D } σ2 H2) ∧ ∀ σ' H', Pv n σ' H' → tz D σ' H') : tSeq (tFor wi g tu) tz D σ H :=
  s_for (D := { D with nx := tz D }) h k
end
end Slip
/-! one rule a construct, whatever stands in it; the names that the generator prints -/
namespace Slip
open PySem PySem.Spec PyProof.Rows L2
section
variable {X : Cx} {a b e tg : Expr} {pos : Pos} {ta tb te : TE}
/-! ### + - * // % ** -/
def rAddStr : R2 := fun x y H Q => ∃ i j, x = .str i ∧ y = .str j ∧ i.length + j.length ≤ sizeLine ∧ Q (.str (i ++ j)) H
def rAddU (K : Frag) : R2 := fun x y H Q => rAddI x y H Q ∨ (rAddStr x y H Q ∨ (rCatA K x y H Q ∨ rCat x y H Q))
theorem op_addU : OpR X (binaryOp .Add) (rAddU X.K) := OpR.or (r := rAddI) op_add (OpR.or (r := rAddStr) op_add_str (OpR.or op_catA op_cat))
abbrev rMulI : R2 := rI CMul fun i j => .int (i * j)
theorem op_mulI : OpR X (binaryOp .Mult) rMulI := op_mul
abbrev rModI : R2 := rI (fun _ j => 0 < j) fun i j => .int (i % j)
theorem op_modI : OpR X (binaryOp .Mod) rModI := op_mod
abbrev rFdivI : R2 := rI CDiv fun i j => .int (i / j)
theorem op_fdivI : OpR X (binaryOp .FloorDiv) rFdivI := op_fdiv
abbrev rPowI : R2 := rI CPow fun i j => .int (i ^ j.toNat)
theorem op_powI : OpR X (binaryOp .Pow) rPowI := op_pow
abbrev rNegI : V → Hp → VK → Prop := rU fun i => .int (-i)
theorem un_negI : UnR X (unaryOp .USub) rNegI := un_neg
abbrev rAugAdd : TIp := ipI fun i j => i + j
theorem ip_augAdd : PIp X .Add rAugAdd := ip_add
/-! ### == -/
def rEqU (K : Frag) : R2 := fun x y H Q => rEq x y H Q ∨ rEqD K x y H Q
def rNeU (K : Frag) : R2 := fun x y H Q => rNe x y H Q ∨ rNeD K x y H Q
theorem op_eqU (hu : X.A.units + 64 < cLine) : OpR X (compareOp .Eq) (rEqU X.K) := OpR.or op_eq (op_eqD hu)
theorem op_neU (hu : X.A.units + 64 < cLine) : OpR X (compareOp .NotEq) (rNeU X.K) := OpR.or op_ne (op_neD hu)
/-! ### is None -/
def rIsN : R2 := fun x y H Q => y = .non ∧ Q (.bl (decide (x = .non))) H
def rNotN : R2 := fun x y H Q => y = .non ∧ Q (.bl (!decide (x = .non))) H
theorem op_isN1 : OpR X (compareOp .Is) rIsN := op_isN
theorem op_notN1 : OpR X (compareOp .IsNot) rNotN := op_notN
/-! ### in -/
def rInS : R2 := fun x y H Q => ∃ (c : Nat) (z : Str), x = .str ⟨#[c]⟩ ∧ y = .str z ∧ Q (.bl (decide (c ∈ z.cps.toList))) H
def rNotInS : R2 := fun x y H Q => ∃ (c : Nat) (z : Str), x = .str ⟨#[c]⟩ ∧ y = .str z ∧ Q (.bl (!decide (c ∈ z.cps.toList))) H
def rInD : R2 := fun x y H Q => ∃ a o, y = .ref a ∧ DGet H a x o ∧ Q (.bl o.isSome) H
def rNotInD : R2 := fun x y H Q => ∃ a o, y = .ref a ∧ DGet H a x o ∧ Q (.bl (!o.isSome)) H
theorem op_inD (hu : X.A.units + 1 < cLine) : OpR X (compareOp .In) rInD := by
  intro pins s σ H x y v u Q I rx ry h
  obtain ⟨a, o, rfl, g, q⟩ := h
  obtain rfl : u = Value.ref a := ry
  exact d_in hu I g rx fun s3 I3 => ⟨.bl o.isSome, H, I3, rfl, q⟩
theorem op_notInD (hu : X.A.units + 1 < cLine) : OpR X (compareOp .NotIn) rNotInD := by
  intro pins s σ H x y v u Q I rx ry h
  obtain ⟨a, o, rfl, g, q⟩ := h
  obtain rfl : u = Value.ref a := ry
  exact d_notIn hu I g rx fun s3 I3 => ⟨.bl (!o.isSome), H, I3, rfl, q⟩
def rInU (K : Frag) : R2 := fun x y H Q => rIn K false x y H Q ∨ (rInS x y H Q ∨ rInD x y H Q)
def rNotInU (K : Frag) : R2 := fun x y H Q => rIn K true x y H Q ∨ (rNotInS x y H Q ∨ rNotInD x y H Q)
theorem op_inU (hu : X.A.units + 1 < cLine) : OpR X (compareOp .In) (rInU X.K) := OpR.or op_in_seq (OpR.or (r := rInS) op_in_sign (op_inD hu))
theorem op_notInU (hu : X.A.units + 1 < cLine) : OpR X (compareOp .NotIn) (rNotInU X.K) := OpR.or op_notIn_seq (OpR.or (r := rNotInS) op_notIn_sign (op_notInD hu))
/-! ### subscripts, slices -/
def tIxU (K : Frag) (ta tb : TE) : TE := fun σ H Q => tOp (rIx K) ta tb σ H Q ∨ tDGet ta tb σ H Q
theorem pe_ixU (hu : X.A.units + 1 < cLine) (ha : PE X a ta) (hb : PE X b tb) (hs : PlainIx b) (hn : NoSl b) : PE X (.Subscript a b pos) (tIxU X.K ta tb) :=
  pe_alt (pe_ix ix_seq ha hb hs) (pe_dget hu ha hb hn)
def rSlU (K : Frag) : V → Option Int → Option Int → Hp → VK → Prop := fun x lo hi H Q => rSlL K x lo hi H Q ∨ (rSlA K x lo hi H Q ∨ rSlS x lo hi H Q)
theorem sl_U : SlR X (rSlU X.K) := SlR.or sl_list (SlR.or sl_tupA sl_str)
/-! ### what a for walks, targets, stores -/
def iSeq (K : Frag) (te : TE) : TI := fun σ H R => iList K te σ H R ∨ (iTup K te σ H R ∨ iStr te σ H R)
theorem pi_seq (h : PE X e te) : PI X tg e (iSeq X.K te) := pi_alt (pi_list h) (pi_alt (pi_tup h) (pi_str h))
def gSeq (K : Frag) (n : Nat) (t : TGs) : TG := fun v σ H Q => gTup K n t v σ H Q ∨ gLst K n t v σ H Q
theorem pg_seq {es : List Expr} {k : Nat} {t : TGs} {n : Nat} (hc : X.calm = true) (h : PGs X es t)
    (hn : (assignEach es X.env).length = n := by rfl) (hst : (assignEach es X.env).findIdx? (·.1) = none := by rfl) : PG X (.Tuple es k pos) (gSeq X.K n t) := pg_alt (pg_tup hc h hn hst) (pg_lst hc h hn hst)
def rSetU (K : Frag) : TSet := fun o i v H Q => rSetL o i v H Q ∨ rSetD o i v H Q
theorem set_U {K : Frag} (hu : X.A.units + 1 < cLine) : PSet X (rSetU K) := pset_alt set_list (set_dict hu)
/-! ### built-in functions -/
abbrev RCa := List V → Hp → VK → Prop
def rLenV (K : Frag) : RCa := fun xs H Q => ∃ x n, xs = [x] ∧ LenV K x H n ∧ Q (.int n) H
def rLenDK : RCa := fun xs H Q => ∃ a kvs, xs = [V.ref a] ∧ H a = some (.dK kvs) ∧ Q (.int kvs.length) H
def rLenU (K : Frag) : RCa := fun xs H Q => rLenV K xs H Q ∨ (rLenDK xs H Q ∨ rLenT xs H Q)
theorem call_lenU : CallR X (.builtin "len") (rLenU X.K) := CallR.or (r := rLenV X.K) call_len (CallR.or (r := rLenDK) call_lenD call_len_dT)
def rIntOf : RCa := fun xs H Q => (∃ i, xs = [.int i] ∧ Q (.int i) H) ∨ ∃ k, xs = [.bl k] ∧ Q (.int (if k then 1 else 0)) H
theorem call_intOf : CallR X (.type "int") rIntOf := call_int1
def rTupOf (K : Frag) : RCa := fun xs H Q => ∃ p ys, xs = [.ref p] ∧ ((SqL K H p ys ∧ ∀ l, H l = none → Q (.ref l) (upd H l (.tup ys))) ∨ (SqT K H p ys ∧ Q (.ref p) H))
theorem call_tupOf : CallR X (.type "tuple") (rTupOf X.K) := call_tuple_of
def rLstOf (K : Frag) : RCa := fun xs H Q => ∃ p ys, xs = [.ref p] ∧ (SqL K H p ys ∨ SqT K H p ys) ∧ ∀ l, H l = none → Q (.ref l) (upd H l (.lst ys))
theorem call_lstOf : CallR X (.type "list") (rLstOf X.K) := call_list_of
def rMin2' : RCa := fun xs H Q => ∃ i j, xs = [.int i, .int j] ∧ Q (.int (if j < i then j else i)) H
theorem call_min2' (hc : X.calm = true) : CallR X (.builtin "min") rMin2' := call_min2 hc
/-! ### isinstance -/
def isiB (d : PyData) (n : String) : Bool := tyD d == n || (tyD d == "bool" && n == "int")
def isiAny (d : PyData) (ns : List String) : Bool := ns.any (isiB d)
def good (n : String) : Bool := n == "int" || n == "bool" || n == "str" || n == "list" || n == "tuple"
theorem kit_good (d : PyData) (n : String) (h : good n = true) : kitB (tyD d) n = some (isiB d n) := by
  have hn : n = "int" ∨ n = "bool" ∨ n = "str" ∨ n = "list" ∨ n = "tuple" := by
    simp only [good, Bool.or_eq_true, beq_iff_eq] at h
    rcases h with (((h | h) | h) | h) | h <;> simp [h]
  rcases hn with rfl | rfl | rfl | rfl | rfl <;> cases d <;> (dsimp only [isiB, tyD]; decide +kernel)
theorem dp_ty {K : Frag} {H : Hp} {v : V} {d : PyData} (h : Dp K H v d) : TyX K H v (.type (tyD d)) := by
  cases h with
  | non => exact .base .non
  | bl b => exact .base (.bl b)
  | int i => exact .base (.int i)
  | str x => exact .base (.str x)
  | lst hs ha =>
    rcases hs with (hs | ⟨o, hs⟩) | ⟨o, its, n, hk, hc, _⟩
    · exact .base (.lst hs)
    · exact .base (.frz hs)
    · exact .kList hk hc
  | tup hs ha =>
    rcases hs with (hs | ⟨o, hs⟩) | ⟨o, its, n, hk, hc, _⟩
    · exact .base (.tup hs)
    · exact .fTuple hs
    · exact .kTuple hk hc
def rIsi1 (K : Frag) : RCa := fun xs H Q => ∃ x n d, xs = [x, .ty n] ∧ Dp K H x d ∧ good n = true ∧ Q (.bl (isiB d n)) H
def rIsi2 (K : Frag) : RCa := fun xs H Q => ∃ x p ns d, xs = [x, .ref p] ∧ H p = some (.tup (ns.map V.ty)) ∧ Dp K H x d ∧ (ns.all good) = true ∧ Q (.bl (isiAny d ns)) H
def rIsiU (K : Frag) : RCa := fun xs H Q => rIsi1 K xs H Q ∨ rIsi2 K xs H Q
theorem kit_all (K : Frag) (d : PyData) : ∀ ns : List String, ns.all good = true → PySem.W.kitAny K (.type (tyD d)) (ns.map Value.type) = some (isiAny d ns)
  | [], _ => rfl
  | n :: ns, h => by
    have h' : good n = true ∧ ns.all good = true := by simpa using h
    have ih := kit_all K d ns h'.2
    refine kitAny_cons (kit_ty (kit_good d n h'.1)) (fun e => ?_) (fun e => ?_)
    · rw [ih]; unfold isiAny; rw [List.any_cons, e, Bool.false_or]
    · unfold isiAny; rw [List.any_cons, e, Bool.true_or]
theorem cls_all : ∀ ns : List String, Paired ClsV (ns.map V.ty) (ns.map Value.type)
  | [] => .nil
  | n :: ns => .cons (.ty n) (cls_all ns)
theorem call_isiU : CallR X (.builtin "isinstance") (rIsiU X.K) := by
  refine CallR.or (fun pins s σ H xs us Q I r h => ?_) (fun pins s σ H xs us Q I r h => ?_)
  · obtain ⟨x, n, d, rfl, hd, g, q⟩ := h
    exact call_isi pins s σ H _ us Q I r ⟨x, _, _, _, _, rfl, .ty n, dp_ty hd, kit_ty (kit_good d n g), q⟩
  · obtain ⟨x, p, ns, d, rfl, hp, hd, g, q⟩ := h
    exact call_isiT pins s σ H _ us Q I r ⟨x, p, _, _, _, _, rfl, hp, cls_all ns, dp_ty hd, kit_all X.K d ns g, q⟩
/-! ### calls with keywords -/
/-- n values, then the keywords ks, each a parameter behind them -/
def KwTo (fd : FuncData) (ps : List Str) (n : Nat) (ks : List Str) : Prop := ∀ (s : Shared) (us ws : List Value), us.length = n → ws.length = ks.length → BindsTo s fd ⟨us, ks.zip ws⟩ (ps.zip (us ++ ws))
theorem run_kw {CX : CXT} {E : XK} {f : Addr} {fd : FuncData} {ps ks : List Str} {k n : Nat} {sp : Sp} {pins : List (Addr × Obj)} {σ : L2.St} {H : Hp} {s : Shared} {Q : VK} {us ws : List Value} {vs zs : List V} (F : FnOk X.prog X.w X.K X.mg X.base CX k f fd ps sp) (hr : Room k X.A) (hb : KwTo fd ps n ks) (hx : Passes CX X E)
    (I : Inv X pins σ H s) (hn : us.length = n) (hk : ps.length = n + ks.length) (r : Vals vs us) (rz : Vals zs ws) (h : sp (vs ++ zs) H Q E) : wpAny (model X.prog X.w) X.A (call (.ref f) us (ks.zip ws)) (EP X pins σ Q) X.xe s := by
  have r2 : Vals (vs ++ zs) (us ++ ws) := r.append rz
  have hl : (us ++ ws).length = ps.length := by rw [← r2.length]; exact F.len _ _ _ _ h
  have hw : ws.length = ks.length := by rw [List.length_append] at hl; omega
  refine wpAny_call (codeAny_mono (F.run X.A X.stack s H ⟨us, ks.zip ws⟩ (us ++ ws) (vs ++ zs) Q E hr I.env0 (hb s us ws hn hw) r2 h) fun r s' hq => ?_)
  cases r with
  | error e => exact hx pins σ H s e s' I hq
  | ok fl =>
    cases fl with
    | ret u => exact I.after hq
    | next => exact False.elim hq
    | brk => exact False.elim hq
    | cont => exact False.elim hq
theorem pe_callK0 {CX : CXT} {E : XK} {x : Str} {p : Pos} {f : Addr} {fd : FuncData} {ps ks : List Str} {k : Nat} {sp : Sp} {kws : List Keyword} {tk : TA} (F : FnOk X.prog X.w X.K X.mg X.base CX k f fd ps sp) (hr : Room k X.A) (hg : Gl X x) (hm : X.mg x = some (.ref f)) (hk : PySem.W.keepIn X.K (.ref f) = true)
    (hb : KwTo fd ps 0 ks) (hx : Passes CX X E) (hkw : PK X kws tk) (hall : (backToKw pos (keywordEach kws X.env)).all (·.1.isSome) = true := by rfl) (hks : (backToKw pos (keywordEach kws X.env)).filterMap (·.1) = ks := by rfl)
    (hlen : ps.length = 0 + ks.length := by rfl) (hdb : (x == ("__debug__" : Str)) = false := by decide)
    (hpl : ((backTo pos (starEach [] X.env)).any (·.1) || (backToKw pos (keywordEach kws X.env)).any (·.1.isNone)) = false := by rfl) :
    PE X (.Call (.Name x p) [] kws pos) (tCall sp [] E tk) := by
  refine ⟨fun pins s σ H Q I h => ?_⟩
  refine wpAny_Call_Name_kw (ld_glob I hg hm ?_ hdb)
  refine PySem.W.callWith_KW0 (h₀ := X.base) I.ok.mod.kin hk hall ?_ hpl
  refine thn (hkw.run pos pins s σ H _ I h) fun ws s2 ⟨zs, H2, I2, rz, q2⟩ => ⟨I2.kIn, ?_⟩
  rw [hks]
  have q3 : sp (zs ++ []) H2 Q E := q2
  rw [List.append_nil] at q3
  exact run_kw (vs := []) F hr hb hx I2 rfl hlen .nil rz q3
def tCat (t tk : TA) : TA := fun σ H Q => t σ H fun vs H1 => tk σ H1 fun zs H2 => vs.length = vs.length ∧ Q (vs ++ zs) H2
theorem pe_callKn {CX : CXT} {E : XK} {x : Str} {p : Pos} {f : Addr} {fd : FuncData} {ps ks : List Str} {k n : Nat} {sp : Sp} {kws : List Keyword} {t tk : TA} {es : List Expr} (F : FnOk X.prog X.w X.K X.mg X.base CX k f fd ps sp) (hr : Room k X.A) (hg : Gl X x) (hm : X.mg x = some (.ref f)) (hk : PySem.W.keepIn X.K (.ref f) = true)
    (hb : KwTo fd ps n ks) (hx : Passes CX X E) (ha : PA X (e :: es) t) (hkw : PK X kws tk) (hall : (backToKw pos (keywordEach kws X.env)).all (·.1.isSome) = true := by rfl) (hks : (backToKw pos (keywordEach kws X.env)).filterMap (·.1) = ks := by rfl)
    (hlen : ps.length = n + ks.length := by rfl) (hdb : (x == ("__debug__" : Str)) = false := by decide) (he : starEach (e :: es) X.env = (false, eval e X.env) :: starEach es X.env := by rfl)
    (hpl : ((backTo pos (starEach (e :: es) X.env)).any (·.1) || (backToKw pos (keywordEach kws X.env)).any (·.1.isNone)) = false := by rfl) :
    PE X (.Call (.Name x p) (e :: es) kws pos) (fun σ H Q => t σ H fun vs H1 => tk σ H1 fun zs H2 => vs.length = n ∧ sp (vs ++ zs) H2 Q E) := by
  refine ⟨fun pins s σ H Q I h => ?_⟩
  refine wpAny_Call_Name_kw (ld_glob I hg hm ?_ hdb)
  refine PySem.W.callWith_KW (h₀ := X.base) I.ok.mod.kin hk hall (thn (ha.run pos pins s σ H _ I h) fun us s1 ⟨vs, H1, I1, r, q⟩ => ?_) hpl he
  refine thn (hkw.run pos pins s1 σ H1 _ I1 q) fun ws s2 ⟨zs, H2, I2, rz, hl, q2⟩ => ⟨I2.kIn, ?_⟩
  rw [hks]
  exact run_kw F hr hb hx I2 (r.length.symm.trans hl) hlen r rz q2
end
section
variable {K : Frag} {x qual : Str} {params : Arguments} {body : List Stmt} {scope : Scope} {kws : List (Str × V)} {f : Addr} {fd : FuncData} {ps : List Str}
theorem kwTo (F : FunD K x qual params body scope [] kws f fd) {n : Nat} {ks : List Str}
    (h : ∀ (kV doc pm : Value) (an : Option Addr) (cdv ct : Value) (us ws : List Value), us.length = n → ws.length = ks.length → bindArgs (PySem.W.fnOf x qual params body scope .none kV doc pm an cdv ct) ⟨us, ks.zip ws⟩ = pure (ps.zip (us ++ ws))) : KwTo fd ps n ks := fun s us ws hu hw => by
  obtain ⟨oc, od, dV, kV, doc, pm, an, cdv, ct, osl, rfl, lk, hcd, hD, hK⟩ := F.ex
  rcases hD with ⟨_, rfl⟩ | ⟨e, _⟩
  · exact .of_eq (h kV doc pm an cdv ct us ws hu hw)
  · exact absurd rfl e
end
/-- a def of the top -/
abbrev FnP (K : Frag) (x : Str) (st : Stmt) (f : Addr) (fd : FuncData) : Prop := FunD K x x (defArgs st) (defBody st) (defScope st) [] [] f fd
end Slip
/-! what each construct comes to -/
namespace Slip
open PySem PySem.Spec PyProof.Rows L2
section
variable {ρ : Rl} {K : Frag} {σ : L2.St} {H H' : Hp} {ta tb te tc : TE} {t u : TT} {x y z v : V} {i j k : Int} {R : V → Hp → Prop} {a b p : Addr} {xs ys : List V} {d e : PyData}
/-! ### numbers -/
theorem ev_add (h1 : EvV ρ ta σ H (.int i)) (h2 : EvV ρ tb σ H (.int j)) : EvV ρ (tOp (rAddU K) ta tb) σ H (.int (i + j)) := ev_op h1 h2 (.const fun _ _ _ q => .inl ⟨i, j, rfl, rfl, q⟩)
theorem ev_sub (h1 : EvV ρ ta σ H (.int i)) (h2 : EvV ρ tb σ H (.int j)) : EvV ρ (tOp rSubI ta tb) σ H (.int (i - j)) := ev_op h1 h2 (.const fun _ _ _ q => ⟨i, j, rfl, rfl, q⟩)
theorem ev_mul (h1 : EvV ρ ta σ H (.int i)) (h2 : EvV ρ tb σ H (.int j)) (h : CMul i j) : EvV ρ (tOp rMulI ta tb) σ H (.int (i * j)) := ev_op h1 h2 (.const fun _ _ _ q => ⟨i, j, rfl, rfl, h, q⟩)
theorem ev_mod (h1 : EvV ρ ta σ H (.int i)) (h2 : EvV ρ tb σ H (.int j)) (h : 0 < j) : EvV ρ (tOp rModI ta tb) σ H (.int (i % j)) := ev_op h1 h2 (.const fun _ _ _ q => ⟨i, j, rfl, rfl, h, q⟩)
theorem ev_fdiv (h1 : EvV ρ ta σ H (.int i)) (h2 : EvV ρ tb σ H (.int j)) (h : CDiv i j) : EvV ρ (tOp rFdivI ta tb) σ H (.int (i / j)) := ev_op h1 h2 (.const fun _ _ _ q => ⟨i, j, rfl, rfl, h, q⟩)
theorem ev_pow (h1 : EvV ρ ta σ H (.int i)) (h2 : EvV ρ tb σ H (.int j)) (h : CPow i j) : EvV ρ (tOp rPowI ta tb) σ H (.int (i ^ j.toNat)) := ev_op h1 h2 (.const fun _ _ _ q => ⟨i, j, rfl, rfl, h, q⟩)
theorem ev_neg (h1 : EvV ρ ta σ H (.int i)) : EvV ρ (tUn rNegI ta) σ H (.int (-i)) := fun H1 e1 Q q => h1 H1 e1 _ fun v H2 e2 hv => ⟨i, hv, q _ H2 e2 rfl⟩
theorem ev_int (h1 : EvV ρ ta σ H (.int i)) : EvV ρ (tCB rIntOf (tCons ta tNil)) σ H (.int i) := ev_cbV (ea_cons h1 ea_nil) fun H1 _ Q q => .inl ⟨i, rfl, q _ H1 .rfl rfl⟩
theorem ev_intB {c : Bool} (h1 : EvV ρ ta σ H (.bl c)) : EvV ρ (tCB rIntOf (tCons ta tNil)) σ H (.int (if c then 1 else 0)) := ev_cbV (ea_cons h1 ea_nil) fun H1 _ Q q => .inr ⟨c, rfl, q _ H1 .rfl rfl⟩
/-! ### texts -/
theorem ev_addS {s1 s2 : Str} (h1 : EvV ρ ta σ H (.str s1)) (h2 : EvV ρ tb σ H (.str s2)) (h : s1.length + s2.length ≤ 100000) : EvV ρ (tOp (rAddU K) ta tb) σ H (.str (s1 ++ s2)) := ev_op h1 h2 (.const fun _ _ _ q => .inr (.inl ⟨_, _, rfl, rfl, Evl.sz_of h, q⟩))
theorem ev_ixS {s : Str} {c : Nat} (h1 : EvV ρ ta σ H (.str s)) (h2 : EvV ρ tb σ H (.int i)) (hl : s.length ≤ 100000) (h : atI s.cps.toList i = some c) : EvV ρ (tIxU K ta tb) σ H (.str ⟨#[c]⟩) :=
  fun H1 e1 Q q => .inl (ev_op h1 h2 (RV.const (r := rIx K) fun _ _ _ q => .inr (.inr ⟨s, i, c, rfl, rfl, Evl.sz_of hl, h, q⟩)) H1 e1 Q q)
theorem ev_lenS {s : Str} (h1 : EvV ρ ta σ H (.str s)) (hl : s.length ≤ 100000) : EvV ρ (tCB (rLenU K) (tCons ta tNil)) σ H (.int (s.length : Int)) := ev_cbV (ea_cons h1 ea_nil) fun H1 _ Q q => .inl ⟨_, s.length, rfl, ⟨Evl.sz_of hl, rfl⟩, q _ H1 .rfl rfl⟩
theorem ev_inS {s : Str} {c : Nat} (h1 : EvV ρ ta σ H (.str ⟨#[c]⟩)) (h2 : EvV ρ tb σ H (.str s)) : EvV ρ (tOp (rInU K) ta tb) σ H (.bl (decide (c ∈ s.cps.toList))) := ev_op h1 h2 (.const fun _ _ _ q => .inr (.inl ⟨c, s, rfl, rfl, q⟩))
theorem ev_notInS {s : Str} {c : Nat} (h1 : EvV ρ ta σ H (.str ⟨#[c]⟩)) (h2 : EvV ρ tb σ H (.str s)) : EvV ρ (tOp (rNotInU K) ta tb) σ H (.bl (!decide (c ∈ s.cps.toList))) := ev_op h1 h2 (.const fun _ _ _ q => .inr (.inl ⟨c, s, rfl, rfl, q⟩))
/-! ### sequences -/
theorem ev_ix {n : Nat} (h1 : EvV ρ ta σ H (.ref a)) (h2 : EvV ρ tb σ H (.int i)) (hs : ∀ H1, ρ.r H H1 → SqA K H1 a xs) (hi : i = (n : Int)) (h : xs[n]? = some v) : EvV ρ (tIxU K ta tb) σ H v :=
  fun H1 e1 Q q => .inl (ev_op h1 h2 (RV.const (r := rIx K) fun H2 e2 _ q => (hs H2 e2).elim (fun hs => .inl ⟨a, xs, i, v, rfl, rfl, hs, hi ▸ atI_nat h, q⟩) fun hs => .inr (.inl ⟨a, xs, i, v, rfl, rfl, hs, hi ▸ atI_nat h, q⟩)) H1 e1 Q q)
theorem ev_len (h1 : EvV ρ ta σ H (.ref a)) (hs : ∀ H1, ρ.r H H1 → SqA K H1 a xs) : EvV ρ (tCB (rLenU K) (tCons ta tNil)) σ H (.int (xs.length : Int)) :=
  ev_cbV (ea_cons h1 ea_nil) fun H1 e1 Q q => .inl ⟨_, xs.length, rfl, (hs H1 e1).elim (fun h => .inl ⟨xs, h, rfl⟩) fun h => .inr ⟨xs, h, rfl⟩, q _ H1 .rfl rfl⟩
/-! ### isinstance, is None, ==, < -/
theorem ev_isi {n : String} (h1 : EvV ρ ta σ H v) (hd : DS ρ H v d) (g : good n = true) : EvV ρ (tCB (rIsiU K) (tCons ta (tCons (tC (.ty n)) tNil))) σ H (.bl (isiB d n)) :=
  ev_cbV (ea_cons h1 (ea_cons ev_c ea_nil)) fun H1 e1 Q q => .inl ⟨v, n, d, rfl, (e1.ds hd).dp _ _, g, q _ H1 .rfl rfl⟩
theorem ev_isN (h1 : EvV ρ ta σ H v) : EvV ρ (tOp rIsN ta (tC .non)) σ H (.bl (decide (v = .non))) := ev_op h1 ev_c (.const fun _ _ _ q => ⟨rfl, q⟩)
theorem ev_notN (h1 : EvV ρ ta σ H v) : EvV ρ (tOp rNotN ta (tC .non)) σ H (.bl (!decide (v = .non))) := ev_op h1 ev_c (.const fun _ _ _ q => ⟨rfl, q⟩)
theorem ev_eqD (h1 : EvV ρ ta σ H x) (h2 : EvV ρ tb σ H y) (hd : DS ρ H x d) (he : DS ρ H y e) (sd : SeqAt.shaped d = true) (se : SeqAt.shaped e = true) : EvV ρ (tOp (rEqU K) ta tb) σ H (.bl (PyData.eqv d e)) :=
  ev_op h1 h2 (.const fun H1 e1 _ q => .inr ⟨d, e, (e1.ds hd).dp _ _, (e1.ds he).dp _ _, sd, se, q⟩)
theorem ev_neD (h1 : EvV ρ ta σ H x) (h2 : EvV ρ tb σ H y) (hd : DS ρ H x d) (he : DS ρ H y e) (sd : SeqAt.shaped d = true) (se : SeqAt.shaped e = true) : EvV ρ (tOp (rNeU K) ta tb) σ H (.bl (!PyData.eqv d e)) :=
  ev_op h1 h2 (.const fun H1 e1 _ q => .inr ⟨d, e, (e1.ds hd).dp _ _, (e1.ds he).dp _ _, sd, se, q⟩)
theorem ev_eqV (h1 : EvV ρ ta σ H x) (h2 : EvV ρ tb σ H y) (h : scal x y = true) : EvV ρ (tOp (rEqU K) ta tb) σ H (.bl (decide (x = y))) := ev_op h1 h2 (.const fun H1 e1 _ q => .inl ⟨h, q⟩)
theorem ev_neV (h1 : EvV ρ ta σ H x) (h2 : EvV ρ tb σ H y) (h : scal x y = true) : EvV ρ (tOp (rNeU K) ta tb) σ H (.bl (!decide (x = y))) := ev_op h1 h2 (.const fun H1 e1 _ q => .inl ⟨h, q⟩)
theorem decI (i j : Int) : decide (V.int i = V.int j) = decide (i = j) := by simp
theorem decS (i j : Str) : decide (V.str i = V.str j) = decide (i = j) := by simp
theorem decB (i j : Bool) : decide (V.bl i = V.bl j) = (i == j) := by cases i <;> cases j <;> rfl
theorem ev_eqI (h1 : EvV ρ ta σ H (.int i)) (h2 : EvV ρ tb σ H (.int j)) : EvV ρ (tOp (rEqU K) ta tb) σ H (.bl (decide (i = j))) := (ev_eqV h1 h2 rfl).val (by rw [decI])
theorem ev_neI (h1 : EvV ρ ta σ H (.int i)) (h2 : EvV ρ tb σ H (.int j)) : EvV ρ (tOp (rNeU K) ta tb) σ H (.bl (!decide (i = j))) := (ev_neV h1 h2 rfl).val (by rw [decI])
theorem ev_eqS {s1 s2 : Str} (h1 : EvV ρ ta σ H (.str s1)) (h2 : EvV ρ tb σ H (.str s2)) : EvV ρ (tOp (rEqU K) ta tb) σ H (.bl (decide (s1 = s2))) := (ev_eqV h1 h2 rfl).val (by rw [decS])
theorem ev_neS {s1 s2 : Str} (h1 : EvV ρ ta σ H (.str s1)) (h2 : EvV ρ tb σ H (.str s2)) : EvV ρ (tOp (rNeU K) ta tb) σ H (.bl (!decide (s1 = s2))) := (ev_neV h1 h2 rfl).val (by rw [decS])
theorem ev_eqB {c1 c2 : Bool} (h1 : EvV ρ ta σ H (.bl c1)) (h2 : EvV ρ tb σ H (.bl c2)) : EvV ρ (tOp (rEqU K) ta tb) σ H (.bl (c1 == c2)) := (ev_eqV h1 h2 rfl).val (by rw [decB])
theorem ev_cmp {g : PyData → PyData → Bool} (h1 : EvV ρ ta σ H x) (h2 : EvV ρ tb σ H y) (hd : DS ρ H x d) (he : DS ρ H y e) (al : PySem.W.alike d e = true) (nn : d ≠ .none) (dp : d.depth ≤ 64) : EvV ρ (tOp (rCmp K g) ta tb) σ H (.bl (g d e)) :=
  ev_op h1 h2 (.const fun H1 e1 _ q => ⟨d, e, (e1.ds hd).dp _ _, (e1.ds he).dp _ _, al, nn, dp, q⟩)
theorem rv_cmpI {g : PyData → PyData → Bool} (H1 : Hp) (Q : VK) (q : Q (.bl (g (.int i) (.int j))) H1) : rCmp K g (.int i) (.int j) H1 Q := ⟨.int i, .int j, .int i, .int j, rfl, by simp, by show (0 : Nat) ≤ 64; decide, q⟩
theorem ev_cmpI {g : PyData → PyData → Bool} (h1 : EvV ρ ta σ H (.int i)) (h2 : EvV ρ tb σ H (.int j)) : EvV ρ (tOp (rCmp K g) ta tb) σ H (.bl (g (.int i) (.int j))) := ev_op h1 h2 (.const fun H1 _ Q q => rv_cmpI H1 Q q)
theorem lt_int (i j : Int) : PySem.W.dataLt (.int i) (.int j) = decide (i < j) := PySem.W.dataLt_int i j
theorem ev_lt (h1 : EvV ρ ta σ H (.int i)) (h2 : EvV ρ tb σ H (.int j)) : EvV ρ (tOp (rCmp K gLt) ta tb) σ H (.bl (decide (i < j))) := (ev_cmpI h1 h2).val (by rw [show gLt (.int i) (.int j) = PySem.W.dataLt (.int i) (.int j) from rfl, lt_int])
theorem ev_gt (h1 : EvV ρ ta σ H (.int i)) (h2 : EvV ρ tb σ H (.int j)) : EvV ρ (tOp (rCmp K gGt) ta tb) σ H (.bl (decide (j < i))) := (ev_cmpI h1 h2).val (by rw [show gGt (.int i) (.int j) = PySem.W.dataLt (.int j) (.int i) from rfl, lt_int])
theorem not_lt_dec (i j : Int) : (!decide (j < i)) = decide (i ≤ j) := by
  by_cases h : i ≤ j
  · rw [decide_eq_true h, decide_eq_false (by omega)]; rfl
  · rw [decide_eq_false h, decide_eq_true (by omega)]; rfl
theorem ev_le (h1 : EvV ρ ta σ H (.int i)) (h2 : EvV ρ tb σ H (.int j)) : EvV ρ (tOp (rCmp K gLe) ta tb) σ H (.bl (decide (i ≤ j))) := (ev_cmpI h1 h2).val (by rw [show gLe (.int i) (.int j) = !PySem.W.dataLt (.int j) (.int i) from rfl, lt_int, not_lt_dec])
theorem ev_ge (h1 : EvV ρ ta σ H (.int i)) (h2 : EvV ρ tb σ H (.int j)) : EvV ρ (tOp (rCmp K gGe) ta tb) σ H (.bl (decide (j ≤ i))) := (ev_cmpI h1 h2).val (by rw [show gGe (.int i) (.int j) = !PySem.W.dataLt (.int i) (.int j) from rfl, lt_int, not_lt_dec])
theorem rle_val (i j : Int) : gLe (.int i) (.int j) = decide (i ≤ j) := by rw [show gLe (.int i) (.int j) = !PySem.W.dataLt (.int j) (.int i) from rfl, lt_int, not_lt_dec]
/-- i <= j <= k -/
theorem ev_chainLe (h1 : EvV ρ ta σ H (.int i)) (h2 : EvV ρ tb σ H (.int j)) (h3 : EvV ρ tc σ H (.int k)) : EvV ρ (tChain (rCmp K gLe) (rCmp K gLe) ta tb tc) σ H (.bl (decide (i ≤ j) && decide (j ≤ k))) := fun H1 e1 Q q =>
  h1 H1 e1 _ fun _ H2 e2 hx => by
    subst hx
    exact h2 H2 (e1.trans e2) _ fun _ H3 e3 hy => by
      subst hy
      refine rv_cmpI H3 _ ⟨_, rfl, ?_⟩
      rw [rle_val]
      cases hc : decide (i ≤ j) with
      | true =>
        rw [if_pos rfl]
        refine h3 H3 ((e1.trans e2).trans e3) _ fun _ H4 e4 hz => ?_
        subst hz
        refine rv_cmpI H4 _ ?_
        rw [rle_val]
        exact q _ H4 ((e2.trans e3).trans e4) (by rw [hc, Bool.true_and])
      | false =>
        rw [if_neg Bool.false_ne_true]
        exact q _ H3 (e2.trans e3) (by rw [hc, Bool.false_and])
/-! ### what a for walks -/
variable {wi : TI} {n : Nat} {Y : Nat → Hp → V → Hp → Prop}
theorem ei_seq (h : EvV ρ te σ H (.ref a)) (hs : ∀ H1, ρ.r H H1 → SqA K H1 a xs) (ht : (∀ H1, ρ.r H H1 → SqL K H1 a xs) ∨ (∀ H1, ρ.r H H1 → SqT K H1 a xs)) : EvI ρ (iSeq K te) σ H xs.length (YAt xs) := fun H1 e1 R k => by
  rcases ht with ht | ht
  · exact .inl (h H1 e1 _ fun v H2 e2 hv => ⟨a, hv, ⟨xs, ht H2 (e1.trans e2)⟩, k _ H2 e2 (walk_list.mono (fun H3 e3 => ht H3 ((e1.trans e2).trans e3)) fun _ _ _ _ _ _ y => y)⟩)
  · exact .inr (.inl (h H1 e1 _ fun v H2 e2 hv => ⟨a, hv, ⟨xs, ht H2 (e1.trans e2)⟩, k _ H2 e2 (walk_tup.mono (fun H3 e3 => ht H3 ((e1.trans e2).trans e3)) fun _ _ _ _ _ _ y => y)⟩))
theorem ei_str {s : Str} (h : EvV ρ te σ H (.str s)) : EvI ρ (iSeq K te) σ H s.cps.size (fun i H v H' => H' = H ∧ ∃ c, s.cps[i]? = some c ∧ v = .str ⟨#[c]⟩) := fun H1 e1 R k =>
  .inr (.inr (h H1 e1 _ fun v H2 e2 hv => ⟨s, hv, k _ H2 e2 (walk_str.mono (fun _ _ => trivial) fun _ _ _ _ _ _ y => y)⟩))
theorem ei_rng {ts : TA} (h : EvAV ρ ts σ H [.int i]) (lo : -100000 ≤ i) (hi : i ≤ 100000000) : EvI ρ (iRng1 ts) σ H i.toNat (YFn fun m => .int ((m : Nat) : Int)) := fun H1 e1 R k =>
  h H1 e1 _ fun v H2 e2 hv => ⟨i, hv, by omega, by omega, k _ H2 e2 (walk_range.mono (fun _ _ => trivial) fun m H3 x H4 _ _ y => ⟨y.1, by rw [y.2]; exact congrArg V.int (Int.zero_add _)⟩)⟩
end
end Slip
/-! comprehensions -/
namespace Slip
open PySem PySem.Spec PyProof.Rows L2
def keptN (f : Nat → Bool) (n : Nat) : List Nat := (List.range n).filter f
theorem kept_yes {f : Nat → Bool} {n : Nat} (h : f n = true) : keptN f (n + 1) = keptN f n ++ [n] := by
  unfold keptN
  rw [List.range_succ, List.filter_append, List.filter_cons, if_pos h] <;> rfl
theorem kept_no {f : Nat → Bool} {n : Nat} (h : f n = false) : keptN f (n + 1) = keptN f n := by
  unfold keptN
  rw [List.range_succ, List.filter_append, List.filter_cons, if_neg (by rw [h]; exact Bool.false_ne_true)]
  exact List.append_nil _
theorem kept_len (f : Nat → Bool) (n : Nat) : (keptN f n).length ≤ n := by
  have h := List.length_filter_le f (List.range n)
  rw [List.length_range] at h
  exact h
theorem kept_congr {f g : Nat → Bool} {n : Nat} (h : ∀ i, i < n → f i = g i) : keptN f n = keptN g n := by
  unfold keptN
  exact List.filter_congr fun i hi => h i (List.mem_range.mp hi)
theorem kept_all {f : Nat → Bool} {n : Nat} (h : ∀ i, i < n → f i = true) : keptN f n = List.range n := by
  unfold keptN
  exact List.filter_eq_self.mpr fun i hi => h i (List.mem_range.mp hi)
/-- xs, one for each kept turn -/
def Items (P : Nat → V → Prop) (is : List Nat) (xs : List V) : Prop := xs.length = is.length ∧ ∀ (m : Nat) x i, xs[m]? = some x → is[m]? = some i → P i x
theorem Items.nil {P : Nat → V → Prop} : Items P [] [] := ⟨rfl, fun m x i h => by simp at h⟩
theorem Items.snoc {P : Nat → V → Prop} {is : List Nat} {xs : List V} (h : Items P is xs) {i : Nat} {x : V} (p : P i x) : Items P (is ++ [i]) (xs ++ [x]) := by
  refine ⟨by rw [List.length_append, List.length_append, h.1]; rfl, fun m y j a b => ?_⟩
  by_cases hm : m < xs.length
  · rw [List.getElem?_append_left hm] at a
    rw [List.getElem?_append_left (h.1 ▸ hm)] at b
    exact h.2 m y j a b
  · rw [List.getElem?_append_right (by omega)] at a
    rw [List.getElem?_append_right (by have := h.1; omega)] at b
    have e : m - xs.length = 0 := by
      cases q : m - xs.length with
      | zero => rfl
      | succ z => rw [q] at a; simp at a
    rw [e] at a
    rw [← h.1, e] at b
    simp at a b
    subst a b
    exact p
theorem Items.imp {P P' : Nat → V → Prop} {is : List Nat} {xs : List V} (h : Items P is xs) (f : ∀ i x, P i x → P' i x) : Items P' is xs := ⟨h.1, fun m x i a b => f i x (h.2 m x i a b)⟩
theorem Items.map {v : Nat → V} {is : List Nat} {xs : List V} (h : Items (fun i x => x = v i) is xs) : xs = is.map v := by
  refine List.ext_getElem? fun m => ?_
  rw [List.getElem?_map]
  cases a : xs[m]? with
  | none =>
    have := List.getElem?_eq_none_iff.mp a
    rw [List.getElem?_eq_none_iff.mpr (by rw [← h.1]; exact this)] <;> rfl
  | some x =>
    have hm : m < is.length := by rw [← h.1]; exact (List.getElem?_eq_some_iff.mp a).1
    rw [List.getElem?_eq_getElem hm]
    show some x = some (v _)
    rw [h.2 m x _ a (List.getElem?_eq_getElem hm)]
section
variable {ρ : Rl} {K : Frag} {σ : L2.St} {H : Hp} {te : TE} {tt : TT} {wi : TI} {g : TG} {vs : List Nat} {n : Nat} {Y : Nat → Hp → V → Hp → Prop}
/-- what a turn's test and element come to -/
def Turn1 (ρ' : Rl) (tt : TT) (te : TE) (C : Bool → Prop) (R : V → Hp → Prop) (σ2 : L2.St) (H4 : Hp) : Prop :=
  ∀ H5, ρ'.r H4 H5 → ∀ Q : Bool → Hp → Prop, (∀ b H6, ρ'.r H5 H6 → C b → (b = true → Ev ρ' te σ2 H6 R) → Q b H6) → tt σ2 H5 Q
theorem ev_lc {R : Rl → Nat → V → Hp → Prop} {C : Nat → Bool → Prop} (own : Own ρ H) (hn : n ≤ 90000) (hI : EvI ρ wi σ H n Y)
    (hR : ∀ ρ' i x H1 H2, ρ'.r H1 H2 → R ρ' i x H1 → R ρ' i x H2) (hL : ∀ D i x H1, R (ρ.and D) i x H1 → R ρ i x H1)
    (hs : ∀ D H1, ρ.r H H1 → H1 D = none → ∀ i x H2 H3, i < n → ρ.r H1 H2 → Own (ρ.and D) H2 → Y i H2 x H3 → ∀ cont : L2.St → Hp → Prop,
      (∀ σ2 H4, wipe σ2 vs = wipe σ vs → ρ.r H2 H4 → Turn1 ρ tt te (C i) (R (ρ.and D) i) σ2 H4 → cont σ2 H4) → g x (wipe σ vs) H3 cont) :
    Ev ρ (tLc wi g tt te vs) σ H (fun v H2 => ∃ p xs, ∃ f : Nat → Bool, v = .ref p ∧ ¬ ρ.S p ∧ H p = none ∧ H2 p = some (.lst xs) ∧ (∀ i, i < n → C i (f i)) ∧ Items (fun i x => R ρ i x H2) (keptN f n) xs) := fun H0 e0 Q q =>
  hI H0 e0 _ fun J H1 e1 w D hD => by
    have e01 := e0.trans e1
    have nS : ¬ ρ.S D := (own.r e01).fresh hD
    refine lc_it w (fun i H' => ρ.r H1 H' ∧ ∃ xs, ∃ f : Nat → Bool, H' D = some (.lst xs) ∧ (∀ i', i' < i → C i' (f i')) ∧ Items (fun i' x => R (ρ.and D) i' x H') (keptN f i) xs)
      ⟨r_new _ hD, [], fun _ => true, upd_same, fun i h => absurd h (Nat.not_lt_zero i), Items.nil⟩ (fun i H' _ p => p.1) ?_ ?_
    · rintro i x H2 H3 hi ⟨r12, xs, f, hx, hC, hit⟩ y
      have oD : Own (ρ.and D) H2 := (own.r e01).and r12 (by rw [hx]; exact Option.some_ne_none _)
      refine hs D H1 e01 hD i x H2 H3 hi r12 oD y _ fun σ2 H4 hw r24 ht => ⟨hw, ?_⟩
      refine ht H4 .rfl _ fun b H5 r45 hCb he => ?_
      have r25 := r24.trans r45
      have hlen : xs.length ≤ 90000 := by
        have := hit.1
        have := kept_len f i
        omega
      have fC : ∀ c : Bool, C i c → ∀ i', i' < i + 1 → C i' ((fun j => if j = i then c else f j) i') := fun c hc i' hi' => by
        by_cases z : i' = i
        · subst z; show C i' (if i' = i' then c else f i'); rw [if_pos rfl]; exact hc
        · show C i' (if i' = i then c else f i'); rw [if_neg z]; exact hC i' (by omega)
      have fk : ∀ c : Bool, keptN (fun j => if j = i then c else f j) i = keptN f i := fun c => kept_congr fun j hj => if_neg (by omega)
      cases b with
      | true =>
        show te σ2 H5 _
        refine he rfl H5 .rfl _ fun z H6 r56 hz => ?_
        have r26 := r25.trans r56
        refine ⟨xs, r26.keep _ _ nS hx, Evl.sz_lt (by omega), r_mut (r12.trans r26) hD, xs ++ [z], fun j => if j = i then true else f j, upd_same, fC true hCb, ?_⟩
        rw [kept_yes (by show (if i = i then true else f i) = true; rw [if_pos rfl]), fk true]
        have g6 : H6 D = some (.lst xs) := r26.keep _ _ nS hx
        exact (hit.imp fun i' x' h => hR _ _ _ _ _ ((and_of r26).trans (r_chg g6 nS)) h).snoc (hR _ _ _ _ _ (r_chg g6 nS) hz)
      | false =>
        refine ⟨r12.trans r25, xs, fun j => if j = i then false else f j, r25.keep _ _ nS hx, fC false hCb, ?_⟩
        rw [kept_no (by show (if i = i then false else f i) = false; rw [if_pos rfl]), fk false]
        exact hit.imp fun i' x' h => hR _ _ _ _ _ (and_of r25) h
    · rintro H' ⟨r12, xs, f, hx, hC, hit⟩
      exact q _ H' (e1.trans r12) ⟨D, xs, f, rfl, nS, e01.back D hD, hx, hC, hit.imp fun i x z => hL D i x H' z⟩
/-- no test, one name as the target, elements whose values are known -/
theorem ev_lcV {j : Nat} {v : Nat → V} (own : Own ρ H) (hn : n ≤ 90000) (hI : EvI ρ wi σ H n Y) (hw : ∀ x, wipe ((wipe σ vs).set j (some x)) vs = wipe σ vs)
    (hY : ∀ i H2 x H3, Y i H2 x H3 → H3 = H2) (he : ∀ i x H2 H3, i < n → ρ.r H H2 → Y i H2 x H3 → EvV ρ te ((wipe σ vs).set j (some x)) H2 (v i)) :
    Ev ρ (tLc wi (gName j) tYes te vs) σ H (fun u H2 => ∃ p, u = .ref p ∧ ¬ ρ.S p ∧ H p = none ∧ H2 p = some (.lst ((List.range n).map v))) := by
  refine (ev_lc (R := fun _ i x _ => x = v i) (C := fun _ b => b = true) own hn hI (fun _ _ _ _ _ _ h => h) (fun _ _ _ _ h => h) ?_).imp ?_
  · intro D H1 r1 hD i x H2 H3 hi r2 oD y cont hc
    have e3 := hY i H2 x H3 y
    refine hc _ H3 (hw x) (by rw [e3]; exact .rfl) fun H5 r5 Q q => q true H5 .rfl rfl fun _ => ?_
    exact (he i x H2 H3 hi (r1.trans r2) y).mono (by rw [← e3]; exact r5)
  · rintro u H2 r ⟨p, xs, f, e, nS, hp, hx, hC, hit⟩
    rw [kept_all hC] at hit
    exact ⟨p, e, nS, hp, by rw [hx, hit.map]⟩
/-- no test, one name, elements that are data -/
theorem ev_lcD {j : Nat} {dd : Nat → PyData} (own : Own ρ H) (hn : n ≤ 90000) (hI : EvI ρ wi σ H n Y) (hw : ∀ x, wipe ((wipe σ vs).set j (some x)) vs = wipe σ vs)
    (hY : ∀ i H2 x H3, Y i H2 x H3 → H3 = H2)
    (he : ∀ D H1, ρ.r H H1 → H1 D = none → ∀ i x H2 H3, i < n → ρ.r H1 H2 → Own (ρ.and D) H2 → Y i H2 x H3 → Ev ρ te ((wipe σ vs).set j (some x)) H2 (fun y H4 => DS (ρ.and D) H4 y (dd i))) :
    Ev ρ (tLc wi (gName j) tYes te vs) σ H (fun u H2 => ∃ p xs, u = .ref p ∧ ¬ ρ.S p ∧ H p = none ∧ H2 p = some (.lst xs) ∧ DSs ρ H2 xs ((List.range n).map dd)) := by
  refine (ev_lc (R := fun ρ' i x H' => DS ρ' H' x (dd i)) (C := fun _ b => b = true) own hn hI (fun _ _ _ _ _ r h => r.ds h) (fun _ _ _ _ h => h.less) ?_).imp ?_
  · intro D H1 r1 hD i x H2 H3 hi r2 oD y cont hc
    have e3 := hY i H2 x H3 y
    refine hc _ H3 (hw x) (by rw [e3]; exact .rfl) fun H5 r5 Q q => q true H5 .rfl rfl fun _ => ?_
    exact (he D H1 r1 hD i x H2 H3 hi r2 oD y).mono (by rw [← e3]; exact r5)
  · rintro u H2 r ⟨p, xs, f, e, nS, hp, hx, hC, hit⟩
    rw [kept_all hC] at hit
    refine ⟨p, xs, e, nS, hp, hx, .of (by rw [hit.1, List.length_map]) fun m x d a b => ?_⟩
    rw [List.getElem?_map] at b
    cases q : (List.range n)[m]? with
    | none => rw [q] at b; cases b
    | some i =>
      rw [q] at b
      have := hit.2 m x i a q
      cases b
      exact this
end
end Slip
/-! the checks: what they promise, and that they keep it -/
namespace Slip
open PySem PySem.Spec PyProof.Rows L2
/-! ### data -/
def isSeqD : PyData → Bool
  | .list _ => true
  | .tuple _ => true
  | _ => false
def itemsD : PyData → List PyData
  | .list ds => ds
  | .tuple ds => ds
  | _ => []
mutual
def sm : PyData → Bool
  | .str s => decide (s.length ≤ 1000)
  | .list ds => decide (ds.length ≤ 1000) && smAll ds
  | .tuple ds => decide (ds.length ≤ 1000) && smAll ds
  | _ => true
def smAll : List PyData → Bool
  | [] => true
  | d :: ds => sm d && smAll ds
end
theorem smAll_mem : ∀ {ds : List PyData} {d : PyData}, smAll ds = true → d ∈ ds → sm d = true
  | e :: ds, d, h, hm => by
    have h' : sm e = true ∧ smAll ds = true := by simpa [smAll] using h
    rcases List.mem_cons.mp hm with rfl | hm
    · exact h'.1
    · exact smAll_mem h'.2 hm
theorem smAll_of : ∀ {ds : List PyData}, (∀ d ∈ ds, sm d = true) → smAll ds = true
  | [], _ => rfl
  | e :: ds, h => by
    show (sm e && smAll ds) = true
    rw [h e (List.mem_cons_self ..), smAll_of fun d hd => h d (List.mem_cons_of_mem _ hd)]
    rfl
theorem sm_str {s : Str} (h : sm (.str s) = true) : s.length ≤ 1000 := by simpa [sm] using h
theorem sm_seq {ds : List PyData} (h : sm (.list ds) = true ∨ sm (.tuple ds) = true) : ds.length ≤ 1000 ∧ smAll ds = true := by simpa [sm] using h
def letters : List Nat := ("abcdef" : Str).cps.toList
def isWordD : PyData → Bool
  | .str s => s.cps.toList.all fun c => decide (c ∈ letters)
  | _ => false
def isWholeD (lo hi : Int) : PyData → Bool
  | .int i => decide (lo ≤ i) && decide (i ≤ hi)
  | _ => false
def isTripleD (d : PyData) : Bool := isSeqD d && decide ((itemsD d).length = 3)
theorem isi_seq (d : PyData) : isiAny d ["list", "tuple"] = isSeqD d := by cases d <;> rfl
theorem DS.seqd {ρ : Rl} {H : Hp} {v : V} {d : PyData} (h : DS ρ H v d) (s : isSeqD d = true) : ∃ a xs, v = .ref a ∧ DSs ρ H xs (itemsD d) ∧ (∀ (K : Frag) (H' : Hp), ρ.r H H' → SqA K H' a xs) ∧ ((∀ (K : Frag) H', ρ.r H H' → SqL K H' a xs) ∨ ∀ (K : Frag) H', ρ.r H H' → SqT K H' a xs) := by
  cases d with
  | list ds => cases h with | lst n hs ha => exact ⟨_, _, rfl, ha, fun K H' e => .inl (.of (e.keep _ _ n hs)), .inl fun K H' e => .of (e.keep _ _ n hs)⟩
  | tuple ds => cases h with | tup hs ha => exact ⟨_, _, rfl, ha, fun K H' e => .inr (.inl (.inl (e.tup _ _ hs))), .inr fun K H' e => .inl (.inl (e.tup _ _ hs))⟩
  | none => cases s
  | bool b => cases s
  | int i => cases s
  | str x => cases s
  | dict k => cases s
theorem DS.inv_int {ρ : Rl} {H : Hp} {v : V} {d : PyData} (h : DS ρ H v d) (e : (isiB d "int" && !isiB d "bool") = true) : ∃ i, d = .int i ∧ v = .int i := by
  cases h with
  | int i => exact ⟨i, rfl, rfl⟩
  | non => exact absurd e (by show ¬ (false && !false) = true; decide)
  | bl b => exact absurd e (by show ¬ (true && !true) = true; decide)
  | str x => exact absurd e (by show ¬ (false && !false) = true; decide)
  | lst _ _ _ => exact absurd e (by show ¬ (false && !false) = true; decide)
  | tup _ _ => exact absurd e (by show ¬ (false && !false) = true; decide)
theorem DS.inv_str {ρ : Rl} {H : Hp} {v : V} {d : PyData} (h : DS ρ H v d) (e : isiB d "str" = true) : ∃ s, d = .str s ∧ v = .str s := by
  cases h with
  | str s => exact ⟨s, rfl, rfl⟩
  | non => exact absurd e (by show ¬ false = true; decide)
  | bl b => exact absurd e (by show ¬ false = true; decide)
  | int x => exact absurd e (by show ¬ false = true; decide)
  | lst _ _ _ => exact absurd e (by show ¬ false = true; decide)
  | tup _ _ => exact absurd e (by show ¬ false = true; decide)
/-! ### promises of a truth value about one datum -/
def spB1 (F : PyData → Bool) : Sp := fun vs H Q _ => ∃ v d, vs = [v] ∧ DS exR H v d ∧ sm d = true ∧ ∀ H', Ext H H' → Q (.bl (F d)) H'
theorem spB1_len {F : PyData → Bool} {vs : List V} {H : Hp} {Q : VK} {E : XK} (h : spB1 F vs H Q E) : vs.length = 1 := by
  obtain ⟨v, d, rfl, _⟩ := h
  rfl
section
variable {ρ : Rl} {K : Frag} {σ : L2.St} {H : Hp} {ta tb te : TE} {v : V} {d : PyData}
theorem useB1 {F : PyData → Bool} (hd : DS ρ H v d) (hs : sm d = true) : SpR ρ (spB1 F) [v] H (fun v' _ => v' = .bl (F d)) := fun H1 e1 Q q E => ⟨v, d, rfl, (e1.ds hd).ex, hs, fun H' e => q _ H' (Ext.r e) rfl⟩
theorem ev_B1 {F : PyData → Bool} {E : XK} (h : EvV ρ ta σ H v) (hd : DS ρ H v d) (hs : sm d = true) : EvV ρ (tCall (spB1 F) [] E (tCons ta tNil)) σ H (.bl (F d)) := ev_call (ea_cons h ea_nil) (useB1 hd hs)
theorem ev_isiLT (h : EvV ρ ta σ H v) (hd : DS ρ H v d) : EvV ρ (tCB (rIsiU K) (tCons ta (tCons (tTup (tCons (tC (.ty "list")) (tCons (tC (.ty "tuple")) tNil))) tNil))) σ H (.bl (isSeqD d)) := fun H1 e1 Q q =>
  h H1 e1 _ fun v' H2 e2 ev => by
    subst ev
    refine ⟨by show 2 ≤ sizeLine; decide, fun p hp => ?_⟩
    refine .inr ⟨_, p, ["list", "tuple"], d, rfl, upd_same, ((e1.trans (r_new2 e2 _ hp)).ds hd).dp _ _, rfl, ?_⟩
    rw [isi_seq]
    exact q _ _ (r_new2 e2 _ hp) rfl
/-- all([..]) of truth values that are known -/
theorem ev_all {n : Nat} {f : Nat → Bool} (h : Ev ρ te σ H (fun u H2 => ∃ p, u = .ref p ∧ ¬ ρ.S p ∧ H p = none ∧ H2 p = some (.lst ((List.range n).map fun i => V.bl (f i))))) : EvV ρ (tCB (rAll K) (tCons te tNil)) σ H (.bl ((List.range n).all f)) :=
  ev_cb (ea_one h) fun vs H1 e1 ⟨u, eu, p, ep, _, _, hp⟩ => by
    subst eu ep
    refine fun H2 e2 Q q => ⟨p, (List.range n).map f, rfl, ?_, ?_⟩
    · rw [List.map_map]
      exact .of (e2.keep _ _ (by assumption) hp)
    · have z : ((List.range n).map f).all id = (List.range n).all f := by rw [List.all_map]; rfl
      rw [z]
      exact q _ H2 .rfl rfl
end
theorem range_all {α : Type} (xs : List α) (f : α → Bool) (g : Nat → Bool) (h : ∀ (i : Nat) x, xs[i]? = some x → g i = f x) : (List.range xs.length).all g = xs.all f := by
  rw [Bool.eq_iff_iff, List.all_eq_true, List.all_eq_true]
  constructor
  · intro a x hx
    obtain ⟨i, hi, e⟩ := List.mem_iff_getElem.mp hx
    have e2 : xs[i]? = some x := by rw [List.getElem?_eq_getElem hi, e]
    rw [← h i x e2]
    exact a i (List.mem_range.mpr hi)
  · intro a i hi
    have hi' := List.mem_range.mp hi
    rw [h i xs[i] (List.getElem?_eq_getElem hi')]
    exact a _ (List.getElem_mem hi')
local macro_rules | `(tactic| walk_at "ev") => `(tactic| first
  | exact ev_var rfl
  | exact ev_c
  | assumption
  | (refine ev_add ?_ ?_ <;> walk_at "ev")
  | (refine ev_sub ?_ ?_ <;> walk_at "ev")
  | (refine ev_int ?_ <;> walk_at "ev"))
/-! ### the checks -/
def sp_is_sequence (K : Frag) : Sp := spB1 isSeqD
def sp_is_triple (K : Frag) : Sp := spB1 isTripleD
def sp_is_word (K : Frag) : Sp := spB1 isWordD
def sp__law_whole (K : Frag) : Sp := spB1 fun d => isiB d "int" && !isiB d "bool"
def sp_is_whole (K : Frag) : Sp := fun vs H Q _ => ∃ v lo hi d, vs = [v, .int lo, .int hi] ∧ DS exR H v d ∧ ∀ H', Ext H H' → Q (.bl (isWholeD lo hi d)) H'
theorem len_is_sequence {K : Frag} {vs : List V} {H : Hp} {Q : VK} {E : XK} (h : sp_is_sequence K vs H Q E) : vs.length = 1 := spB1_len h
theorem len_is_triple {K : Frag} {vs : List V} {H : Hp} {Q : VK} {E : XK} (h : sp_is_triple K vs H Q E) : vs.length = 1 := spB1_len h
theorem len_is_word {K : Frag} {vs : List V} {H : Hp} {Q : VK} {E : XK} (h : sp_is_word K vs H Q E) : vs.length = 1 := spB1_len h
theorem len__law_whole {K : Frag} {vs : List V} {H : Hp} {Q : VK} {E : XK} (h : sp__law_whole K vs H Q E) : vs.length = 1 := spB1_len h
theorem len_is_whole {K : Frag} {vs : List V} {H : Hp} {Q : VK} {E : XK} (h : sp_is_whole K vs H Q E) : vs.length = 3 := by
  obtain ⟨v, lo, hi, d, rfl, _⟩ := h
  rfl
def t_is_whole (K : Frag) : TS := (tRet (tAndV (tCB (rIsiU K) (tCons (tVar 0) (tCons (tC (.ty "int")) tNil))) (tAndV (tNotV (tCB (rIsiU K) (tCons (tVar 0) (tCons (tC (.ty "bool")) tNil)))) (tChain (rCmp K gLe) (rCmp K gLe) (tVar 1) (tVar 0) (tVar 2)))))
def t_is_sequence (K : Frag) : TS := (tRet (tCB (rIsiU K) (tCons (tVar 0) (tCons (tTup (tCons (tC (.ty "list")) (tCons (tC (.ty "tuple")) tNil))) tNil))))
def t_is_triple (K : Frag) : TS := (tRet (tAndV (tCall (sp_is_sequence K) [] E0 (tCons (tVar 0) tNil)) (tOp (rEqU K) (tCB (rLenU K) (tCons (tVar 0) tNil)) (tC (.int 3)))))
def t_is_word (K : Frag) : TS := (tRet (tAndV (tCB (rIsiU K) (tCons (tVar 0) (tCons (tC (.ty "str")) tNil))) (tCB (rAll K) (tCons (tLc (iSeq K (tVar 0)) (gName 1) tYes (tOp (rInU K) (tVar 1) (tC (.str "abcdef"))) [1]) tNil))))
def t__law_whole (K : Frag) : TS := (tRet (tAndV (tCB (rIsiU K) (tCons (tVar 0) (tCons (tC (.ty "int")) tNil))) (tNotV (tCB (rIsiU K) (tCons (tVar 0) (tCons (tC (.ty "bool")) tNil))))))
theorem pure_is_sequence {K : Frag} (vs : List V) (H : Hp) (Q : VK) (E : XK) (h : sp_is_sequence K vs H Q E) : t_is_sequence K { nx := fun _ H' => Q .non H', rt := Q } (start ["value"] vs) H := by
  obtain ⟨v, d, rfl, hd, hs, k⟩ := h
  exact s_retV (ρ := exR) (ev_isiLT (ev_var rfl) hd) fun H1 e => k H1 e.ext
theorem pure__law_whole {K : Frag} (vs : List V) (H : Hp) (Q : VK) (E : XK) (h : sp__law_whole K vs H Q E) : t__law_whole K { nx := fun _ H' => Q .non H', rt := Q } (start ["value"] vs) H := by
  obtain ⟨v, d, rfl, hd, hs, k⟩ := h
  exact s_retV (ρ := exR) (ev_andV (ev_isi (ev_var rfl) hd rfl) fun _ => ev_notV (ev_isi (ev_var rfl) hd rfl)) fun H1 e => k H1 e.ext
theorem pure_is_whole {K : Frag} (vs : List V) (H : Hp) (Q : VK) (E : XK) (h : sp_is_whole K vs H Q E) : t_is_whole K { nx := fun _ H' => Q .non H', rt := Q } (start ["value", "low", "high"] vs) H := by
  obtain ⟨v, lo, hi, d, rfl, hd, k⟩ := h
  cases hi2 : (isiB d "int" && !isiB d "bool") with
  | true =>
    obtain ⟨i, rfl, rfl⟩ := hd.inv_int hi2
    exact s_retV (ρ := exR) ((ev_andV (ev_isi (ev_var rfl) hd rfl) fun _ => ev_andV (ev_notV (ev_isi (ev_var rfl) hd rfl)) fun _ => ev_chainLe (ev_var rfl) (ev_var rfl) (ev_var rfl)).val rfl) fun H1 e => k H1 e.ext
  | false =>
    have e0 : isWholeD lo hi d = false := by
      cases d with
      | int i => exact absurd hi2 (by show ¬ (true && !false) = false; decide)
      | _ => rfl
    refine s_retV (ρ := exR) ((ev_andV (b := (!isiB d "bool") && false) (ev_isi (ev_var rfl) hd rfl) fun h1 => ev_andV (ev_notV (ev_isi (ev_var rfl) hd rfl)) fun h2 => ?_).val (x := .bl (isWholeD lo hi d)) ?_) fun H1 e => k H1 e.ext
    · rw [h1, h2] at hi2
      cases hi2
    · rw [e0, Bool.and_false, Bool.and_false]
theorem pure_is_triple {K : Frag} (vs : List V) (H : Hp) (Q : VK) (E : XK) (h : sp_is_triple K vs H Q E) : t_is_triple K { nx := fun _ H' => Q .non H', rt := Q } (start ["value"] vs) H := by
  obtain ⟨v, d, rfl, hd, hs, k⟩ := h
  refine s_retV (ρ := exR) ((ev_andV (b := decide ((itemsD d).length = 3)) (ev_B1 (F := isSeqD) (ev_var rfl) hd hs) fun hq => ?_).val rfl) fun H1 e => k H1 e.ext
  obtain ⟨a, xs, rfl, ha, hsq, _⟩ := hd.seqd hq
  refine (ev_eqI (ev_len (ev_var rfl) (hsq K)) ev_c).val ?_
  rw [ha.length]
  exact congrArg V.bl (by
    by_cases z : (itemsD d).length = 3
    · rw [decide_eq_true z, decide_eq_true (by omega)]
    · rw [decide_eq_false z, decide_eq_false (by omega)])
theorem pure_is_word {K : Frag} (vs : List V) (H : Hp) (Q : VK) (E : XK) (h : sp_is_word K vs H Q E) : t_is_word K { nx := fun _ H' => Q .non H', rt := Q } (start ["value", "letter"] vs) H := by
  obtain ⟨v, d, rfl, hd, hs, k⟩ := h
  cases hi2 : isiB d "str" with
  | true =>
    obtain ⟨s, rfl, rfl⟩ := hd.inv_str hi2
    have hl := sm_str hs
    have hz : s.cps.size = s.length := rfl
    refine s_retV (ρ := exR) ((ev_andV (ev_isi (ev_var rfl) hd rfl) fun _ => ev_all (n := s.cps.size) (f := fun i => decide ((s.cps[i]?).getD 0 ∈ letters)) (ev_lcV own_ex (by omega) (ei_str (ev_var rfl)) (fun x => rfl) (fun i H2 x H3 y => y.1) ?_)).val (x := .bl (isWordD (.str s))) ?_) fun H1 e => k H1 e.ext
    · rintro i x H2 H3 hi r ⟨e3, c, hc, rfl⟩
      refine (ev_inS (ev_var rfl) ev_c).val ?_
      rw [hc]
      rfl
    · rw [hi2, Bool.true_and]
      refine congrArg V.bl ?_
      have hsz : s.cps.size = s.cps.toList.length := by simp
      show (List.range s.cps.size).all _ = s.cps.toList.all _
      rw [hsz]
      refine range_all _ _ _ fun i x hx => ?_
      have : s.cps[i]? = some x := by rw [← hx]; simp
      rw [this]
      rfl
  | false =>
    have e0 : isWordD d = false := by
      cases d with
      | str i => exact absurd hi2 (by show ¬ true = false; decide)
      | _ => rfl
    refine s_retV (ρ := exR) ((ev_andV (b := false) (ev_isi (ev_var rfl) hd rfl) fun h1 => ?_).val (x := .bl (isWordD d)) ?_) fun H1 e => k H1 e.ext
    · rw [hi2] at h1
      cases h1
    · rw [e0, Bool.and_false]
/-! ### rising rows -/
/-- neighbours that can be compared -/
def okRow (ds : List PyData) : Prop := ∀ d ∈ ds, ∀ e ∈ ds, PySem.W.alike d e = true ∧ d ≠ .none ∧ d.depth ≤ 64
def risingD : List PyData → Bool
  | d :: e :: r => PySem.W.dataLt d e && risingD (e :: r)
  | _ => true
def sp_is_rising (K : Frag) : Sp := fun vs H Q _ => ∃ v d, vs = [v] ∧ DS exR H v d ∧ isSeqD d = true ∧ (itemsD d).length ≤ 1000 ∧ okRow (itemsD d) ∧ ∀ H', Ext H H' → Q (.bl (risingD (itemsD d))) H'
theorem len_is_rising {K : Frag} {vs : List V} {H : Hp} {Q : VK} {E : XK} (h : sp_is_rising K vs H Q E) : vs.length = 1 := by
  obtain ⟨v, d, rfl, _⟩ := h
  rfl
theorem rising_range : ∀ (ds : List PyData) (g : Nat → Bool), (∀ i d e, ds[i]? = some d → ds[i + 1]? = some e → g i = PySem.W.dataLt d e) → (List.range (ds.length - 1)).all g = risingD ds
  | [], g, _ => rfl
  | [d], g, _ => rfl
  | d :: e :: r, g, h => by
    have ih := rising_range (e :: r) (fun i => g (i + 1)) fun i x y a b => h (i + 1) x y (by simpa using a) (by simpa using b)
    have e1 : (d :: e :: r).length - 1 = ((e :: r).length - 1) + 1 := by simp
    rw [e1, List.range_succ_eq_map, List.all_cons, List.all_map]
    show (g 0 && (List.range ((e :: r).length - 1)).all fun i => g (i + 1)) = (PySem.W.dataLt d e && risingD (e :: r))
    rw [ih, h 0 d e rfl rfl]
def t_is_rising (K : Frag) : TS := (tRet (tCB (rAll K) (tCons (tLc (iRng1 (tCons (tOp rSubI (tCB (rLenU K) (tCons (tVar 0) tNil)) (tC (.int 1))) tNil)) (gName 1) tYes (tOp (rCmp K gLt) (tIxU K (tVar 0) (tVar 1)) (tIxU K (tVar 0) (tOp (rAddU K) (tVar 1) (tC (.int 1))))) [1]) tNil)))
theorem pure_is_rising {K : Frag} (vs : List V) (H : Hp) (Q : VK) (E : XK) (h : sp_is_rising K vs H Q E) : t_is_rising K { nx := fun _ H' => Q .non H', rt := Q } (start ["rows", "at"] vs) H := by
  obtain ⟨v, d, rfl, hd, hq, hl, ok, k⟩ := h
  obtain ⟨a, xs, rfl, ha, hsq, _⟩ := hd.seqd hq
  have hlen := ha.length
  have hn : ((xs.length : Int) - 1).toNat = xs.length - 1 := by omega
  refine s_retV (ρ := exR) ((ev_all (n := ((xs.length : Int) - 1).toNat) (f := fun i => match (itemsD d)[i]?, (itemsD d)[i + 1]? with | some x, some y => PySem.W.dataLt x y | _, _ => true)
    (ev_lcV own_ex (by omega) (ei_rng (ea_cons (ev_sub (ev_len (ev_var rfl) (hsq K)) ev_c) ea_nil) (by omega) (by omega)) (fun x => rfl) (fun i H2 x H3 y => y.1) ?_)).val (x := .bl (risingD (itemsD d))) ?_) fun H1 e => k H1 e.ext
  · rintro i x H2 H3 hi r ⟨e3, rfl⟩
    have h1 : i + 1 < xs.length := by omega
    have g1 : xs[i]? = some xs[i] := List.getElem?_eq_getElem (by omega)
    have g2 : xs[i + 1]? = some xs[i + 1] := List.getElem?_eq_getElem h1
    obtain ⟨d1, e1, q1⟩ := ha.get g1
    obtain ⟨d2, e2, q2⟩ := ha.get g2
    obtain ⟨o1, o2, o3⟩ := ok d1 (List.mem_of_getElem? e1) d2 (List.mem_of_getElem? e2)
    refine (ev_cmp (d := d1) (e := d2) (ev_ix (n := i) (ev_var rfl) (ev_var rfl) (fun H4 r4 => hsq K H4 (r.trans r4)) rfl g1) (ev_ix (n := i + 1) (ev_var rfl) (ev_add (ev_var rfl) ev_c) (fun H4 r4 => hsq K H4 (r.trans r4)) (by omega) g2) (r.ds q1) (r.ds q2) o1 o2 o3).val ?_
    show V.bl (PySem.W.dataLt d1 d2) = V.bl (match (itemsD d)[i]?, (itemsD d)[i + 1]? with | some x, some y => PySem.W.dataLt x y | _, _ => true)
    rw [e1, e2]
  · refine congrArg V.bl ?_
    rw [hn, hlen]
    refine rising_range _ _ fun i x y e1 e2 => ?_
    show (match (itemsD d)[i]?, (itemsD d)[i + 1]? with | some x, some y => PySem.W.dataLt x y | _, _ => true) = _
    rw [e1, e2]
/-! ### strings of letters -/
def isStrD (most : Int) : PyData → Bool
  | .str s => decide ((s.length : Int) ≤ most) && s.cps.toList.all fun c => decide (c ∈ letters)
  | _ => false
def sp__law_is_string (K : Frag) : Sp := fun vs H Q _ => ∃ v most d, vs = [v, .int most] ∧ DS exR H v d ∧ sm d = true ∧ ∀ H', Ext H H' → Q (.bl (isStrD most d)) H'
theorem len__law_is_string {K : Frag} {vs : List V} {H : Hp} {Q : VK} {E : XK} (h : sp__law_is_string K vs H Q E) : vs.length = 2 := by
  obtain ⟨v, lo, d, rfl, _⟩ := h
  rfl
section
variable {ρ : Rl} {K : Frag} {σ : L2.St} {H : Hp} {ta tb te : TE} {v : V} {d : PyData}
theorem ev_is_string {E : XK} {m : Int} (h : EvV ρ ta σ H v) (h2 : EvV ρ tb σ H (.int m)) (hd : DS ρ H v d) (hs : sm d = true) : EvV ρ (tCall (sp__law_is_string K) [] E (tCons ta (tCons tb tNil))) σ H (.bl (isStrD m d)) :=
  ev_call (ea_cons h (ea_cons h2 ea_nil)) fun H1 e1 Q q E => ⟨v, m, d, rfl, (e1.ds hd).ex, hs, fun H' e => q _ H' (Ext.r e) rfl⟩
theorem ev_is_whole {tc : TE} {E : XK} {lo hi : Int} (h : EvV ρ ta σ H v) (h2 : EvV ρ tb σ H (.int lo)) (h3 : EvV ρ tc σ H (.int hi)) (hd : DS ρ H v d) : EvV ρ (tCall (sp_is_whole K) [] E (tCons ta (tCons tb (tCons tc tNil)))) σ H (.bl (isWholeD lo hi d)) :=
  ev_call (ea_cons h (ea_cons h2 (ea_cons h3 ea_nil))) fun H1 e1 Q q E => ⟨v, lo, hi, d, rfl, (e1.ds hd).ex, fun H' e => q _ H' (Ext.r e) rfl⟩
/-- len of a new list -/
theorem ev_lenN {n : Int} {R : V → Hp → Prop} (h : Ev ρ te σ H R) (hs : ∀ v H1, ρ.r H H1 → R v H1 → ∃ p xs, v = .ref p ∧ ¬ ρ.S p ∧ H1 p = some (.lst xs) ∧ (xs.length : Int) = n) : EvV ρ (tCB (rLenU K) (tCons te tNil)) σ H (.int n) :=
  ev_cb (ea_one h) fun vs H1 e1 ⟨u, eu, ru⟩ => by
    obtain ⟨p, xs, rfl, nS, hp, hl⟩ := hs u H1 e1 ru
    subst eu
    exact fun H2 e2 Q q => .inl ⟨_, xs.length, rfl, .inl ⟨xs, .of (e2.keep _ _ nS hp), rfl⟩, q _ H2 .rfl (by rw [hl])⟩
end
theorem filter_len_zero {n : Nat} {f : Nat → Bool} : decide ((((List.range n).filter f).length : Int) = 0) = (List.range n).all fun i => !f i := by
  rw [Bool.eq_iff_iff, decide_eq_true_iff, List.all_eq_true]
  constructor
  · intro h i hi
    have h0 : ((List.range n).filter f) = [] := List.eq_nil_of_length_eq_zero (by omega)
    have := List.filter_eq_nil_iff.mp h0 i hi
    simpa using this
  · intro h
    have h0 : ((List.range n).filter f) = [] := List.filter_eq_nil_iff.mpr fun i hi => by simpa using h i hi
    rw [h0]
    rfl
def t__law_is_string (K : Frag) : TS := (tSeq (tIfS (tOr (tNot (tB (tCB (rIsiU K) (tCons (tVar 0) (tCons (tC (.ty "str")) tNil))))) (tTest (tOp (rCmp K gGt) (tCB (rLenU K) (tCons (tVar 0) tNil)) (tVar 1)))) (tRet (tC (.bl false))) tNext) (tRet (tOp (rEqU K) (tCB (rLenU K) (tCons (tLc (iSeq K (tVar 0)) (gName 2) (tTest (tOp (rNotInU K) (tVar 2) (tC (.str "abcdef")))) (tVar 2) [2]) tNil)) (tC (.int 0)))))
theorem pure__law_is_string {K : Frag} (vs : List V) (H : Hp) (Q : VK) (E : XK) (h : sp__law_is_string K vs H Q E) : t__law_is_string K { nx := fun _ H' => Q .non H', rt := Q } (start ["value", "most", "one"] vs) H := by
  obtain ⟨v, m, d, rfl, hd, hs, k⟩ := h
  cases hi2 : isiB d "str" with
  | true =>
    obtain ⟨s, rfl, rfl⟩ := hd.inv_str hi2
    have hl := sm_str hs
    have hz : s.cps.size = s.length := rfl
    refine q_when (ρ := exR) (et_or (et_not (et_B (ev_isi (ev_var rfl) hd rfl))) fun _ => et_test (ev_gt (ev_lenS (ev_var rfl) (by omega)) (ev_var rfl))) (fun hb H1 e => s_retV (ρ := exR) ev_c fun H2 e2 => ?_) (fun hb H1 e => ?_)
    · have hm : ¬ (s.length : Int) ≤ m := by
        rw [hi2] at hb
        have : decide (m < (s.length : Int)) = true := by simpa using hb
        have := of_decide_eq_true this
        omega
      have e0 : isStrD m (.str s) = false := by
        show (decide ((s.length : Int) ≤ m) && _) = false
        rw [decide_eq_false hm, Bool.false_and]
      have := k H2 (e.trans e2).ext
      rw [e0] at this
      exact this
    · have hm : (s.length : Int) ≤ m := by
        rw [hi2] at hb
        have : decide (m < (s.length : Int)) = false := by simpa using hb
        have := of_decide_eq_false this
        omega
      refine s_retV (ρ := exR) ((ev_eqI (ev_lenN (n := (((List.range s.cps.size).filter fun i => !decide ((s.cps[i]?).getD 0 ∈ letters)).length : Int))
        (ev_lc (R := fun _ i x _ => True) (C := fun i b => b = !decide ((s.cps[i]?).getD 0 ∈ letters)) own_ex (by omega) (ei_str (ev_var rfl)) (fun _ _ _ _ _ _ h => h) (fun _ _ _ _ h => h) ?_) ?_) ev_c).val (x := .bl (isStrD m (.str s))) ?_) fun H2 e2 => k H2 (e.trans e2).ext
      · rintro D H2 r hD i x H3 H4 hi r2 oD ⟨e3, c, hc, rfl⟩ cont hcont
        subst e3
        refine hcont _ _ rfl .rfl fun H5 r5 Q' q' => ?_
        refine et_test (ρ := exR) (H := H5) (ev_notInS (ev_var rfl) ev_c) H5 .rfl _ fun H6 r6 => q' _ H6 r6 ?_ fun _ => ?_
        · show _ = !decide ((s.cps[i]?).getD 0 ∈ letters)
          rw [hc]
          rfl
        · exact (ev_var (v := .str ⟨#[c]⟩) rfl).imp fun _ _ _ _ => trivial
      · rintro v H2 r ⟨p, xs, f, e1, nS, hp, hx, hC, hit⟩
        refine ⟨p, xs, e1, nS, hx, ?_⟩
        rw [hit.1, kept_congr hC]
        rfl
      · refine congrArg V.bl ?_
        rw [filter_len_zero]
        show _ = (decide ((s.length : Int) ≤ m) && s.cps.toList.all fun c => decide (c ∈ letters))
        rw [decide_eq_true hm, Bool.true_and]
        have hsz : s.cps.size = s.cps.toList.length := by simp
        rw [hsz]
        refine range_all _ _ _ fun i x hx => ?_
        have : s.cps[i]? = some x := by rw [← hx]; simp
        rw [this, Bool.not_not]
        rfl
  | false =>
    have e0 : isStrD m d = false := by
      cases d with
      | str i => exact absurd hi2 (by show ¬ true = false; decide)
      | _ => rfl
    rw [e0] at k
    refine q_when (ρ := exR) (et_or (b := false) (et_not (et_B (ev_isi (ev_var rfl) hd rfl))) fun h1 => ?_) (fun hb H1 e => s_retV (ρ := exR) ev_c fun H2 e2 => k H2 (e.trans e2).ext) (fun hb H1 e => ?_)
    · rw [hi2] at h1
      cases h1
    · rw [hi2] at hb
      cases hb
end Slip
/-! faults and tables -/
namespace Slip
open PySem PySem.Spec PyProof.Rows L2
def Le (ρ ρ' : Rl) : Prop := ∀ a, ρ.S a → ρ'.S a
theorem Le.rfl {ρ : Rl} : Le ρ ρ := fun _ h => h
theorem Le.and {ρ : Rl} {D : Addr} : Le ρ (ρ.and D) := fun _ h => .inl h
theorem Le.ds {ρ ρ' : Rl} (l : Le ρ ρ') {H H' : Hp} (e : ρ.r H H') {v : V} {d : PyData} (h : DS ρ' H v d) : DS ρ' H' v d := h.move (fun a _ n q => ⟨n, e.keep a _ (fun z => n (l a z)) q⟩) e.tup
theorem Le.dss {ρ ρ' : Rl} (l : Le ρ ρ') {H H' : Hp} (e : ρ.r H H') {v : List V} {d : List PyData} (h : DSs ρ' H v d) : DSs ρ' H' v d := h.move (fun a _ n q => ⟨n, e.keep a _ (fun z => n (l a z)) q⟩) e.tup
section
variable {ρ ρ' : Rl} {K : Frag} {σ : L2.St} {H : Hp} {ta tb tc te : TE} {x y z v : V} {d e f : PyData} {a : Addr}
/-- a, b, c = a sequence of three -/
theorem g_seq3 {i j l : Nat} {Q : L2.St → Hp → Prop} (hs : SqA K H a [x, y, z]) (q : Q (((σ.set i (some x)).set j (some y)).set l (some z)) H) : gSeq K 3 (gCons (gName i) (gCons (gName j) (gCons (gName l) gNil))) (.ref a) σ H Q := by
  rcases hs with h | h
  · exact .inr ⟨a, _, rfl, h, rfl, x, _, rfl, y, _, rfl, z, _, rfl, rfl, q⟩
  · exact .inl ⟨a, _, rfl, h, rfl, x, _, rfl, y, _, rfl, z, _, rfl, rfl, q⟩
/-- (a, b) of data -/
theorem ev_pairD (l : Le ρ ρ') (h1 : EvV ρ ta σ H x) (h2 : EvV ρ tb σ H y) (hx : DS ρ' H x d) (hy : DS ρ' H y e) : Ev ρ (tTup (tCons ta (tCons tb tNil))) σ H (fun v H' => DS ρ' H' v (.tuple [d, e])) :=
  (ev_tup (ea_cons h1 (ea_cons h2 ea_nil)) fun vs H1 _ e => by rw [e]; show 2 ≤ 100000; decide).imp fun v H2 r ⟨p, vs, H1, ev, evs, hp, r1, eH⟩ => by
    subst ev evs
    exact .tup (by rw [eH]; exact upd_same) (.cons (l.ds r hx) (.cons (l.ds r hy) .nil))
theorem ev_tripleD (l : Le ρ ρ') (h1 : EvV ρ ta σ H x) (h2 : EvV ρ tb σ H y) (h3 : EvV ρ tc σ H z) (hx : DS ρ' H x d) (hy : DS ρ' H y e) (hz : DS ρ' H z f) : Ev ρ (tTup (tCons ta (tCons tb (tCons tc tNil)))) σ H (fun v H' => DS ρ' H' v (.tuple [d, e, f])) :=
  (ev_tup (ea_cons h1 (ea_cons h2 (ea_cons h3 ea_nil))) fun vs H1 _ e => by rw [e]; show 3 ≤ 100000; decide).imp fun v H2 r ⟨p, vs, H1, ev, evs, hp, r1, eH⟩ => by
    subst ev evs
    exact .tup (by rw [eH]; exact upd_same) (.cons (l.ds r hx) (.cons (l.ds r hy) (.cons (l.ds r hz) .nil)))
theorem ev_rising {E : XK} {ds : List PyData} (h : Ev ρ te σ H (fun u H2 => ∃ p xs, u = .ref p ∧ ¬ ρ.S p ∧ H p = none ∧ H2 p = some (.lst xs) ∧ DSs ρ H2 xs ds)) (hl : ds.length ≤ 1000) (ok : okRow ds) : EvV ρ (tCall (sp_is_rising K) [] E (tCons te tNil)) σ H (.bl (risingD ds)) :=
  ev_callR (ea_one h) fun vs H1 e1 ⟨u, eu, p, xs, ep, nS, _, hp, hx⟩ => by
    subst eu ep
    refine fun H2 e2 Q q E => ⟨_, .list ds, rfl, ?_, rfl, hl, ok, fun H' e => q _ H' (Ext.r e) rfl⟩
    exact .lst (fun z => z) (e2.keep _ _ nS hp) ((e2.dss hx).move (fun a _ n q => ⟨fun z => z, q⟩) fun _ _ q => q)
end
theorem three {α : Type} {l : List α} (h : l.length = 3) : ∃ a b c, l = [a, b, c] := by
  match l, h with
  | [a, b, c], _ => exact ⟨a, b, c, rfl⟩
theorem DqAll.three {A : Addr → Prop} {H : Hp} {xs : List V} {m w c : PyData} (h : DqAll A H xs [m, w, c]) : ∃ x y z, xs = [x, y, z] ∧ Dq A H x m ∧ Dq A H y w ∧ Dq A H z c := by
  cases h with | cons h1 h => cases h with | cons h2 h => cases h with | cons h3 h => cases h with | nil => exact ⟨_, _, _, rfl, h1, h2, h3⟩
theorem DqAll.two {A : Addr → Prop} {H : Hp} {xs : List V} {m w : PyData} (h : DqAll A H xs [m, w]) : ∃ x y, xs = [x, y] ∧ Dq A H x m ∧ Dq A H y w := by
  cases h with | cons h1 h => cases h with | cons h2 h => cases h with | nil => exact ⟨_, _, rfl, h1, h2⟩
theorem notb {b : Bool} (h : (!b) = true) : b = false := by
  cases b
  · rfl
  · cases h
theorem notb' {b : Bool} (h : (!b) = false) : b = true := by
  cases b
  · cases h
  · rfl
def isPieceD : PyData → Bool
  | .str s => isWordD (.str s) && decide ((s.length : Int) ≤ 2)
  | _ => false
def isFaultD (d : PyData) : Bool := isTripleD d && match itemsD d with
  | [m, w, c] => isPieceD m && isPieceD w && !(PyData.eqv m w) && isWholeD 1 9 c
  | _ => false
def pairOf (d : PyData) : PyData := match itemsD d with
  | m :: w :: _ => .tuple [m, w]
  | _ => .none
def isTableD (d : PyData) : Bool := isSeqD d && decide ((itemsD d).length ≤ 8) && (itemsD d).all isFaultD && risingD ((itemsD d).map pairOf)
def sp_is_piece (K : Frag) : Sp := spB1 isPieceD
def sp_is_fault (K : Frag) : Sp := spB1 isFaultD
def sp_is_table (K : Frag) : Sp := spB1 isTableD
theorem len_is_piece {K : Frag} {vs : List V} {H : Hp} {Q : VK} {E : XK} (h : sp_is_piece K vs H Q E) : vs.length = 1 := spB1_len h
theorem len_is_fault {K : Frag} {vs : List V} {H : Hp} {Q : VK} {E : XK} (h : sp_is_fault K vs H Q E) : vs.length = 1 := spB1_len h
theorem len_is_table {K : Frag} {vs : List V} {H : Hp} {Q : VK} {E : XK} (h : sp_is_table K vs H Q E) : vs.length = 1 := spB1_len h
def t_is_piece (K : Frag) : TS := (tRet (tAndV (tCall (sp_is_word K) [] E0 (tCons (tVar 0) tNil)) (tOp (rCmp K gLe) (tCB (rLenU K) (tCons (tVar 0) tNil)) (tC (.int 2)))))
def t_is_fault (K : Frag) : TS := (tSeq (tIfS (tNot (tB (tCall (sp_is_triple K) [] E0 (tCons (tVar 0) tNil)))) (tRet (tC (.bl false))) tNext) (tSeq (tAsg (tVar 0) (gSeq K 3 (gCons (gName 1) (gCons (gName 2) (gCons (gName 3) gNil))))) (tSeq (tIfS (tOr (tNot (tB (tCall (sp_is_piece K) [] E0 (tCons (tVar 1) tNil)))) (tOr (tNot (tB (tCall (sp_is_piece K) [] E0 (tCons (tVar 2) tNil)))) (tTest (tOp (rEqU K) (tVar 1) (tVar 2))))) (tRet (tC (.bl false))) tNext) (tRet (tCall (sp_is_whole K) [] E0 (tCons (tVar 3) (tCons (tC (.int 1)) (tCons (tC (.int 9)) tNil))))))))
def t_is_table (K : Frag) : TS := (tSeq (tIfS (tOr (tNot (tB (tCall (sp_is_sequence K) [] E0 (tCons (tVar 0) tNil)))) (tTest (tOp (rCmp K gGt) (tCB (rLenU K) (tCons (tVar 0) tNil)) (tC (.int 8))))) (tRet (tC (.bl false))) tNext) (tSeq (tIfS (tNot (tB (tCB (rAll K) (tCons (tLc (iSeq K (tVar 0)) (gName 1) tYes (tCall (sp_is_fault K) [] E0 (tCons (tVar 1) tNil)) [1]) tNil)))) (tRet (tC (.bl false))) tNext) (tRet (tCall (sp_is_rising K) [] E0 (tCons (tLc (iSeq K (tVar 0)) (gName 1) tYes (tTup (tCons (tIxU K (tVar 1) (tC (.int 0))) (tCons (tIxU K (tVar 1) (tC (.int 1))) tNil))) [1]) tNil)))))
theorem pure_is_piece {K : Frag} (vs : List V) (H : Hp) (Q : VK) (E : XK) (h : sp_is_piece K vs H Q E) : t_is_piece K { nx := fun _ H' => Q .non H', rt := Q } (start ["value"] vs) H := by
  obtain ⟨v, d, rfl, hd, hs, k⟩ := h
  cases hi2 : isWordD d with
  | true =>
    cases d with
    | str s =>
      have hl := sm_str hs
      cases hd
      refine s_retV (ρ := exR) ((ev_andV (ev_B1 (F := isWordD) (ev_var rfl) (.str s) hs) fun _ => ev_le (ev_lenS (ev_var rfl) (by omega)) ev_c).val rfl) fun H1 e => k H1 e.ext
    | _ => cases hi2
  | false =>
    have e0 : isPieceD d = false := by
      cases d with
      | str s => show (isWordD (.str s) && _) = false; rw [hi2, Bool.false_and]
      | _ => rfl
    rw [e0] at k
    refine s_retV (ρ := exR) ((ev_andV (b := false) (ev_B1 (F := isWordD) (ev_var rfl) hd hs) fun h1 => ?_).val (x := .bl false) (by rw [Bool.and_false])) fun H1 e => k H1 e.ext
    rw [hi2] at h1
    cases h1
theorem piece_str {d : PyData} (h : isPieceD d = true) : ∃ s, d = .str s ∧ s.length ≤ 2 ∧ isWordD (.str s) = true := by
  cases d with
  | str s =>
    have h' : isWordD (.str s) = true ∧ (s.length : Int) ≤ 2 := by simpa [isPieceD] using h
    exact ⟨s, rfl, by omega, h'.1⟩
  | _ => cases h
theorem eqv_str (s t : Str) : PyData.eqv (.str s) (.str t) = decide (s = t) := by
  show (s == t) = decide (s = t)
  rw [Bool.eq_iff_iff]
  simp
theorem pure_is_fault {K : Frag} (vs : List V) (H : Hp) (Q : VK) (E : XK) (h : sp_is_fault K vs H Q E) : t_is_fault K { nx := fun _ H' => Q .non H', rt := Q } (start ["value", "meant", "written", "cost"] vs) H := by
  obtain ⟨v, d, rfl, hd, hs, k⟩ := h
  refine q_when (ρ := exR) (et_not (et_B (ev_B1 (F := isTripleD) (ev_var rfl) hd hs))) (fun hb H1 e => s_retV (ρ := exR) ev_c fun H2 e2 => ?_) (fun hb H1 e => ?_)
  · have e0 : isFaultD d = false := by
      unfold isFaultD
      rw [show isTripleD d = false by simpa using hb, Bool.false_and]
    rw [e0] at k
    exact k H2 (e.trans e2).ext
  have ht : isTripleD d = true := by simpa using hb
  have ht2 : isSeqD d = true ∧ (itemsD d).length = 3 := by simpa [isTripleD] using ht
  obtain ⟨a, xs, rfl, ha, hsq, _⟩ := hd.seqd ht2.1
  have hsm : smAll (itemsD d) = true := by
    cases d with
    | list ds => exact (sm_seq (.inl hs)).2
    | tuple ds => exact (sm_seq (.inr hs)).2
    | _ => rfl
  obtain ⟨m, w, c, hds⟩ := three ht2.2
  rw [hds] at ha hsm
  obtain ⟨x, y, z, rfl, hm, hw, hc⟩ := ha.three
  · have sm3 : sm m = true ∧ sm w = true ∧ sm c = true := by simpa [smAll] using hsm
    have ef : isFaultD d = (isPieceD m && isPieceD w && !(PyData.eqv m w) && isWholeD 1 9 c) := by
      unfold isFaultD
      rw [ht, hds, Bool.true_and]
    rw [ef] at k
    refine ⟨_, rfl, g_seq3 (hsq K H1 e) ?_⟩
    have gm : DS exR H1 x m := e.ds hm
    have gw : DS exR H1 y w := e.ds hw
    have gc : DS exR H1 z c := e.ds hc
    refine q_when (ρ := exR) (H := H1) (b := !(isPieceD m && isPieceD w && !(PyData.eqv m w))) ((et_or (b := !isPieceD w || PyData.eqv m w) (et_not (et_B (ev_B1 (F := isPieceD) (ev_var rfl) gm sm3.1))) fun h1 => et_or (b := PyData.eqv m w) (et_not (et_B (ev_B1 (F := isPieceD) (ev_var rfl) gw sm3.2.1))) fun h2 => et_test ?_).to ?_) (fun hb H2 e2 => s_retV (ρ := exR) ev_c fun H3 e3 => ?_) (fun hb H2 e2 => ?_)
    · obtain ⟨s, rfl, _⟩ := piece_str (d := m) (by simpa using h1)
      obtain ⟨t, rfl, _⟩ := piece_str (d := w) (by simpa using h2)
      cases gm
      cases gw
      exact (ev_eqS (ev_var rfl) (ev_var rfl)).val (by rw [eqv_str])
    · cases isPieceD m <;> cases isPieceD w <;> cases PyData.eqv m w <;> rfl
    · have e0 : (isPieceD m && isPieceD w && !(PyData.eqv m w)) = false := notb hb
      rw [e0, Bool.false_and] at k
      exact k H3 (e.trans (e2.trans e3)).ext
    · have e0 : (isPieceD m && isPieceD w && !(PyData.eqv m w)) = true := notb' hb
      rw [e0, Bool.true_and] at k
      exact s_retV (ρ := exR) (ev_is_whole (ev_var rfl) ev_c ev_c (e2.ds gc)) fun H3 e3 => k H3 (e.trans (e2.trans e3)).ext
theorem fault_parts {d : PyData} (h : isFaultD d = true) : ∃ s t c, itemsD d = [.str s, .str t, .int c] ∧ isPieceD (.str s) = true ∧ isPieceD (.str t) = true ∧ s ≠ t ∧ 1 ≤ c ∧ c ≤ 9 ∧ isSeqD d = true := by
  have h' : isTripleD d = true ∧ (match itemsD d with
    | [m, w, c] => isPieceD m && isPieceD w && !(PyData.eqv m w) && isWholeD 1 9 c
    | _ => false) = true := by simpa [isFaultD] using h
  have ht2 : isSeqD d = true ∧ (itemsD d).length = 3 := by simpa [isTripleD] using h'.1
  match hds : itemsD d, ht2.2, h'.2 with
  | [m, w, c], _, h2 =>
    have h3 : ((isPieceD m = true ∧ isPieceD w = true) ∧ PyData.eqv m w = false) ∧ isWholeD 1 9 c = true := by simpa using h2
    obtain ⟨s, rfl, _⟩ := piece_str h3.1.1.1
    obtain ⟨t, rfl, _⟩ := piece_str h3.1.1.2
    cases c with
    | int i =>
      have h4 : 1 ≤ i ∧ i ≤ 9 := by simpa [isWholeD] using h3.2
      refine ⟨s, t, i, rfl, h3.1.1.1, h3.1.1.2, ?_, h4.1, h4.2, ht2.1⟩
      have := h3.1.2
      rw [eqv_str] at this
      exact of_decide_eq_false this
    | _ => exact absurd h3.2 (by simp [isWholeD])
theorem pair_fault {d : PyData} {s t : Str} {c : PyData} (h : itemsD d = [.str s, .str t, c]) : pairOf d = .tuple [.str s, .str t] := by
  unfold pairOf
  rw [h]
theorem ok_pairs {ds : List PyData} (h : ds.all isFaultD = true) : okRow (ds.map pairOf) := by
  intro d hd e he
  obtain ⟨d', hd', rfl⟩ := List.mem_map.mp hd
  obtain ⟨e', he', rfl⟩ := List.mem_map.mp he
  obtain ⟨s, t, c, h1, _⟩ := fault_parts (List.all_eq_true.mp h d' hd')
  obtain ⟨s2, t2, c2, h2, _⟩ := fault_parts (List.all_eq_true.mp h e' he')
  rw [pair_fault h1, pair_fault h2]
  exact ⟨rfl, by simp, by show (1 : Nat) ≤ 64; decide⟩
theorem pure_is_table {K : Frag} (vs : List V) (H : Hp) (Q : VK) (E : XK) (h : sp_is_table K vs H Q E) : t_is_table K { nx := fun _ H' => Q .non H', rt := Q } (start ["value", "fault"] vs) H := by
  obtain ⟨v, d, rfl, hd, hs, k⟩ := h
  cases hq : isSeqD d with
  | false =>
    have e0 : isTableD d = false := by unfold isTableD; rw [hq]; rfl
    rw [e0] at k
    refine q_when (ρ := exR) (et_or (b := true) (et_not (et_B (ev_B1 (F := isSeqD) (ev_var rfl) hd hs))) fun h1 => ?_) (fun hb H1 e => s_retV (ρ := exR) ev_c fun H2 e2 => k H2 (e.trans e2).ext) (fun hb H1 e => ?_)
    · rw [hq] at h1
      cases h1
    · rw [hq] at hb
      cases hb
  | true =>
  obtain ⟨a, xs, rfl, ha, hsq, hsq2⟩ := hd.seqd hq
  have hlen := ha.length
  have hl1000 : (itemsD d).length ≤ 1000 ∧ smAll (itemsD d) = true := by
    cases d with
    | list ds => exact sm_seq (.inl hs)
    | tuple ds => exact sm_seq (.inr hs)
    | _ => cases hq
  refine q_when (ρ := exR) (et_or (et_not (et_B (ev_B1 (F := isSeqD) (ev_var rfl) hd hs))) fun _ => et_test (ev_gt (ev_len (ev_var rfl) (hsq K)) ev_c)) (fun hb H1 e => s_retV (ρ := exR) ev_c fun H2 e2 => ?_) (fun hb H1 e => ?_)
  · have hz : ¬ (itemsD d).length ≤ 8 := by
      rw [hq] at hb
      have : decide (8 < (xs.length : Int)) = true := by simpa using hb
      have := of_decide_eq_true this
      omega
    have e0 : isTableD d = false := by unfold isTableD; rw [decide_eq_false hz, Bool.and_false]; rfl
    rw [e0] at k
    exact k H2 (e.trans e2).ext
  have hz : (itemsD d).length ≤ 8 := by
    rw [hq] at hb
    have : decide (8 < (xs.length : Int)) = false := by simpa using hb
    have := of_decide_eq_false this
    omega
  have sqs : (∀ H2, exR.r H1 H2 → SqL K H2 a xs) ∨ ∀ H2, exR.r H1 H2 → SqT K H2 a xs := hsq2.imp (fun f H2 e2 => f K H2 (e.trans e2)) fun f H2 e2 => f K H2 (e.trans e2)
  have hx1 : DSs exR H1 xs (itemsD d) := e.dss ha
  refine q_when (ρ := exR) (b := !(itemsD d).all isFaultD) ((et_not (et_B (ev_all (n := xs.length) (f := fun i => isFaultD ((itemsD d)[i]?.getD .none)) (ev_lcV own_ex (by omega) (ei_seq (ev_var rfl) (fun H2 e2 => hsq K H2 (e.trans e2)) sqs) (fun x => rfl) (fun i H2 x H3 y => y.1) ?_)))).to ?_) (fun hb2 H2 e2 => s_retV (ρ := exR) ev_c fun H3 e3 => ?_) (fun hb2 H2 e2 => ?_)
  · rintro i x H2 H3 hi r ⟨e3, hx⟩
    obtain ⟨d1, g1, g2⟩ := hx1.get hx
    refine (ev_B1 (F := isFaultD) (ev_var rfl) (r.ds g2) (smAll_mem hl1000.2 (List.mem_of_getElem? g1))).val ?_
    rw [g1]
    rfl
  · refine congrArg (fun b => !b) ?_
    rw [hlen]
    refine range_all _ _ _ fun i x hx => ?_
    rw [hx]
    rfl
  · have hz2 : (itemsD d).all isFaultD = false := by simpa using hb2
    have e0 : isTableD d = false := by unfold isTableD; rw [hz2, Bool.and_false]; rfl
    rw [e0] at k
    exact k H3 (e.trans (e2.trans e3)).ext
  have hz2 : (itemsD d).all isFaultD = true := by simpa using hb2
  have e0 : isTableD d = risingD ((itemsD d).map pairOf) := by unfold isTableD; rw [hq, decide_eq_true hz, hz2]; rfl
  rw [e0] at k
  have hmap : (List.range xs.length).map (fun i => pairOf ((itemsD d)[i]?.getD .none)) = (itemsD d).map pairOf := by
    refine List.ext_getElem? fun i => ?_
    rw [List.getElem?_map, List.getElem?_map]
    by_cases hi : i < xs.length
    · rw [List.getElem?_range hi]
      have hi' : i < (itemsD d).length := by omega
      rw [List.getElem?_eq_getElem hi']
      show some (pairOf ((itemsD d)[i]?.getD .none)) = some (pairOf (itemsD d)[i])
      rw [List.getElem?_eq_getElem hi']
      rfl
    · rw [List.getElem?_eq_none_iff.mpr (by rw [List.length_range]; omega), List.getElem?_eq_none_iff.mpr (by omega)] <;> rfl
  have r02 := e.trans e2
  have sqs2 : (∀ H3, exR.r H2 H3 → SqL K H3 a xs) ∨ ∀ H3, exR.r H2 H3 → SqT K H3 a xs := hsq2.imp (fun f H3 e3 => f K H3 (r02.trans e3)) fun f H3 e3 => f K H3 (r02.trans e3)
  have hx2 : DSs exR H2 xs (itemsD d) := r02.dss ha
  refine s_retV (ρ := exR) (ev_rising (ds := (itemsD d).map pairOf) ?_ (by rw [List.length_map]; omega) (ok_pairs hz2)) fun H3 e3 => k H3 (r02.trans e3).ext
  rw [← hmap]
  refine ev_lcD own_ex (by omega) (ei_seq (ev_var rfl) (fun H3 e3 => hsq K H3 (r02.trans e3)) sqs2) (fun x => rfl) (fun i H2 x H3 y => y.1) ?_
  rintro D H3 r3 hD i x H4 H5 hi r4 oD ⟨e5, hx⟩
  obtain ⟨d1, g1, g2⟩ := hx2.get hx
  obtain ⟨s, t, c, p1, _, _, _, _, _, p2⟩ := fault_parts (List.all_eq_true.mp hz2 d1 (List.mem_of_getElem? g1))
  have g3 : DS exR H4 x d1 := r4.ds (r3.ds g2)
  obtain ⟨b, ys, rfl, hb3, hb4, _⟩ := g3.seqd p2
  rw [p1] at hb3
  obtain ⟨y1, y2, y3, rfl, c1, c2, c3⟩ := hb3.three
  · rw [g1]
    show Ev exR _ _ H4 (fun y H6 => DS (exR.and D) H6 y (pairOf d1))
    rw [pair_fault p1]
    cases c1
    cases c2
    exact ev_pairD .and (ev_ix (n := 0) (ev_var rfl) ev_c (hb4 K) rfl rfl) (ev_ix (n := 1) (ev_var rfl) ev_c (hb4 K) rfl rfl) (.str s) (.str t)
end Slip
/-! the law's own helpers: the draws -/
namespace Slip
open PySem PySem.Spec PyProof.Rows L2
section
variable {ρ : Rl} {K : Frag} {σ : L2.St} {H H' : Hp} {ta tb tc te ti : TE} {t u : TT} {x y z v : V} {r : R2} {R : V → Hp → Prop} {Pa Pb : V → Prop} {a l p : Addr} {xs : List V} {D : Ends} {tz tu : TS} {n : Nat} {i j : Int}
/-- operands whose values are not known -/
theorem ev_opP (ha : Ev ρ ta σ H (fun v _ => Pa v)) (hb : Ev ρ tb σ H (fun v _ => Pb v)) (hr : ∀ x y, Pa x → Pb y → RV ρ r x y H R) : Ev ρ (tOp r ta tb) σ H R := fun H1 e Q q =>
  ha H1 e _ fun x H2 e2 px => hb H2 (e.trans e2) _ fun y H3 e3 py => hr x y px py H3 ((e.trans e2).trans e3) Q fun v H4 e4 rv => q v H4 ((e2.trans e3).trans e4) rv
theorem ev_P {P : V → Prop} (h : EvV ρ te σ H v) (p : P v) : Ev ρ te σ H (fun v' _ => P v') := h.imp fun _ _ _ e => by rw [e]; exact p
theorem ea_consP {tr : TA} {Pr : List V → Prop} (h : Ev ρ ta σ H (fun v _ => Pa v)) (hr : EvA ρ tr σ H (fun vs _ => Pr vs)) : EvA ρ (tCons ta tr) σ H (fun vs _ => ∃ x ws, vs = x :: ws ∧ Pa x ∧ Pr ws) := fun H1 e _ q =>
  h H1 e _ fun x H2 e2 px => hr H2 (e.trans e2) _ fun ws H3 e3 pw => q _ H3 (e2.trans e3) ⟨x, ws, rfl, px, pw⟩
/-- xs[i] of an unknown place -/
theorem ev_ixP (h1 : EvV ρ ta σ H (.ref a)) (h2 : Ev ρ tb σ H (fun v _ => ∃ m : Int, v = .int m ∧ 0 ≤ m ∧ m < (xs.length : Int))) (hs : ∀ H1, ρ.r H H1 → SqA K H1 a xs) : Ev ρ (tIxU K ta tb) σ H (fun v _ => ∃ m : Nat, xs[m]? = some v) :=
  fun H1 e1 Q q => .inl (ev_opP (Pa := fun v => v = .ref a) h1 h2 (fun x y ex ⟨m, ey, h0, h1⟩ H2 e2 Q q => by
    subst ex ey
    have hm : m.toNat < xs.length := by omega
    have g : xs[m.toNat]? = some xs[m.toNat] := List.getElem?_eq_getElem hm
    have g2 : atI xs m = some xs[m.toNat] := by
      have := atI_nat g
      rwa [show ((m.toNat : Nat) : Int) = m by omega] at this
    exact (hs H2 e2).elim (fun hs => .inl ⟨a, xs, m, _, rfl, rfl, hs, g2, q _ H2 .rfl ⟨_, g⟩⟩) fun hs => .inr (.inl ⟨a, xs, m, _, rfl, rfl, hs, g2, q _ H2 .rfl ⟨_, g⟩⟩)) H1 e1 Q q)
theorem ev_ixSP {s : Str} (h1 : EvV ρ ta σ H (.str s)) (hl : s.length ≤ 100000) (h2 : Ev ρ tb σ H (fun v _ => ∃ m : Int, v = .int m ∧ 0 ≤ m ∧ m < (s.length : Int))) : Ev ρ (tIxU K ta tb) σ H (fun v _ => ∃ c, v = .str ⟨#[c]⟩ ∧ c ∈ s.cps.toList) :=
  fun H1 e1 Q q => .inl (ev_opP (Pa := fun v => v = .str s) h1 h2 (fun x y ex ⟨m, ey, h0, h1⟩ H2 e2 Q q => by
    subst ex ey
    have hz : s.cps.toList.length = s.length := by simp [Str.length]
    have hm : m.toNat < s.cps.toList.length := by omega
    have g : s.cps.toList[m.toNat]? = some s.cps.toList[m.toNat] := List.getElem?_eq_getElem hm
    have g2 : atI s.cps.toList m = some s.cps.toList[m.toNat] := by
      have := atI_nat g
      rwa [show ((m.toNat : Nat) : Int) = m by omega] at this
    exact .inr (.inr ⟨s, m, _, rfl, rfl, Evl.sz_of hl, g2, q _ H2 .rfl ⟨_, rfl, List.getElem_mem hm⟩⟩)) H1 e1 Q q)
/-- xs.append(e) -/
theorem s_app (hl : H l = some (.lst xs)) (nS : ¬ ρ.S l) (ha : EvV ρ ta σ H (.ref l)) (h : Ev ρ te σ H R) (hz : xs.length < 100000) (k : ∀ y H1, ρ.r H H1 → R y H1 → H1 l = some (.lst xs) → D.nx σ (upd H1 l (.lst (xs ++ [y])))) :
    tDrop (tBM K "list" rAppend ta (tCons te tNil)) D σ H := ha H .rfl _ fun v H1 e1 ev => by
  subst ev
  exact ⟨Or.inl ⟨rfl, xs, .of (e1.keep _ _ nS hl)⟩, h H1 e1 _ fun y H2 e2 ry => ⟨l, xs, y, rfl, rfl, (e1.trans e2).keep _ _ nS hl, Evl.sz_lt hz, k y H2 (e1.trans e2) ry ((e1.trans e2).keep _ _ nS hl)⟩⟩
theorem q_app (hl : H l = some (.lst xs)) (nS : ¬ ρ.S l) (ha : EvV ρ ta σ H (.ref l)) (h : Ev ρ te σ H R) (hz : xs.length < 100000) (k : ∀ y H1, ρ.r H H1 → R y H1 → H1 l = some (.lst xs) → tz D σ (upd H1 l (.lst (xs ++ [y])))) :
    tSeq (tDrop (tBM K "list" rAppend ta (tCons te tNil))) tz D σ H := s_app (D := { D with nx := tz D }) hl nS ha h hz k
/-- xs[i] = e -/
theorem q_setL {m : Nat} (hl : ∀ H1, ρ.r H H1 → H1 l = some (.lst xs)) (h : Ev ρ te σ H R) (ho : EvV ρ ta σ H (.ref l)) (hi : EvV ρ ti σ H (.int (m : Int))) (hm : m < xs.length) (k : ∀ y H1, ρ.r H H1 → R y H1 → tz D σ (upd H1 l (.lst (xs.set m y)))) (hR : ∀ y H1 H2, ρ.r H1 H2 → R y H1 → R y H2) :
    tSeq (tAsg te (gSub ta ti (rSetU K))) tz D σ H := h H .rfl _ fun y H1 e1 ry => ho H1 e1 _ fun v H2 e2 ev => by
  subst ev
  exact hi H2 (e1.trans e2) _ fun w H3 e3 ew => by
    subst ew
    have e13 := (e1.trans e2).trans e3
    exact .inl ⟨l, xs, (m : Int), m, rfl, rfl, hl H3 e13, Evl.ixN_nat hm, k y H3 e13 (hR _ _ _ (e2.trans e3) ry)⟩
/-! ### walks over what is not known ahead -/
def EvIx (ρ : Rl) (wi : TI) (σ : L2.St) (H : Hp) (C : Nat → (Nat → Hp → V → Hp → Prop) → Prop) : Prop :=
  ∀ H1, ρ.r H H1 → ∀ R : It → Hp → Prop, (∀ n Y J H2, C n Y → ρ.r H1 H2 → Walk J n (fun H3 => ρ.r H2 H3) Y → R J H2) → wi σ H1 R
variable {wi : TI} {g : TG} {C : Nat → (Nat → Hp → V → Hp → Prop) → Prop}
theorem s_forx (h : EvIx ρ wi σ H C) (k : ∀ n Y H1, C n Y → ρ.r H H1 → ∃ Pv : Nat → L2.St → Hp → Prop, Pv 0 σ H1 ∧ (∀ i σ' H', i ≤ n → Pv i σ' H' → ρ.r H1 H') ∧
    (∀ i x σ' H' H'', i < n → Pv i σ' H' → Y i H' x H'' → g x σ' H'' fun σ2 H2 => tu { D with nx := Pv (i + 1), ct := Pv (i + 1), bk := D.nx } σ2 H2) ∧ ∀ σ' H', Pv n σ' H' → D.nx σ' H') : tFor wi g tu D σ H :=
  h H .rfl _ fun n Y J H1 c e w => by
    obtain ⟨Pv, h0, hr, hs, hd⟩ := k n Y H1 c e
    exact for_it w Pv h0 hr hs hd
theorem q_forx (h : EvIx ρ wi σ H C) (k : ∀ n Y H1, C n Y → ρ.r H H1 → ∃ Pv : Nat → L2.St → Hp → Prop, Pv 0 σ H1 ∧ (∀ i σ' H', i ≤ n → Pv i σ' H' → ρ.r H1 H') ∧
    (∀ i x σ' H' H'', i < n → Pv i σ' H' → Y i H' x H'' → g x σ' H'' fun σ2 H2 => tu { D with nx := Pv (i + 1), ct := Pv (i + 1), bk := tz D } σ2 H2) ∧ ∀ σ' H', Pv n σ' H' → tz D σ' H') : tSeq (tFor wi g tu) tz D σ H :=
  s_forx (D := { D with nx := tz D }) h k
theorem eix_rng {lim : Int} (h : Ev ρ te σ H (fun v _ => ∃ m : Int, v = .int m ∧ 0 ≤ m ∧ m < lim)) (hl : lim ≤ 1000000) : EvIx ρ (iRng1 (tCons te tNil)) σ H (fun n Y => (n : Int) < lim ∧ Y = YFn fun m => .int ((m : Nat) : Int)) := fun H1 e1 R k =>
  h H1 e1 _ fun v H2 e2 ⟨m, ev, h0, h1⟩ => ⟨m, by rw [ev], by omega, by omega, k m.toNat _ _ H2 ⟨by omega, rfl⟩ e2 (walk_range.mono (fun _ _ => trivial) fun i H3 x H4 _ _ y => ⟨y.1, by rw [y.2]; exact congrArg V.int (Int.zero_add _)⟩)⟩
/-- a new list of known things -/
theorem ei_new (h : Ev ρ te σ H (fun v H2 => ∃ p, v = .ref p ∧ ¬ ρ.S p ∧ H2 p = some (.lst xs))) : EvI ρ (iSeq K te) σ H xs.length (YAt xs) := fun H1 e1 R k =>
  .inl (h H1 e1 _ fun v H2 e2 ⟨p, ev, nS, hp⟩ => ⟨p, ev, ⟨xs, .of hp⟩, k _ H2 e2 (walk_list.mono (fun H3 e3 => .of (e3.keep _ _ nS hp)) fun _ _ _ _ _ _ y => y)⟩)
/-- xs[:n] of a list -/
theorem ev_slL {tl th : TO} {lo hi : Option Int} (own : Own ρ H) (h : EvV ρ te σ H (.ref a)) (h1 : EvO ρ tl σ H lo) (h2 : EvO ρ th σ H hi) (hs : ∀ H1, ρ.r H H1 → SqL K H1 a xs) : Ev ρ (tSl (rSlU K) te tl th) σ H (fun v H2 => ∃ p, v = .ref p ∧ ¬ ρ.S p ∧ H2 p = some (.lst (cutV xs lo hi))) := fun H0 e Q q =>
  h H0 e _ fun v H2 e2 ev => by
    subst ev
    refine h1 H2 (e.trans e2) _ fun H3 e3 => h2 H3 ((e.trans e2).trans e3) _ fun H4 e4 => ?_
    have e04 := ((e.trans e2).trans e3).trans e4
    exact .inl ⟨a, xs, rfl, hs H4 e04, fun p hp => q _ _ (((e2.trans e3).trans e4).trans (r_new _ hp)) ⟨p, rfl, (own.r e04).fresh hp, upd_same⟩⟩
end
/-! ### draws -/
/-- a row of numbers at ra, the place at sp -/
def Dr (K : Frag) (ra sp : Addr) (H : Hp) : Prop := (∃ ms : List Int, ms ≠ [] ∧ SqL K H ra (ms.map V.int)) ∧ Spot sp H ∧ ra ≠ sp
theorem Dr.r {ρ : Rl} {K : Frag} {ra sp : Addr} {H H' : Hp} (d : Dr K ra sp H) (e : ρ.r H H') (h1 : ¬ ρ.S ra) (h2 : ρ.S sp → ρ.P sp) : Dr K ra sp H' := by
  obtain ⟨⟨ms, hm, hq⟩, hs, ne⟩ := d
  refine ⟨⟨ms, hm, e.sqL h1 hq⟩, ?_, ne⟩
  by_cases z : ρ.S sp
  · exact e.spot sp (h2 z) hs
  · obtain ⟨k, h0, q⟩ := hs
    exact ⟨k, h0, e.keep _ _ z q⟩
theorem Dr.sp {K : Frag} {ra sp : Addr} {H H' : Hp} (d : Dr K ra sp H) (e : (spR sp).r H H') : Dr K ra sp H' := d.r e d.2.2 fun z => z
def sp__law_draw (K : Frag) : Sp := fun vs H Q _ => ∃ (ra : Addr) (k lim : Int), vs = [.ref ra, .int k, .int lim] ∧ (∃ ms : List Int, ms ≠ [] ∧ SqL K H ra (ms.map V.int)) ∧ 0 ≤ k ∧ 0 < lim ∧ ∀ n H', 0 ≤ n → n < lim → Ext H H' → Q (.int n) H'
def sp__law_take (K : Frag) : Sp := fun vs H Q _ => ∃ (ra sp : Addr) (lim : Int), vs = [.ref ra, .ref sp, .int lim] ∧ Dr K ra sp H ∧ 0 < lim ∧ ∀ n H', 0 ≤ n → n < lim → (spR sp).r H H' → Q (.int n) H'
theorem len__law_draw {K : Frag} {vs : List V} {H : Hp} {Q : VK} {E : XK} (h : sp__law_draw K vs H Q E) : vs.length = 3 := by
  obtain ⟨ra, k, lim, rfl, _⟩ := h
  rfl
theorem len__law_take {K : Frag} {vs : List V} {H : Hp} {Q : VK} {E : XK} (h : sp__law_take K vs H Q E) : vs.length = 3 := by
  obtain ⟨ra, k, lim, rfl, _⟩ := h
  rfl
/-- a drawn number -/
abbrev Below (lim : Int) (v : V) : Prop := ∃ n : Int, v = .int n ∧ 0 ≤ n ∧ n < lim
section
variable {ρ : Rl} {K : Frag} {σ : L2.St} {H : Hp} {ta tb tc : TE} {ra sp : Addr} {lim : Int}
theorem ev_take {E : XK} (h1 : EvV (spR sp) ta σ H (.ref ra)) (h2 : EvV (spR sp) tb σ H (.ref sp)) (h3 : EvV (spR sp) tc σ H (.int lim)) (d : Dr K ra sp H) (hl : 0 < lim) : Ev (spR sp) (tCall (sp__law_take K) [] E (tCons ta (tCons tb (tCons tc tNil)))) σ H (fun v _ => Below lim v) :=
  ev_call (ea_cons h1 (ea_cons h2 (ea_cons h3 ea_nil))) fun H1 e1 Q q E => ⟨ra, sp, lim, rfl, d.sp e1, hl, fun n H' h0 h1 e => q _ H' e ⟨n, rfl, h0, h1⟩⟩
end
def t__law_draw (K : Frag) : TS := (tSeq (tIfS (tTest (tOp (rCmp K gLt) (tVar 1) (tCB (rLenU K) (tCons (tVar 0) tNil)))) (tRet (tOp rModI (tCB rIntOf (tCons (tIxU K (tVar 0) (tVar 1)) tNil)) (tVar 2))) tNext) (tSeq (tAsg (tOp rModI (tCB rIntOf (tCons (tOp (rAddU K) (tOp (rAddU K) (tOp rMulI (tIxU K (tVar 0) (tOp rModI (tCB rIntOf (tCons (tVar 1) tNil)) (tCB (rLenU K) (tCons (tVar 0) tNil)))) (tC (.int 40692))) (tOp rMulI (tVar 1) (tC (.int 7919)))) (tC (.int 3))) tNil)) (tC (.int 2147483399))) (gName 3)) (tRet (tOp rModI (tCB rIntOf (tCons (tOp rModI (tCB rIntOf (tCons (tOp (rAddU K) (tOp rMulI (tVar 3) (tC (.int 48271))) (tVar 1)) tNil)) (tC (.int 2147483647))) tNil)) (tVar 2)))))
def t__law_take (K : Frag) : TS := (tSeq (tAsg (tOp (rAddU K) (tIxU K (tVar 1) (tC (.int 0))) (tC (.int 1))) (gSub (tVar 1) (tC (.int 0)) (rSetU K))) (tRet (tCall (sp__law_draw K) [] E0 (tCons (tVar 0) (tCons (tOp rSubI (tIxU K (tVar 1) (tC (.int 0))) (tC (.int 1))) (tCons (tVar 2) tNil))))))
theorem pure__law_draw {K : Frag} (vs : List V) (H : Hp) (Q : VK) (E : XK) (h : sp__law_draw K vs H Q E) : t__law_draw K { nx := fun _ H' => Q .non H', rt := Q } (start ["row", "at", "limit", "mixed"] vs) H := by
  obtain ⟨ra, k, lim, rfl, ⟨ms, hm, hq⟩, h0, hl, q⟩ := h
  have hlen : (ms.map V.int).length = ms.length := List.length_map _
  have hpos : 0 < ms.length := by
    cases ms with
    | nil => exact absurd rfl hm
    | cons _ _ => exact Nat.succ_pos _
  have sq : ∀ H1, exR.r H H1 → SqA K H1 ra (ms.map V.int) := fun H1 e => .inl (ext_sqL e.ext hq)
  refine q_when (ρ := exR) (et_test (ev_lt (ev_var rfl) (ev_len (ev_var rfl) sq))) (fun hb H1 e => ?_) (fun hb H1 e => ?_)
  · have hk : k < (ms.length : Int) := by
      have := of_decide_eq_true hb
      rwa [hlen] at this
    have sq1 : ∀ H2, exR.r H1 H2 → SqA K H2 ra (ms.map V.int) := fun H2 e2 => sq H2 (e.trans e2)
    have g : (ms.map V.int)[k.toNat]? = some (.int (ms[k.toNat]'(by omega))) := by
      rw [List.getElem?_map, List.getElem?_eq_getElem (by omega)] <;> rfl
    exact s_retV (ρ := exR) (ev_mod (ev_int (ev_ix (n := k.toNat) (ev_var rfl) (ev_var rfl) sq1 (by omega) g)) (ev_var rfl) hl) fun H2 e2 => q _ H2 (Int.emod_nonneg _ (by omega)) (Int.emod_lt_of_pos _ hl) (e.trans e2).ext
  · have sq1 : ∀ H2, exR.r H1 H2 → SqA K H2 ra (ms.map V.int) := fun H2 e2 => sq H2 (e.trans e2)
    have hn : (k % (ms.length : Int)).toNat < ms.length := by
      have h1 := Int.emod_lt_of_pos k (show (0 : Int) < ms.length by omega)
      have h2 := Int.emod_nonneg k (show (ms.length : Int) ≠ 0 by omega)
      omega
    have g : (ms.map V.int)[(k % (ms.length : Int)).toNat]? = some (.int (ms[(k % (ms.length : Int)).toNat]'hn)) := by
      rw [List.getElem?_map, List.getElem?_eq_getElem hn] <;> rfl
    refine q_asgV (ρ := exR) (ev_mod (ev_int (ev_add (ev_add (ev_mul (ev_ix (n := (k % (ms.length : Int)).toNat) (ev_var rfl) ((ev_mod (ev_int (ev_var rfl)) (ev_len (ev_var rfl) sq1) (by omega)).val (by rw [hlen])) sq1 (by have h2 := Int.emod_nonneg k (show (ms.length : Int) ≠ 0 by omega); omega) g) ev_c (.inr (by decide))) (ev_mul (ev_var rfl) ev_c (.inr (by decide)))) ev_c)) ev_c (by decide)) fun H2 e2 => ?_
    exact s_retV (ρ := exR) (ev_mod (ev_int (ev_mod (ev_int (ev_add (ev_mul (ev_var rfl) ev_c (.inr (by decide))) (ev_var rfl))) ev_c (by decide))) (ev_var rfl) hl) fun H3 e3 => q _ H3 (Int.emod_nonneg _ (by omega)) (Int.emod_lt_of_pos _ hl) (e.trans (e2.trans e3)).ext
theorem pure__law_take {K : Frag} (vs : List V) (H : Hp) (Q : VK) (E : XK) (h : sp__law_take K vs H Q E) : t__law_take K { nx := fun _ H' => Q .non H', rt := Q } (start ["row", "spot", "limit"] vs) H := by
  obtain ⟨ra, sp, lim, rfl, ⟨⟨ms, hm, hq⟩, ⟨k, h0, hs⟩, ne⟩, hl, q⟩ := h
  have hs0 : ∀ H1, exR.r H H1 → H1 sp = some (.lst [.int k]) := fun H1 e => e.ext _ _ hs
  refine q_setL (ρ := exR) (R := fun v _ => v = .int (k + 1)) (m := 0) hs0 (ev_add (ev_ix (n := 0) (ev_var rfl) ev_c (fun H1 e => .inl (.of (hs0 H1 e))) rfl rfl) ev_c) (ev_var rfl) ev_c (by show 0 < 1; decide) (fun y H1 e1 ey => ?_) (fun _ _ _ _ h => h)
  subst ey
  have ch : (spR sp).r H (upd H1 sp (.lst [.int (k + 1)])) := by
    have e := e1.ext
    refine ⟨fun a o n h => by rw [upd_ne n]; exact e a o h, fun a h => ?_, fun a xs h => ?_, fun a o u h => ?_, fun a p h => ?_⟩
    · by_cases z : a = sp
      · subst z; rw [upd_same] at h; cases h
      · rw [upd_ne z] at h; exact e1.back a h
    · rw [upd_ne (ne_of h hs (by intro z; cases z))]; exact e a _ h
    · rw [upd_ne (ne_of h hs (by intro z; cases z))]; exact e a _ h
    · subst p
      exact ⟨k + 1, by omega, upd_same⟩
  have hq2 : SqL K (upd H1 sp (.lst [.int (k + 1)])) ra (ms.map V.int) := ch.sqL ne hq
  have hs2 : ∀ H2, exR.r (upd H1 sp (.lst [.int (k + 1)])) H2 → SqA K H2 sp [.int (k + 1)] := fun H2 e => .inl (.of (e.ext _ _ upd_same))
  refine s_ret (ρ := exR) (R := fun v _ => Below lim v) (ev_call (ea_cons (ev_var rfl) (ea_cons (ev_sub (ev_ix (n := 0) (ev_var rfl) ev_c hs2 rfl rfl) ev_c) (ea_cons (ev_var rfl) ea_nil))) fun H2 e2 Q' q' E => ⟨ra, k + 1 - 1, lim, rfl, ⟨ms, hm, ext_sqL e2.ext hq2⟩, by omega, hl, fun n H' h0 h1 e => q' _ H' (Ext.r e) ⟨n, rfl, h0, h1⟩⟩) fun v H2 e2 ⟨n, ev, h0', h1'⟩ => ?_
  subst ev
  exact q n H2 h0' h1' (ch.trans (Ext.r e2.ext))
end Slip
/-! the law's own helpers: sameness, the numbers of the script -/
namespace Slip
open PySem PySem.Spec PyProof.Rows L2
/- found is wanted, kind by kind -/
mutual
def soD : PyData → PyData → Bool
  | f, .none => (match f with | .none => true | _ => false)
  | f, .tuple ws => (match f with | .tuple fs => soAll fs ws | _ => false)
  | f, .bool b => (match f with | .bool a => a == b | _ => false)
  | f, .int j => (match f with | .int i => decide (i = j) | _ => false)
  | f, .str t => (match f with | .str s => decide (s = t) | _ => false)
  | _, .list _ => false
  | _, .dict _ => false
def soAll : List PyData → List PyData → Bool
  | [], [] => true
  | f :: fs, w :: ws => soD f w && soAll fs ws
  | [], _ :: _ => false
  | _ :: _, [] => false
end
theorem soAll_len : ∀ {fs ws : List PyData}, soAll fs ws = true → fs.length = ws.length
  | [], [], _ => rfl
  | f :: fs, w :: ws, h => by
    have h' : soD f w = true ∧ soAll fs ws = true := by simpa [soAll] using h
    exact congrArg Nat.succ (soAll_len h'.2)
  | [], _ :: _, h => by cases h
  | _ :: _, [], h => by cases h
theorem soAll_of : ∀ {fs ws : List PyData}, fs.length = ws.length → (∀ (i : Nat) f w, fs[i]? = some f → ws[i]? = some w → soD f w = true) → soAll fs ws = true
  | [], [], _, _ => rfl
  | f :: fs, w :: ws, hl, h => by
    show (soD f w && soAll fs ws) = true
    rw [h 0 f w rfl rfl, soAll_of (by simpa using hl) fun i x y a b => h (i + 1) x y (by simpa using a) (by simpa using b)]
    rfl
  | [], _ :: _, hl, _ => by simp at hl
  | _ :: _, [], hl, _ => by simp at hl
theorem soAll_no : ∀ {fs ws : List PyData} {i : Nat} {f w : PyData}, fs[i]? = some f → ws[i]? = some w → soD f w = false → soAll fs ws = false
  | f :: fs, w :: ws, 0, x, y, a, b, h => by
    cases a
    cases b
    show (soD f w && soAll fs ws) = false
    rw [h, Bool.false_and]
  | f :: fs, w :: ws, i + 1, x, y, a, b, h => by
    show (soD f w && soAll fs ws) = false
    rw [soAll_no (by simpa using a) (by simpa using b) h, Bool.and_false]
  | [], _, i, x, y, a, _, _ => by simp at a
  | _ :: _, [], i, x, y, _, b, _ => by simp at b
theorem depth_mem : ∀ {ds : List PyData} {d : PyData}, d ∈ ds → d.depth ≤ PyData.depthAll ds
  | e :: ds, d, h => by
    show d.depth ≤ max e.depth (PyData.depthAll ds)
    rcases List.mem_cons.mp h with rfl | h
    · exact Nat.le_max_left _ _
    · exact Nat.le_trans (depth_mem h) (Nat.le_max_right _ _)
def sp__law_so (K : Frag) (n : Nat) : Sp := fun vs H Q _ => ∃ x y f w, vs = [x, y] ∧ DS exR H x f ∧ DS exR H y w ∧ sm w = true ∧ w.depth < n ∧ ∀ H', Ext H H' → Q (.bl (soD f w)) H'
theorem len__law_so {K : Frag} {n : Nat} {vs : List V} {H : Hp} {Q : VK} {E : XK} (h : sp__law_so K n vs H Q E) : vs.length = 2 := by
  obtain ⟨x, y, f, w, rfl, _⟩ := h
  rfl
section
variable {ρ : Rl} {K : Frag} {σ : L2.St} {H : Hp} {ta tb : TE} {x y : V} {f w : PyData} {n : Nat}
theorem ev_so {E : XK} (h1 : EvV ρ ta σ H x) (h2 : EvV ρ tb σ H y) (hf : DS ρ H x f) (hw : DS ρ H y w) (hs : sm w = true) (hd : w.depth < n) : EvV ρ (tCall (sp__law_so K n) [] E (tCons ta (tCons tb tNil))) σ H (.bl (soD f w)) :=
  ev_call (ea_cons h1 (ea_cons h2 ea_nil)) fun H1 e1 Q q E => ⟨x, y, f, w, rfl, (e1.ds hf).ex, (e1.ds hw).ex, hs, hd, fun H' e => q _ H' (Ext.r e) rfl⟩
end
def t__law_so (K : Frag) (n : Nat) : TS := (tSeq (tIfS (tTest (tOp rIsN (tVar 1) (tC .non))) (tRet (tOp rIsN (tVar 0) (tC .non))) tNext) (tSeq (tIfS (tB (tCB (rIsiU K) (tCons (tVar 1) (tCons (tC (.ty "tuple")) tNil)))) (tSeq (tIfS (tOr (tNot (tB (tCB (rIsiU K) (tCons (tVar 0) (tCons (tC (.ty "tuple")) tNil))))) (tTest (tOp (rNeU K) (tCB (rLenU K) (tCons (tVar 0) tNil)) (tCB (rLenU K) (tCons (tVar 1) tNil))))) (tRet (tC (.bl false))) tNext) (tSeq (tFor (iRng1 (tCons (tCB (rLenU K) (tCons (tVar 1) tNil)) tNil)) (gName 2) (tIfS (tNot (tB (tCall (sp__law_so K n) [] E0 (tCons (tIxU K (tVar 0) (tVar 2)) (tCons (tIxU K (tVar 1) (tVar 2)) tNil))))) (tRet (tC (.bl false))) tNext)) (tRet (tC (.bl true))))) tNext) (tSeq (tIfS (tOr (tB (tCB (rIsiU K) (tCons (tVar 1) (tCons (tC (.ty "bool")) tNil)))) (tB (tCB (rIsiU K) (tCons (tVar 0) (tCons (tC (.ty "bool")) tNil))))) (tRet (tAndV (tCB (rIsiU K) (tCons (tVar 1) (tCons (tC (.ty "bool")) tNil))) (tAndV (tCB (rIsiU K) (tCons (tVar 0) (tCons (tC (.ty "bool")) tNil))) (tOp (rEqU K) (tVar 0) (tVar 1))))) tNext) (tSeq (tIfS (tB (tCB (rIsiU K) (tCons (tVar 1) (tCons (tC (.ty "int")) tNil)))) (tRet (tAndV (tCB (rIsiU K) (tCons (tVar 0) (tCons (tC (.ty "int")) tNil))) (tOp (rEqU K) (tVar 0) (tVar 1)))) tNext) (tRet (tAndV (tCB (rIsiU K) (tCons (tVar 1) (tCons (tC (.ty "str")) tNil))) (tAndV (tCB (rIsiU K) (tCons (tVar 0) (tCons (tC (.ty "str")) tNil))) (tOp (rEqU K) (tVar 0) (tVar 1)))))))))
theorem pure__law_so {K : Frag} {n : Nat} (vs : List V) (H : Hp) (Q : VK) (E : XK) (h : sp__law_so K (n + 1) vs H Q E) : t__law_so K n { nx := fun _ H' => Q .non H', rt := Q } (start ["found", "wanted", "k"] vs) H := by
  obtain ⟨x, y, f, w, rfl, hf, hw, hs, hd, k⟩ := h
  cases w with
  | none =>
    cases hw
    refine q_when (ρ := exR) (b := true) ((et_test (ev_isN (v := V.non) (ev_var rfl))).to (decide_eq_true rfl)) (fun hb H1 e => s_retV (ρ := exR) (ev_isN (ev_var rfl)) fun H2 e2 => ?_) (fun hb H1 e => by cases hb)
    have : decide (x = V.non) = soD f .none := by cases hf <;> rfl
    rw [this]
    exact k H2 (e.trans e2).ext
  | list ds =>
    have e0 : soD f (.list ds) = false := by cases f <;> rfl
    rw [e0] at k
    have ne : y ≠ V.non := by cases hw; intro z; cases z
    refine q_when (ρ := exR) (b := false) ((et_test (ev_isN (ev_var rfl))).to (decide_eq_false ne)) (fun hb H1 e => by cases hb) (fun hb H1 e => ?_)
    refine q_when (ρ := exR) (b := false) (et_B (ev_isi (ev_var rfl) (e.ds hw) rfl)) (fun hb H1 e => by cases hb) (fun hb H2 e2 => ?_)
    have e12 := e.trans e2
    refine q_when (ρ := exR) (et_or (et_B (ev_isi (ev_var rfl) (e12.ds hw) rfl)) fun _ => et_B (ev_isi (ev_var rfl) (e12.ds hf) rfl)) (fun hb H3 e3 => s_retV (ρ := exR) ((ev_andV (b := true) (ev_isi (ev_var rfl) ((e12.trans e3).ds hw) rfl) fun h => by cases h)) fun H4 e4 => k H4 (e12.trans (e3.trans e4)).ext) (fun hb H3 e3 => ?_)
    have e13 := e12.trans e3
    refine q_when (ρ := exR) (b := false) (et_B (ev_isi (ev_var rfl) (e13.ds hw) rfl)) (fun hb H1 e => by cases hb) (fun hb H4 e4 => ?_)
    have e14 := e13.trans e4
    exact s_retV (ρ := exR) ((ev_andV (b := true) (ev_isi (ev_var rfl) (e14.ds hw) rfl) fun h => by cases h)) fun H5 e5 => k H5 (e14.trans e5).ext
  | dict ds => cases hw
  | bool b =>
    cases hw
    refine q_when (ρ := exR) (b := false) ((et_test (ev_isN (ev_var rfl))).to (decide_eq_false (by intro z; cases z))) (fun hb H1 e => by cases hb) (fun hb H1 e => ?_)
    refine q_when (ρ := exR) (b := false) (et_B (ev_isi (ev_var rfl) (.bl b) rfl)) (fun hb H1 e => by cases hb) (fun hb H2 e2 => ?_)
    have e12 := e.trans e2
    refine q_when (ρ := exR) (b := true) (et_or (b := true) (et_B (ev_isi (ev_var rfl) (.bl b) rfl)) fun h => by cases h) (fun hb H3 e3 => ?_) (fun hb H1 e => by cases hb)
    have e13 := e12.trans e3
    have gf := e13.ds hf
    cases hq : isiB f "bool" with
    | true =>
      cases f with
      | bool a =>
        cases hf
        exact s_retV (ρ := exR) (ev_andV (ev_isi (ev_var rfl) (.bl b) rfl) fun _ => ev_andV (ev_isi (ev_var rfl) gf rfl) fun _ => ev_eqB (ev_var rfl) (ev_var rfl)) fun H4 e4 => k H4 (e13.trans e4).ext
      | _ => exact absurd hq (by show ¬ false = true; decide)
    | false =>
      have e0 : soD f (.bool b) = false := by
        cases f with
        | bool a => exact absurd hq (by show ¬ true = false; decide)
        | _ => rfl
      rw [e0] at k
      refine s_retV (ρ := exR) ((ev_andV (b := false) (ev_isi (ev_var rfl) (.bl b) rfl) fun _ => (ev_andV (b := false) (ev_isi (ev_var rfl) gf rfl) fun h => by rw [hq] at h; cases h).val (by rw [Bool.and_false])).val (x := .bl false) (by rw [Bool.and_false])) fun H4 e4 => k H4 (e13.trans e4).ext
  | int j =>
    cases hw
    refine q_when (ρ := exR) (b := false) ((et_test (ev_isN (ev_var rfl))).to (decide_eq_false (by intro z; cases z))) (fun hb H1 e => by cases hb) (fun hb H1 e => ?_)
    refine q_when (ρ := exR) (b := false) (et_B (ev_isi (ev_var rfl) (.int j) rfl)) (fun hb H1 e => by cases hb) (fun hb H2 e2 => ?_)
    have e12 := e.trans e2
    refine q_when (ρ := exR) (et_or (et_B (ev_isi (ev_var rfl) (.int j) rfl)) fun _ => et_B (ev_isi (ev_var rfl) (e12.ds hf) rfl)) (fun hb H3 e3 => ?_) (fun hb H3 e3 => ?_)
    · have e0 : soD f (.int j) = false := by
        cases f with
        | int a => exact absurd hb (by show ¬ (false || false) = true; decide)
        | _ => rfl
      rw [e0] at k
      exact s_retV (ρ := exR) ((ev_andV (b := true) (ev_isi (ev_var rfl) (.int j) rfl) fun h => by cases h)) fun H4 e4 => k H4 (e12.trans (e3.trans e4)).ext
    · have e13 := e12.trans e3
      refine q_when (ρ := exR) (b := true) (et_B (ev_isi (ev_var rfl) (.int j) rfl)) (fun _ H4 e4 => ?_) (fun hb H1 e => by cases hb)
      have e14 := e13.trans e4
      have gf := e14.ds hf
      cases f with
      | int i =>
        cases hf
        exact s_retV (ρ := exR) (ev_andV (ev_isi (ev_var rfl) gf rfl) fun _ => ev_eqI (ev_var rfl) (ev_var rfl)) fun H5 e5 => k H5 (e14.trans e5).ext
      | bool a => exact absurd hb (by show ¬ (false || true) = false; decide)
      | none => exact s_retV (ρ := exR) ((ev_andV (b := true) (ev_isi (ev_var rfl) gf rfl) fun h => by cases h)) fun H5 e5 => k H5 (e14.trans e5).ext
      | str s => exact s_retV (ρ := exR) ((ev_andV (b := true) (ev_isi (ev_var rfl) gf rfl) fun h => by cases h)) fun H5 e5 => k H5 (e14.trans e5).ext
      | list s => exact s_retV (ρ := exR) ((ev_andV (b := true) (ev_isi (ev_var rfl) gf rfl) fun h => by cases h)) fun H5 e5 => k H5 (e14.trans e5).ext
      | tuple s => exact s_retV (ρ := exR) ((ev_andV (b := true) (ev_isi (ev_var rfl) gf rfl) fun h => by cases h)) fun H5 e5 => k H5 (e14.trans e5).ext
      | dict s => cases hf
  | str t =>
    cases hw
    refine q_when (ρ := exR) (b := false) ((et_test (ev_isN (ev_var rfl))).to (decide_eq_false (by intro z; cases z))) (fun hb H1 e => by cases hb) (fun hb H1 e => ?_)
    refine q_when (ρ := exR) (b := false) (et_B (ev_isi (ev_var rfl) (.str t) rfl)) (fun hb H1 e => by cases hb) (fun hb H2 e2 => ?_)
    have e12 := e.trans e2
    refine q_when (ρ := exR) (et_or (et_B (ev_isi (ev_var rfl) (.str t) rfl)) fun _ => et_B (ev_isi (ev_var rfl) (e12.ds hf) rfl)) (fun hb H3 e3 => ?_) (fun hb H3 e3 => ?_)
    · have e0 : soD f (.str t) = false := by
        cases f with
        | str a => exact absurd hb (by show ¬ (false || false) = true; decide)
        | _ => rfl
      rw [e0] at k
      exact s_retV (ρ := exR) ((ev_andV (b := true) (ev_isi (ev_var rfl) (.str t) rfl) fun h => by cases h)) fun H4 e4 => k H4 (e12.trans (e3.trans e4)).ext
    · have e13 := e12.trans e3
      refine q_when (ρ := exR) (b := false) (et_B (ev_isi (ev_var rfl) (.str t) rfl)) (fun hb H1 e => by cases hb) (fun _ H4 e4 => ?_)
      have e14 := e13.trans e4
      have gf := e14.ds hf
      cases hq : isiB f "str" with
      | true =>
        obtain ⟨s, rfl, rfl⟩ := hf.inv_str hq
        exact s_retV (ρ := exR) (ev_andV (ev_isi (ev_var rfl) (.str t) rfl) fun _ => ev_andV (ev_isi (ev_var rfl) gf rfl) fun _ => ev_eqS (ev_var rfl) (ev_var rfl)) fun H5 e5 => k H5 (e14.trans e5).ext
      | false =>
        have e0 : soD f (.str t) = false := by
          cases f with
          | str a => exact absurd hq (by show ¬ true = false; decide)
          | _ => rfl
        rw [e0] at k
        refine s_retV (ρ := exR) ((ev_andV (b := false) (ev_isi (ev_var rfl) (.str t) rfl) fun _ => (ev_andV (b := false) (ev_isi (ev_var rfl) gf rfl) fun h => by rw [hq] at h; cases h).val (by rw [Bool.and_false])).val (x := .bl false) (by rw [Bool.and_false])) fun H5 e5 => k H5 (e14.trans e5).ext
  | tuple ws =>
    have ne : y ≠ V.non := by cases hw; intro z; cases z
    have hz := sm_seq (.inr hs)
    have hd' : PyData.depthAll ws < n := by
      have : PyData.depthAll ws + 1 < n + 1 := hd
      omega
    refine q_when (ρ := exR) (b := false) ((et_test (ev_isN (ev_var rfl))).to (decide_eq_false ne)) (fun hb H1 e => by cases hb) (fun hb H1 e => ?_)
    refine q_when (ρ := exR) (b := true) (et_B (ev_isi (ev_var rfl) (e.ds hw) rfl)) (fun hb H2 e2 => ?_) (fun hb H1 e => by cases hb)
    have e12 := e.trans e2
    have gf := e12.ds hf
    have gw := e12.ds hw
    obtain ⟨b, ys, rfl, hys, hsy, _⟩ := gw.seqd rfl
    have ly : ys.length = ws.length := hys.length
    cases hq : isiB f "tuple" with
    | false =>
      have e0 : soD f (.tuple ws) = false := by
        cases f with
        | tuple a => exact absurd hq (by show ¬ true = false; decide)
        | _ => rfl
      rw [e0] at k
      refine q_when (ρ := exR) (b := true) ((et_or (b := true) (et_not (et_B (ev_isi (ev_var rfl) gf rfl))) fun h => by rw [hq] at h; cases h).to (by rw [hq]; rfl)) (fun hb H3 e3 => s_retV (ρ := exR) ev_c fun H4 e4 => k H4 (e12.trans (e3.trans e4)).ext) (fun hb H1 e => by cases hb)
    | true =>
      obtain ⟨fs, rfl⟩ : ∃ fs, f = .tuple fs := by
        cases f with
        | tuple a => exact ⟨a, rfl⟩
        | _ => exact absurd hq (by show ¬ false = true; decide)
      obtain ⟨a, xs, rfl, hxs, hsx, _⟩ := gf.seqd rfl
      have lx : xs.length = fs.length := hxs.length
      refine q_when (ρ := exR) (b := !decide (fs.length = ws.length)) ((et_or (b := !decide (fs.length = ws.length)) (et_not (et_B (ev_isi (ev_var rfl) gf rfl))) fun _ => (et_test (ev_neI (ev_len (ev_var rfl) (hsx K)) (ev_len (ev_var rfl) (hsy K)))).to ?_).to (by rw [hq]; rfl)) (fun hb H3 e3 => s_retV (ρ := exR) ev_c fun H4 e4 => ?_) (fun hb H3 e3 => ?_)
      · rw [lx, ly]
        refine congrArg (fun b => !b) ?_
        by_cases z : fs.length = ws.length
        · rw [decide_eq_true z, decide_eq_true (by omega)]
        · rw [decide_eq_false z, decide_eq_false (by omega)]
      · have hne : ¬ fs.length = ws.length := of_decide_eq_false (notb hb)
        have e0 : soD (.tuple fs) (.tuple ws) = false := by
          show soAll fs ws = false
          cases q : soAll fs ws with
          | true => exact absurd (soAll_len q) hne
          | false => rfl
        rw [e0] at k
        exact k H4 (e12.trans (e3.trans e4)).ext
      · have hlen : fs.length = ws.length := of_decide_eq_true (notb' hb)
        have e13 := e12.trans e3
        have sy3 : ∀ H4, exR.r H3 H4 → SqA K H4 b ys := fun H4 e4 => hsy K H4 (e3.trans e4)
        have sx3 : ∀ H4, exR.r H3 H4 → SqA K H4 a xs := fun H4 e4 => hsx K H4 (e3.trans e4)
        have dx3 : DSs exR H3 xs fs := e3.dss hxs
        have dy3 : DSs exR H3 ys ws := e3.dss hys
        refine q_for (ρ := exR) (n := ys.length) (ei_rng (ea_cons (ev_len (ev_var rfl) sy3) ea_nil) (by omega) (by omega)) fun H4 e4 => ⟨fun i σ' H' => exR.r H4 H' ∧ (∃ kv, σ' = [some (.ref a), some (.ref b), kv]) ∧ ∀ (j : Nat) f w, j < i → fs[j]? = some f → ws[j]? = some w → soD f w = true, ⟨.rfl, ⟨_, rfl⟩, fun j _ _ h => absurd h (Nat.not_lt_zero j)⟩, fun i σ' H' _ p => p.1, ?_, ?_⟩
        · rintro i v σ' H' H'' hi ⟨r, ⟨kv, rfl⟩, hall⟩ ⟨e5, rfl⟩
          subst e5
          have e35 : exR.r H3 H'' := e4.trans r
          have gx : xs[i]? = some xs[i] := List.getElem?_eq_getElem (by omega)
          have gy : ys[i]? = some ys[i] := List.getElem?_eq_getElem hi
          obtain ⟨f1, f2, f3⟩ := dx3.get gx
          obtain ⟨w1, w2, w3⟩ := dy3.get gy
          have hm := List.mem_of_getElem? w2
          refine s_if (ρ := exR) (et_not (et_B (ev_so (ev_ix (n := i) (ev_var rfl) (ev_var rfl) (fun H6 e6 => sx3 H6 (e35.trans e6)) rfl gx) (ev_ix (n := i) (ev_var rfl) (ev_var rfl) (fun H6 e6 => sy3 H6 (e35.trans e6)) rfl gy) (e35.ds f3) (e35.ds w3) (smAll_mem hz.2 hm) (Nat.lt_of_le_of_lt (depth_mem hm) hd')))) (fun hb H6 e6 => s_retV (ρ := exR) ev_c fun H7 e7 => ?_) (fun hb H6 e6 => ?_)
          · have e0 : soD (.tuple fs) (.tuple ws) = false := soAll_no f2 w2 (notb hb)
            rw [e0] at k
            exact k H7 (e13.trans (e35.trans (e6.trans e7))).ext
          · refine ⟨r.trans e6, ⟨_, rfl⟩, fun j f' w' hj a1 a2 => ?_⟩
            by_cases z : j = i
            · subst z
              rw [f2] at a1
              rw [w2] at a2
              cases a1
              cases a2
              exact notb' hb
            · exact hall j f' w' (by omega) a1 a2
        · rintro σ' H' ⟨r, ⟨kv, rfl⟩, hall⟩
          refine s_retV (ρ := exR) ev_c fun H6 e6 => ?_
          have e0 : soD (.tuple fs) (.tuple ws) = true := soAll_of hlen fun i f' w' a1 a2 => hall i f' w' (by have := (List.getElem?_eq_some_iff.mp a2).1; omega) a1 a2
          rw [e0] at k
          exact k H6 (e13.trans (e4.trans (r.trans e6))).ext
end Slip
/-! the law's own helpers: the numbers of the script; data handed as lists -/
namespace Slip
open PySem PySem.Spec PyProof.Rows L2
/-! ### a walk beside which the body changes more (ρw) than what is walked did (ρ) -/
def EvW (ρ ρw : Rl) (wi : TI) (σ : L2.St) (H : Hp) (n : Nat) (Y : Nat → Hp → V → Hp → Prop) : Prop :=
  ∀ H1, ρ.r H H1 → ∀ R : It → Hp → Prop, (∀ J H2, ρ.r H1 H2 → Walk J n (fun H3 => ρw.r H2 H3) Y → R J H2) → wi σ H1 R
section
variable {ρ ρw : Rl} {K : Frag} {σ : L2.St} {H H' : Hp} {te : TE} {a : Addr} {xs : List V} {D : Ends} {tz tu : TS} {n : Nat} {i : Int} {wi : TI} {g : TG} {Y : Nat → Hp → V → Hp → Prop}
theorem s_forw (h : EvW ρ ρw wi σ H n Y) (k : ∀ H1, ρ.r H H1 → ∃ Pv : Nat → L2.St → Hp → Prop, Pv 0 σ H1 ∧ (∀ i σ' H', i ≤ n → Pv i σ' H' → ρw.r H1 H') ∧
    (∀ i x σ' H' H'', i < n → Pv i σ' H' → Y i H' x H'' → g x σ' H'' fun σ2 H2 => tu { D with nx := Pv (i + 1), ct := Pv (i + 1), bk := D.nx } σ2 H2) ∧ ∀ σ' H', Pv n σ' H' → D.nx σ' H') : tFor wi g tu D σ H :=
  h H .rfl _ fun J H1 e w => by
    obtain ⟨Pv, h0, hr, hs, hd⟩ := k H1 e
    exact for_it w Pv h0 hr hs hd
theorem q_forw (h : EvW ρ ρw wi σ H n Y) (k : ∀ H1, ρ.r H H1 → ∃ Pv : Nat → L2.St → Hp → Prop, Pv 0 σ H1 ∧ (∀ i σ' H', i ≤ n → Pv i σ' H' → ρw.r H1 H') ∧
    (∀ i x σ' H' H'', i < n → Pv i σ' H' → Y i H' x H'' → g x σ' H'' fun σ2 H2 => tu { D with nx := Pv (i + 1), ct := Pv (i + 1), bk := tz D } σ2 H2) ∧ ∀ σ' H', Pv n σ' H' → tz D σ' H') : tSeq (tFor wi g tu) tz D σ H :=
  s_forw (D := { D with nx := tz D }) h k
theorem ew_new (own : Own ρw H) (h : Ev ρ te σ H (fun v H2 => ∃ p, v = .ref p ∧ ¬ ρ.S p ∧ H p = none ∧ H2 p = some (.lst xs))) : EvW ρ ρw (iSeq K te) σ H xs.length (YAt xs) := fun H1 e1 R k =>
  .inl (h H1 e1 _ fun v H2 e2 ⟨p, ev, nS, h0, hp⟩ => ⟨p, ev, ⟨xs, .of hp⟩, k _ H2 e2 (walk_list.mono (fun H3 e3 => .of (e3.keep _ _ (own.fresh h0) hp)) fun _ _ _ _ _ _ y => y)⟩)
theorem ew_rng {ts : TA} (h : EvAV ρ ts σ H [.int i]) (lo : -100000 ≤ i) (hi : i ≤ 100000000) : EvW ρ ρw (iRng1 ts) σ H i.toNat (YFn fun m => .int ((m : Nat) : Int)) := fun H1 e1 R k =>
  h H1 e1 _ fun v H2 e2 hv => ⟨i, hv, by omega, by omega, k _ H2 e2 (walk_range.mono (fun _ _ => trivial) fun m H3 x H4 _ _ y => ⟨y.1, by rw [y.2]; exact congrArg V.int (Int.zero_add _)⟩)⟩
theorem ev_slL2 {tl th : TO} {lo hi : Option Int} (own : Own ρ H) (h : EvV ρ te σ H (.ref a)) (h1 : EvO ρ tl σ H lo) (h2 : EvO ρ th σ H hi) (hs : ∀ H1, ρ.r H H1 → SqL K H1 a xs) : Ev ρ (tSl (rSlU K) te tl th) σ H (fun v H2 => ∃ p, v = .ref p ∧ ¬ ρ.S p ∧ H p = none ∧ H2 p = some (.lst (cutV xs lo hi))) := fun H0 e Q q =>
  h H0 e _ fun v H2 e2 ev => by
    subst ev
    refine h1 H2 (e.trans e2) _ fun H3 e3 => h2 H3 ((e.trans e2).trans e3) _ fun H4 e4 => ?_
    have e04 := ((e.trans e2).trans e3).trans e4
    exact .inl ⟨a, xs, rfl, hs H4 e04, fun p hp => q _ _ (((e2.trans e3).trans e4).trans (r_new _ hp)) ⟨p, rfl, (own.r e04).fresh hp, e04.back p hp, upd_same⟩⟩
end
def sp__law_numbers (K : Frag) : Sp := fun vs H Q _ => ∃ (a : Addr) (ns : List Int), vs = [.ref a] ∧ SqL K H a (ns.map V.int) ∧ ns.length ≤ 63 ∧ ∀ p (ms : List Int) H', H p = none → Ext H H' → H' p = some (.lst (ms.map V.int)) → ms ≠ [] → Q (.ref p) H'
theorem len__law_numbers {K : Frag} {vs : List V} {H : Hp} {Q : VK} {E : XK} (h : sp__law_numbers K vs H Q E) : vs.length = 1 := by
  obtain ⟨a, ns, rfl, _⟩ := h
  rfl
theorem cut_int {ns : List Int} {lo hi : Option Int} {i : Nat} {x : V} (h : (cutV (ns.map V.int) lo hi)[i]? = some x) : ∃ n, x = .int n := by
  have hm : x ∈ ns.map V.int := List.mem_of_mem_drop (List.mem_of_mem_take (List.mem_of_getElem? h))
  obtain ⟨n, _, e⟩ := List.mem_map.mp hm
  exact ⟨n, e.symm⟩
theorem map_snoc (ms : List Int) (n : Int) : ms.map V.int ++ [V.int n] = (ms ++ [n]).map V.int := by rw [List.map_append] <;> rfl
def t__law_numbers (K : Frag) : TS := (tSeq (tAsg (tLst tNil) (gName 1)) (tSeq (tFor (iSeq K (tSl (rSlU K) (tVar 0) tNoPart (tPart (tC (.int 63))))) (gName 2) (tIfS (tTest (tOp (rCmp K gGe) (tVar 2) (tOp rPowI (tC (.int 10)) (tC (.int 18))))) (tSeq (tAsg (tVar 2) (gName 3)) (tFor (iRng1 (tCons (tC (.int 60)) tNil)) (gName 4) (tSeq (tIfS (tTest (tOp (rEqU K) (tVar 3) (tC (.int 0)))) tBreak tNext) (tSeq (tDrop (tBM K "list" rAppend (tVar 1) (tCons (tOp rModI (tCB rIntOf (tCons (tVar 3) tNil)) (tC (.int 997))) tNil))) (tAsg (tOp rFdivI (tVar 3) (tC (.int 997))) (gName 3)))))) (tFor (iRng1 (tCons (tC (.int 4)) tNil)) (gName 4) (tSeq (tAsg (tOp rModI (tCB rIntOf (tCons (tOp (rAddU K) (tOp (rAddU K) (tOp rMulI (tVar 2) (tC (.int 48271))) (tOp rMulI (tVar 4) (tC (.int 69621)))) (tC (.int 11))) tNil)) (tC (.int 2147483647))) (gName 5)) (tDrop (tBM K "list" rAppend (tVar 1) (tCons (tOp rModI (tCB rIntOf (tCons (tOp (rAddU K) (tOp rMulI (tVar 5) (tC (.int 16807))) (tVar 4)) tNil)) (tC (.int 2147483629))) tNil))))))) (tSeq (tIfS (tTest (tOp (rEqU K) (tCB (rLenU K) (tCons (tVar 1) tNil)) (tC (.int 0)))) (tDrop (tBM K "list" rAppend (tVar 1) (tCons (tC (.int 0)) tNil))) tNext) (tRet (tVar 1)))))
theorem pure__law_numbers {K : Frag} (vs : List V) (H : Hp) (Q : VK) (E : XK) (h : sp__law_numbers K vs H Q E) : t__law_numbers K { nx := fun _ H' => Q .non H', rt := Q } (start ["script", "row", "cell", "left", "k", "mixed"] vs) H := by
  obtain ⟨a, ns, rfl, hq, hl, q⟩ := h
  refine q_asg (ρ := exR) (ev_lst ea_nil fun vs H1 _ e => by rw [e]; show 0 ≤ 100000; decide) fun v H1 e1 ⟨p, vs, H0, ev, evs, hp, r0, eH⟩ => ?_
  subst ev evs
  have hp0 : H p = none := r0.back p hp
  have hp1 : H1 p = some (.lst (([] : List Int).map V.int)) := by rw [eH]; exact upd_same
  have sq1 : ∀ H2, exR.r H1 H2 → SqL K H2 a (ns.map V.int) := fun H2 e2 => ext_sqL (e1.trans e2).ext hq
  have own1 : Own (exR.and p) H1 := own_ex.and (ρ := exR) (H := H) e1 (by rw [hp1]; exact Option.some_ne_none _)
  have hcut : (cutV (ns.map V.int) none (some 63)).length ≤ 63 := Nat.le_trans (cutV_length _ _ _) (by rw [List.length_map]; exact hl)
  have chg : ∀ {H2 H3 : Hp} {ms : List Int} {n : Int}, (exR.and p).r H2 H3 → H3 p = some (.lst (ms.map V.int)) → (exR.and p).r H2 (upd H3 p (.lst (ms.map V.int ++ [V.int n]))) := fun e h => e.trans (r_chg (ρ := exR) h fun z => z)
  refine q_forw (ρ := exR) (ρw := exR.and p) (ew_new own1 (ev_slL2 own_ex (ev_var rfl) eo_none (eo_some ev_c) sq1)) fun H2 e2 => ⟨fun i σ' H' => (exR.and p).r H2 H' ∧ (∃ c l k m, σ' = [some (.ref a), some (.ref p), c, l, k, m]) ∧ ∃ ms : List Int, ms.length ≤ 60 * i ∧ H' p = some (.lst (ms.map V.int)), ⟨.rfl, ⟨_, _, _, _, rfl⟩, [], Nat.zero_le _, e2.ext _ _ hp1⟩, fun i σ' H' _ h => h.1, ?_, ?_⟩
  · rintro i x σ' H' H'' hi ⟨r, ⟨c, l, k, m, rfl⟩, ms, hms, hp'⟩ ⟨e5, hx⟩
    subst e5
    obtain ⟨n, rfl⟩ := cut_int hx
    refine s_if (ρ := exR) (et_test (ev_ge (ev_var rfl) (ev_pow ev_c ev_c ⟨by decide, by decide, by decide⟩))) (fun hb H3 e3 => ?_) (fun hb H3 e3 => ?_)
    · refine q_asgV (ρ := exR) (ev_var rfl) fun H4 e4 => ?_
      have r4 : (exR.and p).r H2 H4 := r.trans (and_of (e3.trans e4))
      have hp4 : H4 p = some (.lst (ms.map V.int)) := (e3.trans e4).ext _ _ hp'
      refine s_forw (ρ := exR) (ρw := exR.and p) (ew_rng (i := 60) (ea_cons ev_c ea_nil) (by omega) (by omega)) fun H5 e5 => ⟨fun j σ' H' => (exR.and p).r H5 H' ∧ (∃ c l k m, σ' = [some (.ref a), some (.ref p), c, some (.int l), k, m]) ∧ ∃ ms : List Int, ms.length ≤ 60 * i + j ∧ H' p = some (.lst (ms.map V.int)), ⟨.rfl, ⟨_, _, _, _, rfl⟩, ms, hms, e5.ext _ _ hp4⟩, fun i σ' H' _ h => h.1, ?_, ?_⟩
      · rintro j x σ' H' H'' hj ⟨r5, ⟨c, l, k, m, rfl⟩, ms, hms, hp'⟩ ⟨e6, rfl⟩
        subst e6
        have hj' : j < 60 := hj
        have r25 : (exR.and p).r H2 H'' := r4.trans ((and_of e5).trans r5)
        refine q_when (ρ := exR) (et_test (ev_eqI (ev_var rfl) ev_c)) (fun hb H6 e6 => ?_) (fun hb H6 e6 => ?_)
        · exact ⟨r25.trans (and_of e6), ⟨_, _, _, _, rfl⟩, ms, by omega, e6.ext _ _ hp'⟩
        · refine q_app (ρ := exR) (e6.ext _ _ hp') (fun z => z) (ev_var rfl) (ev_mod (ev_int (ev_var rfl)) ev_c (by decide)) (by rw [List.length_map]; omega) fun y H7 e7 ey hp7 => ?_
          subst ey
          have r7 := chg (n := l % 997) (r5.trans (and_of (e6.trans e7))) hp7
          refine s_asgV (ρ := exR) (ev_fdiv (ev_var rfl) ev_c ⟨by decide, by decide⟩) fun H8 e8 => ?_
          refine ⟨r7.trans (and_of e8), ⟨_, _, _, _, rfl⟩, ms ++ [l % 997], by rw [List.length_append, List.length_singleton]; omega, e8.ext _ _ ?_⟩
          rw [← map_snoc]
          exact upd_same
      · rintro σ' H' ⟨r5, ⟨c, l, k, m, rfl⟩, ms, hms, hp'⟩
        exact ⟨r4.trans ((and_of e5).trans r5), ⟨_, _, _, _, rfl⟩, ms, by have : ms.length ≤ 60 * i + 60 := hms; omega, hp'⟩
    · have r4 : (exR.and p).r H2 H3 := r.trans (and_of e3)
      have hp4 : H3 p = some (.lst (ms.map V.int)) := e3.ext _ _ hp'
      refine s_forw (ρ := exR) (ρw := exR.and p) (ew_rng (i := 4) (ea_cons ev_c ea_nil) (by omega) (by omega)) fun H5 e5 => ⟨fun j σ' H' => (exR.and p).r H5 H' ∧ (∃ l k m, σ' = [some (.ref a), some (.ref p), some (.int n), l, k, m]) ∧ ∃ ms : List Int, ms.length ≤ 60 * i + j ∧ H' p = some (.lst (ms.map V.int)), ⟨.rfl, ⟨_, _, _, rfl⟩, ms, hms, e5.ext _ _ hp4⟩, fun i σ' H' _ h => h.1, ?_, ?_⟩
      · rintro j x σ' H' H'' hj ⟨r5, ⟨l, k, m, rfl⟩, ms, hms, hp'⟩ ⟨e6, rfl⟩
        subst e6
        have hj' : j < 4 := hj
        refine q_asgV (ρ := exR) (ev_mod (ev_int (ev_add (ev_add (ev_mul (ev_var rfl) ev_c (.inr (by decide))) (ev_mul (ev_var rfl) ev_c (.inr (by decide)))) ev_c)) ev_c (by decide)) fun H6 e6 => ?_
        refine s_app (ρ := exR) (e6.ext _ _ hp') (fun z => z) (ev_var rfl) (ev_mod (ev_int (ev_add (ev_mul (ev_var rfl) ev_c (.inr (by decide))) (ev_var rfl))) ev_c (by decide)) (by rw [List.length_map]; omega) fun y H7 e7 ey hp7 => ?_
        subst ey
        refine ⟨chg (r5.trans (and_of (e6.trans e7))) hp7, ⟨_, _, _, rfl⟩, ms ++ [((n * 48271 + (j : Int) * 69621 + 11) % 2147483647 * 16807 + (j : Int)) % 2147483629], ?_, ?_⟩
        · rw [List.length_append, List.length_singleton]; omega
        · rw [← map_snoc]
          exact upd_same
      · rintro σ' H' ⟨r5, ⟨l, k, m, rfl⟩, ms, hms, hp'⟩
        exact ⟨r4.trans ((and_of e5).trans r5), ⟨_, _, _, _, rfl⟩, ms, by have : ms.length ≤ 60 * i + 4 := hms; omega, hp'⟩
  · rintro σ' H' ⟨r, ⟨c, l, k, m, rfl⟩, ms, hms, hp'⟩
    have rH : exR.r H H' := (e1.trans e2).trans .rfl |> fun e => r_and e hp0 r
    refine q_when (ρ := exR) (et_test (ev_eqI (ev_len (ev_var rfl) (fun H3 e3 => .inl (.of (e3.ext _ _ hp')))) ev_c)) (fun hb H3 e3 => ?_) (fun hb H3 e3 => ?_)
    · refine s_app (ρ := exR) (e3.ext _ _ hp') (fun z => z) (ev_var rfl) ev_c (by rw [List.length_map]; omega) fun y H4 e4 ey hp4 => ?_
      subst ey
      refine s_retV (ρ := exR) (ev_var rfl) fun H5 e5 => ?_
      refine q p (ms ++ [0]) H5 hp0 ((r_mut (rH.trans (e3.trans e4)) hp0).trans e5).ext (e5.ext _ _ ?_) (by simp)
      rw [← map_snoc]
      exact upd_same
    · refine s_retV (ρ := exR) (ev_var rfl) fun H5 e5 => q p ms H5 hp0 (rH.trans (e3.trans e5)).ext ((e3.trans e5).ext _ _ hp') ?_
      intro z
      have := of_decide_eq_false hb
      rw [z] at this
      exact this rfl
end Slip
/-! data handed as lists, as tuples, as both; drawn texts -/
namespace Slip
open PySem PySem.Spec PyProof.Rows L2
/-- a list of data, each known by its place (P); the facts stand under ρf, which lets more change than the elements do -/
theorem ev_lcF {ρ ρf : Rl} {σ : L2.St} {H : Hp} {te : TE} {wi : TI} {vs : List Nat} {n : Nat} {Y : Nat → Hp → V → Hp → Prop} {j : Nat} {P : Nat → PyData → Prop} (own : Own ρ H) (hn : n ≤ 90000) (hI : EvI ρ wi σ H n Y) (hw : ∀ x, wipe ((wipe σ vs).set j (some x)) vs = wipe σ vs)
    (hY : ∀ i H2 x H3, Y i H2 x H3 → H3 = H2)
    (he : ∀ D H1, ρ.r H H1 → H1 D = none → ∀ i x H2 H3, i < n → ρ.r H1 H2 → H2 D ≠ none → Y i H2 x H3 → Ev ρ te ((wipe σ vs).set j (some x)) H2 (fun y H4 => ∃ d, P i d ∧ DS (ρf.and D) H4 y d))
    (le : Le ρ ρf) :
    Ev ρ (tLc wi (gName j) tYes te vs) σ H (fun u H2 => ∃ p xs ds, u = .ref p ∧ ¬ ρ.S p ∧ H p = none ∧ H2 p = some (.lst xs) ∧ DSs ρf H2 xs ds ∧ ds.length = n ∧ ∀ (i : Nat) d, ds[i]? = some d → P i d) := by
  refine (ev_lc (R := fun ρ' i x H' => ∃ d, P i d ∧ Dq (fun a => ¬ ρf.S a ∧ ¬ ρ'.S a) H' x d) (C := fun _ b => b = true) own hn hI (fun ρ' _ _ H1 H2 r ⟨d, hp, h⟩ => ⟨d, hp, h.move (fun a _ n q => ⟨n, r.keep a _ n.2 q⟩) r.tup⟩) (fun D _ _ _ ⟨d, hp, h⟩ => ⟨d, hp, h.move (fun a _ n q => ⟨⟨n.1, fun z => n.2 (.inl z)⟩, q⟩) fun _ _ q => q⟩) ?_).imp ?_
  · intro D H1 r1 hD i x H2 H3 hi r2 oD y cont hc
    have e3 := hY i H2 x H3 y
    refine hc _ H3 (hw x) (by rw [e3]; exact .rfl) fun H5 r5 Q q => q true H5 .rfl rfl fun _ => ?_
    refine ((he D H1 r1 hD i x H2 H3 hi r2 (oD D (.inr rfl)) y).mono (by rw [← e3]; exact r5)).imp fun v H6 _ ⟨d, hp, h⟩ => ⟨d, hp, h.move (fun a _ n q => ⟨⟨fun z => n (.inl z), fun z => z.elim (fun z => n (.inl (le a z))) fun z => n (.inr z)⟩, q⟩) fun _ _ q => q⟩
  · rintro u H2 r ⟨p, xs, f, e, nS, hp, hx, hC, hit⟩
    rw [kept_all hC] at hit
    have hlen : xs.length = n := by rw [hit.1, List.length_range]
    -- the data, chosen place by place
    have ch : ∀ m, ∃ d, ∀ x, xs[m]? = some x → P m d ∧ DS ρf H2 x d := fun m => by
      cases a : xs[m]? with
      | none => exact ⟨.none, fun x z => by cases z⟩
      | some x =>
        have hm : m < n := by rw [← hlen]; exact (List.getElem?_eq_some_iff.mp a).1
        obtain ⟨d, hp, h⟩ := hit.2 m x m a (List.getElem?_range hm)
        exact ⟨d, fun y z => by cases z; exact ⟨hp, h.move (fun a _ n q => ⟨n.1, q⟩) fun _ _ q => q⟩⟩
    refine ⟨p, xs, (List.range n).map fun m => (ch m).choose, e, nS, hp, hx, .of (by rw [hlen, List.length_map, List.length_range]) fun m x d a b => ?_, by rw [List.length_map, List.length_range], fun i d b => ?_⟩
    · have hm : m < n := by rw [← hlen]; exact (List.getElem?_eq_some_iff.mp a).1
      rw [List.getElem?_map, List.getElem?_range hm] at b
      cases b
      exact ((ch m).choose_spec x a).2
    · have hi : i < n := by
        have := (List.getElem?_eq_some_iff.mp b).1
        rwa [List.length_map, List.length_range] at this
      rw [List.getElem?_map, List.getElem?_range hi] at b
      cases b
      have hx' : xs[i]? = some (xs[i]'(by omega)) := List.getElem?_eq_getElem (by omega)
      exact ((ch i).choose_spec _ hx').1
/- tuples as lists; all as tuples -/
mutual
def listD : PyData → PyData
  | .tuple ds => .list (listAll ds)
  | .none => .none
  | .bool b => .bool b
  | .int i => .int i
  | .str s => .str s
  | .list ds => .list ds
  | .dict k => .dict k
def listAll : List PyData → List PyData
  | [] => []
  | d :: ds => listD d :: listAll ds
end
mutual
def tupD : PyData → PyData
  | .tuple ds => .tuple (tupAll ds)
  | .list ds => .tuple (tupAll ds)
  | .none => .none
  | .bool b => .bool b
  | .int i => .int i
  | .str s => .str s
  | .dict k => .dict k
def tupAll : List PyData → List PyData
  | [] => []
  | d :: ds => tupD d :: tupAll ds
end
theorem listAll_map : ∀ ds : List PyData, listAll ds = ds.map listD
  | [] => rfl
  | d :: ds => by show listD d :: listAll ds = listD d :: ds.map listD; rw [listAll_map ds]
theorem tupAll_map : ∀ ds : List PyData, tupAll ds = ds.map tupD
  | [] => rfl
  | d :: ds => by show tupD d :: tupAll ds = tupD d :: ds.map tupD; rw [tupAll_map ds]
mutual
theorem noList_tup : ∀ d : PyData, noList (tupD d) = true
  | .tuple ds => noLists_tup ds
  | .list ds => noLists_tup ds
  | .none => rfl
  | .bool b => rfl
  | .int i => rfl
  | .str s => rfl
  | .dict k => rfl
theorem noLists_tup : ∀ ds : List PyData, noLists (tupAll ds) = true
  | [] => rfl
  | d :: ds => by
    show (noList (tupD d) && noLists (tupAll ds)) = true
    rw [noList_tup d, noLists_tup ds]
    rfl
end
mutual
theorem tup_self : ∀ d : PyData, noList d = true → tupD d = d
  | .tuple ds, h => congrArg PyData.tuple (tups_self ds (by simpa [noList] using h))
  | .list ds, h => by cases h
  | .none, _ => rfl
  | .bool b, _ => rfl
  | .int i, _ => rfl
  | .str s, _ => rfl
  | .dict k, _ => rfl
theorem tups_self : ∀ ds : List PyData, noLists ds = true → tupAll ds = ds
  | [], _ => rfl
  | d :: ds, h => by
    have h' : noList d = true ∧ noLists ds = true := by simpa [noLists] using h
    show tupD d :: tupAll ds = d :: ds
    rw [tup_self d h'.1, tups_self ds h'.2]
end
mutual
theorem tup_list : ∀ d : PyData, noList d = true → tupD (listD d) = d
  | .tuple ds, h => congrArg PyData.tuple (tups_list ds (by simpa [noList] using h))
  | .list ds, h => by cases h
  | .none, _ => rfl
  | .bool b, _ => rfl
  | .int i, _ => rfl
  | .str s, _ => rfl
  | .dict k, _ => rfl
theorem tups_list : ∀ ds : List PyData, noLists ds = true → tupAll (listAll ds) = ds
  | [], _ => rfl
  | d :: ds, h => by
    have h' : noList d = true ∧ noLists ds = true := by simpa [noLists] using h
    show tupD (listD d) :: tupAll (listAll ds) = d :: ds
    rw [tup_list d h'.1, tups_list ds h'.2]
end
mutual
theorem sm_tup : ∀ d : PyData, sm (tupD d) = sm d
  | .tuple ds => by
    have := sms_tup ds
    show (decide ((tupAll ds).length ≤ 1000) && smAll (tupAll ds)) = (decide (ds.length ≤ 1000) && smAll ds)
    rw [this, tupAll_map, List.length_map]
  | .list ds => by
    have := sms_tup ds
    show (decide ((tupAll ds).length ≤ 1000) && smAll (tupAll ds)) = (decide (ds.length ≤ 1000) && smAll ds)
    rw [this, tupAll_map, List.length_map]
  | .none => rfl
  | .bool b => rfl
  | .int i => rfl
  | .str s => rfl
  | .dict k => rfl
theorem sms_tup : ∀ ds : List PyData, smAll (tupAll ds) = smAll ds
  | [] => rfl
  | d :: ds => by
    show (sm (tupD d) && smAll (tupAll ds)) = (sm d && smAll ds)
    rw [sm_tup d, sms_tup ds]
end
mutual
theorem dep_tup : ∀ d : PyData, (tupD d).depth = d.depth
  | .tuple ds => congrArg Nat.succ (deps_tup ds)
  | .list ds => congrArg Nat.succ (deps_tup ds)
  | .none => rfl
  | .bool b => rfl
  | .int i => rfl
  | .str s => rfl
  | .dict k => rfl
theorem deps_tup : ∀ ds : List PyData, PyData.depthAll (tupAll ds) = PyData.depthAll ds
  | [] => rfl
  | d :: ds => by
    show max (tupD d).depth (PyData.depthAll (tupAll ds)) = max d.depth (PyData.depthAll ds)
    rw [dep_tup d, deps_tup ds]
end
theorem of_places {α β : Type} {ds : List α} {es : List β} {f : α → β} (hl : es.length = ds.length) (h : ∀ (i : Nat) e, es[i]? = some e → ∃ d, ds[i]? = some d ∧ e = f d) : es = ds.map f := by
  refine List.ext_getElem? fun i => ?_
  rw [List.getElem?_map]
  cases a : es[i]? with
  | none => rw [List.getElem?_eq_none_iff.mpr (by rw [← hl]; exact List.getElem?_eq_none_iff.mp a)] <;> rfl
  | some e =>
    obtain ⟨d, h1, h2⟩ := h i e a
    rw [h1, h2] <;> rfl
def sp__law_listed (K : Frag) (n : Nat) : Sp := fun vs H Q _ => ∃ (ρ : Rl) (v : V) (d : PyData), vs = [v] ∧ Own ρ H ∧ DS ρ H v d ∧ sm d = true ∧ d.depth < n ∧ ∀ v' H', Ext H H' → DS ρ H' v' (listD d) → Q v' H'
def sp__law_tupled (K : Frag) (n : Nat) : Sp := fun vs H Q _ => ∃ (v : V) (d : PyData), vs = [v] ∧ DS exR H v d ∧ sm d = true ∧ d.depth < n ∧ ∀ v' H', Ext H H' → (∀ ρ, DS ρ H' v' (tupD d)) → Q v' H'
theorem len__law_listed {K : Frag} {n : Nat} {vs : List V} {H : Hp} {Q : VK} {E : XK} (h : sp__law_listed K n vs H Q E) : vs.length = 1 := by
  obtain ⟨ρ, v, d, rfl, _⟩ := h
  rfl
theorem len__law_tupled {K : Frag} {n : Nat} {vs : List V} {H : Hp} {Q : VK} {E : XK} (h : sp__law_tupled K n vs H Q E) : vs.length = 1 := by
  obtain ⟨v, d, rfl, _⟩ := h
  rfl
theorem isi_tup {d : PyData} (h : isiB d "tuple" = true) : ∃ ds, d = .tuple ds := by
  cases d with
  | tuple a => exact ⟨a, rfl⟩
  | none => exact absurd h (by show ¬ false = true; decide)
  | bool b => exact absurd h (by show ¬ false = true; decide)
  | int b => exact absurd h (by show ¬ false = true; decide)
  | str b => exact absurd h (by show ¬ false = true; decide)
  | list b => exact absurd h (by show ¬ false = true; decide)
  | dict b => exact absurd h (by show ¬ false = true; decide)
theorem depth_seq {ds : List PyData} {n : Nat} (h : (PyData.tuple ds).depth < n + 1 ∨ (PyData.list ds).depth < n + 1) {d : PyData} (hm : d ∈ ds) : d.depth < n := by
  have h1 : PyData.depthAll ds + 1 < n + 1 := h.elim (fun h => h) fun h => h
  have := depth_mem hm
  omega
theorem DS.tupl {ρ : Rl} {H : Hp} {v : V} {ds : List PyData} (h : DS ρ H v (.tuple ds)) : ∃ a xs, v = .ref a ∧ DSs ρ H xs ds ∧ H a = some (.tup xs) ∧ ∀ (K : Frag) (ρ' : Rl) (H' : Hp), ρ'.r H H' → SqT K H' a xs := by
  cases h with | tup hs ha => exact ⟨_, _, rfl, ha, hs, fun K ρ' H' e => .inl (.inl (e.tup _ _ hs))⟩
def t__law_listed (K : Frag) (n : Nat) : TS := (tSeq (tIfS (tB (tCB (rIsiU K) (tCons (tVar 0) (tCons (tC (.ty "tuple")) tNil)))) (tRet (tLc (iSeq K (tVar 0)) (gName 1) tYes (tCall (sp__law_listed K n) [] E0 (tCons (tVar 1) tNil)) [1])) tNext) (tRet (tVar 0)))
def t__law_tupled (K : Frag) (n : Nat) : TS := (tSeq (tIfS (tOr (tB (tCB (rIsiU K) (tCons (tVar 0) (tCons (tC (.ty "list")) tNil)))) (tB (tCB (rIsiU K) (tCons (tVar 0) (tCons (tC (.ty "tuple")) tNil))))) (tRet (tCB (rTupOf K) (tCons (tLc (iSeq K (tVar 0)) (gName 1) tYes (tCall (sp__law_tupled K n) [] E0 (tCons (tVar 1) tNil)) [1]) tNil))) tNext) (tRet (tVar 0)))
theorem pure__law_listed {K : Frag} {n : Nat} (vs : List V) (H : Hp) (Q : VK) (E : XK) (h : sp__law_listed K (n + 1) vs H Q E) : t__law_listed K n { nx := fun _ H' => Q .non H', rt := Q } (start ["value", "one"] vs) H := by
  obtain ⟨ρ, v, d, rfl, own, hd, hs, dp, k⟩ := h
  have le : Le exR ρ := fun a z => z.elim
  refine q_when (ρ := exR) (et_B (ev_isi (ev_var rfl) hd.ex rfl)) (fun hb H1 e => ?_) (fun hb H1 e => s_retV (ρ := exR) (ev_var rfl) fun H2 e2 => ?_)
  · obtain ⟨ds, rfl⟩ := isi_tup hb
    have hd1 := le.ds e hd
    obtain ⟨a, xs, rfl, ha', _, hsq⟩ := hd1.tupl
    have hz := sm_seq (.inr hs)
    have hlen : xs.length = ds.length := ha'.length
    refine s_ret (ρ := exR) (ev_lcF (ρf := ρ) (P := fun i e => ∃ d, ds[i]? = some d ∧ e = listD d) own_ex (by omega) (ei_seq (ev_var rfl) (fun H2 e2 => .inr (hsq K exR H2 e2)) (.inr (hsq K exR))) (fun x => rfl) (fun i H2 x H3 y => y.1) ?_ le) fun v H2 e2 ⟨p, xs', es, ev, _, hp, hx, hds, hl, hP⟩ => ?_
    · rintro D H2 e2 hD i x H3 H4 hi e3 oD ⟨_, hx⟩
      obtain ⟨d1, g1, g2⟩ := ha'.get hx
      have hm := List.mem_of_getElem? g1
      have own3 : Own (ρ.and D) H3 := fun b s => s.elim (fun s => (own.r (e.trans (e2.trans e3))) b s) fun z => z ▸ oD
      have leD : Le exR (ρ.and D) := fun b z => .inl (le b z)
      have g3 : DS (ρ.and D) H3 x d1 := leD.ds e3 (DS.and hD (le.ds e2 g2))
      refine ev_call (ea_cons (ev_var rfl) ea_nil) fun H5 e5 Q' q' E' => ⟨ρ.and D, x, d1, rfl, own3.r e5, ?_, smAll_mem hz.2 hm, depth_seq (.inl dp) hm, fun v' H6 e6 h6 => q' _ H6 (Ext.r e6) ⟨listD d1, ⟨d1, g1, rfl⟩, h6⟩⟩
      exact leD.ds e5 g3
    · subst ev
      have : es = ds.map listD := of_places (by omega) hP
      refine k _ H2 (e.trans e2).ext (.lst ((own.r e).fresh hp) hx ?_)
      rw [listAll_map, ← this]
      exact hds
  · have : listD d = d := by
      cases d with
      | tuple ds => exact absurd hb (by show ¬ true = false; decide)
      | _ => rfl
    rw [this] at k
    exact k _ H2 (e.trans e2).ext (le.ds (e.trans e2) hd)
theorem seq_of {d : PyData} (h : (isiB d "list" || isiB d "tuple") = true) : isSeqD d = true ∧ tupD d = .tuple (tupAll (itemsD d)) := by
  cases d with
  | tuple a => exact ⟨rfl, rfl⟩
  | list b => exact ⟨rfl, rfl⟩
  | none => exact absurd h (by show ¬ (false || false) = true; decide)
  | bool b => exact absurd h (by show ¬ (false || false) = true; decide)
  | int b => exact absurd h (by show ¬ (false || false) = true; decide)
  | str b => exact absurd h (by show ¬ (false || false) = true; decide)
  | dict b => exact absurd h (by show ¬ (false || false) = true; decide)
/-- tuple(new list) -/
theorem ev_tupOf {ρ ρf : Rl} {K : Frag} {σ : L2.St} {H : Hp} {te : TE} {C : List PyData → Prop} (le : Le ρ ρf) (h : Ev ρ te σ H (fun u H2 => ∃ p xs ds, u = .ref p ∧ ¬ ρ.S p ∧ H2 p = some (.lst xs) ∧ DSs ρf H2 xs ds ∧ C ds)) : Ev ρ (tCB (rTupOf K) (tCons te tNil)) σ H (fun u H2 => ∃ ds, C ds ∧ DS ρf H2 u (.tuple ds)) :=
  ev_cb (ea_one h) fun vs H1 e1 ⟨u, eu, p, xs, ds, ep, nS, hp, hd, hC⟩ => by
    subst eu ep
    exact fun H2 e2 Q q => ⟨p, xs, rfl, .inl ⟨.of (e2.keep _ _ nS hp), fun l hl => q _ _ (r_new _ hl) ⟨ds, hC, .tup upd_same (le.dss (r_new (ρ := ρ) _ hl) (le.dss e2 hd))⟩⟩⟩
theorem pure__law_tupled {K : Frag} {n : Nat} (vs : List V) (H : Hp) (Q : VK) (E : XK) (h : sp__law_tupled K (n + 1) vs H Q E) : t__law_tupled K n { nx := fun _ H' => Q .non H', rt := Q } (start ["value", "one"] vs) H := by
  obtain ⟨v, d, rfl, hd, hs, dp, k⟩ := h
  refine q_when (ρ := exR) (et_or (et_B (ev_isi (ev_var rfl) hd rfl)) fun _ => et_B (ev_isi (ev_var rfl) hd rfl)) (fun hb H1 e => ?_) (fun hb H1 e => s_retV (ρ := exR) (ev_var rfl) fun H2 e2 => ?_)
  · obtain ⟨hq, ht⟩ := seq_of hb
    have hd1 := e.ds hd
    obtain ⟨a, xs, rfl, ha, hsq, hsq2⟩ := hd1.seqd hq
    have hz : (itemsD d).length ≤ 1000 ∧ smAll (itemsD d) = true := by
      cases d with
      | list ds => exact sm_seq (.inl hs)
      | tuple ds => exact sm_seq (.inr hs)
      | _ => cases hq
    have hdp : ∀ x, x ∈ itemsD d → x.depth < n := fun x hx => by
      cases d with
      | list ds => exact depth_seq (.inr dp) hx
      | tuple ds => exact depth_seq (.inl dp) hx
      | _ => cases hq
    have hlen : xs.length = (itemsD d).length := ha.length
    refine s_ret (ρ := exR) (ev_tupOf (ρf := exR) (C := fun es => es = (itemsD d).map tupD) Le.rfl ((ev_lcF (ρf := exR) (P := fun i e => ∃ d', (itemsD d)[i]? = some d' ∧ e = tupD d') own_ex (by omega) (ei_seq (ev_var rfl) (hsq K) (hsq2.imp (fun f => f K) fun f => f K)) (fun x => rfl) (fun i H2 x H3 y => y.1) ?_ Le.rfl).imp fun u H2 e2 ⟨p, xs', es, eu, nS, _, hx, hds, hl, hP⟩ => ⟨p, xs', es, eu, nS, hx, hds, of_places (by omega) hP⟩)) fun v H2 e2 ⟨es, he, hv⟩ => ?_
    · rintro D H2 e2 hD i x H3 H4 hi e3 oD ⟨_, hx⟩
      obtain ⟨d1, g1, g2⟩ := ha.get hx
      have hm := List.mem_of_getElem? g1
      exact ev_call (ea_cons (ev_var rfl) ea_nil) fun H5 e5 Q' q' E' => ⟨x, d1, rfl, (e2.trans (e3.trans e5)).ds g2, smAll_mem hz.2 hm, hdp _ hm, fun v' H6 e6 h6 => q' _ H6 (Ext.r e6) ⟨tupD d1, ⟨d1, g1, rfl⟩, h6 _⟩⟩
    · subst he
      rw [ht, tupAll_map] at k
      refine k v H2 (e.trans e2).ext fun ρ => ?_
      exact hv.tups (fun _ _ q => q) _ _ (by rw [← tupAll_map]; exact noLists_tup _)
  · have hnl : tupD d = d ∧ noList d = true := by
      cases d with
      | tuple ds => exact absurd hb (by show ¬ (false || true) = false; decide)
      | list ds => exact absurd hb (by show ¬ (true || false) = false; decide)
      | _ => exact ⟨rfl, rfl⟩
    rw [hnl.1] at k
    exact k v H2 (e.trans e2).ext fun ρ => ((e.trans e2).ds hd).tups (fun _ _ q => q) _ _ hnl.2
/-! ### levels, handed -/
/-- some levels are lists, the rest tuples -/
abbrev Mixed (d d' : PyData) : Prop := tupD d' = d
def sp__law_levels (K : Frag) (n : Nat) : Sp := fun vs H Q _ => ∃ (ρ : Rl) (ra sp : Addr) (v : V) (d : PyData), vs = [.ref ra, .ref sp, v] ∧ ρ.S sp ∧ Own ρ H ∧ Dr K ra sp H ∧ DS ρ H v d ∧ noList d = true ∧ sm d = true ∧ d.depth < n ∧ ∀ v' d' H', (spR sp).r H H' → DS ρ H' v' d' → Mixed d d' → Q v' H'
def sp__law_handed (K : Frag) : Sp := fun vs H Q _ => ∃ (ρ : Rl) (ra sp : Addr) (v : V) (d : PyData), vs = [.ref ra, .ref sp, v] ∧ ρ.S sp ∧ Own ρ H ∧ Dr K ra sp H ∧ DS ρ H v d ∧ noList d = true ∧ sm d = true ∧ d.depth < 8 ∧ ∀ v' d' H', (spR sp).r H H' → DS ρ H' v' d' → Mixed d d' → Q v' H'
theorem len__law_levels {K : Frag} {n : Nat} {vs : List V} {H : Hp} {Q : VK} {E : XK} (h : sp__law_levels K n vs H Q E) : vs.length = 3 := by
  obtain ⟨ρ, ra, sp, v, d, rfl, _⟩ := h
  rfl
theorem len__law_handed {K : Frag} {vs : List V} {H : Hp} {Q : VK} {E : XK} (h : sp__law_handed K vs H Q E) : vs.length = 3 := by
  obtain ⟨ρ, ra, sp, v, d, rfl, _⟩ := h
  rfl
theorem own_sp {K : Frag} {ra sp : Addr} {H : Hp} (d : Dr K ra sp H) : Own (spR sp) H := fun a e => by
  obtain ⟨k, _, h⟩ := d.2.1
  rw [show a = sp from e, h]
  exact Option.some_ne_none _
def t__law_levels (K : Frag) (n : Nat) : TS := (tSeq (tIfS (tNot (tB (tCB (rIsiU K) (tCons (tVar 2) (tCons (tC (.ty "tuple")) tNil))))) (tRet (tVar 2)) tNext) (tSeq (tAsg (tLc (iSeq K (tVar 2)) (gName 4) tYes (tCall (sp__law_levels K n) [] E0 (tCons (tVar 0) (tCons (tVar 1) (tCons (tVar 4) tNil)))) [4]) (gName 3)) (tRet (tIf (tTest (tOp (rEqU K) (tCall (sp__law_take K) [] E0 (tCons (tVar 0) (tCons (tVar 1) (tCons (tC (.int 2)) tNil)))) (tC (.int 0)))) (tVar 3) (tCB (rTupOf K) (tCons (tVar 3) tNil))))))
def t__law_handed (K : Frag) : TS := (tSeq (tAsg (tCall (sp__law_take K) [] E0 (tCons (tVar 0) (tCons (tVar 1) (tCons (tC (.int 4)) tNil)))) (gName 3)) (tSeq (tIfS (tTest (tOp (rEqU K) (tVar 3) (tC (.int 0)))) (tRet (tCall (sp__law_listed K 8) [] E0 (tCons (tVar 2) tNil))) tNext) (tRet (tIf (tTest (tOp (rEqU K) (tVar 3) (tC (.int 1)))) (tCall (sp__law_levels K 9) [] E0 (tCons (tVar 0) (tCons (tVar 1) (tCons (tVar 2) tNil)))) (tVar 2)))))
theorem pure__law_levels {K : Frag} {n : Nat} (vs : List V) (H : Hp) (Q : VK) (E : XK) (h : sp__law_levels K (n + 1) vs H Q E) : t__law_levels K n { nx := fun _ H' => Q .non H', rt := Q } (start ["row", "spot", "value", "made", "one"] vs) H := by
  obtain ⟨ρ, ra, sp, v, d, rfl, hsp, own, dr, hd, hnl, hs, dp, k⟩ := h
  have le : Le (spR sp) ρ := fun a z => z ▸ hsp
  refine q_when (ρ := exR) (et_not (et_B (ev_isi (ev_var rfl) hd.ex rfl))) (fun hb H1 e => s_retV (ρ := exR) (ev_var rfl) fun H2 e2 => ?_) (fun hb H1 e => ?_)
  · exact k v d H2 (Ext.r (e.trans e2).ext) ((Ext.r (ρ := ρ) (e.trans e2).ext).ds hd) (tup_self d hnl)
  · obtain ⟨ds, rfl⟩ := isi_tup (notb' hb)
    have hd1 : DS ρ H1 v (.tuple ds) := (Ext.r (ρ := ρ) e.ext).ds hd
    have e1 : (spR sp).r H H1 := Ext.r e.ext
    have dr1 := dr.sp e1
    have own1 := own.r e
    obtain ⟨a, xs, rfl, ha, _, hsq⟩ := hd1.tupl
    have hz := sm_seq (.inr hs)
    have hn : noLists ds = true := by simpa [noList] using hnl
    have hlen : xs.length = ds.length := ha.length
    have hmem : ∀ {ds : List PyData} {d : PyData}, noLists ds = true → d ∈ ds → noList d = true := by
      intro ds
      induction ds with
      | nil => intro d _ h; cases h
      | cons e r ih =>
        intro d h hm
        have h' : noList e = true ∧ noLists r = true := by simpa [noLists] using h
        rcases List.mem_cons.mp hm with rfl | hm
        · exact h'.1
        · exact ih h'.2 hm
    refine q_asg (ρ := spR sp) (ev_lcF (ρf := ρ) (P := fun i e => ∃ d, ds[i]? = some d ∧ d = tupD e) (own_sp dr1) (by omega) (ei_seq (ev_var rfl) (fun H2 e2 => .inr (hsq K (spR sp) H2 e2)) (.inr (hsq K (spR sp)))) (fun x => rfl) (fun i H2 x H3 y => y.1) ?_ le) fun v H2 e2 ⟨p, xs', es, ev, nS, hp, hx, hds, hl, hP⟩ => ?_
    · rintro D H2 e2 hD i x H3 H4 hi e3 oD ⟨_, hx⟩
      obtain ⟨d1, g1, g2⟩ := ha.get hx
      have hm := List.mem_of_getElem? g1
      have own3 : Own (ρ.and D) H3 := fun b s => s.elim (fun s => (own1.r (e2.trans e3)) b s) fun z => z ▸ oD
      have leD : Le (spR sp) (ρ.and D) := fun b z => .inl (le b z)
      have g3 : DS (ρ.and D) H3 x d1 := leD.ds e3 (DS.and hD (le.ds e2 g2))
      refine ev_call (ea_cons (ev_var rfl) (ea_cons (ev_var rfl) (ea_cons (ev_var rfl) ea_nil))) fun H5 e5 Q' q' E' => ⟨ρ.and D, ra, sp, x, d1, rfl, .inl hsp, own3.r e5, dr1.sp (e2.trans (e3.trans e5)), leD.ds e5 g3, hmem hn hm, smAll_mem hz.2 hm, depth_seq (.inl dp) hm, fun v' d' H6 e6 h6 hm6 => q' _ H6 e6 ⟨d', ⟨d1, g1, hm6.symm⟩, h6⟩⟩
    · subst ev
      have hes : ds = es.map tupD := of_places (by omega) fun i d hi => by
        have hi' : i < es.length := by have := (List.getElem?_eq_some_iff.mp hi).1; omega
        obtain ⟨d', h1, h2⟩ := hP i es[i] (List.getElem?_eq_getElem hi')
        rw [hi] at h1
        cases h1
        exact ⟨es[i], List.getElem?_eq_getElem hi', h2⟩
      have dr2 := dr1.sp e2
      have nSf : ¬ ρ.S p := own1.fresh hp
      have kk : ∀ H3, (spR sp).r H2 H3 → Ev (spR sp) (tIf (tTest (tOp (rEqU K) (tCall (sp__law_take K) [] E0 (tCons (tVar 0) (tCons (tVar 1) (tCons (tC (.int 2)) tNil)))) (tC (.int 0)))) (tVar 3) (tCB (rTupOf K) (tCons (tVar 3) tNil))) [some (.ref ra), some (.ref sp), some (.ref a), some (.ref p), none] H2 (fun v H' => ∃ d', DS ρ H' v d' ∧ Mixed (.tuple ds) d') := by
        intro H3 e3 H4 e4 Q' q'
        refine ev_opP (Pa := Below 2) (Pb := fun v => v = .int 0) (R := fun v _ => ∃ b, v = .bl b) (ev_take (ev_var rfl) (ev_var rfl) ev_c dr2 (by decide)) ev_c (fun x y ⟨m, ex, _⟩ ey => ?_) H4 e4 _ fun v H5 e5 ⟨b, eb⟩ => ⟨b, eb, ?_⟩
        · subst ex ey
          exact fun H6 _ Q q => .inl ⟨rfl, q _ H6 .rfl ⟨_, rfl⟩⟩
        · cases b with
          | true =>
            exact ev_var (ρ := spR sp) (H := H5) rfl H5 .rfl _ fun v H6 e6 ev => by
              subst ev
              refine q' _ H6 (e5.trans e6) ⟨.list es, .lst nSf ((e4.trans (e5.trans e6)).keep _ _ nS hx) (le.dss (e4.trans (e5.trans e6)) hds), ?_⟩
              show PyData.tuple (tupAll es) = .tuple ds
              rw [tupAll_map, ← hes]
          | false =>
            refine ev_tupOf (ρ := spR sp) (ρf := ρ) (C := fun ds => ds = es) le ((ev_var (ρ := spR sp) (v := .ref p) rfl).imp fun u H6 e6 eu => ⟨p, xs', es, eu, nS, (e4.trans (e5.trans e6)).keep _ _ nS hx, le.dss (e4.trans (e5.trans e6)) hds, rfl⟩) H5 .rfl _ fun v H6 e6 ⟨es', hes', hv⟩ => ?_
            subst hes'
            refine q' _ H6 (e5.trans e6) ⟨.tuple es', hv, ?_⟩
            show PyData.tuple (tupAll es') = .tuple ds
            rw [tupAll_map, ← hes]
      exact s_ret (ρ := spR sp) (kk H2 .rfl) fun v H3 e3 ⟨d', h1, h2⟩ => k v d' H3 (e1.trans (e2.trans e3)) h1 h2
section
variable {ρ : Rl} {K : Frag} {σ : L2.St} {H : Hp} {ta tb tc : TE} {ra sp : Addr} {v : V} {d : PyData} {E : XK}
theorem ev_handed (h1 : EvV (spR sp) ta σ H (.ref ra)) (h2 : EvV (spR sp) tb σ H (.ref sp)) (h3 : EvV (spR sp) tc σ H v) (dr : Dr K ra sp H) (hd : DS (spR sp) H v d) (hn : noList d = true) (hs : sm d = true) (dp : d.depth < 8) :
    Ev (spR sp) (tCall (sp__law_handed K) [] E (tCons ta (tCons tb (tCons tc tNil)))) σ H (fun v' H' => ∃ d', DS (spR sp) H' v' d' ∧ Mixed d d') :=
  ev_call (ea_cons h1 (ea_cons h2 (ea_cons h3 ea_nil))) fun H1 e1 Q q E => ⟨spR sp, ra, sp, v, d, rfl, rfl, own_sp (dr.sp e1), dr.sp e1, e1.ds hd, hn, hs, dp, fun v' d' H' e h m => q v' H' e ⟨d', h, m⟩⟩
end
theorem pure__law_handed {K : Frag} (vs : List V) (H : Hp) (Q : VK) (E : XK) (h : sp__law_handed K vs H Q E) : t__law_handed K { nx := fun _ H' => Q .non H', rt := Q } (start ["row", "spot", "value", "kind"] vs) H := by
  obtain ⟨ρ, ra, sp, v, d, rfl, hsp, own, dr, hd, hnl, hs, dp, k⟩ := h
  have le : Le (spR sp) ρ := fun a z => z ▸ hsp
  refine q_asg (ρ := spR sp) (ev_take (ev_var rfl) (ev_var rfl) ev_c dr (by decide)) fun v1 H1 e1 ⟨m, ev, _, _⟩ => ?_
  subst ev
  have own1 := own.r e1
  have hd1 := le.ds e1 hd
  have dr1 := dr.sp e1
  refine q_when (ρ := spR sp) (et_test (ev_eqI (ev_var rfl) ev_c)) (fun hb H2 e2 => ?_) (fun hb H2 e2 => ?_)
  · refine s_ret (ρ := spR sp) (R := fun v' H' => DS ρ H' v' (listD d)) (ev_call (ea_cons (ev_var rfl) ea_nil) fun H3 e3 Q' q' E' => ⟨ρ, v, d, rfl, own1.r (e2.trans e3), le.ds (e2.trans e3) hd1, hs, dp, fun v' H' e h => q' v' H' (Ext.r e) h⟩) fun v' H3 e3 h => ?_
    exact k v' _ H3 (e1.trans (e2.trans e3)) h (tup_list d hnl)
  · have dr2 := dr1.sp e2
    refine s_ret (ρ := spR sp) (R := fun v' H' => ∃ d', DS ρ H' v' d' ∧ Mixed d d') (ev_if (et_test (ev_eqI (ev_var rfl) ev_c)) (fun _ => ?_) fun _ => ?_) fun v' H3 e3 ⟨d', h, m⟩ => k v' d' H3 (e1.trans (e2.trans e3)) h m
    · exact ev_call (ea_cons (ev_var rfl) (ea_cons (ev_var rfl) (ea_cons (ev_var rfl) ea_nil))) fun H3 e3 Q' q' E' => ⟨ρ, ra, sp, v, d, rfl, hsp, own1.r (e2.trans e3), dr2.sp e3, le.ds (e2.trans e3) hd1, hnl, hs, Nat.lt_trans dp (by decide), fun v' d' H' e h m => q' v' H' e ⟨d', h, m⟩⟩
    · exact (ev_var (v := v) rfl).imp fun v' H3 e3 ev => by
        rw [ev]
        exact ⟨d, le.ds (e2.trans e3) hd1, tup_self d hnl⟩
end Slip
/-! drawn letters, drawn texts -/
namespace Slip
open PySem PySem.Spec PyProof.Rows L2
theorem app_cps (a b : Str) : (a ++ b).cps.toList = a.cps.toList ++ b.cps.toList := by
  show (a.cps ++ b.cps).toList = _
  simp
theorem app_len (a b : Str) : (a ++ b).length = a.length + b.length := by
  show (a.cps ++ b.cps).size = _
  simp [Str.length]
theorem len_cps (a : Str) : a.cps.toList.length = a.length := by simp [Str.length]
theorem letters_at {i : Nat} (h : i < 6) : ("abcdef" : Str).cps.toList[i]? = some (97 + i) := by
  match i, h with
  | 0, _ => decide +kernel
  | 1, _ => decide +kernel
  | 2, _ => decide +kernel
  | 3, _ => decide +kernel
  | 4, _ => decide +kernel
  | 5, _ => decide +kernel
theorem letters_mem {i : Nat} (h : i < 6) : 97 + i ∈ letters := List.mem_of_getElem? (letters_at h)
/-- the letters of a draw, ascending -/
structure Few (z : Str) : Prop where
  up : z.cps.toList.Pairwise (· < ·)
  low : ∀ c ∈ z.cps.toList, c ∈ letters
  pos : 0 < z.length
  le : z.length ≤ 6
def sp__law_few (K : Frag) : Sp := fun vs H Q _ => ∃ (ra sp za : Addr) (ss : List Int), vs = [.ref ra, .ref sp, .ref za] ∧ Dr K ra sp H ∧ za ≠ sp ∧ SqL K H za (ss.map V.int) ∧ ss ≠ [] ∧ (∀ s ∈ ss, 1 ≤ s ∧ s ≤ 6) ∧ ∀ z H', (spR sp).r H H' → Few z → Q (.str z) H'
def sp__law_letters (K : Frag) : Sp := fun vs H Q _ => ∃ (ra sp : Addr) (most : Int) (z : Str), vs = [.ref ra, .ref sp, .int most, .str z] ∧ Dr K ra sp H ∧ 0 ≤ most ∧ most ≤ 1000 ∧ 0 < z.length ∧ z.length ≤ 1000 ∧ ∀ (s : Str) H', (spR sp).r H H' → (s.length : Int) ≤ most → (∀ c ∈ s.cps.toList, c ∈ z.cps.toList) → Q (.str s) H'
theorem len__law_few {K : Frag} {vs : List V} {H : Hp} {Q : VK} {E : XK} (h : sp__law_few K vs H Q E) : vs.length = 3 := by
  obtain ⟨ra, sp, za, ss, rfl, _⟩ := h
  rfl
theorem len__law_letters {K : Frag} {vs : List V} {H : Hp} {Q : VK} {E : XK} (h : sp__law_letters K vs H Q E) : vs.length = 4 := by
  obtain ⟨ra, sp, m, z, rfl, _⟩ := h
  rfl
section
variable {K : Frag} {σ : L2.St} {H : Hp} {ta tb tc td : TE} {ra sp : Addr} {E : XK}
theorem ev_letters {most : Int} {z : Str} (h1 : EvV (spR sp) ta σ H (.ref ra)) (h2 : EvV (spR sp) tb σ H (.ref sp)) (h3 : EvV (spR sp) tc σ H (.int most)) (h4 : EvV (spR sp) td σ H (.str z)) (dr : Dr K ra sp H) (m0 : 0 ≤ most) (m1 : most ≤ 1000) (z0 : 0 < z.length) (z1 : z.length ≤ 1000) :
    Ev (spR sp) (tCall (sp__law_letters K) [] E (tCons ta (tCons tb (tCons tc (tCons td tNil))))) σ H (fun v _ => ∃ s : Str, v = .str s ∧ (s.length : Int) ≤ most ∧ ∀ c ∈ s.cps.toList, c ∈ z.cps.toList) :=
  ev_call (ea_cons h1 (ea_cons h2 (ea_cons h3 (ea_cons h4 ea_nil)))) fun H1 e1 Q q E => ⟨ra, sp, most, z, rfl, dr.sp e1, m0, m1, z0, z1, fun s H' e hl hc => q _ H' e ⟨s, rfl, hl, hc⟩⟩
end
def t__law_letters (K : Frag) : TS := (tSeq (tAsg (tC (.str "")) (gName 4)) (tSeq (tFor (iRng1 (tCons (tCall (sp__law_take K) [] E0 (tCons (tVar 0) (tCons (tVar 1) (tCons (tOp (rAddU K) (tVar 2) (tC (.int 1))) tNil)))) tNil)) (gName 5) (tAsg (tOp (rAddU K) (tVar 4) (tIxU K (tVar 3) (tCall (sp__law_take K) [] E0 (tCons (tVar 0) (tCons (tVar 1) (tCons (tCB (rLenU K) (tCons (tVar 3) tNil)) tNil)))))) (gName 4))) (tRet (tVar 4))))
def t__law_few (K : Frag) : TS := (tSeq (tAsg (tIxU K (tVar 2) (tCall (sp__law_take K) [] E0 (tCons (tVar 0) (tCons (tVar 1) (tCons (tCB (rLenU K) (tCons (tVar 2) tNil)) tNil))))) (gName 3)) (tSeq (tAsg (tC (.str "")) (gName 4)) (tSeq (tFor (iRng1 (tCons (tC (.int 6)) tNil)) (gName 5) (tIfS (tAnd (tTest (tOp (rCmp K gLt) (tCB (rLenU K) (tCons (tVar 4) tNil)) (tVar 3))) (tTest (tOp (rCmp K gLt) (tCall (sp__law_take K) [] E0 (tCons (tVar 0) (tCons (tVar 1) (tCons (tOp rSubI (tC (.int 6)) (tVar 5)) tNil)))) (tOp rSubI (tVar 3) (tCB (rLenU K) (tCons (tVar 4) tNil)))))) (tAsg (tOp (rAddU K) (tVar 4) (tIxU K (tC (.str "abcdef")) (tVar 5))) (gName 4)) tNext)) (tRet (tVar 4)))))
theorem pure__law_letters {K : Frag} (vs : List V) (H : Hp) (Q : VK) (E : XK) (h : sp__law_letters K vs H Q E) : t__law_letters K { nx := fun _ H' => Q .non H', rt := Q } (start ["row", "spot", "most", "few", "made", "k"] vs) H := by
  obtain ⟨ra, sp, most, z, rfl, dr, m0, m1, z0, z1, q⟩ := h
  refine q_asgV (ρ := spR sp) ev_c fun H1 e1 => ?_
  have dr1 := dr.sp e1
  refine q_forx (ρ := spR sp) (eix_rng (lim := most + 1) (ev_take (ev_var rfl) (ev_var rfl) (ev_add (ev_var rfl) ev_c) dr1 (by omega)) (by omega)) fun n Y H2 ⟨hn, hY⟩ e2 => ⟨fun i σ' H' => (spR sp).r H2 H' ∧ ∃ (s : Str) (kv : Option V), σ' = [some (.ref ra), some (.ref sp), some (.int most), some (.str z), some (.str s), kv] ∧ s.length ≤ i ∧ ∀ c ∈ s.cps.toList, c ∈ z.cps.toList, ⟨.rfl, "", none, rfl, Nat.le_refl _, fun c hc => by
    have : ("" : Str).cps.toList = [] := by decide +kernel
    rw [this] at hc
    cases hc⟩, fun i σ' H' _ h => h.1, ?_, ?_⟩
  · subst hY
    rintro i x σ' H' H'' hi ⟨r, s, kv, rfl, hs, hc⟩ ⟨e5, rfl⟩
    subst e5
    have dr2 := dr1.sp (e2.trans r)
    refine s_asg (ρ := spR sp) (R := fun v _ => ∃ c, v = .str (s ++ ⟨#[c]⟩) ∧ c ∈ z.cps.toList) (ev_opP (Pa := fun v => v = .str s) (Pb := fun v => ∃ c, v = .str ⟨#[c]⟩ ∧ c ∈ z.cps.toList) (ev_var rfl) (ev_ixSP (ev_var rfl) (by omega) (ev_take (ev_var rfl) (ev_var rfl) (ev_lenS (ev_var rfl) (by omega)) dr2 (by omega))) ?_) fun v H3 e3 ⟨c, ev, hcz⟩ => ?_
    · rintro x y rfl ⟨c, rfl, hcz⟩ H3 e3 Q' q'
      exact .inr (.inl ⟨s, ⟨#[c]⟩, rfl, rfl, Evl.sz_of (show s.length + 1 ≤ 100000 by omega), q' _ H3 .rfl ⟨c, rfl, hcz⟩⟩)
    · subst ev
      refine ⟨r.trans e3, s ++ ⟨#[c]⟩, some (.int (i : Int)), rfl, ?_, ?_⟩
      · rw [app_len]
        show s.length + 1 ≤ i + 1
        omega
      · intro c' hc'
        rw [app_cps] at hc'
        rcases List.mem_append.mp hc' with h | h
        · exact hc c' h
        · have : c' = c := by simpa using h
          rw [this]
          exact hcz
  · rintro σ' H' ⟨r, s, kv, rfl, hs, hc⟩
    exact s_retV (ρ := spR sp) (ev_var rfl) fun H3 e3 => q s H3 (e1.trans (e2.trans (r.trans e3))) (by omega) hc
theorem pure__law_few {K : Frag} (vs : List V) (H : Hp) (Q : VK) (E : XK) (h : sp__law_few K vs H Q E) : t__law_few K { nx := fun _ H' => Q .non H', rt := Q } (start ["row", "spot", "sizes", "size", "made", "k"] vs) H := by
  obtain ⟨ra, sp, za, ss, rfl, dr, nz, hz, hss, hsm, q⟩ := h
  have sqz : ∀ H1, (spR sp).r H H1 → SqA K H1 za (ss.map V.int) := fun H1 e => .inl (e.sqL nz hz)
  have hl : (ss.map V.int).length = ss.length := List.length_map _
  have hpos : 0 < ss.length := by
    cases ss with
    | nil => exact absurd rfl hss
    | cons _ _ => exact Nat.succ_pos _
  refine q_asg (ρ := spR sp) (ev_ixP (xs := ss.map V.int) (ev_var rfl) (ev_take (ev_var rfl) (ev_var rfl) (ev_len (ev_var rfl) sqz) dr (by rw [hl]; omega)) sqz) fun v H1 e1 ⟨m, hm⟩ => ?_
  obtain ⟨sz, hmem, rfl⟩ : ∃ s, s ∈ ss ∧ v = .int s := by
    obtain ⟨s, h1, h2⟩ := List.mem_map.mp (List.mem_of_getElem? hm)
    exact ⟨s, h1, h2.symm⟩
  obtain ⟨s1, s6⟩ := hsm sz hmem
  refine q_asgV (ρ := spR sp) ev_c fun H2 e2 => ?_
  refine q_forw (ρ := spR sp) (ρw := spR sp) (ew_rng (i := 6) (ea_cons ev_c ea_nil) (by omega) (by omega)) fun H3 e3 => ⟨fun i σ' H' => (spR sp).r H3 H' ∧ ∃ (s : Str) (kv : Option V), σ' = [some (.ref ra), some (.ref sp), some (.ref za), some (.int sz), some (.str s), kv] ∧ s.cps.toList.Pairwise (· < ·) ∧ (∀ c ∈ s.cps.toList, c ∈ letters ∧ c < 97 + i) ∧ (s.length : Int) ≤ sz ∧ sz - s.length ≤ 6 - i, ⟨.rfl, "", none, rfl, ?_, ?_, ?_, ?_⟩, fun i σ' H' _ h => h.1, ?_, ?_⟩
  · have : ("" : Str).cps.toList = [] := by decide +kernel
    rw [this]
    exact List.Pairwise.nil
  · intro c hc
    have : ("" : Str).cps.toList = [] := by decide +kernel
    rw [this] at hc
    cases hc
  · show ((0 : Nat) : Int) ≤ sz
    omega
  · show sz - ((0 : Nat) : Int) ≤ 6 - ((0 : Nat) : Int)
    omega
  · rintro i x σ' H' H'' hi ⟨r, s, kv, rfl, hup, hlow, hle, hgo⟩ ⟨e5, rfl⟩
    subst e5
    have hi6 : i < 6 := hi
    have r0 := e1.trans (e2.trans (e3.trans r))
    have dr2 := dr.sp r0
    have hs6 : s.length ≤ 6 := by omega
    have hfin : ∀ H4, (spR sp).r H'' H4 → sz - (s.length : Int) ≤ 6 - ((i + 1 : Nat) : Int) → (fun i σ' H' => (spR sp).r H3 H' ∧ ∃ (s : Str) (kv : Option V), σ' = [some (.ref ra), some (.ref sp), some (.ref za), some (.int sz), some (.str s), kv] ∧ s.cps.toList.Pairwise (· < ·) ∧ (∀ c ∈ s.cps.toList, c ∈ letters ∧ c < 97 + i) ∧ (s.length : Int) ≤ sz ∧ sz - s.length ≤ 6 - i) (i + 1) [some (.ref ra), some (.ref sp), some (.ref za), some (.int sz), some (.str s), some (.int (i : Int))] H4 := fun H4 e4 hg =>
      ⟨r.trans e4, s, _, rfl, hup, fun c hc => ⟨(hlow c hc).1, by have := (hlow c hc).2; omega⟩, hle, hg⟩
    refine ev_lt (ρ := spR sp) (H := H'') (i := (s.length : Int)) (j := sz) (ev_lenS (ev_var rfl) (by omega)) (ev_var rfl) H'' .rfl _ fun v H4 e4 ev => ⟨_, ev, ?_⟩
    by_cases hlt : (s.length : Int) < sz
    · rw [decide_eq_true hlt]
      refine iteT ?_
      refine ev_opP (Pa := Below (6 - (i : Int))) (Pb := fun v => v = .int (sz - (s.length : Int))) (R := fun v _ => ∃ b, v = .bl b ∧ (b = false → sz - (s.length : Int) ≤ 6 - (i : Int) - 1)) (ev_take (ev_var rfl) (ev_var rfl) (ev_sub ev_c (ev_var rfl)) dr2 (by omega)) (ev_sub (ev_var rfl) (ev_lenS (ev_var rfl) (by omega))) ?_ H4 e4 _ fun v H5 e5 ⟨b, eb, hb⟩ => ⟨b, eb, ?_⟩
      · rintro x y ⟨m, rfl, h0, h1⟩ rfl H5 e5 Q2 q2
        refine rv_cmpI H5 Q2 (q2 _ H5 .rfl ⟨_, rfl, fun hb => ?_⟩)
        have : PySem.W.dataLt (.int m) (.int (sz - (s.length : Int))) = false := hb
        rw [lt_int] at this
        have := of_decide_eq_false this
        omega
      · cases b with
        | true =>
          refine iteT ?_
          have hle2 : s.length + 1 ≤ 100000 := by omega
          refine s_asgV (ρ := spR sp) (ev_addS (ev_var rfl) (ev_ixS (s := "abcdef") (c := 97 + i) ev_c (ev_var rfl) (by decide +kernel) (atI_nat (letters_at hi6))) hle2) fun H6 e6 => ?_
          refine ⟨r.trans (e4.trans (e5.trans e6)), s ++ ⟨#[97 + i]⟩, _, rfl, ?_, ?_, ?_, ?_⟩
          · rw [app_cps]
            refine List.pairwise_append.mpr ⟨hup, by simp, fun a ha b hb => ?_⟩
            have : b = 97 + i := by simpa using hb
            rw [this]
            exact (hlow a ha).2
          · intro c hc
            rw [app_cps] at hc
            rcases List.mem_append.mp hc with h | h
            · exact ⟨(hlow c h).1, by have := (hlow c h).2; omega⟩
            · have : c = 97 + i := by simpa using h
              rw [this]
              exact ⟨letters_mem hi6, by omega⟩
          · rw [app_len]
            show ((s.length + 1 : Nat) : Int) ≤ sz
            omega
          · rw [app_len]
            show sz - ((s.length + 1 : Nat) : Int) ≤ 6 - ((i + 1 : Nat) : Int)
            omega
        | false =>
          refine iteF ?_
          exact hfin H5 (e4.trans e5) (by have := hb rfl; omega)
    · rw [decide_eq_false hlt]
      refine iteF (iteF ?_)
      exact hfin H4 e4 (by omega)
  · rintro σ' H' ⟨r, s, kv, rfl, hup, hlow, hle, hgo⟩
    have hgo' : sz - (s.length : Int) ≤ 6 - ((6 : Nat) : Int) := hgo
    exact s_retV (ρ := spR sp) (ev_var rfl) fun H4 e4 => q s H4 (e1.trans (e2.trans (e3.trans (r.trans e4)))) ⟨hup, fun c hc => (hlow c hc).1, by omega, by omega⟩
end Slip
/-! the law's own look at a table -/
namespace Slip
open PySem PySem.Spec PyProof.Rows L2
theorem rising_no : ∀ (ds : List PyData) (j : Nat) (x y : PyData), ds[j]? = some x → ds[j + 1]? = some y → PySem.W.dataLt x y = false → risingD ds = false
  | [], j, x, y, a, _, _ => by simp at a
  | [d], 0, x, y, _, b, _ => by simp at b
  | [d], j + 1, x, y, a, _, _ => by simp at a
  | d :: e :: r, 0, x, y, a, b, h => by
    cases a
    cases b
    show (PySem.W.dataLt d e && risingD (e :: r)) = false
    rw [h, Bool.false_and]
  | d :: e :: r, j + 1, x, y, a, b, h => by
    show (PySem.W.dataLt d e && risingD (e :: r)) = false
    rw [rising_no (e :: r) j x y (by simpa using a) (by simpa using b) h, Bool.and_false]
theorem rising_of : ∀ (ds : List PyData), (∀ (j : Nat) (x y : PyData), ds[j]? = some x → ds[j + 1]? = some y → PySem.W.dataLt x y = true) → risingD ds = true
  | [], _ => rfl
  | [d], _ => rfl
  | d :: e :: r, h => by
    show (PySem.W.dataLt d e && risingD (e :: r)) = true
    rw [h 0 d e rfl rfl, rising_of (e :: r) fun j x y a b => h (j + 1) x y (by simpa using a) (by simpa using b)]
    rfl
theorem str2_piece (d : PyData) : isStrD 2 d = isPieceD d := by
  cases d with
  | str s => exact Bool.and_comm _ _
  | _ => rfl
theorem tup_nl {d : PyData} (h : noList d = true) : isiB d "tuple" = isSeqD d := by
  cases d with
  | list ds => cases h
  | _ => rfl
def cutD (ds : List PyData) (lo hi : Option Int) : List PyData := (ds.drop (HT.sIx ds.length 0 lo)).take (HT.sIx ds.length ds.length hi - HT.sIx ds.length 0 lo)
section
variable {ρ ρf : Rl} {K : Frag} {σ : L2.St} {H : Hp} {ta tb te : TE} {x v : V} {d e : PyData} {ds es : List PyData}
/-- t[lo:hi] -/
theorem ev_slD {tl th : TO} {lo hi : Option Int} (le : Le ρ ρf) (h : EvV ρ te σ H v) (h1 : EvO ρ tl σ H lo) (h2 : EvO ρ th σ H hi) (hd : DS ρf H v (.tuple ds)) : Ev ρ (tSl (rSlU K) te tl th) σ H (fun u H2 => DS ρf H2 u (.tuple (cutD ds lo hi))) := fun H0 e Q q =>
  h H0 e _ fun w H2 e2 ew => by
    subst ew
    refine h1 H2 (e.trans e2) _ fun H3 e3 => h2 H3 ((e.trans e2).trans e3) _ fun H4 e4 => ?_
    have e04 := ((e.trans e2).trans e3).trans e4
    have e24 := (e2.trans e3).trans e4
    obtain ⟨a, xs, rfl, hx, ha, hsq⟩ := hd.tupl
    have hl := hx.length
    refine .inr (.inl ⟨a, xs, rfl, hsq K ρ H4 e04, fun hw => q _ _ e24 ?_, fun _ p hp => q _ _ (e24.trans (r_new _ hp)) (.tup upd_same ?_)⟩)
    · have z : cutD ds lo hi = ds := by
        unfold cutD
        rw [← hl, hw.1, hw.2, hl, List.drop_zero, Nat.sub_zero, List.take_length]
      rw [z]
      exact le.ds e04 hd
    · unfold cutD cutV
      rw [hl]
      exact ((le.dss (e04.trans (r_new _ hp)) hx).drop _).take _
/-- a datum against a new one -/
theorem ev_cmp2 {g : PyData → PyData → Bool} (h1 : EvV ρ ta σ H x) (hd : DS ρ H x d) (h2 : Ev ρ tb σ H (fun v H' => DS ρ H' v e)) (al : PySem.W.alike d e = true) (nn : d ≠ .none) (dp : d.depth ≤ 64) : EvV ρ (tOp (rCmp K g) ta tb) σ H (.bl (g d e)) :=
  ev_op2 (Ra := fun v' _ => v' = x) (Rb := fun v H' => DS ρ H' v e) h1 (fun x' H1 e1 _ => h2.mono e1) fun x' y' H1 H2 e1 e2 ex he => by
    subst ex
    exact fun H3 e3 Q q => ⟨d, e, ((e1.trans (e2.trans e3)).ds hd).dp _ _, (e3.ds he).dp _ _, al, nn, dp, q _ H3 .rfl rfl⟩
end
def twoPieces : List PyData → Bool
  | [m, w, _] => isPieceD m && isPieceD w
  | _ => false
theorem two_of {ds : List PyData} (h : twoPieces ds = true) : ∃ s t c, ds = [.str s, .str t, c] ∧ isPieceD (.str s) = true ∧ isPieceD (.str t) = true := by
  match ds, h with
  | [m, w, c], h =>
    have h' : isPieceD m = true ∧ isPieceD w = true := by simpa [twoPieces] using h
    obtain ⟨s, rfl, _⟩ := piece_str h'.1
    obtain ⟨t, rfl, _⟩ := piece_str h'.2
    exact ⟨s, t, c, rfl, h'.1, h'.2⟩
theorem fault_tup (m w c : PyData) : isFaultD (.tuple [m, w, c]) = (isPieceD m && isPieceD w && !(PyData.eqv m w) && isWholeD 1 9 c) := rfl
theorem fault_no {ds : List PyData} (h : twoPieces ds = false) : isFaultD (.tuple ds) = false := by
  cases q : isFaultD (.tuple ds) with
  | false => rfl
  | true =>
    obtain ⟨s, t, c, e1, e2, e3, _⟩ := fault_parts q
    have e1' : ds = [.str s, .str t, .int c] := e1
    rw [e1'] at h
    have : (isPieceD (.str s) && isPieceD (.str t)) = false := h
    rw [e2, e3] at this
    cases this
theorem fault_seq {d : PyData} (h : isSeqD d = false) : isFaultD d = false := by
  unfold isFaultD isTripleD
  rw [h]
  rfl
theorem table_nofault {d d1 : PyData} {i : Nat} (h : (itemsD d)[i]? = some d1) (hf : isFaultD d1 = false) : isTableD d = false := by
  have : (itemsD d).all isFaultD = false := by
    cases q : (itemsD d).all isFaultD with
    | false => rfl
    | true =>
      have := List.all_eq_true.mp q d1 (List.mem_of_getElem? h)
      rw [hf] at this
      cases this
  unfold isTableD
  rw [this, Bool.and_false]
  rfl
theorem table_norise {d x y : PyData} {j : Nat} (h : (itemsD d)[j]? = some x) (h2 : (itemsD d)[j + 1]? = some y) (hf : PySem.W.dataLt (pairOf x) (pairOf y) = false) : isTableD d = false := by
  have : risingD ((itemsD d).map pairOf) = false := rising_no _ j (pairOf x) (pairOf y) (by rw [List.getElem?_map, h]; rfl) (by rw [List.getElem?_map, h2]; rfl) hf
  unfold isTableD
  rw [this, Bool.and_false]
theorem table_yes {d : PyData} (hq : isSeqD d = true) (hl : (itemsD d).length ≤ 8) (hf : ∀ x ∈ itemsD d, isFaultD x = true) (hr : ∀ (j : Nat) (x y : PyData), (itemsD d)[j]? = some x → (itemsD d)[j + 1]? = some y → PySem.W.dataLt (pairOf x) (pairOf y) = true) : isTableD d = true := by
  unfold isTableD
  rw [hq, decide_eq_true hl, List.all_eq_true.mpr hf, rising_of]
  · rfl
  · intro j x y a b
    rw [List.getElem?_map] at a b
    cases qa : (itemsD d)[j]? with
    | none => rw [qa] at a; cases a
    | some x' =>
      cases qb : (itemsD d)[j + 1]? with
      | none => rw [qb] at b; cases b
      | some y' =>
        rw [qa] at a
        rw [qb] at b
        cases a
        cases b
        exact hr j x' y' qa qb
def sp__law_is_table (K : Frag) : Sp := fun vs H Q _ => ∃ v d, vs = [v] ∧ DS exR H v d ∧ sm d = true ∧ noList d = true ∧ ∀ H', Ext H H' → Q (.bl (isTableD d)) H'
theorem len__law_is_table {K : Frag} {vs : List V} {H : Hp} {Q : VK} {E : XK} (h : sp__law_is_table K vs H Q E) : vs.length = 1 := by
  obtain ⟨v, d, rfl, _⟩ := h
  rfl
theorem noLists_mem : ∀ {ds : List PyData} {d : PyData}, noLists ds = true → d ∈ ds → noList d = true
  | e :: ds, d, h, hm => by
    have h' : noList e = true ∧ noLists ds = true := by simpa [noLists] using h
    rcases List.mem_cons.mp hm with rfl | hm
    · exact h'.1
    · exact noLists_mem h'.2 hm
def t__law_is_table (K : Frag) : TS := (tSeq (tIfS (tOr (tNot (tB (tCB (rIsiU K) (tCons (tVar 0) (tCons (tC (.ty "tuple")) tNil))))) (tTest (tOp (rCmp K gGt) (tCB (rLenU K) (tCons (tVar 0) tNil)) (tC (.int 8))))) (tRet (tC (.bl false))) tNext) (tSeq (tAsg (tC .non) (gName 1)) (tSeq (tFor (iSeq K (tVar 0)) (gName 2) (tSeq (tIfS (tOr (tNot (tB (tCB (rIsiU K) (tCons (tVar 2) (tCons (tC (.ty "tuple")) tNil))))) (tOr (tTest (tOp (rNeU K) (tCB (rLenU K) (tCons (tVar 2) tNil)) (tC (.int 3)))) (tOr (tNot (tB (tCall (sp__law_is_string K) [] E0 (tCons (tIxU K (tVar 2) (tC (.int 0))) (tCons (tC (.int 2)) tNil))))) (tNot (tB (tCall (sp__law_is_string K) [] E0 (tCons (tIxU K (tVar 2) (tC (.int 1))) (tCons (tC (.int 2)) tNil)))))))) (tRet (tC (.bl false))) tNext) (tSeq (tIfS (tOr (tTest (tOp (rEqU K) (tIxU K (tVar 2) (tC (.int 0))) (tIxU K (tVar 2) (tC (.int 1))))) (tOr (tNot (tB (tCall (sp__law_whole K) [] E0 (tCons (tIxU K (tVar 2) (tC (.int 2))) tNil)))) (tNot (tTest (tChain (rCmp K gLe) (rCmp K gLe) (tC (.int 1)) (tIxU K (tVar 2) (tC (.int 2))) (tC (.int 9))))))) (tRet (tC (.bl false))) tNext) (tSeq (tIfS (tAnd (tTest (tOp rNotN (tVar 1) (tC .non))) (tNot (tTest (tOp (rCmp K gLt) (tVar 1) (tSl (rSlU K) (tVar 2) tNoPart (tPart (tC (.int 2)))))))) (tRet (tC (.bl false))) tNext) (tAsg (tSl (rSlU K) (tVar 2) tNoPart (tPart (tC (.int 2)))) (gName 1)))))) (tRet (tC (.bl true))))))
theorem pure__law_is_table {K : Frag} (vs : List V) (H : Hp) (Q : VK) (E : XK) (h : sp__law_is_table K vs H Q E) : t__law_is_table K { nx := fun _ H' => Q .non H', rt := Q } (start ["value", "before", "one"] vs) H := by
  obtain ⟨v, d, rfl, hd, hs, hn, k⟩ := h
  have ht := tup_nl hn
  cases hq : isSeqD d with
  | false =>
    have e0 : isTableD d = false := by unfold isTableD; rw [hq]; rfl
    rw [e0] at k
    refine q_when (ρ := exR) (b := true) ((et_or (b := true) (et_not (et_B (ev_isi (ev_var rfl) hd rfl))) fun h1 => ?_).to (by rw [Bool.or_true])) (fun hb H1 e => s_retV (ρ := exR) ev_c fun H2 e2 => k H2 (e.trans e2).ext) (fun hb H1 e => by cases hb)
    rw [ht, hq] at h1
    cases h1
  | true =>
  obtain ⟨ds, rfl⟩ : ∃ ds, d = .tuple ds := by
    cases d with
    | tuple ds => exact ⟨ds, rfl⟩
    | list ds => cases hn
    | _ => cases hq
  obtain ⟨a, xs, rfl, ha, hA, hsq⟩ := hd.tupl
  have hlen := ha.length
  have hl1000 := sm_seq (.inr hs)
  have hnl : noLists ds = true := by simpa [noList] using hn
  have hsA : ∀ H1, exR.r H H1 → SqA K H1 a xs := fun H1 e => .inr (hsq K exR H1 e)
  refine q_when (ρ := exR) (et_or (et_not (et_B (ev_isi (ev_var rfl) hd rfl))) fun _ => et_test (ev_gt (ev_len (ev_var rfl) hsA) ev_c)) (fun hb H1 e => s_retV (ρ := exR) ev_c fun H2 e2 => ?_) (fun hb H1 e => ?_)
  · have hz : ¬ ds.length ≤ 8 := by
      rw [ht, hq] at hb
      have : decide (8 < (xs.length : Int)) = true := by simpa using hb
      have := of_decide_eq_true this
      omega
    have e0 : isTableD (.tuple ds) = false := by
      show (true && decide (ds.length ≤ 8) && _ && _) = false
      rw [decide_eq_false hz, Bool.and_false]
      rfl
    rw [e0] at k
    exact k H2 (e.trans e2).ext
  have hz : ds.length ≤ 8 := by
    rw [ht, hq] at hb
    have : decide (8 < (xs.length : Int)) = false := by simpa using hb
    have := of_decide_eq_false this
    omega
  refine q_asgV (ρ := exR) ev_c fun H2 e2 => ?_
  have e02 := e.trans e2
  refine q_for (ρ := exR) (n := xs.length) (ei_seq (ev_var rfl) (fun H3 e3 => hsA H3 (e02.trans e3)) (.inr fun H3 e3 => hsq K exR H3 (e02.trans e3))) fun H3 e3 => ⟨fun i σ' H' => exR.r H3 H' ∧ ∃ (bv : V) (ov : Option V), σ' = [some (.ref a), some bv, ov] ∧ (∀ (j : Nat) x, j < i → ds[j]? = some x → isFaultD x = true) ∧ (∀ (j : Nat) (x y : PyData), j + 1 < i → ds[j]? = some x → ds[j + 1]? = some y → PySem.W.dataLt (pairOf x) (pairOf y) = true) ∧ ((i = 0 ∧ bv = .non) ∨ ∃ (j : Nat) (x : PyData), i = j + 1 ∧ ds[j]? = some x ∧ DS exR H' bv (pairOf x)),
    ⟨.rfl, _, _, rfl, fun j _ h => absurd h (Nat.not_lt_zero j), fun j _ _ h => absurd h (Nat.not_lt_zero _), .inl ⟨rfl, rfl⟩⟩, fun i σ' H' _ p => p.1, ?_, ?_⟩
  · rintro i x σ' H' H'' hi ⟨r, bv, ov, rfl, hF, hR, hB⟩ ⟨e5, hx⟩
    subst e5
    have r0 : exR.r H H'' := e02.trans (e3.trans r)
    obtain ⟨d1, g1, g2⟩ := ha.get hx
    have g3 : DS exR H'' x d1 := r0.ds g2
    have hm := List.mem_of_getElem? g1
    have nl1 := noLists_mem hnl hm
    have sm1 := smAll_mem hl1000.2 hm
    have t1 := tup_nl nl1
    have bad : ∀ H4, exR.r H'' H4 → isFaultD d1 = false → Q (.bl false) H4 := fun H4 e4 hf => by
      have e0 : isTableD (.tuple ds) = false := table_nofault (i := i) g1 hf
      rw [e0] at k
      exact k H4 (r0.trans e4).ext
    cases hq1 : isSeqD d1 with
    | false =>
      refine q_when (ρ := exR) (b := true) ((et_or (b := true) (et_not (et_B (ev_isi (ev_var rfl) g3 rfl))) fun h1 => ?_).to (by rw [Bool.or_true])) (fun hb H1 e => s_retV (ρ := exR) ev_c fun H2 e2 => bad H2 (e.trans e2) (fault_seq hq1)) (fun hb H1 e => by cases hb)
      rw [t1, hq1] at h1
      cases h1
    | true =>
    obtain ⟨es, rfl⟩ : ∃ es, d1 = .tuple es := by
      cases d1 with
      | tuple es => exact ⟨es, rfl⟩
      | list es => cases nl1
      | _ => cases hq1
    obtain ⟨b, ys, rfl, hy, hbA, hsb⟩ := g3.tupl
    have ly := hy.length
    have hsbA : ∀ H1, exR.r H'' H1 → SqA K H1 b ys := fun H1 e => .inr (hsb K exR H1 e)
    have sme := (sm_seq (.inr sm1)).2
    by_cases h3 : es.length = 3
    · obtain ⟨m, w, c, rfl⟩ := three h3
      obtain ⟨y1, y2, y3, rfl, c1, c2, c3⟩ := hy.three
      have s3 : sm m = true ∧ sm w = true ∧ sm c = true := by simpa [smAll] using sme
      refine q_when (ρ := exR) (H := H'') (b := !(isPieceD m && isPieceD w)) ((et_or (b := !(isPieceD m && isPieceD w)) (et_not (et_B (ev_isi (ev_var rfl) g3 rfl))) fun _ => (et_or (b := !(isPieceD m && isPieceD w)) (et_test (ev_neI (ev_len (ev_var rfl) hsbA) ev_c)) fun _ => (et_or (et_not (et_B (ev_is_string (ev_ix (n := 0) (ev_var rfl) ev_c hsbA rfl rfl) ev_c c1 s3.1))) fun _ => et_not (et_B (ev_is_string (ev_ix (n := 1) (ev_var rfl) ev_c hsbA rfl rfl) ev_c c2 s3.2.1))).to ?_).to ?_).to ?_) (fun hb H4 e4 => s_retV (ρ := exR) ev_c fun H5 e5 => ?_) (fun hb H4 e4 => ?_)
      · rw [str2_piece, str2_piece]
        cases isPieceD m <;> cases isPieceD w <;> rfl
      · show (!decide (((3 : Nat) : Int) = 3) || _) = _
        rfl
      · rfl
      · refine bad H5 (e4.trans e5) ?_
        rw [fault_tup, notb hb, Bool.false_and]
        rfl
      have hp2 := notb' hb
      have hp3 : isPieceD m = true ∧ isPieceD w = true := by simpa using hp2
      obtain ⟨s, rfl, _⟩ := piece_str hp3.1
      obtain ⟨t, rfl, _⟩ := piece_str hp3.2
      cases c1
      cases c2
      have hsbA4 : ∀ H1, exR.r H4 H1 → SqA K H1 b [.str s, .str t, y3] := fun H1 e => hsbA H1 (e4.trans e)
      have c34 := e4.ds c3
      refine q_when (ρ := exR) (H := H4) (b := !(!decide (s = t) && isWholeD 1 9 c)) ((et_or (b := !isWholeD 1 9 c) (et_test (ev_eqS (ev_ix (n := 0) (ev_var rfl) ev_c hsbA4 rfl rfl) (ev_ix (n := 1) (ev_var rfl) ev_c hsbA4 rfl rfl))) fun _ => ?_).to ?_) (fun hb H5 e5 => s_retV (ρ := exR) ev_c fun H6 e6 => ?_) (fun hb H5 e5 => ?_)
      · cases hc : (isiB c "int" && !isiB c "bool") with
        | true =>
          obtain ⟨n, rfl, rfl⟩ := c34.inv_int hc
          refine (et_or (b := !isWholeD 1 9 (.int n)) (et_not (et_B (ev_B1 (F := fun d => isiB d "int" && !isiB d "bool") (ev_ix (n := 2) (ev_var rfl) ev_c hsbA4 rfl rfl) (.int n) s3.2.2))) fun _ => et_not (et_test (ev_chainLe ev_c (ev_ix (n := 2) (ev_var rfl) ev_c hsbA4 rfl rfl) ev_c))).to rfl
        | false =>
          have e0 : isWholeD 1 9 c = false := by
            cases c with
            | int i => exact absurd hc (by show ¬ (true && !false) = false; decide)
            | _ => rfl
          rw [e0]
          refine (et_or (b := true) (et_not (et_B (ev_B1 (F := fun d => isiB d "int" && !isiB d "bool") (ev_ix (n := 2) (ev_var rfl) ev_c hsbA4 rfl rfl) c34 s3.2.2))) fun h => ?_).to (by rw [Bool.or_true]; rfl)
          have h' : (!(isiB c "int" && !isiB c "bool")) = false := h
          rw [hc] at h'
          cases h'
      · cases decide (s = t) <;> cases isWholeD 1 9 c <;> rfl
      · refine bad H6 (e4.trans (e5.trans e6)) ?_
        rw [fault_tup, hp2, eqv_str, Bool.true_and]
        exact notb hb
      have hf : isFaultD (.tuple [.str s, .str t, c]) = true := by
        rw [fault_tup, hp2, eqv_str, Bool.true_and]
        exact notb' hb
      have hpr : pairOf (.tuple [.str s, .str t, c]) = .tuple [.str s, .str t] := rfl
      have e45 := e4.trans e5
      have gt5 : DS exR H5 (.ref b) (.tuple [.str s, .str t, c]) := e45.ds g3
      -- the end of a turn
      have fin : ∀ D : Ends, (∀ σ2 H2, (exR.r H3 H2 ∧ ∃ (bv : V) (ov : Option V), σ2 = [some (.ref a), some bv, ov] ∧ (∀ (j : Nat) x, j < i + 1 → ds[j]? = some x → isFaultD x = true) ∧ (∀ (j : Nat) (x y : PyData), j + 1 < i + 1 → ds[j]? = some x → ds[j + 1]? = some y → PySem.W.dataLt (pairOf x) (pairOf y) = true) ∧ ((i + 1 = 0 ∧ bv = .non) ∨ ∃ (j : Nat) (x : PyData), i + 1 = j + 1 ∧ ds[j]? = some x ∧ DS exR H2 bv (pairOf x))) → D.nx σ2 H2) → ∀ H6, exR.r H5 H6 → (∀ (j : Nat) (x : PyData), i = j + 1 → ds[j]? = some x → PySem.W.dataLt (pairOf x) (.tuple [.str s, .str t]) = true) → tAsg (tSl (rSlU K) (tVar 2) tNoPart (tPart (tC (.int 2)))) (gName 1) D [some (.ref a), some bv, some (.ref b)] H6 := fun D hD H6 e6 hlt =>
        s_asg (ρ := exR) (ev_slD Le.rfl (ev_var rfl) eo_none (eo_some ev_c) (e6.ds gt5)) fun u H7 e7 hu => hD _ _
          ⟨r.trans (e45.trans (e6.trans e7)), _, _, rfl, fun j x hj hx' => by
            by_cases z : j = i
            · subst z
              rw [g1] at hx'
              cases hx'
              exact hf
            · exact hF j x (by omega) hx', fun j x y hj hx' hy' => by
            by_cases z : j + 1 = i
            · subst z
              rw [g1] at hy'
              cases hy'
              exact hlt j x rfl hx'
            · exact hR j x y (by omega) hx' hy', .inr ⟨i, _, rfl, g1, hu⟩⟩
      rcases hB with ⟨hi0, rfl⟩ | ⟨j, x0, hij, hx0, hb0⟩
      · refine q_when (ρ := exR) (b := false) ((et_and (b := true) (et_test (ev_notN (v := .non) (ev_var rfl))) fun h => by cases h).to rfl) (fun hb H6 e6 => by cases hb) (fun _ H6 e6 => fin _ (fun _ _ h => h) H6 e6 fun j x hij => by omega)
      · have hf0 := hF j x0 (by omega) hx0
        obtain ⟨s0, t0, n0, p0, _⟩ := fault_parts hf0
        have pr0 := pair_fault p0
        rw [pr0] at hb0
        have hbn : bv ≠ .non := by cases hb0; intro z; cases z
        refine q_when (ρ := exR) (b := !PySem.W.dataLt (pairOf x0) (.tuple [.str s, .str t])) ((et_and (b := !PySem.W.dataLt (pairOf x0) (.tuple [.str s, .str t])) (et_test (ev_notN (ev_var rfl))) fun _ => et_not (et_test ((ev_cmp2 (g := gLt) (e := .tuple [.str s, .str t]) (ev_var rfl) (e45.ds hb0) (ev_slD Le.rfl (ev_var rfl) eo_none (eo_some ev_c) gt5) rfl (by simp) (by show (1 : Nat) ≤ 64; decide)).val (by rw [pr0])))).to ?_) (fun hb H6 e6 => s_retV (ρ := exR) ev_c fun H7 e7 => ?_) (fun hb H6 e6 => fin _ (fun _ _ h => h) H6 e6 fun j' x' hij' hx' => ?_)
        · rw [decide_eq_false hbn]
          rfl
        · have e0 : isTableD (.tuple ds) = false := table_norise (j := j) (y := .tuple [.str s, .str t, c]) hx0 (by rw [← hij]; exact g1) (notb hb)
          rw [e0] at k
          exact k H7 (r0.trans (e45.trans (e6.trans e7))).ext
        · have : j' = j := by omega
          subst this
          rw [hx0] at hx'
          cases hx'
          exact notb' hb
    · refine q_when (ρ := exR) (b := true) ((et_or (b := true) (et_not (et_B (ev_isi (ev_var rfl) g3 rfl))) fun _ => (et_or (b := true) (et_test (ev_neI (ev_len (ev_var rfl) hsbA) ev_c)) fun h => ?_).to (by rw [Bool.or_true])).to (by rw [Bool.or_true])) (fun hb H4 e4 => s_retV (ρ := exR) ev_c fun H5 e5 => bad H5 (e4.trans e5) ?_) (fun hb H1 e => by cases hb)
      · have h' := of_decide_eq_true (notb' h)
        exact absurd h' (by omega)
      · refine fault_no ?_
        cases q : twoPieces es with
        | false => rfl
        | true =>
          obtain ⟨s, t, c, e1, _⟩ := two_of q
          rw [e1] at h3
          exact absurd rfl h3
  · rintro σ' H' ⟨r, bv, ov, rfl, hF, hR, hB⟩
    have e0 : isTableD (.tuple ds) = true := table_yes rfl hz (fun x hx => by
      obtain ⟨j, hj, e⟩ := List.mem_iff_getElem.mp hx
      exact hF j x (by have : j < ds.length := hj; omega) (by rw [← e]; exact List.getElem?_eq_getElem hj)) fun j x y a b => hR j x y (by have := (List.getElem?_eq_some_iff.mp b).1; have : j + 1 < ds.length := this; omega) a b
    rw [e0] at k
    exact s_retV (ρ := exR) ev_c fun H4 e4 => k H4 (e02.trans (e3.trans (r.trans e4))).ext
end Slip
/-! sorted -/
namespace Slip
open PySem PySem.Spec PyProof.Rows L2
def kD : Key → PyData
  | .inl i => .int i
  | .inr s => .str s
abbrev keyT (k : List Key) : PyData := .tuple (k.map kD)
theorem kd_dp {K : Frag} {H : Hp} (k : Key) : Dp K H (kV k) (kD k) := by
  cases k with
  | inl i => exact .int i
  | inr s => exact .str s
theorem kds_dp {K : Frag} {H : Hp} : ∀ k : List Key, DpAll K H (k.map kV) (k.map kD)
  | [] => .nil
  | a :: r => .cons (kd_dp a) (kds_dp r)
theorem kds_depth : ∀ k : List Key, PyData.depthAll (k.map kD) = 0
  | [] => rfl
  | a :: r => by
    show max (kD a).depth (PyData.depthAll (r.map kD)) = 0
    rw [kds_depth r]
    cases a <;> rfl
/-- sorted(d), the keys tuples -/
def rSortT : RCa := fun xs H Q => ∃ (a : Addr) (kvs : List (List Key × V)), xs = [.ref a] ∧ Rd H a (.dT kvs) ∧ kvs.length ≤ 90000 ∧ PySem.W.AllAlike (kvs.map fun p => keyT p.1) ∧ (∀ p ∈ kvs, p.1 ≠ []) ∧
  ∀ p (ys : List (List Key × Addr)), (ys.map (·.1)).Perm (kvs.map (·.1)) → (ys.map (·.1)).Nodup → (∀ b ∈ ys, H b.2 = some (.tup (b.1.map kV))) → ys.Pairwise (fun b c => PySem.W.dataLt (keyT c.1) (keyT b.1) = false) → H p = none → Q (.ref p) (upd H p (.lst (ys.map fun b => V.ref b.2)))
section
variable {X : Cx}
theorem call_sortT (hc : X.calm = true) (hu : X.A.units + 64 < cLine) : CallR X (.builtin "sorted") rSortT := by
  intro pins s σ H xs us Q I r q
  obtain ⟨a, kvs, rfl, hd, h9, hal, hne, q⟩ := q
  obtain ⟨u, rfl, rx⟩ := r.one
  cases rx
  obtain ⟨z, hs, ks, pr, o, es, ep, ho, hx, hdt, he, hn⟩ := (show ObjOk X.prog X.w H s.heap a (.dT kvs) from hd.ok I.hok)
  have l1 : es.size = ks.length := size_of_entries he
  have l2 : kvs.length = ks.length := Paired.length pr
  refine Calls.call_function_entry PyProof.Rows.kind_sorted PyProof.Rows.plain_sorted PyProof.Rows.entry_sorted (PyProof.Rows.args_sorted1 _) ?_
  unfold Builtin.«sorted»
  refine wpAny_bind (m := checkCount "sorted" 1 1 _) (wpAny_pure ?_)
  refine wpAny_bind (PySem.W.kdu_collect (A := X.A.in1) (kdl_raw hs hx hdt) (I.ok.hd hc) ho (by omega) fun h' tk acc hk it => ?_)
  have ea : acc.toList = ks.map fun x => Value.ref x.2.1 := by
    have hl : acc.toList.length = ks.length := by rw [Array.length_toList, it.1]; exact l1
    apply List.ext_getElem?
    intro j
    rw [List.getElem?_map]
    cases hj : acc.toList[j]? with
    | none =>
      have h1 := List.getElem?_eq_none_iff.mp hj
      rw [List.getElem?_eq_none (by omega)]
      all_goals rfl
    | some v =>
      obtain ⟨en, hen, hv⟩ := it.2 j v (by rw [← Array.getElem?_toList]; exact hj)
      have qe := entry_at he j
      rw [hen] at qe
      cases hb : ks[j]? with
      | none =>
        rw [hb] at qe
        exact nomatch (show some en = none from qe)
      | some b =>
        rw [hb] at qe
        have e2 : en = entryOfKey (tupleKind (mixKind X.prog X.w)) b := Option.some.inj qe
        rw [hv, e2]
        all_goals rfl
  have I1 : Inv X pins σ H { s with heap := h', toks := tk } := I.kept hk
  have hlen : acc.toList.length = ks.length := by rw [ea, List.length_map]
  have hz : acc.toList.length ≤ sizeLine := by rw [sizeLine_eq]; omega
  refine wpAny_bind (wpAny_newList ?_ hz)
  have hoL : (h'.push (seqObj "list" acc.toList.toArray 0)).get? h'.objs.size = some (seqObj "list" acc.toList.toArray 0) := Heap.get?_push_size _ rfl
  show wpAny _ _ _ _ _ { s with heap := h'.push (seqObj "list" acc.toList.toArray 0), toks := tk }
  -- the keys, each with its place
  have hkey : ∀ b ∈ (ks.map fun x => (x.1, x.2.1)), H b.2 = some (.tup (b.1.map kV)) := by
    intro b hb
    obtain ⟨x, hx1, rfl⟩ := List.mem_map.mp hb
    have all : ∀ {l : List (List Key × V)} {m : List (List Key × Addr × Value)}, KT H l m → ∀ x ∈ m, H x.2.1 = some (.tup (x.1.map kV)) := by
      intro l m q
      induction q with
      | nil => intro x hx; exact nomatch hx
      | @cons p q ps qs hq t ih =>
        intro x hx
        rcases List.mem_cons.mp hx with e | hx
        · subst e
          rw [← hq.1]
          exact hq.2.1
        · exact ih x hx
    exact all pr x hx1
  have hsame : (ks.map fun x => (x.1, x.2.1)).map (·.1) = kvs.map (·.1) := by
    rw [List.map_map]
    have all : ∀ {l : List (List Key × V)} {m : List (List Key × Addr × Value)}, KT H l m → m.map (fun x => x.1) = l.map (·.1) := by
      intro l m q
      induction q with
      | nil => rfl
      | @cons p q ps qs hq t ih =>
        rw [List.map_cons, List.map_cons, ih, hq.1]
    exact all pr
  have hT : ∀ b ∈ (ks.map fun x => (x.1, x.2.1)), ∃ as, Reads h' (Value.ref b.2) (keyT b.1) as := fun b hb =>
    Dp.reads I1 (keyT b.1) (.ref b.2) (.ref b.2) (.tup (.inl (.inl (hkey b hb))) (kds_dp _)) rfl
  have er : PySem.W.EachIs (fun v b => v = Value.ref b.2 ∧ b ∈ (ks.map fun x => (x.1, x.2.1))) acc.toList (ks.map fun x => (x.1, x.2.1)) := by
    rw [ea]
    have gen : ∀ (l m : List (List Key × Addr × Value)), (∀ x ∈ m, x ∈ l) → PySem.W.EachIs (fun v b => v = Value.ref b.2 ∧ b ∈ (l.map fun x => (x.1, x.2.1))) (m.map fun x => Value.ref x.2.1) (m.map fun x => (x.1, x.2.1)) := by
      intro l m
      induction m with
      | nil => intro _; exact .nil
      | cons x m ih =>
        intro h
        exact .cons ⟨rfl, List.mem_map.mpr ⟨x, h x (List.mem_cons_self ..), rfl⟩⟩ (ih fun y hy => h y (List.mem_cons_of_mem _ hy))
    exact gen ks ks fun x h => h
  have al2 : PySem.W.AllAlike ((ks.map fun x => (x.1, x.2.1)).map fun b => keyT b.1) := by
    have e : (ks.map fun x => (x.1, x.2.1)).map (fun b => keyT b.1) = kvs.map fun p => keyT p.1 := by
      rw [show (fun b : List Key × Addr => keyT b.1) = keyT ∘ (·.1) from rfl, ← List.map_map, hsame, List.map_map]
      rfl
    rw [e]
    exact hal
  have sb : PySem.W.Sortable ((ks.map fun x => (x.1, x.2.1)).map fun b => keyT b.1) := .inl fun d hd => by
    obtain ⟨b, hb, rfl⟩ := List.mem_map.mp hd
    have hm : b.1 ∈ kvs.map (·.1) := by rw [← hsame]; exact List.mem_map.mpr ⟨b, hb, rfl⟩
    obtain ⟨p, hp, e⟩ := List.mem_map.mp hm
    have := hne p hp
    cases hq : b.1 with
    | nil => exact absurd (e.trans hq) this
    | cons k r => exact ⟨kD k, r.map kD, rfl⟩
  have room : ∀ b ∈ (ks.map fun x => (x.1, x.2.1)), X.A.in1.in1.units + (keyT b.1).depth < cLine := fun b _ => by
    have e1 : (keyT b.1).depth = 1 := by show PyData.depthAll (b.1.map kD) + 1 = 1; rw [kds_depth]
    rw [e1]
    have e2 : X.A.in1.in1.units = X.A.units + 1 + 1 := rfl
    omega
  have old : ∀ b o, h'.get? b = some o → (PySem.W.sortingHeap (h'.push (seqObj "list" acc.toList.toArray 0)) h'.objs.size acc.toList).get? b = some o := fun b o e =>
    PySem.W.sortingHeap_old (Nat.ne_of_lt (Heap.lt_size e)) (Heap.get?_push_of_some _ e)
  have er2 : PySem.W.EachIs (fun v b => ∃ as, Reads (PySem.W.sortingHeap (h'.push (seqObj "list" acc.toList.toArray 0)) h'.objs.size acc.toList) v (keyT b.1) as) acc.toList (ks.map fun x => (x.1, x.2.1)) := er.mono fun v b ⟨e, hb⟩ => by
    obtain ⟨as, r⟩ := hT b hb
    rw [e]
    exact ⟨as, PyProof.Rows.Reads.keeps old r⟩
  refine wpAny_bind (wpAny_holding (wpAny_call_entry PyProof.Rows.slot_list_sort ⟨_, hoL, rfl⟩ PyProof.Rows.entry_list_sort
    (PySem.W.list_sort_vals (s := { s with heap := h'.push (seqObj "list" acc.toList.toArray 0), toks := tk }) hoL (PySem.W.SortsAt.data (s := { s with heap := PySem.W.sortingHeap (h'.push (seqObj "list" acc.toList.toArray 0)) h'.objs.size acc.toList, toks := tk }) (PySem.W.each_map (R := fun v d => ∃ as, Reads (PySem.W.sortingHeap (h'.push (seqObj "list" acc.toList.toArray 0)) h'.objs.size acc.toList) v d as) (fun b : List Key × Addr => keyT b.1) er2) al2 sb (PySem.W.bound_map room)) hz ⟨_, rfl, ?_⟩)
    (PyProof.Rows.args_list_sort _)))
  have out := PySem.W.sortVals_data (h' := PySem.W.sortingHeap (h'.push (seqObj "list" acc.toList.toArray 0)) h'.objs.size acc.toList) (R := fun v b => v = Value.ref b.2 ∧ b ∈ (ks.map fun x => (x.1, x.2.1))) (enc := fun b : List Key × Addr => keyT b.1) false er er2 al2
  have eo : PySem.W.sortVals (PySem.W.dataKind (PySem.W.sortingHeap (h'.push (seqObj "list" acc.toList.toArray 0)) h'.objs.size acc.toList) ((ks.map fun x => (x.1, x.2.1)).map fun b => keyT b.1)) false acc.toList acc.toList = ((ks.map fun x => (x.1, x.2.1)).mergeSort (PySem.W.dataLe false fun b => keyT b.1)).map (fun b => Value.ref b.2) := by
    have gen : ∀ {l : List Value} {m : List (List Key × Addr)}, PySem.W.EachIs (fun v b => v = Value.ref b.2 ∧ b ∈ (ks.map fun x => (x.1, x.2.1))) l m → l = m.map fun b => Value.ref b.2 := by
      intro l m h
      induction h with
      | nil => rfl
      | cons h t ih => rw [List.map_cons, h.1, ih]
    exact gen out
  have pm : ((ks.map fun x => (x.1, x.2.1)).mergeSort (PySem.W.dataLe false fun b => keyT b.1)).Perm (ks.map fun x => (x.1, x.2.1)) := List.mergeSort_perm _ _
  have pw := PySem.W.sort_pairwise (PySem.W.sortLe_total (listOrd itemOrd) false fun b : List Key × Addr => PySem.W.keyToks (keyT b.1)) (ks.map fun x => (x.1, x.2.1))
  generalize hys : (ks.map fun x => (x.1, x.2.1)).mergeSort (PySem.W.dataLe false fun b => keyT b.1) = ys at eo pm
  have pw' : ys.Pairwise fun b c => PySem.W.dataLt (keyT c.1) (keyT b.1) = false := by
    rw [← hys]
    refine pw.imp fun {b c} h => ?_
    have h' : (!PySem.W.dataLt (keyT c.1) (keyT b.1)) = true := h
    exact notb h'
  rw [eo]
  obtain ⟨e', he'⟩ := PyProof.Rows.sortedHeap_at (vs := acc.toList) (out := (ys.map fun b => Value.ref b.2).toArray) hoL
  have hpm := pm.map (·.1)
  rw [hsame] at hpm
  have hlen2 : (ys.map fun b => V.ref b.2).length ≤ sizeLine := by
    rw [List.length_map, pm.length_eq, List.length_map, sizeLine_eq]
    omega
  have hvals : Vals (ys.map fun b => V.ref b.2) (ys.map fun b => Value.ref b.2) := by
    have gen : ∀ l : List (List Key × Addr), Vals (l.map fun b => V.ref b.2) (l.map fun b => Value.ref b.2) := fun l => by
      induction l with
      | nil => exact .nil
      | cons x l ih => exact .cons rfl ih
    exact gen ys
  have hnd : (ys.map (·.1)).Nodup := by
    have h1 : (kvs.map (·.1)).Nodup := by
      rw [← hsame, List.map_map]
      exact hn
    exact hpm.nodup_iff.mpr h1
  refine wpAny_pure ⟨_, rfl, .ref h'.objs.size, upd H h'.objs.size (.lst (ys.map fun b => V.ref b.2)), I1.laid (t' := tk) (fun b u e => ?_) (Nat.le_refl _)
    (show ObjOk X.prog X.w _ _ _ (.lst (ys.map fun b => V.ref b.2)) from ⟨hlen2, ys.map fun b => Value.ref b.2, e', hvals, he'⟩), rfl, q _ ys hpm hnd (fun b hb => hkey b (pm.mem_iff.mp hb)) pw' (I1.hok.fresh (Nat.le_refl _))⟩
  have hb : b < h'.objs.size := Heap.lt_size e
  rw [PyProof.Rows.sortedHeap_old (Nat.ne_of_lt hb) (by rw [size_push']; exact Nat.lt_succ_of_lt hb)]
  exact Heap.get?_push_of_some _ e
end
def rSortU (K : Frag) : RCa := rSortT
theorem call_sortU {X : Cx} (hc : X.calm = true) (hu : X.A.units + 64 < cLine) : CallR X (.builtin "sorted") (rSortU X.K) := call_sortT hc hu
end Slip
/-! a drawn table -/
namespace Slip
open PySem PySem.Spec PyProof.Rows L2
/-! ### order -/
theorem toks_same {x y : PyData} (al : PySem.W.alike x y = true) (h : PySem.W.keyToks x = PySem.W.keyToks y) : PyData.eqv x y = true := by
  cases q : PyData.eqv x y with
  | true => rfl
  | false =>
    have h1 := (PySem.W.toks_eqv x y al).2 q [] [.inl 0]
    have h2 := PySem.W.lex_pre (PySem.W.keyToks y) [] [.inl 0]
    rw [h, h2, lex_irrefl] at h1
    exact absurd h1 (by decide)
theorem lt_strict {x y : PyData} (al : PySem.W.alike x y = true) (ne : PyData.eqv x y = false) (h : PySem.W.dataLt y x = false) : PySem.W.dataLt x y = true := by
  cases q : PySem.W.dataLt x y with
  | true => rfl
  | false =>
    have := toks_same al (lex_total (O := itemOrd) _ _ q h)
    rw [ne] at this
    cases this
theorem put_mem {κ : Type} [DecidableEq κ] {kvs : List (κ × V)} {k : κ} {v : V} {p : κ × V} (h : p ∈ putK kvs k v) : p ∈ kvs ∨ p = (k, v) := by
  unfold putK at h
  split at h
  · obtain ⟨q, hq, e⟩ := List.mem_map.mp h
    by_cases z : q.1 = k
    · rw [if_pos z] at e
      right
      rw [← e, z]
    · rw [if_neg z] at e
      left
      rw [← e]
      exact hq
  · rcases List.mem_append.mp h with h | h
    · exact .inl h
    · exact .inr (by simpa using h)
theorem val_mem {κ : Type} [DecidableEq κ] : ∀ {kvs : List (κ × V)} {p : κ × V}, p ∈ kvs → ∃ v, valV kvs p.1 = some v ∧ (p.1, v) ∈ kvs
  | q :: kvs, p, h => by
    by_cases z : q.1 = p.1
    · exact ⟨q.2, valV_pos z, by rw [← z]; exact List.mem_cons_self ..⟩
    · rcases List.mem_cons.mp h with rfl | h
      · exact absurd rfl z
      · obtain ⟨v, h1, h2⟩ := val_mem h
        exact ⟨v, by rw [valV_neg z, h1], List.mem_cons_of_mem _ h2⟩
/-! ### tables -/
def Ent (p : List Key × V) : Prop := ∃ (s t : Str) (c : Int), p = ([.inr s, .inr t], .int c) ∧ isPieceD (.str s) = true ∧ isPieceD (.str t) = true ∧ s ≠ t ∧ 1 ≤ c ∧ c ≤ 9
def entD (kvs : List (List Key × V)) (k : List Key) : PyData :=
  match k, valV kvs k with
  | [.inr s, .inr t], some (.int c) => .tuple [.str s, .str t, .int c]
  | _, _ => .none
theorem ent_at {kvs : List (List Key × V)} (he : ∀ p ∈ kvs, Ent p) {k : List Key} (hk : k ∈ kvs.map (·.1)) : ∃ (s t : Str) (c : Int), k = [.inr s, .inr t] ∧ valV kvs k = some (.int c) ∧ entD kvs k = .tuple [.str s, .str t, .int c] ∧ isPieceD (.str s) = true ∧ isPieceD (.str t) = true ∧ s ≠ t ∧ 1 ≤ c ∧ c ≤ 9 := by
  obtain ⟨p, hp, rfl⟩ := List.mem_map.mp hk
  obtain ⟨v, hv, hm⟩ := val_mem hp
  obtain ⟨s, t, c, e, h1, h2, h3, h4, h5⟩ := he _ hm
  have e1 : p.1 = [.inr s, .inr t] := congrArg Prod.fst e
  have e2 : v = .int c := congrArg Prod.snd e
  rw [e2] at hv
  refine ⟨s, t, c, e1, hv, ?_, h1, h2, h3, h4, h5⟩
  rw [e1] at hv ⊢
  unfold entD
  rw [hv]
theorem table_of {kvs : List (List Key × V)} {ys : List (List Key × Addr)} (he : ∀ p ∈ kvs, Ent p) (hp : (ys.map (·.1)).Perm (kvs.map (·.1))) (nd : (ys.map (·.1)).Nodup) (pw : ys.Pairwise (fun b c => PySem.W.dataLt (keyT c.1) (keyT b.1) = false)) (h8 : kvs.length ≤ 8) :
    isTableD (.tuple (ys.map fun b => entD kvs b.1)) = true := by
  have hl : ys.length = kvs.length := by
    have := hp.length_eq
    rwa [List.length_map, List.length_map] at this
  have at_ : ∀ (j : Nat) b, ys[j]? = some b → ∃ (s t : Str) (c : Int), b.1 = [.inr s, .inr t] ∧ valV kvs b.1 = some (.int c) ∧ entD kvs b.1 = .tuple [.str s, .str t, .int c] ∧ isPieceD (.str s) = true ∧ isPieceD (.str t) = true ∧ s ≠ t ∧ 1 ≤ c ∧ c ≤ 9 := fun j b hb =>
    ent_at he (hp.mem_iff.mp (List.mem_map.mpr ⟨b, List.mem_of_getElem? hb, rfl⟩))
  refine table_yes rfl (by show (ys.map _).length ≤ 8; rw [List.length_map]; omega) (fun x hx => ?_) fun j x y a b => ?_
  · obtain ⟨b, hb, rfl⟩ := List.mem_map.mp (show x ∈ ys.map fun b => entD kvs b.1 from hx)
    obtain ⟨j, hj, e⟩ := List.mem_iff_getElem.mp hb
    obtain ⟨s, t, c, _, _, e3, h1, h2, h3, h4, h5⟩ := at_ j b (by rw [← e]; exact List.getElem?_eq_getElem hj)
    show isFaultD (entD kvs b.1) = true
    rw [e3, fault_tup, h1, h2, eqv_str, decide_eq_false h3]
    show (decide ((1 : Int) ≤ c) && decide (c ≤ 9)) = true
    rw [decide_eq_true h4, decide_eq_true h5]
    rfl
  · have a' : (ys.map fun b => entD kvs b.1)[j]? = some x := a
    have b' : (ys.map fun b => entD kvs b.1)[j + 1]? = some y := b
    rw [List.getElem?_map] at a' b'
    cases qa : ys[j]? with
    | none => rw [qa] at a'; cases a'
    | some u =>
    cases qb : ys[j + 1]? with
    | none => rw [qb] at b'; cases b'
    | some w =>
    rw [qa] at a'
    rw [qb] at b'
    cases a'
    cases b'
    obtain ⟨hj, ej⟩ := List.getElem?_eq_some_iff.mp qa
    obtain ⟨hk, ek⟩ := List.getElem?_eq_some_iff.mp qb
    have h1 := List.pairwise_iff_getElem.mp pw j (j + 1) hj hk (Nat.lt_succ_self j)
    rw [ej, ek] at h1
    have h2 := List.pairwise_iff_getElem.mp nd j (j + 1) (by rw [List.length_map]; exact hj) (by rw [List.length_map]; exact hk) (Nat.lt_succ_self j)
    rw [List.getElem_map, List.getElem_map, ej, ek] at h2
    obtain ⟨s, t, c, k1, _, e1, _⟩ := at_ j u qa
    obtain ⟨s', t', c', k2, _, e2, _⟩ := at_ (j + 1) w qb
    show PySem.W.dataLt (pairOf (entD kvs u.1)) (pairOf (entD kvs w.1)) = true
    rw [e1, e2, pair_fault (d := .tuple [.str s, .str t, .int c]) rfl, pair_fault (d := .tuple [.str s', .str t', .int c']) rfl]
    rw [k1, k2] at h1 h2
    refine lt_strict rfl ?_ h1
    cases q : PyData.eqv (.tuple [.str s, .str t]) (.tuple [.str s', .str t']) with
    | false => rfl
    | true =>
      have q' : (PyData.eqv (.str s) (.str s') && (PyData.eqv (.str t) (.str t') && true)) = true := q
      rw [eqv_str, eqv_str, Bool.and_true] at q'
      have q2 : s = s' ∧ t = t' := by simpa using q'
      rw [q2.1, q2.2] at h2
      exact absurd rfl h2
theorem piece_of {s : Str} (h : s.length ≤ 2) (hc : ∀ c ∈ s.cps.toList, c ∈ letters) : isPieceD (.str s) = true := by
  show ((s.cps.toList.all fun c => decide (c ∈ letters)) && decide ((s.length : Int) ≤ 2)) = true
  rw [decide_eq_true (by omega), Bool.and_true, List.all_eq_true]
  exact fun c h => decide_eq_true (hc c h)
/-! ### rules -/
section
variable {ρ : Rl} {K : Frag} {σ : L2.St} {H : Hp} {ta tb te : TE} {xs : List V} {R : V → Hp → Prop} {wi : TI} {g : TG} {tt : TT} {vs : List Nat} {C : Nat → (Nat → Hp → V → Hp → Prop) → Prop}
/-- a list display, at a drawn place -/
theorem ev_ixNew (h1 : Ev ρ ta σ H (fun v H2 => ∃ p, v = .ref p ∧ ¬ ρ.S p ∧ H2 p = some (.lst xs))) (h2 : ∀ H1, ρ.r H H1 → Ev ρ tb σ H1 (fun v _ => ∃ m : Int, v = .int m ∧ 0 ≤ m ∧ m < (xs.length : Int))) : Ev ρ (tIxU K ta tb) σ H (fun v _ => ∃ m : Nat, xs[m]? = some v) :=
  fun H1 e1 Q q => .inl (h1 H1 e1 _ fun v H2 e2 ⟨p, ev, nS, hp⟩ => h2 H2 (e1.trans e2) H2 .rfl _ fun w H3 e3 ⟨m, ew, h0, hm⟩ => by
    subst ev ew
    have hm' : m.toNat < xs.length := by omega
    have g : xs[m.toNat]? = some xs[m.toNat] := List.getElem?_eq_getElem hm'
    have g2 : atI xs m = some xs[m.toNat] := by
      have := atI_nat g
      rwa [show ((m.toNat : Nat) : Int) = m by omega] at this
    exact .inl ⟨p, xs, m, _, rfl, rfl, .of (e3.keep _ _ nS hp), g2, q _ H3 (e2.trans e3) ⟨_, g⟩⟩)
/-- a new list of known things -/
theorem ev_lstN {ts : TA} (own : Own ρ H) (h : EvAV ρ ts σ H xs) (hl : xs.length ≤ 100000) : Ev ρ (tLst ts) σ H (fun v H2 => ∃ p, v = .ref p ∧ ¬ ρ.S p ∧ H2 p = some (.lst xs)) :=
  (ev_lst h fun vs H1 _ e => by rw [e]; exact hl).imp fun v H2 r ⟨p, vs, H1, ev, evs, hp, r1, eH⟩ => by
    subst ev evs
    exact ⟨p, rfl, (own.r r1).fresh hp, by rw [eH]; exact upd_same⟩
/-- a comprehension over what is not known ahead -/
theorem ev_lcx (hI : EvIx ρ wi σ H C) (h : ∀ n Y H1 J, C n Y → ρ.r H H1 → EvI ρ (fun _ H2 R => R J H2) σ H1 n Y → Ev ρ (tLc (fun _ H2 R => R J H2) g tt te vs) σ H1 R) : Ev ρ (tLc wi g tt te vs) σ H R := fun H0 e0 Q q =>
  hI H0 e0 _ fun n Y J H2 c e2 w => h n Y H2 J c (e0.trans e2) (fun H1 e1 R k => k J H1 .rfl (w.mono (fun H3 e3 => e1.trans e3) fun _ _ _ _ _ _ y => y)) H2 .rfl Q fun v H3 e3 r => q v H3 (e2.trans e3) r
/-- another dict at D -/
theorem r_chgT {D : Addr} {kvs kvs' : List (List Key × V)} (h : H D = some (.dT kvs)) (n : ¬ ρ.S D) : (ρ.and D).r H (upd H D (.dT kvs')) :=
  ⟨fun a o s q => by rw [upd_ne (fun z => s (.inr z))]; exact q,
   fun a q => by
    by_cases z : a = D
    · subst z; rw [upd_same] at q; cases q
    · rw [upd_ne z] at q; exact q,
   fun a xs q => by rw [upd_ne (ne_of q h (by intro z; cases z))]; exact q, fun a o u q => by rw [upd_ne (ne_of q h (by intro z; cases z))]; exact q,
   fun a p ⟨k, h0, q⟩ => ⟨k, h0, by rw [upd_ne (fun z : a = D => n (z ▸ ρ.sub a p))]; exact q⟩⟩
end
/-- sorted(d), walked -/
theorem eix_sortT {ρ : Rl} {K : Frag} {σ : L2.St} {H : Hp} {te : TE} {D : Addr} {kvs : List (List Key × V)} (own : Own ρ H) (h : EvV ρ te σ H (.ref D)) (hD : ∀ H1, ρ.r H H1 → H1 D = some (.dT kvs)) (hl : kvs.length ≤ 90000) (al : PySem.W.AllAlike (kvs.map fun p => keyT p.1)) (ne : ∀ p ∈ kvs, p.1 ≠ []) :
    EvIx ρ (iSeq K (tCB (rSortU K) (tCons te tNil))) σ H (fun n Y => ∃ ys : List (List Key × Addr), (ys.map (·.1)).Perm (kvs.map (·.1)) ∧ (ys.map (·.1)).Nodup ∧ ys.Pairwise (fun b c => PySem.W.dataLt (keyT c.1) (keyT b.1) = false) ∧ n = ys.length ∧ Y = fun i H v H' => H' = H ∧ ∃ b, ys[i]? = some b ∧ v = .ref b.2 ∧ H b.2 = some (.tup (b.1.map kV))) := fun H1 e1 R k =>
  .inl (h H1 e1 _ fun v H2 e2 ev => by
    subst ev
    refine ⟨D, kvs, rfl, .inl (hD H2 (e1.trans e2)), hl, al, ne, fun p ys hp hn hk pw hnew => ⟨p, rfl, ⟨_, .of upd_same⟩, ?_⟩⟩
    have nS : ¬ ρ.S p := (own.r (e1.trans e2)).fresh hnew
    have r2 : ρ.r H2 (upd H2 p (.lst (ys.map fun b => V.ref b.2))) := r_new _ hnew
    refine k ys.length _ _ _ ⟨ys, hp, hn, pw, rfl, rfl⟩ (e2.trans r2) ?_
    have w := walk_list (K := K) (a := p) (xs := ys.map fun b => V.ref b.2)
    rw [List.length_map] at w
    refine w.mono (fun H3 e3 => .of (e3.keep _ _ nS upd_same)) fun i H3 v H4 hi e3 y => ⟨y.1, ?_⟩
    have y2 := y.2
    rw [List.getElem?_map] at y2
    cases q : ys[i]? with
    | none => rw [q] at y2; cases y2
    | some b =>
      rw [q] at y2
      cases y2
      exact ⟨b, rfl, rfl, (r2.trans e3).tup _ _ (hk b (List.mem_of_getElem? q))⟩)
def sp__law_table (K : Frag) : Sp := fun vs H Q _ => ∃ (ra sp : Addr) (many : Int) (z : Str), vs = [.ref ra, .ref sp, .int many, .str z] ∧ Dr K ra sp H ∧ 0 ≤ many ∧ many ≤ 8 ∧ Few z ∧ ∀ v ds H', (spR sp).r H H' → DS (spR sp) H' v (.tuple ds) → noLists ds = true → isTableD (.tuple ds) = true → Q v H'
theorem len__law_table {K : Frag} {vs : List V} {H : Hp} {Q : VK} {E : XK} (h : sp__law_table K vs H Q E) : vs.length = 4 := by
  obtain ⟨ra, sp, m, z, rfl, _⟩ := h
  rfl
def t__law_table (K : Frag) : TS := (tSeq (tAsg tDNewT (gName 4)) (tSeq (tFor (iRng1 (tCons (tCall (sp__law_take K) [] E0 (tCons (tVar 0) (tCons (tVar 1) (tCons (tOp (rAddU K) (tVar 2) (tC (.int 1))) tNil)))) tNil)) (gName 5) (tSeq (tAsg (tCall (sp__law_take K) [] E0 (tCons (tVar 0) (tCons (tVar 1) (tCons (tC (.int 6)) tNil)))) (gName 6)) (tSeq (tAsg (tCall (sp__law_letters K) [] E0 (tCons (tVar 0) (tCons (tVar 1) (tCons (tC (.int 2)) (tCons (tVar 3) tNil))))) (gName 7)) (tSeq (tAsg (tCall (sp__law_letters K) [] E0 (tCons (tVar 0) (tCons (tVar 1) (tCons (tC (.int 2)) (tCons (tVar 3) tNil))))) (gName 8)) (tSeq (tIfS (tTest (tOp (rEqU K) (tVar 6) (tC (.int 0)))) (tAsg (tC (.str "")) (gName 7)) (tIfS (tTest (tOp (rEqU K) (tVar 6) (tC (.int 1)))) (tAsg (tC (.str "")) (gName 8)) (tIfS (tAnd (tTest (tOp (rEqU K) (tVar 6) (tC (.int 2)))) (tTest (tOp (rEqU K) (tCB (rLenU K) (tCons (tVar 7) tNil)) (tC (.int 2))))) (tAsg (tOp (rAddU K) (tIxU K (tVar 7) (tC (.int 1))) (tIxU K (tVar 7) (tC (.int 0)))) (gName 8)) tNext))) (tIfS (tTest (tOp (rNeU K) (tVar 7) (tVar 8))) (tAsg (tOp (rAddU K) (tC (.int 1)) (tCall (sp__law_take K) [] E0 (tCons (tVar 0) (tCons (tVar 1) (tCons (tIxU K (tLst (tCons (tC (.int 2)) (tCons (tC (.int 3)) (tCons (tC (.int 9)) tNil)))) (tCall (sp__law_take K) [] E0 (tCons (tVar 0) (tCons (tVar 1) (tCons (tC (.int 3)) tNil))))) tNil))))) (gSub (tVar 4) (tTup (tCons (tVar 7) (tCons (tVar 8) tNil))) (rSetU K))) tNext)))))) (tRet (tCB (rTupOf K) (tCons (tLc (iSeq K (tCB (rSortU K) (tCons (tVar 4) tNil))) (gName 7) tYes (tOp (rAddU K) (tVar 7) (tTup (tCons (tIxU K (tVar 4) (tVar 7)) tNil))) [7]) tNil)))))
theorem ent_alike {kvs : List (List Key × V)} (he : ∀ p ∈ kvs, Ent p) : PySem.W.AllAlike (kvs.map fun p => keyT p.1) := by
  intro d hd e hd2
  obtain ⟨p, hp, rfl⟩ := List.mem_map.mp hd
  obtain ⟨q, hq, rfl⟩ := List.mem_map.mp hd2
  obtain ⟨s, t, c, rfl, _⟩ := he p hp
  obtain ⟨s', t', c', rfl, _⟩ := he q hq
  rfl
theorem ent_nonempty {kvs : List (List Key × V)} (he : ∀ p ∈ kvs, Ent p) : ∀ p ∈ kvs, p.1 ≠ [] := by
  intro p hp
  obtain ⟨s, t, c, rfl, _⟩ := he p hp
  intro z
  cases z
theorem two_str {s : Str} (h : s.length = 2) : ∃ a b, s.cps.toList = [a, b] := by
  have h2 : s.cps.toList.length = 2 := by rw [len_cps]; exact h
  match hq : s.cps.toList, h2 with
  | [a, b], _ => exact ⟨a, b, rfl⟩
theorem noLists_map {α : Type} {f : α → PyData} : ∀ {l : List α}, (∀ a ∈ l, noList (f a) = true) → noLists (l.map f) = true
  | [], _ => rfl
  | a :: l, h => by
    show (noList (f a) && noLists (l.map f)) = true
    rw [h a (List.mem_cons_self ..), noLists_map fun b hb => h b (List.mem_cons_of_mem _ hb)]
    rfl
/-! ### a walk of unknown length beside a body that changes more -/
def EvWx (ρ ρw : Rl) (wi : TI) (σ : L2.St) (H : Hp) (C : Nat → (Nat → Hp → V → Hp → Prop) → Prop) : Prop :=
  ∀ H1, ρ.r H H1 → ∀ R : It → Hp → Prop, (∀ n Y J H2, C n Y → ρ.r H1 H2 → Walk J n (fun H3 => ρw.r H2 H3) Y → R J H2) → wi σ H1 R
section
variable {ρ ρw : Rl} {σ : L2.St} {H : Hp} {te : TE} {D : Ends} {tz tu : TS} {wi : TI} {g : TG} {C : Nat → (Nat → Hp → V → Hp → Prop) → Prop}
theorem q_forxw (h : EvWx ρ ρw wi σ H C) (k : ∀ n Y H1, C n Y → ρ.r H H1 → ∃ Pv : Nat → L2.St → Hp → Prop, Pv 0 σ H1 ∧ (∀ i σ' H', i ≤ n → Pv i σ' H' → ρw.r H1 H') ∧
    (∀ i x σ' H' H'', i < n → Pv i σ' H' → Y i H' x H'' → g x σ' H'' fun σ2 H2 => tu { D with nx := Pv (i + 1), ct := Pv (i + 1), bk := tz D } σ2 H2) ∧ ∀ σ' H', Pv n σ' H' → tz D σ' H') : tSeq (tFor wi g tu) tz D σ H :=
  h H .rfl _ fun n Y J H1 c e w => by
    obtain ⟨Pv, h0, hr, hs, hd⟩ := k n Y H1 c e
    exact for_it (D := { D with nx := tz D }) w Pv h0 hr hs hd
theorem ewx_rng {lim : Int} (h : Ev ρ te σ H (fun v _ => ∃ m : Int, v = .int m ∧ 0 ≤ m ∧ m < lim)) (hl : lim ≤ 1000000) : EvWx ρ ρw (iRng1 (tCons te tNil)) σ H (fun n Y => (n : Int) < lim ∧ Y = YFn fun m => .int ((m : Nat) : Int)) := fun H1 e1 R k =>
  h H1 e1 _ fun v H2 e2 ⟨m, ev, h0, h1⟩ => ⟨m, by rw [ev], by omega, by omega, k m.toNat _ _ H2 ⟨by omega, rfl⟩ e2 (walk_range.mono (fun _ _ => trivial) fun i H3 x H4 _ _ y => ⟨y.1, by rw [y.2]; exact congrArg V.int (Int.zero_add _)⟩)⟩
end
def OkP (s : Str) : Prop := s.length ≤ 2 ∧ ∀ c ∈ s.cps.toList, c ∈ letters
theorem okp_nil : OkP "" := ⟨by decide +kernel, fun c hc => by
  have : ("" : Str).cps.toList = [] := by decide +kernel
  rw [this] at hc
  cases hc⟩
theorem pure__law_table {K : Frag} (vs : List V) (H : Hp) (Q : VK) (E : XK) (h : sp__law_table K vs H Q E) : t__law_table K { nx := fun _ H' => Q .non H', rt := Q } (start ["row", "spot", "many", "few", "held", "k", "kind", "one", "other"] vs) H := by
  obtain ⟨ra, sp, many, z, rfl, dr, m0, m8, few, k⟩ := h
  have own := own_sp dr
  refine q_asg (ρ := spR sp) (R := fun v H' => ∃ D, v = .ref D ∧ H D = none ∧ H' D = some (.dT [])) (fun H1 e1 Q q p hp => q _ _ (r_new _ hp) ⟨p, rfl, e1.back p hp, upd_same⟩) fun v H1 e1 ⟨D, ev, hD0, hD⟩ => ?_
  subst ev
  have nD : ¬ (spR sp).S D := own.fresh hD0
  have dr1 := dr.sp e1
  have hz := few.pos
  have hz6 := few.le
  refine q_forxw (ρ := spR sp) (ρw := (spR sp).and D) (ewx_rng (lim := many + 1) (ev_take (ev_var rfl) (ev_var rfl) (ev_add (ev_var rfl) ev_c) dr1 (by omega)) (by omega)) fun n Y H2 ⟨hn, hY⟩ e2 => ⟨fun i σ' H' => ((spR sp).and D).r H2 H' ∧ ∃ (kvs : List (List Key × V)) (kv kd on ot : Option V), σ' = [some (.ref ra), some (.ref sp), some (.int many), some (.str z), some (.ref D), kv, kd, on, ot] ∧ H' D = some (.dT kvs) ∧ kvs.length ≤ i ∧ ∀ p ∈ kvs, Ent p, ⟨.rfl, [], none, none, none, none, rfl, e2.keep _ _ nD hD, Nat.le_refl _, fun p hp => nomatch hp⟩, fun i σ' H' _ h => h.1, ?_, ?_⟩
  · subst hY
    rintro i x σ' H' H'' hi ⟨r, kvs, kv, kd, on, ot, rfl, hDk, hlen, hent⟩ ⟨e5, rfl⟩
    subst e5
    have rH : (spR sp).r H H'' := r_and (e1.trans e2) hD0 r
    have dr2 : Dr K ra sp H'' := dr.sp rH
    refine q_asg (ρ := spR sp) (ev_take (ev_var rfl) (ev_var rfl) ev_c dr2 (by decide)) fun v H3 e3 ⟨m, ev, _, _⟩ => ?_
    subst ev
    refine q_asg (ρ := spR sp) (ev_letters (ev_var rfl) (ev_var rfl) ev_c (ev_var rfl) (dr2.sp e3) (by decide) (by decide) hz (by omega)) fun v H4 e4 ⟨s, ev, hs2, hsz⟩ => ?_
    subst ev
    refine q_asg (ρ := spR sp) (ev_letters (ev_var rfl) (ev_var rfl) ev_c (ev_var rfl) (dr2.sp (e3.trans e4)) (by decide) (by decide) hz (by omega)) fun v H5 e5 ⟨t, ev, ht2, htz⟩ => ?_
    subst ev
    have e35 := e3.trans (e4.trans e5)
    have oks : OkP s := ⟨by omega, fun c hc => few.low c (hsz c hc)⟩
    have okt : OkP t := ⟨by omega, fun c hc => few.low c (htz c hc)⟩
    have fin : ∀ D' : Ends, (∀ σ2 H2', (((spR sp).and D).r H2 H2' ∧ ∃ (kvs : List (List Key × V)) (kv kd on ot : Option V), σ2 = [some (.ref ra), some (.ref sp), some (.int many), some (.str z), some (.ref D), kv, kd, on, ot] ∧ H2' D = some (.dT kvs) ∧ kvs.length ≤ i + 1 ∧ ∀ p ∈ kvs, Ent p) → D'.nx σ2 H2') → ∀ (s t : Str) H6, (spR sp).r H5 H6 → OkP s → OkP t → (tIfS (tTest (tOp (rNeU K) (tVar 7) (tVar 8))) (tAsg (tOp (rAddU K) (tC (.int 1)) (tCall (sp__law_take K) [] E0 (tCons (tVar 0) (tCons (tVar 1) (tCons (tIxU K (tLst (tCons (tC (.int 2)) (tCons (tC (.int 3)) (tCons (tC (.int 9)) tNil)))) (tCall (sp__law_take K) [] E0 (tCons (tVar 0) (tCons (tVar 1) (tCons (tC (.int 3)) tNil))))) tNil))))) (gSub (tVar 4) (tTup (tCons (tVar 7) (tCons (tVar 8) tNil))) (rSetU K))) tNext) D' [some (.ref ra), some (.ref sp), some (.int many), some (.str z), some (.ref D), some (.int (i : Int)), some (.int m), some (.str s), some (.str t)] H6 := by
      intro D' hD' s t H6 e6 oks okt
      have e06 : (spR sp).r H'' H6 := e35.trans e6
      refine s_if (ρ := spR sp) (et_test (ev_neS (ev_var rfl) (ev_var rfl))) (fun hb H7 e7 => ?_) (fun hb H7 e7 => hD' _ _ ⟨r.trans (and_of (e06.trans e7)), kvs, _, _, _, _, rfl, (e06.trans e7).keep _ _ nD hDk, by omega, hent⟩)
      have hst : s ≠ t := of_decide_eq_false (notb hb)
      have e07 := e06.trans e7
      have dr7 := dr2.sp e07
      have hixL := ev_ixNew (ρ := spR sp) (K := K) (H := H7) (σ := [some (.ref ra), some (.ref sp), some (.int many), some (.str z), some (.ref D), some (.int (i : Int)), some (.int m), some (.str s), some (.str t)]) (xs := [.int 2, .int 3, .int 9]) (ev_lstN (own_sp dr7) (ea_cons ev_c (ea_cons ev_c (ea_cons ev_c ea_nil))) (by show 3 ≤ 100000; decide)) (fun H8 e8 => ev_take (E := E0) (ta := tVar 0) (tb := tVar 1) (tc := tC (.int 3)) (lim := (([V.int 2, V.int 3, V.int 9].length : Nat) : Int)) (ev_var rfl) (ev_var rfl) ev_c (dr7.sp e8) (by decide))
      have hargs : EvA (spR sp) (tCons (tVar 0) (tCons (tVar 1) (tCons (tIxU K (tLst (tCons (tC (.int 2)) (tCons (tC (.int 3)) (tCons (tC (.int 9)) tNil)))) (tCall (sp__law_take K) [] E0 (tCons (tVar 0) (tCons (tVar 1) (tCons (tC (.int 3)) tNil))))) tNil))) [some (.ref ra), some (.ref sp), some (.int many), some (.str z), some (.ref D), some (.int (i : Int)), some (.int m), some (.str s), some (.str t)] H7 (fun vs _ => ∃ l : Int, vs = [.ref ra, .ref sp, .int l] ∧ 0 < l ∧ l ≤ 9) :=
        (ea_consP (Pa := fun v => v = .ref ra) (ev_var rfl) (ea_consP (Pa := fun v => v = .ref sp) (ev_var rfl) (ea_consP (Pr := fun ws => ws = []) hixL ea_nil))).imp fun vs H1 _ ⟨x, ws, e1, ex, y, ws', e2, ey, u, ws'', e3, ⟨m', hm'⟩, e4⟩ => by
          subst e1 ex e2 ey e3 e4
          match m', hm' with
          | 0, h => cases h; exact ⟨2, rfl, by decide, by decide⟩
          | 1, h => cases h; exact ⟨3, rfl, by decide, by decide⟩
          | 2, h => cases h; exact ⟨9, rfl, by decide, by decide⟩
      have hval := ev_opP (r := rAddU K) (R := fun v _ => ∃ c : Int, v = .int c ∧ 1 ≤ c ∧ c ≤ 9) (Pa := fun v => v = .int 1) (Pb := Below 9) (ev_c (v := .int 1)) (ev_callR (sp := sp__law_take K) (E := E0) (R := fun v _ => Below 9 v) hargs fun vs H1 e ⟨l, evs, l0, l9⟩ => by
        subst evs
        exact fun H2 e2 Q q E => ⟨ra, sp, l, rfl, (dr7.sp (e.trans e2)), l0, fun n H' h0 h1 e => q _ H' e ⟨n, rfl, h0, by omega⟩⟩) (fun x y ex ⟨l, ey, l0, l9⟩ => by
        subst ex ey
        exact fun H2 e2 Q q => .inl ⟨1, l, rfl, rfl, q _ H2 .rfl ⟨1 + l, rfl, by omega, by omega⟩⟩)
      refine hval H7 .rfl _ fun v H8 e8 ⟨c, ev, c1, c9⟩ => ?_
      subst ev
      refine ev_var (ρ := spR sp) (v := .ref D) rfl H8 .rfl _ fun o H9 e9 eo => ?_
      subst eo
      refine (ev_tup (ρ := spR sp) (ea_cons (ev_var (v := .str s) rfl) (ea_cons (ev_var (v := .str t) rfl) ea_nil)) (fun vs H1 _ e => by rw [e]; show 2 ≤ 100000; decide)) H9 .rfl _ fun u H10 e10 ⟨b, ws, Hx, eu, ews, hb0, rx, eH⟩ => ?_
      subst eu ews
      have e010 := e07.trans (e8.trans (e9.trans e10))
      have hD10 : H10 D = some (.dT kvs) := e010.keep _ _ nD hDk
      have hb10 : H10 b = some (.tup (([.inr s, .inr t] : List Key).map kV)) := by rw [eH]; exact upd_same
      refine .inr ⟨D, _, rfl, DPut.t (k := [.inr s, .inr t]) hD10 hb10 (Evl.sz_lt (by omega)), hD' _ _ ⟨(r.trans (and_of e010)).trans (r_chgT hD10 nD), putK kvs [.inr s, .inr t] (.int c), _, _, _, _, rfl, upd_same, ?_, ?_⟩⟩
      · have := length_putK kvs [.inr s, .inr t] (.int c)
        omega
      · intro p hp
        rcases put_mem hp with h | rfl
        · exact hent p h
        · exact ⟨s, t, c, rfl, piece_of oks.1 oks.2, piece_of okt.1 okt.2, hst, c1, c9⟩
    refine q_if (ρ := spR sp) (et_test (ev_eqI (ev_var rfl) ev_c)) (fun hb H6 e6 => s_asgV (ρ := spR sp) ev_c fun H7 e7 => fin _ (fun _ _ h => h) "" t H7 (e6.trans e7) okp_nil okt) (fun hb H6 e6 => ?_)
    refine s_if (ρ := spR sp) (et_test (ev_eqI (ev_var rfl) ev_c)) (fun hb H7 e7 => s_asgV (ρ := spR sp) ev_c fun H8 e8 => fin _ (fun _ _ h => h) s "" H8 (e6.trans (e7.trans e8)) oks okp_nil) (fun hb H7 e7 => ?_)
    refine s_if (ρ := spR sp) (et_and (et_test (ev_eqI (ev_var rfl) ev_c)) fun _ => et_test (ev_eqI (ev_lenS (ev_var rfl) (by have := oks.1; omega)) ev_c)) (fun hb H8 e8 => ?_) (fun hb H8 e8 => fin _ (fun _ _ h => h) s t H8 (e6.trans (e7.trans e8)) oks okt)
    have hs2' : s.length = 2 := by
      have hb' : m = 2 ∧ (s.length : Int) = 2 := by simpa using hb
      omega
    obtain ⟨c0, c1, hcs⟩ := two_str hs2'
    refine s_asgV (ρ := spR sp) (ev_addS (ev_ixS (c := c1) (ev_var rfl) ev_c (by omega) (atI_nat (xs := s.cps.toList) (j := 1) (by rw [hcs]; rfl))) (ev_ixS (c := c0) (ev_var rfl) ev_c (by omega) (atI_nat (xs := s.cps.toList) (j := 0) (by rw [hcs]; rfl))) (by show 1 + 1 ≤ 100000; decide)) fun H9 e9 => fin _ (fun _ _ h => h) s _ H9 (e6.trans (e7.trans (e8.trans e9))) oks ⟨Nat.le_refl 2, ?_⟩
    intro c hc
    rw [app_cps] at hc
    have hc' : c = c1 ∨ c = c0 := by simpa using hc
    rcases hc' with rfl | rfl
    · exact oks.2 _ (by rw [hcs]; exact List.mem_cons_of_mem _ (List.mem_cons_self ..))
    · exact oks.2 _ (by rw [hcs]; exact List.mem_cons_self ..)
  · rintro σ' H' ⟨r, kvs, kv, kd, on, ot, rfl, hDk, hlen, hent⟩
    have rH : (spR sp).r H H' := r_and (e1.trans e2) hD0 r
    have ownH := own.r rH
    have h8 : kvs.length ≤ 8 := by omega
    have hlc := ev_lcx (ρ := spR sp) (wi := iSeq K (tCB (rSortU K) (tCons (tVar 4) tNil))) (σ := [some (.ref ra), some (.ref sp), some (.int many), some (.str z), some (.ref D), kv, kd, on, ot]) (H := H') (g := gName 7) (tt := tYes) (te := tOp (rAddU K) (tVar 7) (tTup (tCons (tIxU K (tVar 4) (tVar 7)) tNil))) (vs := [7])
      (R := fun u H2 => ∃ p xs ds, u = .ref p ∧ ¬ (spR sp).S p ∧ H2 p = some (.lst xs) ∧ DSs (spR sp) H2 xs ds ∧ (noLists ds = true ∧ isTableD (.tuple ds) = true)) (eix_sortT ownH (ev_var rfl) (fun H1 e => e.keep _ _ nD hDk) (by omega) (ent_alike hent) (ent_nonempty hent)) fun n' Y' H3 J ⟨ys, hp, hnd, hpw, hn', hY'⟩ e3 hI => ?_
    · refine s_ret (ρ := spR sp) (ev_tupOf (ρf := spR sp) (C := fun ds => noLists ds = true ∧ isTableD (.tuple ds) = true) Le.rfl hlc) fun v H3 e3 ⟨ds, hC, hv⟩ => k v ds H3 (rH.trans e3) hv hC.1 hC.2
    · subst hn' hY'
      have hl : ys.length = kvs.length := by
        have := hp.length_eq
        rwa [List.length_map, List.length_map] at this
      refine (ev_lcD (dd := fun i => match ys[i]? with | some b => entD kvs b.1 | none => .none) (ownH.r e3) (by omega) hI (fun x => rfl) (fun i H2 x H3 y => y.1) ?_).imp ?_
      · rintro D' H4 e4 hD' i x H5 H6 hi r5 oD ⟨e6, b, hb, rfl, hk⟩
        obtain ⟨s, t, c, k1, k2, k3, _⟩ := ent_at hent (hp.mem_iff.mp (List.mem_map.mpr ⟨b, List.mem_of_getElem? hb, rfl⟩))
        rw [hb]
        show Ev (spR sp) _ _ H5 (fun y H4 => DS ((spR sp).and D') H4 y (entD kvs b.1))
        rw [k3]
        rw [k1] at hk k2
        have hD5 : H5 D = some (.dT kvs) := (e3.trans (e4.trans r5)).keep _ _ nD hDk
        refine ev_op2 (Ra := fun v _ => v = .ref b.2) (Rb := fun v H7 => ∃ q, v = .ref q ∧ H7 q = some (.tup [.int c])) (ev_var rfl) (fun x H7 e7 ex => ?_) (fun x y H7 H8 e7 e8 ex ⟨q, ey, hq⟩ => ?_)
        · refine (ev_tup (Rr := fun vs _ => vs = [.int c]) ((ea_one (Ra := fun v _ => v = .int c) ?_).imp fun vs H8 e8 ⟨u, e9, e10⟩ => by rw [e9, e10]) fun vs H8 _ e => by rw [e]; show 1 ≤ 100000; decide).imp fun v H8 e8 ⟨p, vs, H9, ev, evs, hp9, r9, eH⟩ => ⟨p, ev, by rw [eH, evs]; exact upd_same⟩
          intro H8 e8 Q' q'
          refine .inr (ev_var (ρ := spR sp) (v := .ref D) rfl H8 .rfl _ fun o H9 e9 eo => ?_)
          subst eo
          refine ev_var (ρ := spR sp) (v := .ref b.2) rfl H9 .rfl _ fun o H10 e10 eo => ?_
          subst eo
          have e510 := e7.trans (e8.trans (e9.trans e10))
          refine ⟨D, .int c, rfl, ?_, q' _ H10 (e9.trans e10) rfl⟩
          rw [← k2]
          exact DGet.t (e510.keep _ _ nD hD5) (e510.tup _ _ hk)
        · subst ex ey
          intro H9 e9 Q' q'
          have hb9 := (e7.trans (e8.trans e9)).tup _ _ hk
          have hq9 := e9.tup _ _ hq
          refine .inr (.inr (.inl ⟨b.2, q, _, _, rfl, rfl, .inl (.inl hb9), .inl (.inl hq9), by show 3 ≤ sizeLine; decide, fun z => (by cases z), fun _ z => (by cases z), fun _ _ p hp => q' _ _ (r_new _ hp) (.tup upd_same (.cons (.str s) (.cons (.str t) (.cons (.int c) .nil))))⟩))
      · rintro u H4 e4 ⟨p, xs, rfl, nS, hp0, hx, hds⟩
        have em : (List.range ys.length).map (fun i => match ys[i]? with | some b => entD kvs b.1 | none => .none) = ys.map fun b => entD kvs b.1 := by
          refine List.ext_getElem? fun i => ?_
          rw [List.getElem?_map, List.getElem?_map]
          by_cases hi : i < ys.length
          · rw [List.getElem?_range hi, List.getElem?_eq_getElem hi]
            show some (match ys[i]? with | some b => entD kvs b.1 | none => .none) = some (entD kvs ys[i].1)
            rw [List.getElem?_eq_getElem hi]
          · rw [List.getElem?_eq_none_iff.mpr (by rw [List.length_range]; omega), List.getElem?_eq_none_iff.mpr (by omega)] <;> rfl
        rw [em] at hds
        refine ⟨p, xs, _, rfl, nS, hx, hds, noLists_map fun b hb => ?_, table_of hent hp hnd hpw h8⟩
        obtain ⟨s, t, c, _, _, k3, _⟩ := ent_at hent (hp.mem_iff.mp (List.mem_map.mpr ⟨b, hb, rfl⟩))
        rw [k3]
        rfl
end Slip
/-! a changed table -/
namespace Slip
open PySem PySem.Spec PyProof.Rows L2
/- texts, numbers, tuples of these; none is long -/
mutual
def plainT : PyData → Bool
  | .str s => decide (s.length ≤ 300)
  | .int _ => true
  | .tuple ds => decide (ds.length ≤ 300) && plainTs ds
  | _ => false
def plainTs : List PyData → Bool
  | [] => true
  | d :: ds => plainT d && plainTs ds
end
theorem plainTs_mem : ∀ {ds : List PyData} {d : PyData}, plainTs ds = true → d ∈ ds → plainT d = true
  | e :: ds, d, h, hm => by
    have h' : plainT e = true ∧ plainTs ds = true := by simpa [plainTs] using h
    rcases List.mem_cons.mp hm with rfl | hm
    · exact h'.1
    · exact plainTs_mem h'.2 hm
mutual
theorem plain_nl : ∀ d : PyData, plainT d = true → noList d = true
  | .str _, _ => rfl
  | .int _, _ => rfl
  | .tuple ds, h => by
    have h' : ds.length ≤ 300 ∧ plainTs ds = true := by simpa [plainT] using h
    exact plains_nl ds h'.2
  | .none, h => by cases h
  | .bool _, h => by cases h
  | .list _, h => by cases h
  | .dict _, h => by cases h
theorem plains_nl : ∀ ds : List PyData, plainTs ds = true → noLists ds = true
  | [], _ => rfl
  | d :: ds, h => by
    have h' : plainT d = true ∧ plainTs ds = true := by simpa [plainTs] using h
    show (noList d && noLists ds) = true
    rw [plain_nl d h'.1, plains_nl ds h'.2]
    rfl
end
mutual
theorem plain_sm : ∀ d : PyData, plainT d = true → sm d = true
  | .str s, h => by
    have h' : s.length ≤ 300 := by simpa [plainT] using h
    exact decide_eq_true (by omega)
  | .int _, _ => rfl
  | .tuple ds, h => by
    have h' : ds.length ≤ 300 ∧ plainTs ds = true := by simpa [plainT] using h
    show (decide (ds.length ≤ 1000) && smAll ds) = true
    rw [decide_eq_true (by omega), plains_sm ds h'.2]
    rfl
  | .none, h => by cases h
  | .bool _, h => by cases h
  | .list _, h => by cases h
  | .dict _, h => by cases h
theorem plains_sm : ∀ ds : List PyData, plainTs ds = true → smAll ds = true
  | [], _ => rfl
  | d :: ds, h => by
    have h' : plainT d = true ∧ plainTs ds = true := by simpa [plainTs] using h
    show (sm d && smAll ds) = true
    rw [plain_sm d h'.1, plains_sm ds h'.2]
    rfl
end
/-- no list within, none long, depth bounded -/
structure Fine (L D : Nat) (ds : List PyData) : Prop where
  all : ∀ d ∈ ds, noList d = true ∧ sm d = true ∧ d.depth ≤ D
  len : ds.length ≤ L
abbrev Good (D : Nat) (d : PyData) : Prop := noList d = true ∧ sm d = true ∧ d.depth ≤ D
theorem depth_all {D : Nat} : ∀ {ds : List PyData}, (∀ d ∈ ds, d.depth ≤ D) → PyData.depthAll ds ≤ D
  | [], _ => Nat.zero_le _
  | d :: ds, h => by
    show max d.depth (PyData.depthAll ds) ≤ D
    exact Nat.max_le.mpr ⟨h d (List.mem_cons_self ..), depth_all fun e he => h e (List.mem_cons_of_mem _ he)⟩
theorem noLists_of : ∀ {ds : List PyData}, (∀ d ∈ ds, noList d = true) → noLists ds = true
  | [], _ => rfl
  | d :: ds, h => by
    show (noList d && noLists ds) = true
    rw [h d (List.mem_cons_self ..), noLists_of fun e he => h e (List.mem_cons_of_mem _ he)]
    rfl
theorem Fine.good {L D : Nat} {ds : List PyData} (h : Fine L D ds) (hl : L ≤ 1000) : Good (D + 1) (.tuple ds) := by
  refine ⟨noLists_of fun d hd => (h.all d hd).1, ?_, ?_⟩
  · show (decide (ds.length ≤ 1000) && smAll ds) = true
    rw [decide_eq_true (Nat.le_trans h.len hl), smAll_of fun d hd => (h.all d hd).2.1]
    rfl
  · show PyData.depthAll ds + 1 ≤ D + 1
    exact Nat.succ_le_succ (depth_all fun d hd => (h.all d hd).2.2)
theorem Fine.append {L M D : Nat} {ds es : List PyData} (h : Fine L D ds) (g : Fine M D es) : Fine (L + M) D (ds ++ es) :=
  ⟨fun d hd => (List.mem_append.mp hd).elim (h.all d) (g.all d), by rw [List.length_append]; have := h.len; have := g.len; omega⟩
theorem cut_mem {ds : List PyData} {lo hi : Option Int} {d : PyData} (h : d ∈ cutD ds lo hi) : d ∈ ds := List.mem_of_mem_drop (List.mem_of_mem_take h)
theorem cut_len (ds : List PyData) (lo hi : Option Int) : (cutD ds lo hi).length ≤ ds.length := by
  unfold cutD
  rw [List.length_take, List.length_drop]
  omega
theorem Fine.cut {L D : Nat} {ds : List PyData} (h : Fine L D ds) (lo hi : Option Int) : Fine L D (cutD ds lo hi) := ⟨fun d hd => h.all d (cut_mem hd), Nat.le_trans (cut_len _ _ _) h.len⟩
theorem fine_plain {ds : List PyData} (h : plainT (.tuple ds) = true) : Fine 300 (PyData.depthAll ds) ds := by
  have h' : ds.length ≤ 300 ∧ plainTs ds = true := by simpa [plainT] using h
  exact ⟨fun d hd => ⟨plain_nl d (plainTs_mem h'.2 hd), plain_sm d (plainTs_mem h'.2 hd), depth_mem hd⟩, h'.1⟩
theorem Fine.up {L D D' : Nat} {ds : List PyData} (h : Fine L D ds) (l : D ≤ D') : Fine L D' ds := ⟨fun d hd => ⟨(h.all d hd).1, (h.all d hd).2.1, Nat.le_trans (h.all d hd).2.2 l⟩, h.len⟩
/-! ### rules -/
/-- a test whose answer is not known, but b tells C b -/
def EvTC (ρ : Rl) (tt : TT) (σ : L2.St) (H : Hp) (C : Bool → Prop) : Prop := ∀ H1, ρ.r H H1 → ∀ Q : Bool → Hp → Prop, (∀ b H2, ρ.r H1 H2 → C b → Q b H2) → tt σ H1 Q
section
variable {ρ : Rl} {K : Frag} {σ : L2.St} {H : Hp} {ta tb te : TE} {t u : TT} {tu tw tz : TS} {D : Ends} {C : Bool → Prop} {C1 C2 : List PyData → Prop} {P : V → Hp → Prop} {n : Nat} {tr : TA}
theorem q_whenC (h : EvTC ρ t σ H C) (h1 : C true → ∀ H1, ρ.r H H1 → tu { D with nx := tz D } σ H1) (h2 : C false → ∀ H1, ρ.r H H1 → tz D σ H1) : tSeq (tIfS t tu tNext) tz D σ H := h H .rfl _ fun b H1 e c => by
  cases b with
  | true => exact h1 c H1 e
  | false => exact h2 c H1 e
theorem etc_test (h : Ev ρ te σ H (fun v _ => ∃ b, v = .bl b ∧ C b)) : EvTC ρ (tTest te) σ H C := fun H1 e Q q => h H1 e _ fun v H2 e2 ⟨b, ev, c⟩ => ⟨b, ev, q b H2 e2 c⟩
theorem etc_and (h1 : EvT ρ t σ H true) (h2 : EvTC ρ u σ H C) : EvTC ρ (tAnd t u) σ H C := fun H1 e Q q => h1 H1 e _ fun H2 e2 => show u σ H2 Q from h2 H2 (e.trans e2) Q fun b H3 e3 c => q b H3 (e2.trans e3) c
/-- t + u of tuples -/
theorem ev_catD (h1 : Ev ρ ta σ H (fun v H' => ∃ ds, C1 ds ∧ DS ρ H' v (.tuple ds))) (h2 : ∀ H1, ρ.r H H1 → Ev ρ tb σ H1 (fun v H' => ∃ ds, C2 ds ∧ DS ρ H' v (.tuple ds))) (hl : ∀ ds es, C1 ds → C2 es → ds.length + es.length ≤ 100000) :
    Ev ρ (tOp (rAddU K) ta tb) σ H (fun v H' => ∃ ds, (∃ d1 d2, C1 d1 ∧ C2 d2 ∧ ds = d1 ++ d2) ∧ DS ρ H' v (.tuple ds)) :=
  ev_op2 h1 (fun x H1 e1 _ => h2 H1 e1) fun x y H1 H2 e1 e2 ⟨ds, c1, hx⟩ ⟨es, c2, hy⟩ => by
    obtain ⟨a, xs, rfl, hxs, ha, _⟩ := (e2.ds hx).tupl
    obtain ⟨b, ys, rfl, hys, hb, _⟩ := hy.tupl
    intro H3 e3 Q q
    have ga := e3.tup _ _ ha
    have gb := e3.tup _ _ hb
    have dx := e3.dss hxs
    have dy := e3.dss hys
    have lx := dx.length
    have ly := dy.length
    have ll := hl ds es c1 c2
    refine .inr (.inr (.inl ⟨a, b, xs, ys, rfl, rfl, .inl (.inl ga), .inl (.inl gb), Evl.sz_of (by omega), fun z => ?_, fun _ z => ?_, fun _ _ p hp => ?_⟩))
    · subst z
      have : ds = [] := List.eq_nil_of_length_eq_zero lx.symm
      subst this
      exact q _ H3 .rfl ⟨es, ⟨[], es, c1, c2, rfl⟩, .tup gb dy⟩
    · subst z
      have : es = [] := List.eq_nil_of_length_eq_zero ly.symm
      subst this
      exact q _ H3 .rfl ⟨ds, ⟨ds, [], c1, c2, (List.append_nil _).symm⟩, .tup ga dx⟩
    · exact q _ _ (r_new _ hp) ⟨ds ++ es, ⟨ds, es, c1, c2, rfl⟩, .tup upd_same ((r_new (ρ := ρ) _ hp).dss (dx.append dy))⟩
theorem ea_nilP : EvA ρ tNil σ H (fun vs H' => vs.length = 0 ∧ ∀ x ∈ vs, P x H') := fun H1 _ _ q => q [] H1 .rfl ⟨rfl, fun x hx => nomatch hx⟩
theorem ea_consQ (hP : ∀ v H1 H2, ρ.r H1 H2 → P v H1 → P v H2) (h : Ev ρ ta σ H P) (hr : ∀ H1, ρ.r H H1 → EvA ρ tr σ H1 (fun vs H' => vs.length = n ∧ ∀ x ∈ vs, P x H')) : EvA ρ (tCons ta tr) σ H (fun vs H' => vs.length = n + 1 ∧ ∀ x ∈ vs, P x H') := fun H1 e _ q =>
  h H1 e _ fun x H2 e2 px => hr H2 (e.trans e2) H2 .rfl _ fun ws H3 e3 ⟨hl, pw⟩ => q _ H3 (e2.trans e3) ⟨congrArg Nat.succ hl, fun y hy => (List.mem_cons.mp hy).elim (fun z => z ▸ hP _ _ _ e3 px) (pw y)⟩
/-- one of a display -/
theorem ev_pick {ts : TA} {N : Int} (own : Own ρ H) (hP : ∀ v H1 H2, ρ.r H1 H2 → P v H1 → P v H2) (h : EvA ρ ts σ H (fun vs H' => vs.length = n ∧ ∀ x ∈ vs, P x H')) (hn : n ≤ 1000) (hN : N = (n : Int)) (h2 : ∀ H1, ρ.r H H1 → Ev ρ tb σ H1 (fun v _ => Below N v)) : Ev ρ (tIxU K (tLst ts) tb) σ H P :=
  fun H1 e1 Q q => .inl (ev_lst h (fun vs _ _ c => by rw [c.1]; omega) H1 e1 _ fun v H2 e2 ⟨p, vs, H3, ev, ⟨hl, hp⟩, hnew, r3, eH⟩ => h2 H2 (e1.trans e2) H2 .rfl _ fun w H4 e4 ⟨m, ew, h0, hm⟩ => by
    subst ev ew
    have hm' : m.toNat < vs.length := by omega
    have g : vs[m.toNat]? = some vs[m.toNat] := List.getElem?_eq_getElem hm'
    have g2 : atI vs m = some vs[m.toNat] := by
      have := atI_nat g
      rwa [show ((m.toNat : Nat) : Int) = m by omega] at this
    have nS : ¬ ρ.S p := (own.r r3).fresh hnew
    have hp2 : H2 p = some (.lst vs) := by rw [eH]; exact upd_same
    exact .inl ⟨p, vs, m, _, rfl, rfl, .of (e4.keep _ _ nS hp2), g2, q _ H4 (e2.trans e4) (hP _ _ _ ((eH ▸ r_new (ρ := ρ) _ hnew : ρ.r H3 H2).trans e4) (hp _ (List.getElem_mem hm')))⟩)
end
def sp__law_table_changed (K : Frag) (n : Nat) : Sp := fun vs H Q _ => ∃ (ra sp : Addr) (v : V) (d : PyData), vs = [.ref ra, .ref sp, v] ∧ Dr K ra sp H ∧ DS (spR sp) H v d ∧ plainT d = true ∧ d.depth < n ∧ ∀ v' d' H', (spR sp).r H H' → DS (spR sp) H' v' d' → Good (d.depth + 1) d' → Q v' H'
theorem len__law_table_changed {K : Frag} {n : Nat} {vs : List V} {H : Hp} {Q : VK} {E : XK} (h : sp__law_table_changed K n vs H Q E) : vs.length = 3 := by
  obtain ⟨ra, sp, v, d, rfl, _⟩ := h
  rfl
def t__law_table_changed (K : Frag) (n : Nat) : TS := (tSeq (tIfS (tAnd (tB (tCB (rIsiU K) (tCons (tVar 2) (tCons (tC (.ty "tuple")) tNil)))) (tAnd (tTest (tOp (rCmp K gGt) (tCB (rLenU K) (tCons (tVar 2) tNil)) (tC (.int 0)))) (tTest (tOp (rCmp K gGt) (tCall (sp__law_take K) [] E0 (tCons (tVar 0) (tCons (tVar 1) (tCons (tC (.int 6)) tNil)))) (tC (.int 0)))))) (tSeq (tAsg (tCall (sp__law_take K) [] E0 (tCons (tVar 0) (tCons (tVar 1) (tCons (tCB (rLenU K) (tCons (tVar 2) tNil)) tNil)))) (gName 3)) (tRet (tOp (rAddU K) (tOp (rAddU K) (tSl (rSlU K) (tVar 2) tNoPart (tPart (tVar 3))) (tTup (tCons (tCall (sp__law_table_changed K n) [] E0 (tCons (tVar 0) (tCons (tVar 1) (tCons (tIxU K (tVar 2) (tVar 3)) tNil)))) tNil))) (tSl (rSlU K) (tVar 2) (tPart (tOp (rAddU K) (tVar 3) (tC (.int 1)))) tNoPart)))) tNext) (tSeq (tAsg (tCall (sp__law_take K) [] E0 (tCons (tVar 0) (tCons (tVar 1) (tCons (tC (.int 4)) tNil)))) (gName 4)) (tSeq (tIfS (tAnd (tB (tCB (rIsiU K) (tCons (tVar 2) (tCons (tC (.ty "tuple")) tNil)))) (tAnd (tTest (tOp (rEqU K) (tVar 4) (tC (.int 0)))) (tTest (tOp (rCmp K gGt) (tCB (rLenU K) (tCons (tVar 2) tNil)) (tC (.int 0)))))) (tRet (tOp (rAddU K) (tVar 2) (tSl (rSlU K) (tVar 2) tNoPart (tPart (tC (.int 1)))))) tNext) (tSeq (tIfS (tAnd (tB (tCB (rIsiU K) (tCons (tVar 2) (tCons (tC (.ty "tuple")) tNil)))) (tAnd (tTest (tOp (rEqU K) (tVar 4) (tC (.int 1)))) (tTest (tOp (rCmp K gGt) (tCB (rLenU K) (tCons (tVar 2) tNil)) (tC (.int 0)))))) (tRet (tSl (rSlU K) (tVar 2) (tPart (tC (.int 1))) tNoPart)) tNext) (tSeq (tIfS (tAnd (tB (tCB (rIsiU K) (tCons (tVar 2) (tCons (tC (.ty "tuple")) tNil)))) (tAnd (tTest (tOp (rEqU K) (tVar 4) (tC (.int 2)))) (tTest (tOp (rCmp K gGt) (tCB (rLenU K) (tCons (tVar 2) tNil)) (tC (.int 1)))))) (tRet (tOp (rAddU K) (tSl (rSlU K) (tVar 2) (tPart (tC (.int 1))) tNoPart) (tSl (rSlU K) (tVar 2) tNoPart (tPart (tC (.int 1)))))) tNext) (tSeq (tIfS (tAnd (tB (tCB (rIsiU K) (tCons (tVar 2) (tCons (tC (.ty "str")) tNil)))) (tTest (tOp (rCmp K gLt) (tVar 4) (tC (.int 3))))) (tRet (tIxU K (tLst (tCons (tC (.str "")) (tCons (tC (.str "ab")) (tCons (tC (.str "abc")) (tCons (tC (.str "g")) (tCons (tC (.str "fa")) (tCons (tOp (rAddU K) (tVar 2) (tC (.str "a"))) (tCons (tC (.str "A")) (tCons (tOp (rAddU K) (tVar 2) (tC (.str "\n"))) tNil))))))))) (tCall (sp__law_take K) [] E0 (tCons (tVar 0) (tCons (tVar 1) (tCons (tC (.int 8)) tNil)))))) tNext) (tSeq (tIfS (tAnd (tB (tCB (rIsiU K) (tCons (tVar 2) (tCons (tC (.ty "int")) tNil)))) (tTest (tOp (rCmp K gLt) (tVar 4) (tC (.int 3))))) (tRet (tIxU K (tLst (tCons (tC (.int 0)) (tCons (tC (.int 9)) (tCons (tC (.int 10)) (tCons (tOp (rAddU K) (tVar 2) (tC (.int 1))) (tCons (tC .non) (tCons (tC (.bl true)) tNil))))))) (tCall (sp__law_take K) [] E0 (tCons (tVar 0) (tCons (tVar 1) (tCons (tC (.int 6)) tNil)))))) tNext) (tRet (tIxU K (tLst (tCons (tC .non) (tCons (tC (.int 7)) (tCons (tC (.bl true)) (tCons (tC (.str "")) (tCons (tTup tNil) (tCons (tTup (tCons (tC (.str "a")) (tCons (tC (.str "b")) (tCons (tC (.int 1)) tNil)))) (tCons (tC (.str "a")) tNil)))))))) (tCall (sp__law_take K) [] E0 (tCons (tVar 0) (tCons (tVar 1) (tCons (tC (.int 7)) tNil)))))))))))))
/-- a good datum -/
abbrev GoodV (sp : Addr) (D : Nat) : V → Hp → Prop := fun v H => ∃ d, DS (spR sp) H v d ∧ Good D d
theorem goodV_r {sp : Addr} {D : Nat} (v : V) (H1 H2 : Hp) (e : (spR sp).r H1 H2) : GoodV sp D v H1 → GoodV sp D v H2 := fun ⟨d, h, g⟩ => ⟨d, e.ds h, g⟩
section
variable {K : Frag} {σ : L2.St} {H : Hp} {sp : Addr} {D : Nat}
theorem gv_c {v : V} {d : PyData} (hd : ∀ H', DS (spR sp) H' v d) (g : Good D d) : Ev (spR sp) (tC v) σ H (GoodV sp D) := (ev_c (v := v)).imp fun v' H1 _ e => by rw [e]; exact ⟨d, hd H1, g⟩
theorem gv_v {te : TE} {v : V} {d : PyData} (h : EvV (spR sp) te σ H v) (hd : ∀ H', DS (spR sp) H' v d) (g : Good D d) : Ev (spR sp) te σ H (GoodV sp D) := h.imp fun v' H1 _ e => by rw [e]; exact ⟨d, hd H1, g⟩
theorem gv_unit : Ev (spR sp) (tTup tNil) σ H (GoodV sp (D + 1)) := (ev_tup ea_nil fun vs H1 _ e => by rw [e]; show 0 ≤ 100000; decide).imp fun v H1 _ ⟨p, vs, H2, ev, evs, hp, r, eH⟩ => by
  subst ev evs
  exact ⟨.tuple [], .tup (by rw [eH]; exact upd_same) .nil, rfl, rfl, by show 0 + 1 ≤ D + 1; omega⟩
theorem gv_triple : Ev (spR sp) (tTup (tCons (tC (.str "a")) (tCons (tC (.str "b")) (tCons (tC (.int 1)) tNil)))) σ H (GoodV sp (D + 1)) := (ev_tripleD Le.rfl ev_c ev_c ev_c (.str "a") (.str "b") (.int 1)).imp fun v H1 _ h => ⟨_, h, rfl, by decide +kernel, by show 0 + 1 ≤ D + 1; omega⟩
end
theorem good_str {D : Nat} {s : Str} (h : s.length ≤ 1000) : Good D (.str s) := ⟨rfl, decide_eq_true h, Nat.zero_le _⟩
theorem good_int {D : Nat} {i : Int} : Good D (.int i) := ⟨rfl, rfl, Nat.zero_le _⟩
theorem good_bool {D : Nat} {i : Bool} : Good D (.bool i) := ⟨rfl, rfl, Nat.zero_le _⟩
theorem good_none {D : Nat} : Good D .none := ⟨rfl, rfl, Nat.zero_le _⟩
theorem pure__law_table_changed {K : Frag} {n : Nat} (vs : List V) (H : Hp) (Q : VK) (E : XK) (h : sp__law_table_changed K (n + 1) vs H Q E) : t__law_table_changed K n { nx := fun _ H' => Q .non H', rt := Q } (start ["row", "spot", "value", "at", "kind"] vs) H := by
  obtain ⟨ra, sp, v, d, rfl, dr, hd, hp, dp, k⟩ := h
  have hnl := plain_nl d hp
  have hds : ∀ H', (spR sp).r H H' → DS (spR sp) H' v d := fun H' e => e.ds hd
  -- what is left, after the kind is drawn
  have last : ∀ (σ : L2.St) (D : Ends) H1, D.rt = Q → σ[0]? = some (some (.ref ra)) → σ[1]? = some (some (.ref sp)) → (spR sp).r H H1 → tRet (tIxU K (tLst (tCons (tC .non) (tCons (tC (.int 7)) (tCons (tC (.bl true)) (tCons (tC (.str "")) (tCons (tTup tNil) (tCons (tTup (tCons (tC (.str "a")) (tCons (tC (.str "b")) (tCons (tC (.int 1)) tNil)))) (tCons (tC (.str "a")) tNil)))))))) (tCall (sp__law_take K) [] E0 (tCons (tVar 0) (tCons (tVar 1) (tCons (tC (.int 7)) tNil))))) D σ H1 := by
    intro σ D H1 hD h0 h1 e1
    have dr1 := dr.sp e1
    refine s_ret (ρ := spR sp) (ev_pick (P := GoodV sp (d.depth + 1)) (n := 7) (N := 7) (own_sp dr1) goodV_r ?_ (by decide) rfl fun H2 e2 => ev_take (ev_var h0) (ev_var h1) ev_c (dr1.sp e2) (by decide)) fun v' H2 e2 ⟨d', h, g⟩ => by rw [hD]; exact k v' d' H2 (e1.trans e2) h g
    refine ea_consQ goodV_r (gv_c (fun _ => .non) good_none) fun _ _ => ea_consQ goodV_r (gv_c (fun _ => .int 7) good_int) fun _ _ => ea_consQ goodV_r (gv_c (fun _ => .bl true) good_bool) fun _ _ => ea_consQ goodV_r (gv_c (fun _ => .str "") (good_str (by decide +kernel))) fun _ _ => ea_consQ goodV_r gv_unit fun _ _ => ea_consQ goodV_r gv_triple fun _ _ => ea_consQ goodV_r (gv_c (fun _ => .str "a") (good_str (by decide +kernel))) fun _ _ => ea_nilP
  cases d with
  | none => cases hp
  | bool b => cases hp
  | list ds => cases hp
  | dict ds => cases hp
  | str s =>
    have hs : s.length ≤ 300 := by simpa [plainT] using hp
    cases hd
    refine q_when (ρ := spR sp) (b := false) ((et_and (b := true) (et_B (ev_isi (ev_var rfl) (.str s) rfl)) fun h => by cases h).to rfl) (fun hb => by cases hb) fun _ H1 e1 => ?_
    refine q_asg (ρ := spR sp) (ev_take (ev_var rfl) (ev_var rfl) ev_c (dr.sp e1) (by decide)) fun v1 H2 e2 ⟨m, ev, _, _⟩ => ?_
    subst ev
    have e12 := e1.trans e2
    refine q_when (ρ := spR sp) (b := false) ((et_and (b := true) (et_B (ev_isi (ev_var rfl) (.str s) rfl)) fun h => by cases h).to rfl) (fun hb => by cases hb) fun _ H3 e3 => ?_
    refine q_when (ρ := spR sp) (b := false) ((et_and (b := true) (et_B (ev_isi (ev_var rfl) (.str s) rfl)) fun h => by cases h).to rfl) (fun hb => by cases hb) fun _ H4 e4 => ?_
    refine q_when (ρ := spR sp) (b := false) ((et_and (b := true) (et_B (ev_isi (ev_var rfl) (.str s) rfl)) fun h => by cases h).to rfl) (fun hb => by cases hb) fun _ H5 e5 => ?_
    have e15 := e12.trans (e3.trans (e4.trans e5))
    refine q_when (ρ := spR sp) (et_and (et_B (ev_isi (ev_var rfl) (.str s) rfl)) fun _ => et_test (ev_lt (ev_var rfl) ev_c)) (fun hb H6 e6 => ?_) fun _ H6 e6 => ?_
    · have e16 := e15.trans e6
      have dr6 := dr.sp e16
      refine s_ret (ρ := spR sp) (ev_pick (P := GoodV sp ((PyData.str s).depth + 1)) (n := 8) (N := 8) (own_sp dr6) goodV_r ?_ (by decide) rfl fun H2 e2 => ev_take (ev_var rfl) (ev_var rfl) ev_c (dr6.sp e2) (by decide)) fun v' H2 e2 ⟨d', h, g⟩ => k v' d' H2 (e16.trans e2) h g
      have one : ∀ x : Str, x.length = 1 → (s ++ x).length ≤ 1000 := fun x hx => by rw [app_len]; omega
      exact ea_consQ goodV_r (gv_c (fun _ => .str _) (good_str (by decide +kernel))) fun _ _ => ea_consQ goodV_r (gv_c (fun _ => .str _) (good_str (by decide +kernel))) fun _ _ => ea_consQ goodV_r (gv_c (fun _ => .str _) (good_str (by decide +kernel))) fun _ _ => ea_consQ goodV_r (gv_c (fun _ => .str _) (good_str (by decide +kernel))) fun _ _ => ea_consQ goodV_r (gv_c (fun _ => .str _) (good_str (by decide +kernel))) fun _ _ =>
        ea_consQ goodV_r (gv_v (ev_addS (ev_var rfl) ev_c (by have : ("a" : Str).length = 1 := by decide +kernel
                                                              omega)) (fun _ => .str _) (good_str (one _ (by decide +kernel)))) fun _ _ => ea_consQ goodV_r (gv_c (fun _ => .str _) (good_str (by decide +kernel))) fun _ _ =>
        ea_consQ goodV_r (gv_v (ev_addS (ev_var rfl) ev_c (by have : ("\n" : Str).length = 1 := by decide +kernel
                                                              omega)) (fun _ => .str _) (good_str (one _ (by decide +kernel)))) fun _ _ => ea_nilP
    · refine q_when (ρ := spR sp) (b := false) ((et_and (b := true) (et_B (ev_isi (ev_var rfl) (.str s) rfl)) fun h => by cases h).to rfl) (fun hb => by cases hb) fun _ H7 e7 => ?_
      exact last _ _ H7 rfl rfl rfl (e15.trans (e6.trans e7))
  | int i =>
    cases hd
    refine q_when (ρ := spR sp) (b := false) ((et_and (b := true) (et_B (ev_isi (ev_var rfl) (.int i) rfl)) fun h => by cases h).to rfl) (fun hb => by cases hb) fun _ H1 e1 => ?_
    refine q_asg (ρ := spR sp) (ev_take (ev_var rfl) (ev_var rfl) ev_c (dr.sp e1) (by decide)) fun v1 H2 e2 ⟨m, ev, _, _⟩ => ?_
    subst ev
    have e12 := e1.trans e2
    refine q_when (ρ := spR sp) (b := false) ((et_and (b := true) (et_B (ev_isi (ev_var rfl) (.int i) rfl)) fun h => by cases h).to rfl) (fun hb => by cases hb) fun _ H3 e3 => ?_
    refine q_when (ρ := spR sp) (b := false) ((et_and (b := true) (et_B (ev_isi (ev_var rfl) (.int i) rfl)) fun h => by cases h).to rfl) (fun hb => by cases hb) fun _ H4 e4 => ?_
    refine q_when (ρ := spR sp) (b := false) ((et_and (b := true) (et_B (ev_isi (ev_var rfl) (.int i) rfl)) fun h => by cases h).to rfl) (fun hb => by cases hb) fun _ H5 e5 => ?_
    have e15 := e12.trans (e3.trans (e4.trans e5))
    refine q_when (ρ := spR sp) (b := false) ((et_and (b := true) (et_B (ev_isi (ev_var rfl) (.int i) rfl)) fun h => by cases h).to rfl) (fun hb => by cases hb) fun _ H6 e6 => ?_
    refine q_when (ρ := spR sp) (et_and (et_B (ev_isi (ev_var rfl) (.int i) rfl)) fun _ => et_test (ev_lt (ev_var rfl) ev_c)) (fun hb H7 e7 => ?_) fun _ H7 e7 => ?_
    · have e17 := e15.trans (e6.trans e7)
      have dr7 := dr.sp e17
      refine s_ret (ρ := spR sp) (ev_pick (P := GoodV sp ((PyData.int i).depth + 1)) (n := 6) (N := 6) (own_sp dr7) goodV_r ?_ (by decide) rfl fun H2 e2 => ev_take (ev_var rfl) (ev_var rfl) ev_c (dr7.sp e2) (by decide)) fun v' H2 e2 ⟨d', h, g⟩ => k v' d' H2 (e17.trans e2) h g
      exact ea_consQ goodV_r (gv_c (fun _ => .int _) good_int) fun _ _ => ea_consQ goodV_r (gv_c (fun _ => .int _) good_int) fun _ _ => ea_consQ goodV_r (gv_c (fun _ => .int _) good_int) fun _ _ => ea_consQ goodV_r (gv_v (ev_add (ev_var rfl) ev_c) (fun _ => .int _) good_int) fun _ _ => ea_consQ goodV_r (gv_c (fun _ => .non) good_none) fun _ _ => ea_consQ goodV_r (gv_c (fun _ => .bl _) good_bool) fun _ _ => ea_nilP
    · exact last _ _ H7 rfl rfl rfl (e15.trans (e6.trans e7))
  | tuple ds =>
    obtain ⟨a, xs, rfl, hxs, ha, hsq⟩ := hd.tupl
    have fine := fine_plain hp
    have hpl : ds.length ≤ 300 ∧ plainTs ds = true := by simpa [plainT] using hp
    have hlen := hxs.length
    have sA : ∀ H1, (spR sp).r H H1 → SqA K H1 a xs := fun H1 e => .inr (hsq K (spR sp) H1 e)
    have ddep : (PyData.tuple ds).depth = PyData.depthAll ds + 1 := rfl
    -- behind the first question
    have rest : ∀ (σ : L2.St) (av kv : Option V) H1, σ = [some (.ref ra), some (.ref sp), some (.ref a), av, kv] → (spR sp).r H H1 → (tSeq (tAsg (tCall (sp__law_take K) [] E0 (tCons (tVar 0) (tCons (tVar 1) (tCons (tC (.int 4)) tNil)))) (gName 4)) (tSeq (tIfS (tAnd (tB (tCB (rIsiU K) (tCons (tVar 2) (tCons (tC (.ty "tuple")) tNil)))) (tAnd (tTest (tOp (rEqU K) (tVar 4) (tC (.int 0)))) (tTest (tOp (rCmp K gGt) (tCB (rLenU K) (tCons (tVar 2) tNil)) (tC (.int 0)))))) (tRet (tOp (rAddU K) (tVar 2) (tSl (rSlU K) (tVar 2) tNoPart (tPart (tC (.int 1)))))) tNext) (tSeq (tIfS (tAnd (tB (tCB (rIsiU K) (tCons (tVar 2) (tCons (tC (.ty "tuple")) tNil)))) (tAnd (tTest (tOp (rEqU K) (tVar 4) (tC (.int 1)))) (tTest (tOp (rCmp K gGt) (tCB (rLenU K) (tCons (tVar 2) tNil)) (tC (.int 0)))))) (tRet (tSl (rSlU K) (tVar 2) (tPart (tC (.int 1))) tNoPart)) tNext) (tSeq (tIfS (tAnd (tB (tCB (rIsiU K) (tCons (tVar 2) (tCons (tC (.ty "tuple")) tNil)))) (tAnd (tTest (tOp (rEqU K) (tVar 4) (tC (.int 2)))) (tTest (tOp (rCmp K gGt) (tCB (rLenU K) (tCons (tVar 2) tNil)) (tC (.int 1)))))) (tRet (tOp (rAddU K) (tSl (rSlU K) (tVar 2) (tPart (tC (.int 1))) tNoPart) (tSl (rSlU K) (tVar 2) tNoPart (tPart (tC (.int 1)))))) tNext) (tSeq (tIfS (tAnd (tB (tCB (rIsiU K) (tCons (tVar 2) (tCons (tC (.ty "str")) tNil)))) (tTest (tOp (rCmp K gLt) (tVar 4) (tC (.int 3))))) (tRet (tIxU K (tLst (tCons (tC (.str "")) (tCons (tC (.str "ab")) (tCons (tC (.str "abc")) (tCons (tC (.str "g")) (tCons (tC (.str "fa")) (tCons (tOp (rAddU K) (tVar 2) (tC (.str "a"))) (tCons (tC (.str "A")) (tCons (tOp (rAddU K) (tVar 2) (tC (.str "\n"))) tNil))))))))) (tCall (sp__law_take K) [] E0 (tCons (tVar 0) (tCons (tVar 1) (tCons (tC (.int 8)) tNil)))))) tNext) (tSeq (tIfS (tAnd (tB (tCB (rIsiU K) (tCons (tVar 2) (tCons (tC (.ty "int")) tNil)))) (tTest (tOp (rCmp K gLt) (tVar 4) (tC (.int 3))))) (tRet (tIxU K (tLst (tCons (tC (.int 0)) (tCons (tC (.int 9)) (tCons (tC (.int 10)) (tCons (tOp (rAddU K) (tVar 2) (tC (.int 1))) (tCons (tC .non) (tCons (tC (.bl true)) tNil))))))) (tCall (sp__law_take K) [] E0 (tCons (tVar 0) (tCons (tVar 1) (tCons (tC (.int 6)) tNil)))))) tNext) (tRet (tIxU K (tLst (tCons (tC .non) (tCons (tC (.int 7)) (tCons (tC (.bl true)) (tCons (tC (.str "")) (tCons (tTup tNil) (tCons (tTup (tCons (tC (.str "a")) (tCons (tC (.str "b")) (tCons (tC (.int 1)) tNil)))) (tCons (tC (.str "a")) tNil)))))))) (tCall (sp__law_take K) [] E0 (tCons (tVar 0) (tCons (tVar 1) (tCons (tC (.int 7)) tNil)))))))))))) { nx := fun _ H' => Q .non H', rt := Q } σ H1 := by
      rintro σ av kv H1 rfl e1
      refine q_asg (ρ := spR sp) (ev_take (ev_var rfl) (ev_var rfl) ev_c (dr.sp e1) (by decide)) fun v1 H2 e2 ⟨m, ev, _, _⟩ => ?_
      subst ev
      have e12 := e1.trans e2
      have hdat : ∀ H3, (spR sp).r H2 H3 → DS (spR sp) H3 (.ref a) (.tuple ds) := fun H3 e3 => hds H3 (e12.trans e3)
      have good : ∀ v' ds' H', (spR sp).r H2 H' → DS (spR sp) H' v' (.tuple ds') → Fine 900 (PyData.depthAll ds) ds' → Q v' H' := fun v' ds' H' e h f =>
        k v' _ H' (e12.trans e) h ⟨(f.good (by decide)).1, (f.good (by decide)).2.1, by have := (f.good (by decide)).2.2; rw [ddep]; omega⟩
      have cutE : ∀ {H3 : Hp} {tl th : TO} {lo hi : Option Int}, (spR sp).r H2 H3 → EvO (spR sp) tl [some (.ref ra), some (.ref sp), some (.ref a), av, some (.int m)] H3 lo → EvO (spR sp) th [some (.ref ra), some (.ref sp), some (.ref a), av, some (.int m)] H3 hi → Ev (spR sp) (tSl (rSlU K) (tVar 2) tl th) [some (.ref ra), some (.ref sp), some (.ref a), av, some (.int m)] H3 (fun v H' => ∃ ds', Fine 300 (PyData.depthAll ds) ds' ∧ DS (spR sp) H' v (.tuple ds')) := fun e3 h1 h2 =>
        (ev_slD Le.rfl (ev_var rfl) h1 h2 (hdat _ e3)).imp fun v H' _ h => ⟨_, fine.cut _ _, h⟩
      refine q_when (ρ := spR sp) (et_and (et_B (ev_isi (ev_var rfl) (hdat H2 .rfl) rfl)) fun _ => et_and (et_test (ev_eqI (ev_var rfl) ev_c)) fun _ => et_test (ev_gt (ev_len (ev_var rfl) (fun H3 e3 => sA H3 (e12.trans e3))) ev_c)) (fun hb H3 e3 => ?_) fun _ H3 e3 => ?_
      · refine s_ret (ρ := spR sp) (ev_catD (C1 := Fine 300 (PyData.depthAll ds)) (C2 := Fine 300 (PyData.depthAll ds)) ((ev_var (v := .ref a) rfl).imp fun v H' e ev => ⟨ds, fine, by rw [ev]; exact hdat H' (e3.trans e)⟩) (fun H4 e4 => cutE (e3.trans e4) eo_none (eo_some ev_c)) fun d1 d2 f1 f2 => by have := f1.len; have := f2.len; omega) fun v' H4 e4 ⟨ds', ⟨d1, d2, f1, f2, ed⟩, h⟩ => ?_
        exact good v' ds' H4 (e3.trans e4) h (by rw [ed]; have f := f1.append f2; exact ⟨f.all, Nat.le_trans f.len (by decide)⟩)
      refine q_when (ρ := spR sp) (et_and (et_B (ev_isi (ev_var rfl) (hdat H3 e3) rfl)) fun _ => et_and (et_test (ev_eqI (ev_var rfl) ev_c)) fun _ => et_test (ev_gt (ev_len (ev_var rfl) (fun H4 e4 => sA H4 (e12.trans (e3.trans e4)))) ev_c)) (fun hb H4 e4 => ?_) fun _ H4 e4 => ?_
      · refine s_ret (ρ := spR sp) (cutE (e3.trans e4) (eo_some ev_c) eo_none) fun v' H5 e5 ⟨ds', f, h⟩ => ?_
        exact good v' ds' H5 (e3.trans (e4.trans e5)) h ⟨f.all, Nat.le_trans f.len (by decide)⟩
      have e34 := e3.trans e4
      refine q_when (ρ := spR sp) (et_and (et_B (ev_isi (ev_var rfl) (hdat H4 e34) rfl)) fun _ => et_and (et_test (ev_eqI (ev_var rfl) ev_c)) fun _ => et_test (ev_gt (ev_len (ev_var rfl) (fun H5 e5 => sA H5 (e12.trans (e34.trans e5)))) ev_c)) (fun hb H5 e5 => ?_) fun _ H5 e5 => ?_
      · refine s_ret (ρ := spR sp) (ev_catD (C1 := Fine 300 (PyData.depthAll ds)) (C2 := Fine 300 (PyData.depthAll ds)) (cutE (e34.trans e5) (eo_some ev_c) eo_none) (fun H6 e6 => cutE (e34.trans (e5.trans e6)) eo_none (eo_some ev_c)) fun d1 d2 f1 f2 => by have := f1.len; have := f2.len; omega) fun v' H6 e6 ⟨ds', ⟨d1, d2, f1, f2, ed⟩, h⟩ => ?_
        exact good v' ds' H6 (e34.trans (e5.trans e6)) h (by rw [ed]; have f := f1.append f2; exact ⟨f.all, Nat.le_trans f.len (by decide)⟩)
      have e35 := e34.trans e5
      refine q_when (ρ := spR sp) (b := false) ((et_and (b := true) (et_B (ev_isi (ev_var rfl) (hdat H5 e35) rfl)) fun h => by cases h).to rfl) (fun hb => by cases hb) fun _ H6 e6 => ?_
      refine q_when (ρ := spR sp) (b := false) ((et_and (b := true) (et_B (ev_isi (ev_var rfl) (hdat H6 (e35.trans e6)) rfl)) fun h => by cases h).to rfl) (fun hb => by cases hb) fun _ H7 e7 => ?_
      exact last _ _ H7 rfl rfl rfl (e12.trans (e35.trans (e6.trans e7)))
    by_cases h0 : ds.length = 0
    · refine q_when (ρ := spR sp) (b := false) ((et_and (b := false) (et_B (ev_isi (ev_var rfl) hd rfl)) fun _ => (et_and (b := true) (et_test (ev_gt (ev_len (ev_var rfl) sA) ev_c)) fun h => ?_).to ?_).to rfl) (fun hb => by cases hb) fun _ H1 e1 => rest _ _ _ H1 rfl e1
      · have := of_decide_eq_true h
        omega
      · rw [decide_eq_false (by omega)]
        rfl
    · refine q_whenC (ρ := spR sp) (C := fun _ => True) (etc_and (et_B (ev_isi (ev_var rfl) hd rfl)) (etc_and ((et_test (ev_gt (ev_len (ev_var rfl) sA) ev_c)).to (decide_eq_true (by omega))) (etc_test (ev_opP (Pa := Below 6) (Pb := fun v => v = .int 0) (ev_take (ev_var rfl) (ev_var rfl) ev_c dr (by decide)) ev_c fun x y ⟨m, ex, _⟩ ey => by
        subst ex ey
        exact fun H1 e1 Q q => rv_cmpI H1 Q (q _ H1 .rfl ⟨_, rfl, trivial⟩))))) (fun _ H1 e1 => ?_) fun _ H1 e1 => rest _ _ _ H1 rfl e1
      refine q_asg (ρ := spR sp) (ev_take (ev_var rfl) (ev_var rfl) (ev_len (ev_var rfl) (fun H2 e2 => sA H2 (e1.trans e2))) (dr.sp e1) (by omega)) fun v1 H2 e2 ⟨m, ev, m0, m1⟩ => ?_
      subst ev
      have e12 := e1.trans e2
      have hm : m.toNat < xs.length := by omega
      have gx : xs[m.toNat]? = some xs[m.toNat] := List.getElem?_eq_getElem hm
      obtain ⟨dm, g1, g2⟩ := hxs.get gx
      have hmem := List.mem_of_getElem? g1
      have dmd : dm.depth ≤ PyData.depthAll ds := depth_mem hmem
      have dpn : PyData.depthAll ds + 1 < n + 1 := dp
      have hdat : ∀ H3, (spR sp).r H2 H3 → DS (spR sp) H3 (.ref a) (.tuple ds) := fun H3 e3 => hds H3 (e12.trans e3)
      refine s_ret (ρ := spR sp) (ev_catD (C1 := Fine 301 (PyData.depthAll ds + 1)) (C2 := Fine 300 (PyData.depthAll ds + 1)) ((ev_catD (C1 := Fine 300 (PyData.depthAll ds + 1)) (C2 := Fine 1 (PyData.depthAll ds + 1)) ?_ ?_ ?_).imp ?_) ?_ ?_) fun v' H3 e3 ⟨ds', ⟨d1, d2, f1, f2, ed⟩, h⟩ => ?_
      · exact (ev_slD Le.rfl (ev_var rfl) eo_none (eo_some (ev_var rfl)) (hdat H2 .rfl)).imp fun v H' _ h => ⟨_, (fine.cut _ _).up (Nat.le_succ _), h⟩
      · intro H3 e3
        refine (ev_tup (Rr := fun vs H' => ∃ x, vs = [x] ∧ GoodV sp (PyData.depthAll ds + 1) x H') (ea_one (ev_call (ea_cons (ev_var rfl) (ea_cons (ev_var rfl) (ea_cons (ev_ix (n := m.toNat) (ev_var rfl) (ev_var rfl) (fun H4 e4 => sA H4 (e12.trans (e3.trans e4))) (by omega) gx) ea_nil))) fun H4 e4 Q' q' E' => ?_)) fun vs H4 _ ⟨x, e, _⟩ => by rw [e]; show 1 ≤ 100000; decide).imp fun v H4 e4 ⟨p, vs, H5, ev, ⟨x, evs, dx, hx, gx⟩, hp5, r5, eH⟩ => ?_
        · exact ⟨ra, sp, _, dm, rfl, dr.sp (e12.trans (e3.trans e4)), (e12.trans (e3.trans e4)).ds g2, plainTs_mem hpl.2 hmem, by omega, fun v' d' H' e h g => q' v' H' e ⟨d', h, g.1, g.2.1, Nat.le_trans g.2.2 (by omega)⟩⟩
        · subst ev evs
          refine ⟨[dx], ⟨fun d hd => ?_, Nat.le_refl _⟩, .tup (by rw [eH]; exact upd_same) (.cons ((eH ▸ r_new (ρ := spR sp) _ hp5 : (spR sp).r H5 H4).ds hx) .nil)⟩
          rw [List.mem_singleton.mp hd]
          exact gx
      · intro d1 d2 f1 f2
        have := f1.len
        have := f2.len
        omega
      · rintro v H3 e3 ⟨ds', ⟨d1, d2, f1, f2, rfl⟩, h⟩
        exact ⟨_, f1.append f2, h⟩
      · intro H3 e3
        exact (ev_slD Le.rfl (ev_var rfl) (eo_some (ev_add (ev_var rfl) ev_c)) eo_none (hdat H3 e3)).imp fun v H' _ h => ⟨_, (fine.cut _ _).up (Nat.le_succ _), h⟩
      · intro d1 d2 f1 f2
        have := f1.len
        have := f2.len
        omega
      · have f := f1.append f2
        rw [← ed] at f
        have g := f.good (by decide)
        exact k v' _ H3 (e12.trans e3) h g
end Slip
/-! the law of tables -/
namespace Slip
open PySem PySem.Spec PyProof.Rows L2
/-! ### lists for tuples -/
theorem piece_tupD (m : PyData) : isPieceD (tupD m) = isPieceD m := by cases m <;> rfl
theorem whole_tupD (m : PyData) : isWholeD 1 9 (tupD m) = isWholeD 1 9 m := by cases m <;> rfl
theorem seq_tupD (m : PyData) : isSeqD (tupD m) = isSeqD m := by cases m <;> rfl
theorem items_tupD (m : PyData) : itemsD (tupD m) = (itemsD m).map tupD := by
  cases m with
  | tuple ds => exact tupAll_map ds
  | list ds => exact tupAll_map ds
  | _ => rfl
theorem fault_two {d : PyData} (hq : isSeqD d = true) (h : (itemsD d).length ≠ 3) : isFaultD d = false := by
  unfold isFaultD isTripleD
  rw [hq, decide_eq_false h]
  rfl
theorem fault_tupD (d : PyData) : isFaultD (tupD d) = isFaultD d := by
  cases hq : isSeqD d with
  | false =>
    rw [fault_seq hq, fault_seq (by rw [seq_tupD]; exact hq)]
  | true =>
    by_cases h3 : (itemsD d).length = 3
    · obtain ⟨m, w, c, e⟩ := three h3
      have e2 : itemsD (tupD d) = [tupD m, tupD w, tupD c] := by rw [items_tupD, e]; rfl
      have f1 : isFaultD d = (isPieceD m && isPieceD w && !(PyData.eqv m w) && isWholeD 1 9 c) := by
        unfold isFaultD isTripleD
        rw [hq, e]
        rfl
      have f2 : isFaultD (tupD d) = (isPieceD (tupD m) && isPieceD (tupD w) && !(PyData.eqv (tupD m) (tupD w)) && isWholeD 1 9 (tupD c)) := by
        unfold isFaultD isTripleD
        rw [seq_tupD, hq, e2]
        rfl
      rw [f1, f2, piece_tupD, piece_tupD, whole_tupD]
      cases h1 : isPieceD m with
      | false => rfl
      | true =>
        cases h2 : isPieceD w with
        | false => rfl
        | true =>
          obtain ⟨s, rfl, _⟩ := piece_str h1
          obtain ⟨t, rfl, _⟩ := piece_str h2
          rfl
    · rw [fault_two hq h3, fault_two (by rw [seq_tupD]; exact hq) (by rw [items_tupD, List.length_map]; exact h3)]
theorem pair_tupD {d : PyData} (h : isFaultD d = true) : pairOf (tupD d) = pairOf d := by
  obtain ⟨s, t, c, e, _⟩ := fault_parts h
  rw [pair_fault e, pair_fault (d := tupD d) (s := s) (t := t) (c := .int c) (by rw [items_tupD, e]; rfl)]
theorem table_tupD (d : PyData) : isTableD (tupD d) = isTableD d := by
  unfold isTableD
  rw [seq_tupD, items_tupD, List.length_map, List.all_map]
  have ha : (itemsD d).all (isFaultD ∘ tupD) = (itemsD d).all isFaultD := by
    have : isFaultD ∘ tupD = isFaultD := funext fun x => fault_tupD x
    rw [this]
  rw [ha]
  cases hf : (itemsD d).all isFaultD with
  | false => rw [Bool.and_false]; rfl
  | true =>
    have : ((itemsD d).map tupD).map pairOf = (itemsD d).map pairOf := by
      rw [List.map_map]
      exact List.map_congr_left fun x hx => pair_tupD (List.all_eq_true.mp hf x hx)
    rw [this]
/-! ### a datum is itself -/
mutual
theorem so_self : ∀ d : PyData, plainT d = true → soD d d = true
  | .str s, _ => decide_eq_true rfl
  | .int i, _ => decide_eq_true rfl
  | .tuple ds, h => by
    have h' : ds.length ≤ 300 ∧ plainTs ds = true := by simpa [plainT] using h
    exact sos_self ds h'.2
  | .none, h => by cases h
  | .bool _, h => by cases h
  | .list _, h => by cases h
  | .dict _, h => by cases h
theorem sos_self : ∀ ds : List PyData, plainTs ds = true → soAll ds ds = true
  | [], _ => rfl
  | d :: ds, h => by
    have h' : plainT d = true ∧ plainTs ds = true := by simpa [plainTs] using h
    show (soD d d && soAll ds ds) = true
    rw [so_self d h'.1, sos_self ds h'.2]
    rfl
end
theorem so_bool (b : Bool) : soD (.bool b) (.bool b) = true := by cases b <;> rfl
/-- what a table looks like -/
theorem table_plain {ds : List PyData} (hn : noLists ds = true) (h : isTableD (.tuple ds) = true) : plainT (.tuple ds) = true ∧ (PyData.tuple ds).depth ≤ 2 := by
  have h' : ((true && decide (ds.length ≤ 8)) && ds.all isFaultD) = true := by
    cases q : ((true && decide (ds.length ≤ 8)) && ds.all isFaultD) with
    | true => rfl
    | false =>
      have z : (((true && decide (ds.length ≤ 8)) && ds.all isFaultD) && risingD (ds.map pairOf)) = true := h
      rw [q] at z
      cases z
  have h2 : ds.length ≤ 8 ∧ ∀ x ∈ ds, isFaultD x = true := by simpa using h'
  have one : ∀ x ∈ ds, plainT x = true ∧ x.depth ≤ 1 := fun x hx => by
    obtain ⟨s, t, c, e, p1, p2, _, _, _, hq⟩ := fault_parts (h2.2 x hx)
    have nl := noLists_mem hn hx
    cases x with
    | tuple es =>
      have e' : es = [.str s, .str t, .int c] := e
      subst e'
      obtain ⟨s', es, l1, _⟩ := piece_str p1
      obtain ⟨t', et, l2, _⟩ := piece_str p2
      cases es
      cases et
      refine ⟨?_, Nat.le_refl _⟩
      show (decide (3 ≤ 300) && (decide (s.length ≤ 300) && (decide (t.length ≤ 300) && (true && true)))) = true
      rw [decide_eq_true (show s.length ≤ 300 by omega), decide_eq_true (show t.length ≤ 300 by omega)]
      rfl
    | list es => cases nl
    | _ => cases hq
  have all : ∀ l : List PyData, (∀ x ∈ l, plainT x = true ∧ x.depth ≤ 1) → plainTs l = true := fun l => by
    induction l with
    | nil => intro _; rfl
    | cons x l ih =>
      intro h
      show (plainT x && plainTs l) = true
      rw [(h x (List.mem_cons_self ..)).1, ih fun y hy => h y (List.mem_cons_of_mem _ hy)]
      rfl
  refine ⟨?_, ?_⟩
  · show (decide (ds.length ≤ 300) && plainTs ds) = true
    rw [decide_eq_true (by omega), all ds one]
    rfl
  · show PyData.depthAll ds + 1 ≤ 2
    have := depth_all (D := 1) fun x hx => (one x hx).2
    omega
/-! ### rules -/
section
variable {ρ ρf : Rl} {K : Frag} {σ : L2.St} {H : Hp} {ta te : TE} {tr : TA} {x : V} {d : PyData} {ds : List PyData} {Rr : List V → Hp → Prop}
theorem ea_consV (h : EvV ρ ta σ H x) (hr : EvA ρ tr σ H Rr) : EvA ρ (tCons ta tr) σ H (fun vs H' => ∃ ws, vs = x :: ws ∧ Rr ws H') := fun H1 e _ q =>
  h H1 e _ fun v H2 e2 ev => hr H2 (e.trans e2) _ fun ws H3 e3 rw' => q _ H3 (e2.trans e3) ⟨ws, by rw [ev], rw'⟩
theorem ea_nilD : EvA ρ tNil σ H (fun vs H' => DSs ρf H' vs []) := fun H1 _ _ q => q [] H1 .rfl .nil
theorem ea_consD (le : Le ρ ρf) (h : Ev ρ ta σ H (fun v H' => DS ρf H' v d)) (hr : ∀ H1, ρ.r H H1 → EvA ρ tr σ H1 (fun vs H' => DSs ρf H' vs ds)) : EvA ρ (tCons ta tr) σ H (fun vs H' => DSs ρf H' vs (d :: ds)) := fun H1 e _ q =>
  h H1 e _ fun v H2 e2 hv => hr H2 (e.trans e2) H2 .rfl _ fun ws H3 e3 hw => q _ H3 (e2.trans e3) (.cons (le.ds e3 hv) hw)
theorem ev_tupDs (le : Le ρ ρf) (h : EvA ρ tr σ H (fun vs H' => DSs ρf H' vs ds)) (hl : ds.length ≤ 100000) : Ev ρ (tTup tr) σ H (fun v H' => DS ρf H' v (.tuple ds)) :=
  (ev_tup h fun vs H1 _ e => by rw [e.length]; exact hl).imp fun v H2 r ⟨p, vs, H1, ev, hv, hp, r1, eH⟩ => by
    subst ev
    exact .tup (by rw [eH]; exact upd_same) (le.dss (eH ▸ r_new (ρ := ρ) _ hp) hv)
end
/-- what was handed looks as the table does -/
theorem mixed_table {d d' : PyData} (m : Mixed d d') : isTableD d' = isTableD d := by rw [← table_tupD d', m]
theorem mixed_sm {d d' : PyData} (m : Mixed d d') : sm d' = sm d := by rw [← sm_tup d', m]
theorem mixed_depth {d d' : PyData} (m : Mixed d d') : d'.depth = d.depth := by rw [← dep_tup d', m]
end Slip
/-! a dict made by a comprehension, its keys tuples -/
namespace Slip
open PySem PySem.Spec PyProof.Rows L2
/-- the entry goes in -/
theorem put_tup {X : Cx} {pins : List (Addr × Obj)} {σ : L2.St} {H : Hp} {s : Shared} {E : Value → Shared → Prop} {D b : Addr} {kvs : List (List Key × V)} {k : List Key} {v : V} {r : Value} {Q : Unit → Shared → Prop} (hu : X.A.units + 1 < cLine) (I : Inv X pins σ H s) (hD : H D = some (.dT kvs)) (hb : H b = some (.tup (k.map kV))) (hz : kvs.length < sizeLine)
    (rv : RelV v r) (q : ∀ s', Inv X pins σ (upd H D (.dT (putK kvs k v))) s' → Q () s') : wpAny (model X.prog X.w) X.A (dictSet D (.ref b) r) Q E s := by
  obtain ⟨zz, hs, ys, rel, dd⟩ := dt_of I.hok hD
  have len1 : ys.length ≤ sizeLine := (Paired.length rel) ▸ zz
  have len2 : (putK kvs k v).length ≤ sizeLine := Nat.le_trans (length_putK kvs k v) (Nat.succ_le_of_lt hz)
  refine wpAny_dictSet_heap (hsz := len1) (show X.A.units < cLine by omega) (key_of I.hok hb) dd fun h' dd' sb => q _ ?_
  obtain ⟨ob, es, ep, e1, e2, e3, e4, _, e5⟩ := dd'
  refine d_write I (hD ▸ True.intro) sb ⟨ob, e1⟩ ⟨len2, hs, _, Paired.mapP (rel.put k hb rv) fun p y f => ⟨f.1, by rw [upd_ne (ne_of f.2.1 hD (by intro z; cases z))]; exact f.2.1, f.2.2⟩, ob, es, ep, e1, e2, e3, e4, e5⟩
section
variable {X : Cx}
/-- {(a, b): c for target in iter if ..}: D the new dict -/
def tDcT (wi : TI) (g : TG) (tt : TT) (tk tv : TE) (vs : List Nat) : TE := fun σ H Q => wi σ H fun J H1 => ∀ D, H1 D = none → ∃ W : Nat → Nat → Hp → Prop, (∃ m, W 0 m (upd H1 D (.dT []))) ∧ ∀ i m H, W i m H →
  (J.stop i H ∧ Q (.ref D) H) ∨ (J.go i H ∧ ∃ Nx : Hp → Prop, (∀ H', Nx H' → ∃ m', m' < m ∧ W (i + 1) m' H') ∧ ∀ x H', J.yld i H x H' → g x (wipe σ vs) H' fun σ2 H2 => wipe σ2 vs = wipe σ vs ∧ tt σ2 H2 fun c H3 =>
    if c = true then tk σ2 H3 fun y H4 => tv σ2 H4 fun z H5 => ∃ (kvs : List (List Key × V)) (k : List Key) (b : Addr), y = .ref b ∧ H5 b = some (.tup (k.map kV)) ∧ H5 D = some (.dT kvs) ∧ kvs.length < sizeLine ∧ Nx (upd H5 D (.dT (putK kvs k z))) else Nx H3)
theorem pe_dcT {kx vx tg iter : Expr} {ifs : List Expr} {scope : Scope} {own : List (Str × Nat)} {pos : Pos} {wi : TI} {g : TG} {tt : TT} {tk tv : TE} (hc : X.calm = true) (hu : X.A.units + 1 < cLine) (hN : X.N.Nodup) (hi : PI X tg iter wi) (ok : BlkOk X.N X.env.scope scope own)
    (hg : ∀ s H C cl fp, PG (X.blk s H scope (compEnvC scope cl C X.env) fp) tg g) (ht : ∀ s H C cl fp, PTs (X.blk s H scope (compEnvC scope cl C X.env) fp) ifs tt)
    (hk : ∀ s H C cl fp, PE (X.blk s H scope (compEnvC scope cl C X.env) fp) kx tk) (hv : ∀ s H C cl fp, PE (X.blk s H scope (compEnvC scope cl C X.env) fp) vx tv) (hfs : ∀ x, foldedSetIterable iter X.env x = pure x := by intro _; rfl) :
    PE X (.DictComp kx vx [⟨tg, iter, ifs, 0⟩] scope pos) (tDcT wi g tt tk tv (own.map (·.2))) := by
  refine ⟨fun pins s σ H Q I asked => ?_⟩
  rw [arm_eval_DictComp]
  have cells : ∀ y ∈ scope.names, y.2 = .free → ∃ c, X.env.cells.lookup y.1 = some c := fun y hy e => (ok.free y hy e).elim (fun z => I.ok.has _ (.inl z)) fun z => I.ok.has _ (.inr z)
  refine wpAny_comprehension_free rfl hfs (closure_ok cells) ok.kind (fun y hy e => by rw [ok.uniq y hy, e]) (thn (hi.run pins s σ H _ I asked) fun xv sa walked => thn walked fun itv sb got => ?_)
  obtain ⟨it, fp, tn, J, Hb, rfl, Ib, T, stb, fb, plan⟩ := got
  refine wpAny_newObj_type (newEnv_comp ?_)
  -- the dict, at the heap's end
  have fresh : Hb sb.heap.objs.size = none := Ib.hok.fresh (Nat.le_refl _)
  generalize eD : sb.heap.objs.size = D at fresh
  obtain ⟨W, ⟨m0, w0⟩, turn⟩ := plan D fresh
  generalize esc : ({ sb with heap := sb.heap.push { cls := .type "dict", data := .dict #[] } } : Shared) = sc
  have heapc : sc.heap = sb.heap.push { cls := .type "dict", data := .dict #[] } := esc ▸ rfl
  generalize eHc : upd Hb D (.dT []) = Hc at w0
  have Ic : Inv X pins σ Hc sc := by
    subst esc eHc eD
    exact Ib.laid (t' := sb.toks) (fun b o e => Heap.get?_push_of_some _ e) (Nat.le_refl _) (dt_empty sb.heap Ib.big)
  have small : ∀ b ∈ fp, b < sb.heap.objs.size := fun b hb => (T.obj _ _ stb b hb).elim fun o z => Heap.lt_size z.1
  have fc : ∀ b ∈ fp, FpOk X pins Hc b ∧ b < sc.heap.objs.size := fun b hb => ⟨⟨by rw [← eHc, upd_ne (eD ▸ Nat.ne_of_lt (small b hb))]; exact (fb b hb).1, (fb b hb).2⟩, by rw [heapc, Heap.size_push]; exact Nat.lt_succ_of_lt (small b hb)⟩
  have stc : tn 0 sc.heap := T.keep _ _ _ stb fun b _ o e => heapc ▸ Heap.get?_push_of_some _ e
  have Id := block_start Ic ok hN fc
  have qg := hg sc Hc sc.heap.objs.size (cellsFrom (sc.heap.objs.size + 1) scope.names (cloFrom X.env.cells scope.names [])) fp
  have qt := ht sc Hc sc.heap.objs.size (cellsFrom (sc.heap.objs.size + 1) scope.names (cloFrom X.env.cells scope.names [])) fp
  have qk := hk sc Hc sc.heap.objs.size (cellsFrom (sc.heap.objs.size + 1) scope.names (cloFrom X.env.cells scope.names [])) fp
  have qv := hv sc Hc sc.heap.objs.size (cellsFrom (sc.heap.objs.size + 1) scope.names (cloFrom X.env.cells scope.names [])) fp
  have own0 : ∀ b ∈ fp, Hc b = none := fun b hb => (fc b hb).1.1
  show codeAny _ _ (.compStart _ 0 (.ref it) (.ref D) (compEnvC scope (cellsFrom (sc.heap.objs.size + 1) scope.names (cloFrom X.env.cells scope.names [])) sc.heap.objs.size X.env)) _ { sc with heap := pushCells (sc.heap.push { cls := .type "dict", data := .dict #[] }) scope.names }
  generalize ece : compEnvC scope (cellsFrom (sc.heap.objs.size + 1) scope.names (cloFrom X.env.cells scope.names [])) sc.heap.objs.size X.env = ce at Id qg qt qk qv ⊢
  have locs : ce.locals = sc.heap.objs.size := ece ▸ rfl
  generalize esd : ({ sc with heap := pushCells (sc.heap.push { cls := .type "dict", data := .dict #[] }) scope.names } : Shared) = sd at Id ⊢
  have std : tn 0 sd.heap := T.keep _ _ _ stc fun b _ o e => esd ▸ pushCells_keeps _ _ _ _ (Heap.get?_push_of_some _ e)
  have free1 : ∀ {σ' : L2.St} {H' : Hp} {s' : Shared}, Inv (X.blk sc Hc scope ce fp) [] σ' H' s' → (∀ b ∈ fp, H' b = none) → ∀ b ∈ fp, FpOk (X.blk sc Hc scope ce fp) [] H' b := fun I' nn b hb =>
    ⟨nn b hb, (I'.ok.exf b hb).1, I'.ok.exfs b hb, .inl hb, fun x c e => (I'.ok.exf b hb).2 x c e, fun p hp => nomatch (show p ∈ ([] : List (Addr × Obj)) from hp)⟩
  refine codeAny_compStart_dict ?loop (T.self X.A 0 _ _ _ std ?loop)
  refine compLoop_anyD (fun n s' => ∃ i H', Inv (X.blk sc Hc scope ce fp) [] (wipe σ (own.map (·.2))) H' s' ∧ tn i s'.heap ∧ (∀ b ∈ fp, H' b = none) ∧ W i n H') (fun n se ⟨i, He, Ie, ste, ne, we⟩ => ?_) m0 ⟨0, Hc, Id, std, own0, w0⟩
  rcases turn i n He we with ⟨stop, ends⟩ | ⟨go, Nx, less, step⟩
  · -- the end
    refine thnF (T.done (X.blk sc Hc scope ce fp) rfl rfl rfl hc i [] se _ He (fun _ _ => False) Ie (free1 Ie ne) ste stop) fun r sf ⟨er, If⟩ => ?_
    subst er
    have noL : He sc.heap.objs.size = none := locs ▸ (show He ce.locals = none from If.free)
    obtain ⟨m, ns0, _⟩ := If.loc
    have ns : sf.heap.Ns sc.heap.objs.size m := locs ▸ (show sf.heap.Ns ce.locals m from ns0)
    obtain ⟨p0, p1, p2, p3, p4, p5⟩ := Ic.fpOk (Nat.le_refl _) noL
    have Ig : Inv X pins σ He sf := Ic.call' (ch := fp) If.os If.base If.hok If.bare fun b hb => ⟨(fc b hb).1.2.2.2.1, (fc b hb).1.2.1, (fc b hb).1.2.2.2.2.1, (fc b hb).1.2.2.2.2.2⟩
    exact ⟨m, ns, fun h'' same => ⟨.ref D, He, Ig.turned (t' := sf.toks) (fun b o hb e => (same.2 b hb).trans e) p0 p1 p3 p4 p5, rfl, ends⟩⟩
  · -- a turn
    refine thnF (T.item (X.blk sc Hc scope ce fp) rfl rfl rfl hc i [] se _ He (fun _ _ => False) Ie (free1 Ie ne) ste go) fun r sf ⟨u, er, after⟩ => ?_
    subst er
    refine thnF after fun _ sg ⟨x, Hg, Ig, rx, yl, stg, ng⟩ => ?_
    refine thnF (qg.run _ sg _ Hg x u _ (Ig.pinned (free1 Ig ng) (T.obj _ _ stg)) rx (step x Hg yl)) fun _ sh ⟨σh, Hh, Ih, wh, ask⟩ => ?_
    refine thnF (qt.run _ sh σh Hh _ Ih ask) fun c si ⟨Hi, Ii, ask2⟩ => ?_
    have close : ∀ {s' : Shared} {H' : Hp}, Inv (X.blk sc Hc scope ce fp) ([] ++ pinsAt fp sg.heap) σh H' s' → Nx H' → ∃ m, m < n ∧ ∃ i H', Inv (X.blk sc Hc scope ce fp) [] (wipe σ (own.map (·.2))) H' s' ∧ tn i s'.heap ∧ (∀ b ∈ fp, H' b = none) ∧ W i m H' := fun {s' H'} I' nx => by
      obtain ⟨m', lt, w'⟩ := less H' nx
      have held : ∀ b ∈ fp, ∀ o, sg.heap.get? b = some o → s'.heap.get? b = some o ∧ H' b = none := fun b hb o e => ⟨(I'.pin (b, o) (List.mem_append_right _ (List.mem_append_right _ (mem_pinsAt hb e)))).1, (I'.pin (b, o) (List.mem_append_right _ (List.mem_append_right _ (mem_pinsAt hb e)))).2.1⟩
      refine ⟨m', lt, i + 1, H', (I'.unpinned (pins := [])).weak (by rw [← wh, wipe_length]) fun j v e => ?_, T.keep _ _ _ stg fun b hb o e => (held b hb o e).1, fun b hb => ?_, w'⟩
      · rw [← wh] at e
        exact (wipe_some e).1
      · exact (T.obj _ _ stg b hb).elim fun o z => (held b hb o z.1).2
    cases c with
    | false => exact close Ii ask2
    | true =>
      refine thnF (qk.run _ si σh Hi _ Ii ask2) fun kv sj ⟨yk, Hj, Ij, rk, ask3⟩ => ?_
      refine thnF (qv.run _ sj σh Hj _ Ij ask3) fun vv sl ⟨yv, Hl, Il, rv, kvs, k, b, ek, hb, hD, hz, nx⟩ => ?_
      subst ek
      cases (show kv = Value.ref b from rk)
      exact put_tup (X := X.blk sc Hc scope ce fp) hu Il hD hb hz rv fun sm Im => close Im nx
end
/-- the truth of a value, whatever its kind -/
def tTru (K : Frag) (ta : TE) : TT := fun σ H Q => ta σ H fun x H' => ∃ k, TruV K x H' k ∧ Q k H'
end Slip
/-! machines, looked at -/
namespace Slip
open PySem PySem.Spec PyProof.Rows L2
def spB2 (F : Int → PyData → Bool) : Sp := fun vs H Q _ => ∃ v n d, vs = [v, .int n] ∧ DS exR H v d ∧ sm d = true ∧ ∀ H', Ext H H' → Q (.bl (F n d)) H'
theorem spB2_len {F : Int → PyData → Bool} {vs : List V} {H : Hp} {Q : VK} {E : XK} (h : spB2 F vs H Q E) : vs.length = 2 := by
  obtain ⟨v, n, d, rfl, _⟩ := h
  rfl
theorem ev_B2 {ρ : Rl} {σ : L2.St} {H : Hp} {ta tb : TE} {v : V} {d : PyData} {n : Int} {F : Int → PyData → Bool} {E : XK} (h : EvV ρ ta σ H v) (h2 : EvV ρ tb σ H (.int n)) (hd : DS ρ H v d) (hs : sm d = true) : EvV ρ (tCall (spB2 F) [] E (tCons ta (tCons tb tNil))) σ H (.bl (F n d)) :=
  ev_call (ea_cons h (ea_cons h2 ea_nil)) fun H1 e1 Q q E => ⟨v, n, d, rfl, (e1.ds hd).ex, hs, fun H' e => q _ H' (Ext.r e) rfl⟩
def isLetD : PyData → Bool
  | .str s => isWordD (.str s) && decide (s.length = 1)
  | _ => false
def isMoveD (n : Int) (d : PyData) : Bool := isTripleD d && match itemsD d with
  | [s, l, b] => isLetD l && (isWholeD 0 (n - 1) s && isWholeD 0 (n - 1) b)
  | _ => false
def areEndsD (n : Int) (d : PyData) : Bool := isSeqD d && ((itemsD d).all (isWholeD 0 (n - 1)) && risingD (itemsD d))
def areMovesD (n : Int) (d : PyData) : Bool := isSeqD d && (itemsD d).all (isMoveD n) && risingD ((itemsD d).map pairOf)
def isMachineD (d : PyData) : Bool := isTripleD d && match itemsD d with
  | [.int n, e, m] => isWholeD 1 8 (.int n) && (areEndsD n e && areMovesD n m)
  | _ => false
def sp_is_move (K : Frag) : Sp := spB2 isMoveD
def sp_are_ends (K : Frag) : Sp := spB2 areEndsD
def sp_are_moves (K : Frag) : Sp := spB2 areMovesD
def sp_is_machine (K : Frag) : Sp := spB1 isMachineD
theorem len_is_move {K : Frag} {vs : List V} {H : Hp} {Q : VK} {E : XK} (h : sp_is_move K vs H Q E) : vs.length = 2 := spB2_len h
theorem len_are_ends {K : Frag} {vs : List V} {H : Hp} {Q : VK} {E : XK} (h : sp_are_ends K vs H Q E) : vs.length = 2 := spB2_len h
theorem len_are_moves {K : Frag} {vs : List V} {H : Hp} {Q : VK} {E : XK} (h : sp_are_moves K vs H Q E) : vs.length = 2 := spB2_len h
theorem len_is_machine {K : Frag} {vs : List V} {H : Hp} {Q : VK} {E : XK} (h : sp_is_machine K vs H Q E) : vs.length = 1 := spB1_len h
theorem sm_items {d : PyData} (h : sm d = true) : (itemsD d).length ≤ 1000 ∧ smAll (itemsD d) = true := by
  cases d with
  | list ds => exact sm_seq (.inl h)
  | tuple ds => exact sm_seq (.inr h)
  | _ => exact ⟨Nat.zero_le _, rfl⟩
theorem whole_int {lo hi : Int} {d : PyData} (h : isWholeD lo hi d = true) : ∃ i, d = .int i ∧ lo ≤ i ∧ i ≤ hi := by
  cases d with
  | int i =>
    have h' : lo ≤ i ∧ i ≤ hi := by simpa [isWholeD] using h
    exact ⟨i, rfl, h'.1, h'.2⟩
  | _ => cases h
theorem let_str {d : PyData} (h : isLetD d = true) : ∃ c, d = .str ⟨#[c]⟩ ∧ c ∈ letters := by
  cases d with
  | str s =>
    have h' : isWordD (.str s) = true ∧ s.length = 1 := by simpa [isLetD] using h
    obtain ⟨⟨xs⟩⟩ := s
    match xs, h'.2 with
    | [c], _ =>
      have h2 : (decide (c ∈ letters) && true) = true := h'.1
      rw [Bool.and_true] at h2
      exact ⟨c, rfl, of_decide_eq_true h2⟩
  | _ => cases h
theorem move_parts {n : Int} {d : PyData} (h : isMoveD n d = true) : ∃ (s : Int) (c : Nat) (b : Int), itemsD d = [.int s, .str ⟨#[c]⟩, .int b] ∧ c ∈ letters ∧ 0 ≤ s ∧ s ≤ n - 1 ∧ 0 ≤ b ∧ b ≤ n - 1 ∧ isSeqD d = true := by
  have h' : isTripleD d = true ∧ (match itemsD d with
    | [s, l, b] => isLetD l && (isWholeD 0 (n - 1) s && isWholeD 0 (n - 1) b)
    | _ => false) = true := by simpa [isMoveD] using h
  have ht2 : isSeqD d = true ∧ (itemsD d).length = 3 := by simpa [isTripleD] using h'.1
  match hds : itemsD d, ht2.2, h'.2 with
  | [s, l, b], _, h2 =>
    have h3 : isLetD l = true ∧ isWholeD 0 (n - 1) s = true ∧ isWholeD 0 (n - 1) b = true := by simpa using h2
    obtain ⟨c, rfl, hc⟩ := let_str h3.1
    obtain ⟨i, rfl, i0, i1⟩ := whole_int h3.2.1
    obtain ⟨j, rfl, j0, j1⟩ := whole_int h3.2.2
    exact ⟨i, c, j, rfl, hc, i0, i1, j0, j1, ht2.1⟩
theorem ok_ints {ds : List PyData} (h : ∀ d ∈ ds, ∃ i, d = .int i) : okRow ds := by
  intro d hd e he
  obtain ⟨i, rfl⟩ := h d hd
  obtain ⟨j, rfl⟩ := h e he
  exact ⟨rfl, by simp, by show (0 : Nat) ≤ 64; decide⟩
theorem ok_moves {n : Int} {ds : List PyData} (h : ds.all (isMoveD n) = true) : okRow (ds.map pairOf) := by
  intro d hd e he
  obtain ⟨d', hd', rfl⟩ := List.mem_map.mp hd
  obtain ⟨e', he', rfl⟩ := List.mem_map.mp he
  obtain ⟨s, c, b, h1, _⟩ := move_parts (List.all_eq_true.mp h d' hd')
  obtain ⟨s2, c2, b2, h2, _⟩ := move_parts (List.all_eq_true.mp h e' he')
  unfold pairOf
  rw [h1, h2]
  exact ⟨rfl, by simp, by show (1 : Nat) ≤ 64; decide⟩
def t_is_move (K : Frag) : TS := (tSeq (tIfS (tNot (tB (tCall (sp_is_triple K) [] E0 (tCons (tVar 0) tNil)))) (tRet (tC (.bl false))) tNext) (tSeq (tAsg (tVar 0) (gSeq K 3 (gCons (gName 2) (gCons (gName 3) (gCons (gName 4) gNil))))) (tSeq (tIfS (tOr (tNot (tB (tCall (sp_is_word K) [] E0 (tCons (tVar 3) tNil)))) (tTest (tOp (rNeU K) (tCB (rLenU K) (tCons (tVar 3) tNil)) (tC (.int 1))))) (tRet (tC (.bl false))) tNext) (tRet (tAndV (tCall (sp_is_whole K) [] E0 (tCons (tVar 2) (tCons (tC (.int 0)) (tCons (tOp rSubI (tVar 1) (tC (.int 1))) tNil)))) (tCall (sp_is_whole K) [] E0 (tCons (tVar 4) (tCons (tC (.int 0)) (tCons (tOp rSubI (tVar 1) (tC (.int 1))) tNil)))))))))
def t_are_ends (K : Frag) : TS := (tSeq (tIfS (tNot (tB (tCall (sp_is_sequence K) [] E0 (tCons (tVar 0) tNil)))) (tRet (tC (.bl false))) tNext) (tRet (tAndV (tCB (rAll K) (tCons (tLc (iSeq K (tVar 0)) (gName 2) tYes (tCall (sp_is_whole K) [] E0 (tCons (tVar 2) (tCons (tC (.int 0)) (tCons (tOp rSubI (tVar 1) (tC (.int 1))) tNil)))) [2]) tNil)) (tCall (sp_is_rising K) [] E0 (tCons (tVar 0) tNil)))))
def t_are_moves (K : Frag) : TS := (tSeq (tIfS (tOr (tNot (tB (tCall (sp_is_sequence K) [] E0 (tCons (tVar 0) tNil)))) (tNot (tB (tCB (rAll K) (tCons (tLc (iSeq K (tVar 0)) (gName 2) tYes (tCall (sp_is_move K) [] E0 (tCons (tVar 2) (tCons (tVar 1) tNil))) [2]) tNil))))) (tRet (tC (.bl false))) tNext) (tRet (tCall (sp_is_rising K) [] E0 (tCons (tLc (iSeq K (tVar 0)) (gName 2) tYes (tTup (tCons (tIxU K (tVar 2) (tC (.int 0))) (tCons (tIxU K (tVar 2) (tC (.int 1))) tNil))) [2]) tNil))))
def t_is_machine (K : Frag) : TS := (tSeq (tIfS (tNot (tB (tCall (sp_is_triple K) [] E0 (tCons (tVar 0) tNil)))) (tRet (tC (.bl false))) tNext) (tSeq (tAsg (tVar 0) (gSeq K 3 (gCons (gName 1) (gCons (gName 2) (gCons (gName 3) gNil))))) (tRet (tAndV (tCall (sp_is_whole K) [] E0 (tCons (tVar 1) (tCons (tC (.int 1)) (tCons (tC (.int 8)) tNil)))) (tAndV (tCall (sp_are_ends K) [] E0 (tCons (tVar 2) (tCons (tVar 1) tNil))) (tCall (sp_are_moves K) [] E0 (tCons (tVar 3) (tCons (tVar 1) tNil))))))))
theorem pure_is_move {K : Frag} (vs : List V) (H : Hp) (Q : VK) (E : XK) (h : sp_is_move K vs H Q E) : t_is_move K { nx := fun _ H' => Q .non H', rt := Q } (start ["value", "count", "state", "letter", "behind"] vs) H := by
  obtain ⟨v, n, d, rfl, hd, hs, k⟩ := h
  refine q_when (ρ := exR) (et_not (et_B (ev_B1 (F := isTripleD) (ev_var rfl) hd hs))) (fun hb H1 e => s_retV (ρ := exR) ev_c fun H2 e2 => ?_) (fun hb H1 e => ?_)
  · have e0 : isMoveD n d = false := by
      unfold isMoveD
      rw [notb hb, Bool.false_and]
    rw [e0] at k
    exact k H2 (e.trans e2).ext
  have ht : isTripleD d = true := notb' hb
  have ht2 : isSeqD d = true ∧ (itemsD d).length = 3 := by simpa [isTripleD] using ht
  obtain ⟨a, xs, rfl, ha, hsq, _⟩ := hd.seqd ht2.1
  have hsm := (sm_items hs).2
  obtain ⟨m, w, c, hds⟩ := three ht2.2
  rw [hds] at ha hsm
  obtain ⟨x, y, z, rfl, hm, hw, hc⟩ := ha.three
  have sm3 : sm m = true ∧ sm w = true ∧ sm c = true := by simpa [smAll] using hsm
  have ef : isMoveD n d = (isLetD w && (isWholeD 0 (n - 1) m && isWholeD 0 (n - 1) c)) := by
    unfold isMoveD
    rw [ht, hds, Bool.true_and]
  rw [ef] at k
  refine ⟨_, rfl, g_seq3 (hsq K H1 e) ?_⟩
  have gm : DS exR H1 x m := e.ds hm
  have gw : DS exR H1 y w := e.ds hw
  have gc : DS exR H1 z c := e.ds hc
  refine q_when (ρ := exR) (H := H1) (b := !isLetD w) ((et_or (b := !isLetD w) (et_not (et_B (ev_B1 (F := isWordD) (ev_var rfl) gw sm3.2.1))) fun h1 => ?_).to ?_) (fun hb H2 e2 => s_retV (ρ := exR) ev_c fun H3 e3 => ?_) (fun hb H2 e2 => ?_)
  · have h1' := notb' h1
    cases w with
    | str s =>
      cases gw
      have hl := sm_str sm3.2.1
      refine (et_test (ev_neI (ev_lenS (ev_var rfl) (by omega)) ev_c)).to ?_
      show (!decide ((s.length : Int) = 1)) = !(isWordD (.str s) && decide (s.length = 1))
      rw [h1', Bool.true_and]
      by_cases z1 : s.length = 1
      · rw [decide_eq_true z1, decide_eq_true (by omega)]
      · rw [decide_eq_false z1, decide_eq_false (by omega)]
    | _ => cases h1'
  · cases q : isWordD w with
    | true => rfl
    | false =>
      have : isLetD w = false := by
        cases w with
        | str s => show (isWordD (.str s) && _) = false; rw [q, Bool.false_and]
        | _ => rfl
      rw [this]
      rfl
  · rw [notb hb, Bool.false_and] at k
    exact k H3 (e.trans (e2.trans e3)).ext
  · rw [notb' hb, Bool.true_and] at k
    exact s_retV (ρ := exR) (ev_andV (ev_is_whole (ev_var rfl) ev_c (ev_sub (ev_var rfl) ev_c) (e2.ds gm)) fun _ => ev_is_whole (ev_var rfl) ev_c (ev_sub (ev_var rfl) ev_c) (e2.ds gc)) fun H3 e3 => k H3 (e.trans (e2.trans e3)).ext
/-- all([F(x, n) for x in xs]) -/
theorem all_places {ds : List PyData} {F : PyData → Bool} : (List.range ds.length).all (fun i => F ((ds[i]?).getD .none)) = ds.all F := range_all _ _ _ fun i x hx => by rw [hx]; rfl
theorem pure_are_ends {K : Frag} (vs : List V) (H : Hp) (Q : VK) (E : XK) (h : sp_are_ends K vs H Q E) : t_are_ends K { nx := fun _ H' => Q .non H', rt := Q } (start ["value", "count", "state"] vs) H := by
  obtain ⟨v, n, d, rfl, hd, hs, k⟩ := h
  refine q_when (ρ := exR) (et_not (et_B (ev_B1 (F := isSeqD) (ev_var rfl) hd hs))) (fun hb H1 e => s_retV (ρ := exR) ev_c fun H2 e2 => ?_) (fun hb H1 e => ?_)
  · have e0 : areEndsD n d = false := by
      unfold areEndsD
      rw [notb hb, Bool.false_and]
    rw [e0] at k
    exact k H2 (e.trans e2).ext
  have hq := notb' hb
  obtain ⟨a, xs, rfl, ha, hsq, hsq2⟩ := hd.seqd hq
  have hlen := ha.length
  have hl := (sm_items hs).1
  have ef : areEndsD n d = ((itemsD d).all (isWholeD 0 (n - 1)) && risingD (itemsD d)) := by
    unfold areEndsD
    rw [hq, Bool.true_and]
  rw [ef] at k
  have sqs : (∀ H2, exR.r H1 H2 → SqL K H2 a xs) ∨ ∀ H2, exR.r H1 H2 → SqT K H2 a xs := hsq2.imp (fun f H2 e2 => f K H2 (e.trans e2)) fun f H2 e2 => f K H2 (e.trans e2)
  have hx1 : DSs exR H1 xs (itemsD d) := e.dss ha
  refine s_retV (ρ := exR) (ev_andV ((ev_all (n := xs.length) (f := fun i => isWholeD 0 (n - 1) ((itemsD d)[i]?.getD .none)) (ev_lcV own_ex (by omega) (ei_seq (ev_var rfl) (fun H2 e2 => hsq K H2 (e.trans e2)) sqs) (fun x => rfl) (fun i H2 x H3 y => y.1) ?_)).val (x := .bl ((itemsD d).all (isWholeD 0 (n - 1)))) ?_) fun hall => ?_) fun H2 e2 => k H2 (e.trans e2).ext
  · rintro i x H2 H3 hi r ⟨e3, hx⟩
    obtain ⟨d1, g1, g2⟩ := hx1.get hx
    refine (ev_is_whole (ev_var rfl) ev_c (ev_sub (ev_var rfl) ev_c) (r.ds g2)).val ?_
    rw [g1]
    rfl
  · rw [hlen, all_places]
  · have ok : okRow (itemsD d) := ok_ints fun d1 hm => (whole_int (List.all_eq_true.mp hall d1 hm)).elim fun i z => ⟨i, z.1⟩
    exact ev_call (ea_cons (ev_var rfl) ea_nil) fun H2 e2 Q' q' E' => ⟨.ref a, d, rfl, ((e.trans e2).ds hd).ex, hq, hl, ok, fun H' e => q' _ H' (Ext.r e) rfl⟩
theorem pure_are_moves {K : Frag} (vs : List V) (H : Hp) (Q : VK) (E : XK) (h : sp_are_moves K vs H Q E) : t_are_moves K { nx := fun _ H' => Q .non H', rt := Q } (start ["value", "count", "move"] vs) H := by
  obtain ⟨v, n, d, rfl, hd, hs, k⟩ := h
  cases hq : isSeqD d with
  | false =>
    have e0 : areMovesD n d = false := by unfold areMovesD; rw [hq]; rfl
    rw [e0] at k
    refine q_when (ρ := exR) (b := true) ((et_or (b := true) (et_not (et_B (ev_B1 (F := isSeqD) (ev_var rfl) hd hs))) fun h1 => ?_).to (by rw [Bool.or_true])) (fun hb H1 e => s_retV (ρ := exR) ev_c fun H2 e2 => k H2 (e.trans e2).ext) (fun hb H1 e => by cases hb)
    rw [hq] at h1
    cases h1
  | true =>
  obtain ⟨a, xs, rfl, ha, hsq, hsq2⟩ := hd.seqd hq
  have hlen := ha.length
  have hl := sm_items hs
  have ef : areMovesD n d = ((itemsD d).all (isMoveD n) && risingD ((itemsD d).map pairOf)) := by
    unfold areMovesD
    rw [hq, Bool.true_and]
  rw [ef] at k
  have sqs : (∀ H2, exR.r H H2 → SqL K H2 a xs) ∨ ∀ H2, exR.r H H2 → SqT K H2 a xs := hsq2.imp (fun f H2 e2 => f K H2 e2) fun f H2 e2 => f K H2 e2
  refine q_when (ρ := exR) (b := !(itemsD d).all (isMoveD n)) ((et_or (et_not (et_B (ev_B1 (F := isSeqD) (ev_var rfl) hd hs))) fun _ => et_not (et_B ((ev_all (n := xs.length) (f := fun i => isMoveD n ((itemsD d)[i]?.getD .none)) (ev_lcV own_ex (by omega) (ei_seq (ev_var rfl) (fun H2 e2 => hsq K H2 e2) sqs) (fun x => rfl) (fun i H2 x H3 y => y.1) ?_)).val (x := .bl ((itemsD d).all (isMoveD n))) ?_))).to ?_) (fun hb H2 e2 => s_retV (ρ := exR) ev_c fun H3 e3 => ?_) (fun hb H2 e2 => ?_)
  · rintro i x H2 H3 hi r ⟨e3, hx⟩
    obtain ⟨d1, g1, g2⟩ := ha.get hx
    refine (ev_B2 (F := isMoveD) (ev_var rfl) (ev_var rfl) (r.ds g2) (smAll_mem hl.2 (List.mem_of_getElem? g1))).val ?_
    rw [g1]
    rfl
  · rw [hlen, all_places]
  · rw [hq]
    rfl
  · rw [notb hb, Bool.false_and] at k
    exact k H3 (e2.trans e3).ext
  have hall := notb' hb
  rw [hall, Bool.true_and] at k
  have hmap : (List.range xs.length).map (fun i => pairOf ((itemsD d)[i]?.getD .none)) = (itemsD d).map pairOf := by
    refine List.ext_getElem? fun i => ?_
    rw [List.getElem?_map, List.getElem?_map]
    by_cases hi : i < xs.length
    · have hi' : i < (itemsD d).length := by omega
      rw [List.getElem?_range hi, List.getElem?_eq_getElem hi']
      show some (pairOf ((itemsD d)[i]?.getD .none)) = some (pairOf (itemsD d)[i])
      rw [List.getElem?_eq_getElem hi']
      rfl
    · rw [List.getElem?_eq_none_iff.mpr (by rw [List.length_range]; omega), List.getElem?_eq_none_iff.mpr (by omega)] <;> rfl
  have sqs2 : (∀ H3, exR.r H2 H3 → SqL K H3 a xs) ∨ ∀ H3, exR.r H2 H3 → SqT K H3 a xs := hsq2.imp (fun f H3 e3 => f K H3 (e2.trans e3)) fun f H3 e3 => f K H3 (e2.trans e3)
  have hx2 : DSs exR H2 xs (itemsD d) := e2.dss ha
  refine s_retV (ρ := exR) (ev_rising (ds := (itemsD d).map pairOf) ?_ (by rw [List.length_map]; omega) (ok_moves hall)) fun H3 e3 => k H3 (e2.trans e3).ext
  rw [← hmap]
  refine ev_lcD own_ex (by omega) (ei_seq (ev_var rfl) (fun H3 e3 => hsq K H3 (e2.trans e3)) sqs2) (fun x => rfl) (fun i H2 x H3 y => y.1) ?_
  rintro D H3 r3 hD i x H4 H5 hi r4 oD ⟨e5, hx⟩
  obtain ⟨d1, g1, g2⟩ := hx2.get hx
  obtain ⟨s, c, b, p1, _, _, _, _, _, p2⟩ := move_parts (List.all_eq_true.mp hall d1 (List.mem_of_getElem? g1))
  have g3 : DS exR H4 x d1 := r4.ds (r3.ds g2)
  obtain ⟨b', ys, rfl, hb3, hb4, _⟩ := g3.seqd p2
  rw [p1] at hb3
  obtain ⟨y1, y2, y3, rfl, c1, c2, c3⟩ := hb3.three
  rw [g1]
  show Ev exR _ _ H4 (fun y H6 => DS (exR.and D) H6 y (pairOf d1))
  have : pairOf d1 = .tuple [.int s, .str ⟨#[c]⟩] := by
    unfold pairOf
    rw [p1]
  rw [this]
  cases c1
  cases c2
  exact ev_pairD .and (ev_ix (n := 0) (ev_var rfl) ev_c (hb4 K) rfl rfl) (ev_ix (n := 1) (ev_var rfl) ev_c (hb4 K) rfl rfl) (.int s) (.str _)
theorem pure_is_machine {K : Frag} (vs : List V) (H : Hp) (Q : VK) (E : XK) (h : sp_is_machine K vs H Q E) : t_is_machine K { nx := fun _ H' => Q .non H', rt := Q } (start ["value", "count", "ends", "moves"] vs) H := by
  obtain ⟨v, d, rfl, hd, hs, k⟩ := h
  refine q_when (ρ := exR) (et_not (et_B (ev_B1 (F := isTripleD) (ev_var rfl) hd hs))) (fun hb H1 e => s_retV (ρ := exR) ev_c fun H2 e2 => ?_) (fun hb H1 e => ?_)
  · have e0 : isMachineD d = false := by
      unfold isMachineD
      rw [notb hb, Bool.false_and]
    rw [e0] at k
    exact k H2 (e.trans e2).ext
  have ht : isTripleD d = true := notb' hb
  have ht2 : isSeqD d = true ∧ (itemsD d).length = 3 := by simpa [isTripleD] using ht
  obtain ⟨a, xs, rfl, ha, hsq, _⟩ := hd.seqd ht2.1
  have hsm := (sm_items hs).2
  obtain ⟨c, en, m, hds⟩ := three ht2.2
  rw [hds] at ha hsm
  obtain ⟨x, y, z, rfl, hc, he, hm⟩ := ha.three
  have sm3 : sm c = true ∧ sm en = true ∧ sm m = true := by simpa [smAll] using hsm
  refine ⟨_, rfl, g_seq3 (hsq K H1 e) ?_⟩
  have gc : DS exR H1 x c := e.ds hc
  have ge : DS exR H1 y en := e.ds he
  have gm : DS exR H1 z m := e.ds hm
  cases hw : isWholeD 1 8 c with
  | false =>
    have ef : isMachineD d = false := by
      unfold isMachineD
      rw [ht, hds]
      cases c with
      | int n => show (true && (isWholeD 1 8 (.int n) && _)) = false; rw [hw]; rfl
      | _ => rfl
    rw [ef] at k
    refine s_retV (ρ := exR) ((ev_andV (b := false) (ev_is_whole (ev_var rfl) ev_c ev_c gc) fun h => ?_).val (x := .bl false) (by rw [Bool.and_false])) fun H2 e2 => k H2 (e.trans e2).ext
    rw [hw] at h
    cases h
  | true =>
    obtain ⟨n, rfl, n1, n8⟩ := whole_int hw
    cases gc
    have ef : isMachineD d = (isWholeD 1 8 (.int n) && (areEndsD n en && areMovesD n m)) := by
      unfold isMachineD
      rw [ht, hds, Bool.true_and]
    rw [ef] at k
    exact s_retV (ρ := exR) (ev_andV (ev_is_whole (ev_var rfl) ev_c ev_c (.int n)) fun _ => ev_andV (ev_B2 (F := areEndsD) (ev_var rfl) (ev_var rfl) ge sm3.2.1) fun _ => ev_B2 (F := areMovesD) (ev_var rfl) (ev_var rfl) gm sm3.2.2) fun H2 e2 => k H2 (e.trans e2).ext
end Slip
/-! the law's own look at a machine -/
namespace Slip
open PySem PySem.Spec PyProof.Rows L2
section
variable {ρ : Rl} {K : Frag} {σ : L2.St} {H : Hp} {ta tb tc : TE} {i j k : Int}
/-- i < j < k and its like, numbers -/
theorem ev_chainI {g1 g2 : PyData → PyData → Bool} (h1 : EvV ρ ta σ H (.int i)) (h2 : EvV ρ tb σ H (.int j)) (h3 : EvV ρ tc σ H (.int k)) : EvV ρ (tChain (rCmp K g1) (rCmp K g2) ta tb tc) σ H (.bl (g1 (.int i) (.int j) && g2 (.int j) (.int k))) := fun H1 e1 Q q =>
  h1 H1 e1 _ fun _ H2 e2 hx => by
    subst hx
    exact h2 H2 (e1.trans e2) _ fun _ H3 e3 hy => by
      subst hy
      refine rv_cmpI H3 _ ⟨_, rfl, ?_⟩
      cases hc : g1 (.int i) (.int j) with
      | true =>
        rw [if_pos rfl]
        refine h3 H3 ((e1.trans e2).trans e3) _ fun _ H4 e4 hz => ?_
        subst hz
        exact rv_cmpI H4 _ (q _ H4 ((e2.trans e3).trans e4) (by rw [hc, Bool.true_and]))
      | false =>
        rw [if_neg Bool.false_ne_true]
        exact q _ H3 (e2.trans e3) (by rw [hc, Bool.false_and])
end
abbrev wholeB (d : PyData) : Bool := isiB d "int" && !isiB d "bool"
theorem whole_no {lo hi : Int} {d : PyData} (h : wholeB d = false) : isWholeD lo hi d = false := by
  cases d with
  | int i => exact absurd h (by show ¬ (true && !false) = false; decide)
  | _ => rfl
theorem glt_int (i j : Int) : gLt (.int i) (.int j) = decide (i < j) := lt_int i j
theorem gle_int (i j : Int) : gLe (.int i) (.int j) = decide (i ≤ j) := rle_val i j
theorem machine_tup {n : Int} {e m : PyData} (h1 : 1 ≤ n) (h8 : n ≤ 8) : isMachineD (.tuple [.int n, e, m]) = (areEndsD n e && areMovesD n m) := by
  show (isWholeD 1 8 (.int n) && (areEndsD n e && areMovesD n m)) = _
  have : isWholeD 1 8 (.int n) = true := by
    show (decide (1 ≤ n) && decide (n ≤ 8)) = true
    rw [decide_eq_true h1, decide_eq_true h8]
    rfl
  rw [this, Bool.true_and]
theorem ends_bad {n : Int} {d x : PyData} {i : Nat} (h : (itemsD d)[i]? = some x) (hf : isWholeD 0 (n - 1) x = false) : areEndsD n d = false := by
  have : (itemsD d).all (isWholeD 0 (n - 1)) = false := by
    cases q : (itemsD d).all (isWholeD 0 (n - 1)) with
    | false => rfl
    | true =>
      have := List.all_eq_true.mp q x (List.mem_of_getElem? h)
      rw [hf] at this
      cases this
  unfold areEndsD
  rw [this, Bool.false_and, Bool.and_false]
theorem ends_norise {n : Int} {d x y : PyData} {j : Nat} (h : (itemsD d)[j]? = some x) (h2 : (itemsD d)[j + 1]? = some y) (hf : PySem.W.dataLt x y = false) : areEndsD n d = false := by
  unfold areEndsD
  rw [rising_no _ j x y h h2 hf, Bool.and_false, Bool.and_false]
theorem ends_yes {n : Int} {d : PyData} (hq : isSeqD d = true) (hf : ∀ x ∈ itemsD d, isWholeD 0 (n - 1) x = true) (hr : ∀ (j : Nat) (x y : PyData), (itemsD d)[j]? = some x → (itemsD d)[j + 1]? = some y → PySem.W.dataLt x y = true) : areEndsD n d = true := by
  unfold areEndsD
  rw [hq, List.all_eq_true.mpr hf, rising_of _ hr]
  rfl
theorem moves_bad {n : Int} {d x : PyData} {i : Nat} (h : (itemsD d)[i]? = some x) (hf : isMoveD n x = false) : areMovesD n d = false := by
  have : (itemsD d).all (isMoveD n) = false := by
    cases q : (itemsD d).all (isMoveD n) with
    | false => rfl
    | true =>
      have := List.all_eq_true.mp q x (List.mem_of_getElem? h)
      rw [hf] at this
      cases this
  unfold areMovesD
  rw [this, Bool.and_false, Bool.false_and]
theorem moves_norise {n : Int} {d x y : PyData} {j : Nat} (h : (itemsD d)[j]? = some x) (h2 : (itemsD d)[j + 1]? = some y) (hf : PySem.W.dataLt (pairOf x) (pairOf y) = false) : areMovesD n d = false := by
  unfold areMovesD
  rw [rising_no _ j (pairOf x) (pairOf y) (by rw [List.getElem?_map, h]; rfl) (by rw [List.getElem?_map, h2]; rfl) hf, Bool.and_false]
theorem moves_yes {n : Int} {d : PyData} (hq : isSeqD d = true) (hf : ∀ x ∈ itemsD d, isMoveD n x = true) (hr : ∀ (j : Nat) (x y : PyData), (itemsD d)[j]? = some x → (itemsD d)[j + 1]? = some y → PySem.W.dataLt (pairOf x) (pairOf y) = true) : areMovesD n d = true := by
  unfold areMovesD
  rw [hq, List.all_eq_true.mpr hf, rising_of]
  · rfl
  · intro j x y a b
    rw [List.getElem?_map] at a b
    cases qa : (itemsD d)[j]? with
    | none => rw [qa] at a; cases a
    | some x' =>
      cases qb : (itemsD d)[j + 1]? with
      | none => rw [qb] at b; cases b
      | some y' =>
        rw [qa] at a
        rw [qb] at b
        cases a
        cases b
        exact hr j x' y' qa qb
theorem move_tup {n : Int} {s l b : PyData} : isMoveD n (.tuple [s, l, b]) = (isLetD l && (isWholeD 0 (n - 1) s && isWholeD 0 (n - 1) b)) := rfl
theorem move_seq {n : Int} {d : PyData} (h : isSeqD d = false) : isMoveD n d = false := by
  unfold isMoveD isTripleD
  rw [h]
  rfl
theorem move_three {n : Int} {d : PyData} (hq : isSeqD d = true) (h : (itemsD d).length ≠ 3) : isMoveD n d = false := by
  unfold isMoveD isTripleD
  rw [hq, decide_eq_false h]
  rfl
theorem machine_seq {d : PyData} (h : isTripleD d = false) : isMachineD d = false := by
  unfold isMachineD
  rw [h]
  rfl
theorem first_lt {s : Int} {l : Str} (h : 0 ≤ s) : PySem.W.dataLt (.tuple [.int (-1), .str ""]) (.tuple [.int s, .str l]) = true := by
  have h1 : PyData.eqv (.int (-1)) (.int s) = false := by
    show ((-1 : Int) == s) = false
    rw [beq_eq_false_iff_ne]
    omega
  rw [PySem.W.dataLt_pair rfl rfl, h1]
  show PySem.W.dataLt (.int (-1)) (.int s) = true
  rw [lt_int]
  exact decide_eq_true (by omega)
theorem str1_let {d : PyData} : isLetD d = (isStrD 1 d && match d with | .str s => decide (s.length = 1) | _ => false) := by
  cases d with
  | str s =>
    show (isWordD (.str s) && decide (s.length = 1)) = ((decide ((s.length : Int) ≤ 1) && isWordD (.str s)) && decide (s.length = 1))
    by_cases h : s.length = 1
    · rw [decide_eq_true h, decide_eq_true (show (s.length : Int) ≤ 1 by omega)]
      rfl
    · rw [decide_eq_false h, Bool.and_false, Bool.and_false]
  | _ => rfl
theorem let_s (s : Str) : isLetD (.str s) = (isStrD 1 (.str s) && decide (s.length = 1)) := str1_let
theorem whole_dec (n i : Int) : isWholeD 0 (n - 1) (.int i) = (decide (0 ≤ i) && decide (i < n)) := by
  show (decide (0 ≤ i) && decide (i ≤ n - 1)) = _
  by_cases h : i < n
  · rw [decide_eq_true h, decide_eq_true (show i ≤ n - 1 by omega)]
  · rw [decide_eq_false h, decide_eq_false (show ¬ i ≤ n - 1 by omega)]
def sp__law_is_machine (K : Frag) : Sp := fun vs H Q _ => ∃ v d, vs = [v] ∧ DS exR H v d ∧ sm d = true ∧ noList d = true ∧ ∀ H', Ext H H' → Q (.bl (isMachineD d)) H'
theorem len__law_is_machine {K : Frag} {vs : List V} {H : Hp} {Q : VK} {E : XK} (h : sp__law_is_machine K vs H Q E) : vs.length = 1 := by
  obtain ⟨v, d, rfl, _⟩ := h
  rfl
def t__law_is_machine (K : Frag) : TS := (tSeq (tIfS (tOr (tNot (tB (tCB (rIsiU K) (tCons (tVar 0) (tCons (tC (.ty "tuple")) tNil))))) (tOr (tTest (tOp (rNeU K) (tCB (rLenU K) (tCons (tVar 0) tNil)) (tC (.int 3)))) (tOr (tNot (tB (tCall (sp__law_whole K) [] E0 (tCons (tIxU K (tVar 0) (tC (.int 0))) tNil)))) (tNot (tTest (tChain (rCmp K gLe) (rCmp K gLe) (tC (.int 1)) (tIxU K (tVar 0) (tC (.int 0))) (tC (.int 8)))))))) (tRet (tC (.bl false))) tNext) (tSeq (tIfS (tOr (tNot (tB (tCB (rIsiU K) (tCons (tIxU K (tVar 0) (tC (.int 1))) (tCons (tC (.ty "tuple")) tNil))))) (tNot (tB (tCB (rIsiU K) (tCons (tIxU K (tVar 0) (tC (.int 2))) (tCons (tC (.ty "tuple")) tNil)))))) (tRet (tC (.bl false))) tNext) (tSeq (tAsg (tUn rNegI (tC (.int 1))) (gName 1)) (tSeq (tFor (iSeq K (tIxU K (tVar 0) (tC (.int 1)))) (gName 2) (tSeq (tIfS (tOr (tNot (tB (tCall (sp__law_whole K) [] E0 (tCons (tVar 2) tNil)))) (tNot (tTest (tChain (rCmp K gLt) (rCmp K gLt) (tVar 1) (tVar 2) (tIxU K (tVar 0) (tC (.int 0))))))) (tRet (tC (.bl false))) tNext) (tAsg (tVar 2) (gName 1)))) (tSeq (tAsg (tTup (tCons (tUn rNegI (tC (.int 1))) (tCons (tC (.str "")) tNil))) (gName 3)) (tSeq (tFor (iSeq K (tIxU K (tVar 0) (tC (.int 2)))) (gName 2) (tSeq (tIfS (tOr (tNot (tB (tCB (rIsiU K) (tCons (tVar 2) (tCons (tC (.ty "tuple")) tNil))))) (tOr (tTest (tOp (rNeU K) (tCB (rLenU K) (tCons (tVar 2) tNil)) (tC (.int 3)))) (tOr (tNot (tB (tCall (sp__law_whole K) [] E0 (tCons (tIxU K (tVar 2) (tC (.int 0))) tNil)))) (tNot (tB (tCall (sp__law_whole K) [] E0 (tCons (tIxU K (tVar 2) (tC (.int 2))) tNil))))))) (tRet (tC (.bl false))) tNext) (tSeq (tIfS (tOr (tNot (tB (tCall (sp__law_is_string K) [] E0 (tCons (tIxU K (tVar 2) (tC (.int 1))) (tCons (tC (.int 1)) tNil))))) (tOr (tTest (tOp (rNeU K) (tCB (rLenU K) (tCons (tIxU K (tVar 2) (tC (.int 1))) tNil)) (tC (.int 1)))) (tOr (tNot (tTest (tChain (rCmp K gLe) (rCmp K gLt) (tC (.int 0)) (tIxU K (tVar 2) (tC (.int 0))) (tIxU K (tVar 0) (tC (.int 0)))))) (tNot (tTest (tChain (rCmp K gLe) (rCmp K gLt) (tC (.int 0)) (tIxU K (tVar 2) (tC (.int 2))) (tIxU K (tVar 0) (tC (.int 0))))))))) (tRet (tC (.bl false))) tNext) (tSeq (tIfS (tNot (tTest (tOp (rCmp K gLt) (tVar 3) (tTup (tCons (tIxU K (tVar 2) (tC (.int 0))) (tCons (tIxU K (tVar 2) (tC (.int 1))) tNil)))))) (tRet (tC (.bl false))) tNext) (tAsg (tTup (tCons (tIxU K (tVar 2) (tC (.int 0))) (tCons (tIxU K (tVar 2) (tC (.int 1))) tNil))) (gName 3)))))) (tRet (tC (.bl true)))))))))
theorem nolist_tuple {d : PyData} (h : noList d = true) (hq : isSeqD d = true) : ∃ ds, d = .tuple ds := by
  cases d with
  | tuple ds => exact ⟨ds, rfl⟩
  | list ds => cases h
  | _ => cases hq
theorem pure__law_is_machine {K : Frag} (vs : List V) (H : Hp) (Q : VK) (E : XK) (h : sp__law_is_machine K vs H Q E) : t__law_is_machine K { nx := fun _ H' => Q .non H', rt := Q } (start ["value", "last", "one", "before"] vs) H := by
  obtain ⟨v, d, rfl, hd, hs, hn, k⟩ := h
  have tup := tup_nl hn
  cases hT : isTripleD d with
  | false =>
    rw [machine_seq hT] at k
    refine q_when (ρ := exR) (b := true) ?_ (fun hb H1 e => s_retV (ρ := exR) ev_c fun H2 e2 => k H2 (e.trans e2).ext) (fun hb H1 e => by cases hb)
    cases hq : isSeqD d with
    | false =>
      refine (et_or (b := true) (et_not (et_B (ev_isi (ev_var rfl) hd rfl))) fun h1 => ?_).to (by rw [Bool.or_true])
      rw [tup, hq] at h1
      cases h1
    | true =>
      obtain ⟨ds, rfl⟩ := nolist_tuple hn hq
      obtain ⟨a, xs, rfl, ha, hA, hsq⟩ := hd.tupl
      have hl := ha.length
      have h3 : ¬ ds.length = 3 := by
        intro z
        have : isTripleD (.tuple ds) = true := by
          show (true && decide (ds.length = 3)) = true
          rw [decide_eq_true z]
          rfl
        rw [this] at hT
        cases hT
      refine (et_or (b := true) (et_not (et_B (ev_isi (ev_var rfl) hd rfl))) fun _ => (et_or (b := true) (et_test (ev_neI (ev_len (ev_var rfl) fun H1 e => .inr (hsq K exR H1 e)) ev_c)) fun h => ?_).to (by rw [Bool.or_true])).to (by rw [Bool.or_true])
      exact absurd (of_decide_eq_true (notb' h)) (by omega)
  | true =>
  have ht2 : isSeqD d = true ∧ (itemsD d).length = 3 := by simpa [isTripleD] using hT
  obtain ⟨ds, rfl⟩ := nolist_tuple hn ht2.1
  obtain ⟨c, en, mo, rfl⟩ := three ht2.2
  obtain ⟨a, xs, rfl, ha, hA, hsq⟩ := hd.tupl
  obtain ⟨x, y, z, rfl, hc', he', hm'⟩ := ha.three
  have hc : DS exR H x c := hc'
  have he : DS exR H y en := he'
  have hm : DS exR H z mo := hm'
  have sA : ∀ H1, exR.r H H1 → SqA K H1 a [x, y, z] := fun H1 e => .inr (hsq K exR H1 e)
  have sm3 : sm c = true ∧ sm en = true ∧ sm mo = true := by simpa [smAll] using (sm_seq (.inr hs)).2
  have nl3 : noList c = true ∧ noList en = true ∧ noList mo = true := by simpa [noList, noLists] using hn
  -- the first question
  cases hw : isWholeD 1 8 c with
  | false =>
    have e0 : isMachineD (.tuple [c, en, mo]) = false := by
      cases c with
      | int n => show (true && (isWholeD 1 8 (.int n) && _)) = false; rw [hw]; rfl
      | _ => rfl
    rw [e0] at k
    refine q_when (ρ := exR) (b := true) ((et_or (b := true) (et_not (et_B (ev_isi (ev_var rfl) hd rfl))) fun _ => (et_or (b := true) (et_test (ev_neI (ev_len (ev_var rfl) sA) ev_c)) fun _ => ?_).to (by rw [Bool.or_true])).to (by rw [Bool.or_true])) (fun hb H1 e => s_retV (ρ := exR) ev_c fun H2 e2 => k H2 (e.trans e2).ext) (fun hb H1 e => by cases hb)
    cases hb : wholeB c with
    | false => exact (et_or (b := true) (et_not (et_B (ev_B1 (F := wholeB) (ev_ix (n := 0) (ev_var rfl) ev_c sA rfl rfl) hc sm3.1))) fun h => by rw [hb] at h; cases h).to (by rw [Bool.or_true])
    | true =>
      obtain ⟨n, rfl, rfl⟩ := hc.inv_int hb
      refine (et_or (b := true) (et_not (et_B (ev_B1 (F := wholeB) (ev_ix (n := 0) (ev_var rfl) ev_c sA rfl rfl) (.int n) sm3.1))) fun _ => (et_not (et_test (ev_chainLe ev_c (ev_ix (n := 0) (ev_var rfl) ev_c sA rfl rfl) ev_c))).to ?_).to (by rw [Bool.or_true])
      have : (decide (1 ≤ n) && decide (n ≤ 8)) = false := hw
      rw [this]
      rfl
  | true =>
  obtain ⟨n, rfl, n1, n8⟩ := whole_int hw
  cases hc
  rw [machine_tup n1 n8] at k
  refine q_when (ρ := exR) (b := false) ((et_or (b := false) (et_not (et_B (ev_isi (ev_var rfl) hd rfl))) fun _ => (et_or (b := false) (et_test (ev_neI (ev_len (ev_var rfl) sA) ev_c)) fun _ => (et_or (b := false) (et_not (et_B (ev_B1 (F := wholeB) (ev_ix (n := 0) (ev_var rfl) ev_c sA rfl rfl) (.int n) sm3.1))) fun _ => (et_not (et_test (ev_chainLe ev_c (ev_ix (n := 0) (ev_var rfl) ev_c sA rfl rfl) ev_c))).to ?_).to rfl).to rfl).to rfl) (fun hb => by cases hb) fun _ H1 e1 => ?_
  · have : (decide (1 ≤ n) && decide (n ≤ 8)) = true := hw
    rw [this]
    rfl
  have sA1 : ∀ H2, exR.r H1 H2 → SqA K H2 a [.int n, y, z] := fun H2 e => sA H2 (e1.trans e)
  -- the second question
  have te := tup_nl nl3.2.1
  have tm := tup_nl nl3.2.2
  cases hqe : isSeqD en with
  | false =>
    have e0 : areEndsD n en = false := by unfold areEndsD; rw [hqe]; rfl
    rw [e0] at k
    refine q_when (ρ := exR) (b := true) ((et_or (b := true) (et_not (et_B (ev_isi (ev_ix (n := 1) (ev_var rfl) ev_c sA1 rfl rfl) (e1.ds he) rfl))) fun h1 => ?_).to (by rw [Bool.or_true])) (fun hb H2 e2 => s_retV (ρ := exR) ev_c fun H3 e3 => k H3 (e1.trans (e2.trans e3)).ext) (fun hb H1 e => by cases hb)
    rw [te, hqe] at h1
    cases h1
  | true =>
  cases hqm : isSeqD mo with
  | false =>
    have e0 : areMovesD n mo = false := by unfold areMovesD; rw [hqm]; rfl
    rw [e0, Bool.and_false] at k
    refine q_when (ρ := exR) (b := true) ((et_or (b := true) (et_not (et_B (ev_isi (ev_ix (n := 1) (ev_var rfl) ev_c sA1 rfl rfl) (e1.ds he) rfl))) fun _ => (et_not (et_B (ev_isi (ev_ix (n := 2) (ev_var rfl) ev_c sA1 rfl rfl) (e1.ds hm) rfl))).to ?_).to (by rw [Bool.or_true])) (fun hb H2 e2 => s_retV (ρ := exR) ev_c fun H3 e3 => k H3 (e1.trans (e2.trans e3)).ext) (fun hb H1 e => by cases hb)
    rw [tm, hqm]
    rfl
  | true =>
  obtain ⟨es, rfl⟩ := nolist_tuple nl3.2.1 hqe
  obtain ⟨ms, rfl⟩ := nolist_tuple nl3.2.2 hqm
  obtain ⟨ea, exs, rfl, hex, hEA, hesq⟩ := he.tupl
  obtain ⟨ma, mxs, rfl, hmx, hMA, hmsq⟩ := hm.tupl
  have smE := sm_seq (.inr sm3.2.1)
  have smM := sm_seq (.inr sm3.2.2)
  have nlM : noLists ms = true := by simpa [noList] using nl3.2.2
  have lE := hex.length
  have lM := hmx.length
  refine q_when (ρ := exR) (b := false) ((et_or (b := false) (et_not (et_B (ev_isi (ev_ix (n := 1) (ev_var rfl) ev_c sA1 rfl rfl) (e1.ds he) rfl))) fun _ => (et_not (et_B (ev_isi (ev_ix (n := 2) (ev_var rfl) ev_c sA1 rfl rfl) (e1.ds hm) rfl))).to rfl).to rfl) (fun hb => by cases hb) fun _ H2 e2 => ?_
  have e02 := e1.trans e2
  refine q_asgV (ρ := exR) (ev_neg ev_c) fun H3 e3 => ?_
  have e03 := e02.trans e3
  have sA3 : ∀ H4, exR.r H3 H4 → SqA K H4 a [.int n, .ref ea, .ref ma] := fun H4 e => sA H4 (e03.trans e)
  refine q_for (ρ := exR) (n := exs.length) (ei_seq (ev_ix (n := 1) (ev_var rfl) ev_c sA3 rfl rfl) (fun H4 e4 => .inr (hesq K exR H4 (e03.trans e4))) (.inr fun H4 e4 => hesq K exR H4 (e03.trans e4))) fun H4 e4 => ⟨fun i σ' H' => exR.r H4 H' ∧ ∃ (lv : Int) (ov bv : Option V), σ' = [some (.ref a), some (.int lv), ov, bv] ∧ (∀ (j : Nat) x, j < i → es[j]? = some x → isWholeD 0 (n - 1) x = true) ∧ (∀ (j : Nat) (x y : PyData), j + 1 < i → es[j]? = some x → es[j + 1]? = some y → PySem.W.dataLt x y = true) ∧ ((i = 0 ∧ lv = -1) ∨ ∃ j : Nat, i = j + 1 ∧ es[j]? = some (.int lv)),
    ⟨.rfl, _, _, _, rfl, fun j _ h => absurd h (Nat.not_lt_zero j), fun j _ _ h => absurd h (Nat.not_lt_zero _), .inl ⟨rfl, rfl⟩⟩, fun i σ' H' _ p => p.1, ?_, ?_⟩
  · rintro i w σ' H' H'' hi ⟨r, lv, ov, bv, rfl, hF, hR, hB⟩ ⟨e5, hx⟩
    subst e5
    have r0 : exR.r H H'' := e03.trans (e4.trans r)
    obtain ⟨d1, g1, g2⟩ := hex.get hx
    have g3 : DS exR H'' w d1 := r0.ds g2
    have sm1 := smAll_mem smE.2 (List.mem_of_getElem? g1)
    have bad : ∀ H5, exR.r H'' H5 → areEndsD n (.tuple es) = false → Q (.bl false) H5 := fun H5 e5 hf => by
      rw [hf] at k
      exact k H5 (r0.trans e5).ext
    cases hb : wholeB d1 with
    | false =>
      refine q_when (ρ := exR) (b := true) ((et_or (b := true) (et_not (et_B (ev_B1 (F := wholeB) (ev_var rfl) g3 sm1))) fun h1 => ?_).to (by rw [Bool.or_true])) (fun _ H5 e5 => s_retV (ρ := exR) ev_c fun H6 e6 => bad H6 (e5.trans e6) (ends_bad (d := .tuple es) g1 (whole_no hb))) (fun hb H1 e => by cases hb)
      rw [hb] at h1
      cases h1
    | true =>
    obtain ⟨u, rfl, rfl⟩ := g3.inv_int hb
    have sA5 : ∀ H5, exR.r H'' H5 → SqA K H5 a [.int n, .ref ea, .ref ma] := fun H5 e => sA H5 (r0.trans e)
    have hq : ∀ b : Bool, (decide (lv < u) && decide (u < n)) = b → EvT exR (tOr (tNot (tB (tCall (sp__law_whole K) [] E0 (tCons (tVar 2) tNil)))) (tNot (tTest (tChain (rCmp K gLt) (rCmp K gLt) (tVar 1) (tVar 2) (tIxU K (tVar 0) (tC (.int 0))))))) [some (.ref a), some (.int lv), some (.int u), bv] H'' (!b) := fun b hb => by
      refine (et_or (b := !b) (et_not (et_B (ev_B1 (F := wholeB) (ev_var rfl) (.int u) sm1))) fun _ => (et_not (et_test (ev_chainI (ev_var rfl) (ev_var rfl) (ev_ix (n := 0) (ev_var rfl) ev_c sA5 rfl rfl)))).to ?_).to rfl
      rw [glt_int, glt_int, hb]
    refine q_when (ρ := exR) (hq _ rfl) (fun hb H5 e5 => s_retV (ρ := exR) ev_c fun H6 e6 => bad H6 (e5.trans e6) ?_) (fun hb H5 e5 => ?_)
    · have hf := notb hb
      rcases hB with ⟨i0, rfl⟩ | ⟨j, rfl, hj⟩
      · refine ends_bad (d := .tuple es) g1 ?_
        rw [whole_dec]
        have : decide (-1 < u) = decide (0 ≤ u) := by
          by_cases h : 0 ≤ u
          · rw [decide_eq_true h, decide_eq_true (by omega)]
          · rw [decide_eq_false h, decide_eq_false (by omega)]
        rw [← this]
        exact hf
      · by_cases h : lv < u
        · refine ends_bad (d := .tuple es) g1 ?_
          rw [decide_eq_true h, Bool.true_and] at hf
          rw [whole_dec, hf, Bool.and_false]
        · exact ends_norise (d := .tuple es) hj g1 (by rw [lt_int]; exact decide_eq_false h)
    · have hf : lv < u ∧ u < n := by simpa using notb' hb
      have hu : isWholeD 0 (n - 1) (.int u) = true := by
        rw [whole_dec, decide_eq_true hf.2, Bool.and_true]
        rcases hB with ⟨i0, rfl⟩ | ⟨j, rfl, hj⟩
        · exact decide_eq_true (by omega)
        · have := hF j _ (Nat.lt_succ_self j) hj
          rw [whole_dec] at this
          have h2 : 0 ≤ lv ∧ lv < n := by simpa using this
          exact decide_eq_true (by omega)
      refine s_asgV (ρ := exR) (ev_var rfl) fun H6 e6 => ⟨r.trans (e5.trans e6), u, _, _, rfl, fun j x hj hx' => ?_, fun j x y hj hx' hy' => ?_, .inr ⟨i, rfl, g1⟩⟩
      · by_cases z : j = i
        · subst z
          rw [g1] at hx'
          cases hx'
          exact hu
        · exact hF j x (by omega) hx'
      · by_cases z : j + 1 = i
        · subst z
          rw [g1] at hy'
          cases hy'
          rcases hB with ⟨i0, _⟩ | ⟨j', ej, hj'⟩
          · omega
          · have : j' = j := by omega
            subst this
            rw [hj'] at hx'
            cases hx'
            rw [lt_int]
            exact decide_eq_true hf.1
        · exact hR j x y (by omega) hx' hy'
  · rintro σ' H' ⟨r, lv, ov, bv, rfl, hF, hR, hB⟩
    have r0 : exR.r H H' := e03.trans (e4.trans r)
    have hends : areEndsD n (.tuple es) = true := ends_yes rfl (fun x hx => by
      obtain ⟨j, hj, e⟩ := List.mem_iff_getElem.mp hx
      have hj' : j < es.length := hj
      exact hF j x (by omega) (by rw [← e]; exact List.getElem?_eq_getElem hj)) fun j x y a b => hR j x y (by have h := (List.getElem?_eq_some_iff.mp b).1; have h' : j + 1 < es.length := h; omega) a b
    rw [hends, Bool.true_and] at k
    refine q_asg (ρ := exR) (R := fun v H' => DS exR H' v (.tuple [.int (-1), .str ""])) (ev_pairD Le.rfl (ev_neg ev_c) ev_c (.int _) (.str _)) fun v5 H5 e5 h5 => ?_
    have r05 := r0.trans e5
    have sA5 : ∀ H6, exR.r H5 H6 → SqA K H6 a [.int n, .ref ea, .ref ma] := fun H6 e => sA H6 (r05.trans e)
    refine q_for (ρ := exR) (n := mxs.length) (ei_seq (ev_ix (n := 2) (ev_var rfl) ev_c sA5 rfl rfl) (fun H4 e4 => .inr (hmsq K exR H4 (r05.trans e4))) (.inr fun H4 e4 => hmsq K exR H4 (r05.trans e4))) fun H6 e6 => ⟨fun i σ' H' => exR.r H6 H' ∧ ∃ (lv ov : Option V) (bv : V), σ' = [some (.ref a), lv, ov, some bv] ∧ (∀ (j : Nat) x, j < i → ms[j]? = some x → isMoveD n x = true) ∧ (∀ (j : Nat) (x y : PyData), j + 1 < i → ms[j]? = some x → ms[j + 1]? = some y → PySem.W.dataLt (pairOf x) (pairOf y) = true) ∧ ((i = 0 ∧ DS exR H' bv (.tuple [.int (-1), .str ""])) ∨ ∃ (j : Nat) (x : PyData), i = j + 1 ∧ ms[j]? = some x ∧ DS exR H' bv (pairOf x)),
      ⟨.rfl, _, _, _, rfl, fun j _ h => absurd h (Nat.not_lt_zero j), fun j _ _ h => absurd h (Nat.not_lt_zero _), .inl ⟨rfl, e6.ds h5⟩⟩, fun i σ' H' _ p => p.1, ?_, ?_⟩
    · rintro i w σ' H' H'' hi ⟨r7, lv, ov, bv, rfl, hF, hR, hB⟩ ⟨e7, hx⟩
      subst e7
      have q0 : exR.r H H'' := r05.trans (e6.trans r7)
      obtain ⟨d1, g1, g2⟩ := hmx.get hx
      have g3 : DS exR H'' w d1 := q0.ds g2
      have hmem := List.mem_of_getElem? g1
      have sm1 := smAll_mem smM.2 hmem
      have nl1 := noLists_mem nlM hmem
      have t1 := tup_nl nl1
      have bad : ∀ H8, exR.r H'' H8 → isMoveD n d1 = false → Q (.bl false) H8 := fun H8 e8 hf => by
        rw [moves_bad (d := .tuple ms) g1 hf] at k
        exact k H8 (q0.trans e8).ext
      cases hq1 : isSeqD d1 with
      | false =>
        refine q_when (ρ := exR) (b := true) ((et_or (b := true) (et_not (et_B (ev_isi (ev_var rfl) g3 rfl))) fun h1 => ?_).to (by rw [Bool.or_true])) (fun hb H1 e => s_retV (ρ := exR) ev_c fun H2 e2 => bad H2 (e.trans e2) (move_seq hq1)) (fun hb H1 e => by cases hb)
        rw [t1, hq1] at h1
        cases h1
      | true =>
      obtain ⟨qs, rfl⟩ := nolist_tuple nl1 hq1
      obtain ⟨b, ys, rfl, hy, hbA, hsb⟩ := g3.tupl
      have ly := hy.length
      have hsbA : ∀ H1, exR.r H'' H1 → SqA K H1 b ys := fun H1 e => .inr (hsb K exR H1 e)
      have smq := (sm_seq (.inr sm1)).2
      by_cases h3 : qs.length = 3
      rotate_left
      · refine q_when (ρ := exR) (b := true) ((et_or (b := true) (et_not (et_B (ev_isi (ev_var rfl) g3 rfl))) fun _ => (et_or (b := true) (et_test (ev_neI (ev_len (ev_var rfl) hsbA) ev_c)) fun h => ?_).to (by rw [Bool.or_true])).to (by rw [Bool.or_true])) (fun hb H4 e4 => s_retV (ρ := exR) ev_c fun H5 e5 => bad H5 (e4.trans e5) (move_three rfl h3)) (fun hb H1 e => by cases hb)
        exact absurd (of_decide_eq_true (notb' h)) (by omega)
      obtain ⟨s, l, t, rfl⟩ := three h3
      obtain ⟨y1, y2, y3, rfl, c1', c2', c3'⟩ := hy.three
      have c1 : DS exR H'' y1 s := c1'
      have c2 : DS exR H'' y2 l := c2'
      have c3 : DS exR H'' y3 t := c3'
      have s3 : sm s = true ∧ sm l = true ∧ sm t = true := by simpa [smAll] using smq
      cases hw1 : wholeB s && wholeB t with
      | false =>
        refine q_when (ρ := exR) (b := true) ((et_or (b := true) (et_not (et_B (ev_isi (ev_var rfl) g3 rfl))) fun _ => (et_or (b := true) (et_test (ev_neI (ev_len (ev_var rfl) hsbA) ev_c)) fun _ => (et_or (b := !wholeB t) (et_not (et_B (ev_B1 (F := wholeB) (ev_ix (n := 0) (ev_var rfl) ev_c hsbA rfl rfl) c1 s3.1))) fun _ => et_not (et_B (ev_B1 (F := wholeB) (ev_ix (n := 2) (ev_var rfl) ev_c hsbA rfl rfl) c3 s3.2.2))).to ?_).to (by rw [Bool.or_true])).to (by rw [Bool.or_true])) (fun hb H4 e4 => s_retV (ρ := exR) ev_c fun H5 e5 => bad H5 (e4.trans e5) ?_) (fun hb H1 e => by cases hb)
        · revert hw1
          cases wholeB s <;> cases wholeB t <;> intro h <;> first | rfl | cases h
        · rw [move_tup]
          cases h1 : wholeB s with
          | false => rw [whole_no h1, Bool.false_and, Bool.and_false]
          | true =>
            rw [h1, Bool.true_and] at hw1
            rw [whole_no hw1, Bool.and_false, Bool.and_false]
      | true =>
      have hw2 : wholeB s = true ∧ wholeB t = true := by
        revert hw1
        cases wholeB s <;> cases wholeB t <;> intro h <;> first | exact ⟨rfl, rfl⟩ | cases h
      obtain ⟨si, rfl, rfl⟩ := c1.inv_int hw2.1
      obtain ⟨ti, rfl, rfl⟩ := c3.inv_int hw2.2
      refine q_when (ρ := exR) (b := false) ((et_or (b := false) (et_not (et_B (ev_isi (ev_var rfl) g3 rfl))) fun _ => (et_or (b := false) (et_test (ev_neI (ev_len (ev_var rfl) hsbA) ev_c)) fun _ => (et_or (b := false) (et_not (et_B (ev_B1 (F := wholeB) (ev_ix (n := 0) (ev_var rfl) ev_c hsbA rfl rfl) (.int si) s3.1))) fun _ => (et_not (et_B (ev_B1 (F := wholeB) (ev_ix (n := 2) (ev_var rfl) ev_c hsbA rfl rfl) (.int ti) s3.2.2))).to rfl).to rfl).to rfl).to rfl) (fun hb => by cases hb) fun _ H8 e8 => ?_
      have q8 := q0.trans e8
      have sb8 : ∀ H1, exR.r H8 H1 → SqA K H1 b [.int si, y2, .int ti] := fun H1 e => hsbA H1 (e8.trans e)
      have sA8 : ∀ H1, exR.r H8 H1 → SqA K H1 a [.int n, .ref ea, .ref ma] := fun H1 e => sA H1 (q8.trans e)
      have c28 := e8.ds c2
      -- the second question of a move
      refine q_when (ρ := exR) (b := !isMoveD n (.tuple [.int si, l, .int ti])) ((et_or (b := !isMoveD n (.tuple [.int si, l, .int ti])) (et_not (et_B (ev_is_string (ev_ix (n := 1) (ev_var rfl) ev_c sb8 rfl rfl) ev_c c28 s3.2.1))) fun hstr => ?_).to ?_) (fun hb H9 e9 => s_retV (ρ := exR) ev_c fun H10 e10 => bad H10 (e8.trans (e9.trans e10)) (notb hb)) (fun hb H9 e9 => ?_)
      · have hstr' := notb' hstr
        cases l with
        | str ls =>
          cases c28
          have hll := sm_str s3.2.1
          refine (et_or (et_test (ev_neI (ev_lenS (ev_ix (n := 1) (ev_var rfl) ev_c sb8 rfl rfl) (by omega)) ev_c)) fun _ => et_or (et_not (et_test (ev_chainI ev_c (ev_ix (n := 0) (ev_var rfl) ev_c sb8 rfl rfl) (ev_ix (n := 0) (ev_var rfl) ev_c sA8 rfl rfl)))) fun _ => et_not (et_test (ev_chainI ev_c (ev_ix (n := 2) (ev_var rfl) ev_c sb8 rfl rfl) (ev_ix (n := 0) (ev_var rfl) ev_c sA8 rfl rfl)))).to ?_
          rw [move_tup, let_s, hstr', Bool.true_and, whole_dec, whole_dec, gle_int, glt_int, gle_int, glt_int]
          have : decide ((ls.length : Int) = 1) = decide (ls.length = 1) := by
            by_cases h : ls.length = 1
            · rw [decide_eq_true h, decide_eq_true (by omega)]
            · rw [decide_eq_false h, decide_eq_false (by omega)]
          rw [this]
          cases decide (ls.length = 1) <;> cases (decide (0 ≤ si) && decide (si < n)) <;> cases (decide (0 ≤ ti) && decide (ti < n)) <;> rfl
        | _ => cases hstr'
      · rw [move_tup, str1_let]
        cases isStrD 1 l <;> rfl
      have hmv := notb' hb
      have hmv0 := hmv
      rw [move_tup, whole_dec, whole_dec] at hmv
      have h4 : isLetD l = true ∧ (0 ≤ si ∧ si < n) ∧ 0 ≤ ti ∧ ti < n := by simpa using hmv
      obtain ⟨cc, rfl, _⟩ := let_str h4.1
      cases c28
      have q9 := q8.trans e9
      have sb9 : ∀ H1, exR.r H9 H1 → SqA K H1 b [.int si, .str ⟨#[cc]⟩, .int ti] := fun H1 e => sb8 H1 (e9.trans e)
      have hpr : pairOf (.tuple [.int si, .str ⟨#[cc]⟩, .int ti]) = .tuple [.int si, .str ⟨#[cc]⟩] := rfl
      have pairE : ∀ {σ : L2.St} {H10 : Hp}, exR.r H9 H10 → EvV exR (tVar 2) σ H10 (.ref b) → Ev exR (tTup (tCons (tIxU K (tVar 2) (tC (.int 0))) (tCons (tIxU K (tVar 2) (tC (.int 1))) tNil))) σ H10 (fun v H' => DS exR H' v (.tuple [.int si, .str ⟨#[cc]⟩])) := fun e10 hv =>
        ev_pairD Le.rfl (ev_ix (n := 0) hv ev_c (fun H1 e => sb9 H1 (e10.trans e)) rfl rfl) (ev_ix (n := 1) hv ev_c (fun H1 e => sb9 H1 (e10.trans e)) rfl rfl) (.int si) (.str _)
      have fin : ∀ (dp : PyData), DS exR H9 bv dp → PySem.W.alike dp (.tuple [.int si, .str ⟨#[cc]⟩]) = true → dp ≠ .none → dp.depth ≤ 64 → (PySem.W.dataLt dp (.tuple [.int si, .str ⟨#[cc]⟩]) = false → areMovesD n (.tuple ms) = false) → (∀ (j : Nat) (x : PyData), i = j + 1 → ms[j]? = some x → pairOf x = dp) → ∀ D : Ends, D.rt = Q → (∀ σ2 H2, (exR.r H6 H2 ∧ ∃ (lv ov : Option V) (bv : V), σ2 = [some (.ref a), lv, ov, some bv] ∧ (∀ (j : Nat) x, j < i + 1 → ms[j]? = some x → isMoveD n x = true) ∧ (∀ (j : Nat) (x y : PyData), j + 1 < i + 1 → ms[j]? = some x → ms[j + 1]? = some y → PySem.W.dataLt (pairOf x) (pairOf y) = true) ∧ ((i + 1 = 0 ∧ DS exR H2 bv (.tuple [.int (-1), .str ""])) ∨ ∃ (j : Nat) (x : PyData), i + 1 = j + 1 ∧ ms[j]? = some x ∧ DS exR H2 bv (pairOf x))) → D.nx σ2 H2) →
          tSeq (tIfS (tNot (tTest (tOp (rCmp K gLt) (tVar 3) (tTup (tCons (tIxU K (tVar 2) (tC (.int 0))) (tCons (tIxU K (tVar 2) (tC (.int 1))) tNil)))))) (tRet (tC (.bl false))) tNext) (tAsg (tTup (tCons (tIxU K (tVar 2) (tC (.int 0))) (tCons (tIxU K (tVar 2) (tC (.int 1))) tNil))) (gName 3)) D [some (.ref a), lv, some (.ref b), some bv] H9 := by
        intro dp hdp al nn dd hbad hprev D hrt hnx
        refine q_when (ρ := exR) (et_not (et_test (ev_cmp2 (g := gLt) (e := .tuple [.int si, .str ⟨#[cc]⟩]) (ev_var rfl) hdp (pairE .rfl (ev_var rfl)) al nn dd))) (fun hb2 H10 e10 => s_retV (ρ := exR) ev_c fun H11 e11 => ?_) (fun hb2 H10 e10 => ?_)
        · show D.rt (.bl false) H11
          rw [hrt]
          rw [hbad (notb hb2)] at k
          exact k H11 (q9.trans (e10.trans e11)).ext
        · have hlt : PySem.W.dataLt dp (.tuple [.int si, .str ⟨#[cc]⟩]) = true := notb' hb2
          refine s_asg (ρ := exR) (pairE e10 (ev_var rfl)) fun u H11 e11 hu => hnx _ _ ⟨r7.trans (e8.trans (e9.trans (e10.trans e11))), _, _, _, rfl, fun j x hj hx' => ?_, fun j x y hj hx' hy' => ?_, .inr ⟨i, _, rfl, g1, hu⟩⟩
          · by_cases z : j = i
            · subst z
              rw [g1] at hx'
              cases hx'
              exact hmv0
            · exact hF j x (by omega) hx'
          · by_cases z : j + 1 = i
            · rw [z, g1] at hy'
              cases hy'
              rw [hprev j x z.symm hx', hpr]
              exact hlt
            · exact hR j x y (by omega) hx' hy'
      rcases hB with ⟨hi0, h0⟩ | ⟨j, x0, hij, hx0, hb0⟩
      · exact fin _ ((e8.trans e9).ds h0) rfl (by simp) (by show (1 : Nat) ≤ 64; decide) (fun hf => by rw [first_lt h4.2.1.1] at hf; cases hf) (fun j x hij => by omega) _ rfl fun _ _ h => h
      · have hf0 := hF j x0 (by omega) hx0
        obtain ⟨s0, c0, b0, p0, _⟩ := move_parts hf0
        have pr0 : pairOf x0 = .tuple [.int s0, .str ⟨#[c0]⟩] := by
          unfold pairOf
          rw [p0]
        rw [pr0] at hb0
        refine fin _ ((e8.trans e9).ds hb0) rfl (by simp) (by show (1 : Nat) ≤ 64; decide) (fun hf => moves_norise (d := .tuple ms) (j := j) (y := .tuple [.int si, .str ⟨#[cc]⟩, .int ti]) hx0 (by rw [← hij]; exact g1) (by rw [pr0]; exact hf)) (fun j' x' hij' hx' => ?_) _ rfl fun _ _ h => h
        have : j' = j := by omega
        subst this
        rw [hx0] at hx'
        cases hx'
        exact pr0
    · rintro σ' H' ⟨r7, lv, ov, bv, rfl, hF, hR, hB⟩
      have hmoves : areMovesD n (.tuple ms) = true := moves_yes rfl (fun x hx => by
        obtain ⟨j, hj, e⟩ := List.mem_iff_getElem.mp hx
        have hj' : j < ms.length := hj
        exact hF j x (by omega) (by rw [← e]; exact List.getElem?_eq_getElem hj)) fun j x y a b => hR j x y (by have h := (List.getElem?_eq_some_iff.mp b).1; have h' : j + 1 < ms.length := h; omega) a b
      rw [hmoves] at k
      exact s_retV (ρ := exR) ev_c fun H8 e8 => k H8 (r05.trans (e6.trans (r7.trans e8))).ext
end Slip
/-! a changed machine -/
namespace Slip
open PySem PySem.Spec PyProof.Rows L2
theorem gv_triple0 {σ : L2.St} {H : Hp} {sp : Addr} {D : Nat} : Ev (spR sp) (tTup (tCons (tC (.int 0)) (tCons (tC (.str "a")) (tCons (tC (.int 0)) tNil)))) σ H (GoodV sp (D + 1)) := (ev_tripleD Le.rfl ev_c ev_c ev_c (.int 0) (.str "a") (.int 0)).imp fun v H1 _ h => ⟨_, h, rfl, by decide +kernel, by show 0 + 1 ≤ D + 1; omega⟩
def sp__law_machine_changed (K : Frag) (n : Nat) : Sp := fun vs H Q _ => ∃ (ra sp : Addr) (v : V) (d : PyData), vs = [.ref ra, .ref sp, v] ∧ Dr K ra sp H ∧ DS (spR sp) H v d ∧ plainT d = true ∧ d.depth < n ∧ ∀ v' d' H', (spR sp).r H H' → DS (spR sp) H' v' d' → Good (d.depth + 1) d' → Q v' H'
theorem len__law_machine_changed {K : Frag} {n : Nat} {vs : List V} {H : Hp} {Q : VK} {E : XK} (h : sp__law_machine_changed K n vs H Q E) : vs.length = 3 := by
  obtain ⟨ra, sp, v, d, rfl, _⟩ := h
  rfl
def t__law_machine_changed (K : Frag) (n : Nat) : TS := (tSeq (tIfS (tAnd (tB (tCB (rIsiU K) (tCons (tVar 2) (tCons (tC (.ty "tuple")) tNil)))) (tAnd (tTest (tOp (rCmp K gGt) (tCB (rLenU K) (tCons (tVar 2) tNil)) (tC (.int 0)))) (tTest (tOp (rCmp K gGt) (tCall (sp__law_take K) [] E0 (tCons (tVar 0) (tCons (tVar 1) (tCons (tC (.int 6)) tNil)))) (tC (.int 0)))))) (tSeq (tAsg (tCall (sp__law_take K) [] E0 (tCons (tVar 0) (tCons (tVar 1) (tCons (tCB (rLenU K) (tCons (tVar 2) tNil)) tNil)))) (gName 3)) (tRet (tOp (rAddU K) (tOp (rAddU K) (tSl (rSlU K) (tVar 2) tNoPart (tPart (tVar 3))) (tTup (tCons (tCall (sp__law_machine_changed K n) [] E0 (tCons (tVar 0) (tCons (tVar 1) (tCons (tIxU K (tVar 2) (tVar 3)) tNil)))) tNil))) (tSl (rSlU K) (tVar 2) (tPart (tOp (rAddU K) (tVar 3) (tC (.int 1)))) tNoPart)))) tNext) (tSeq (tAsg (tCall (sp__law_take K) [] E0 (tCons (tVar 0) (tCons (tVar 1) (tCons (tC (.int 4)) tNil)))) (gName 4)) (tSeq (tIfS (tAnd (tB (tCB (rIsiU K) (tCons (tVar 2) (tCons (tC (.ty "tuple")) tNil)))) (tAnd (tTest (tOp (rEqU K) (tVar 4) (tC (.int 0)))) (tTest (tOp (rCmp K gGt) (tCB (rLenU K) (tCons (tVar 2) tNil)) (tC (.int 0)))))) (tRet (tOp (rAddU K) (tVar 2) (tSl (rSlU K) (tVar 2) tNoPart (tPart (tC (.int 1)))))) tNext) (tSeq (tIfS (tAnd (tB (tCB (rIsiU K) (tCons (tVar 2) (tCons (tC (.ty "tuple")) tNil)))) (tAnd (tTest (tOp (rEqU K) (tVar 4) (tC (.int 1)))) (tTest (tOp (rCmp K gGt) (tCB (rLenU K) (tCons (tVar 2) tNil)) (tC (.int 0)))))) (tRet (tSl (rSlU K) (tVar 2) (tPart (tC (.int 1))) tNoPart)) tNext) (tSeq (tIfS (tAnd (tB (tCB (rIsiU K) (tCons (tVar 2) (tCons (tC (.ty "tuple")) tNil)))) (tAnd (tTest (tOp (rEqU K) (tVar 4) (tC (.int 2)))) (tTest (tOp (rCmp K gGt) (tCB (rLenU K) (tCons (tVar 2) tNil)) (tC (.int 1)))))) (tRet (tOp (rAddU K) (tSl (rSlU K) (tVar 2) (tPart (tC (.int 1))) tNoPart) (tSl (rSlU K) (tVar 2) tNoPart (tPart (tC (.int 1)))))) tNext) (tSeq (tIfS (tAnd (tB (tCB (rIsiU K) (tCons (tVar 2) (tCons (tC (.ty "str")) tNil)))) (tTest (tOp (rCmp K gLt) (tVar 4) (tC (.int 3))))) (tRet (tIxU K (tLst (tCons (tC (.str "a")) (tCons (tC (.str "f")) (tCons (tC (.str "g")) (tCons (tC (.str "")) (tCons (tC (.str "ab")) (tCons (tC (.str "A")) (tCons (tC (.str "a\n")) tNil)))))))) (tCall (sp__law_take K) [] E0 (tCons (tVar 0) (tCons (tVar 1) (tCons (tC (.int 7)) tNil)))))) tNext) (tSeq (tIfS (tAnd (tB (tCB (rIsiU K) (tCons (tVar 2) (tCons (tC (.ty "int")) tNil)))) (tTest (tOp (rCmp K gLt) (tVar 4) (tC (.int 3))))) (tRet (tIxU K (tLst (tCons (tOp (rAddU K) (tVar 2) (tC (.int 1))) (tCons (tOp rSubI (tVar 2) (tC (.int 1))) (tCons (tC (.int 8)) (tCons (tC (.int 9)) (tCons (tC (.int 0)) (tCons (tC .non) (tCons (tC (.bl true)) (tCons (tUn rNegI (tC (.int 1))) tNil))))))))) (tCall (sp__law_take K) [] E0 (tCons (tVar 0) (tCons (tVar 1) (tCons (tC (.int 8)) tNil)))))) tNext) (tRet (tIxU K (tLst (tCons (tC .non) (tCons (tC (.int 7)) (tCons (tC (.bl true)) (tCons (tC (.str "")) (tCons (tTup tNil) (tCons (tTup (tCons (tC (.int 0)) (tCons (tC (.str "a")) (tCons (tC (.int 0)) tNil)))) (tCons (tC (.str "a")) tNil)))))))) (tCall (sp__law_take K) [] E0 (tCons (tVar 0) (tCons (tVar 1) (tCons (tC (.int 7)) tNil)))))))))))))
theorem pure__law_machine_changed {K : Frag} {n : Nat} (vs : List V) (H : Hp) (Q : VK) (E : XK) (h : sp__law_machine_changed K (n + 1) vs H Q E) : t__law_machine_changed K n { nx := fun _ H' => Q .non H', rt := Q } (start ["row", "spot", "value", "at", "kind"] vs) H := by
  obtain ⟨ra, sp, v, d, rfl, dr, hd, hp, dp, k⟩ := h
  have hnl := plain_nl d hp
  have hds : ∀ H', (spR sp).r H H' → DS (spR sp) H' v d := fun H' e => e.ds hd
  -- what is left, after the kind is drawn
  have last : ∀ (σ : L2.St) (D : Ends) H1, D.rt = Q → σ[0]? = some (some (.ref ra)) → σ[1]? = some (some (.ref sp)) → (spR sp).r H H1 → tRet (tIxU K (tLst (tCons (tC .non) (tCons (tC (.int 7)) (tCons (tC (.bl true)) (tCons (tC (.str "")) (tCons (tTup tNil) (tCons (tTup (tCons (tC (.int 0)) (tCons (tC (.str "a")) (tCons (tC (.int 0)) tNil)))) (tCons (tC (.str "a")) tNil)))))))) (tCall (sp__law_take K) [] E0 (tCons (tVar 0) (tCons (tVar 1) (tCons (tC (.int 7)) tNil))))) D σ H1 := by
    intro σ D H1 hD h0 h1 e1
    have dr1 := dr.sp e1
    refine s_ret (ρ := spR sp) (ev_pick (P := GoodV sp (d.depth + 1)) (n := 7) (N := 7) (own_sp dr1) goodV_r ?_ (by decide) rfl fun H2 e2 => ev_take (ev_var h0) (ev_var h1) ev_c (dr1.sp e2) (by decide)) fun v' H2 e2 ⟨d', h, g⟩ => by rw [hD]; exact k v' d' H2 (e1.trans e2) h g
    refine ea_consQ goodV_r (gv_c (fun _ => .non) good_none) fun _ _ => ea_consQ goodV_r (gv_c (fun _ => .int 7) good_int) fun _ _ => ea_consQ goodV_r (gv_c (fun _ => .bl true) good_bool) fun _ _ => ea_consQ goodV_r (gv_c (fun _ => .str "") (good_str (by decide +kernel))) fun _ _ => ea_consQ goodV_r gv_unit fun _ _ => ea_consQ goodV_r gv_triple0 fun _ _ => ea_consQ goodV_r (gv_c (fun _ => .str "a") (good_str (by decide +kernel))) fun _ _ => ea_nilP
  cases d with
  | none => cases hp
  | bool b => cases hp
  | list ds => cases hp
  | dict ds => cases hp
  | str s =>
    have hs : s.length ≤ 300 := by simpa [plainT] using hp
    cases hd
    refine q_when (ρ := spR sp) (b := false) ((et_and (b := true) (et_B (ev_isi (ev_var rfl) (.str s) rfl)) fun h => by cases h).to rfl) (fun hb => by cases hb) fun _ H1 e1 => ?_
    refine q_asg (ρ := spR sp) (ev_take (ev_var rfl) (ev_var rfl) ev_c (dr.sp e1) (by decide)) fun v1 H2 e2 ⟨m, ev, _, _⟩ => ?_
    subst ev
    have e12 := e1.trans e2
    refine q_when (ρ := spR sp) (b := false) ((et_and (b := true) (et_B (ev_isi (ev_var rfl) (.str s) rfl)) fun h => by cases h).to rfl) (fun hb => by cases hb) fun _ H3 e3 => ?_
    refine q_when (ρ := spR sp) (b := false) ((et_and (b := true) (et_B (ev_isi (ev_var rfl) (.str s) rfl)) fun h => by cases h).to rfl) (fun hb => by cases hb) fun _ H4 e4 => ?_
    refine q_when (ρ := spR sp) (b := false) ((et_and (b := true) (et_B (ev_isi (ev_var rfl) (.str s) rfl)) fun h => by cases h).to rfl) (fun hb => by cases hb) fun _ H5 e5 => ?_
    have e15 := e12.trans (e3.trans (e4.trans e5))
    refine q_when (ρ := spR sp) (et_and (et_B (ev_isi (ev_var rfl) (.str s) rfl)) fun _ => et_test (ev_lt (ev_var rfl) ev_c)) (fun hb H6 e6 => ?_) fun _ H6 e6 => ?_
    · have e16 := e15.trans e6
      have dr6 := dr.sp e16
      refine s_ret (ρ := spR sp) (ev_pick (P := GoodV sp ((PyData.str s).depth + 1)) (n := 7) (N := 7) (own_sp dr6) goodV_r ?_ (by decide) rfl fun H2 e2 => ev_take (ev_var rfl) (ev_var rfl) ev_c (dr6.sp e2) (by decide)) fun v' H2 e2 ⟨d', h, g⟩ => k v' d' H2 (e16.trans e2) h g
      exact ea_consQ goodV_r (gv_c (fun _ => .str _) (good_str (by decide +kernel))) fun _ _ => ea_consQ goodV_r (gv_c (fun _ => .str _) (good_str (by decide +kernel))) fun _ _ => ea_consQ goodV_r (gv_c (fun _ => .str _) (good_str (by decide +kernel))) fun _ _ => ea_consQ goodV_r (gv_c (fun _ => .str _) (good_str (by decide +kernel))) fun _ _ => ea_consQ goodV_r (gv_c (fun _ => .str _) (good_str (by decide +kernel))) fun _ _ => ea_consQ goodV_r (gv_c (fun _ => .str _) (good_str (by decide +kernel))) fun _ _ => ea_consQ goodV_r (gv_c (fun _ => .str _) (good_str (by decide +kernel))) fun _ _ => ea_nilP
    · refine q_when (ρ := spR sp) (b := false) ((et_and (b := true) (et_B (ev_isi (ev_var rfl) (.str s) rfl)) fun h => by cases h).to rfl) (fun hb => by cases hb) fun _ H7 e7 => ?_
      exact last _ _ H7 rfl rfl rfl (e15.trans (e6.trans e7))
  | int i =>
    cases hd
    refine q_when (ρ := spR sp) (b := false) ((et_and (b := true) (et_B (ev_isi (ev_var rfl) (.int i) rfl)) fun h => by cases h).to rfl) (fun hb => by cases hb) fun _ H1 e1 => ?_
    refine q_asg (ρ := spR sp) (ev_take (ev_var rfl) (ev_var rfl) ev_c (dr.sp e1) (by decide)) fun v1 H2 e2 ⟨m, ev, _, _⟩ => ?_
    subst ev
    have e12 := e1.trans e2
    refine q_when (ρ := spR sp) (b := false) ((et_and (b := true) (et_B (ev_isi (ev_var rfl) (.int i) rfl)) fun h => by cases h).to rfl) (fun hb => by cases hb) fun _ H3 e3 => ?_
    refine q_when (ρ := spR sp) (b := false) ((et_and (b := true) (et_B (ev_isi (ev_var rfl) (.int i) rfl)) fun h => by cases h).to rfl) (fun hb => by cases hb) fun _ H4 e4 => ?_
    refine q_when (ρ := spR sp) (b := false) ((et_and (b := true) (et_B (ev_isi (ev_var rfl) (.int i) rfl)) fun h => by cases h).to rfl) (fun hb => by cases hb) fun _ H5 e5 => ?_
    have e15 := e12.trans (e3.trans (e4.trans e5))
    refine q_when (ρ := spR sp) (b := false) ((et_and (b := true) (et_B (ev_isi (ev_var rfl) (.int i) rfl)) fun h => by cases h).to rfl) (fun hb => by cases hb) fun _ H6 e6 => ?_
    refine q_when (ρ := spR sp) (et_and (et_B (ev_isi (ev_var rfl) (.int i) rfl)) fun _ => et_test (ev_lt (ev_var rfl) ev_c)) (fun hb H7 e7 => ?_) fun _ H7 e7 => ?_
    · have e17 := e15.trans (e6.trans e7)
      have dr7 := dr.sp e17
      refine s_ret (ρ := spR sp) (ev_pick (P := GoodV sp ((PyData.int i).depth + 1)) (n := 8) (N := 8) (own_sp dr7) goodV_r ?_ (by decide) rfl fun H2 e2 => ev_take (ev_var rfl) (ev_var rfl) ev_c (dr7.sp e2) (by decide)) fun v' H2 e2 ⟨d', h, g⟩ => k v' d' H2 (e17.trans e2) h g
      exact ea_consQ goodV_r (gv_v (ev_add (ev_var rfl) ev_c) (fun _ => .int _) good_int) fun _ _ => ea_consQ goodV_r (gv_v (ev_sub (ev_var rfl) ev_c) (fun _ => .int _) good_int) fun _ _ => ea_consQ goodV_r (gv_c (fun _ => .int _) good_int) fun _ _ => ea_consQ goodV_r (gv_c (fun _ => .int _) good_int) fun _ _ => ea_consQ goodV_r (gv_c (fun _ => .int _) good_int) fun _ _ => ea_consQ goodV_r (gv_c (fun _ => .non) good_none) fun _ _ => ea_consQ goodV_r (gv_c (fun _ => .bl _) good_bool) fun _ _ => ea_consQ goodV_r (gv_v (ev_neg ev_c) (fun _ => .int _) good_int) fun _ _ => ea_nilP
    · exact last _ _ H7 rfl rfl rfl (e15.trans (e6.trans e7))
  | tuple ds =>
    obtain ⟨a, xs, rfl, hxs, ha, hsq⟩ := hd.tupl
    have fine := fine_plain hp
    have hpl : ds.length ≤ 300 ∧ plainTs ds = true := by simpa [plainT] using hp
    have hlen := hxs.length
    have sA : ∀ H1, (spR sp).r H H1 → SqA K H1 a xs := fun H1 e => .inr (hsq K (spR sp) H1 e)
    have ddep : (PyData.tuple ds).depth = PyData.depthAll ds + 1 := rfl
    -- behind the first question
    have rest : ∀ (σ : L2.St) (av kv : Option V) H1, σ = [some (.ref ra), some (.ref sp), some (.ref a), av, kv] → (spR sp).r H H1 → (tSeq (tAsg (tCall (sp__law_take K) [] E0 (tCons (tVar 0) (tCons (tVar 1) (tCons (tC (.int 4)) tNil)))) (gName 4)) (tSeq (tIfS (tAnd (tB (tCB (rIsiU K) (tCons (tVar 2) (tCons (tC (.ty "tuple")) tNil)))) (tAnd (tTest (tOp (rEqU K) (tVar 4) (tC (.int 0)))) (tTest (tOp (rCmp K gGt) (tCB (rLenU K) (tCons (tVar 2) tNil)) (tC (.int 0)))))) (tRet (tOp (rAddU K) (tVar 2) (tSl (rSlU K) (tVar 2) tNoPart (tPart (tC (.int 1)))))) tNext) (tSeq (tIfS (tAnd (tB (tCB (rIsiU K) (tCons (tVar 2) (tCons (tC (.ty "tuple")) tNil)))) (tAnd (tTest (tOp (rEqU K) (tVar 4) (tC (.int 1)))) (tTest (tOp (rCmp K gGt) (tCB (rLenU K) (tCons (tVar 2) tNil)) (tC (.int 0)))))) (tRet (tSl (rSlU K) (tVar 2) (tPart (tC (.int 1))) tNoPart)) tNext) (tSeq (tIfS (tAnd (tB (tCB (rIsiU K) (tCons (tVar 2) (tCons (tC (.ty "tuple")) tNil)))) (tAnd (tTest (tOp (rEqU K) (tVar 4) (tC (.int 2)))) (tTest (tOp (rCmp K gGt) (tCB (rLenU K) (tCons (tVar 2) tNil)) (tC (.int 1)))))) (tRet (tOp (rAddU K) (tSl (rSlU K) (tVar 2) (tPart (tC (.int 1))) tNoPart) (tSl (rSlU K) (tVar 2) tNoPart (tPart (tC (.int 1)))))) tNext) (tSeq (tIfS (tAnd (tB (tCB (rIsiU K) (tCons (tVar 2) (tCons (tC (.ty "str")) tNil)))) (tTest (tOp (rCmp K gLt) (tVar 4) (tC (.int 3))))) (tRet (tIxU K (tLst (tCons (tC (.str "a")) (tCons (tC (.str "f")) (tCons (tC (.str "g")) (tCons (tC (.str "")) (tCons (tC (.str "ab")) (tCons (tC (.str "A")) (tCons (tC (.str "a\n")) tNil)))))))) (tCall (sp__law_take K) [] E0 (tCons (tVar 0) (tCons (tVar 1) (tCons (tC (.int 7)) tNil)))))) tNext) (tSeq (tIfS (tAnd (tB (tCB (rIsiU K) (tCons (tVar 2) (tCons (tC (.ty "int")) tNil)))) (tTest (tOp (rCmp K gLt) (tVar 4) (tC (.int 3))))) (tRet (tIxU K (tLst (tCons (tOp (rAddU K) (tVar 2) (tC (.int 1))) (tCons (tOp rSubI (tVar 2) (tC (.int 1))) (tCons (tC (.int 8)) (tCons (tC (.int 9)) (tCons (tC (.int 0)) (tCons (tC .non) (tCons (tC (.bl true)) (tCons (tUn rNegI (tC (.int 1))) tNil))))))))) (tCall (sp__law_take K) [] E0 (tCons (tVar 0) (tCons (tVar 1) (tCons (tC (.int 8)) tNil)))))) tNext) (tRet (tIxU K (tLst (tCons (tC .non) (tCons (tC (.int 7)) (tCons (tC (.bl true)) (tCons (tC (.str "")) (tCons (tTup tNil) (tCons (tTup (tCons (tC (.int 0)) (tCons (tC (.str "a")) (tCons (tC (.int 0)) tNil)))) (tCons (tC (.str "a")) tNil)))))))) (tCall (sp__law_take K) [] E0 (tCons (tVar 0) (tCons (tVar 1) (tCons (tC (.int 7)) tNil)))))))))))) { nx := fun _ H' => Q .non H', rt := Q } σ H1 := by
      rintro σ av kv H1 rfl e1
      refine q_asg (ρ := spR sp) (ev_take (ev_var rfl) (ev_var rfl) ev_c (dr.sp e1) (by decide)) fun v1 H2 e2 ⟨m, ev, _, _⟩ => ?_
      subst ev
      have e12 := e1.trans e2
      have hdat : ∀ H3, (spR sp).r H2 H3 → DS (spR sp) H3 (.ref a) (.tuple ds) := fun H3 e3 => hds H3 (e12.trans e3)
      have good : ∀ v' ds' H', (spR sp).r H2 H' → DS (spR sp) H' v' (.tuple ds') → Fine 900 (PyData.depthAll ds) ds' → Q v' H' := fun v' ds' H' e h f =>
        k v' _ H' (e12.trans e) h ⟨(f.good (by decide)).1, (f.good (by decide)).2.1, by have := (f.good (by decide)).2.2; rw [ddep]; omega⟩
      have cutE : ∀ {H3 : Hp} {tl th : TO} {lo hi : Option Int}, (spR sp).r H2 H3 → EvO (spR sp) tl [some (.ref ra), some (.ref sp), some (.ref a), av, some (.int m)] H3 lo → EvO (spR sp) th [some (.ref ra), some (.ref sp), some (.ref a), av, some (.int m)] H3 hi → Ev (spR sp) (tSl (rSlU K) (tVar 2) tl th) [some (.ref ra), some (.ref sp), some (.ref a), av, some (.int m)] H3 (fun v H' => ∃ ds', Fine 300 (PyData.depthAll ds) ds' ∧ DS (spR sp) H' v (.tuple ds')) := fun e3 h1 h2 =>
        (ev_slD Le.rfl (ev_var rfl) h1 h2 (hdat _ e3)).imp fun v H' _ h => ⟨_, fine.cut _ _, h⟩
      refine q_when (ρ := spR sp) (et_and (et_B (ev_isi (ev_var rfl) (hdat H2 .rfl) rfl)) fun _ => et_and (et_test (ev_eqI (ev_var rfl) ev_c)) fun _ => et_test (ev_gt (ev_len (ev_var rfl) (fun H3 e3 => sA H3 (e12.trans e3))) ev_c)) (fun hb H3 e3 => ?_) fun _ H3 e3 => ?_
      · refine s_ret (ρ := spR sp) (ev_catD (C1 := Fine 300 (PyData.depthAll ds)) (C2 := Fine 300 (PyData.depthAll ds)) ((ev_var (v := .ref a) rfl).imp fun v H' e ev => ⟨ds, fine, by rw [ev]; exact hdat H' (e3.trans e)⟩) (fun H4 e4 => cutE (e3.trans e4) eo_none (eo_some ev_c)) fun d1 d2 f1 f2 => by have := f1.len; have := f2.len; omega) fun v' H4 e4 ⟨ds', ⟨d1, d2, f1, f2, ed⟩, h⟩ => ?_
        exact good v' ds' H4 (e3.trans e4) h (by rw [ed]; have f := f1.append f2; exact ⟨f.all, Nat.le_trans f.len (by decide)⟩)
      refine q_when (ρ := spR sp) (et_and (et_B (ev_isi (ev_var rfl) (hdat H3 e3) rfl)) fun _ => et_and (et_test (ev_eqI (ev_var rfl) ev_c)) fun _ => et_test (ev_gt (ev_len (ev_var rfl) (fun H4 e4 => sA H4 (e12.trans (e3.trans e4)))) ev_c)) (fun hb H4 e4 => ?_) fun _ H4 e4 => ?_
      · refine s_ret (ρ := spR sp) (cutE (e3.trans e4) (eo_some ev_c) eo_none) fun v' H5 e5 ⟨ds', f, h⟩ => ?_
        exact good v' ds' H5 (e3.trans (e4.trans e5)) h ⟨f.all, Nat.le_trans f.len (by decide)⟩
      have e34 := e3.trans e4
      refine q_when (ρ := spR sp) (et_and (et_B (ev_isi (ev_var rfl) (hdat H4 e34) rfl)) fun _ => et_and (et_test (ev_eqI (ev_var rfl) ev_c)) fun _ => et_test (ev_gt (ev_len (ev_var rfl) (fun H5 e5 => sA H5 (e12.trans (e34.trans e5)))) ev_c)) (fun hb H5 e5 => ?_) fun _ H5 e5 => ?_
      · refine s_ret (ρ := spR sp) (ev_catD (C1 := Fine 300 (PyData.depthAll ds)) (C2 := Fine 300 (PyData.depthAll ds)) (cutE (e34.trans e5) (eo_some ev_c) eo_none) (fun H6 e6 => cutE (e34.trans (e5.trans e6)) eo_none (eo_some ev_c)) fun d1 d2 f1 f2 => by have := f1.len; have := f2.len; omega) fun v' H6 e6 ⟨ds', ⟨d1, d2, f1, f2, ed⟩, h⟩ => ?_
        exact good v' ds' H6 (e34.trans (e5.trans e6)) h (by rw [ed]; have f := f1.append f2; exact ⟨f.all, Nat.le_trans f.len (by decide)⟩)
      have e35 := e34.trans e5
      refine q_when (ρ := spR sp) (b := false) ((et_and (b := true) (et_B (ev_isi (ev_var rfl) (hdat H5 e35) rfl)) fun h => by cases h).to rfl) (fun hb => by cases hb) fun _ H6 e6 => ?_
      refine q_when (ρ := spR sp) (b := false) ((et_and (b := true) (et_B (ev_isi (ev_var rfl) (hdat H6 (e35.trans e6)) rfl)) fun h => by cases h).to rfl) (fun hb => by cases hb) fun _ H7 e7 => ?_
      exact last _ _ H7 rfl rfl rfl (e12.trans (e35.trans (e6.trans e7)))
    by_cases h0 : ds.length = 0
    · refine q_when (ρ := spR sp) (b := false) ((et_and (b := false) (et_B (ev_isi (ev_var rfl) hd rfl)) fun _ => (et_and (b := true) (et_test (ev_gt (ev_len (ev_var rfl) sA) ev_c)) fun h => ?_).to ?_).to rfl) (fun hb => by cases hb) fun _ H1 e1 => rest _ _ _ H1 rfl e1
      · have := of_decide_eq_true h
        omega
      · rw [decide_eq_false (by omega)]
        rfl
    · refine q_whenC (ρ := spR sp) (C := fun _ => True) (etc_and (et_B (ev_isi (ev_var rfl) hd rfl)) (etc_and ((et_test (ev_gt (ev_len (ev_var rfl) sA) ev_c)).to (decide_eq_true (by omega))) (etc_test (ev_opP (Pa := Below 6) (Pb := fun v => v = .int 0) (ev_take (ev_var rfl) (ev_var rfl) ev_c dr (by decide)) ev_c fun x y ⟨m, ex, _⟩ ey => by
        subst ex ey
        exact fun H1 e1 Q q => rv_cmpI H1 Q (q _ H1 .rfl ⟨_, rfl, trivial⟩))))) (fun _ H1 e1 => ?_) fun _ H1 e1 => rest _ _ _ H1 rfl e1
      refine q_asg (ρ := spR sp) (ev_take (ev_var rfl) (ev_var rfl) (ev_len (ev_var rfl) (fun H2 e2 => sA H2 (e1.trans e2))) (dr.sp e1) (by omega)) fun v1 H2 e2 ⟨m, ev, m0, m1⟩ => ?_
      subst ev
      have e12 := e1.trans e2
      have hm : m.toNat < xs.length := by omega
      have gx : xs[m.toNat]? = some xs[m.toNat] := List.getElem?_eq_getElem hm
      obtain ⟨dm, g1, g2⟩ := hxs.get gx
      have hmem := List.mem_of_getElem? g1
      have dmd : dm.depth ≤ PyData.depthAll ds := depth_mem hmem
      have dpn : PyData.depthAll ds + 1 < n + 1 := dp
      have hdat : ∀ H3, (spR sp).r H2 H3 → DS (spR sp) H3 (.ref a) (.tuple ds) := fun H3 e3 => hds H3 (e12.trans e3)
      refine s_ret (ρ := spR sp) (ev_catD (C1 := Fine 301 (PyData.depthAll ds + 1)) (C2 := Fine 300 (PyData.depthAll ds + 1)) ((ev_catD (C1 := Fine 300 (PyData.depthAll ds + 1)) (C2 := Fine 1 (PyData.depthAll ds + 1)) ?_ ?_ ?_).imp ?_) ?_ ?_) fun v' H3 e3 ⟨ds', ⟨d1, d2, f1, f2, ed⟩, h⟩ => ?_
      · exact (ev_slD Le.rfl (ev_var rfl) eo_none (eo_some (ev_var rfl)) (hdat H2 .rfl)).imp fun v H' _ h => ⟨_, (fine.cut _ _).up (Nat.le_succ _), h⟩
      · intro H3 e3
        refine (ev_tup (Rr := fun vs H' => ∃ x, vs = [x] ∧ GoodV sp (PyData.depthAll ds + 1) x H') (ea_one (ev_call (ea_cons (ev_var rfl) (ea_cons (ev_var rfl) (ea_cons (ev_ix (n := m.toNat) (ev_var rfl) (ev_var rfl) (fun H4 e4 => sA H4 (e12.trans (e3.trans e4))) (by omega) gx) ea_nil))) fun H4 e4 Q' q' E' => ?_)) fun vs H4 _ ⟨x, e, _⟩ => by rw [e]; show 1 ≤ 100000; decide).imp fun v H4 e4 ⟨p, vs, H5, ev, ⟨x, evs, dx, hx, gx⟩, hp5, r5, eH⟩ => ?_
        · exact ⟨ra, sp, _, dm, rfl, dr.sp (e12.trans (e3.trans e4)), (e12.trans (e3.trans e4)).ds g2, plainTs_mem hpl.2 hmem, by omega, fun v' d' H' e h g => q' v' H' e ⟨d', h, g.1, g.2.1, Nat.le_trans g.2.2 (by omega)⟩⟩
        · subst ev evs
          refine ⟨[dx], ⟨fun d hd => ?_, Nat.le_refl _⟩, .tup (by rw [eH]; exact upd_same) (.cons ((eH ▸ r_new (ρ := spR sp) _ hp5 : (spR sp).r H5 H4).ds hx) .nil)⟩
          rw [List.mem_singleton.mp hd]
          exact gx
      · intro d1 d2 f1 f2
        have := f1.len
        have := f2.len
        omega
      · rintro v H3 e3 ⟨ds', ⟨d1, d2, f1, f2, rfl⟩, h⟩
        exact ⟨_, f1.append f2, h⟩
      · intro H3 e3
        exact (ev_slD Le.rfl (ev_var rfl) (eo_some (ev_add (ev_var rfl) ev_c)) eo_none (hdat H3 e3)).imp fun v H' _ h => ⟨_, (fine.cut _ _).up (Nat.le_succ _), h⟩
      · intro d1 d2 f1 f2
        have := f1.len
        have := f2.len
        omega
      · have f := f1.append f2
        rw [← ed] at f
        have g := f.good (by decide)
        exact k v' _ H3 (e12.trans e3) h g
end Slip
/-! machines as tables of moves; words told -/
namespace Slip
open PySem PySem.Spec PyProof.Rows L2
/-! ### rules -/
section
variable {ρ : Rl} {K : Frag} {σ : L2.St} {H : Hp} {ta tb te : TE} {x y v : V} {a D : Addr} {kvs : List (List Key × V)} {k : List Key} {b : Bool}
theorem et_tru (h : EvV ρ te σ H (.bl b)) : EvT ρ (tTru K te) σ H b := fun H1 e Q q => h H1 e _ fun v H2 e2 hv => ⟨b, by rw [hv]; exact rfl, q H2 e2⟩
theorem g_seq2 {i j : Nat} {Q : L2.St → Hp → Prop} (hs : SqA K H a [x, y]) (q : Q ((σ.set i (some x)).set j (some y)) H) : gSeq K 2 (gCons (gName i) (gCons (gName j) gNil)) (.ref a) σ H Q := by
  rcases hs with h | h
  · exact .inr ⟨a, _, rfl, h, rfl, x, _, rfl, y, _, rfl, rfl, q⟩
  · exact .inl ⟨a, _, rfl, h, rfl, x, _, rfl, y, _, rfl, rfl, q⟩
/-- (n, s): a key -/
theorem ev_keyT {s : Int} {l : Str} (h1 : EvV ρ ta σ H (.int s)) (h2 : EvV ρ tb σ H (.str l)) : Ev ρ (tTup (tCons ta (tCons tb tNil))) σ H (fun v H' => ∃ q, v = .ref q ∧ H' q = some (.tup (([.inl s, .inr l] : List Key).map kV))) :=
  (ev_tup (ea_cons h1 (ea_cons h2 ea_nil)) fun vs H1 _ e => by rw [e]; show 2 ≤ 100000; decide).imp fun v H2 _ ⟨p, vs, H1, ev, evs, hp, r1, eH⟩ => by
    subst ev evs
    exact ⟨p, rfl, by rw [eH]; exact upd_same⟩
theorem ev_inT (h1 : Ev ρ ta σ H (fun v H' => ∃ q, v = .ref q ∧ H' q = some (.tup (k.map kV)))) (h2 : EvV ρ tb σ H (.ref D)) (hD : ∀ H1, ρ.r H H1 → H1 D = some (.dT kvs)) : EvV ρ (tOp (rInU K) ta tb) σ H (.bl (valV kvs k).isSome) :=
  ev_op2 (Rb := fun v _ => v = .ref D) h1 (fun x H1 e1 _ => h2.mono e1) fun x y H1 H2 e1 e2 ⟨q, ex, hq⟩ ey => by
    subst ex ey
    exact fun H3 e3 Q q' => .inr (.inr ⟨D, valV kvs k, rfl, DGet.t (hD H3 (e1.trans (e2.trans e3))) ((e2.trans e3).tup _ _ hq), q' _ H3 .rfl rfl⟩)
theorem ev_notInT (h1 : Ev ρ ta σ H (fun v H' => ∃ q, v = .ref q ∧ H' q = some (.tup (k.map kV)))) (h2 : EvV ρ tb σ H (.ref D)) (hD : ∀ H1, ρ.r H H1 → H1 D = some (.dT kvs)) : EvV ρ (tOp (rNotInU K) ta tb) σ H (.bl (!(valV kvs k).isSome)) :=
  ev_op2 (Rb := fun v _ => v = .ref D) h1 (fun x H1 e1 _ => h2.mono e1) fun x y H1 H2 e1 e2 ⟨q, ex, hq⟩ ey => by
    subst ex ey
    exact fun H3 e3 Q q' => .inr (.inr ⟨D, valV kvs k, rfl, DGet.t (hD H3 (e1.trans (e2.trans e3))) ((e2.trans e3).tup _ _ hq), q' _ H3 .rfl rfl⟩)
theorem ev_getT (h1 : EvV ρ ta σ H (.ref D)) (h2 : Ev ρ tb σ H (fun v H' => ∃ q, v = .ref q ∧ H' q = some (.tup (k.map kV)))) (hD : ∀ H1, ρ.r H H1 → H1 D = some (.dT kvs)) (hv : valV kvs k = some v) : EvV ρ (tIxU K ta tb) σ H v := fun H1 e1 Q q =>
  .inr (h1 H1 e1 _ fun u H2 e2 eu => h2 H2 (e1.trans e2) _ fun w H3 e3 ⟨p, ew, hp⟩ => by
    subst eu ew
    refine ⟨D, v, rfl, ?_, q v H3 (e2.trans e3) rfl⟩
    rw [← hv]
    exact DGet.t (hD H3 (e1.trans (e2.trans e3))) hp)
/-- a number among numbers -/
theorem ev_inI {i : Int} {es : List Int} (h1 : EvV ρ ta σ H (.int i)) (h2 : EvV ρ tb σ H (.ref a)) (hs : ∀ H1, ρ.r H H1 → SqA K H1 a (es.map V.int)) : EvV ρ (tOp (rInU K) ta tb) σ H (.bl (decide (i ∈ es))) :=
  ev_op h1 h2 (.const fun H1 e1 _ q => .inl ⟨a, es.map V.int, rfl, hs H1 e1, rfl, by
    rw [List.all_map, List.all_eq_true]
    exact fun _ _ => rfl, by
    have : inV (.int i) (es.map V.int) = decide (i ∈ es) := by
      show ((es.map V.int).any fun y => eqV y (.int i)) = _
      rw [List.any_map, Bool.eq_iff_iff, List.any_eq_true, decide_eq_true_eq]
      constructor
      · rintro ⟨j, hj, e⟩
        have e' : (j == i) = true := e
        rw [← eq_of_beq e']
        exact hj
      · intro h
        exact ⟨i, h, by show (i == i) = true; simp⟩
    show _
    rw [if_neg (by decide), this]
    exact q⟩)
end
/-! ### machines -/
structure Mac where
  n : Int
  es : List Int
  ms : List (Int × Nat × Int)
def mvD (m : Int × Nat × Int) : PyData := .tuple [.int m.1, .str ⟨#[m.2.1]⟩, .int m.2.2]
def macD (M : Mac) : PyData := .tuple [.int M.n, .tuple (M.es.map PyData.int), .tuple (M.ms.map mvD)]
def keyM (s : Int) (c : Nat) : List Key := [.inl s, .inr ⟨#[c]⟩]
def tabK (ms : List (Int × Nat × Int)) : List (List Key × V) := ms.map fun m => (keyM m.1 m.2.1, V.int m.2.2)
/-- where a move goes -/
def dl (ms : List (Int × Nat × Int)) (s : Int) (c : Nat) : Option Int := (ms.find? fun m => decide (m.1 = s ∧ m.2.1 = c)).map (·.2.2)
theorem keyM_inj {a s : Int} {b c : Nat} : keyM a b = keyM s c ↔ a = s ∧ b = c := by
  constructor
  · intro h
    injection h with h1 h2
    injection h1 with h1
    injection h2 with h2 _
    injection h2 with h2
    injection h2 with h2
    exact ⟨h1, by injection h2 with h2; injection h2⟩
  · rintro ⟨rfl, rfl⟩
    rfl
theorem dl_cons (m : Int × Nat × Int) (ms : List (Int × Nat × Int)) (s : Int) (c : Nat) : dl (m :: ms) s c = if m.1 = s ∧ m.2.1 = c then some m.2.2 else dl ms s c := by
  unfold dl
  rw [List.find?_cons]
  by_cases h : m.1 = s ∧ m.2.1 = c
  · rw [if_pos h]
    simp [h]
  · rw [if_neg h, decide_eq_false h]
theorem val_tab (ms : List (Int × Nat × Int)) (s : Int) (c : Nat) : valV (tabK ms) (keyM s c) = (dl ms s c).map V.int := by
  induction ms with
  | nil => rfl
  | cons m ms ih =>
    rw [dl_cons]
    by_cases h : m.1 = s ∧ m.2.1 = c
    · rw [if_pos h]
      exact valV_pos (p := (keyM m.1 m.2.1, V.int m.2.2)) (keyM_inj.mpr h)
    · rw [if_neg h, ← ih]
      exact valV_neg (p := (keyM m.1 m.2.1, V.int m.2.2)) fun e => h (keyM_inj.mp e)
theorem dl_none {ms : List (Int × Nat × Int)} {s : Int} {c : Nat} (h : ∀ m ∈ ms, ¬ (m.1 = s ∧ m.2.1 = c)) : dl ms s c = none := by
  induction ms with
  | nil => rfl
  | cons m ms ih => rw [dl_cons, if_neg (h m (List.mem_cons_self ..)), ih fun m' hm => h m' (List.mem_cons_of_mem _ hm)]
theorem dl_mem {ms : List (Int × Nat × Int)} {s t : Int} {c : Nat} (h : dl ms s c = some t) : (s, c, t) ∈ ms := by
  induction ms with
  | nil => cases h
  | cons m ms ih =>
    rw [dl_cons] at h
    by_cases z : m.1 = s ∧ m.2.1 = c
    · rw [if_pos z] at h
      obtain ⟨a, b, d⟩ := m
      cases h
      obtain ⟨rfl, rfl⟩ := z
      exact List.mem_cons_self ..
    · rw [if_neg z] at h
      exact List.mem_cons_of_mem _ (ih h)
/-- no two moves of a state and a letter -/
abbrev Keys (ms : List (Int × Nat × Int)) : Prop := ms.Pairwise fun p q => ¬ (p.1 = q.1 ∧ p.2.1 = q.2.1)
theorem dl_of {ms : List (Int × Nat × Int)} (hk : Keys ms) {s t : Int} {c : Nat} (h : (s, c, t) ∈ ms) : dl ms s c = some t := by
  induction ms with
  | nil => cases h
  | cons m ms ih =>
    rw [dl_cons]
    have hk' := List.pairwise_cons.mp hk
    rcases List.mem_cons.mp h with e | h
    · rw [← e]
      exact if_pos ⟨rfl, rfl⟩
    · rw [if_neg (hk'.1 _ h), ih hk'.2 h]
theorem tab_step {ms : List (Int × Nat × Int)} (hk : Keys ms) {i : Nat} {m : Int × Nat × Int} (h : ms[i]? = some m) : putK (tabK (ms.take i)) (keyM m.1 m.2.1) (.int m.2.2) = tabK (ms.take (i + 1)) := by
  obtain ⟨hi, e⟩ := List.getElem?_eq_some_iff.mp h
  have hn : dl (ms.take i) m.1 m.2.1 = none := dl_none fun p hp => by
    obtain ⟨j, hj, ej⟩ := List.mem_iff_getElem.mp hp
    rw [List.length_take] at hj
    have hj' : j < i := by omega
    have := List.pairwise_iff_getElem.mp hk j i (by omega) hi hj'
    rw [List.getElem_take] at ej
    rw [ej, e] at this
    exact this
  rw [putK_new _ (by rw [val_tab, hn]; rfl), List.take_add_one, h]
  unfold tabK
  rw [List.map_append]
  rfl
theorem tab_len (ms : List (Int × Nat × Int)) : (tabK ms).length = ms.length := List.length_map _
/-- where a word leads -/
def run (ms : List (Int × Nat × Int)) (s : Int) : List Nat → Option Int
  | [] => some s
  | c :: w => (dl ms s c).bind fun t => run ms t w
def tellsM (M : Mac) (w : List Nat) : Bool := match run M.ms 0 w with
  | some s => decide (s ∈ M.es)
  | none => false
theorem run_snoc (ms : List (Int × Nat × Int)) (c : Nat) : ∀ (w : List Nat) (s : Int), run ms s (w ++ [c]) = (run ms s w).bind fun t => dl ms t c
  | [], s => by
    show (dl ms s c).bind (fun t => some t) = dl ms s c
    cases dl ms s c <;> rfl
  | d :: w, s => by
    show (dl ms s d).bind (fun t => run ms t (w ++ [c])) = ((dl ms s d).bind fun t => run ms t w).bind fun t => dl ms t c
    cases h : dl ms s d with
    | none => rfl
    | some t => exact run_snoc ms c w t
theorem run_none (ms : List (Int × Nat × Int)) (w2 : List Nat) : ∀ (w : List Nat) (s : Int), run ms s w = none → run ms s (w ++ w2) = none
  | [], s, h => by cases h
  | d :: w, s, h => by
    have h' : ((dl ms s d).bind fun t => run ms t w) = none := h
    show ((dl ms s d).bind fun t => run ms t (w ++ w2)) = none
    cases q : dl ms s d with
    | none => rfl
    | some t =>
      rw [q] at h'
      exact run_none ms w2 w t h'
/-! ### all is well -/
def sp_check_arguments (K : Frag) : Sp := fun vs H Q _ => ∃ (a : Addr) (n : Nat), vs = [.ref a] ∧ SqL K H a (List.replicate n (.bl true)) ∧ ∀ H', Ext H H' → Q .non H'
theorem len_check_arguments {K : Frag} {vs : List V} {H : Hp} {Q : VK} {E : XK} (h : sp_check_arguments K vs H Q E) : vs.length = 1 := by
  obtain ⟨a, n, rfl, _⟩ := h
  rfl
def t_check_arguments (K : Frag) : TS := (tFor (iEnum K (tCons (tVar 0) tNil)) (gSeq K 2 (gCons (gName 1) (gCons (gName 2) gNil))) (tIfS (tNot (tTru K (tVar 2))) tNever tNext))
theorem pure_check_arguments {K : Frag} (vs : List V) (H : Hp) (Q : VK) (E : XK) (h : sp_check_arguments K vs H Q E) : t_check_arguments K { nx := fun _ H' => Q .non H', rt := Q } (start ["fits", "at", "fit"] vs) H := by
  obtain ⟨a, n, rfl, hq, k⟩ := h
  have sq : ∀ H1, exR.r H H1 → SqL K H1 a (List.replicate n (.bl true)) := fun H1 e => ext_sqL e.ext hq
  refine s_for (ρ := exR) (n := (List.replicate n (V.bl true)).length) (Y := YPair (fun i => some (.int (i : Nat))) fun i => (List.replicate n (V.bl true))[i]?) (fun H1 e1 R kk => ea_cons (ρ := exR) (ev_var rfl) ea_nil H1 e1 _ fun vs H2 e2 ev => ⟨a, _, ev, sq H2 (e1.trans e2), kk _ H2 e2 (walk_enum.mono (fun H3 e3 => sq H3 ((e1.trans e2).trans e3)) fun _ _ _ _ _ _ y => y)⟩) fun H1 e1 => ⟨fun i σ' H' => exR.r H1 H' ∧ ∃ u w, σ' = [some (.ref a), u, w], ⟨.rfl, _, _, rfl⟩, fun i σ' H' _ p => p.1, ?_, ?_⟩
  · rintro i x σ' H' H'' hi ⟨r, u, w, rfl⟩ ⟨T, x1, y1, rfl, hT, rfl, e1', e2'⟩
    have ey : y1 = .bl true := by
      have e2'' : (List.replicate n (V.bl true))[i]? = some y1 := e2'
      rw [List.getElem?_replicate] at e2''
      split at e2''
      · cases e2''; rfl
      · cases e2''
    cases e1'
    subst ey
    refine g_seq2 (.inr (.inl (.inl upd_same))) ?_
    exact s_if (ρ := exR) (b := false) ((et_not (et_tru (ev_var (v := .bl true) rfl))).to rfl) (fun hb => by cases hb) fun _ H3 e3 => ⟨r.trans ((r_new _ hT).trans e3), _, _, rfl⟩
  · rintro σ' H' ⟨r, u, w, rfl⟩
    exact k H' (e1.trans r).ext
/-! ### the moves as a dict -/
section
variable {ρ : Rl} {K : Frag} {σ : L2.St} {H : Hp} {wi : TI} {g : TG} {tk tv : TE} {vs : List Nat} {n : Nat} {Y : Nat → Hp → V → Hp → Prop} {tab : Nat → List (List Key × V)} {ky : Nat → List Key} {z : Nat → V}
theorem ev_dcT (own : Own ρ H) (hI : EvI ρ wi σ H n Y) (h0 : tab 0 = []) (hl : ∀ i, i ≤ n → (tab i).length < 90000) (hp : ∀ i, i < n → putK (tab i) (ky i) (z i) = tab (i + 1))
    (hs : ∀ D H1, ρ.r H H1 → H1 D = none → ∀ i x H2 H3, i < n → ρ.r H1 H2 → Y i H2 x H3 → ∀ cont : L2.St → Hp → Prop,
      (∀ σ2 H4, wipe σ2 vs = wipe σ vs → ρ.r H2 H4 → Ev ρ tk σ2 H4 (fun y H5 => ∃ b, y = .ref b ∧ H5 b = some (.tup ((ky i).map kV))) → (∀ H5, ρ.r H4 H5 → EvV ρ tv σ2 H5 (z i)) → cont σ2 H4) → g x (wipe σ vs) H3 cont) :
    Ev ρ (tDcT wi g tYes tk tv vs) σ H (fun v H2 => ∃ D, v = .ref D ∧ ¬ ρ.S D ∧ H D = none ∧ H2 D = some (.dT (tab n))) := fun H0 e0 Q q =>
  hI H0 e0 _ fun J H1 e1 w D hD => by
    have e01 := e0.trans e1
    have nS : ¬ ρ.S D := (own.r e01).fresh hD
    refine ⟨fun i m H' => m = n - i ∧ i ≤ n ∧ ρ.r H1 H' ∧ H' D = some (.dT (tab i)), ⟨n, by simp, Nat.zero_le _, r_new _ hD, by rw [upd_same, h0]⟩, ?_⟩
    rintro i m H' ⟨rfl, hi, r, hx⟩
    by_cases hlt : i < n
    · refine .inr ⟨w.goes i H' hlt r, fun H2 => ρ.r H1 H2 ∧ H2 D = some (.dT (tab (i + 1))), fun H2 h2 => ⟨n - (i + 1), by omega, rfl, hlt, h2.1, h2.2⟩, fun x H3 y => ?_⟩
      refine hs D H1 e01 hD i x H' H3 hlt r (w.yields i H' x H3 hlt r y) _ fun σ2 H4 hw r4 hk hv => ⟨hw, ?_⟩
      show tk σ2 H4 _
      refine hk H4 .rfl _ fun u H5 r5 ⟨b, eu, hb⟩ => hv H5 r5 H5 .rfl _ fun u2 H6 r6 eu2 => ?_
      subst eu2
      have r16 := r4.trans (r5.trans r6)
      have h6 : H6 D = some (.dT (tab i)) := r16.keep _ _ nS hx
      refine ⟨tab i, ky i, b, eu, r6.tup _ _ hb, h6, Evl.sz_lt (by have := hl i hi; omega), r_mut (r.trans r16) hD, ?_⟩
      rw [upd_same, hp i hlt]
    · have ei : i = n := by omega
      subst ei
      exact .inl ⟨w.stops H' r, q _ H' (e1.trans r) ⟨D, rfl, nS, e01.back D hD, hx⟩⟩
end
/-- lists or tuples, as the moves are told -/
theorem mixed_items {d : PyData} {ds : List PyData} (h : tupD d = .tuple ds) : isSeqD d = true ∧ (itemsD d).map tupD = ds := by
  have h1 : isSeqD (tupD d) = true := by rw [h]; rfl
  rw [seq_tupD] at h1
  refine ⟨h1, ?_⟩
  rw [← items_tupD, h]
  rfl
theorem mixed_move {d : PyData} {m : Int × Nat × Int} (h : tupD d = mvD m) : isSeqD d = true ∧ itemsD d = [.int m.1, .str ⟨#[m.2.1]⟩, .int m.2.2] := by
  obtain ⟨h1, h2⟩ := mixed_items h
  refine ⟨h1, ?_⟩
  obtain ⟨a, b, c, e⟩ := three (show (itemsD d).length = 3 by have := congrArg List.length h2; rwa [List.length_map] at this)
  rw [e] at h2 ⊢
  have h3 : [tupD a, tupD b, tupD c] = [.int m.1, .str ⟨#[m.2.1]⟩, .int m.2.2] := h2
  injection h3 with ha h3
  injection h3 with hb h3
  injection h3 with hc h3
  have e1 : a = .int m.1 := by cases a <;> first | exact ha | cases ha
  have e2 : b = .str ⟨#[m.2.1]⟩ := by cases b <;> first | exact hb | cases hb
  have e3 : c = .int m.2.2 := by cases c <;> first | exact hc | cases hc
  rw [e1, e2, e3]
theorem mixed_get {ds : List PyData} {α : Type} {ms : List α} {f : α → PyData} (h : ds.map tupD = ms.map f) {i : Nat} {d : PyData} (hd : ds[i]? = some d) : ∃ m, ms[i]? = some m ∧ tupD d = f m := by
  have h2 := congrArg (fun l => l[i]?) h
  have h3 : (ds.map tupD)[i]? = (ms.map f)[i]? := h2
  rw [List.getElem?_map, List.getElem?_map, hd] at h3
  cases q : ms[i]? with
  | none => rw [q] at h3; cases h3
  | some m =>
    rw [q] at h3
    exact ⟨m, rfl, Option.some.inj h3⟩
def sp_steps_of (K : Frag) : Sp := fun vs H Q _ => ∃ (v : V) (d : PyData) (ms : List (Int × Nat × Int)), vs = [v] ∧ DS exR H v d ∧ tupD d = .tuple (ms.map mvD) ∧ Keys ms ∧ ms.length ≤ 1000 ∧ ∀ D H', H D = none → Ext H H' → H' D = some (.dT (tabK ms)) → Q (.ref D) H'
def sp__law_moves (K : Frag) : Sp := fun vs H Q _ => ∃ (v : V) (M : Mac), vs = [v] ∧ DS exR H v (macD M) ∧ Keys M.ms ∧ M.ms.length ≤ 1000 ∧ ∀ D H', H D = none → Ext H H' → H' D = some (.dT (tabK M.ms)) → Q (.ref D) H'
theorem len_steps_of {K : Frag} {vs : List V} {H : Hp} {Q : VK} {E : XK} (h : sp_steps_of K vs H Q E) : vs.length = 1 := by
  obtain ⟨v, d, ms, rfl, _⟩ := h
  rfl
theorem len__law_moves {K : Frag} {vs : List V} {H : Hp} {Q : VK} {E : XK} (h : sp__law_moves K vs H Q E) : vs.length = 1 := by
  obtain ⟨v, M, rfl, _⟩ := h
  rfl
def t_steps_of (K : Frag) : TS := (tRet (tDcT (iSeq K (tVar 0)) (gSeq K 3 (gCons (gName 1) (gCons (gName 2) (gCons (gName 3) gNil)))) tYes (tTup (tCons (tVar 1) (tCons (tVar 2) tNil))) (tVar 3) [1, 2, 3]))
def t__law_moves (K : Frag) : TS := (tSeq (tAsg tDNewT (gName 1)) (tSeq (tFor (iSeq K (tIxU K (tVar 0) (tC (.int 2)))) (gName 2) (tAsg (tIxU K (tVar 2) (tC (.int 2))) (gSub (tVar 1) (tSl (rSlU K) (tVar 2) tNoPart (tPart (tC (.int 2)))) (rSetU K)))) (tRet (tVar 1))))
theorem pure_steps_of {K : Frag} (vs : List V) (H : Hp) (Q : VK) (E : XK) (h : sp_steps_of K vs H Q E) : t_steps_of K { nx := fun _ H' => Q .non H', rt := Q } (start ["moves", "state", "letter", "behind"] vs) H := by
  obtain ⟨v, d, ms, rfl, hd, hm, hk, hl, k⟩ := h
  obtain ⟨hq, him⟩ := mixed_items hm
  obtain ⟨a, xs, rfl, ha, hsq, hsq2⟩ := hd.seqd hq
  have hlen := ha.length
  have hlm : (itemsD d).length = ms.length := by
    have := congrArg List.length him
    rwa [List.length_map, List.length_map] at this
  have at_ : ∀ (i : Nat) x, xs[i]? = some x → ∃ m d1, ms[i]? = some m ∧ DS exR H x d1 ∧ tupD d1 = mvD m := fun i x hx => by
    obtain ⟨d1, g1, g2⟩ := ha.get hx
    obtain ⟨m, g3, g4⟩ := mixed_get him g1
    exact ⟨m, d1, g3, g2, g4⟩
  refine s_ret (ρ := exR) (ev_dcT (n := xs.length) (tab := fun i => tabK (ms.take i)) (ky := fun i => match ms[i]? with | some m => keyM m.1 m.2.1 | none => []) (z := fun i => match ms[i]? with | some m => .int m.2.2 | none => .non) own_ex (ei_seq (ev_var rfl) (fun H1 e1 => hsq K H1 e1) (hsq2.imp (fun f H1 e1 => f K H1 e1) fun f H1 e1 => f K H1 e1)) rfl (fun i hi => ?_) (fun i hi => ?_) ?_) fun v H1 e1 ⟨D, ev, _, hD, hT⟩ => ?_
  · rw [tab_len, List.length_take]
    omega
  · have hi' : i < ms.length := by omega
    have := tab_step hk (List.getElem?_eq_getElem hi')
    simp only [List.getElem?_eq_getElem hi']
    exact this
  · rintro D H1 e1 hD i x H2 H3 hi e2 ⟨e3, hx⟩ cont hc
    subst e3
    obtain ⟨m, d1, g1, g2, g3⟩ := at_ i x hx
    obtain ⟨q1, q2⟩ := mixed_move g3
    have g4 : DS exR H3 x d1 := (e1.trans e2).ds g2
    obtain ⟨b, ys, rfl, hb3, hb4, _⟩ := g4.seqd q1
    rw [q2] at hb3
    obtain ⟨y1, y2, y3, rfl, c1, c2, c3⟩ := hb3.three
    cases c1
    cases c2
    cases c3
    refine g_seq3 (hb4 K H3 .rfl) (hc _ _ rfl .rfl ?_ fun H5 _ => ?_)
    · simp only [g1]
      exact ev_keyT (ev_var rfl) (ev_var rfl)
    · simp only [g1]
      exact ev_var rfl
  · subst ev
    have : ms.take xs.length = ms := List.take_of_length_le (by omega)
    simp only [this] at hT
    exact k D H1 hD e1.ext hT
theorem pure__law_moves {K : Frag} (vs : List V) (H : Hp) (Q : VK) (E : XK) (h : sp__law_moves K vs H Q E) : t__law_moves K { nx := fun _ H' => Q .non H', rt := Q } (start ["machine", "made", "one"] vs) H := by
  obtain ⟨v, M, rfl, hd, hk, hl, k⟩ := h
  obtain ⟨a, xs, rfl, hx, hA, hsq⟩ := (show DS exR H v (.tuple [.int M.n, .tuple (M.es.map PyData.int), .tuple (M.ms.map mvD)]) from hd).tupl
  obtain ⟨x, y, z, rfl, c1, c2, c3⟩ := hx.three
  obtain ⟨b, ys, rfl, hy, hB, hsb⟩ := (show DS exR H z (.tuple (M.ms.map mvD)) from c3).tupl
  have hly : ys.length = M.ms.length := by rw [hy.length, List.length_map]
  refine q_asg (ρ := exR) (R := fun v H' => ∃ D, v = .ref D ∧ H D = none ∧ H' D = some (.dT [])) (fun H1 e1 Q q p hp => q _ _ (r_new _ hp) ⟨p, rfl, e1.back p hp, upd_same⟩) fun v H1 e1 ⟨D, ev, hD0, hD⟩ => ?_
  subst ev
  have own1 : Own (exR.and D) H1 := own_ex.and (ρ := exR) (H := H) e1 (by rw [hD]; exact Option.some_ne_none _)
  refine q_forw (ρ := exR) (ρw := exR.and D) (n := ys.length) (Y := YAt ys) (fun H2 e2 R kk => .inr (.inl (ev_ix (ρ := exR) (K := K) (n := 2) (ev_var (v := .ref a) rfl) (ev_c (v := .int 2)) (fun H3 e3 => .inr (hsq K exR H3 (e1.trans e3))) rfl rfl H2 e2 _ fun v H3 e3 ev => ⟨b, ev, ⟨ys, hsb K exR H3 (e1.trans (e2.trans e3))⟩, kk _ H3 e3 (walk_tup.mono (fun H4 e4 => e4.sqT (hsb K exR H3 (e1.trans (e2.trans e3)))) fun _ _ _ _ _ _ y => y)⟩))) fun H2 e2 => ⟨fun i σ' H' => (exR.and D).r H2 H' ∧ (∃ ov, σ' = [some (.ref a), some (.ref D), ov]) ∧ H' D = some (.dT (tabK (M.ms.take i))), ⟨.rfl, ⟨_, rfl⟩, e2.ext _ _ hD⟩, fun i σ' H' _ p => p.1, ?_, ?_⟩
  · rintro i x σ' H' H'' hi ⟨r, ⟨ov, rfl⟩, hx⟩ ⟨e5, hxi⟩
    subst e5
    have rH : exR.r H H'' := r_and (e1.trans e2) hD0 r
    obtain ⟨d1, g1, g2⟩ := hy.get hxi
    rw [List.getElem?_map] at g1
    obtain ⟨m, gm, rfl⟩ : ∃ m, M.ms[i]? = some m ∧ d1 = mvD m := by
      cases q : M.ms[i]? with
      | none => rw [q] at g1; cases g1
      | some m => rw [q] at g1; exact ⟨m, rfl, (Option.some.inj g1).symm⟩
    have g3 : DS exR H'' x (.tuple [.int m.1, .str ⟨#[m.2.1]⟩, .int m.2.2]) := rH.ds g2
    obtain ⟨c, zs, rfl, hz, hC, hsc⟩ := g3.tupl
    obtain ⟨z1, z2, z3, rfl, f1, f2, f3⟩ := hz.three
    cases f1
    cases f2
    cases f3
    have sC : ∀ H6, exR.r H'' H6 → SqA K H6 c [.int m.1, .str ⟨#[m.2.1]⟩, .int m.2.2] := fun H6 e => .inr (hsc K exR H6 e)
    refine ev_ix (ρ := exR) (K := K) (n := 2) (σ := [some (.ref a), some (.ref D), some (.ref c)]) (ev_var rfl) ev_c sC rfl rfl H'' .rfl _ fun u H6 e6 eu => ?_
    subst eu
    refine ev_var (ρ := exR) (v := .ref D) rfl H6 .rfl _ fun o H7 e7 eo => ?_
    subst eo
    have e67 := e6.trans e7
    refine ev_slD (ρ := exR) (ρf := exR) Le.rfl (ev_var (v := .ref c) rfl) eo_none (eo_some ev_c) (e67.ds g3) H7 .rfl _ fun u H8 e8 hu => ?_
    have hu' : DS exR H8 u (.tuple [.int m.1, .str ⟨#[m.2.1]⟩]) := hu
    obtain ⟨q, qs, rfl, hqs, hQ, _⟩ := hu'.tupl
    obtain ⟨w1, w2, rfl, f1, f2⟩ := hqs.two
    cases f1
    cases f2
    have e68 := e67.trans e8
    have hD8 : H8 D = some (.dT (tabK (M.ms.take i))) := e68.ext _ _ hx
    refine .inr ⟨D, _, rfl, DPut.t (k := keyM m.1 m.2.1) hD8 hQ (Evl.sz_lt (by rw [tab_len, List.length_take]; omega)), (r.trans (and_of e68)).trans (r_chgT hD8 fun z => z), ⟨_, rfl⟩, ?_⟩
    rw [upd_same, tab_step hk gm]
  · rintro σ' H' ⟨r, ⟨ov, rfl⟩, hx⟩
    have rH : exR.r H H' := r_and (e1.trans e2) hD0 r
    have : M.ms.take ys.length = M.ms := List.take_of_length_le (by omega)
    rw [this] at hx
    exact s_retV (ρ := exR) (ev_var rfl) fun H3 e3 => k D H3 hD0 (rH.trans e3).ext (e3.ext _ _ hx)
end Slip
/-! while loops; objects that change beside one another; dicts by pairs -/
namespace Slip
open PySem PySem.Spec PyProof.Rows L2
theorem s_while {ρ : Rl} {c : TT} {tu : TS} {D : Ends} {σ : L2.St} {H : Hp} (W : Nat → L2.St → Hp → Prop) (h0 : ∃ m, W m σ H) (hs : ∀ m σ H, W m σ H → ∃ b, EvT ρ c σ H b ∧ (b = true → ∀ H1, ρ.r H H1 → tu { D with nx := fun σ' H' => ∃ m', m' < m ∧ W m' σ' H', ct := fun σ' H' => ∃ m', m' < m ∧ W m' σ' H', bk := D.nx } σ H1) ∧ (b = false → ∀ H1, ρ.r H H1 → D.nx σ H1)) : tWhile c tu D σ H := by
  refine ⟨W, h0, fun m σ H w => ?_⟩
  obtain ⟨b, h1, h2, h3⟩ := hs m σ H w
  refine h1 H .rfl _ fun H1 e => ?_
  cases b with
  | true => exact ⟨_, fun _ _ z => z, h2 rfl H1 e⟩
  | false => exact h3 rfl H1 e
theorem q_while {ρ : Rl} {c : TT} {tu tz : TS} {D : Ends} {σ : L2.St} {H : Hp} (W : Nat → L2.St → Hp → Prop) (h0 : ∃ m, W m σ H) (hs : ∀ m σ H, W m σ H → ∃ b, EvT ρ c σ H b ∧ (b = true → ∀ H1, ρ.r H H1 → tu { D with nx := fun σ' H' => ∃ m', m' < m ∧ W m' σ' H', ct := fun σ' H' => ∃ m', m' < m ∧ W m' σ' H', bk := tz D } σ H1) ∧ (b = false → ∀ H1, ρ.r H H1 → tz D σ H1)) : tSeq (tWhile c tu) tz D σ H :=
  s_while (ρ := ρ) (D := { D with nx := tz D }) W h0 hs
theorem r_and2 {ρ : Rl} {T E : Addr} {H H1 H2 : Hp} (e : ρ.r H H1) (nT : H T = none) (nE : H E = none) (e2 : ((ρ.and T).and E).r H1 H2) : ρ.r H H2 := r_and .rfl nT (r_and (and_of e) nE e2)
theorem r_up {ρ : Rl} {B Wt : Addr} {H H' : Hp} (e : (ρ.and Wt).r H H') : ((ρ.and B).and Wt).r H H' := ⟨fun a o s h => e.keep a o (fun z => s (z.elim (fun z => .inl (.inl z)) .inr)) h, e.back, e.tup, e.frz, e.spot⟩
theorem r_two {D l : Addr} {H H' : Hp} (e : exR.r H H') : ((exR.and D).and l).r H H' := and_of (and_of e)
section
variable {ρ ρw : Rl} {K : Frag} {σ : L2.St} {H : Hp} {ta tb te ti : TE} {a P : Addr} {xs : List V} {kvs : List (List Key × V)} {k : List Key} {R : V → Hp → Prop} {D : Ends}
/-- the truth of a list -/
theorem et_truL (h : EvV ρ te σ H (.ref a)) (hs : ∀ H1, ρ.r H H1 → H1 a = some (.lst xs)) : EvT ρ (tTru K te) σ H (!xs.isEmpty) := fun H1 e Q q => h H1 e _ fun v H2 e2 hv => ⟨_, by
  rw [hv]
  exact .inl ⟨xs, .of (hs H2 (e.trans e2)), rfl⟩, q H2 e2⟩
/-- (i, j): a key -/
theorem ev_keyI2 {i j : Int} (h1 : EvV ρ ta σ H (.int i)) (h2 : EvV ρ tb σ H (.int j)) : Ev ρ (tTup (tCons ta (tCons tb tNil))) σ H (fun v H' => ∃ q, v = .ref q ∧ H' q = some (.tup (([.inl i, .inl j] : List Key).map kV))) :=
  (ev_tup (ea_cons h1 (ea_cons h2 ea_nil)) fun vs H1 _ e => by rw [e]; show 2 ≤ 100000; decide).imp fun v H2 _ ⟨p, vs, H1, ev, evs, hp, r1, eH⟩ => by
    subst ev evs
    exact ⟨p, rfl, by rw [eH]; exact upd_same⟩
theorem g_seq4 {x y z w : V} {i j l m : Nat} {Q : L2.St → Hp → Prop} (hs : SqA K H a [x, y, z, w]) (q : Q ((((σ.set i (some x)).set j (some y)).set l (some z)).set m (some w)) H) : gSeq K 4 (gCons (gName i) (gCons (gName j) (gCons (gName l) (gCons (gName m) gNil)))) (.ref a) σ H Q := by
  rcases hs with h | h
  · exact .inr ⟨a, _, rfl, h, rfl, x, _, rfl, y, _, rfl, z, _, rfl, w, _, rfl, rfl, q⟩
  · exact .inl ⟨a, _, rfl, h, rfl, x, _, rfl, y, _, rfl, z, _, rfl, w, _, rfl, rfl, q⟩
/-- d[i, j] = v -/
theorem s_putT (hv : Ev exR te σ H R) (ho : EvV exR ta σ H (.ref P)) (hi : Ev exR ti σ H (fun v H' => ∃ q, v = .ref q ∧ H' q = some (.tup (k.map kV)))) (hP : H P = some (.dT kvs)) (hl : kvs.length < 1000000)
    (cont : ∀ y H1 H2, exR.r H H1 → R y H1 → exR.r H1 H2 → H2 P = some (.dT kvs) → D.nx σ (upd H2 P (.dT (putK kvs k y)))) : tAsg te (gSub ta ti (rSetU K)) D σ H := hv H .rfl _ fun v H1 e1 ev =>
  ho H1 e1 _ fun o H2 e2 eo => by
    subst eo
    exact hi H2 (e1.trans e2) _ fun w H3 e3 ⟨q, ew, hq⟩ => by
      subst ew
      have e := e1.trans (e2.trans e3)
      exact .inr ⟨P, _, rfl, .inr ⟨kvs, k, q, e.ext _ _ hP, rfl, hq, Nat.lt_of_lt_of_le hl (by decide), rfl⟩, cont v H1 H3 e1 ev (e2.trans e3) (e.ext _ _ hP)⟩
/-- a list that stays -/
theorem ew_seq (le : ∀ H1 H2, ρ.r H1 H2 → ρw.r H1 H2) (h : EvV ρ te σ H (.ref a)) (hs : ∀ H1, ρw.r H H1 → SqL K H1 a xs) : EvW ρ ρw (iSeq K te) σ H xs.length (YAt xs) := fun H1 e1 R k =>
  .inl (h H1 e1 _ fun v H2 e2 hv => ⟨a, hv, ⟨xs, hs H2 (le _ _ (e1.trans e2))⟩, k _ H2 e2 (walk_list.mono (fun H3 e3 => hs H3 ((le _ _ (e1.trans e2)).trans e3)) fun _ _ _ _ _ _ y => y)⟩)
end
end Slip
/-! words told -/
namespace Slip
open PySem PySem.Spec PyProof.Rows L2
theorem ints_of {A : Addr → Prop} {H : Hp} : ∀ {xs : List V} {es : List Int}, DqAll A H xs (es.map PyData.int) → xs = es.map V.int
  | [], [], _ => rfl
  | [], _ :: _, h => by cases h
  | _ :: _, [], h => by cases h
  | x :: xs, e :: es, h => by
    cases h with | cons h1 h2 =>
      cases h1
      rw [ints_of h2]
      rfl
theorem mixed_ints : ∀ {ds : List PyData} {es : List Int}, ds.map tupD = es.map PyData.int → ds = es.map PyData.int
  | [], [], _ => rfl
  | [], _ :: _, h => by cases h
  | _ :: _, [], h => by cases h
  | d :: ds, e :: es, h => by
    have h' : tupD d :: ds.map tupD = PyData.int e :: es.map PyData.int := h
    injection h' with h1 h2
    have e1 : d = .int e := by cases d <;> first | exact h1 | cases h1
    rw [e1, mixed_ints h2]
    rfl
/-- a machine in the heap, lists or tuples -/
structure MacAt (K : Frag) (ρ : Rl) (H : Hp) (a : Addr) (M : Mac) : Prop where
  ex : ∃ (ea : Addr) (mv : V) (md : PyData), (∀ H1, ρ.r H H1 → SqA K H1 a [.int M.n, .ref ea, mv]) ∧ (∀ H1, ρ.r H H1 → SqA K H1 ea (M.es.map V.int)) ∧ DS ρ H mv md ∧ tupD md = .tuple (M.ms.map mvD)
theorem MacAt.of {K : Frag} {ρ : Rl} {H : Hp} {v : V} {d : PyData} {M : Mac} (hd : DS ρ H v d) (hm : tupD d = macD M) : ∃ a, v = .ref a ∧ MacAt K ρ H a M := by
  obtain ⟨hq, him⟩ := mixed_items (ds := [.int M.n, .tuple (M.es.map PyData.int), .tuple (M.ms.map mvD)]) hm
  obtain ⟨a, xs, rfl, ha, hsq, _⟩ := hd.seqd hq
  obtain ⟨c, e, m, he⟩ := three (show (itemsD d).length = 3 by have := congrArg List.length him; rwa [List.length_map] at this)
  rw [he] at him ha
  have h3 : [tupD c, tupD e, tupD m] = [.int M.n, .tuple (M.es.map PyData.int), .tuple (M.ms.map mvD)] := him
  injection h3 with h1 h3
  injection h3 with h2 h3
  injection h3 with h3 _
  have e1 : c = .int M.n := by cases c <;> first | exact h1 | cases h1
  subst e1
  obtain ⟨x, y, z, rfl, c1, c2, c3⟩ := ha.three
  cases c1
  obtain ⟨q1, q2⟩ := mixed_items h2
  obtain ⟨ea, ys, rfl, hy, hsy, _⟩ := (show DS ρ H y e from c2).seqd q1
  rw [mixed_ints q2] at hy
  have := ints_of hy
  subst this
  exact ⟨a, rfl, ⟨ea, z, m, fun H1 e => hsq K H1 e, fun H1 e => hsy K H1 e, c3, h3⟩⟩
/-- a number or None -/
def optI : Option Int → V
  | some i => .int i
  | none => .non
theorem ev_inO {ρ : Rl} {K : Frag} {σ : L2.St} {H : Hp} {ta tb : TE} {a : Addr} {M : Mac} {r : Option Int} {w : List Nat} (h1 : EvV ρ ta σ H (optI (run M.ms 0 w))) (h2 : EvV ρ tb σ H (.ref a)) (hs : ∀ H1, ρ.r H H1 → SqA K H1 a (M.es.map V.int)) : EvV ρ (tOp (rInU K) ta tb) σ H (.bl (tellsM M w)) := by
  unfold tellsM
  cases q : run M.ms 0 w with
  | some i =>
    rw [q] at h1
    exact ev_inI h1 h2 hs
  | none =>
    rw [q] at h1
    refine ev_op h1 h2 (.const fun H1 e1 _ q => .inl ⟨a, M.es.map V.int, rfl, hs H1 e1, rfl, by
      rw [List.all_map, List.all_eq_true]
      exact fun _ _ => rfl, ?_⟩)
    have : inV (optI none) (M.es.map V.int) = false := by
      show ((M.es.map V.int).any fun y => eqV y V.non) = _
      rw [List.any_map, Bool.eq_false_iff, Ne, List.any_eq_true]
      rintro ⟨j, hj, e⟩
      cases e
    show _
    rw [if_neg (by decide), this]
    exact q
/-- the walk along a word, as program and law write it -/
theorem told_rest {K : Frag} {Q : VK} {a D : Addr} {w : Str} {M : Mac} {H : Hp} {u1 u2 : Option V} (hM : MacAt K exR H a M) (hD : H D = some (.dT (tabK M.ms))) (k : ∀ H', Ext H H' → Q (.bl (tellsM M w.cps.toList)) H') :
    (tSeq (tAsg (tC (.int 0)) (gName 3)) (tSeq (tFor (iSeq K (tVar 1)) (gName 4) (tSeq (tIfS (tTest (tOp (rNotInU K) (tTup (tCons (tVar 3) (tCons (tVar 4) tNil))) (tVar 2))) (tRet (tC (.bl false))) tNext) (tAsg (tIxU K (tVar 2) (tTup (tCons (tVar 3) (tCons (tVar 4) tNil)))) (gName 3)))) (tRet (tOp (rInU K) (tVar 3) (tIxU K (tVar 0) (tC (.int 1))))))) { nx := fun _ H' => Q .non H', rt := Q } [some (.ref a), some (.str w), some (.ref D), u1, u2] H := by
  obtain ⟨ea, mv, md, sA, sE, _, _⟩ := hM.ex
  have hz : w.cps.size = w.cps.toList.length := by simp
  refine q_asgV (ρ := exR) ev_c fun H1 e1 => ?_
  refine q_for (ρ := exR) (n := w.cps.size) (ei_str (ev_var rfl)) fun H2 e2 => ⟨fun i σ' H' => exR.r H2 H' ∧ ∃ (st : Int) (l : Option V), σ' = [some (.ref a), some (.str w), some (.ref D), some (.int st), l] ∧ run M.ms 0 (w.cps.toList.take i) = some st, ⟨.rfl, 0, _, rfl, rfl⟩, fun i σ' H' _ p => p.1, ?_, ?_⟩
  · rintro i x σ' H' H'' hi ⟨r, st, l, rfl, hrun⟩ ⟨e5, c, hc, rfl⟩
    subst e5
    have r0 : exR.r H H'' := e1.trans (e2.trans r)
    have hD' : ∀ H3, exR.r H'' H3 → H3 D = some (.dT (tabK M.ms)) := fun H3 e => (r0.trans e).ext _ _ hD
    have hc2 : w.cps.toList[i]? = some c := by rw [← hc]; simp
    have htake : w.cps.toList.take (i + 1) = w.cps.toList.take i ++ [c] := by rw [List.take_add_one, hc2]; rfl
    have hval := val_tab M.ms st c
    refine q_when (ρ := exR) (et_test (ev_notInT (k := keyM st c) (ev_keyT (ev_var rfl) (ev_var rfl)) (ev_var rfl) hD')) (fun hb H3 e3 => s_retV (ρ := exR) ev_c fun H4 e4 => ?_) (fun hb H3 e3 => ?_)
    · have hnone : dl M.ms st c = none := by
        rw [hval] at hb
        cases q : dl M.ms st c with
        | none => rfl
        | some t => rw [q] at hb; cases hb
      have hr : run M.ms 0 w.cps.toList = none := by
        rw [← List.take_append_drop (i + 1) w.cps.toList]
        refine run_none _ _ _ _ ?_
        rw [htake, run_snoc, hrun]
        exact hnone
      have e0 : tellsM M w.cps.toList = false := by unfold tellsM; rw [hr]
      rw [e0] at k
      exact k H4 (r0.trans (e3.trans e4)).ext
    · obtain ⟨t, ht⟩ : ∃ t, dl M.ms st c = some t := by
        rw [hval] at hb
        cases q : dl M.ms st c with
        | none => rw [q] at hb; cases hb
        | some t => exact ⟨t, rfl⟩
      refine s_asgV (ρ := exR) (ev_getT (k := keyM st c) (v := .int t) (ev_var rfl) (ev_keyT (ev_var rfl) (ev_var rfl)) (fun H4 e4 => hD' H4 (e3.trans e4)) (by rw [hval, ht]; rfl)) fun H4 e4 => ⟨r.trans (e3.trans e4), t, _, rfl, ?_⟩
      rw [htake, run_snoc, hrun]
      exact ht
  · rintro σ' H' ⟨r, st, l, rfl, hrun⟩
    have r0 : exR.r H H' := e1.trans (e2.trans r)
    rw [hz, List.take_length] at hrun
    have e0 : tellsM M w.cps.toList = decide (st ∈ M.es) := by unfold tellsM; rw [hrun]
    rw [e0] at k
    exact s_retV (ρ := exR) (ev_inI (ev_var rfl) (ev_ix (n := 1) (ev_var rfl) ev_c (fun H3 e3 => sA H3 (r0.trans e3)) rfl rfl) (fun H3 e3 => sE H3 (r0.trans e3))) fun H3 e3 => k H3 (r0.trans e3).ext
def sp_tells (K : Frag) : Sp := fun vs H Q _ => ∃ (v : V) (w : Str) (d : PyData) (M : Mac), vs = [v, .str w] ∧ DS exR H v d ∧ tupD d = macD M ∧ isMachineD d = true ∧ sm d = true ∧ isWordD (.str w) = true ∧ w.length ≤ 1000 ∧ Keys M.ms ∧ M.ms.length ≤ 1000 ∧ ∀ H', Ext H H' → Q (.bl (tellsM M w.cps.toList)) H'
def sp__law_tells (K : Frag) : Sp := fun vs H Q _ => ∃ (v : V) (w : Str) (M : Mac), vs = [v, .str w] ∧ DS exR H v (macD M) ∧ Keys M.ms ∧ M.ms.length ≤ 1000 ∧ ∀ H', Ext H H' → Q (.bl (tellsM M w.cps.toList)) H'
theorem len_tells {K : Frag} {vs : List V} {H : Hp} {Q : VK} {E : XK} (h : sp_tells K vs H Q E) : vs.length = 2 := by
  obtain ⟨v, w, d, M, rfl, _⟩ := h
  rfl
theorem len__law_tells {K : Frag} {vs : List V} {H : Hp} {Q : VK} {E : XK} (h : sp__law_tells K vs H Q E) : vs.length = 2 := by
  obtain ⟨v, w, M, rfl, _⟩ := h
  rfl
def sp_walked (K : Frag) : Sp := fun vs H Q _ => ∃ (D : Addr) (ms : List (Int × Nat × Int)) (st : Int) (w : Str), vs = [.ref D, .int st, .str w] ∧ H D = some (.dT (tabK ms)) ∧ ∀ H', Ext H H' → Q (optI (run ms st w.cps.toList)) H'
theorem len_walked {K : Frag} {vs : List V} {H : Hp} {Q : VK} {E : XK} (h : sp_walked K vs H Q E) : vs.length = 3 := by
  obtain ⟨D, ms, st, w, rfl, _⟩ := h
  rfl
def t_walked (K : Frag) : TS := (tSeq (tFor (iSeq K (tVar 2)) (gName 3) (tSeq (tIfS (tTest (tOp (rNotInU K) (tTup (tCons (tVar 1) (tCons (tVar 3) tNil))) (tVar 0))) (tRet (tC .non)) tNext) (tAsg (tIxU K (tVar 0) (tTup (tCons (tVar 1) (tCons (tVar 3) tNil)))) (gName 1)))) (tRet (tVar 1)))
theorem pure_walked {K : Frag} (vs : List V) (H : Hp) (Q : VK) (E : XK) (h : sp_walked K vs H Q E) : t_walked K { nx := fun _ H' => Q .non H', rt := Q } (start ["steps", "state", "word", "letter"] vs) H := by
  obtain ⟨D, ms, st0, w, rfl, hD, k⟩ := h
  have hz : w.cps.size = w.cps.toList.length := by simp
  refine q_for (ρ := exR) (n := w.cps.size) (ei_str (ev_var rfl)) fun H2 e2 => ⟨fun i σ' H' => exR.r H2 H' ∧ ∃ (st : Int) (l : Option V), σ' = [some (.ref D), some (.int st), some (.str w), l] ∧ run ms st0 (w.cps.toList.take i) = some st, ⟨.rfl, st0, _, rfl, rfl⟩, fun i σ' H' _ p => p.1, ?_, ?_⟩
  · rintro i x σ' H' H'' hi ⟨r, st, l, rfl, hrun⟩ ⟨e5, c, hc, rfl⟩
    subst e5
    have r0 : exR.r H H'' := e2.trans r
    have hD' : ∀ H3, exR.r H'' H3 → H3 D = some (.dT (tabK ms)) := fun H3 e => (r0.trans e).ext _ _ hD
    have hc2 : w.cps.toList[i]? = some c := by rw [← hc]; simp
    have htake : w.cps.toList.take (i + 1) = w.cps.toList.take i ++ [c] := by rw [List.take_add_one, hc2]; rfl
    have hval := val_tab ms st c
    refine q_when (ρ := exR) (et_test (ev_notInT (k := keyM st c) (ev_keyT (ev_var rfl) (ev_var rfl)) (ev_var rfl) hD')) (fun hb H3 e3 => s_retV (ρ := exR) ev_c fun H4 e4 => ?_) (fun hb H3 e3 => ?_)
    · have hnone : dl ms st c = none := by
        rw [hval] at hb
        cases q : dl ms st c with
        | none => rfl
        | some t => rw [q] at hb; cases hb
      have hr : run ms st0 w.cps.toList = none := by
        rw [← List.take_append_drop (i + 1) w.cps.toList]
        refine run_none _ _ _ _ ?_
        rw [htake, run_snoc, hrun]
        exact hnone
      rw [hr] at k
      exact k H4 (r0.trans (e3.trans e4)).ext
    · obtain ⟨t, ht⟩ : ∃ t, dl ms st c = some t := by
        rw [hval] at hb
        cases q : dl ms st c with
        | none => rw [q] at hb; cases hb
        | some t => exact ⟨t, rfl⟩
      refine s_asgV (ρ := exR) (ev_getT (k := keyM st c) (v := .int t) (ev_var rfl) (ev_keyT (ev_var rfl) (ev_var rfl)) (fun H4 e4 => hD' H4 (e3.trans e4)) (by rw [hval, ht]; rfl)) fun H4 e4 => ⟨r.trans (e3.trans e4), t, _, rfl, ?_⟩
      rw [htake, run_snoc, hrun]
      exact ht
  · rintro σ' H' ⟨r, st, l, rfl, hrun⟩
    have r0 : exR.r H H' := e2.trans r
    rw [hz, List.take_length] at hrun
    rw [hrun] at k
    exact s_retV (ρ := exR) (ev_var rfl) fun H3 e3 => k H3 (r0.trans e3).ext
def t_tells (K : Frag) : TS := (tSeq (tDrop (tCall (sp_check_arguments K) [] E0 (tCons (tLst (tCons (tCall (sp_is_machine K) [] E0 (tCons (tVar 0) tNil)) (tCons (tCall (sp_is_word K) [] E0 (tCons (tVar 1) tNil)) tNil))) tNil))) (tRet (tOp (rInU K) (tCall (sp_walked K) [] E0 (tCons (tCall (sp_steps_of K) [] E0 (tCons (tIxU K (tVar 0) (tC (.int 2))) tNil)) (tCons (tC (.int 0)) (tCons (tVar 1) tNil)))) (tIxU K (tVar 0) (tC (.int 1))))))
def t__law_tells (K : Frag) : TS := (tSeq (tAsg (tCall (sp__law_moves K) [] E0 (tCons (tVar 0) tNil)) (gName 2)) (tSeq (tAsg (tC (.int 0)) (gName 3)) (tSeq (tFor (iSeq K (tVar 1)) (gName 4) (tSeq (tIfS (tTest (tOp (rNotInU K) (tTup (tCons (tVar 3) (tCons (tVar 4) tNil))) (tVar 2))) (tRet (tC (.bl false))) tNext) (tAsg (tIxU K (tVar 2) (tTup (tCons (tVar 3) (tCons (tVar 4) tNil)))) (gName 3)))) (tRet (tOp (rInU K) (tVar 3) (tIxU K (tVar 0) (tC (.int 1))))))))
/-- check_arguments([a, b]), both true -/
theorem ev_check2 {ρ : Rl} {K : Frag} {σ : L2.St} {H : Hp} {ta tb : TE} {E : XK} (own : Own ρ H) (h1 : EvV ρ ta σ H (.bl true)) (h2 : EvV ρ tb σ H (.bl true)) : Ev ρ (tCall (sp_check_arguments K) [] E (tCons (tLst (tCons ta (tCons tb tNil))) tNil)) σ H (fun _ _ => True) :=
  ev_callR (ea_one (ev_lstN own (ea_cons h1 (ea_cons h2 ea_nil)) (by show 2 ≤ 100000; decide))) fun vs H1 e1 ⟨u, eu, p, ep, nS, hp⟩ => by
    subst eu ep
    exact fun H2 e2 Q q E => ⟨p, 2, rfl, .of (e2.keep _ _ nS hp), fun H' e => q _ H' (Ext.r e) trivial⟩
theorem ev_walked {K : Frag} {σ : L2.St} {H : Hp} {ta tb tc : TE} {E : XK} {ms : List (Int × Nat × Int)} {st : Int} {w : Str} (h1 : Ev exR ta σ H (fun v H' => ∃ D, v = .ref D ∧ H' D = some (.dT (tabK ms)))) (h2 : EvV exR tb σ H (.int st)) (h3 : EvV exR tc σ H (.str w)) : EvV exR (tCall (sp_walked K) [] E (tCons ta (tCons tb (tCons tc tNil)))) σ H (optI (run ms st w.cps.toList)) :=
  ev_callR (Rr := fun vs H' => ∃ D, vs = [.ref D, .int st, .str w] ∧ H' D = some (.dT (tabK ms))) ((ea_consR (Rr := fun x ws H' => ws = [.int st, .str w] ∧ ∃ D, x = .ref D ∧ H' D = some (.dT (tabK ms))) h1 fun x H1 e1 ⟨D, ex, hD⟩ => (ea_cons (fun H2 e2 => h2 H2 (e1.trans e2)) (ea_cons (fun H2 e2 => h3 H2 (e1.trans e2)) ea_nil)).imp fun ws H3 e3 ew => ⟨ew, D, ex, e3.ext _ _ hD⟩).imp fun vs H3 e3 ⟨x, ws, ev, ew, D, ex, hD⟩ => ⟨D, by rw [ev, ew, ex], hD⟩) fun vs H1 e1 ⟨D, ev, hD⟩ => by
    subst ev
    exact fun H2 e2 Q q E => ⟨D, ms, st, w, rfl, e2.ext _ _ hD, fun H' e => q _ H' (Ext.r e) rfl⟩
theorem pure_tells {K : Frag} (vs : List V) (H : Hp) (Q : VK) (E : XK) (h : sp_tells K vs H Q E) : t_tells K { nx := fun _ H' => Q .non H', rt := Q } (start ["machine", "word"] vs) H := by
  obtain ⟨v, w, d, M, rfl, hd, hm, him, hs, hw, hl, hk, hml, k⟩ := h
  obtain ⟨a, rfl, hM⟩ := MacAt.of (K := K) hd hm
  refine q_drop (ρ := exR) (ev_check2 own_ex ((ev_B1 (F := isMachineD) (ev_var rfl) hd hs).val (by rw [him])) ((ev_B1 (F := isWordD) (ev_var rfl) (.str w) (decide_eq_true hl)).val (by rw [hw]))) fun _ H1 e1 _ => ?_
  obtain ⟨ea, mv, md, sA, sE, hmv, hmd⟩ := hM.ex
  refine s_retV (ρ := exR) (v := .bl (tellsM M w.cps.toList)) (ev_inO (r := run M.ms 0 w.cps.toList) (ev_walked (ev_call (ea_cons (ev_ix (n := 2) (ev_var rfl) ev_c (fun H2 e2 => sA H2 (e1.trans e2)) rfl rfl) ea_nil) fun H2 e2 Q' q' E' => ⟨mv, md, M.ms, rfl, ((e1.trans e2).ds hmv).ex, hmd, hk, hml, fun D H' _ e hD => q' _ H' (Ext.r e) ⟨D, rfl, hD⟩⟩) ev_c (ev_var rfl)) (ev_ix (n := 1) (ev_var rfl) ev_c (fun H3 e3 => sA H3 (e1.trans e3)) rfl rfl) (fun H3 e3 => sE H3 (e1.trans e3))) fun H3 e3 => k H3 (e1.trans e3).ext
theorem pure__law_tells {K : Frag} (vs : List V) (H : Hp) (Q : VK) (E : XK) (h : sp__law_tells K vs H Q E) : t__law_tells K { nx := fun _ H' => Q .non H', rt := Q } (start ["machine", "word", "moves", "state", "letter"] vs) H := by
  obtain ⟨v, w, M, rfl, hd, hk, hml, k⟩ := h
  have hself : tupD (macD M) = macD M := by
    refine tup_self _ ?_
    show (true && (noLists (M.es.map PyData.int) && (noLists (M.ms.map mvD) && true))) = true
    rw [noLists_map fun _ _ => rfl, noLists_map fun _ _ => rfl]
    rfl
  obtain ⟨a, rfl, hM⟩ := MacAt.of (K := K) hd hself
  obtain ⟨ea, mv, md, sA, sE, hmv, hmd⟩ := hM.ex
  refine q_asg (ρ := exR) (R := fun v H' => ∃ D, v = .ref D ∧ H' D = some (.dT (tabK M.ms))) (ev_call (ea_cons (ev_var rfl) ea_nil) fun H2 e2 Q' q' E' => ⟨.ref a, M, rfl, (e2.ds hd).ex, hk, hml, fun D H' _ e hD => q' _ H' (Ext.r e) ⟨D, rfl, hD⟩⟩) fun v H2 e2 ⟨D, ev, hD⟩ => ?_
  subst ev
  exact told_rest (M := M) ⟨ea, mv, md, fun H3 e3 => sA H3 (e2.trans e3), fun H3 e3 => sE H3 (e2.trans e3), e2.ds hmv, hmd⟩ hD fun H' e => k H' (e2.trans (Ext.r e)).ext
end Slip
/-! a drawn machine -/
namespace Slip
open PySem PySem.Spec PyProof.Rows L2
abbrev lexM (p q : Int × Nat × Int) : Prop := p.1 < q.1 ∨ (p.1 = q.1 ∧ p.2.1 < q.2.1)
structure MacOk (M : Mac) : Prop where
  n1 : 1 ≤ M.n
  n8 : M.n ≤ 8
  esUp : M.es.Pairwise (· < ·)
  esIn : ∀ e ∈ M.es, 0 ≤ e ∧ e < M.n
  msUp : M.ms.Pairwise lexM
  msIn : ∀ m ∈ M.ms, (0 ≤ m.1 ∧ m.1 < M.n) ∧ m.2.1 ∈ letters ∧ 0 ≤ m.2.2 ∧ m.2.2 < M.n
  esLen : M.es.length ≤ 8
  msLen : M.ms.length ≤ 48
theorem MacOk.keys {M : Mac} (h : MacOk M) : Keys M.ms := h.msUp.imp fun {p q} z e => by
  rcases z with z | z <;> omega
theorem let_len (c : Nat) : (⟨#[c]⟩ : Str).length = 1 := rfl
theorem let_ok {c : Nat} (h : c ∈ letters) : isLetD (.str ⟨#[c]⟩) = true := by
  show ((decide (c ∈ letters) && true) && decide ((1 : Nat) = 1)) = true
  rw [decide_eq_true h]
  rfl
theorem MacOk.plain {M : Mac} (h : MacOk M) : plainT (macD M) = true := by
  have p1 : ∀ l : List Int, plainTs (l.map PyData.int) = true := fun l => by
    induction l with
    | nil => rfl
    | cons a l ih => exact ih
  have p2 : ∀ l : List (Int × Nat × Int), plainTs (l.map mvD) = true := fun l => by
    induction l with
    | nil => rfl
    | cons a l ih =>
      show (plainT (mvD a) && plainTs (l.map mvD)) = true
      rw [ih]
      rfl
  show (decide (3 ≤ 300) && (true && ((decide ((M.es.map PyData.int).length ≤ 300) && plainTs (M.es.map PyData.int)) && ((decide ((M.ms.map mvD).length ≤ 300) && plainTs (M.ms.map mvD)) && true)))) = true
  rw [p1, p2, List.length_map, List.length_map, decide_eq_true (show M.es.length ≤ 300 by have := h.esLen; omega), decide_eq_true (show M.ms.length ≤ 300 by have := h.msLen; omega)]
  rfl
theorem mac_depth (M : Mac) : (macD M).depth ≤ 3 := by
  have p1 : PyData.depthAll (M.es.map PyData.int) ≤ 0 := depth_all fun d hd => by
    obtain ⟨e, _, rfl⟩ := List.mem_map.mp hd
    exact Nat.le_refl 0
  have p2 : PyData.depthAll (M.ms.map mvD) ≤ 1 := depth_all fun d hd => by
    obtain ⟨e, _, rfl⟩ := List.mem_map.mp hd
    exact Nat.le_refl 1
  show max 0 (max (PyData.depthAll (M.es.map PyData.int) + 1) (max (PyData.depthAll (M.ms.map mvD) + 1) 0)) + 1 ≤ 3
  omega
theorem MacOk.machine {M : Mac} (h : MacOk M) : isMachineD (macD M) = true := by
  have h1 : areEndsD M.n (.tuple (M.es.map PyData.int)) = true := ends_yes rfl (fun x hx => by
    obtain ⟨e, he, rfl⟩ := List.mem_map.mp (show x ∈ M.es.map PyData.int from hx)
    obtain ⟨e0, e1⟩ := h.esIn e he
    rw [whole_dec, decide_eq_true e0, decide_eq_true e1]
    rfl) fun j x y a b => by
    have a' : (M.es.map PyData.int)[j]? = some x := a
    have b' : (M.es.map PyData.int)[j + 1]? = some y := b
    rw [List.getElem?_map] at a' b'
    cases qa : M.es[j]? with
    | none => rw [qa] at a'; cases a'
    | some u =>
    cases qb : M.es[j + 1]? with
    | none => rw [qb] at b'; cases b'
    | some w =>
    rw [qa] at a'
    rw [qb] at b'
    cases a'
    cases b'
    obtain ⟨hj, ej⟩ := List.getElem?_eq_some_iff.mp qa
    obtain ⟨hk, ek⟩ := List.getElem?_eq_some_iff.mp qb
    have := List.pairwise_iff_getElem.mp h.esUp j (j + 1) hj hk (Nat.lt_succ_self j)
    rw [ej, ek] at this
    rw [lt_int]
    exact decide_eq_true this
  have h2 : areMovesD M.n (.tuple (M.ms.map mvD)) = true := moves_yes rfl (fun x hx => by
    obtain ⟨m, hm, rfl⟩ := List.mem_map.mp (show x ∈ M.ms.map mvD from hx)
    obtain ⟨⟨e0, e1⟩, e2, e3, e4⟩ := h.msIn m hm
    show (isLetD (.str ⟨#[m.2.1]⟩) && (isWholeD 0 (M.n - 1) (.int m.1) && isWholeD 0 (M.n - 1) (.int m.2.2))) = true
    rw [let_ok e2, whole_dec, whole_dec, decide_eq_true e0, decide_eq_true e1, decide_eq_true e3, decide_eq_true e4]
    rfl) fun j x y a b => by
    have a' : (M.ms.map mvD)[j]? = some x := a
    have b' : (M.ms.map mvD)[j + 1]? = some y := b
    rw [List.getElem?_map] at a' b'
    cases qa : M.ms[j]? with
    | none => rw [qa] at a'; cases a'
    | some u =>
    cases qb : M.ms[j + 1]? with
    | none => rw [qb] at b'; cases b'
    | some w =>
    rw [qa] at a'
    rw [qb] at b'
    cases a'
    cases b'
    obtain ⟨hj, ej⟩ := List.getElem?_eq_some_iff.mp qa
    obtain ⟨hk, ek⟩ := List.getElem?_eq_some_iff.mp qb
    have lx := List.pairwise_iff_getElem.mp h.msUp j (j + 1) hj hk (Nat.lt_succ_self j)
    rw [ej, ek] at lx
    show PySem.W.dataLt (.tuple [.int u.1, .str ⟨#[u.2.1]⟩]) (.tuple [.int w.1, .str ⟨#[w.2.1]⟩]) = true
    rw [PySem.W.dataLt_pair rfl rfl]
    have eqi : PyData.eqv (.int u.1) (.int w.1) = decide (u.1 = w.1) := by
      show (u.1 == w.1) = _
      rw [Bool.eq_iff_iff]
      simp
    rw [eqi, eqv_str, lt_int]
    rcases lx with lx | ⟨l1, l2⟩
    · rw [decide_eq_false (show ¬ u.1 = w.1 by omega), if_neg Bool.false_ne_true]
      exact decide_eq_true lx
    · rw [decide_eq_true l1, if_pos rfl]
      have ne : ¬ (⟨#[u.2.1]⟩ : Str) = ⟨#[w.2.1]⟩ := fun e => by
        injection e with e
        injection e with e
        injection e with e _
        omega
      rw [decide_eq_false ne, if_neg Bool.false_ne_true, PySem.W.dataLt_str]
      refine decide_eq_true ?_
      show [u.2.1] < [w.2.1]
      exact List.Lex.rel l2
  show isMachineD (.tuple [.int M.n, .tuple (M.es.map PyData.int), .tuple (M.ms.map mvD)]) = true
  rw [machine_tup h.n1 h.n8, h1, h2]
  rfl
def sp__law_machine (K : Frag) : Sp := fun vs H Q _ => ∃ (ra sp : Addr) (many : Int) (z : Str), vs = [.ref ra, .ref sp, .int many, .str z] ∧ Dr K ra sp H ∧ 1 ≤ many ∧ many ≤ 8 ∧ Few z ∧ ∀ v M H', (spR sp).r H H' → DS (spR sp) H' v (macD M) → MacOk M → Q v H'
theorem len__law_machine {K : Frag} {vs : List V} {H : Hp} {Q : VK} {E : XK} (h : sp__law_machine K vs H Q E) : vs.length = 4 := by
  obtain ⟨ra, sp, m, z, rfl, _⟩ := h
  rfl
def t__law_machine (K : Frag) : TS := (tSeq (tAsg (tOp (rAddU K) (tC (.int 1)) (tCall (sp__law_take K) [] E0 (tCons (tVar 0) (tCons (tVar 1) (tCons (tVar 2) tNil))))) (gName 4)) (tSeq (tAsg (tCB (rTupOf K) (tCons (tLc (iRng1 (tCons (tVar 4) tNil)) (gName 9) (tTest (tOp (rEqU K) (tCall (sp__law_take K) [] E0 (tCons (tVar 0) (tCons (tVar 1) (tCons (tC (.int 2)) tNil)))) (tC (.int 0)))) (tVar 9) [9]) tNil)) (gName 5)) (tSeq (tAsg (tLst tNil) (gName 6)) (tSeq (tFor (iRng1 (tCons (tVar 4) tNil)) (gName 7) (tFor (iSeq K (tVar 3)) (gName 8) (tIfS (tTest (tOp (rEqU K) (tCall (sp__law_take K) [] E0 (tCons (tVar 0) (tCons (tVar 1) (tCons (tC (.int 2)) tNil)))) (tC (.int 0)))) (tDrop (tBM K "list" rAppend (tVar 6) (tCons (tTup (tCons (tVar 7) (tCons (tVar 8) (tCons (tCall (sp__law_take K) [] E0 (tCons (tVar 0) (tCons (tVar 1) (tCons (tVar 4) tNil)))) tNil)))) tNil))) tNext))) (tRet (tTup (tCons (tVar 4) (tCons (tVar 5) (tCons (tCB (rTupOf K) (tCons (tVar 6) tNil)) tNil)))))))))
theorem ew_str {ρ ρw : Rl} {K : Frag} {σ : L2.St} {H : Hp} {te : TE} {s : Str} (h : EvV ρ te σ H (.str s)) : EvW ρ ρw (iSeq K te) σ H s.cps.size (fun i H v H' => H' = H ∧ ∃ c, s.cps[i]? = some c ∧ v = .str ⟨#[c]⟩) := fun H1 e1 R k =>
  .inr (.inr (h H1 e1 _ fun v H2 e2 hv => ⟨s, hv, k _ H2 e2 (walk_str.mono (fun _ _ => trivial) fun _ _ _ _ _ _ y => y)⟩))
/-- an answer of a draw against nought -/
theorem etc_take0 {sp ra : Addr} {K : Frag} {σ : L2.St} {H : Hp} {ta tb : TE} {n : Int} (h1 : EvV (spR sp) ta σ H (.ref ra)) (h2 : EvV (spR sp) tb σ H (.ref sp)) (dr : Dr K ra sp H) (hn : 0 < n) : EvTC (spR sp) (tTest (tOp (rEqU K) (tCall (sp__law_take K) [] E0 (tCons ta (tCons tb (tCons (tC (.int n)) tNil)))) (tC (.int 0)))) σ H (fun _ => True) :=
  etc_test (ev_opP (Pa := Below n) (Pb := fun v => v = .int 0) (ev_take h1 h2 ev_c dr hn) ev_c fun x y ⟨m, ex, _⟩ ey => by
    subst ex ey
    exact fun H1 e1 Q q => .inl ⟨rfl, q _ H1 .rfl ⟨_, rfl, trivial⟩⟩)
theorem s_whenC {ρ : Rl} {σ : L2.St} {H : Hp} {t : TT} {tu : TS} {D : Ends} {C : Bool → Prop} (h : EvTC ρ t σ H C) (h1 : C true → ∀ H1, ρ.r H H1 → tu D σ H1) (h2 : C false → ∀ H1, ρ.r H H1 → D.nx σ H1) : tIfS t tu tNext D σ H := h H .rfl _ fun b H1 e c => by
  cases b with
  | true => exact h1 c H1 e
  | false => exact h2 c H1 e
theorem kept_up (f : Nat → Bool) (n : Nat) : (keptN f n).Pairwise (· < ·) := List.Pairwise.sublist List.filter_sublist List.pairwise_lt_range
theorem kept_lt {f : Nat → Bool} {n i : Nat} (h : i ∈ keptN f n) : i < n := List.mem_range.mp (List.mem_filter.mp h).1
theorem pure__law_machine {K : Frag} (vs : List V) (H : Hp) (Q : VK) (E : XK) (h : sp__law_machine K vs H Q E) : t__law_machine K { nx := fun _ H' => Q .non H', rt := Q } (start ["row", "spot", "many", "few", "count", "ends", "moves", "state", "letter", "k"] vs) H := by
  obtain ⟨ra, sp, many, z, rfl, dr, m1, m8, few, k⟩ := h
  have hz : z.cps.size = z.length := rfl
  have hz6 := few.le
  refine q_asg (ρ := spR sp) (R := fun v _ => ∃ n : Int, v = .int n ∧ 1 ≤ n ∧ n ≤ 8) (ev_opP (Pa := fun v => v = .int 1) (Pb := Below many) ev_c (ev_take (ev_var rfl) (ev_var rfl) (ev_var rfl) dr (by omega)) fun x y ex ⟨m, ey, h0, h1⟩ => by
    subst ex ey
    exact fun H1 e1 Q q => .inl ⟨1, m, rfl, rfl, q _ H1 .rfl ⟨1 + m, rfl, by omega, by omega⟩⟩) fun v H1 e1 ⟨n, ev, n1, n8⟩ => ?_
  subst ev
  have dr1 := dr.sp e1
  have own1 := own_sp dr1
  -- the ends
  refine q_asg (ρ := spR sp) (R := fun v H' => ∃ es : List Int, DS (spR sp) H' v (.tuple (es.map PyData.int)) ∧ es.Pairwise (· < ·) ∧ (∀ e ∈ es, 0 ≤ e ∧ e < n) ∧ es.length ≤ 8) ((ev_tupOf (ρf := spR sp) (C := fun ds => ∃ es : List Int, ds = es.map PyData.int ∧ es.Pairwise (· < ·) ∧ (∀ e ∈ es, 0 ≤ e ∧ e < n) ∧ es.length ≤ 8) Le.rfl ((ev_lc (R := fun _ i x _ => x = .int (i : Int)) (C := fun _ _ => True) own1 (n := n.toNat) (by omega) (ei_rng (i := n) (ea_cons (ev_var rfl) ea_nil) (by omega) (by omega)) (fun _ _ _ _ _ _ h => h) (fun _ _ _ _ h => h) ?_).imp ?_)).imp fun v H2 _ ⟨ds, ⟨es, ed, h1, h2, h3⟩, hd⟩ => ⟨es, by rw [← ed]; exact hd, h1, h2, h3⟩) fun ve H2 e2 ⟨es, hes, esUp, esIn, esLen⟩ => ?_
  · intro D H2 r2 hD i x H3 H4 hi r3 oD y cont hc
    obtain ⟨e4, rfl⟩ := y
    subst e4
    have dr3 := dr1.sp (r2.trans r3)
    refine hc _ H4 rfl .rfl fun H5 r5 Q q => ?_
    exact etc_take0 (ev_var rfl) (ev_var rfl) dr3 (by decide) H5 r5 _ fun b H6 r6 _ => q b H6 r6 trivial fun _ => ev_var rfl
  · rintro u H2 r ⟨p, xs, f, e, nS, hp, hx, _, hit⟩
    have ex : xs = ((keptN f n.toNat).map fun i : Nat => (i : Int)).map V.int := by
      rw [hit.map, List.map_map]
      rfl
    refine ⟨p, xs, _, e, nS, hx, ?_, (keptN f n.toNat).map fun i : Nat => (i : Int), rfl, ?_, ?_, ?_⟩
    · rw [ex]
      have gen : ∀ l : List Int, DSs (spR sp) H2 (l.map V.int) (l.map PyData.int) := fun l => by
        induction l with
        | nil => exact .nil
        | cons a l ih => exact .cons (.int a) ih
      exact gen _
    · exact List.pairwise_map.mpr ((kept_up f n.toNat).imp fun {a b} h => by omega)
    · intro e he
      obtain ⟨i, hi, rfl⟩ := List.mem_map.mp he
      have := kept_lt hi
      omega
    · rw [List.length_map]
      have := kept_len f n.toNat
      omega
  -- the moves
  refine q_asg (ρ := spR sp) (R := fun v H' => ∃ L, v = .ref L ∧ H2 L = none ∧ H' L = some (.lst [])) ?_ fun v H3 e3 ⟨L, ev, hL2, hL⟩ => ?_
  · refine (ev_lst ea_nil fun vs H1 _ e => by rw [e]; show 0 ≤ 100000; decide).imp fun v H3 r ⟨p, vs, H4, ev, evs, hp, r4, eH⟩ => ?_
    subst ev evs
    exact ⟨p, rfl, r4.back p hp, by rw [eH]; exact upd_same⟩
  subst ev
  have hL0 : H L = none := (e1.trans e2).back L hL2
  have e03 := e1.trans (e2.trans e3)
  have nL : ¬ (spR sp).S L := (own_sp dr).fresh hL0
  refine q_forw (ρ := spR sp) (ρw := (spR sp).and L) (n := n.toNat) (ew_rng (i := n) (ea_cons (ev_var rfl) ea_nil) (by omega) (by omega)) fun H4 e4 => ⟨fun i σ' H' => ((spR sp).and L).r H4 H' ∧ ∃ (u1 u2 : Option V) (xs : List V) (ms : List (Int × Nat × Int)), σ' = [some (.ref ra), some (.ref sp), some (.int many), some (.str z), some (.int n), some ve, some (.ref L), u1, u2, none] ∧ H' L = some (.lst xs) ∧ DSs (spR sp) H' xs (ms.map mvD) ∧ ms.length ≤ 6 * i ∧ ms.Pairwise lexM ∧ ∀ m ∈ ms, (0 ≤ m.1 ∧ m.1 < (i : Int)) ∧ m.2.1 ∈ letters ∧ 0 ≤ m.2.2 ∧ m.2.2 < n,
    ⟨.rfl, _, _, [], [], rfl, e4.keep _ _ nL hL, .nil, Nat.le_refl _, .nil, fun m hm => nomatch hm⟩, fun i σ' H' _ p => p.1, ?_, ?_⟩
  · rintro i x σ' H' H'' hi ⟨r, u1, u2, xs, ms, rfl, hx, hds, hlen, hup, hin⟩ ⟨e5, rfl⟩
    subst e5
    have rH : (spR sp).r H H'' := r_and (e03.trans e4) hL0 r
    refine s_forw (ρ := spR sp) (ρw := (spR sp).and L) (ew_str (ev_var rfl)) fun H5 e5 => ⟨fun j σ' H' => ((spR sp).and L).r H5 H' ∧ ∃ (u2 : Option V) (xs : List V) (ms : List (Int × Nat × Int)), σ' = [some (.ref ra), some (.ref sp), some (.int many), some (.str z), some (.int n), some ve, some (.ref L), some (.int (i : Int)), u2, none] ∧ H' L = some (.lst xs) ∧ DSs (spR sp) H' xs (ms.map mvD) ∧ ms.length ≤ 6 * i + j ∧ ms.Pairwise lexM ∧ ∀ m ∈ ms, (0 ≤ m.1 ∧ (m.1 < (i : Int) ∨ (m.1 = (i : Int) ∧ ∃ j', j' < j ∧ z.cps.toList[j']? = some m.2.1))) ∧ m.2.1 ∈ letters ∧ 0 ≤ m.2.2 ∧ m.2.2 < n,
      ⟨.rfl, _, xs, ms, rfl, e5.keep _ _ nL hx, e5.dss hds, hlen, hup, fun m hm => ⟨⟨(hin m hm).1.1, .inl (hin m hm).1.2⟩, (hin m hm).2⟩⟩, fun i σ' H' _ p => p.1, ?_, ?_⟩
    · rintro j x σ' H' H'' hj ⟨r6, u2, xs, ms, rfl, hx, hds, hlen, hup, hin⟩ ⟨e6, c, hc, rfl⟩
      subst e6
      have rH6 : (spR sp).r H H'' := r_and (e03.trans e4) hL0 (r.trans ((and_of e5).trans r6))
      have dr6 := dr.sp rH6
      have hc2 : z.cps.toList[j]? = some c := by rw [← hc]; simp
      have hcl : c ∈ letters := few.low c (List.mem_of_getElem? hc2)
      refine s_whenC (ρ := spR sp) (etc_take0 (ev_var rfl) (ev_var rfl) dr6 (by decide)) (fun _ H7 e7 => ?_) (fun _ H7 e7 => ?_)
      · have xlen : xs.length = ms.length := by rw [hds.length, List.length_map]
        have hx7 : H7 L = some (.lst xs) := e7.keep _ _ nL hx
        refine s_app (ρ := spR sp) hx7 nL (ev_var rfl) (R := fun v H' => ∃ t : Int, DS (spR sp) H' v (mvD ((i : Int), c, t)) ∧ 0 ≤ t ∧ t < n) ?_ (by omega) fun y H8 e8 ⟨t, hy, t0, t1⟩ hx8 => ?_
        · refine (ev_tup (Rr := fun vs _ => ∃ t : Int, vs = [.int (i : Int), .str ⟨#[c]⟩, .int t] ∧ 0 ≤ t ∧ t < n) ((ea_consP (Pa := fun v => v = .int (i : Int)) (ev_var rfl) (ea_consP (Pa := fun v => v = .str ⟨#[c]⟩) (ev_var rfl) (ea_consP (Pa := Below n) (Pr := fun ws => ws = []) (ev_take (ev_var rfl) (ev_var rfl) (ev_var rfl) (dr6.sp e7) (by omega)) ea_nil))).imp fun vs H8 _ ⟨x1, w1, f1, f2, x2, w2, f3, f4, x3, w3, f5, ⟨t, f6, t0, t1⟩, f7⟩ => ⟨t, by rw [f1, f2, f3, f4, f5, f6, f7], t0, t1⟩) fun vs H8 _ ⟨t, e, _⟩ => by rw [e]; show 3 ≤ 100000; decide).imp fun v H8 _ ⟨p, vs, H9, ev, ⟨t, evs, t0, t1⟩, hp, r9, eH⟩ => ?_
          subst ev evs
          exact ⟨t, .tup (by rw [eH]; exact upd_same) (.cons (.int _) (.cons (.str _) (.cons (.int _) .nil))), t0, t1⟩
        · have chg : ((spR sp).and L).r H8 (upd H8 L (.lst (xs ++ [y]))) := r_chg (ρ := spR sp) hx8 nL
          have stay : ∀ {v : V} {d : PyData}, noList d = true → DS (spR sp) H8 v d → DS (spR sp) (upd H8 L (.lst (xs ++ [y]))) v d := fun hn hd => hd.tups chg.tup _ _ hn
          have nl : ∀ l : List (Int × Nat × Int), noLists (l.map mvD) = true := fun l => noLists_map fun _ _ => rfl
          refine ⟨(r6.trans (and_of (e7.trans e8))).trans chg, _, xs ++ [y], ms ++ [((i : Int), c, t)], rfl, upd_same, ?_, ?_, ?_, ?_⟩
          · rw [List.map_append]
            exact ((((e7.trans e8).dss hds).tups chg.tup _ _ (nl ms))).append (.cons (stay rfl hy) .nil)
          · rw [List.length_append, List.length_singleton]
            omega
          · refine List.pairwise_append.mpr ⟨hup, by simp, fun m hm q hq => ?_⟩
            rw [List.mem_singleton.mp hq]
            rcases (hin m hm).1.2 with h | ⟨h, j', hj', hcj⟩
            · exact .inl h
            · refine .inr ⟨h, ?_⟩
              obtain ⟨hj1, ej1⟩ := List.getElem?_eq_some_iff.mp hcj
              obtain ⟨hj2, ej2⟩ := List.getElem?_eq_some_iff.mp hc2
              have := List.pairwise_iff_getElem.mp few.up j' j hj1 hj2 hj'
              rw [ej1, ej2] at this
              exact this
          · intro m hm
            rcases List.mem_append.mp hm with hm | hm
            · obtain ⟨⟨a0, a1⟩, a2, a3⟩ := hin m hm
              refine ⟨⟨a0, a1.imp (fun h => h) fun ⟨h, j', hj', hc'⟩ => ⟨h, j', by omega, hc'⟩⟩, a2, a3⟩
            · rw [List.mem_singleton.mp hm]
              exact ⟨⟨Int.natCast_nonneg i, .inr ⟨rfl, j, Nat.lt_succ_self j, hc2⟩⟩, hcl, t0, t1⟩
      · refine ⟨r6.trans (and_of e7), _, xs, ms, rfl, e7.keep _ _ nL hx, e7.dss hds, by omega, hup, fun m hm => ?_⟩
        obtain ⟨⟨a0, a1⟩, a2, a3⟩ := hin m hm
        exact ⟨⟨a0, a1.imp (fun h => h) fun ⟨h, j', hj', hc'⟩ => ⟨h, j', by omega, hc'⟩⟩, a2, a3⟩
    · rintro σ' H' ⟨r6, u2, xs, ms, rfl, hx, hds, hlen, hup, hin⟩
      refine ⟨r.trans ((and_of e5).trans r6), _, _, xs, ms, rfl, hx, hds, by omega, hup, fun m hm => ?_⟩
      obtain ⟨⟨a0, a1⟩, a2, a3⟩ := hin m hm
      refine ⟨⟨a0, ?_⟩, a2, a3⟩
      rcases a1 with h | ⟨h, _⟩
      · show m.1 < ((i + 1 : Nat) : Int)
        omega
      · show m.1 < ((i + 1 : Nat) : Int)
        omega
  · rintro σ' H' ⟨r, u1, u2, xs, ms, rfl, hx, hds, hlen, hup, hin⟩
    have r2' : (spR sp).r H2 H' := r_and (e3.trans e4) hL2 r
    refine s_ret (ρ := spR sp) (ev_tupDs (ρf := spR sp) (ds := [.int n, .tuple (es.map PyData.int), .tuple (ms.map mvD)]) Le.rfl (ea_consD Le.rfl ((ev_var (v := .int n) rfl).imp fun v H5 _ ev => by rw [ev]; exact .int n) fun Ha ea => ea_consD Le.rfl ((ev_var (v := ve) rfl).imp fun v H6 e6 ev => by rw [ev]; exact (r2'.trans (ea.trans e6)).ds hes) fun Hb eb => ea_consD Le.rfl ((ev_tupOf (ρf := spR sp) (C := fun ds => ds = ms.map mvD) Le.rfl ((ev_var (v := .ref L) rfl).imp fun u H6 e6 eu => ⟨L, xs, _, eu, nL, (ea.trans (eb.trans e6)).keep _ _ nL hx, (ea.trans (eb.trans e6)).dss hds, rfl⟩)).imp fun v H6 _ ⟨ds, e, h⟩ => e ▸ h) fun _ _ => ea_nilD) (by show 3 ≤ 100000; decide)) fun v H5 e5 hv => k v ⟨n, es, ms⟩ H5 ((e1.trans e2).trans (r2'.trans e5)) hv ⟨n1, n8, esUp, esIn, hup, fun m hm => ?_, esLen, by show ms.length ≤ 48; omega⟩
    obtain ⟨⟨a0, a1⟩, a2⟩ := hin m hm
    exact ⟨⟨a0, by show m.1 < n; omega⟩, a2⟩
end Slip
/-! which words a machine tells, by their length -/
namespace Slip
open PySem PySem.Spec PyProof.Rows L2
/-- from s an end is k moves away -/
def cn (M : Mac) : Nat → Int → Bool
  | 0, s => decide (s ∈ M.es)
  | k + 1, s => M.ms.any fun m => decide (m.1 = s) && cn M k m.2.2
/-- the words of k letters from s, ascending -/
def wd (M : Mac) : Nat → Int → List (List Nat)
  | 0, s => if s ∈ M.es then [[]] else []
  | k + 1, s => letters.flatMap fun c => match dl M.ms s c with
    | some t => (wd M k t).map (c :: ·)
    | none => []
theorem cn_step {M : Mac} {k : Nat} {s : Int} : cn M (k + 1) s = true ↔ ∃ m ∈ M.ms, m.1 = s ∧ cn M k m.2.2 = true := by
  show (M.ms.any fun m => decide (m.1 = s) && cn M k m.2.2) = true ↔ _
  rw [List.any_eq_true]
  constructor
  · rintro ⟨m, hm, h⟩
    have h' : m.1 = s ∧ cn M k m.2.2 = true := by simpa using h
    exact ⟨m, hm, h'⟩
  · rintro ⟨m, hm, h1, h2⟩
    exact ⟨m, hm, by rw [decide_eq_true h1, h2]; rfl⟩
theorem wd_ne {M : Mac} (ok : MacOk M) : ∀ (k : Nat) (s : Int), wd M k s ≠ [] ↔ cn M k s = true
  | 0, s => by
    show (if s ∈ M.es then [[]] else []) ≠ [] ↔ decide (s ∈ M.es) = true
    by_cases h : s ∈ M.es
    · simp [h]
    · simp [h]
  | k + 1, s => by
    rw [cn_step]
    constructor
    · intro h
      obtain ⟨w, hw⟩ := List.exists_mem_of_ne_nil _ h
      obtain ⟨c, hc, hw⟩ := List.mem_flatMap.mp hw
      cases q : dl M.ms s c with
      | none => rw [q] at hw; cases hw
      | some t =>
        rw [q] at hw
        obtain ⟨u, hu, _⟩ := List.mem_map.mp hw
        exact ⟨(s, c, t), dl_mem q, rfl, (wd_ne ok k t).mp (List.ne_nil_of_mem hu)⟩
    · rintro ⟨m, hm, rfl, h⟩
      obtain ⟨u, hu⟩ := List.exists_mem_of_ne_nil _ ((wd_ne ok k m.2.2).mpr h)
      refine List.ne_nil_of_mem (a := m.2.1 :: u) (List.mem_flatMap.mpr ⟨m.2.1, (ok.msIn m hm).2.1, ?_⟩)
      rw [dl_of ok.keys (show (m.1, m.2.1, m.2.2) ∈ M.ms from hm)]
      exact List.mem_map.mpr ⟨u, hu, rfl⟩
theorem wd_len {M : Mac} : ∀ (k : Nat) (s : Int) (w : List Nat), w ∈ wd M k s → w.length = k
  | 0, s, w, h => by
    have h' : w ∈ (if s ∈ M.es then [[]] else [] : List (List Nat)) := h
    by_cases z : s ∈ M.es
    · rw [if_pos z] at h'
      rw [List.mem_singleton.mp h']
      rfl
    · rw [if_neg z] at h'
      cases h'
  | k + 1, s, w, h => by
    obtain ⟨c, hc, hw⟩ := List.mem_flatMap.mp h
    cases q : dl M.ms s c with
    | none => rw [q] at hw; cases hw
    | some t =>
      rw [q] at hw
      obtain ⟨u, hu, rfl⟩ := List.mem_map.mp hw
      show u.length + 1 = k + 1
      rw [wd_len k t u hu]
/-! ### a way with a round in it has a shorter one -/
theorem few_nats : ∀ (n : Nat) (l : List Nat), l.Nodup → (∀ x ∈ l, x < n) → l.length ≤ n
  | 0, l, _, h => by
    cases l with
    | nil => exact Nat.le_refl 0
    | cons a l => exact absurd (h a (List.mem_cons_self ..)) (Nat.not_lt_zero a)
  | n + 1, l, hn, h => by
    by_cases hm : n ∈ l
    · have h1 := few_nats n (l.erase n) (hn.erase n) fun x hx => by
        have := (hn.mem_erase_iff).mp hx
        have := h x this.2
        omega
      rw [List.length_erase_of_mem hm] at h1
      omega
    · have h1 := few_nats n l hn fun x hx => by
        have := h x hx
        have : x ≠ n := fun e => hm (e ▸ hx)
        omega
      omega
theorem meet {n : Nat} {f : Nat → Int} (h : ∀ j, j ≤ n → 0 ≤ f j ∧ f j < n) : ∃ a b, a < b ∧ b ≤ n ∧ f a = f b := by
  by_cases q : ((List.range (n + 1)).map fun j => (f j).toNat).Nodup
  · have := few_nats n _ q fun x hx => by
      obtain ⟨j, hj, rfl⟩ := List.mem_map.mp hx
      have := h j (by have := List.mem_range.mp hj; omega)
      omega
    rw [List.length_map, List.length_range] at this
    omega
  · rw [List.Nodup, List.pairwise_map, List.pairwise_iff_getElem] at q
    simp only [Classical.not_forall] at q
    obtain ⟨a, b, ha, hb, hab, e⟩ := q
    rw [List.length_range] at ha hb
    rw [List.getElem_range, List.getElem_range] at e
    have e' : (f a).toNat = (f b).toNat := Classical.not_not.mp e
    have h1 := h a (by omega)
    have h2 := h b (by omega)
    exact ⟨a, b, hab, by omega, by omega⟩
abbrev edge (M : Mac) (s t : Int) : Prop := ∃ m ∈ M.ms, m.1 = s ∧ m.2.2 = t
theorem cn_way {M : Mac} : ∀ (k : Nat) (s : Int), cn M k s = true → ∃ f : Nat → Int, f 0 = s ∧ (∀ j, j < k → edge M (f j) (f (j + 1))) ∧ f k ∈ M.es
  | 0, s, h => ⟨fun _ => s, rfl, fun j hj => absurd hj (Nat.not_lt_zero j), of_decide_eq_true h⟩
  | k + 1, s, h => by
    obtain ⟨m, hm, rfl, h2⟩ := cn_step.mp h
    obtain ⟨f, f0, fe, fk⟩ := cn_way k m.2.2 h2
    refine ⟨fun j => match j with | 0 => m.1 | j + 1 => f j, rfl, fun j hj => ?_, fk⟩
    cases j with
    | zero => exact ⟨m, hm, rfl, f0.symm⟩
    | succ j => exact fe j (by omega)
theorem cn_back {M : Mac} {f : Nat → Int} {k : Nat} : ∀ (d a : Nat), (∀ j, a ≤ j → j < a + d → edge M (f j) (f (j + 1))) → cn M k (f (a + d)) = true → cn M (k + d) (f a) = true
  | 0, a, _, h => h
  | d + 1, a, he, h => by
    obtain ⟨m, hm, e1, e2⟩ := he a (Nat.le_refl a) (by omega)
    refine cn_step.mpr ⟨m, hm, e1, ?_⟩
    rw [e2]
    exact cn_back d (a + 1) (fun j h1 h2 => he j (by omega) (by omega)) (by rw [show a + 1 + d = a + (d + 1) by omega]; exact h)
theorem cn_less {M : Mac} (ok : MacOk M) {i : Nat} (h : cn M i 0 = true) (hi : M.n.toNat ≤ i) : ∃ i', i' < i ∧ i ≤ i' + M.n.toNat ∧ cn M i' 0 = true := by
  obtain ⟨f, f0, fe, fk⟩ := cn_way i 0 h
  have n1 := ok.n1
  have inn : ∀ j, j ≤ M.n.toNat → 0 ≤ f j ∧ f j < (M.n.toNat : Nat) := fun j hj => by
    cases j with
    | zero => rw [f0]; omega
    | succ j =>
      obtain ⟨m, hm, _, e2⟩ := fe j (by omega)
      have := (ok.msIn m hm).2.2
      rw [← e2]
      omega
  obtain ⟨a, b, hab, hb, e⟩ := meet inn
  have h1 : cn M (i - b) (f b) = true := by
    have h0 : cn M 0 (f (b + (i - b))) = true := by
      rw [show b + (i - b) = i by omega]
      exact decide_eq_true fk
    have := cn_back (M := M) (f := f) (k := 0) (i - b) b (fun j _ h2 => fe j (by omega)) h0
    rwa [Nat.zero_add] at this
  rw [← e] at h1
  have h2 : cn M (i - b + a) (f 0) = true := cn_back a 0 (fun j _ h2 => fe j (by omega)) (by rw [Nat.zero_add]; exact h1)
  rw [f0] at h2
  exact ⟨i - b + a, by omega, by omega, h2⟩
/-- all words of fewer than N letters -/
def upto (M : Mac) (N : Nat) : List (List Nat) := (List.range N).flatMap fun i => wd M i 0
theorem upto_succ (M : Mac) (N : Nat) : upto M (N + 1) = upto M N ++ wd M N 0 := by
  unfold upto
  rw [List.range_succ, List.flatMap_append]
  simp
theorem upto_many {M : Mac} (ok : MacOk M) : ∀ (t : Nat), (∃ i, M.n.toNat * t ≤ i ∧ cn M i 0 = true) → t ≤ (upto M (M.n.toNat * t)).length
  | 0, _ => Nat.zero_le _
  | t + 1, ⟨i, hi, h⟩ => by
    have n1 := ok.n1
    -- one of them within the last n lengths
    have near : ∀ d i, i ≤ d → M.n.toNat * (t + 1) ≤ i → cn M i 0 = true → ∃ j, M.n.toNat * t ≤ j ∧ j < M.n.toNat * (t + 1) ∧ cn M j 0 = true := fun d => by
      induction d with
      | zero =>
        intro i h1 h2 _
        have : M.n.toNat * (t + 1) = M.n.toNat * t + M.n.toNat := Nat.mul_succ _ _
        omega
      | succ d ih =>
        intro i h1 h2 h3
        have e : M.n.toNat * (t + 1) = M.n.toNat * t + M.n.toNat := Nat.mul_succ _ _
        obtain ⟨i', l1, l2, l3⟩ := cn_less ok h3 (by omega)
        by_cases q : M.n.toNat * (t + 1) ≤ i'
        · exact ih i' (by omega) q l3
        · exact ⟨i', by omega, by omega, l3⟩
    obtain ⟨j, j1, j2, j3⟩ := near i i (Nat.le_refl i) hi h
    have ih := upto_many ok t ⟨j, j1, j3⟩
    -- the words grow
    have grow : ∀ b a, a ≤ b → (upto M a).length ≤ (upto M b).length := fun b => by
      induction b with
      | zero => intro a ha; rw [show a = 0 by omega]; exact Nat.le_refl _
      | succ b ih =>
        intro a ha
        by_cases e : a = b + 1
        · rw [e]; exact Nat.le_refl _
        · rw [upto_succ, List.length_append]
          have := ih a (by omega)
          omega
    have g1 := grow j (M.n.toNat * t) j1
    have g2 := grow (M.n.toNat * (t + 1)) (j + 1) j2
    rw [upto_succ, List.length_append] at g2
    have : 0 < (wd M j 0).length := List.length_pos_iff.mpr ((wd_ne ok j 0).mpr j3)
    omega
/-- the first words, whatever the lengths looked at -/
theorem upto_same {M : Mac} (ok : MacOk M) {t N : Nat} (hN : M.n.toNat * t ≤ N) : (upto M N).take t = (upto M (M.n.toNat * t)).take t := by
  by_cases h : ∃ i, M.n.toNat * t ≤ i ∧ cn M i 0 = true
  · have hm := upto_many ok t h
    have grow : ∀ N, M.n.toNat * t ≤ N → (upto M N).take t = (upto M (M.n.toNat * t)).take t := fun N => by
      induction N with
      | zero => intro h; rw [show M.n.toNat * t = 0 by omega]
      | succ N ih =>
        intro hN
        by_cases e : M.n.toNat * t = N + 1
        · rw [e]
        · have ih' := ih (by omega)
          rw [upto_succ, List.take_append_of_le_length, ih']
          have : ∀ b a, a ≤ b → (upto M a).length ≤ (upto M b).length := fun b => by
            induction b with
            | zero => intro a ha; rw [show a = 0 by omega]; exact Nat.le_refl _
            | succ b ih =>
              intro a ha
              by_cases e : a = b + 1
              · rw [e]; exact Nat.le_refl _
              · rw [upto_succ, List.length_append]
                have := ih a (by omega)
                omega
          exact Nat.le_trans hm (this N _ (by omega))
    exact grow N hN
  · have none : ∀ N, M.n.toNat * t ≤ N → upto M N = upto M (M.n.toNat * t) := fun N => by
      induction N with
      | zero => intro h; rw [show M.n.toNat * t = 0 by omega]
      | succ N ih =>
        intro hN
        by_cases e : M.n.toNat * t = N + 1
        · rw [e]
        · rw [upto_succ, ih (by omega)]
          have : wd M N 0 = [] := Classical.byContradiction fun q => h ⟨N, by omega, (wd_ne ok N 0).mp q⟩
          rw [this, List.append_nil]
    rw [none N hN]
end Slip
/-! how the program finds the words -/
namespace Slip
open PySem PySem.Spec PyProof.Rows L2
theorem lex_ext : ∀ (l1 l2 : List (Int × Nat × Int)), l1.Pairwise lexM → l2.Pairwise lexM → (∀ x, x ∈ l1 ↔ x ∈ l2) → l1 = l2
  | [], [], _, _, _ => rfl
  | [], b :: l2, _, _, h => by have := (h b).mpr (List.mem_cons_self ..); cases this
  | a :: l1, [], _, _, h => by have := (h a).mp (List.mem_cons_self ..); cases this
  | a :: l1, b :: l2, p1, p2, h => by
    have q1 := List.pairwise_cons.mp p1
    have q2 := List.pairwise_cons.mp p2
    have ab : a = b := by
      rcases List.mem_cons.mp ((h a).mp (List.mem_cons_self ..)) with e | h1
      · exact e
      · rcases List.mem_cons.mp ((h b).mpr (List.mem_cons_self ..)) with e | h2
        · exact e.symm
        · have x1 := q2.1 _ h1
          have x2 := q1.1 _ h2
          rcases x1 with x1 | x1 <;> rcases x2 with x2 | x2 <;> omega
    subst ab
    have irr : ∀ (x : Int × Nat × Int), ¬ lexM x x := fun x z => by rcases z with z | z <;> omega
    rw [lex_ext l1 l2 q1.2 q2.2 fun x => by
      have hx := h x
      rw [List.mem_cons, List.mem_cons] at hx
      constructor
      · intro hm
        rcases hx.mp (.inr hm) with e | h2
        · exact absurd (q1.1 _ hm) (e ▸ irr a)
        · exact h2
      · intro hm
        rcases hx.mpr (.inr hm) with e | h2
        · exact absurd (q2.1 _ hm) (e ▸ irr a)
        · exact h2]
theorem letters_eq : letters = [97, 98, 99, 100, 101, 102] := by decide +kernel
/-- the moves of a state, letter by letter -/
theorem moves_of {M : Mac} (ok : MacOk M) (s : Int) : M.ms.filter (fun m => decide (m.1 = s)) = letters.filterMap fun c => (dl M.ms s c).map fun t => (s, c, t) := by
  refine lex_ext _ _ (ok.msUp.filter _) ?_ fun x => ?_
  · rw [List.pairwise_filterMap]
    have up : letters.Pairwise (· < ·) := by rw [letters_eq]; decide
    refine up.imp fun {c d} h x hx y hy => ?_
    cases q1 : dl M.ms s c with
    | none => rw [q1] at hx; cases hx
    | some t =>
      cases q2 : dl M.ms s d with
      | none => rw [q2] at hy; cases hy
      | some u =>
        rw [q1] at hx
        rw [q2] at hy
        cases hx
        cases hy
        exact .inr ⟨rfl, h⟩
  · rw [List.mem_filter, List.mem_filterMap]
    constructor
    · rintro ⟨hm, e⟩
      have e' : x.1 = s := of_decide_eq_true e
      obtain ⟨a, c, t⟩ := x
      cases e'
      exact ⟨c, (ok.msIn _ hm).2.1, by rw [dl_of ok.keys hm]; rfl⟩
    · rintro ⟨c, _, h⟩
      cases q : dl M.ms s c with
      | none => rw [q] at h; cases h
      | some t =>
        rw [q] at h
        cases h
        exact ⟨dl_mem q, decide_eq_true rfl⟩
theorem wd_moves {M : Mac} (ok : MacOk M) (k : Nat) (s : Int) : wd M (k + 1) s = (M.ms.filter fun m => decide (m.1 = s)).flatMap fun m => (wd M k m.2.2).map (m.2.1 :: ·) := by
  rw [moves_of ok s]
  show letters.flatMap _ = _
  induction letters with
  | nil => rfl
  | cons c l ih =>
    rw [List.flatMap_cons, List.filterMap_cons, ih]
    cases dl M.ms s c with
    | none => rfl
    | some t => rfl
/-- one letter on, where an end is k moves away -/
def stepF (M : Mac) (k : Nat) (found : List (List Nat × Int)) : List (List Nat × Int) := found.flatMap fun p => (M.ms.filter fun m => decide (m.1 = p.2) && cn M k m.2.2).map fun m => (p.1 ++ [m.2.1], m.2.2)
def goF (M : Mac) (many : Nat) : Nat → List (List Nat × Int) → List (List Nat × Int)
  | 0, f => f
  | k + 1, f => goF M many k ((stepF M k f).take many)
theorem flat_filter {α β : Type} (p : α → Bool) (g : α → List β) : ∀ l : List α, (∀ x ∈ l, p x = false → g x = []) → (l.filter p).flatMap g = l.flatMap g
  | [], _ => rfl
  | a :: l, h => by
    have ih := flat_filter p g l fun x hx => h x (List.mem_cons_of_mem _ hx)
    cases q : p a with
    | true => rw [List.filter_cons_of_pos q, List.flatMap_cons, List.flatMap_cons, ih]
    | false => rw [List.filter_cons_of_neg (by rw [q]; exact Bool.false_ne_true), List.flatMap_cons, ih, h a (List.mem_cons_self ..) q, List.nil_append]
theorem take_flat {α β : Type} (g : α → List β) (n : Nat) : ∀ (l : List α) (m : Nat), n ≤ m → (∀ x ∈ l, g x ≠ []) → ((l.take m).flatMap g).take n = (l.flatMap g).take n := fun l => by
  induction l generalizing n with
  | nil => intro m _ _; rw [List.take_nil]
  | cons a l ih =>
    intro m hm hg
    cases m with
    | zero =>
      rw [show n = 0 by omega]
      simp
    | succ m =>
      rw [List.take_succ_cons, List.flatMap_cons, List.flatMap_cons, List.take_append, List.take_append]
      have ga := hg a (List.mem_cons_self ..)
      have : 0 < (g a).length := List.length_pos_iff.mpr ga
      rw [ih (n - (g a).length) m (by omega) fun x hx => hg x (List.mem_cons_of_mem _ hx)]
theorem step_flat {M : Mac} (ok : MacOk M) (k : Nat) (f : List (List Nat × Int)) : (stepF M k f).flatMap (fun p => (wd M k p.2).map (p.1 ++ ·)) = f.flatMap fun p => (wd M (k + 1) p.2).map (p.1 ++ ·) := by
  unfold stepF
  rw [List.flatMap_assoc]
  refine congrArg (fun g => f.flatMap g) (funext fun p => ?_)
  rw [List.flatMap_map, wd_moves ok]
  have e1 : (M.ms.filter fun m => decide (m.1 = p.2) && cn M k m.2.2) = (M.ms.filter fun m => decide (m.1 = p.2)).filter fun m => cn M k m.2.2 := by
    rw [List.filter_filter]
    refine List.filter_congr fun m _ => ?_
    exact Bool.and_comm _ _
  rw [e1, flat_filter, List.map_flatMap]
  · refine congrArg (fun g => (M.ms.filter fun m => decide (m.1 = p.2)).flatMap g) (funext fun m => ?_)
    rw [List.map_map]
    refine List.map_congr_left fun w _ => ?_
    show p.1 ++ [m.2.1] ++ w = p.1 ++ (m.2.1 :: w)
    rw [List.append_assoc]
    rfl
  · intro m _ hf
    have : wd M k m.2.2 = [] := Classical.byContradiction fun q => by
      have := (wd_ne ok k m.2.2).mp q
      rw [hf] at this
      cases this
    rw [this]
    rfl
theorem step_cn {M : Mac} {k : Nat} {f : List (List Nat × Int)} {p : List Nat × Int} (h : p ∈ stepF M k f) : cn M k p.2 = true := by
  obtain ⟨q, _, h⟩ := List.mem_flatMap.mp h
  obtain ⟨m, hm, rfl⟩ := List.mem_map.mp h
  have := (List.mem_filter.mp hm).2
  have h' : m.1 = q.2 ∧ cn M k m.2.2 = true := by simpa using this
  exact h'.2
theorem goF_words {M : Mac} (ok : MacOk M) {many : Nat} : ∀ (k : Nat) (f : List (List Nat × Int)), (∀ p ∈ f, cn M k p.2 = true) → f.length ≤ many → (goF M many k f).map Prod.fst = (f.flatMap fun p => (wd M k p.2).map (p.1 ++ ·)).take many
  | 0, f, hc, hl => by
    have e : ∀ l : List (List Nat × Int), (∀ p ∈ l, cn M 0 p.2 = true) → (l.flatMap fun p => (wd M 0 p.2).map (p.1 ++ ·)) = l.map Prod.fst := fun l => by
      induction l with
      | nil => intro _; rfl
      | cons a l ih =>
        intro h
        have ha : a.2 ∈ M.es := of_decide_eq_true (h a (List.mem_cons_self ..))
        have hw : wd M 0 a.2 = [[]] := if_pos ha
        rw [List.flatMap_cons, hw, ih fun p hp => h p (List.mem_cons_of_mem _ hp)]
        show [a.1 ++ []] ++ _ = _
        rw [List.append_nil]
        rfl
    rw [e f hc, List.take_of_length_le (by rw [List.length_map]; exact hl)]
    rfl
  | k + 1, f, hc, hl => by
    show (goF M many k ((stepF M k f).take many)).map Prod.fst = _
    rw [goF_words ok k _ (fun p hp => step_cn (List.mem_of_mem_take hp)) (by rw [List.length_take]; omega), take_flat _ many _ many (Nat.le_refl _), step_flat ok]
    intro p hp
    have := (wd_ne ok k p.2).mpr (step_cn hp)
    intro z
    exact this (List.map_eq_nil_iff.mp z)
theorem goF_len {M : Mac} {many : Nat} : ∀ (k : Nat) (f : List (List Nat × Int)), f.length ≤ many → (goF M many k f).length ≤ many
  | 0, _, h => h
  | k + 1, f, _ => goF_len k _ (by rw [List.length_take]; omega)
/-- all words of k letters, the first of them -/
def wordsF (M : Mac) (many k : Nat) : List (List Nat × Int) := goF M many k (if cn M k 0 then [([], 0)] else [])
theorem wordsF_eq {M : Mac} (ok : MacOk M) {many k : Nat} (h1 : 1 ≤ many) : (wordsF M many k).map Prod.fst = (wd M k 0).take many := by
  unfold wordsF
  cases q : cn M k 0 with
  | true =>
    rw [if_pos rfl, goF_words ok k _ (fun p hp => by rw [List.mem_singleton.mp hp]; exact q) (by show 1 ≤ many; exact h1)]
    show (((wd M k 0).map ([] ++ ·)) ++ []).take many = _
    rw [List.append_nil]
    congr 1
    exact List.map_id _
  | false =>
    rw [if_neg Bool.false_ne_true, goF_words ok k _ (fun p hp => by cases hp) (Nat.zero_le _)]
    have : wd M k 0 = [] := Classical.byContradiction fun z => by
      have := (wd_ne ok k 0).mp z
      rw [q] at this
      cases this
    rw [this]
    rfl
end Slip
/-! comprehensions of two walks; the words of one length, as the program finds them -/
namespace Slip
open PySem PySem.Spec PyProof.Rows L2
/-- a walk whose sequence stood before H, wherever it is met -/
def EvB (ρ : Rl) (wi : TI) (σ : L2.St) (H : Hp) (n : Nat) (Y : Nat → Hp → V → Hp → Prop) : Prop :=
  ∀ H1, ρ.r H H1 → ∀ R : It → Hp → Prop, (∀ J H2, ρ.r H1 H2 → Walk J n (fun H3 => ρ.r H H3) Y → R J H2) → wi σ H1 R
theorem flat_le {α : Type} (F : Nat → List α) : ∀ (n i : Nat), i ≤ n → ((List.range i).flatMap F).length ≤ ((List.range n).flatMap F).length
  | 0, i, h => by rw [show i = 0 by omega]; exact Nat.le_refl _
  | n + 1, i, h => by
    by_cases e : i = n + 1
    · rw [e]; exact Nat.le_refl _
    · have := flat_le F n i (by omega)
      rw [List.range_succ, List.flatMap_append, List.length_append]
      omega
theorem flat_succ {α : Type} (F : Nat → List α) (i : Nat) : (List.range (i + 1)).flatMap F = (List.range i).flatMap F ++ F i := by
  rw [List.range_succ, List.flatMap_append]
  simp
theorem fm_le {α : Type} (G : Nat → Option α) : ∀ (n i : Nat), i ≤ n → ((List.range i).filterMap G).length ≤ ((List.range n).filterMap G).length
  | 0, i, h => by rw [show i = 0 by omega]; exact Nat.le_refl _
  | n + 1, i, h => by
    by_cases e : i = n + 1
    · rw [e]; exact Nat.le_refl _
    · have := fm_le G n i (by omega)
      rw [List.range_succ, List.filterMap_append, List.length_append]
      omega
theorem fm_succ {α : Type} (G : Nat → Option α) (i : Nat) : (List.range (i + 1)).filterMap G = (List.range i).filterMap G ++ (match G i with | some d => [d] | none => []) := by
  rw [List.range_succ, List.filterMap_append]
  congr 1
  cases h : G i with
  | none => simp [h]
  | some d => simp [h]
section
variable {ρ : Rl} {K : Frag} {σ : L2.St} {H : Hp} {te : TE} {tt1 : TT} {wi wi1 : TI} {g g1 : TG} {vs vs1 : List Nat} {n : Nat} {Y : Nat → Hp → V → Hp → Prop} {F : Nat → List PyData}
theorem ev_lc2D (own : Own ρ H) (hI : EvI ρ wi σ H n Y) (hY : ∀ i H2 x H3, Y i H2 x H3 → H3 = H2) (hlen : ((List.range n).flatMap F).length ≤ 90000)
    (hs : ∀ H1, ρ.r H H1 → ∀ i x H2, i < n → ρ.r H1 H2 → Y i H2 x H2 → ∃ (σ2 : L2.St) (n1 : Nat) (Y1 : Nat → Hp → V → Hp → Prop) (G : Nat → Option PyData), wipe σ2 vs = wipe σ vs ∧ (∀ cont : L2.St → Hp → Prop, cont σ2 H2 → g x (wipe σ vs) H2 cont) ∧ EvB ρ wi1 σ2 H1 n1 Y1 ∧ (∀ j H3 y H4, Y1 j H3 y H4 → H4 = H3) ∧
      F i = (List.range n1).filterMap G ∧ (∀ j d, G j = some d → noList d = true) ∧ ∀ j y H3, j < n1 → ρ.r H1 H3 → Y1 j H3 y H3 → ∃ σ3 : L2.St, wipe σ3 vs1 = wipe σ2 vs1 ∧ (∀ cont : L2.St → Hp → Prop, cont σ3 H3 → g1 y (wipe σ2 vs1) H3 cont) ∧ EvT ρ tt1 σ3 H3 (G j).isSome ∧ ∀ d, G j = some d → Ev ρ te σ3 H3 (fun v H4 => DS ρ H4 v d)) :
    Ev ρ (tLc2 wi g tYes wi1 g1 tt1 te vs vs1) σ H (fun v H2 => ∃ p xs, v = .ref p ∧ ¬ ρ.S p ∧ H p = none ∧ H2 p = some (.lst xs) ∧ DSs ρ H2 xs ((List.range n).flatMap F)) := fun H0 e0 Q q =>
  hI H0 e0 _ fun J H1 e1 w D hD => by
    have e01 := e0.trans e1
    have nS : ¬ ρ.S D := (own.r e01).fresh hD
    refine ⟨fun i m H' => m = n - i ∧ i ≤ n ∧ ρ.r H1 H' ∧ ∃ xs, H' D = some (.lst xs) ∧ DSs ρ H' xs ((List.range i).flatMap F) ∧ noLists ((List.range i).flatMap F) = true, ⟨n, by simp, Nat.zero_le _, r_new _ hD, [], upd_same, .nil, rfl⟩, ?_⟩
    rintro i m H' ⟨rfl, hi, r, xs, hx, hds, hnl⟩
    rcases Nat.lt_or_ge i n with hlt | hge
    rotate_left
    · have ei : i = n := by omega
      subst ei
      exact .inl ⟨w.stops H' r, q _ H' (e1.trans r) ⟨D, xs, rfl, nS, e01.back D hD, hx, hds⟩⟩
    refine .inr ⟨w.goes i H' hlt r, fun H2 => ρ.r H1 H2 ∧ ∃ xs, H2 D = some (.lst xs) ∧ DSs ρ H2 xs ((List.range (i + 1)).flatMap F) ∧ noLists ((List.range (i + 1)).flatMap F) = true, fun H2 h2 => ⟨n - (i + 1), by omega, rfl, hlt, h2.1, h2.2⟩, fun x H3 y => ?_⟩
    have y' := w.yields i H' x H3 hlt r y
    have := hY i H' x H3 y'
    subst this
    obtain ⟨σ2, n1, Y1, G, hw2, hg, hB, hY1, hF, hGn, hin⟩ := hs H1 e01 i x H3 hlt r y'
    refine hg _ ⟨hw2, ?_⟩
    show wi1 σ2 H3 _
    refine hB H3 r _ fun J1 H4 r4 w1 => ?_
    have r14 := r.trans r4
    have nlG : ∀ j, noLists ((List.range j).filterMap G) = true := fun j => noLists_of fun d hd => by
      obtain ⟨a, _, ha⟩ := List.mem_filterMap.mp hd
      exact hGn a d ha
    have nlA : ∀ {l1 l2 : List PyData}, noLists l1 = true → noLists l2 = true → noLists (l1 ++ l2) = true := fun {l1 l2} h1 h2 => noLists_of fun d hd => (List.mem_append.mp hd).elim (noLists_mem h1) (noLists_mem h2)
    refine ⟨fun j k H' => k = n1 - j ∧ j ≤ n1 ∧ ρ.r H1 H' ∧ ∃ xs, H' D = some (.lst xs) ∧ DSs ρ H' xs ((List.range i).flatMap F ++ (List.range j).filterMap G), ⟨n1, by simp, Nat.zero_le _, r14, xs, r4.keep _ _ nS hx, by show DSs ρ H4 xs ((List.range i).flatMap F ++ []); rw [List.append_nil]; exact r4.dss hds⟩, ?_⟩
    rintro j k H5 ⟨rfl, hj, r5, xs5, hx5, hds5⟩
    by_cases hjl : j < n1
    · refine .inr ⟨w1.goes j H5 hjl r5, fun H' => ρ.r H1 H' ∧ ∃ xs, H' D = some (.lst xs) ∧ DSs ρ H' xs ((List.range i).flatMap F ++ (List.range (j + 1)).filterMap G), fun H' h' => ⟨n1 - (j + 1), by omega, rfl, hjl, h'.1, h'.2⟩, fun y H6 yl => ?_⟩
      have y1' := w1.yields j H5 y H6 hjl r5 yl
      have := hY1 j H5 y H6 y1'
      subst this
      obtain ⟨σ3, hw3, hg1, htt, hte⟩ := hin j y H6 hjl r5 y1'
      refine hg1 _ ⟨hw3, ?_⟩
      refine htt H6 .rfl _ fun H7 r7 => ?_
      cases hG : G j with
      | none =>
        refine ⟨r5.trans r7, xs5, r7.keep _ _ nS hx5, ?_⟩
        rw [fm_succ, hG, List.append_nil]
        exact r7.dss hds5
      | some d =>
        show te σ3 H7 _
        refine hte d hG H7 r7 _ fun v H8 r8 hv => ?_
        have r78 := r7.trans r8
        have h8 : H8 D = some (.lst xs5) := r78.keep _ _ nS hx5
        have l5 := hds5.length
        have b1 := flat_le F n (i + 1) hlt
        rw [flat_succ, hF, List.length_append] at b1
        have b2 := fm_le G n1 j hj
        rw [List.length_append] at l5
        have chg : (ρ.and D).r H8 (upd H8 D (.lst (xs5 ++ [v]))) := r_chg h8 nS
        refine ⟨xs5, h8, Evl.sz_lt (by omega), r_mut (r5.trans r78) hD, xs5 ++ [v], upd_same, ?_⟩
        rw [fm_succ, hG, ← List.append_assoc]
        refine (((r78.dss hds5).tups chg.tup _ _ (nlA hnl (nlG j)))).append (.cons ?_ .nil)
        exact hv.tups chg.tup _ _ (hGn j d hG)
    · have ej : j = n1 := by omega
      subst ej
      refine .inl ⟨w1.stops H5 r5, r5, xs5, hx5, ?_, ?_⟩
      · rw [flat_succ, hF]
        exact hds5
      · rw [flat_succ, hF]
        exact nlA hnl (nlG j)
end
end Slip
/-! the words of one length, as the program finds them -/
namespace Slip
open PySem PySem.Spec PyProof.Rows L2
def toS (w : List Nat) : Str := ⟨w.toArray⟩
theorem toS_snoc (w : List Nat) (c : Nat) : toS w ++ ⟨#[c]⟩ = toS (w ++ [c]) := by
  show Str.mk (w.toArray ++ #[c]) = Str.mk (w ++ [c]).toArray
  simp
theorem toS_len (w : List Nat) : (toS w).length = w.length := by simp [toS, Str.length]
def fData (f : List (List Nat × Int)) : List PyData := f.map fun p => .tuple [.str (toS p.1), .int p.2]
def rowAt {α β : Type} (l : List α) (g : α → List β) (i : Nat) : List β := ((l[i]?).map g).getD []
def optAt {α β : Type} (l : List α) (h : α → Option β) (i : Nat) : Option β := (l[i]?).bind h
theorem rowAt_some {α β : Type} {l : List α} {g : α → List β} {i : Nat} {p : α} (e : l[i]? = some p) : rowAt l g i = g p := by
  unfold rowAt
  rw [e]
  rfl
theorem rowAt_none {α β : Type} {l : List α} {g : α → List β} {i : Nat} (e : l[i]? = none) : rowAt l g i = [] := by
  unfold rowAt
  rw [e]
  rfl
theorem optAt_some {α β : Type} {l : List α} {h : α → Option β} {i : Nat} {p : α} (e : l[i]? = some p) : optAt l h i = h p := by
  unfold optAt
  rw [e]
  rfl
theorem optAt_none {α β : Type} {l : List α} {h : α → Option β} {i : Nat} (e : l[i]? = none) : optAt l h i = none := by
  unfold optAt
  rw [e]
  rfl
theorem range_flat {α β : Type} (g : α → List β) (l : List α) : (List.range l.length).flatMap (rowAt l g) = l.flatMap g := by
  have gen : ∀ n, n ≤ l.length → (List.range n).flatMap (rowAt l g) = (l.take n).flatMap g := fun n => by
    induction n with
    | zero => intro _; rfl
    | succ n ih =>
      intro h
      rw [flat_succ, ih (by omega), List.take_add_one, List.flatMap_append, List.getElem?_eq_getElem (by omega), rowAt_some (List.getElem?_eq_getElem (by omega))]
      simp
  have := gen l.length (Nat.le_refl _)
  rwa [List.take_length] at this
theorem range_fm {α β : Type} (h : α → Option β) (l : List α) : (List.range l.length).filterMap (optAt l h) = l.filterMap h := by
  have gen : ∀ n, n ≤ l.length → (List.range n).filterMap (optAt l h) = (l.take n).filterMap h := fun n => by
    induction n with
    | zero => intro _; rfl
    | succ n ih =>
      intro hn
      rw [fm_succ, ih (by omega), List.take_add_one, List.filterMap_append, List.getElem?_eq_getElem (by omega), optAt_some (List.getElem?_eq_getElem (by omega))]
      cases q : h l[n] with
      | none => simp [q]
      | some d => simp [q]
  have := gen l.length (Nat.le_refl _)
  rwa [List.take_length] at this
theorem fm_filter {α β : Type} (p : α → Bool) (f : α → β) : ∀ l : List α, (l.filterMap fun a => if p a then some (f a) else none) = (l.filter p).map f
  | [] => rfl
  | a :: l => by
    have ih := fm_filter p f l
    cases q : p a with
    | true =>
      rw [List.filter_cons_of_pos q, List.filterMap_cons_some (b := f a) (by rw [q]; rfl), ih]
      rfl
    | false => rw [List.filter_cons_of_neg (by rw [q]; exact Bool.false_ne_true), List.filterMap_cons_none (by rw [q]; rfl), ih]
section
variable {ρ : Rl} {K : Frag} {σ : L2.St} {H : Hp} {ta tb : TE} {a : Addr} {xs : List V} {v : V}
/-- xs[-1] -/
theorem ev_ixL (h1 : EvV ρ ta σ H (.ref a)) (h2 : EvV ρ tb σ H (.int (-1))) (hs : ∀ H1, ρ.r H H1 → SqA K H1 a (xs ++ [v])) : EvV ρ (tIxU K ta tb) σ H v :=
  fun H1 e1 Q q => .inl (ev_op h1 h2 (RV.const (r := rIx K) fun H2 e2 _ q => (hs H2 e2).elim (fun hs => .inl ⟨a, _, -1, v, rfl, rfl, hs, atI_last xs v, q⟩) fun hs => .inr (.inl ⟨a, _, -1, v, rfl, rfl, hs, atI_last xs v, q⟩)) H1 e1 Q q)
end
theorem cut_last (xs : List V) (v : V) : cutV (xs ++ [v]) none (some (-1)) = xs := by
  have e : HT.sIx (xs ++ [v]).length (xs ++ [v]).length (some (-1)) = xs.length := by
    show (if (-1 : Int) < 0 then ((-1 : Int) + ((xs ++ [v]).length : Int)).toNat else min (-1 : Int).toNat (xs ++ [v]).length) = _
    rw [if_pos (by decide), List.length_append, List.length_singleton]
    omega
  unfold cutV
  rw [HT.sIx_none, e, List.drop_zero, Nat.sub_zero, List.take_left]
theorem cut_take (xs : List V) (m : Nat) : cutV xs none (some (m : Int)) = xs.take m := by
  unfold cutV
  rw [HT.sIx_none, HT.sIx_nat, List.drop_zero, Nat.sub_zero]
  by_cases h : m ≤ xs.length
  · rw [Nat.min_eq_left h]
  · rw [Nat.min_eq_right (by omega), List.take_length, List.take_of_length_le (by omega)]
theorem dss_last {A : Addr → Prop} {H : Hp} {xs : List V} {ds : List PyData} {d : PyData} (h : DqAll A H xs (ds ++ [d])) : ∃ xs0 x, xs = xs0 ++ [x] ∧ DqAll A H xs0 ds ∧ Dq A H x d := by
  have hl := h.length
  rw [List.length_append, List.length_singleton] at hl
  have h1 := h.take ds.length
  have h2 := h.drop ds.length
  rw [List.take_left] at h1
  rw [List.drop_left] at h2
  cases hq : xs.drop ds.length with
  | nil => rw [hq] at h2; cases h2
  | cons x r =>
    rw [hq] at h2
    cases h2 with | cons h3 h4 =>
      cases h4
      exact ⟨xs.take ds.length, x, by rw [← hq, List.take_append_drop], h1, h3⟩
/-- what the lists of states near an end tell -/
structure Near (M : Mac) (gs : List (List Int)) : Prop where
  at_ : ∀ (j : Nat) g, gs[j]? = some g → ∀ s, s ∈ g ↔ cn M j s = true
  len : ∀ g ∈ gs, g.length ≤ 1000
  few : gs.length ≤ 1000
abbrev gData (gs : List (List Int)) : PyData := .list (gs.map fun g => .list (g.map PyData.int))
def nextW (M : Mac) (k : Nat) (q : List Nat × Int) : List PyData := (M.ms.filter fun m => decide (m.1 = q.2) && cn M k m.2.2).map fun m => PyData.tuple [.str (toS (q.1 ++ [m.2.1])), .int m.2.2]
def wordV (f : List (List Nat × Int)) (i : Nat) : V := ((f[i]?).map fun w => V.str (toS w.1)).getD .non
theorem wordV_some {f : List (List Nat × Int)} {i : Nat} {w : List Nat × Int} (e : f[i]? = some w) : wordV f i = .str (toS w.1) := by
  unfold wordV
  rw [e]
  rfl
def sp_longest_words (K : Frag) : Sp := fun vs H Q _ => ∃ (mv : V) (md : PyData) (e : Addr) (many : Int) (M : Mac) (gs : List (List Int)), vs = [mv, .ref e, .int many] ∧ DS exR H mv md ∧ tupD md = .tuple (M.ms.map mvD) ∧ MacOk M ∧ DS exR H (.ref e) (gData gs) ∧ gs ≠ [] ∧ Near M gs ∧ 1 ≤ many ∧ many ≤ 50 ∧
  ∀ p H', H p = none → Ext H H' → H' p = some (.lst (((wd M (gs.length - 1) 0).take many.toNat).map fun w => V.str (toS w))) → Q (.ref p) H'
theorem len_longest_words {K : Frag} {vs : List V} {H : Hp} {Q : VK} {E : XK} (h : sp_longest_words K vs H Q E) : vs.length = 3 := by
  obtain ⟨mv, md, e, many, M, gs, rfl, _⟩ := h
  rfl
def t_longest_words (K : Frag) : TS := (tSeq (tAsg (tIf (tTest (tOp (rInU K) (tC (.int 0)) (tIxU K (tVar 1) (tUn rNegI (tC (.int 1)))))) (tLst (tCons (tTup (tCons (tC (.str "")) (tCons (tC (.int 0)) tNil))) tNil)) (tLst tNil)) (gName 3)) (tSeq (tFor (RT.iRevA K (tSl (rSlU K) (tVar 1) tNoPart (tPart (tUn rNegI (tC (.int 1)))))) (gName 4) (tSeq (tAsg (tLc2 (iSeq K (tVar 3)) (gSeq K 2 (gCons (gName 5) (gCons (gName 6) gNil))) tYes (iSeq K (tVar 0)) (gSeq K 3 (gCons (gName 7) (gCons (gName 8) (gCons (gName 9) gNil)))) (tAnd (tTest (tOp (rEqU K) (tVar 7) (tVar 6))) (tTest (tOp (rInU K) (tVar 9) (tVar 4)))) (tTup (tCons (tOp (rAddU K) (tVar 5) (tVar 8)) (tCons (tVar 9) tNil))) [5, 6, 7, 8, 9] [7, 8, 9]) (gName 3)) (tAsg (tSl (rSlU K) (tVar 3) tNoPart (tPart (tVar 2))) (gName 3)))) (tRet (tLc (iSeq K (tVar 3)) (gSeq K 2 (gCons (gName 5) (gCons (gName 6) gNil))) tYes (tVar 5) [5, 6]))))
theorem pure_longest_words {K : Frag} (vs : List V) (H : Hp) (Q : VK) (E : XK) (h : sp_longest_words K vs H Q E) : t_longest_words K { nx := fun _ H' => Q .non H', rt := Q } (start ["moves", "ending", "many", "found", "goals", "word", "at", "state", "letter", "behind"] vs) H := by
  obtain ⟨mv, md, e, many, M, gs, rfl, hmv, hmd, ok, he, hne, near, m1, m50, k⟩ := h
  -- the moves
  obtain ⟨hq, him⟩ := mixed_items hmd
  obtain ⟨ma, mxs, rfl, hma, hmsq, hmsq2⟩ := hmv.seqd hq
  have lm : mxs.length = M.ms.length := by
    have := congrArg List.length him
    rw [List.length_map, List.length_map] at this
    rw [hma.length, this]
  have moveAt : ∀ (j : Nat) x, mxs[j]? = some x → ∃ m d1, M.ms[j]? = some m ∧ DS exR H x d1 ∧ tupD d1 = mvD m := fun j x hx => by
    obtain ⟨d1, g1, g2⟩ := hma.get hx
    obtain ⟨m, g3, g4⟩ := mixed_get him g1
    exact ⟨m, d1, g3, g2, g4⟩
  -- the lists of states
  obtain ⟨gs0, gl, rfl⟩ : ∃ gs0 gl, gs = gs0 ++ [gl] := ⟨gs.dropLast, gs.getLast hne, (List.dropLast_concat_getLast hne).symm⟩
  have hk : (gs0 ++ [gl]).length - 1 = gs0.length := by rw [List.length_append, List.length_singleton]; omega
  rw [hk] at k
  have lgs : gs0.length ≤ 1000 := by
    have := near.few
    rw [List.length_append] at this
    omega
  obtain ⟨exs, hexs, hE⟩ : ∃ exs, H e = some (.lst exs) ∧ DSs exR H exs ((gs0 ++ [gl]).map fun g => .list (g.map PyData.int)) := by
    cases he with | lst _ hs ha => exact ⟨_, hs, ha⟩
  rw [List.map_append] at hE
  obtain ⟨xs0, xl, rfl, hx0, hxl⟩ := dss_last hE
  have lx0 : xs0.length = gs0.length := by rw [hx0.length, List.length_map]
  have numAt : ∀ {H1 : Hp} {x : V} {g : List Int}, exR.r H H1 → DS exR H x (.list (g.map PyData.int)) → ∃ r, x = .ref r ∧ ∀ H2, exR.r H1 H2 → SqA K H2 r (g.map V.int) := fun e1 hd => by
    cases hd with | lst n hs ha =>
      have := ints_of ha
      subst this
      exact ⟨_, rfl, fun H2 e2 => .inl (.of ((e1.trans e2).keep _ _ n hs))⟩
  obtain ⟨rl, rfl, hrl⟩ := numAt (H1 := H) .rfl hxl
  have inl : (decide ((0 : Int) ∈ gl)) = cn M gs0.length 0 := by
    have := near.at_ gs0.length gl (by simp) 0
    rw [Bool.eq_iff_iff, decide_eq_true_eq]
    exact this
  -- the beginning
  refine q_asg (ρ := exR) (R := fun v H' => ∃ p ys, v = .ref p ∧ H' p = some (.lst ys) ∧ DSs exR H' ys (fData (if cn M gs0.length 0 then [([], 0)] else []))) (ev_if (et_test (ev_inI (i := 0) (es := gl) ev_c (ev_ixL (xs := xs0) (v := .ref rl) (ev_var rfl) (ev_neg ev_c) (fun H1 e1 => .inl (.of (e1.ext _ _ hexs)))) hrl)) (fun hb => ?_) fun hb => ?_) fun v H1 e1 ⟨p, ys, ev, hp, hys⟩ => ?_
  · rw [inl] at hb
    rw [hb]
    refine (ev_lst (Rr := fun vs H' => DSs exR H' vs [.tuple [.str (toS []), .int 0]]) (ea_consD Le.rfl (ev_pairD Le.rfl ev_c ev_c (.str "") (.int 0)) fun _ _ => ea_nilD) fun vs H1 _ h => by rw [h.length]; show 1 ≤ 100000; decide).imp fun v H2 r ⟨p, vs, H3, ev, hvs, hp, r3, eH⟩ => ⟨p, vs, ev, by rw [eH]; exact upd_same, ?_⟩
    exact (eH ▸ r_new (ρ := exR) _ hp : exR.r H3 H2).dss hvs
  · rw [inl] at hb
    rw [hb]
    refine (ev_lst ea_nil fun vs H1 _ e => by rw [e]; show 0 ≤ 100000; decide).imp fun v H2 r ⟨p, vs, H3, ev, evs, hp, r3, eH⟩ => ⟨p, vs, ev, by rw [eH]; exact upd_same, ?_⟩
    rw [evs]
    exact .nil
  subst ev
  have many_nat : (many.toNat : Int) = many := by omega
  -- letter by letter
  refine q_for (ρ := exR) (n := xs0.length) (Y := fun i H x H' => H' = H ∧ xs0[xs0.length - 1 - i]? = some x) (fun H2 e2 R kk => (ev_slL2 (ρ := exR) (K := K) own_ex (ev_var (v := .ref e) rfl) eo_none (eo_some (ev_neg (ev_c (v := .int 1)))) (fun H3 e3 => .of ((e1.trans e3).ext _ _ hexs))) H2 e2 _ fun v H3 e3 ⟨q, ev, nS, _, hq⟩ => ⟨q, xs0, ev, .inl ⟨.of (by rw [hq]; exact congrArg (fun l => some (HO.lst l)) (cut_last xs0 (.ref rl))), kk _ H3 e3 (walk_rev.mono (fun H4 e4 => .of (by rw [e4.ext _ _ hq]; exact congrArg (fun l => some (HO.lst l)) (cut_last xs0 (.ref rl)))) fun _ _ _ _ _ _ y => y)⟩⟩) fun H2 e2 => ⟨fun i σ' H' => exR.r H2 H' ∧ ∃ (p : Addr) (ys : List V) (u : Option V) (f : List (List Nat × Int)), σ' = [some (.ref ma), some (.ref e), some (.int many), some (.ref p), u, none, none, none, none, none] ∧ H' p = some (.lst ys) ∧ DSs exR H' ys (fData f) ∧ goF M many.toNat (xs0.length - i) f = wordsF M many.toNat xs0.length ∧ f.length ≤ many.toNat ∧ ∀ w ∈ f, w.1.length ≤ i,
    ⟨.rfl, p, ys, _, if cn M gs0.length 0 then [([], 0)] else [], rfl, e2.ext _ _ hp, e2.dss hys, ?_, ?_, ?_⟩, fun i σ' H' _ h => h.1, ?_, ?_⟩
  · rw [Nat.sub_zero, lx0]
    rfl
  · split
    · show 1 ≤ many.toNat; omega
    · exact Nat.zero_le _
  · intro w hw
    split at hw
    · rw [List.mem_singleton.mp hw]; exact Nat.le_refl 0
    · cases hw
  · rintro i x σ' H' H'' hi ⟨r, p, ys, u, f, rfl, hp, hys, hgo, hfl, hwl⟩ ⟨e5, hx⟩
    subst e5
    have r0 : exR.r H H'' := e1.trans (e2.trans r)
    have hkk : xs0.length - i = (xs0.length - 1 - i) + 1 := by omega
    obtain ⟨gd, gd1, gd2⟩ := hx0.get hx
    rw [List.getElem?_map] at gd1
    obtain ⟨g, hg0, rfl⟩ : ∃ g, gs0[xs0.length - 1 - i]? = some g ∧ gd = .list (g.map PyData.int) := by
      cases q : gs0[xs0.length - 1 - i]? with
      | none => rw [q] at gd1; cases gd1
      | some g => rw [q] at gd1; exact ⟨g, rfl, (Option.some.inj gd1).symm⟩
    obtain ⟨rg, rfl, hrg⟩ := numAt r0 gd2
    have ing : ∀ s, decide (s ∈ g) = cn M (xs0.length - 1 - i) s := fun s => by
      have := near.at_ (xs0.length - 1 - i) g (by rw [List.getElem?_append_left (List.getElem?_eq_some_iff.mp hg0).1]; exact hg0) s
      rw [Bool.eq_iff_iff, decide_eq_true_eq]
      exact this
    have lys : ys.length = f.length := by rw [hys.length]; exact List.length_map _
    -- the words with a letter more
    have hdata : ((List.range ys.length).flatMap (rowAt f (nextW M (xs0.length - 1 - i)))) = fData (stepF M (xs0.length - 1 - i) f) := by
      rw [lys, range_flat]
      unfold fData stepF
      rw [List.map_flatMap]
      refine congrArg (fun g => f.flatMap g) (funext fun q => ?_)
      rw [List.map_map]
      rfl
    refine q_asg (ρ := exR) (ev_lc2D (n := ys.length) (F := rowAt f (nextW M (xs0.length - 1 - i))) own_ex (ei_seq (ev_var rfl) (fun H3 e3 => .inl (.of (e3.ext _ _ hp))) (.inl fun H3 e3 => .of (e3.ext _ _ hp))) (fun i H2 x H3 y => y.1) ?_ ?_) fun v H3 e3 ⟨p2, ys2, ev, _, _, hp2, hys2⟩ => ?_
    · have : ∀ n, n ≤ ys.length → ((List.range n).flatMap (rowAt f (nextW M (xs0.length - 1 - i)))).length ≤ 48 * n := fun n => by
        induction n with
        | zero => intro _; exact Nat.le_refl _
        | succ n ih =>
          intro hn
          rw [flat_succ, List.length_append]
          have h1 := ih (by omega)
          have h2 : (rowAt f (nextW M (xs0.length - 1 - i)) n).length ≤ 48 := by
            cases q : f[n]? with
            | none => rw [rowAt_none q]; exact Nat.zero_le _
            | some w =>
              rw [rowAt_some q]
              unfold nextW
              rw [List.length_map]
              exact Nat.le_trans (List.length_filter_le _ _) ok.msLen
          omega
      have := this ys.length (Nat.le_refl _)
      omega
    · rintro H3 e3 j y H4 hj e4 ⟨_, hy⟩
      obtain ⟨d1, q1, q2⟩ := hys.get hy
      have q1' : (f.map fun p => PyData.tuple [.str (toS p.1), .int p.2])[j]? = some d1 := q1
      rw [List.getElem?_map] at q1'
      obtain ⟨w, hw, rfl⟩ : ∃ w, f[j]? = some w ∧ d1 = .tuple [.str (toS w.1), .int w.2] := by
        cases q : f[j]? with
        | none => rw [q] at q1'; cases q1'
        | some w => rw [q] at q1'; exact ⟨w, rfl, (Option.some.inj q1').symm⟩
      have wlen := hwl w (List.mem_of_getElem? hw)
      have q3 : DS exR H4 y (.tuple [.str (toS w.1), .int w.2]) := (e3.trans e4).ds q2
      obtain ⟨b, zs, rfl, hz, hB, hsb⟩ := q3.tupl
      obtain ⟨z1, z2, rfl, f1, f2⟩ := hz.two
      cases f1
      cases f2
      refine ⟨[some (.ref ma), some (.ref e), some (.int many), some (.ref p), some (.ref rg), some (.str (toS w.1)), some (.int w.2), none, none, none], mxs.length, YAt mxs, optAt M.ms (fun m => if (decide (m.1 = w.2) && cn M (xs0.length - 1 - i) m.2.2) = true then some (PyData.tuple [.str (toS (w.1 ++ [m.2.1])), .int m.2.2]) else none), rfl, fun cont hc => g_seq2 (.inr (hsb K exR H4 .rfl)) hc, ?_, fun j H3 y H4 h => h.1, ?_, ?_, ?_⟩
      · intro H5 e5 R kk
        have rH3 : exR.r H H3 := r0.trans e3
        rcases hmsq2 with ht | ht
        · exact .inl (ev_var (ρ := exR) (v := .ref ma) rfl H5 .rfl _ fun v H6 e6 hv => ⟨ma, hv, ⟨mxs, ht K H6 (rH3.trans (e5.trans e6))⟩, kk _ H6 e6 (walk_list.mono (fun H7 e7 => ht K H7 (rH3.trans e7)) fun _ _ _ _ _ _ y => y)⟩)
        · exact .inr (.inl (ev_var (ρ := exR) (v := .ref ma) rfl H5 .rfl _ fun v H6 e6 hv => ⟨ma, hv, ⟨mxs, ht K H6 (rH3.trans (e5.trans e6))⟩, kk _ H6 e6 (walk_tup.mono (fun H7 e7 => ht K H7 (rH3.trans e7)) fun _ _ _ _ _ _ y => y)⟩))
      · rw [rowAt_some hw, lm, range_fm, fm_filter]
        rfl
      · intro j' d hd
        cases q : M.ms[j']? with
        | none => rw [optAt_none q] at hd; cases hd
        | some m =>
          rw [optAt_some q] at hd
          split at hd
          · cases hd; rfl
          · cases hd
      · rintro j' y H5 hj' e5 ⟨_, hy5⟩
        obtain ⟨m, d1, g1, g2, g3⟩ := moveAt j' y hy5
        obtain ⟨q1, q2⟩ := mixed_move g3
        have rH5 : exR.r H H5 := r0.trans (e3.trans e5)
        have g4 : DS exR H5 y d1 := rH5.ds g2
        obtain ⟨b2, ys3, rfl, hb3, hb4, _⟩ := g4.seqd q1
        rw [q2] at hb3
        obtain ⟨y1, y2, y3, rfl, c1, c2, c3⟩ := hb3.three
        cases c1
        cases c2
        cases c3
        refine ⟨[some (.ref ma), some (.ref e), some (.int many), some (.ref p), some (.ref rg), some (.str (toS w.1)), some (.int w.2), some (.int m.1), some (.str ⟨#[m.2.1]⟩), some (.int m.2.2)], rfl, fun cont hc => g_seq3 (hb4 K H5 .rfl) hc, ?_, ?_⟩
        · refine (et_and (et_test (ev_eqI (ev_var rfl) (ev_var rfl))) fun _ => et_test (ev_inI (es := g) (ev_var rfl) (ev_var rfl) fun H6 e6 => hrg H6 ((e3.trans e5).trans e6))).to ?_
          rw [ing, optAt_some g1]
          cases q : (decide (m.1 = w.2) && cn M (xs0.length - 1 - i) m.2.2) <;> simp
        · intro d hd
          rw [optAt_some g1] at hd
          split at hd
          · cases hd
            rw [← toS_snoc]
            exact ev_pairD Le.rfl (ev_addS (ev_var rfl) (ev_var rfl) (by rw [toS_len]; show w.1.length + 1 ≤ 100000; omega)) (ev_var rfl) (.str _) (.int _)
          · cases hd
    · subst ev
      rw [hdata] at hys2
      have rH3 := r0.trans e3
      refine s_asg (ρ := exR) (ev_slL2 own_ex (ev_var rfl) eo_none (eo_some (ev_var rfl)) (fun H4 e4 => .of (e4.ext _ _ hp2))) fun v H4 e4 ⟨p3, ev, _, _, hp3⟩ => ?_
      subst ev
      rw [← many_nat, cut_take] at hp3
      refine ⟨r.trans (e3.trans e4), p3, ys2.take many.toNat, _, (stepF M (xs0.length - 1 - i) f).take many.toNat, rfl, hp3, ?_, ?_, by rw [List.length_take]; omega, fun w hw => ?_⟩
      · have := (e4.dss hys2).take many.toNat
        unfold fData at this ⊢
        rw [List.map_take]
        exact this
      · rw [hkk] at hgo
        rw [show xs0.length - (i + 1) = xs0.length - 1 - i by omega]
        exact hgo
      · obtain ⟨q, hq, h2⟩ := List.mem_flatMap.mp (List.mem_of_mem_take hw)
        obtain ⟨m, _, rfl⟩ := List.mem_map.mp h2
        have := hwl q hq
        rw [List.length_append, List.length_singleton]
        omega
  · rintro σ' H' ⟨r, p, ys, u, f, rfl, hp, hys, hgo, hfl, hwl⟩
    have r0 : exR.r H H' := e1.trans (e2.trans r)
    have hgo' : f = wordsF M many.toNat xs0.length := by
      rw [Nat.sub_self] at hgo
      exact hgo
    have lys : ys.length = f.length := by rw [hys.length]; exact List.length_map _
    refine s_ret (ρ := exR) (ev_lc (R := fun _ i x _ => x = wordV f i) (C := fun _ b => b = true) (n := ys.length) own_ex (by omega) (ei_seq (ev_var rfl) (fun H3 e3 => .inl (.of (e3.ext _ _ hp))) (.inl fun H3 e3 => .of (e3.ext _ _ hp))) (fun _ _ _ _ _ _ h => h) (fun _ _ _ _ h => h) ?_) fun v H3 e3 ⟨p3, xs3, f3, ev, _, hp0, hp3, hC, hit⟩ => ?_
    · rintro D H3 e3 hD j y H4 H5 hj e4 oD ⟨e5, hy⟩ cont hc
      subst e5
      obtain ⟨d1, q1, q2⟩ := hys.get hy
      have q1' : (f.map fun p => PyData.tuple [.str (toS p.1), .int p.2])[j]? = some d1 := q1
      rw [List.getElem?_map] at q1'
      obtain ⟨w, hw, rfl⟩ : ∃ w, f[j]? = some w ∧ d1 = .tuple [.str (toS w.1), .int w.2] := by
        cases q : f[j]? with
        | none => rw [q] at q1'; cases q1'
        | some w => rw [q] at q1'; exact ⟨w, rfl, (Option.some.inj q1').symm⟩
      have q3 : DS exR H5 y (.tuple [.str (toS w.1), .int w.2]) := (e3.trans e4).ds q2
      obtain ⟨b, zs, rfl, hz, hB, hsb⟩ := q3.tupl
      obtain ⟨z1, z2, rfl, f1, f2⟩ := hz.two
      cases f1
      cases f2
      refine g_seq2 (.inr (hsb K exR H5 .rfl)) (hc _ H5 rfl .rfl fun H6 r6 Q q => q true H6 .rfl rfl fun _ => ?_)
      rw [wordV_some hw]
      exact ev_var rfl
    · subst ev
      rw [kept_all hC] at hit
      refine k p3 H3 (r0.back p3 hp0) (r0.trans e3).ext ?_
      rw [hp3, hit.map]
      have e6 : (wd M gs0.length 0).take many.toNat = f.map Prod.fst := by rw [hgo', lx0, wordsF_eq ok (by omega)]
      rw [e6, List.map_map, lys]
      refine congrArg (fun l => some (HO.lst l)) (List.ext_getElem? fun j => ?_)
      rw [List.getElem?_map, List.getElem?_map]
      by_cases hj : j < f.length
      · rw [List.getElem?_range hj, List.getElem?_eq_getElem hj]
        show some (wordV f j) = some (V.str (toS f[j].1))
        rw [wordV_some (List.getElem?_eq_getElem hj)]
      · rw [List.getElem?_eq_none_iff.mpr (by rw [List.length_range]; omega), List.getElem?_eq_none_iff.mpr (by omega)] <;> rfl
end Slip
/-! the first words, as the program finds them -/
namespace Slip
open PySem PySem.Spec PyProof.Rows L2
/-- xs.extend(a new list) -/
theorem q_extend {ρ : Rl} {K : Frag} {σ : L2.St} {H : Hp} {ta te : TE} {l : Addr} {xs zs : List V} {D : Ends} {tz : TS} (hl : H l = some (.lst xs)) (nS : ¬ ρ.S l) (ha : EvV ρ ta σ H (.ref l)) (h : Ev ρ te σ H (fun v H' => ∃ p, v = .ref p ∧ H' p = some (.lst zs))) (hz : xs.length + zs.length ≤ 100000) (k : ∀ H1, ρ.r H H1 → H1 l = some (.lst xs) → tz D σ (upd H1 l (.lst (xs ++ zs)))) :
    tSeq (tDrop (tBM K "list" rExtend ta (tCons te tNil))) tz D σ H := ha H .rfl _ fun v H1 e1 ev => by
  subst ev
  exact ⟨Or.inl ⟨rfl, xs, .of (e1.keep _ _ nS hl)⟩, h H1 e1 _ fun y H2 e2 ⟨p, ey, hp⟩ => ⟨l, p, xs, zs, rfl, by rw [ey], (e1.trans e2).keep _ _ nS hl, hp, Evl.sz_of hz, k H2 (e1.trans e2) ((e1.trans e2).keep _ _ nS hl)⟩⟩
/-! ### a machine, lists for tuples -/
theorem isWhole_tupD (lo hi : Int) (d : PyData) : isWholeD lo hi (tupD d) = isWholeD lo hi d := by cases d <;> rfl
theorem isLet_tupD (d : PyData) : isLetD (tupD d) = isLetD d := by cases d <;> rfl
theorem move_tupD (n : Int) (d : PyData) : isMoveD n (tupD d) = isMoveD n d := by
  cases hq : isSeqD d with
  | false => rw [move_seq hq, move_seq (by rw [seq_tupD]; exact hq)]
  | true =>
    by_cases h3 : (itemsD d).length = 3
    · obtain ⟨m, w, c, e⟩ := three h3
      have e2 : itemsD (tupD d) = [tupD m, tupD w, tupD c] := by rw [items_tupD, e]; rfl
      unfold isMoveD isTripleD
      rw [seq_tupD, e2, e]
      show (isSeqD d && true && (isLetD (tupD w) && (isWholeD 0 (n - 1) (tupD m) && isWholeD 0 (n - 1) (tupD c)))) = (isSeqD d && true && (isLetD w && (isWholeD 0 (n - 1) m && isWholeD 0 (n - 1) c)))
      rw [isLet_tupD, isWhole_tupD, isWhole_tupD]
    · rw [move_three hq h3, move_three (by rw [seq_tupD]; exact hq) (by rw [items_tupD, List.length_map]; exact h3)]
theorem ends_tupD (n : Int) (d : PyData) : areEndsD n (tupD d) = areEndsD n d := by
  unfold areEndsD
  rw [seq_tupD, items_tupD, List.all_map]
  have ha : (isWholeD 0 (n - 1)) ∘ tupD = isWholeD 0 (n - 1) := funext fun x => isWhole_tupD _ _ x
  rw [ha]
  cases hf : (itemsD d).all (isWholeD 0 (n - 1)) with
  | false => rfl
  | true =>
    have : (itemsD d).map tupD = itemsD d := by
      have gen : ∀ l : List PyData, (∀ x ∈ l, isWholeD 0 (n - 1) x = true) → l.map tupD = l := fun l => by
        induction l with
        | nil => intro _; rfl
        | cons a l ih =>
          intro h
          obtain ⟨i, rfl, _⟩ := whole_int (h a (List.mem_cons_self ..))
          rw [List.map_cons, ih fun x hx => h x (List.mem_cons_of_mem _ hx)]
          rfl
      exact gen _ (List.all_eq_true.mp hf)
    rw [this]
theorem moves_tupD (n : Int) (d : PyData) : areMovesD n (tupD d) = areMovesD n d := by
  unfold areMovesD
  rw [seq_tupD, items_tupD, List.all_map]
  have ha : (isMoveD n) ∘ tupD = isMoveD n := funext fun x => move_tupD n x
  rw [ha]
  cases hf : (itemsD d).all (isMoveD n) with
  | false => rw [Bool.and_false, Bool.false_and, Bool.false_and]
  | true =>
    have : ((itemsD d).map tupD).map pairOf = (itemsD d).map pairOf := by
      rw [List.map_map]
      refine List.map_congr_left fun x hx => ?_
      obtain ⟨s, c, b, e, _⟩ := move_parts (List.all_eq_true.mp hf x hx)
      show pairOf (tupD x) = pairOf x
      unfold pairOf
      rw [items_tupD, e]
      rfl
    rw [this]
theorem machine_tupD (d : PyData) : isMachineD (tupD d) = isMachineD d := by
  cases hT : isTripleD d with
  | false =>
    have h2 : isTripleD (tupD d) = false := by
      unfold isTripleD at hT ⊢
      rw [seq_tupD, items_tupD, List.length_map]
      exact hT
    rw [machine_seq hT, machine_seq h2]
  | true =>
    have ht2 : isSeqD d = true ∧ (itemsD d).length = 3 := by simpa [isTripleD] using hT
    obtain ⟨c, e, m, he⟩ := three ht2.2
    have e2 : itemsD (tupD d) = [tupD c, tupD e, tupD m] := by rw [items_tupD, he]; rfl
    have h2 : isTripleD (tupD d) = true := by
      unfold isTripleD
      rw [seq_tupD, e2, ht2.1]
      rfl
    unfold isMachineD
    rw [h2, hT, e2, he]
    cases c with
    | int n =>
      show (true && (isWholeD 1 8 (.int n) && (areEndsD n (tupD e) && areMovesD n (tupD m)))) = (true && (isWholeD 1 8 (.int n) && (areEndsD n e && areMovesD n m)))
      rw [ends_tupD, moves_tupD]
    | none => rfl
    | bool _ => rfl
    | str _ => rfl
    | list _ => rfl
    | tuple _ => rfl
    | dict _ => rfl
theorem mixed_machine {d d' : PyData} (m : Mixed d d') : isMachineD d' = isMachineD d := by rw [← machine_tupD d', m]
/-! ### the walk -/
theorem upto_more (M : Mac) {t a : Nat} (h : t ≤ (upto M a).length) : ∀ b, a ≤ b → (upto M b).take t = (upto M a).take t := fun b => by
  induction b with
  | zero => intro hb; rw [show a = 0 by omega]
  | succ b ih =>
    intro hb
    by_cases e : a = b + 1
    · rw [e]
    · have h2 := ih (by omega)
      have h3 : t ≤ (upto M b).length := by
        have := congrArg List.length h2
        rw [List.length_take, List.length_take] at this
        omega
      rw [upto_succ, List.take_append_of_le_length h3, h2]
theorem strs_dss {ρ : Rl} {H : Hp} : ∀ ws : List (List Nat), DSs ρ H (ws.map fun w => V.str (toS w)) (ws.map fun w => PyData.str (toS w))
  | [] => .nil
  | w :: ws => .cons (.str _) (strs_dss ws)
def sp_first_words (K : Frag) : Sp := fun vs H Q _ => ∃ (v : V) (limit : Int) (d : PyData) (M : Mac), vs = [v, .int limit] ∧ DS exR H v d ∧ tupD d = macD M ∧ MacOk M ∧ sm d = true ∧ 0 ≤ limit ∧ limit ≤ 50 ∧
  ∀ v' H', Ext H H' → DS exR H' v' (.tuple (((upto M 420).take limit.toNat).map fun w => .str (toS w))) → Q v' H'
theorem len_first_words {K : Frag} {vs : List V} {H : Hp} {Q : VK} {E : XK} (h : sp_first_words K vs H Q E) : vs.length = 2 := by
  obtain ⟨v, l, d, M, rfl, _⟩ := h
  rfl
def t_first_words (K : Frag) : TS := (tSeq (tDrop (tCall (sp_check_arguments K) [] E0 (tCons (tLst (tCons (tCall (sp_is_machine K) [] E0 (tCons (tVar 0) tNil)) (tCons (tCall (sp_is_whole K) [] E0 (tCons (tVar 1) (tCons (tC (.int 0)) (tCons (tC (.int 50)) tNil)))) tNil))) tNil))) (tSeq (tAsg (tVar 0) (gSeq K 3 (gCons (gName 2) (gCons (gName 3) (gCons (gName 4) gNil))))) (tSeq (tAsg (tLst tNil) (gName 5)) (tSeq (tAsg (tLst (tCons (tCB (rLstOf K) (tCons (tVar 3) tNil)) tNil)) (gName 6)) (tSeq (tWhile (tAnd (tTest (tOp (rCmp K gLe) (tCB (rLenU K) (tCons (tVar 6) tNil)) (tOp rMulI (tVar 2) (tVar 1)))) (tTest (tOp (rCmp K gLt) (tCB (rLenU K) (tCons (tVar 5) tNil)) (tVar 1)))) (tSeq (tDrop (tBM K "list" rExtend (tVar 5) (tCons (tCall (sp_longest_words K) [] E0 (tCons (tVar 4) (tCons (tVar 6) (tCons (tOp rSubI (tVar 1) (tCB (rLenU K) (tCons (tVar 5) tNil))) tNil)))) tNil))) (tDrop (tBM K "list" rAppend (tVar 6) (tCons (tLc (iSeq K (tVar 4)) (gSeq K 3 (gCons (gName 7) (gCons (gName 8) (gCons (gName 9) gNil)))) (tTest (tOp (rInU K) (tVar 9) (tIxU K (tVar 6) (tUn rNegI (tC (.int 1)))))) (tVar 7) [7, 8, 9]) tNil))))) (tRet (tCB (rTupOf K) (tCons (tVar 5) tNil))))))))
theorem upto_len (M : Mac) : ∀ (k L : Nat) {w : List Nat}, w ∈ (upto M k).take L → w.length < k := fun k L w h => by
  obtain ⟨i, hi, hw⟩ := List.mem_flatMap.mp (List.mem_of_mem_take h)
  rw [wd_len i 0 w hw]
  exact List.mem_range.mp hi
theorem pure_first_words {K : Frag} (vs : List V) (H : Hp) (Q : VK) (E : XK) (h : sp_first_words K vs H Q E) : t_first_words K { nx := fun _ H' => Q .non H', rt := Q } (start ["machine", "limit", "count", "ends", "moves", "told", "ending", "state", "letter", "behind"] vs) H := by
  obtain ⟨v, limit, d, M, rfl, hd, hm, ok, hs, l0, l50, k⟩ := h
  have him : isMachineD d = true := by rw [← machine_tupD, hm]; exact ok.machine
  obtain ⟨a, rfl, hM⟩ := MacAt.of (K := K) hd hm
  refine q_drop (ρ := exR) (ev_check2 own_ex ((ev_B1 (F := isMachineD) (ev_var rfl) hd hs).val (by rw [him])) ((ev_is_whole (d := .int limit) (ev_var rfl) ev_c ev_c (.int limit)).val (by
    show V.bl (decide (0 ≤ limit) && decide (limit ≤ 50)) = .bl true
    rw [decide_eq_true l0, decide_eq_true l50]
    rfl))) fun _ H1 e1 _ => ?_
  obtain ⟨ea, mv, md, sA, sE, hmv, hmd⟩ := hM.ex
  obtain ⟨hq, hit⟩ := mixed_items hmd
  obtain ⟨ma, mxs, rfl, hma, hmsq, hmsq2⟩ := hmv.seqd hq
  have lm : mxs.length = M.ms.length := by
    have := congrArg List.length hit
    rw [List.length_map, List.length_map] at this
    rw [hma.length, this]
  refine ⟨_, rfl, g_seq3 (sA H1 e1) ?_⟩
  -- told = []
  refine q_asg (ρ := exR) (R := fun v H' => ∃ T, v = .ref T ∧ H T = none ∧ H' T = some (.lst [])) ((ev_lst ea_nil fun vs H1 _ e => by rw [e]; show 0 ≤ 100000; decide).imp fun v H2 r ⟨p, vs, H3, ev, evs, hp, r3, eH⟩ => by
    subst ev evs
    exact ⟨p, rfl, (e1.trans r3).back p hp, by rw [eH]; exact upd_same⟩) fun v H2 e2 ⟨T, ev, hT0, hT⟩ => ?_
  subst ev
  have e02 := e1.trans e2
  -- ending = [list(ends)]
  refine q_asg (ρ := exR) (R := fun v H' => ∃ En r, v = .ref En ∧ H En = none ∧ H2 En = none ∧ H' En = some (.lst [.ref r]) ∧ r ≠ T ∧ r ≠ En ∧ H' r = some (.lst (M.es.map V.int))) ?_ fun v H3 e3 ⟨En, r0, ev, hE0, hE2, hE, rT, rE, hr0⟩ => ?_
  · refine (ev_lst (Rr := fun vs H' => ∃ r, vs = [.ref r] ∧ H2 r = none ∧ H' r = some (.lst (M.es.map V.int))) ((ea_one (Ra := fun v H' => ∃ r, v = .ref r ∧ H2 r = none ∧ H' r = some (.lst (M.es.map V.int))) (ev_cbV (ea_cons (ev_var (v := .ref ea) rfl) ea_nil) fun H3 e3 Q' q' => ⟨ea, _, rfl, sE H3 (e02.trans e3), fun l hl => q' _ _ (r_new _ hl) ⟨l, rfl, e3.back l hl, upd_same⟩⟩)).imp fun vs H3 _ ⟨x, e, r, ex, h1, h2⟩ => ⟨r, by rw [e, ex], h1, h2⟩) fun vs H3 _ ⟨r, e, _⟩ => by rw [e]; show 1 ≤ 100000; decide).imp fun v H3 r3 ⟨p, vs, H4, ev, ⟨r, evs, h1, h2⟩, hp, r4, eH⟩ => ?_
    subst ev evs
    have rp : r ≠ p := fun z => by rw [← z, h2] at hp; cases hp
    exact ⟨p, r, rfl, (e02.trans r4).back p hp, r4.back p hp, by rw [eH]; exact upd_same, fun z => (by rw [z, hT] at h1; cases h1), rp, by rw [eH, upd_ne rp]; exact h2⟩
  subst ev
  have e03 := e02.trans e3
  have hT3 : H3 T = some (.lst []) := e3.ext _ _ hT
  have TE : En ≠ T := fun z => by rw [z, hT] at hE2; cases hE2
  have n1 := ok.n1
  have n8 := ok.n8
  have hNb : M.n.toNat * limit.toNat ≤ 400 := Nat.le_trans (Nat.mul_le_mul (show M.n.toNat ≤ 8 by omega) (show limit.toNat ≤ 50 by omega)) (by decide)
  have hNi : M.n * limit = ((M.n.toNat * limit.toNat : Nat) : Int) := by
    rw [Int.natCast_mul, Int.toNat_of_nonneg (by omega), Int.toNat_of_nonneg l0]
  have hfin := upto_same ok (t := limit.toNat) (N := 420) (by omega)
  refine q_while (ρ := exR) (fun m σ' H' => ∃ kk : Nat, m = M.n.toNat * limit.toNat - kk ∧ kk ≤ M.n.toNat * limit.toNat ∧ ((exR.and T).and En).r H3 H' ∧ σ' = [some (.ref a), some (.int limit), some (.int M.n), some (.ref ea), some (.ref ma), some (.ref T), some (.ref En), none, none, none] ∧ H' T = some (.lst (((upto M kk).take limit.toNat).map fun w => V.str (toS w))) ∧ ∃ (gs : List (List Int)) (xs : List V), H' En = some (.lst xs) ∧ gs.length = kk + 1 ∧ Near M gs ∧ DSs ((exR.and T).and En) H' xs (gs.map fun g => .list (g.map PyData.int)))
    ⟨_, 0, rfl, Nat.zero_le _, .rfl, rfl, by rw [hT3]; simp [upto], [M.es], [.ref r0], hE, rfl, ⟨fun j g hg s => ?_, fun g hg => ?_, by show 1 ≤ 1000; decide⟩, .cons (.lst (fun z => by rcases z with (z | z) | z <;> first | exact z | exact rT z | exact rE z) hr0 ?_) .nil⟩ ?_
  · cases j with
    | zero =>
      cases hg
      show s ∈ M.es ↔ decide (s ∈ M.es) = true
      rw [decide_eq_true_eq]
    | succ j => cases hg
  · rw [List.mem_singleton.mp hg]
    have := ok.esLen
    omega
  · have gen : ∀ l : List Int, DqAll (fun a => ¬ ((exR.and T).and En).S a) H3 (l.map V.int) (l.map PyData.int) := fun l => by
      induction l with
      | nil => exact .nil
      | cons a l ih => exact .cons (.int a) ih
    exact gen _
  · rintro m σ' H' ⟨kk, rfl, hkk, r, rfl, hTk, gs, xs, hxs, hgl, near, hds⟩
    have r0 : exR.r H H' := r_and2 e03 hT0 hE0 r
    have lxs : xs.length = gs.length := by rw [hds.length, List.length_map]
    have ltold : (((upto M kk).take limit.toNat).map fun w => V.str (toS w)).length = min limit.toNat (upto M kk).length := by rw [List.length_map, List.length_take]
    refine ⟨decide (gs.length ≤ M.n.toNat * limit.toNat) && decide ((upto M kk).length < limit.toNat), (et_and (et_test (ev_le (ev_len (ev_var rfl) fun H4 e4 => .inl (.of (e4.ext _ _ hxs))) (ev_mul (ev_var rfl) (ev_var rfl) (.inr (by omega))))) fun _ => et_test (ev_lt (ev_len (ev_var rfl) fun H4 e4 => .inl (.of (e4.ext _ _ hTk))) (ev_var rfl))).to ?_, fun hb H4 e4 => ?_, fun hb H4 e4 => ?_⟩
    · rw [ltold, lxs, hNi]
      have a1 : decide ((gs.length : Int) ≤ ((M.n.toNat * limit.toNat : Nat) : Int)) = decide (gs.length ≤ M.n.toNat * limit.toNat) := by
        by_cases h : gs.length ≤ M.n.toNat * limit.toNat
        · rw [decide_eq_true h, decide_eq_true (by omega)]
        · rw [decide_eq_false h, decide_eq_false (by omega)]
      have a2 : decide (((min limit.toNat (upto M kk).length : Nat) : Int) < limit) = decide ((upto M kk).length < limit.toNat) := by
        by_cases h : (upto M kk).length < limit.toNat
        · rw [decide_eq_true h, decide_eq_true (by omega)]
        · rw [decide_eq_false h, decide_eq_false (by omega)]
      rw [a1, a2]
    · have hb' : gs.length ≤ M.n.toNat * limit.toNat ∧ (upto M kk).length < limit.toNat := by simpa using hb
      have r04 := r0.trans e4
      have htold : (upto M kk).take limit.toNat = upto M kk := List.take_of_length_le (by omega)
      have hT4 : H4 T = some (.lst ((upto M kk).map fun w => V.str (toS w))) := by rw [← htold]; exact e4.ext _ _ hTk
      have hE4 : H4 En = some (.lst xs) := e4.ext _ _ hxs
      have lup : (((upto M kk).map fun w => V.str (toS w))).length = (upto M kk).length := List.length_map _
      have hgk : gs.length - 1 = kk := by omega
      -- told.extend(..)
      refine q_extend (ρ := exR) (xs := (upto M kk).map fun w => V.str (toS w)) (zs := ((wd M kk 0).take (limit - ((upto M kk).length : Int)).toNat).map fun w => V.str (toS w)) hT4 (fun z => z) (ev_var rfl) (ev_call (ea_cons (ev_var rfl) (ea_cons (ev_var rfl) (ea_cons (ev_sub (ev_var rfl) (Ev.val (ev_len (ev_var rfl) fun H6 e6 => .inl (.of (e6.ext _ _ hT4))) (by rw [lup]))) ea_nil))) fun H6 e6 Q' q' E' => ⟨.ref ma, md, En, limit - ((upto M kk).length : Int), M, gs, rfl, ((r04.trans e6).ds hmv).ex, hmd, ok, ?_, fun z => (by rw [z] at hgl; cases hgl), near, by omega, by omega, fun p H' _ e hp' => q' _ H' (Ext.r e) ⟨p, rfl, by rw [hgk] at hp'; exact hp'⟩⟩) (by rw [lup, List.length_map, List.length_take]; omega) fun H6 e46 hT6 => ?_
      · have h6 := e4.trans e6
        exact .lst (fun z => z) (h6.ext _ _ hxs) ((hds.move (fun b _ n q => ⟨fun z => z, h6.ext _ _ q⟩) fun b _ q => h6.ext _ _ q))
      -- ending.append(..)
      generalize eH7 : upd H6 T (.lst ((upto M kk).map (fun w => V.str (toS w)) ++ ((wd M kk 0).take (limit - ((upto M kk).length : Int)).toNat).map fun w => V.str (toS w))) = H7
      have c67 : (exR.and T).r H6 H7 := eH7 ▸ r_chg (ρ := exR) hT6 fun z => z
      have hE7 : H7 En = some (.lst xs) := by rw [← eH7, upd_ne TE]; exact e46.ext _ _ hE4
      have hT7 : H7 T = some (.lst (((upto M (kk + 1)).take limit.toNat).map fun w => V.str (toS w))) := by
        rw [← eH7, upd_same, upto_succ, List.take_append, htold, List.map_append, show (limit - ((upto M kk).length : Int)).toNat = limit.toNat - (upto M kk).length by omega]
      have r7 : ((exR.and T).and En).r H' H7 := (and_of (and_of (e4.trans e46))).trans (and_of c67)
      have ds7 := r7.dss hds
      have r07 : exR.r H H7 := r_and2 e03 hT0 hE0 (r.trans r7)
      obtain ⟨gs0, gl, rfl⟩ : ∃ gs0 gl, gs = gs0 ++ [gl] := ⟨gs.dropLast, gs.getLast (fun z => by rw [z] at hgl; cases hgl), (List.dropLast_concat_getLast _).symm⟩
      have lg0 : gs0.length = kk := by
        rw [List.length_append, List.length_singleton] at hgl
        omega
      rw [List.map_append] at ds7
      obtain ⟨xs0, xl, rfl, hx0, hxl⟩ := dss_last ds7
      obtain ⟨rl, rfl, nrl, hrl⟩ : ∃ rl, xl = .ref rl ∧ ¬ ((exR.and T).and En).S rl ∧ H7 rl = some (.lst (gl.map V.int)) := by
        cases hxl with | lst n hs ha =>
          have := ints_of ha
          subst this
          exact ⟨_, rfl, n, hs⟩
      have ing : ∀ s, decide (s ∈ gl) = cn M kk s := fun s => by
        have := near.at_ kk gl (by rw [← lg0]; simp) s
        rw [Bool.eq_iff_iff, decide_eq_true_eq]
        exact this
      have moveAt : ∀ (j : Nat) x, mxs[j]? = some x → ∃ m d1, M.ms[j]? = some m ∧ DS exR H x d1 ∧ tupD d1 = mvD m := fun j x hx => by
        obtain ⟨d1, g1, g2⟩ := hma.get hx
        obtain ⟨m, g3, g4⟩ := mixed_get hit g1
        exact ⟨m, d1, g3, g2, g4⟩
      refine s_app (ρ := exR) (H := H7) hE7 (fun z => z) (ev_var rfl) (R := fun y H' => ∃ (p : Addr) (g : List Int), y = .ref p ∧ H7 p = none ∧ H' p = some (.lst (g.map V.int)) ∧ g.length ≤ 48 ∧ ∀ s, s ∈ g ↔ cn M (kk + 1) s = true) ((ev_lc (R := fun _ i x _ => ∃ m, M.ms[i]? = some m ∧ x = .int m.1) (C := fun i b => ∀ m, M.ms[i]? = some m → b = cn M kk m.2.2) (n := mxs.length) own_ex (by have := ok.msLen; omega) (ei_seq (ev_var rfl) (fun H8 e8 => hmsq K H8 (r07.trans e8)) (hmsq2.imp (fun f H8 e8 => f K H8 (r07.trans e8)) fun f H8 e8 => f K H8 (r07.trans e8))) (fun _ _ _ _ _ _ h => h) (fun _ _ _ _ h => h) ?_).imp ?_) (by rw [lxs, hgl]; omega) fun y H8 e8 ⟨p2, g, ey, hp20, hp2, hgl2, hg⟩ hE8 => ?_
      · rintro D H8 e8 hD j y H9 H10 hj e9 oD ⟨e10, hy⟩ cont hc
        subst e10
        obtain ⟨m, d1, g1, g2, g3⟩ := moveAt j y hy
        obtain ⟨q1, q2⟩ := mixed_move g3
        have r10 : exR.r H7 H10 := e8.trans e9
        have g4 : DS exR H10 y d1 := (r07.trans r10).ds g2
        obtain ⟨b2, ys3, rfl, hb3, hb4, _⟩ := g4.seqd q1
        rw [q2] at hb3
        obtain ⟨y1, y2, y3, rfl, c1, c2, c3⟩ := hb3.three
        cases c1
        cases c2
        cases c3
        refine g_seq3 (hb4 K H10 .rfl) (hc _ H10 rfl .rfl fun H11 r11 Q q => ?_)
        refine (et_test (ev_inI (es := gl) (ev_var rfl) (ev_ixL (xs := xs0) (v := .ref rl) (ev_var rfl) (ev_neg ev_c) (fun H12 e12 => .inl (.of ((r10.trans (r11.trans e12)).ext _ _ hE7)))) fun H12 e12 => .inl (.of ((r10.trans (r11.trans e12)).ext _ _ hrl)))) H11 .rfl _ fun H12 r12 => q _ H12 r12 (fun m' hm' => ?_) fun _ => (ev_var (v := .int m.1) rfl).imp fun v H13 _ ev => ⟨m, g1, ev⟩
        rw [g1] at hm'
        cases hm'
        exact ing _
      · rintro u H8 r8 ⟨p2, ys2, f, eu, _, hp0, hp2, hC, hI⟩
        have ex : ys2 = ((keptN f mxs.length).map fun i => ((M.ms[i]?).map Prod.fst).getD 0).map V.int := by
          refine List.ext_getElem? fun j => ?_
          rw [List.getElem?_map, List.getElem?_map]
          cases q : ys2[j]? with
          | none =>
            have := List.getElem?_eq_none_iff.mp q
            rw [List.getElem?_eq_none_iff.mpr (by rw [← hI.1]; exact this)] <;> rfl
          | some x =>
            have hj : j < (keptN f mxs.length).length := by rw [← hI.1]; exact (List.getElem?_eq_some_iff.mp q).1
            obtain ⟨m, hm, hx⟩ := hI.2 j x _ q (List.getElem?_eq_getElem hj)
            rw [List.getElem?_eq_getElem hj]
            show some x = some (V.int (((M.ms[(keptN f mxs.length)[j]]?).map Prod.fst).getD 0))
            rw [hm, hx]
            rfl
        refine ⟨p2, _, eu, hp0, by rw [hp2, ex], ?_, fun s => ?_⟩
        · rw [List.length_map]
          have := kept_len f mxs.length
          have := ok.msLen
          omega
        · rw [cn_step, List.mem_map]
          constructor
          · rintro ⟨i, hi, e⟩
            have hlt := kept_lt hi
            have hm : M.ms[i]? = some M.ms[i] := List.getElem?_eq_getElem (by omega)
            rw [hm] at e
            have hfi := (List.mem_filter.mp hi).2
            rw [hC i hlt _ hm] at hfi
            exact ⟨M.ms[i], List.getElem_mem _, e, hfi⟩
          · rintro ⟨m, hm, e, hc⟩
            obtain ⟨i, hi, em⟩ := List.mem_iff_getElem.mp hm
            have hm2 : M.ms[i]? = some m := by rw [List.getElem?_eq_getElem hi, em]
            refine ⟨i, List.mem_filter.mpr ⟨List.mem_range.mpr (by omega), ?_⟩, by rw [hm2]; exact e⟩
            rw [hC i (by omega) m hm2]
            exact hc
      · subst ey
        have np2 : ¬ ((exR.and T).and En).S p2 := fun z => by
          rcases z with (z | z) | z
          · exact z
          · rw [z, hT7] at hp20; cases hp20
          · rw [z, hE7] at hp20; cases hp20
        have pE : p2 ≠ En := fun z => np2 (.inr z)
        have c8 : ((exR.and T).and En).r H8 (upd H8 En (.lst (xs0 ++ [.ref rl] ++ [.ref p2]))) := r_chg (ρ := exR.and T) hE8 fun z => z.elim (fun z => z) TE
        have rfin := (r7.trans (and_of (and_of e8))).trans c8
        refine ⟨M.n.toNat * limit.toNat - (kk + 1), by omega, kk + 1, rfl, by omega, r.trans rfin, rfl, by rw [upd_ne (Ne.symm TE)]; exact e8.ext _ _ hT7, (gs0 ++ [gl]) ++ [g], _, upd_same, by rw [List.length_append, List.length_singleton, hgl], ⟨fun j g' hg' s => ?_, fun g' hg' => ?_, by rw [List.length_append, List.length_singleton, hgl]; omega⟩, ?_⟩
        · by_cases hj : j < (gs0 ++ [gl]).length
          · rw [List.getElem?_append_left hj] at hg'
            exact near.at_ j g' hg' s
          · have hj2 : j = kk + 1 := by
              have := (List.getElem?_eq_some_iff.mp hg').1
              rw [List.length_append, List.length_singleton, hgl] at this
              omega
            subst hj2
            rw [List.getElem?_append_right (by omega), hgl, Nat.sub_self] at hg'
            cases hg'
            exact hg s
        · rcases List.mem_append.mp hg' with h | h
          · exact near.len g' h
          · rw [List.mem_singleton.mp h]; omega
        · rw [List.map_append]
          refine (rfin.dss hds).append (.cons (.lst np2 (by rw [upd_ne pE]; exact hp2) ?_) .nil)
          have gen : ∀ l : List Int, DqAll (fun a => ¬ ((exR.and T).and En).S a) (upd H8 En (.lst (xs0 ++ [.ref rl] ++ [.ref p2]))) (l.map V.int) (l.map PyData.int) := fun l => by
            induction l with
            | nil => exact .nil
            | cons a l ih => exact .cons (.int a) ih
          exact gen g
    · have hb' : ¬ (gs.length ≤ M.n.toNat * limit.toNat ∧ (upto M kk).length < limit.toNat) := by simpa using hb
      have hw : (upto M kk).take limit.toNat = (upto M 420).take limit.toNat := by
        by_cases h : gs.length ≤ M.n.toNat * limit.toNat
        · exact (upto_more M (by omega) 420 (by omega)).symm
        · rw [hfin, show kk = M.n.toNat * limit.toNat by omega]
      rw [hw] at hTk
      refine s_ret (ρ := exR) (R := fun v H' => DS exR H' v (.tuple (((upto M 420).take limit.toNat).map fun w => .str (toS w)))) (ev_cbV (ea_cons (ev_var (v := .ref T) rfl) ea_nil) fun H5 e5 Q' q' => ⟨T, _, rfl, .inl ⟨.of ((e4.trans e5).ext _ _ hTk), fun l hl => q' _ _ (r_new _ hl) (.tup upd_same (strs_dss _))⟩⟩) fun v H5 e5 hv => k v H5 (r0.trans (e4.trans e5)).ext hv
end Slip
/-! the words of one length, as the law finds them -/
namespace Slip
open PySem PySem.Spec PyProof.Rows L2
section
variable {ρ : Rl} {K : Frag} {σ : L2.St} {H : Hp} {ta tb te : TE} {l b C : Addr} {xs : List V} {x y v : V} {D : Ends} {tz : TS} {R : V → Hp → Prop} {kvs : List (Key × V)}
theorem s_app2 (hl : H l = some (.lst xs)) (nS : ¬ ρ.S l) (ha : EvV ρ ta σ H (.ref l)) (h : Ev ρ te σ H R) (hz : xs.length < 1000000) (k : ∀ y H1, ρ.r H H1 → R y H1 → H1 l = some (.lst xs) → D.nx σ (upd H1 l (.lst (xs ++ [y])))) :
    tDrop (tBM K "list" rAppend ta (tCons te tNil)) D σ H := ha H .rfl _ fun v H1 e1 ev => by
  subst ev
  exact ⟨Or.inl ⟨rfl, xs, .of (e1.keep _ _ nS hl)⟩, h H1 e1 _ fun y H2 e2 ry => ⟨l, xs, y, rfl, rfl, (e1.trans e2).keep _ _ nS hl, Nat.lt_of_lt_of_le hz (by decide), k y H2 (e1.trans e2) ry ((e1.trans e2).keep _ _ nS hl)⟩⟩
theorem q_pop2 {i j : Nat} (hl : H l = some (.lst (xs ++ [.ref b]))) (nS : ¬ ρ.S l) (ha : EvV ρ ta σ H (.ref l)) (hb : H b = some (.tup [x, y])) (k : ∀ H1, ρ.r H H1 → H1 l = some (.lst (xs ++ [.ref b])) → tz D ((σ.set i (some x)).set j (some y)) (upd H1 l (.lst xs))) :
    tSeq (tAsg (tBM0 K "list" rPop ta) (gSeq K 2 (gCons (gName i) (gCons (gName j) gNil)))) tz D σ H := ha H .rfl _ fun v H1 e1 ev => by
  subst ev
  have h1 := e1.keep _ _ nS hl
  have hb1 := e1.tup _ _ hb
  have ne : b ≠ l := ne_of hb1 h1 (by intro z; cases z)
  refine ⟨Or.inl ⟨rfl, _, .of h1⟩, l, _, .ref b, rfl, rfl, h1, by simp, ?_⟩
  rw [List.dropLast_concat]
  exact g_seq2 (.inr (.inl (.inl (by rw [upd_ne ne]; exact hb1)))) (k H1 e1 h1)
/-- a number among the keys -/
theorem ev_inK {i : Int} (h1 : EvV ρ ta σ H (.int i)) (h2 : EvV ρ tb σ H (.ref C)) (hC : ∀ H1, ρ.r H H1 → H1 C = some (.dK kvs)) : EvV ρ (tOp (rInU K) ta tb) σ H (.bl (valV kvs (.inl i)).isSome) :=
  ev_op h1 h2 (.const fun H1 e1 _ q => .inr (.inr ⟨C, _, rfl, DGet.k (k := .inl i) (hC H1 e1), q⟩))
end
/-- what the dicts of states near an end tell -/
structure CanAt (M : Mac) (H : Hp) (C : Addr) (cs : List Addr) : Prop where
  at_ : H C = some (.lst (cs.map V.ref))
  dk : ∀ (j : Nat) r, cs[j]? = some r → ∃ kvs : List (Key × V), H r = some (.dK kvs) ∧ ∀ s, (valV kvs (.inl s)).isSome = cn M j s
def sData (st : List (Int × List Nat)) : List PyData := st.map fun p => .tuple [.int p.1, .str (toS p.2)]
/-- what the stack will still tell, its top last -/
def restW (M : Mac) (size : Nat) (st : List (Int × List Nat)) : List (List Nat) := st.reverse.flatMap fun p => (wd M (size - p.2.length) p.1).map (p.2 ++ ·)
theorem restW_snoc (M : Mac) (size : Nat) (st : List (Int × List Nat)) (p : Int × List Nat) : restW M size (st ++ [p]) = (wd M (size - p.2.length) p.1).map (p.2 ++ ·) ++ restW M size st := by
  unfold restW
  rw [List.reverse_append]
  rfl
/-- the states behind, the last letter first -/
def kidsW (M : Mac) (k : Nat) (s : Int) (w : List Nat) (ls : List Nat) : List (Int × List Nat) := ls.filterMap fun c => (dl M.ms s c).bind fun t => if cn M k t then some (t, w ++ [c]) else none
theorem kids_rest {M : Mac} (ok : MacOk M) {size k : Nat} {s : Int} {w : List Nat} (h : size = w.length + (k + 1)) (st : List (Int × List Nat)) : restW M size (st ++ kidsW M k s w letters.reverse) = (wd M (k + 1) s).map (w ++ ·) ++ restW M size st := by
  unfold restW
  rw [List.reverse_append, List.flatMap_append]
  congr 1
  have e1 : (kidsW M k s w letters.reverse).reverse = kidsW M k s w letters := by
    unfold kidsW
    rw [List.filterMap_reverse, List.reverse_reverse]
  rw [e1]
  show _ = (letters.flatMap fun c => match dl M.ms s c with | some t => (wd M k t).map (c :: ·) | none => []).map (w ++ ·)
  rw [List.map_flatMap]
  unfold kidsW
  induction letters with
  | nil => rfl
  | cons c l ih =>
    rw [List.flatMap_cons, List.filterMap_cons]
    cases q : dl M.ms s c with
    | none =>
      show List.flatMap _ (List.filterMap _ l) = _
      rw [ih]
      rfl
    | some t =>
      cases q2 : cn M k t with
      | true =>
        have eb : ((some t).bind fun t => if cn M k t = true then some (t, w ++ [c]) else none) = some (t, w ++ [c]) := by
          show (if cn M k t = true then some (t, w ++ [c]) else none) = _
          rw [if_pos q2]
        rw [eb]
        show List.flatMap _ ((t, w ++ [c]) :: List.filterMap _ l) = _
        rw [List.flatMap_cons, ih]
        congr 1
        show (wd M (size - (w ++ [c]).length) t).map ((w ++ [c]) ++ ·) = _
        rw [List.length_append, List.length_singleton, show size - (w.length + 1) = k by omega]
        show _ = ((wd M k t).map (c :: ·)).map (w ++ ·)
        rw [List.map_map]
        refine List.map_congr_left fun u _ => ?_
        show w ++ [c] ++ u = w ++ (c :: u)
        rw [List.append_assoc]
        rfl
      | false =>
        have eb : ((some t).bind fun t => if cn M k t = true then some (t, w ++ [c]) else none) = none := by
          show (if cn M k t = true then some (t, w ++ [c]) else none) = _
          rw [if_neg (by rw [q2]; exact Bool.false_ne_true)]
        rw [eb]
        show List.flatMap _ (List.filterMap _ l) = _
        rw [ih]
        have : wd M k t = [] := Classical.byContradiction fun z => by
          have := (wd_ne ok k t).mp z
          rw [q2] at this
          cases this
        show _ = ((wd M k t).map (c :: ·)).map (w ++ ·) ++ _
        rw [this]
        rfl
theorem kids_ok {M : Mac} {k : Nat} {s : Int} {w ls : List Nat} {p : Int × List Nat} (h : p ∈ kidsW M k s w ls) : p.2.length = w.length + 1 ∧ cn M k p.1 = true := by
  obtain ⟨c, _, h⟩ := List.mem_filterMap.mp h
  cases q : dl M.ms s c with
  | none => rw [q] at h; cases h
  | some t =>
    rw [q] at h
    have h' : (if cn M k t = true then some (t, w ++ [c]) else none) = some p := h
    split at h'
    · cases h'
      exact ⟨by rw [List.length_append, List.length_singleton], by assumption⟩
    · cases h'
theorem kids_snoc (M : Mac) (k : Nat) (s : Int) (w ls : List Nat) (c : Nat) : kidsW M k s w (ls ++ [c]) = kidsW M k s w ls ++ (match (dl M.ms s c).bind fun t => if cn M k t then some (t, w ++ [c]) else none with | some p => [p] | none => []) := by
  unfold kidsW
  rw [List.filterMap_append]
  congr 1
  cases q : (dl M.ms s c).bind fun t => if cn M k t then some (t, w ++ [c]) else none with
  | none => simp [q]
  | some p => simp [q]
theorem kids_ne {M : Mac} (ok : MacOk M) {k : Nat} {s : Int} {w : List Nat} (h : cn M (k + 1) s = true) : kidsW M k s w letters.reverse ≠ [] := by
  obtain ⟨m, hm, rfl, h2⟩ := cn_step.mp h
  refine List.ne_nil_of_mem (a := (m.2.2, w ++ [m.2.1])) (List.mem_filterMap.mpr ⟨m.2.1, List.mem_reverse.mpr (ok.msIn m hm).2.1, ?_⟩)
  rw [dl_of ok.keys (show (m.1, m.2.1, m.2.2) ∈ M.ms from hm)]
  show (if cn M k m.2.2 = true then _ else _) = _
  rw [if_pos h2]
abbrev strV (ws : List (List Nat)) : List V := ws.map fun w => V.str (toS w)
def sp__law_words_of (K : Frag) : Sp := fun vs H Q _ => ∃ (D C B : Addr) (size limit : Int) (M : Mac) (cs : List Addr) (made : List (List Nat)), vs = [.ref D, .ref C, .int size, .ref B, .int limit] ∧ MacOk M ∧ H D = some (.dT (tabK M.ms)) ∧ CanAt M H C cs ∧ size.toNat < cs.length ∧ 0 ≤ size ∧ size < 420 ∧ H B = some (.lst (strV made)) ∧ B ≠ C ∧ (made.length : Int) < limit ∧ limit ≤ 50 ∧ cn M size.toNat 0 = true ∧
  ∀ H', (exR.and B).r H H' → H' B = some (.lst (strV ((made ++ wd M size.toNat 0).take limit.toNat))) → Q .non H'
theorem len__law_words_of {K : Frag} {vs : List V} {H : Hp} {Q : VK} {E : XK} (h : sp__law_words_of K vs H Q E) : vs.length = 5 := by
  obtain ⟨D, C, B, s, l, M, cs, made, rfl, _⟩ := h
  rfl
def t__law_words_of (K : Frag) : TS := (tSeq (tAsg (tLst (tCons (tTup (tCons (tC (.int 0)) (tCons (tC (.str "")) tNil))) tNil)) (gName 5)) (tFor (iRng1 (tCons (tOp rPowI (tC (.int 10)) (tC (.int 6))) tNil)) (gName 6) (tSeq (tIfS (tOr (tTest (tOp (rEqU K) (tCB (rLenU K) (tCons (tVar 5) tNil)) (tC (.int 0)))) (tTest (tOp (rCmp K gGe) (tCB (rLenU K) (tCons (tVar 3) tNil)) (tVar 4)))) tBreak tNext) (tSeq (tAsg (tBM0 K "list" rPop (tVar 5)) (gSeq K 2 (gCons (gName 7) (gCons (gName 8) gNil)))) (tIfS (tTest (tOp (rEqU K) (tCB (rLenU K) (tCons (tVar 8) tNil)) (tVar 2))) (tDrop (tBM K "list" rAppend (tVar 3) (tCons (tVar 8) tNil))) (tFor (iSeq K (tC (.str "fedcba"))) (gName 9) (tSeq (tAsg (tIf (tTest (tOp (rInU K) (tTup (tCons (tVar 7) (tCons (tVar 9) tNil))) (tVar 0))) (tIxU K (tVar 0) (tTup (tCons (tVar 7) (tCons (tVar 9) tNil)))) (tC .non)) (gName 10)) (tIfS (tAnd (tTest (tOp rNotN (tVar 10) (tC .non))) (tTest (tOp (rInU K) (tVar 10) (tIxU K (tVar 1) (tOp rSubI (tOp rSubI (tVar 2) (tCB (rLenU K) (tCons (tVar 8) tNil))) (tC (.int 1))))))) (tDrop (tBM K "list" rAppend (tVar 5) (tCons (tTup (tCons (tVar 10) (tCons (tOp (rAddU K) (tVar 8) (tVar 9)) tNil))) tNil))) tNext))))))))
theorem pure__law_words_of {K : Frag} (vs : List V) (H : Hp) (Q : VK) (E : XK) (h : sp__law_words_of K vs H Q E) : t__law_words_of K { nx := fun _ H' => Q .non H', rt := Q } (start ["moves", "can", "size", "made", "limit", "waiting", "step", "state", "word", "letter", "then"] vs) H := by
  obtain ⟨D, C, B, size, limit, M, cs, made, rfl, ok, hD, hC, hcs, s0, s420, hB, BC, hml, l50, hcn, k⟩ := h
  obtain ⟨sz, rfl⟩ : ∃ sz : Nat, size = (sz : Int) := ⟨size.toNat, by omega⟩
  rw [Int.toNat_natCast] at hcs hcn k
  have DB : D ≠ B := ne_of hD hB (by intro z; cases z)
  have ownB : Own (exR.and B) H := fun a z => z.elim (fun z => z.elim) fun z => by rw [z, hB]; exact Option.some_ne_none _
  -- waiting = [(0, "")]
  refine q_asg (ρ := exR) (R := fun v H' => ∃ Wt xs, v = .ref Wt ∧ H Wt = none ∧ H' Wt = some (.lst xs) ∧ DSs exR H' xs (sData [(0, [])])) ((ev_lst (Rr := fun vs H' => DSs exR H' vs (sData [(0, [])])) (ea_consD Le.rfl (ev_pairD Le.rfl ev_c ev_c (.int 0) (.str "")) fun _ _ => ea_nilD) fun vs H1 _ h => by rw [h.length]; show 1 ≤ 100000; decide).imp fun v H2 r ⟨p, vs, H3, ev, hvs, hp, r3, eH⟩ => ⟨p, vs, ev, r3.back p hp, by rw [eH]; exact upd_same, (eH ▸ r_new (ρ := exR) _ hp : exR.r H3 H2).dss hvs⟩) fun v H1 e1 ⟨Wt, xs0, ev, hW0, hW, hxs0⟩ => ?_
  subst ev
  have WB : Wt ≠ B := fun z => by rw [z, hB] at hW0; cases hW0
  have fin : ∀ (st : List (Int × List Nat)) (dn : List (List Nat)), dn ++ restW M sz st = wd M sz 0 → ((made ++ dn).length : Int) ≤ limit → (st.length = 0 ∨ limit ≤ ((made ++ dn).length : Int)) → (made ++ wd M sz 0).take limit.toNat = made ++ dn := fun st dn hr hl h => by
    rcases h with h | h
    · have : st = [] := List.eq_nil_of_length_eq_zero h
      subst this
      have e : dn = wd M sz 0 := by rw [← hr]; exact (List.append_nil dn).symm
      rw [← e]
      exact List.take_of_length_le (by omega)
    · rw [← hr, ← List.append_assoc, List.take_append_of_le_length (by omega), List.take_of_length_le (by omega)]
  have B0 : H B ≠ none := by rw [hB]; exact Option.some_ne_none _
  refine s_forw (ρ := exR) (ρw := (exR.and B).and Wt) (n := 1000000) (Y := YFn fun m => .int ((m : Nat) : Int)) (ew_rng (i := 1000000) (ea_cons ((ev_pow ev_c ev_c ⟨by decide, by decide, by decide⟩).val rfl) ea_nil) (by decide) (by decide)) fun H2 e2 => ⟨fun i σ' H' => ((exR.and B).and Wt).r H2 H' ∧ ∃ (u1 u2 u3 u4 u5 : Option V) (st : List (Int × List Nat)) (xs : List V) (dn : List (List Nat)), σ' = [some (.ref D), some (.ref C), some (.int (sz : Int)), some (.ref B), some (.int limit), some (.ref Wt), u1, u2, u3, u4, u5] ∧ H' B = some (.lst (strV (made ++ dn))) ∧ H' Wt = some (.lst xs) ∧ DSs exR H' xs (sData st) ∧
      (∀ p ∈ st, p.2.length ≤ sz ∧ cn M (sz - p.2.length) p.1 = true) ∧ dn ++ restW M sz st = wd M sz 0 ∧ ((made ++ dn).length : Int) ≤ limit ∧ (∀ p, st.getLast? = some p → limit ≤ ((made ++ dn).length : Int) ∨ ((i : Int) + (limit - ((made ++ dn).length : Int)) * ((sz : Int) + 1) ≤ 21000 + (p.2.length : Int) ∧ st.length ≤ 6 * i + 1)), ?_, fun i σ' H' _ h => h.1, ?_, ?_⟩
  · refine ⟨.rfl, none, none, none, none, none, [(0, [])], xs0, [], rfl, by rw [List.append_nil]; exact (e1.trans e2).ext _ _ hB, e2.ext _ _ hW, e2.dss hxs0, fun p hp => ?_, ?_, by rw [List.append_nil]; omega, fun p hp => .inr ?_⟩
    · rw [List.mem_singleton.mp hp]
      exact ⟨Nat.zero_le _, hcn⟩
    · show [] ++ ((wd M (sz - 0) 0).map ([] ++ ·) ++ []) = _
      rw [List.append_nil, List.nil_append, Nat.sub_zero]
      exact List.map_id _
    · cases hp
      refine ⟨?_, Nat.le_refl 1⟩
      rw [List.append_nil]
      have h1 : (limit - (made.length : Int)) * ((sz : Int) + 1) ≤ 50 * ((sz : Int) + 1) := Int.mul_le_mul_of_nonneg_right (by omega) (by omega)
      show ((0 : Nat) : Int) + _ ≤ 21000 + ((0 : Nat) : Int)
      omega
  · rintro i x σ' H' H'' hi ⟨r, u1, u2, u3, u4, u5, st, xs, dn, rfl, hBk, hWk, hxs, hst, hrest, hlen, hpot⟩ ⟨e5, rfl⟩
    subst e5
    have r0 : (exR.and B).r H H'' := r_and (and_of (e1.trans e2)) hW0 r
    have lxs : xs.length = st.length := by rw [hxs.length]; exact List.length_map _
    have lmd : (strV (made ++ dn)).length = (made ++ dn).length := List.length_map _
    refine q_when (ρ := exR) (b := decide (st.length = 0) || decide (limit ≤ ((made ++ dn).length : Int))) ((et_or (et_test (ev_eqI (ev_len (ev_var rfl) fun H3 e3 => .inl (.of (e3.ext _ _ hWk))) ev_c)) fun _ => et_test (ev_ge (ev_len (ev_var rfl) fun H3 e3 => .inl (.of (e3.ext _ _ hBk))) (ev_var rfl))).to ?_) (fun hb H3 e3 => ?_) (fun hb H3 e3 => ?_)
    · rw [lxs, lmd]
      have : decide ((st.length : Int) = 0) = decide (st.length = 0) := by
        by_cases h : st.length = 0
        · rw [decide_eq_true h, decide_eq_true (by omega)]
        · rw [decide_eq_false h, decide_eq_false (by omega)]
      rw [this]
    · have hb' : st.length = 0 ∨ limit ≤ ((made ++ dn).length : Int) := by simpa using hb
      exact k H3 (r0.trans (and_of e3)) (by rw [fin st dn hrest hlen hb']; exact e3.ext _ _ hBk)
    have hb' : ¬ st.length = 0 ∧ ¬ limit ≤ ((made ++ dn).length : Int) := by simpa using hb
    obtain ⟨st0, ⟨s, w⟩, rfl⟩ : ∃ st0 p, st = st0 ++ [p] := ⟨st.dropLast, st.getLast (fun z => hb'.1 (by rw [z]; rfl)), (List.dropLast_concat_getLast _).symm⟩
    have hsw := hst (s, w) (List.mem_append_right _ (List.mem_singleton_self _))
    have hwl : w.length ≤ sz := hsw.1
    have hpt := (hpot (s, w) (by simp)).resolve_left hb'.2
    have hxs' : DSs exR H'' xs (sData st0 ++ [.tuple [.int s, .str (toS w)]]) := by
      have := hxs
      unfold sData at this ⊢
      rw [List.map_append] at this
      exact this
    obtain ⟨xs0, x, rfl, hx0, hx1⟩ := dss_last hxs'
    obtain ⟨b, ys, rfl, hys, hb2, _⟩ := (show DS exR H'' x (.tuple [.int s, .str (toS w)]) from hx1).tupl
    obtain ⟨z1, z2, rfl, f1, f2⟩ := hys.two
    cases f1
    cases f2
    have nl0 : ∀ l : List (Int × List Nat), noLists (sData l) = true := fun l => noLists_map fun _ _ => rfl
    have hW3 : H3 Wt = some (.lst (xs0 ++ [.ref b])) := e3.ext _ _ hWk
    refine q_pop2 (ρ := exR) (i := 7) (j := 8) hW3 (fun z => z) (ev_var rfl) (e3.tup _ _ hb2) fun H4 e4 hW4 => ?_
    generalize eH5 : upd H4 Wt (.lst xs0) = H5
    have c45 : ((exR.and B).and Wt).r H4 H5 := eH5 ▸ r_chg (ρ := exR.and B) hW4 fun z => z.elim (fun z => z) WB
    have r15 : ((exR.and B).and Wt).r H2 H5 := (r.trans (and_of (and_of (e3.trans e4)))).trans c45
    have hW5 : H5 Wt = some (.lst xs0) := by rw [← eH5]; exact upd_same
    have hB5 : H5 B = some (.lst (strV (made ++ dn))) := by rw [← eH5, upd_ne (Ne.symm WB)]; exact (e3.trans e4).ext _ _ hBk
    have hx5 : DSs exR H5 xs0 (sData st0) := (((e3.trans e4).dss hx0)).tups c45.tup _ _ (nl0 st0)
    have wl : (toS w).length = w.length := toS_len w
    refine s_if (ρ := exR) (b := decide (w.length = sz)) ((et_test (ev_eqI (ev_lenS (ev_var rfl) (by rw [wl]; omega)) (ev_var rfl))).to ?_) (fun hq H6 e6 => ?_) (fun hq H6 e6 => ?_)
    · rw [wl]
      by_cases h : w.length = sz
      · rw [decide_eq_true h, decide_eq_true (by omega)]
      · rw [decide_eq_false h, decide_eq_false (by omega)]
    · -- a word
      have hw := of_decide_eq_true hq
      have hB6 : H6 B = some (.lst (strV (made ++ dn))) := e6.ext _ _ hB5
      refine s_app2 (ρ := exR) hB6 (fun z => z) (ev_var rfl) (ev_var (v := .str (toS w)) rfl) (by rw [lmd]; omega) fun y H7 e7 ey hB7 => ?_
      subst ey
      have c7 : (exR.and B).r H7 (upd H7 B (.lst (strV (made ++ dn) ++ [.str (toS w)]))) := r_chg (ρ := exR) hB7 fun z => z
      have hes : cn M 0 s = true := by
        have := hsw.2
        rwa [show sz - w.length = 0 by omega] at this
      have hwd : wd M 0 s = [[]] := if_pos (of_decide_eq_true hes)
      refine ⟨(r15.trans (and_of (and_of (e6.trans e7)))).trans (and_of c7), _, _, _, _, _, st0, xs0, dn ++ [w], rfl, ?_, ?_, ?_, fun p hp => hst p (List.mem_append_left _ hp), ?_, ?_, fun p hp => .inr ⟨?_, ?_⟩⟩
      · rw [upd_same, ← List.append_assoc]
        show some (HO.lst (strV (made ++ dn) ++ [.str (toS w)])) = some (HO.lst ((made ++ dn ++ [w]).map fun w => V.str (toS w)))
        rw [List.map_append]
        rfl
      · rw [upd_ne WB]
        exact (e6.trans e7).ext _ _ hW5
      · exact ((e6.trans e7).dss hx5).tups c7.tup _ _ (nl0 st0)
      · rw [← hrest, restW_snoc, show sz - w.length = 0 by omega, hwd, List.append_assoc]
        show dn ++ ([w] ++ _) = dn ++ ([w ++ []] ++ _)
        rw [List.append_nil]
      · rw [← List.append_assoc, List.length_append, List.length_singleton]
        omega
      · rw [← List.append_assoc, List.length_append, List.length_singleton]
        have h1 := hpt.1
        have e : (limit - (((made ++ dn).length + 1 : Nat) : Int)) * ((sz : Int) + 1) = (limit - ((made ++ dn).length : Int)) * ((sz : Int) + 1) - ((sz : Int) + 1) := by
          rw [show limit - (((made ++ dn).length + 1 : Nat) : Int) = (limit - ((made ++ dn).length : Int)) - 1 by omega, Int.sub_mul, Int.one_mul]
        have h2 : ((s, w).2.length : Int) = (sz : Int) := by show (w.length : Int) = _; omega
        omega
      · have := hpt.2
        rw [List.length_append, List.length_singleton] at this
        omega
    · -- letters behind
      have hw : w.length < sz := by
        have := of_decide_eq_false hq
        omega
      obtain ⟨kk, hkk⟩ : ∃ kk, sz = w.length + (kk + 1) := ⟨sz - w.length - 1, by omega⟩
      have hcnk : cn M (kk + 1) s = true := by
        have := hsw.2
        rwa [show sz - w.length = kk + 1 by omega] at this
      have r06 : (exR.and B).r H H6 := r_and (and_of (e1.trans e2)) hW0 (r15.trans (and_of (and_of e6)))
      have hcpsz : ("fedcba" : Str).cps.size = 6 := by decide +kernel
      have hcps : ("fedcba" : Str).cps.toList = letters.reverse := by decide +kernel
      have l6 : letters.reverse.length = 6 := by decide +kernel
      have hW6 : H6 Wt = some (.lst xs0) := e6.ext _ _ hW5
      have hsl : st0.length ≤ 6 * i := by
        have := hpt.2
        rw [List.length_append, List.length_singleton] at this
        omega
      have hib : i ≤ 21500 := by
        have h1 := hpt.1
        have h2 : 0 ≤ (limit - ((made ++ dn).length : Int)) * ((sz : Int) + 1) := Int.mul_nonneg (by omega) (by omega)
        have h3 : ((s, w).2.length : Int) = (w.length : Int) := rfl
        omega
      refine s_forw (ρ := exR) (ρw := exR.and Wt) (ew_str ev_c) fun H7 e7 => ⟨fun j σ' H' => (exR.and Wt).r H7 H' ∧ ∃ (u9 u10 : Option V) (xsj : List V), σ' = [some (.ref D), some (.ref C), some (.int (sz : Int)), some (.ref B), some (.int limit), some (.ref Wt), some (.int (i : Int)), some (.int s), some (.str (toS w)), u9, u10] ∧ H' Wt = some (.lst xsj) ∧ DSs exR H' xsj (sData (st0 ++ kidsW M kk s w (letters.reverse.take j))) ∧ xsj.length ≤ st0.length + j, ⟨.rfl, _, _, xs0, rfl, e7.ext _ _ hW6, ?_, ?_⟩, fun j σ' H' _ h => h.1, ?_, ?_⟩
      · show DSs exR H7 xs0 (sData (st0 ++ []))
        rw [List.append_nil]
        exact (e6.trans e7).dss hx5
      · have : xs0.length = st0.length := by rw [hx0.length]; exact List.length_map _
        omega
      · rintro j x σ' H' H8 hj ⟨r7, u9, u10, xsj, rfl, hWj, hxj, hlj⟩ ⟨e8, c, hc, rfl⟩
        subst e8
        have hj6 : j < 6 := by rw [← hcpsz]; exact hj
        have hcl : letters.reverse[j]? = some c := by rw [← hcps, ← hc]; simp
        have htk : letters.reverse.take (j + 1) = letters.reverse.take j ++ [c] := by rw [List.take_add_one, hcl]; rfl
        have r08 : (exR.and B).r H H8 := r_and (and_of (e1.trans e2)) hW0 ((r15.trans (and_of (and_of (e6.trans e7)))).trans (r_up r7))
        have hD8 : ∀ H9, exR.r H8 H9 → H9 D = some (.dT (tabK M.ms)) := fun H9 e9 => e9.ext _ _ (r08.keep _ _ (fun z => z.elim (fun z => z) DB) hD)
        have hval := val_tab M.ms s c
        cases hdl : dl M.ms s c with
        | none =>
          have hv : EvV exR (tIf (tTest (tOp (rInU K) (tTup (tCons (tVar 7) (tCons (tVar 9) tNil))) (tVar 0))) (tIxU K (tVar 0) (tTup (tCons (tVar 7) (tCons (tVar 9) tNil)))) (tC .non)) [some (.ref D), some (.ref C), some (.int (sz : Int)), some (.ref B), some (.int limit), some (.ref Wt), some (.int (i : Int)), some (.int s), some (.str (toS w)), some (.str ⟨#[c]⟩), u10] H8 .non :=
            ev_if (b := false) ((et_test (ev_inT (k := keyM s c) (ev_keyT (ev_var rfl) (ev_var rfl)) (ev_var rfl) hD8)).to (by rw [hval, hdl]; rfl)) (fun h => by cases h) fun _ => ev_c
          refine q_asgV (ρ := exR) hv fun H9 e9 => ?_
          refine s_if (ρ := exR) (b := false) ((et_and (b := true) (et_test (ev_notN (v := .non) (ev_var rfl))) fun h => by cases h).to rfl) (fun h => by cases h) fun _ H10 e10 => ⟨r7.trans (and_of (e9.trans e10)), _, _, xsj, rfl, (e9.trans e10).ext _ _ hWj, ?_, by omega⟩
          rw [htk, kids_snoc, hdl]
          show DSs exR H10 xsj (sData (st0 ++ (kidsW M kk s w (letters.reverse.take j) ++ [])))
          rw [List.append_nil]
          exact (e9.trans e10).dss hxj
        | some t =>
          have hv : EvV exR (tIf (tTest (tOp (rInU K) (tTup (tCons (tVar 7) (tCons (tVar 9) tNil))) (tVar 0))) (tIxU K (tVar 0) (tTup (tCons (tVar 7) (tCons (tVar 9) tNil)))) (tC .non)) [some (.ref D), some (.ref C), some (.int (sz : Int)), some (.ref B), some (.int limit), some (.ref Wt), some (.int (i : Int)), some (.int s), some (.str (toS w)), some (.str ⟨#[c]⟩), u10] H8 (.int t) :=
            ev_if (b := true) ((et_test (ev_inT (k := keyM s c) (ev_keyT (ev_var rfl) (ev_var rfl)) (ev_var rfl) hD8)).to (by rw [hval, hdl]; rfl)) (fun _ => ev_getT (k := keyM s c) (ev_var rfl) (ev_keyT (ev_var rfl) (ev_var rfl)) hD8 (by rw [hval, hdl]; rfl)) fun h => by cases h
          refine q_asgV (ρ := exR) hv fun H9 e9 => ?_
          obtain ⟨rk, hrk⟩ : ∃ rk, cs[kk]? = some rk := ⟨cs[kk]'(by omega), List.getElem?_eq_getElem (by omega)⟩
          obtain ⟨kvs, hkvs, hkcn⟩ := hC.dk kk rk hrk
          have rkB : rk ≠ B := ne_of hkvs hB (by intro z; cases z)
          have r09 : (exR.and B).r H H9 := r08.trans (and_of e9)
          have hC9 : ∀ H10, exR.r H9 H10 → SqA K H10 C (cs.map V.ref) := fun H10 e => .inl (.of (e.ext _ _ (r09.keep _ _ (fun z => z.elim (fun z => z) (Ne.symm BC)) hC.at_)))
          have hk9 : ∀ H10, exR.r H9 H10 → H10 rk = some (.dK kvs) := fun H10 e => e.ext _ _ (r09.keep _ _ (fun z => z.elim (fun z => z) rkB) hkvs)
          refine s_if (ρ := exR) (b := cn M kk t) ((et_and (b := cn M kk t) (et_test (ev_notN (v := .int t) (ev_var rfl))) fun _ => (et_test (ev_inK (i := t) (ev_var rfl) (ev_ix (n := kk) (v := .ref rk) (ev_var rfl) (ev_sub (ev_sub (ev_var rfl) (ev_lenS (ev_var rfl) (by rw [wl]; omega))) ev_c) hC9 (by rw [wl]; omega) (by rw [List.getElem?_map, hrk]; rfl)) hk9)).to (hkcn t)).to rfl) (fun hbc H10 e10 => ?_) fun hbc H10 e10 => ⟨r7.trans (and_of (e9.trans e10)), _, _, xsj, rfl, (e9.trans e10).ext _ _ hWj, ?_, by omega⟩
          · have hW10 : H10 Wt = some (.lst xsj) := (e9.trans e10).ext _ _ hWj
            refine s_app2 (ρ := exR) hW10 (fun z => z) (ev_var rfl) (ev_pairD (ρ' := exR) Le.rfl (ev_var (v := .int t) rfl) (ev_addS (ev_var rfl) (ev_var rfl) (by rw [wl]; show w.length + 1 ≤ 100000; omega)) (.int t) (.str _)) (by omega) fun y H11 e11 hy hW11 => ?_
            have c11 : (exR.and Wt).r H11 (upd H11 Wt (.lst (xsj ++ [y]))) := r_chg (ρ := exR) hW11 fun z => z
            refine ⟨(r7.trans (and_of (e9.trans (e10.trans e11)))).trans c11, _, _, xsj ++ [y], rfl, upd_same, ?_, by rw [List.length_append, List.length_singleton]; omega⟩
            rw [htk, kids_snoc, hdl]
            have em : ((some t).bind fun t => if cn M kk t = true then some (t, w ++ [c]) else none) = some (t, w ++ [c]) := by
              show (if cn M kk t = true then some (t, w ++ [c]) else none) = _
              rw [if_pos hbc]
            rw [em, ← List.append_assoc]
            show DSs exR _ (xsj ++ [y]) (((st0 ++ kidsW M kk s w (letters.reverse.take j)) ++ [(t, w ++ [c])]).map fun p => PyData.tuple [.int p.1, .str (toS p.2)])
            rw [List.map_append]
            refine ((((e9.trans (e10.trans e11)).dss hxj)).tups c11.tup _ _ (nl0 _)).append (.cons ?_ .nil)
            have hy' : DS exR H11 y (.tuple [.int t, .str (toS (w ++ [c]))]) := by rw [← toS_snoc]; exact hy
            exact hy'.tups c11.tup _ _ rfl
          · rw [htk, kids_snoc, hdl]
            have em : ((some t).bind fun t => if cn M kk t = true then some (t, w ++ [c]) else none) = none := by
              show (if cn M kk t = true then some (t, w ++ [c]) else none) = _
              rw [if_neg (by rw [hbc]; exact Bool.false_ne_true)]
            rw [em]
            show DSs exR H10 xsj (sData (st0 ++ (kidsW M kk s w (letters.reverse.take j) ++ [])))
            rw [List.append_nil]
            exact (e9.trans e10).dss hxj
      · rintro σ' H' ⟨r7, u9, u10, xsj, rfl, hWj, hxj, hlj⟩
        have htake : letters.reverse.take ("fedcba" : Str).cps.size = letters.reverse := by rw [hcpsz, ← l6, List.take_length]
        rw [htake] at hxj
        have hB' : H' B = some (.lst (strV (made ++ dn))) := r7.keep _ _ (fun z => z.elim (fun z => z) (Ne.symm WB)) ((e6.trans e7).ext _ _ hB5)
        refine ⟨(r15.trans (and_of (and_of (e6.trans e7)))).trans (r_up r7), _, _, _, _, _, st0 ++ kidsW M kk s w letters.reverse, xsj, dn, rfl, hB', hWj, hxj, fun p hp => ?_, ?_, hlen, fun p hp => .inr ⟨?_, ?_⟩⟩
        · rcases List.mem_append.mp hp with h | h
          · exact hst p (List.mem_append_left _ h)
          · obtain ⟨h1, h2⟩ := kids_ok h
            exact ⟨by omega, by rw [h1, show sz - (w.length + 1) = kk by omega]; exact h2⟩
        · rw [kids_rest ok hkk, ← hrest, restW_snoc, show sz - w.length = kk + 1 by omega]
        · have hne := kids_ne ok (w := w) hcnk
          have hmem : p ∈ kidsW M kk s w letters.reverse := by
            obtain ⟨ks0, q, hks⟩ : ∃ ks0 q, kidsW M kk s w letters.reverse = ks0 ++ [q] := ⟨_, _, (List.dropLast_concat_getLast hne).symm⟩
            rw [hks, ← List.append_assoc, List.getLast?_concat] at hp
            cases hp
            rw [hks]
            exact List.mem_append_right _ (List.mem_singleton_self _)
          have h1 := (kids_ok hmem).1
          have h2 := hpt.1
          have h3 : ((s, w).2.length : Int) = (w.length : Int) := rfl
          rw [h1]
          omega
        · have hk6 : (kidsW M kk s w letters.reverse).length ≤ 6 := by rw [← l6]; exact List.length_filterMap_le _ _
          rw [List.length_append]
          omega
  · rintro σ' H' ⟨r, u1, u2, u3, u4, u5, st, xs, dn, rfl, hBk, hWk, hxs, hst, hrest, hlen, hpot⟩
    refine k H' (r_and (and_of (e1.trans e2)) hW0 r) ?_
    rw [fin st dn hrest hlen ?_]
    · exact hBk
    · by_cases h0 : st.length = 0
      · exact .inl h0
      · obtain ⟨st0, p, rfl⟩ : ∃ st0 p, st = st0 ++ [p] := ⟨st.dropLast, st.getLast (fun z => h0 (by rw [z]; rfl)), (List.dropLast_concat_getLast _).symm⟩
        rcases hpot p (by simp) with h | ⟨h, _⟩
        · exact .inr h
        · exfalso
          have h2 : 0 ≤ (limit - ((made ++ dn).length : Int)) * ((sz : Int) + 1) := Int.mul_nonneg (by omega) (by omega)
          have h3 := (hst p (List.mem_append_right _ (List.mem_singleton_self _))).1
          omega
end Slip
/-! the first words, as the law finds them -/
namespace Slip
open PySem PySem.Spec PyProof.Rows L2
theorem s_callM {σ : L2.St} {H : Hp} {sp : Sp} {E : XK} {ta : TA} {vs : List V} {D : Ends} (h : EvAV exR ta σ H vs) (hs : ∀ H1, exR.r H H1 → ∀ E, sp vs H1 (fun _ H2 => D.nx σ H2) E) : tDrop (tCall sp [] E ta) D σ H := h H .rfl _ fun _ H1 e1 ev => by
  subst ev
  rw [List.append_nil]
  exact hs H1 e1 E
theorem s_putK {K : Frag} {σ : L2.St} {H : Hp} {te ta ti : TE} {P : Addr} {kvs : List (Key × V)} {i : Int} {y : V} {D : Ends} (hv : EvV exR te σ H y) (ho : EvV exR ta σ H (.ref P)) (hi : EvV exR ti σ H (.int i)) (hP : H P = some (.dK kvs)) (hl : kvs.length < 100000) (k : ∀ H1, exR.r H H1 → H1 P = some (.dK kvs) → D.nx σ (upd H1 P (.dK (putK kvs (.inl i) y)))) : tAsg te (gSub ta ti (rSetU K)) D σ H := hv H .rfl _ fun v H1 e1 ev => by
  subst ev
  exact ho H1 e1 _ fun o H2 e2 eo => by
    subst eo
    exact hi H2 (e1.trans e2) _ fun w H3 e3 ew => by
      subst ew
      have e := e1.trans (e2.trans e3)
      exact .inr ⟨P, _, rfl, DPut.k (k := .inl i) (e.ext _ _ hP) (Evl.sz_lt hl), k H3 e (e.ext _ _ hP)⟩
def sp__law_first_words (K : Frag) : Sp := fun vs H Q _ => ∃ (v : V) (limit : Int) (M : Mac), vs = [v, .int limit] ∧ DS exR H v (macD M) ∧ MacOk M ∧ 0 ≤ limit ∧ limit ≤ 50 ∧
  ∀ v' H', Ext H H' → DS exR H' v' (.tuple (((upto M 420).take limit.toNat).map fun w => .str (toS w))) → Q v' H'
theorem len__law_first_words {K : Frag} {vs : List V} {H : Hp} {Q : VK} {E : XK} (h : sp__law_first_words K vs H Q E) : vs.length = 2 := by
  obtain ⟨v, l, M, rfl, _⟩ := h
  rfl
def t__law_first_words (K : Frag) : TS := (tSeq (tAsg (tCall (sp__law_moves K) [] E0 (tCons (tVar 0) tNil)) (gName 2)) (tSeq (tAsg (tLst (tCons tDNewK tNil)) (gName 3)) (tSeq (tFor (iSeq K (tIxU K (tVar 0) (tC (.int 1)))) (gName 4) (tAsg (tC (.bl true)) (gSub (tIxU K (tVar 3) (tC (.int 0))) (tVar 4) (rSetU K)))) (tSeq (tAsg (tLst tNil) (gName 5)) (tSeq (tFor (iRng1 (tCons (tC (.int 420)) tNil)) (gName 6) (tSeq (tIfS (tAnd (tTest (tOp (rInU K) (tC (.int 0)) (tIxU K (tVar 3) (tVar 6)))) (tTest (tOp (rCmp K gLt) (tCB (rLenU K) (tCons (tVar 5) tNil)) (tVar 1)))) (tDrop (tCall (sp__law_words_of K) [] E0 (tCons (tVar 2) (tCons (tVar 3) (tCons (tVar 6) (tCons (tVar 5) (tCons (tVar 1) tNil))))))) tNext) (tSeq (tAsg tDNewK (gName 7)) (tSeq (tFor (iSeq K (tIxU K (tVar 0) (tC (.int 2)))) (gName 8) (tIfS (tTest (tOp (rInU K) (tIxU K (tVar 8) (tC (.int 2))) (tIxU K (tVar 3) (tVar 6)))) (tAsg (tC (.bl true)) (gSub (tVar 7) (tIxU K (tVar 8) (tC (.int 0))) (rSetU K))) tNext)) (tDrop (tBM K "list" rAppend (tVar 3) (tCons (tVar 7) tNil))))))) (tRet (tCB (rTupOf K) (tCons (tVar 5) tNil))))))))
theorem r_chgK {ρ : Rl} {D : Addr} {H : Hp} {kvs kvs' : List (Key × V)} (h : H D = some (.dK kvs)) (n : ¬ ρ.S D) : (ρ.and D).r H (upd H D (.dK kvs')) :=
  ⟨fun a o s q => by rw [upd_ne (fun z => s (.inr z))]; exact q,
   fun a q => by
    by_cases z : a = D
    · subst z; rw [upd_same] at q; cases q
    · rw [upd_ne z] at q; exact q,
   fun a xs q => by rw [upd_ne (ne_of q h (by intro z; cases z))]; exact q, fun a o u q => by rw [upd_ne (ne_of q h (by intro z; cases z))]; exact q,
   fun a p ⟨k, h0, q⟩ => ⟨k, h0, by rw [upd_ne (fun z : a = D => n (z ▸ ρ.sub a p))]; exact q⟩⟩
theorem put_some (kvs : List (Key × V)) (i j : Int) : (valV (putK kvs (.inl i) (.bl true)) (.inl j)).isSome = (decide (i = j) || (valV kvs (.inl j)).isSome) := by
  rw [valV_put]
  by_cases h : i = j
  · subst h
    rw [if_pos rfl]
    simp
  · rw [if_neg (fun e => h (by injection e with e; exact e.symm)), decide_eq_false h, Bool.false_or]
theorem pure__law_first_words {K : Frag} (vs : List V) (H : Hp) (Q : VK) (E : XK) (h : sp__law_first_words K vs H Q E) : t__law_first_words K { nx := fun _ H' => Q .non H', rt := Q } (start ["machine", "limit", "moves", "can", "state", "made", "size", "more", "one"] vs) H := by
  obtain ⟨v, limit, M, rfl, hd, ok, l0, l50, k⟩ := h
  have hself : tupD (macD M) = macD M := by
    refine tup_self _ ?_
    show (true && (noLists (M.es.map PyData.int) && (noLists (M.ms.map mvD) && true))) = true
    rw [noLists_map fun _ _ => rfl, noLists_map fun _ _ => rfl]
    rfl
  obtain ⟨a, xsM, rfl, hxM, hAM, hsqM⟩ := (show DS exR H v (.tuple [.int M.n, .tuple (M.es.map PyData.int), .tuple (M.ms.map mvD)]) from hd).tupl
  obtain ⟨x1, x2, x3, rfl, c1, c2, c3⟩ := hxM.three
  obtain ⟨ea, ys, rfl, hye, hEA, hsE⟩ := (show DS exR H x2 (.tuple (M.es.map PyData.int)) from c2).tupl
  have := ints_of hye
  subst this
  obtain ⟨mb, zs, rfl, hzs, hMB, hsB⟩ := (show DS exR H x3 (.tuple (M.ms.map mvD)) from c3).tupl
  have lz : zs.length = M.ms.length := by rw [hzs.length, List.length_map]
  have le : (M.es.map V.int).length = M.es.length := List.length_map _
  have sA : ∀ H1, exR.r H H1 → SqA K H1 a [x1, .ref ea, .ref mb] := fun H1 e => .inr (hsqM K exR H1 e)
  -- moves
  refine q_asg (ρ := exR) (R := fun v H' => ∃ D, v = .ref D ∧ H' D = some (.dT (tabK M.ms))) (ev_call (ea_cons (ev_var rfl) ea_nil) fun H2 e2 Q' q' E' => ⟨.ref a, M, rfl, (e2.ds hd).ex, ok.keys, by have := ok.msLen; omega, fun D H' _ e hD => q' _ H' (Ext.r e) ⟨D, rfl, hD⟩⟩) fun v H1 e1 ⟨D, ev, hD⟩ => ?_
  subst ev
  -- can
  refine q_asg (ρ := exR) (R := fun v H' => ∃ C r, v = .ref C ∧ H1 C = none ∧ H1 r = none ∧ H' C = some (.lst [.ref r]) ∧ H' r = some (.dK [])) ((ev_lst (Rr := fun vs H' => ∃ r, vs = [.ref r] ∧ H1 r = none ∧ H' r = some (.dK [])) ((ea_one (ta := tDNewK) (Ra := fun v H' => ∃ r, v = .ref r ∧ H1 r = none ∧ H' r = some (.dK [])) (fun H2 e2 Q q p hp => q _ _ (r_new _ hp) ⟨p, rfl, e2.back p hp, upd_same⟩)).imp fun vs H2 _ ⟨x, e, r, ex, h1, h2⟩ => ⟨r, by rw [e, ex], h1, h2⟩) fun vs H2 _ ⟨r, e, _⟩ => by rw [e]; show 1 ≤ 100000; decide).imp fun v H2 _ ⟨p, vs, H3, ev, ⟨r, evs, h1, h2⟩, hp, r3, eH⟩ => by
    subst ev evs
    exact ⟨p, r, rfl, r3.back p hp, h1, by rw [eH]; exact upd_same, by rw [eH, upd_ne (fun z => by rw [← z, h2] at hp; cases hp)]; exact h2⟩) fun v H2 e2 ⟨C, rc, ev, hC0, hrc0, hC, hrc⟩ => ?_
  subst ev
  have e02 := e1.trans e2
  have rcC : rc ≠ C := ne_of hrc hC (by intro z; cases z)
  refine q_forw (ρ := exR) (ρw := exR.and rc) (n := (M.es.map V.int).length) (Y := YAt (M.es.map V.int)) (fun H3 e3 R kk => .inr (.inl (ev_ix (ρ := exR) (K := K) (n := 1) (ev_var (v := .ref a) rfl) (ev_c (v := .int 1)) (fun H4 e4 => sA H4 (e02.trans e4)) rfl rfl H3 e3 _ fun v H4 e4 ev => ⟨ea, ev, ⟨_, hsE K exR H4 (e02.trans (e3.trans e4))⟩, kk _ H4 e4 (walk_tup.mono (fun H5 e5 => e5.sqT (hsE K exR H4 (e02.trans (e3.trans e4)))) fun _ _ _ _ _ _ y => y)⟩))) fun H3 e3 => ⟨fun i σ' H' => (exR.and rc).r H3 H' ∧ ∃ (u : Option V) (kvs : List (Key × V)), σ' = [some (.ref a), some (.int limit), some (.ref D), some (.ref C), u, none, none, none, none] ∧ H' rc = some (.dK kvs) ∧ kvs.length ≤ i ∧ ∀ s, (valV kvs (.inl s)).isSome = decide (s ∈ M.es.take i), ⟨.rfl, _, [], rfl, e3.ext _ _ hrc, Nat.le_refl 0, fun s => by simp [valV]⟩, fun i σ' H' _ h => h.1, ?_, ?_⟩
  · rintro i x σ' H' H'' hi ⟨r, u, kvs, rfl, hkv, hkl, hks⟩ ⟨e5, hx⟩
    subst e5
    rw [List.getElem?_map] at hx
    obtain ⟨s, hs, rfl⟩ : ∃ s, M.es[i]? = some s ∧ x = .int s := by
      cases q : M.es[i]? with
      | none => rw [q] at hx; cases hx
      | some s => rw [q] at hx; exact ⟨s, rfl, (Option.some.inj hx).symm⟩
    have hC' : H'' C = some (.lst [.ref rc]) := r.keep _ _ (fun z => z.elim (fun z => z) (Ne.symm rcC)) (e3.ext _ _ hC)
    have i8 : i < 8 := by have := ok.esLen; rw [le] at hi; omega
    refine ev_ix (ρ := exR) (K := K) (n := 0) (σ := [some (.ref a), some (.int limit), some (.ref D), some (.ref C), some (.int s), none, none, none, none]) (ta := tVar 3) (tb := tC (.int 0)) (v := .ref rc) (xs := [.ref rc]) (ev_var rfl) ev_c (fun H6 e6 => .inl (.of (e6.ext _ _ hC'))) rfl rfl H'' .rfl _ fun u H6 e6 eu => ?_
    subst eu
    refine ev_var (ρ := exR) (i := 4) (σ := [some (.ref a), some (.int limit), some (.ref D), some (.ref C), some (.int s), none, none, none, none]) (v := .int s) rfl H6 .rfl _ fun w H7 e7 ew => ?_
    subst ew
    have h7 : H7 rc = some (.dK kvs) := (e6.trans e7).ext _ _ hkv
    refine .inr ⟨rc, _, rfl, DPut.k (k := .inl s) h7 (Evl.sz_lt (by omega)), (r.trans (and_of (e6.trans e7))).trans (r_chgK (ρ := exR) h7 fun z => z), _, _, rfl, upd_same, ?_, fun t => ?_⟩
    · have := length_putK kvs (.inl s) (V.bl true)
      omega
    · rw [put_some, hks, List.take_add_one, hs]
      by_cases h : s = t
      · subst h
        simp
      · rw [decide_eq_false h, Bool.false_or]
        simp [h, Ne.symm h]
  rintro σ' H4 ⟨r4, u4, kvs0, rfl, hkv0, hkl0, hks0⟩
  rw [le, List.take_length] at hks0
  have e04 : exR.r H H4 := e1.trans (r_and (e2.trans e3) hrc0 r4)
  have e14 : exR.r H1 H4 := r_and (e2.trans e3) hrc0 r4
  have hC4 : H4 C = some (.lst [.ref rc]) := r4.keep _ _ (fun z => z.elim (fun z => z) (Ne.symm rcC)) (e3.ext _ _ hC)
  have hD4 : H4 D = some (.dT (tabK M.ms)) := e14.ext _ _ hD
  have hC0' : H C = none := e1.back C hC0
  -- made
  refine q_asg (ρ := exR) (R := fun v H' => ∃ B, v = .ref B ∧ H4 B = none ∧ H' B = some (.lst [])) ((ev_lst ea_nil fun vs H1 _ e => by rw [e]; show 0 ≤ 100000; decide).imp fun v H2 r ⟨p, vs, H3, ev, evs, hp, r3, eH⟩ => by
    subst ev evs
    exact ⟨p, rfl, r3.back p hp, by rw [eH]; exact upd_same⟩) fun v H5 e5 ⟨B, ev, hB0, hB⟩ => ?_
  subst ev
  have e05 := e04.trans e5
  have hB00 : H B = none := e04.back B hB0
  have BC : B ≠ C := fun z => by rw [z, hC4] at hB0; cases hB0
  have DB : D ≠ B := fun z => by rw [← z, hD4] at hB0; cases hB0
  have DC : D ≠ C := ne_of hD4 hC4 (by intro z; cases z)
  have hD5 : H5 D = some (.dT (tabK M.ms)) := e5.ext _ _ hD4
  refine q_forw (ρ := exR) (ρw := (exR.and B).and C) (n := 420) (Y := YFn fun m => .int ((m : Nat) : Int)) (ew_rng (i := 420) (ea_cons ev_c ea_nil) (by decide) (by decide)) fun H6 e6 => ⟨fun i σ' H' => ((exR.and B).and C).r H6 H' ∧ ∃ (u1 u2 u3 u4 : Option V) (cs : List Addr), σ' = [some (.ref a), some (.int limit), some (.ref D), some (.ref C), u1, some (.ref B), u2, u3, u4] ∧ H' B = some (.lst (strV ((upto M i).take limit.toNat))) ∧ CanAt M H' C cs ∧ cs.length = i + 1, ⟨.rfl, _, _, _, _, [rc], rfl, ?_, ⟨(e5.trans e6).ext _ _ hC4, fun j r hr => ?_⟩, rfl⟩, fun i σ' H' _ h => h.1, ?_, ?_⟩
  · show H6 B = some (.lst (strV (([] : List (List Nat)).take limit.toNat)))
    rw [List.take_nil]
    exact e6.ext _ _ hB
  · cases j with
    | zero =>
      cases hr
      exact ⟨kvs0, (e5.trans e6).ext _ _ hkv0, hks0⟩
    | succ j => cases hr
  · rintro i x σ' H' H7 hi ⟨r7, u1, u2, u3, u4, cs, rfl, hBk, hcan, hcl⟩ ⟨e7, rfl⟩
    subst e7
    have hi' : i < 420 := hi
    have r07 : exR.r H H7 := r_and2 (e05.trans e6) hB00 hC0' r7
    have hD7 : H7 D = some (.dT (tabK M.ms)) := r7.keep _ _ (fun z => by rcases z with (z | z) | z <;> first | exact z | exact DB z | exact DC z) (e6.ext _ _ hD5)
    obtain ⟨ri, hri⟩ : ∃ ri, cs[i]? = some ri := ⟨cs[i]'(by omega), List.getElem?_eq_getElem (by omega)⟩
    obtain ⟨kvi, hkvi, hkci⟩ := hcan.dk i ri hri
    have lB : (strV ((upto M i).take limit.toNat)).length = min limit.toNat (upto M i).length := by rw [List.length_map, List.length_take]
    -- behind the question
    have cont : ∀ (D' : Ends), (∀ σ2 H2, (((exR.and B).and C).r H6 H2 ∧ ∃ (u1 u2 u3 u4 : Option V) (cs : List Addr), σ2 = [some (.ref a), some (.int limit), some (.ref D), some (.ref C), u1, some (.ref B), u2, u3, u4] ∧ H2 B = some (.lst (strV ((upto M (i + 1)).take limit.toNat))) ∧ CanAt M H2 C cs ∧ cs.length = (i + 1) + 1) → D'.nx σ2 H2) → ∀ H8, ((exR.and B).and C).r H7 H8 → H8 B = some (.lst (strV ((upto M (i + 1)).take limit.toNat))) → CanAt M H8 C cs → (tSeq (tAsg tDNewK (gName 7)) (tSeq (tFor (iSeq K (tIxU K (tVar 0) (tC (.int 2)))) (gName 8) (tIfS (tTest (tOp (rInU K) (tIxU K (tVar 8) (tC (.int 2))) (tIxU K (tVar 3) (tVar 6)))) (tAsg (tC (.bl true)) (gSub (tVar 7) (tIxU K (tVar 8) (tC (.int 0))) (rSetU K))) tNext)) (tDrop (tBM K "list" rAppend (tVar 3) (tCons (tVar 7) tNil))))) D' [some (.ref a), some (.int limit), some (.ref D), some (.ref C), u1, some (.ref B), some (.int (i : Int)), u3, u4] H8 := by
      intro D' hD' H8 r8 hB8 hcan8
      have r08 : exR.r H H8 := r_and2 (e05.trans e6) hB00 hC0' (r7.trans r8)
      obtain ⟨kvi, hkvi, hkci⟩ := hcan8.dk i ri hri
      refine q_asg (ρ := exR) (R := fun v H' => ∃ P, v = .ref P ∧ H8 P = none ∧ H' P = some (.dK [])) (fun H9 e9 Q q p hp => q _ _ (r_new _ hp) ⟨p, rfl, e9.back p hp, upd_same⟩) fun v H9 e9 ⟨P, ev, hP0, hP⟩ => ?_
      subst ev
      have r09 := r08.trans e9
      have PC : C ≠ P := fun z => by rw [← z, hcan8.at_] at hP0; cases hP0
      have PB : B ≠ P := fun z => by rw [← z, hB8] at hP0; cases hP0
      have Pri : ri ≠ P := fun z => by rw [← z, hkvi] at hP0; cases hP0
      refine q_forw (ρ := exR) (ρw := exR.and P) (n := zs.length) (Y := YAt zs) (fun H10 e10 R kk => .inr (.inl (ev_ix (ρ := exR) (K := K) (n := 2) (ev_var (v := .ref a) rfl) (ev_c (v := .int 2)) (fun H11 e11 => sA H11 (r09.trans e11)) rfl rfl H10 e10 _ fun v H11 e11 ev => ⟨mb, ev, ⟨_, hsB K exR H11 (r09.trans (e10.trans e11))⟩, kk _ H11 e11 (walk_tup.mono (fun H12 e12 => e12.sqT (hsB K exR H11 (r09.trans (e10.trans e11)))) fun _ _ _ _ _ _ y => y)⟩))) fun H10 e10 => ⟨fun j σ' H' => (exR.and P).r H10 H' ∧ ∃ (u : Option V) (kvs : List (Key × V)), σ' = [some (.ref a), some (.int limit), some (.ref D), some (.ref C), u1, some (.ref B), some (.int (i : Int)), some (.ref P), u] ∧ H' P = some (.dK kvs) ∧ kvs.length ≤ j ∧ ∀ s, (valV kvs (.inl s)).isSome = (M.ms.take j).any fun m => decide (m.1 = s) && cn M i m.2.2, ⟨.rfl, _, [], rfl, e10.ext _ _ hP, Nat.le_refl 0, fun s => rfl⟩, fun j σ' H' _ h => h.1, ?_, ?_⟩
      · rintro j x σ' H' H11 hj ⟨r11, u, kvs, rfl, hkv, hkl, hks⟩ ⟨e11, hx⟩
        subst e11
        have r011 : exR.r H H11 := r_and .rfl (r08.back P hP0) ((and_of (r09.trans e10)).trans r11)
        obtain ⟨d1, g1, g2⟩ := hzs.get hx
        rw [List.getElem?_map] at g1
        obtain ⟨m, gm, rfl⟩ : ∃ m, M.ms[j]? = some m ∧ d1 = mvD m := by
          cases q : M.ms[j]? with
          | none => rw [q] at g1; cases g1
          | some m => rw [q] at g1; exact ⟨m, rfl, (Option.some.inj g1).symm⟩
        have g3 : DS exR H11 x (.tuple [.int m.1, .str ⟨#[m.2.1]⟩, .int m.2.2]) := r011.ds g2
        obtain ⟨c, qs, rfl, hz, hQ, hsc⟩ := g3.tupl
        obtain ⟨z1, z2, z3, rfl, f1, f2, f3⟩ := hz.three
        cases f1
        cases f2
        cases f3
        have sC : ∀ H12, exR.r H11 H12 → SqA K H12 c [.int m.1, .str ⟨#[m.2.1]⟩, .int m.2.2] := fun H12 e => .inr (hsc K exR H12 e)
        have hC11 : H11 C = some (.lst (cs.map V.ref)) := r11.keep _ _ (fun z => z.elim (fun z => z) PC) ((e9.trans e10).ext _ _ hcan8.at_)
        have hri11 : H11 ri = some (.dK kvi) := r11.keep _ _ (fun z => z.elim (fun z => z) Pri) ((e9.trans e10).ext _ _ hkvi)
        have j48 : j < 48 := by have := ok.msLen; omega
        have hstep : ∀ s, ((M.ms.take (j + 1)).any fun m => decide (m.1 = s) && cn M i m.2.2) = (((M.ms.take j).any fun m => decide (m.1 = s) && cn M i m.2.2) || (decide (m.1 = s) && cn M i m.2.2)) := fun s => by
          rw [List.take_add_one, gm, List.any_append]
          simp
        refine s_if (ρ := exR) (b := cn M i m.2.2) ((et_test (ev_inK (ev_ix (n := 2) (ev_var rfl) ev_c sC rfl rfl) (ev_ix (n := i) (v := .ref ri) (ev_var rfl) (ev_var rfl) (fun H12 e12 => .inl (.of (e12.ext _ _ hC11))) rfl (by rw [List.getElem?_map, hri]; rfl)) (fun H12 e12 => e12.ext _ _ hri11))).to (hkci _)) (fun hb H12 e12 => ?_) fun hb H12 e12 => ⟨r11.trans (and_of e12), _, kvs, rfl, e12.ext _ _ hkv, by omega, fun s => by rw [hstep, hb, Bool.and_false, Bool.or_false]; exact hks s⟩
        refine s_putK (P := P) (kvs := kvs) (i := m.1) (y := .bl true) ev_c (ev_var rfl) (ev_ix (n := 0) (ev_var rfl) ev_c (fun H14 e14 => sC H14 (e12.trans e14)) rfl rfl) (e12.ext _ _ hkv) (by omega) fun H14 e14 h14 => ?_
        refine ⟨(r11.trans (and_of (e12.trans e14))).trans (r_chgK (ρ := exR) h14 fun z => z), _, _, rfl, upd_same, ?_, fun s => ?_⟩
        · have := length_putK kvs (.inl m.1) (V.bl true)
          omega
        · rw [put_some, hks, hstep, hb, Bool.and_true, Bool.or_comm]
      · rintro σ' H11 ⟨r11, u, kvs, rfl, hkv, hkl, hks⟩
        have htk : M.ms.take zs.length = M.ms := List.take_of_length_le (by omega)
        rw [htk] at hks
        have r811 : exR.r H8 H11 := r_and (e9.trans e10) hP0 r11
        have hC11 : H11 C = some (.lst (cs.map V.ref)) := r811.ext _ _ hcan8.at_
        refine s_app2 (ρ := exR) hC11 (fun z => z) (ev_var rfl) (ev_var (v := .ref P) rfl) (by rw [List.length_map]; omega) fun y H12 e12 ey hC12 => ?_
        subst ey
        have c12 : ((exR.and B).and C).r H12 (upd H12 C (.lst (cs.map V.ref ++ [.ref P]))) := r_chg (ρ := exR.and B) hC12 fun z => z.elim (fun z => z) (Ne.symm BC)
        have r812 := r811.trans e12
        refine hD' _ _ ⟨((r7.trans r8).trans (and_of (and_of r812))).trans c12, _, _, _, _, cs ++ [P], rfl, by rw [upd_ne BC]; exact r812.ext _ _ hB8, ⟨by rw [upd_same, List.map_append]; rfl, fun j r hr => ?_⟩, by rw [List.length_append, List.length_singleton, hcl]⟩
        by_cases hj : j < cs.length
        · rw [List.getElem?_append_left hj] at hr
          obtain ⟨kv, h1, h2⟩ := hcan8.dk j r hr
          have h3 := r812.ext _ _ h1
          exact ⟨kv, by rw [upd_ne (ne_of h3 hC12 (by intro z; cases z))]; exact h3, h2⟩
        · have hj2 : j = i + 1 := by
            have := (List.getElem?_eq_some_iff.mp hr).1
            rw [List.length_append, List.length_singleton, hcl] at this
            omega
          subst hj2
          rw [List.getElem?_append_right (by omega), hcl, Nat.sub_self] at hr
          cases hr
          have h3 : H12 P = some (.dK kvs) := e12.ext _ _ hkv
          exact ⟨kvs, by rw [upd_ne (Ne.symm PC)]; exact h3, hks⟩
    refine q_when (ρ := exR) (b := cn M i 0 && decide (((min limit.toNat (upto M i).length : Nat) : Int) < limit)) ((et_and (et_test (ev_inK (i := 0) ev_c (ev_ix (n := i) (v := .ref ri) (ev_var rfl) (ev_var rfl) (fun H8 e8 => .inl (.of (e8.ext _ _ hcan.at_))) rfl (by rw [List.getElem?_map, hri]; rfl)) (fun H8 e8 => e8.ext _ _ hkvi))) fun _ => (et_test (ev_lt (ev_len (ev_var rfl) fun H8 e8 => .inl (.of (e8.ext _ _ hBk))) (ev_var rfl))).to (by rw [lB])).to (by rw [hkci])) (fun hb H8 e8 => ?_) (fun hb H8 e8 => ?_)
    · have hb' : cn M i 0 = true ∧ ((min limit.toNat (upto M i).length : Nat) : Int) < limit := by simpa using hb
      have htk : (upto M i).take limit.toNat = upto M i := List.take_of_length_le (by omega)
      refine s_callM (ea_cons (ev_var rfl) (ea_cons (ev_var rfl) (ea_cons (ev_var rfl) (ea_cons (ev_var rfl) (ea_cons (ev_var rfl) ea_nil))))) fun H9 e9 E' => ?_
      have e89 := e8.trans e9
      refine ⟨D, C, B, (i : Int), limit, M, cs, (upto M i).take limit.toNat, rfl, ok, e89.ext _ _ hD7, ⟨e89.ext _ _ hcan.at_, fun j r hr => ?_⟩, by omega, by omega, by omega, e89.ext _ _ hBk, BC, by rw [List.length_take]; omega, l50, hb'.1, fun H10 r10 hB10 => ?_⟩
      · obtain ⟨kv, h1, h2⟩ := hcan.dk j r hr
        exact ⟨kv, e89.ext _ _ h1, h2⟩
      · rw [htk, Int.toNat_natCast, ← upto_succ] at hB10
        refine cont _ (fun _ _ h => h) H10 (and_of ((and_of e89).trans r10)) hB10 ⟨r10.keep _ _ (fun z => z.elim (fun z => z) (Ne.symm BC)) (e89.ext _ _ hcan.at_), fun j r hr => ?_⟩
        obtain ⟨kv, h1, h2⟩ := hcan.dk j r hr
        exact ⟨kv, r10.keep _ _ (fun z => z.elim (fun z => z) (ne_of h1 hBk (by intro z; cases z))) (e89.ext _ _ h1), h2⟩
    · refine cont _ (fun _ _ h => h) H8 (and_of (and_of e8)) ?_ ⟨e8.ext _ _ hcan.at_, fun j r hr => ?_⟩
      · have hsame : (upto M (i + 1)).take limit.toNat = (upto M i).take limit.toNat := by
          rw [upto_succ]
          cases hc : cn M i 0 with
          | false =>
            have : wd M i 0 = [] := Classical.byContradiction fun z => by
              have := (wd_ne ok i 0).mp z
              rw [hc] at this
              cases this
            rw [this, List.append_nil]
          | true =>
            rw [hc, Bool.true_and] at hb
            have := of_decide_eq_false hb
            exact List.take_append_of_le_length (by omega)
        rw [hsame]
        exact e8.ext _ _ hBk
      · obtain ⟨kv, h1, h2⟩ := hcan.dk j r hr
        exact ⟨kv, e8.ext _ _ h1, h2⟩
  · rintro σ' H' ⟨r7, u1, u2, u3, u4, cs, rfl, hBk, hcan, hcl⟩
    have r07 : exR.r H H' := r_and2 (e05.trans e6) hB00 hC0' r7
    refine s_ret (ρ := exR) (R := fun v H' => DS exR H' v (.tuple (((upto M 420).take limit.toNat).map fun w => .str (toS w)))) (ev_cbV (ea_cons (ev_var (v := .ref B) rfl) ea_nil) fun H8 e8 Q' q' => ⟨B, _, rfl, .inl ⟨.of (e8.ext _ _ hBk), fun l hl => q' _ _ (r_new _ hl) (.tup upd_same (strs_dss _))⟩⟩) fun v H8 e8 hv => k v H8 (r07.trans e8).ext hv
end Slip
/-! the law of machines -/
namespace Slip
open PySem PySem.Spec PyProof.Rows L2
theorem none_machine : isMachineD (.tuple [.int 0, .tuple [], .tuple []]) = false := by decide +kernel
theorem one_machine : isMachineD (.tuple [.int 1, .tuple [], .tuple []]) = true := by decide +kernel
theorem so_strs : ∀ ws : List (List Nat), soAll (ws.map fun w => PyData.str (toS w)) (ws.map fun w => PyData.str (toS w)) = true
  | [] => rfl
  | w :: ws => by
    show (decide (toS w = toS w) && soAll _ _) = true
    rw [decide_eq_true rfl, so_strs ws]
    rfl
theorem sm_strs (M : Mac) (L : Nat) (h : L ≤ 50) : sm (.tuple (((upto M 420).take L).map fun w => .str (toS w))) = true := by
  have hl : (((upto M 420).take L).map fun w => PyData.str (toS w)).length ≤ 1000 := by
    rw [List.length_map, List.length_take]
    omega
  show (decide (_ ≤ 1000) && smAll _) = true
  rw [decide_eq_true hl, smAll_of]
  · rfl
  · intro d hd
    obtain ⟨w, hw, rfl⟩ := List.mem_map.mp hd
    have := upto_len M 420 L hw
    show decide ((toS w).length ≤ 1000) = true
    rw [toS_len]
    exact decide_eq_true (by omega)
theorem depth_strs (ws : List (List Nat)) : (PyData.tuple (ws.map fun w => .str (toS w))).depth ≤ 1 := by
  show PyData.depthAll _ + 1 ≤ 1
  have := depth_all (D := 0) (ds := ws.map fun w => PyData.str (toS w)) fun d hd => by
    obtain ⟨w, _, rfl⟩ := List.mem_map.mp hd
    exact Nat.le_refl 0
  omega
def sp_law (K : Frag) : Sp := fun vs H Q _ => ∃ (a : Addr) (ns : List Int), vs = [.ref a] ∧ SqL K H a (ns.map V.int) ∧ ns.length ≤ 63 ∧ ∀ H', Q (.bl true) H'
theorem len_law {K : Frag} {vs : List V} {H : Hp} {Q : VK} {E : XK} (h : sp_law K vs H Q E) : vs.length = 1 := by
  obtain ⟨a, ns, rfl, _⟩ := h
  rfl
def t_law (K : Frag) : TS := (tSeq (tAsg (tCall (sp__law_numbers K) [] E0 (tCons (tVar 0) tNil)) (gName 1)) (tSeq (tAsg (tLst (tCons (tC (.int 0)) tNil)) (gName 2)) (tSeq (tAsg (tCall (sp__law_few K) [] E0 (tCons (tVar 1) (tCons (tVar 2) (tCons (tLst (tCons (tC (.int 2)) (tCons (tC (.int 3)) (tCons (tC (.int 6)) tNil)))) tNil)))) (gName 3)) (tSeq (tAsg (tCall (sp__law_machine K) [] E0 (tCons (tVar 1) (tCons (tVar 2) (tCons (tIxU K (tLst (tCons (tC (.int 4)) (tCons (tC (.int 8)) tNil))) (tCall (sp__law_take K) [] E0 (tCons (tVar 1) (tCons (tVar 2) (tCons (tC (.int 2)) tNil))))) (tCons (tVar 3) tNil))))) (gName 4)) (tSeq (tIfS (tOr (tNot (tB (tCall (sp__law_so K 8) [] E0 (tCons (tCall (sp_is_machine K) [] E0 (tCons (tTup (tCons (tC (.int 0)) (tCons (tTup tNil) (tCons (tTup tNil) tNil)))) tNil)) (tCons (tC (.bl false)) tNil))))) (tNot (tB (tCall (sp__law_so K 8) [] E0 (tCons (tCall (sp_is_machine K) [] E0 (tCons (tTup (tCons (tC (.int 1)) (tCons (tTup tNil) (tCons (tTup tNil) tNil)))) tNil)) (tCons (tC (.bl true)) tNil)))))) (tRet (tC (.bl false))) tNext) (tSeq (tAsg (tCall (sp__law_handed K) [] E0 (tCons (tVar 1) (tCons (tVar 2) (tCons (tVar 4) tNil)))) (gName 5)) (tSeq (tIfS (tOr (tNot (tB (tCall (sp__law_so K 8) [] E0 (tCons (tCall (sp_is_machine K) [] E0 (tCons (tVar 5) tNil)) (tCons (tC (.bl true)) tNil))))) (tNot (tB (tCall (sp__law_so K 8) [] E0 (tCons (tCall (sp__law_tupled K 8) [] E0 (tCons (tVar 5) tNil)) (tCons (tVar 4) tNil)))))) (tRet (tC (.bl false))) tNext) (tSeq (tFor (iRng1 (tCons (tC (.int 8)) tNil)) (gName 6) (tSeq (tAsg (tCall (sp__law_machine_changed K 9) [] E0 (tCons (tVar 1) (tCons (tVar 2) (tCons (tVar 4) tNil)))) (gName 7)) (tIfS (tNot (tB (tCall (sp__law_so K 8) [] E0 (tCons (tCall (sp_is_machine K) [] E0 (tCons (tCall (sp__law_handed K) [] E0 (tCons (tVar 1) (tCons (tVar 2) (tCons (tVar 7) tNil)))) tNil)) (tCons (tCall (sp__law_is_machine K) [] E0 (tCons (tVar 7) tNil)) tNil))))) (tRet (tC (.bl false))) tNext))) (tSeq (tFor (iRng1 (tCons (tC (.int 5)) tNil)) (gName 6) (tSeq (tAsg (tCall (sp__law_letters K) [] E0 (tCons (tVar 1) (tCons (tVar 2) (tCons (tC (.int 12)) (tCons (tVar 3) tNil))))) (gName 8)) (tIfS (tNot (tB (tCall (sp__law_so K 8) [] E0 (tCons (tCall (sp_tells K) [] E0 (tCons (tCall (sp__law_handed K) [] E0 (tCons (tVar 1) (tCons (tVar 2) (tCons (tVar 4) tNil)))) (tCons (tVar 8) tNil))) (tCons (tCall (sp__law_tells K) [] E0 (tCons (tVar 4) (tCons (tVar 8) tNil))) tNil))))) (tRet (tC (.bl false))) tNext))) (tSeq (tAsg (tIxU K (tLst (tCons (tC (.int 0)) (tCons (tC (.int 1)) (tCons (tC (.int 7)) (tCons (tC (.int 50)) tNil))))) (tCall (sp__law_take K) [] E0 (tCons (tVar 1) (tCons (tVar 2) (tCons (tC (.int 4)) tNil))))) (gName 9)) (tRet (tCall (sp__law_so K 8) [] E0 (tCons (tCall (sp_first_words K) [] E0 (tCons (tVar 4) (tCons (tVar 9) tNil))) (tCons (tCall (sp__law_first_words K) [] E0 (tCons (tVar 4) (tCons (tVar 9) tNil))) tNil))))))))))))))
theorem pure_law {K : Frag} (vs : List V) (H : Hp) (Q : VK) (E : XK) (h : sp_law K vs H Q E) : t_law K { nx := fun _ H' => Q .non H', rt := Q } (start ["script", "row", "spot", "few", "machine", "handed", "again", "changed", "word", "limit"] vs) H := by
  obtain ⟨a, ns, rfl, hq, hl, k⟩ := h
  refine q_asg (ρ := exR) (R := fun v H' => ∃ (p : Addr) (ms : List Int), v = .ref p ∧ H' p = some (.lst (ms.map V.int)) ∧ ms ≠ []) (ev_call (ea_cons (ev_var rfl) ea_nil) fun H1 e1 Q' q' E' => ⟨a, ns, rfl, ext_sqL e1.ext hq, hl, fun p ms H' hp e hp' hm => q' _ H' (Ext.r e) ⟨p, ms, rfl, hp', hm⟩⟩) fun v H1 e1 ⟨ra, ms, ev, hra, hms⟩ => ?_
  subst ev
  refine q_asg (ρ := exR) (R := fun v H' => ∃ p, v = .ref p ∧ H1 p = none ∧ H' p = some (.lst [.int 0]) ∧ exR.r H1 H') ?_ fun v H2 e2 ⟨sp, ev, hsp0, hsp, _⟩ => ?_
  · refine (ev_lst (ea_cons (ev_c (v := .int 0)) ea_nil) fun vs H2 _ e => by rw [e]; show 1 ≤ 100000; decide).imp fun v H2 r ⟨p, vs, H3, ev, evs, hp, r3, eH⟩ => ?_
    subst ev evs
    exact ⟨p, rfl, r3.back p hp, by rw [eH]; exact upd_same, r⟩
  subst ev
  have nsp : ra ≠ sp := fun z => by rw [← z, hra] at hsp0; cases hsp0
  have dr : Dr K ra sp H2 := ⟨⟨ms, hms, .of (e2.ext _ _ hra)⟩, ⟨0, Int.le_refl _, hsp⟩, nsp⟩
  have ow : ∀ H3, (spR sp).r H2 H3 → Own (spR sp) H3 := fun H3 e => own_sp (dr.sp e)
  refine q_asg (ρ := spR sp) (R := fun v _ => ∃ z : Str, v = .str z ∧ Few z) ?_ fun v H3 e3 ⟨z, ev, few⟩ => ?_
  · refine ev_callR (sp := sp__law_few K) (ea_consV (ev_var (v := .ref ra) rfl) (ea_consV (ev_var (v := .ref sp) rfl) (ea_one (ev_lstN (xs := ([2, 3, 6] : List Int).map V.int) (ow H2 .rfl) (ea_cons ev_c (ea_cons ev_c (ea_cons ev_c ea_nil))) (by show 3 ≤ 100000; decide))))) ?_
    rintro vs H3 e3 ⟨ws, rfl, ws2, rfl, x, rfl, za, rfl, nz, hz⟩
    exact fun H4 e4 Q' q' E' => ⟨ra, sp, za, [2, 3, 6], rfl, dr.sp (e3.trans e4), nz, .of (e4.keep _ _ nz hz), by simp, by decide, fun z H' e f => q' _ H' e ⟨z, rfl, f⟩⟩
  subst ev
  -- the machine
  refine q_asg (ρ := spR sp) (R := fun v H' => ∃ M, DS (spR sp) H' v (macD M) ∧ MacOk M) ?_ fun tv H4 e4 ⟨M, hds, ok⟩ => ?_
  · refine ev_callR (sp := sp__law_machine K) (ea_consP (Pa := fun v => v = .ref ra) (ev_var rfl) (ea_consP (Pa := fun v => v = .ref sp) (ev_var rfl) (ea_consP (ev_ixNew (xs := [.int 4, .int 8]) (ev_lstN (ow H3 e3) (ea_cons ev_c (ea_cons ev_c ea_nil)) (by show 2 ≤ 100000; decide)) (fun H4 e4 => ev_take (lim := (([V.int 4, V.int 8].length : Nat) : Int)) (ev_var rfl) (ev_var rfl) ev_c (dr.sp (e3.trans e4)) (by decide))) (ea_consP (Pa := fun v => v = .str z) (Pr := fun ws => ws = []) (ev_var rfl) ea_nil)))) ?_
    rintro vs H4 e4 ⟨x1, w1, rfl, rfl, x2, w2, rfl, rfl, x3, w3, rfl, ⟨m, hm⟩, x4, w4, rfl, rfl, rfl⟩
    obtain ⟨many, rfl, m1, m8⟩ : ∃ many : Int, x3 = .int many ∧ 1 ≤ many ∧ many ≤ 8 := by
      match m, hm with
      | 0, h => cases h; exact ⟨4, rfl, by decide, by decide⟩
      | 1, h => cases h; exact ⟨8, rfl, by decide, by decide⟩
    exact fun H5 e5 Q' q' E' => ⟨ra, sp, many, z, rfl, dr.sp (e3.trans (e4.trans e5)), m1, m8, few, fun v M H' e h1 h2 => q' v H' e ⟨M, h1, h2⟩⟩
  have hpl := ok.plain
  have hdep := mac_depth M
  have hsm := plain_sm _ hpl
  have hno : noList (macD M) = true := plain_nl _ hpl
  have hmac := ok.machine
  have e24 := e3.trans e4
  have soE : ∀ {σ : L2.St} {ta tb : TE} {H6 : Hp} {b c : Bool} {E : XK}, EvV (spR sp) ta σ H6 (.bl b) → EvV (spR sp) tb σ H6 (.bl c) → EvV (spR sp) (tCall (sp__law_so K 8) [] E (tCons ta (tCons tb tNil))) σ H6 (.bl (soD (.bool b) (.bool c))) := fun h1 h2 => ev_so h1 h2 (.bl _) (.bl _) rfl (by show 0 < 8; decide)
  have macE : ∀ {σ : L2.St} {te : TE} {H6 : Hp} {d' : PyData} {E : XK}, Ev (spR sp) te σ H6 (fun v H' => DS (spR sp) H' v d') → sm d' = true → EvV (spR sp) (tCall (sp_is_machine K) [] E (tCons te tNil)) σ H6 (.bl (isMachineD d')) := fun h hs => by
    refine ev_callR (sp := sp_is_machine K) (ea_one h) ?_
    rintro vs H9 e9 ⟨x, rfl, hx⟩
    exact fun H10 e10 Q' q' E' => ⟨x, _, rfl, (e10.ds hx).ex, hs, fun H' e => q' _ H' (Ext.r e) rfl⟩
  have unit3 : ∀ {σ : L2.St} {H6 : Hp} {n : Int}, Ev (spR sp) (tTup (tCons (tC (.int n)) (tCons (tTup tNil) (tCons (tTup tNil) tNil)))) σ H6 (fun v H' => DS (spR sp) H' v (.tuple [.int n, .tuple [], .tuple []])) := fun {σ H6 n} =>
    ev_tupDs Le.rfl (ea_consD Le.rfl ((ev_c (v := .int n)).imp fun v H _ e => by rw [e]; exact .int n) fun _ _ => ea_consD Le.rfl (ev_tupDs Le.rfl ea_nilD (by decide)) fun _ _ => ea_consD Le.rfl (ev_tupDs Le.rfl ea_nilD (by decide)) fun _ _ => ea_nilD) (by show 3 ≤ 100000; decide)
  refine q_when (ρ := spR sp) (b := false) ((et_or (b := false) (et_not (et_B ((soE (macE unit3 (by decide +kernel)) ev_c).val (x := .bl true) (by rw [none_machine]; rfl)))) fun _ => (et_not (et_B ((soE (macE unit3 (by decide +kernel)) ev_c).val (x := .bl true) (by rw [one_machine]; rfl)))).to rfl).to rfl) (fun hb => by cases hb) fun _ H5 e5 => ?_
  have e25 := e24.trans e5
  have hds5 := e5.ds hds
  -- handed
  refine q_asg (ρ := spR sp) (ev_handed (ev_var rfl) (ev_var rfl) (ev_var rfl) (dr.sp e25) hds5 hno hsm (by omega)) fun hv H6 e6 ⟨h', hh, hm⟩ => ?_
  have e26 := e25.trans e6
  refine q_when (ρ := spR sp) (b := false) ((et_or (b := false) (et_not (et_B (soE (macE ((ev_var (v := hv) rfl).imp fun v H7 e7 ev => by rw [ev]; exact e7.ds hh) (by rw [mixed_sm hm]; exact hsm)) ev_c))) fun _ => (et_not (a := true) (et_B ?_)).to rfl).to ?_) (fun hb => by cases hb) fun _ H7 e7 => ?_
  · refine (ev_callR (sp := sp__law_so K 8) (R := fun v _ => v = .bl true) (ea_consR (Ra := fun v H' => DS (spR sp) H' v (tupD h')) (Rr := fun x ws H' => ws = [tv] ∧ DS (spR sp) H' x (tupD h')) (ev_call (ea_cons (ev_var rfl) ea_nil) fun H6 e6 Q' q' E' => ⟨hv, h', rfl, (e6.ds hh).ex, by rw [mixed_sm hm]; exact hsm, by rw [mixed_depth hm]; omega, fun v' H' e h => q' v' H' (Ext.r e) (h (spR sp))⟩) fun x H6 e6 hx => (ea_cons (ev_var (v := tv) rfl) ea_nil).imp fun ws H7 e7 ew => ⟨ew, e7.ds hx⟩) ?_)
    rintro vs H8 e8 ⟨x, ws, rfl, rfl, hx⟩
    refine fun H9 e9 Q' q' E' => ⟨x, tv, tupD h', macD M, rfl, (e9.ds hx).ex, ((e6.trans (e8.trans e9)).ds hds5).ex, hsm, by omega, fun H' e => q' _ H' (Ext.r e) ?_⟩
    have : tupD h' = macD M := hm
    rw [this, so_self _ hpl]
  · rw [mixed_machine hm, hmac]
    rfl
  have e27 := e26.trans e7
  have e57 := e6.trans e7
  refine q_forw (ρ := spR sp) (ρw := spR sp) (ew_rng (i := 8) (ea_cons ev_c ea_nil) (by omega) (by omega)) fun H8 e8 => ⟨fun i σ' H' => (spR sp).r H8 H' ∧ ∃ kv cv : Option V, σ' = [some (.ref a), some (.ref ra), some (.ref sp), some (.str z), some tv, some hv, kv, cv, none, none], ⟨.rfl, _, _, rfl⟩, fun i σ' H' _ h => h.1, ?_, ?_⟩
  · rintro i x σ' H' H'' hi ⟨r, kv, cv, rfl⟩ ⟨e5', rfl⟩
    subst e5'
    have e2x := e27.trans (e8.trans r)
    have e5x := e57.trans (e8.trans r)
    refine q_asg (ρ := spR sp) (R := fun v H' => ∃ d', DS (spR sp) H' v d' ∧ Good 4 d') (ev_call (ea_cons (ev_var rfl) (ea_cons (ev_var rfl) (ea_cons (ev_var rfl) ea_nil))) fun H9 e9 Q' q' E' => ⟨ra, sp, tv, _, rfl, dr.sp (e2x.trans e9), (e5x.trans e9).ds hds5, hpl, by omega, fun v' d' H' e h g => q' v' H' e ⟨d', h, g.1, g.2.1, Nat.le_trans g.2.2 (by omega)⟩⟩) fun cv' H9 e9 ⟨d', hd', g1, g2, g3⟩ => ?_
    refine s_if (ρ := spR sp) (b := false) ((et_not (a := true) (et_B ((soE (b := isMachineD d') (c := isMachineD d') ?_ ?_).val (by rw [so_bool])))).to rfl) (fun hb => by cases hb) fun _ H10 e10 => ⟨r.trans (e9.trans e10), _, _, rfl⟩
    · refine ev_callR (sp := sp_is_machine K) (ea_one (ev_handed (ev_var rfl) (ev_var rfl) (ev_var rfl) (dr.sp (e2x.trans e9)) hd' g1 g2 (by omega))) ?_
      rintro vs H10 e10 ⟨x, rfl, dx, hx, mx⟩
      refine fun H11 e11 Q' q' E' => ⟨x, dx, rfl, (e11.ds hx).ex, by rw [mixed_sm mx]; exact g2, fun H' e => q' _ H' (Ext.r e) ?_⟩
      rw [mixed_machine mx]
    · exact ev_call (ea_cons (ev_var rfl) ea_nil) fun H10 e10 Q' q' E' => ⟨cv', d', rfl, (e10.ds hd').ex, g2, g1, fun H' e => q' _ H' (Ext.r e) rfl⟩
  rintro σ' H9 ⟨r9, kv, cv, rfl⟩
  have e29 := e27.trans (e8.trans r9)
  have e59 := e57.trans (e8.trans r9)
  -- words
  refine q_forw (ρ := spR sp) (ρw := spR sp) (ew_rng (i := 5) (ea_cons ev_c ea_nil) (by omega) (by omega)) fun H10 e10 => ⟨fun i σ' H' => (spR sp).r H10 H' ∧ ∃ kv wv : Option V, σ' = [some (.ref a), some (.ref ra), some (.ref sp), some (.str z), some tv, some hv, kv, cv, wv, none], ⟨.rfl, _, _, rfl⟩, fun i σ' H' _ h => h.1, ?_, ?_⟩
  · rintro i x σ' H' H'' hi ⟨r, kv, wv, rfl⟩ ⟨e5', rfl⟩
    subst e5'
    have e2x := e29.trans (e10.trans r)
    have e5x := e59.trans (e10.trans r)
    refine q_asg (ρ := spR sp) (ev_letters (ev_var rfl) (ev_var rfl) ev_c (ev_var rfl) (dr.sp e2x) (by decide) (by decide) few.pos (by have := few.le; omega)) fun v H11 e11 ⟨w, ev, hw12, hwz⟩ => ?_
    subst ev
    have hword : isWordD (.str w) = true := by
      show (w.cps.toList.all fun c => decide (c ∈ letters)) = true
      rw [List.all_eq_true]
      exact fun c hc => decide_eq_true (few.low c (hwz c hc))
    refine s_if (ρ := spR sp) (b := false) ((et_not (a := true) (et_B ((soE (b := tellsM M w.cps.toList) (c := tellsM M w.cps.toList) ?_ ?_).val (by rw [so_bool])))).to rfl) (fun hb => by cases hb) fun _ H12 e12 => ⟨r.trans (e11.trans e12), _, _, rfl⟩
    · refine ev_callR (sp := sp_tells K) (ea_consR (Rr := fun x ws H' => ws = [.str w] ∧ ∃ d', DS (spR sp) H' x d' ∧ Mixed (macD M) d') (ev_handed (ev_var rfl) (ev_var rfl) (ev_var rfl) (dr.sp (e2x.trans e11)) ((e5x.trans e11).ds hds5) hno hsm (by omega)) fun x H12 e12 ⟨d', h1, h2⟩ => (ea_cons (ev_var (v := .str w) rfl) ea_nil).imp fun ws H13 e13 ew => ⟨ew, d', e13.ds h1, h2⟩) ?_
      rintro vs H12 e12 ⟨x, ws, rfl, rfl, d', hx, mx⟩
      exact fun H13 e13 Q' q' E' => ⟨x, w, d', M, rfl, (e13.ds hx).ex, mx, by rw [mixed_machine mx]; exact hmac, by rw [mixed_sm mx]; exact hsm, hword, by omega, ok.keys, by have := ok.msLen; omega, fun H' e => q' _ H' (Ext.r e) rfl⟩
    · exact ev_call (ea_cons (ev_var rfl) (ea_cons (ev_var rfl) ea_nil)) fun H12 e12 Q' q' E' => ⟨tv, w, M, rfl, ((e5x.trans (e11.trans e12)).ds hds5).ex, ok.keys, by have := ok.msLen; omega, fun H' e => q' _ H' (Ext.r e) rfl⟩
  rintro σ' H11 ⟨r11, kv, wv, rfl⟩
  have e2b := e29.trans (e10.trans r11)
  have e5b := e59.trans (e10.trans r11)
  refine q_asg (ρ := spR sp) (R := fun v _ => ∃ limit : Int, v = .int limit ∧ 0 ≤ limit ∧ limit ≤ 50) ((ev_ixNew (xs := [.int 0, .int 1, .int 7, .int 50]) (ev_lstN (ow H11 e2b) (ea_cons ev_c (ea_cons ev_c (ea_cons ev_c (ea_cons ev_c ea_nil)))) (by show 4 ≤ 100000; decide)) (fun H12 e12 => ev_take (lim := (([V.int 0, V.int 1, V.int 7, V.int 50].length : Nat) : Int)) (ev_var rfl) (ev_var rfl) ev_c (dr.sp (e2b.trans e12)) (by decide))).imp fun v H12 _ ⟨m, hm⟩ => by
    match m, hm with
    | 0, h => cases h; exact ⟨0, rfl, by decide, by decide⟩
    | 1, h => cases h; exact ⟨1, rfl, by decide, by decide⟩
    | 2, h => cases h; exact ⟨7, rfl, by decide, by decide⟩
    | 3, h => cases h; exact ⟨50, rfl, by decide, by decide⟩) fun v H12 e12 ⟨limit, ev, l0, l50⟩ => ?_
  subst ev
  have e5c := e5b.trans e12
  have hself : tupD (macD M) = macD M := tup_self _ hno
  have hnls : noList (.tuple (((upto M 420).take limit.toNat).map fun w => PyData.str (toS w))) = true := by
    show noLists _ = true
    exact noLists_map fun _ _ => rfl
  refine s_ret (ρ := spR sp) (R := fun v _ => v = .bl true) (ev_callR (sp := sp__law_so K 8) (ea_consR (Ra := fun v H' => DS (spR sp) H' v (.tuple (((upto M 420).take limit.toNat).map fun w => .str (toS w)))) (Rr := fun x ws H' => ∃ y, ws = [y] ∧ DS (spR sp) H' y (.tuple (((upto M 420).take limit.toNat).map fun w => .str (toS w))) ∧ DS (spR sp) H' x (.tuple (((upto M 420).take limit.toNat).map fun w => .str (toS w)))) (ev_call (ea_cons (ev_var rfl) (ea_cons (ev_var rfl) ea_nil)) fun H13 e13 Q' q' E' => ⟨tv, limit, macD M, M, rfl, ((e5c.trans e13).ds hds5).ex, hself, ok, hsm, l0, l50, fun v' H' e h => q' v' H' (Ext.r e) (h.tups (fun _ _ q => q) _ _ hnls)⟩) fun x H13 e13 hx => (ea_one (ev_call (ea_cons (ev_var rfl) (ea_cons (ev_var rfl) ea_nil)) fun H14 e14 Q' q' E' => ⟨tv, limit, M, rfl, ((e5c.trans (e13.trans e14)).ds hds5).ex, ok, l0, l50, fun v' H' e h => q' v' H' (Ext.r e) (show DS (spR sp) H' v' (.tuple (((upto M 420).take limit.toNat).map fun w => .str (toS w))) from h.tups (fun _ _ q => q) _ _ hnls)⟩)).imp fun ws H14 e14 ⟨y, ew, hy⟩ => ⟨y, ew, hy, e14.ds hx⟩) ?_) fun v H13 e13 ev => by rw [ev]; exact k H13
  rintro vs H13 e13 ⟨x, ws, rfl, y, rfl, hy, hx⟩
  refine fun H14 e14 Q' q' E' => ⟨x, y, _, _, rfl, (e14.ds hx).ex, (e14.ds hy).ex, sm_strs M limit.toNat (by omega), by have := depth_strs ((upto M 420).take limit.toNat); omega, fun H' e => q' _ H' (Ext.r e) ?_⟩
  show V.bl (soAll _ _) = _
  rw [so_strs]
end Slip
namespace K15
open PySem PySem.Spec PyProof.Rows L2 Slip
theorem no__law_so {K : Frag} {vs : List V} {H : Hp} {Q : VK} {E : XK} : ¬ sp__law_so K 0 vs H Q E := fun ⟨_, _, _, _, _, _, _, _, h, _⟩ => absurd h (Nat.not_lt_zero _)
theorem no__law_listed {K : Frag} {vs : List V} {H : Hp} {Q : VK} {E : XK} : ¬ sp__law_listed K 0 vs H Q E := fun ⟨_, _, _, _, _, _, _, h, _⟩ => absurd h (Nat.not_lt_zero _)
theorem no__law_tupled {K : Frag} {vs : List V} {H : Hp} {Q : VK} {E : XK} : ¬ sp__law_tupled K 0 vs H Q E := fun ⟨_, _, _, _, _, h, _⟩ => absurd h (Nat.not_lt_zero _)
theorem no__law_levels {K : Frag} {vs : List V} {H : Hp} {Q : VK} {E : XK} : ¬ sp__law_levels K 0 vs H Q E := fun ⟨_, _, _, _, _, _, _, _, _, _, _, _, h, _⟩ => absurd h (Nat.not_lt_zero _)
theorem no__law_machine_changed {K : Frag} {vs : List V} {H : Hp} {Q : VK} {E : XK} : ¬ sp__law_machine_changed K 0 vs H Q E := fun ⟨_, _, _, _, _, _, _, _, h, _⟩ => absurd h (Nat.not_lt_zero _)
def top (i : Nat) : Stmt := PySem.Challenge.pw_slipworth_k15_machines_told_apart.main.body.getD i (.Pass ⟨0, 0, 0, 0⟩)
abbrev st_check_arguments : Stmt := top 5
abbrev st_is_whole : Stmt := top 6
abbrev st_is_sequence : Stmt := top 7
abbrev st_is_triple : Stmt := top 8
abbrev st_is_word : Stmt := top 9
abbrev st_is_rising : Stmt := top 10
abbrev st_is_machine : Stmt := top 14
abbrev st_are_ends : Stmt := top 15
abbrev st_are_moves : Stmt := top 16
abbrev st_is_move : Stmt := top 17
abbrev st_steps_of : Stmt := top 18
abbrev st_walked : Stmt := top 19
abbrev st_tells : Stmt := top 20
abbrev st_first_words : Stmt := top 21
abbrev st_longest_words : Stmt := top 22
abbrev st__law_so : Stmt := top 24
abbrev st__law_numbers : Stmt := top 25
abbrev st__law_draw : Stmt := top 26
abbrev st__law_take : Stmt := top 27
abbrev st__law_whole : Stmt := top 28
abbrev st__law_listed : Stmt := top 29
abbrev st__law_tupled : Stmt := top 30
abbrev st__law_handed : Stmt := top 31
abbrev st__law_levels : Stmt := top 32
abbrev st__law_is_string : Stmt := top 33
abbrev st__law_is_machine : Stmt := top 34
abbrev st__law_moves : Stmt := top 35
abbrev st__law_tells : Stmt := top 36
abbrev st__law_letters : Stmt := top 37
abbrev st__law_few : Stmt := top 38
abbrev st__law_machine : Stmt := top 39
abbrev st__law_first_words : Stmt := top 40
abbrev st__law_words_of : Stmt := top 41
abbrev st__law_machine_changed : Stmt := top 42
abbrev st_law : Stmt := top 43
abbrev names_check_arguments : List Str := ["fits", "at", "fit"]
theorem sc_check_arguments : FnScope names_check_arguments ["fits"] (defScope st_check_arguments) := ⟨rfl, rfl, rfl, by decide +kernel, rfl, by decide +kernel, by decide +kernel⟩
abbrev names_is_whole : List Str := ["value", "low", "high"]
theorem sc_is_whole : FnScope names_is_whole ["value", "low", "high"] (defScope st_is_whole) := ⟨rfl, rfl, rfl, by decide +kernel, rfl, by decide +kernel, by decide +kernel⟩
abbrev names_is_sequence : List Str := ["value"]
theorem sc_is_sequence : FnScope names_is_sequence ["value"] (defScope st_is_sequence) := ⟨rfl, rfl, rfl, by decide +kernel, rfl, by decide +kernel, by decide +kernel⟩
abbrev names_is_triple : List Str := ["value"]
theorem sc_is_triple : FnScope names_is_triple ["value"] (defScope st_is_triple) := ⟨rfl, rfl, rfl, by decide +kernel, rfl, by decide +kernel, by decide +kernel⟩
abbrev names_is_word : List Str := ["value", "letter"]
theorem sc_is_word : FnScope names_is_word ["value"] (defScope st_is_word) := ⟨rfl, rfl, rfl, by decide +kernel, rfl, by decide +kernel, by decide +kernel⟩
abbrev names_is_rising : List Str := ["rows", "at"]
theorem sc_is_rising : FnScope names_is_rising ["rows"] (defScope st_is_rising) := ⟨rfl, rfl, rfl, by decide +kernel, rfl, by decide +kernel, by decide +kernel⟩
abbrev names_is_machine : List Str := ["value", "count", "ends", "moves"]
theorem sc_is_machine : FnScope names_is_machine ["value"] (defScope st_is_machine) := ⟨rfl, rfl, rfl, by decide +kernel, rfl, by decide +kernel, by decide +kernel⟩
abbrev names_are_ends : List Str := ["value", "count", "state"]
theorem sc_are_ends : FnScope names_are_ends ["value", "count"] (defScope st_are_ends) := ⟨rfl, rfl, rfl, by decide +kernel, rfl, by decide +kernel, by decide +kernel⟩
abbrev names_are_moves : List Str := ["value", "count", "move"]
theorem sc_are_moves : FnScope names_are_moves ["value", "count"] (defScope st_are_moves) := ⟨rfl, rfl, rfl, by decide +kernel, rfl, by decide +kernel, by decide +kernel⟩
abbrev names_is_move : List Str := ["value", "count", "state", "letter", "behind"]
theorem sc_is_move : FnScope names_is_move ["value", "count"] (defScope st_is_move) := ⟨rfl, rfl, rfl, by decide +kernel, rfl, by decide +kernel, by decide +kernel⟩
abbrev names_steps_of : List Str := ["moves", "state", "letter", "behind"]
theorem sc_steps_of : FnScope names_steps_of ["moves"] (defScope st_steps_of) := ⟨rfl, rfl, rfl, by decide +kernel, rfl, by decide +kernel, by decide +kernel⟩
abbrev names_walked : List Str := ["steps", "state", "word", "letter"]
theorem sc_walked : FnScope names_walked ["steps", "state", "word"] (defScope st_walked) := ⟨rfl, rfl, rfl, by decide +kernel, rfl, by decide +kernel, by decide +kernel⟩
abbrev names_tells : List Str := ["machine", "word"]
theorem sc_tells : FnScope names_tells ["machine", "word"] (defScope st_tells) := ⟨rfl, rfl, rfl, by decide +kernel, rfl, by decide +kernel, by decide +kernel⟩
abbrev names_first_words : List Str := ["machine", "limit", "count", "ends", "moves", "told", "ending", "state", "letter", "behind"]
theorem sc_first_words : FnScope names_first_words ["machine", "limit"] (defScope st_first_words) := ⟨rfl, rfl, rfl, by decide +kernel, rfl, by decide +kernel, by decide +kernel⟩
abbrev names_longest_words : List Str := ["moves", "ending", "many", "found", "goals", "word", "at", "state", "letter", "behind"]
theorem sc_longest_words : FnScope names_longest_words ["moves", "ending", "many"] (defScope st_longest_words) := ⟨rfl, rfl, rfl, by decide +kernel, rfl, by decide +kernel, by decide +kernel⟩
abbrev names__law_so : List Str := ["found", "wanted", "k"]
theorem sc__law_so : FnScope names__law_so ["found", "wanted"] (defScope st__law_so) := ⟨rfl, rfl, rfl, by decide +kernel, rfl, by decide +kernel, by decide +kernel⟩
abbrev names__law_numbers : List Str := ["script", "row", "cell", "left", "k", "mixed"]
theorem sc__law_numbers : FnScope names__law_numbers ["script"] (defScope st__law_numbers) := ⟨rfl, rfl, rfl, by decide +kernel, rfl, by decide +kernel, by decide +kernel⟩
abbrev names__law_draw : List Str := ["row", "at", "limit", "mixed"]
theorem sc__law_draw : FnScope names__law_draw ["row", "at", "limit"] (defScope st__law_draw) := ⟨rfl, rfl, rfl, by decide +kernel, rfl, by decide +kernel, by decide +kernel⟩
abbrev names__law_take : List Str := ["row", "spot", "limit"]
theorem sc__law_take : FnScope names__law_take ["row", "spot", "limit"] (defScope st__law_take) := ⟨rfl, rfl, rfl, by decide +kernel, rfl, by decide +kernel, by decide +kernel⟩
abbrev names__law_whole : List Str := ["value"]
theorem sc__law_whole : FnScope names__law_whole ["value"] (defScope st__law_whole) := ⟨rfl, rfl, rfl, by decide +kernel, rfl, by decide +kernel, by decide +kernel⟩
abbrev names__law_listed : List Str := ["value", "one"]
theorem sc__law_listed : FnScope names__law_listed ["value"] (defScope st__law_listed) := ⟨rfl, rfl, rfl, by decide +kernel, rfl, by decide +kernel, by decide +kernel⟩
abbrev names__law_tupled : List Str := ["value", "one"]
theorem sc__law_tupled : FnScope names__law_tupled ["value"] (defScope st__law_tupled) := ⟨rfl, rfl, rfl, by decide +kernel, rfl, by decide +kernel, by decide +kernel⟩
abbrev names__law_handed : List Str := ["row", "spot", "value", "kind"]
theorem sc__law_handed : FnScope names__law_handed ["row", "spot", "value"] (defScope st__law_handed) := ⟨rfl, rfl, rfl, by decide +kernel, rfl, by decide +kernel, by decide +kernel⟩
abbrev names__law_levels : List Str := ["row", "spot", "value", "made", "one"]
theorem sc__law_levels : FnScope names__law_levels ["row", "spot", "value"] (defScope st__law_levels) := ⟨rfl, rfl, rfl, by decide +kernel, rfl, by decide +kernel, by decide +kernel⟩
abbrev names__law_is_string : List Str := ["value", "most", "one"]
theorem sc__law_is_string : FnScope names__law_is_string ["value", "most"] (defScope st__law_is_string) := ⟨rfl, rfl, rfl, by decide +kernel, rfl, by decide +kernel, by decide +kernel⟩
abbrev names__law_is_machine : List Str := ["value", "last", "one", "before"]
theorem sc__law_is_machine : FnScope names__law_is_machine ["value"] (defScope st__law_is_machine) := ⟨rfl, rfl, rfl, by decide +kernel, rfl, by decide +kernel, by decide +kernel⟩
abbrev names__law_moves : List Str := ["machine", "made", "one"]
theorem sc__law_moves : FnScope names__law_moves ["machine"] (defScope st__law_moves) := ⟨rfl, rfl, rfl, by decide +kernel, rfl, by decide +kernel, by decide +kernel⟩
abbrev names__law_tells : List Str := ["machine", "word", "moves", "state", "letter"]
theorem sc__law_tells : FnScope names__law_tells ["machine", "word"] (defScope st__law_tells) := ⟨rfl, rfl, rfl, by decide +kernel, rfl, by decide +kernel, by decide +kernel⟩
abbrev names__law_letters : List Str := ["row", "spot", "most", "few", "made", "k"]
theorem sc__law_letters : FnScope names__law_letters ["row", "spot", "most", "few"] (defScope st__law_letters) := ⟨rfl, rfl, rfl, by decide +kernel, rfl, by decide +kernel, by decide +kernel⟩
abbrev names__law_few : List Str := ["row", "spot", "sizes", "size", "made", "k"]
theorem sc__law_few : FnScope names__law_few ["row", "spot", "sizes"] (defScope st__law_few) := ⟨rfl, rfl, rfl, by decide +kernel, rfl, by decide +kernel, by decide +kernel⟩
abbrev names__law_machine : List Str := ["row", "spot", "many", "few", "count", "ends", "moves", "state", "letter", "k"]
theorem sc__law_machine : FnScope names__law_machine ["row", "spot", "many", "few"] (defScope st__law_machine) := ⟨rfl, rfl, rfl, by decide +kernel, rfl, by decide +kernel, by decide +kernel⟩
abbrev names__law_first_words : List Str := ["machine", "limit", "moves", "can", "state", "made", "size", "more", "one"]
theorem sc__law_first_words : FnScope names__law_first_words ["machine", "limit"] (defScope st__law_first_words) := ⟨rfl, rfl, rfl, by decide +kernel, rfl, by decide +kernel, by decide +kernel⟩
abbrev names__law_words_of : List Str := ["moves", "can", "size", "made", "limit", "waiting", "step", "state", "word", "letter", "then"]
theorem sc__law_words_of : FnScope names__law_words_of ["moves", "can", "size", "made", "limit"] (defScope st__law_words_of) := ⟨rfl, rfl, rfl, by decide +kernel, rfl, by decide +kernel, by decide +kernel⟩
abbrev names__law_machine_changed : List Str := ["row", "spot", "value", "at", "kind"]
theorem sc__law_machine_changed : FnScope names__law_machine_changed ["row", "spot", "value"] (defScope st__law_machine_changed) := ⟨rfl, rfl, rfl, by decide +kernel, rfl, by decide +kernel, by decide +kernel⟩
abbrev names_law : List Str := ["script", "row", "spot", "few", "machine", "handed", "again", "changed", "word", "limit"]
theorem sc_law : FnScope names_law ["script"] (defScope st_law) := ⟨rfl, rfl, rfl, by decide +kernel, rfl, by decide +kernel, by decide +kernel⟩
structure Env (K : Frag) (mg : Str → Option Value) : Type where
  d_check_arguments : FuncData
  F_check_arguments : FnP K "check_arguments" st_check_arguments (He.ga K "check_arguments") d_check_arguments
  g_check_arguments : mg "check_arguments" = some (.ref (He.ga K "check_arguments"))
  d_is_whole : FuncData
  F_is_whole : FnP K "is_whole" st_is_whole (He.ga K "is_whole") d_is_whole
  g_is_whole : mg "is_whole" = some (.ref (He.ga K "is_whole"))
  d_is_sequence : FuncData
  F_is_sequence : FnP K "is_sequence" st_is_sequence (He.ga K "is_sequence") d_is_sequence
  g_is_sequence : mg "is_sequence" = some (.ref (He.ga K "is_sequence"))
  d_is_triple : FuncData
  F_is_triple : FnP K "is_triple" st_is_triple (He.ga K "is_triple") d_is_triple
  g_is_triple : mg "is_triple" = some (.ref (He.ga K "is_triple"))
  d_is_word : FuncData
  F_is_word : FnP K "is_word" st_is_word (He.ga K "is_word") d_is_word
  g_is_word : mg "is_word" = some (.ref (He.ga K "is_word"))
  d_is_rising : FuncData
  F_is_rising : FnP K "is_rising" st_is_rising (He.ga K "is_rising") d_is_rising
  g_is_rising : mg "is_rising" = some (.ref (He.ga K "is_rising"))
  d_is_machine : FuncData
  F_is_machine : FnP K "is_machine" st_is_machine (He.ga K "is_machine") d_is_machine
  g_is_machine : mg "is_machine" = some (.ref (He.ga K "is_machine"))
  d_are_ends : FuncData
  F_are_ends : FnP K "are_ends" st_are_ends (He.ga K "are_ends") d_are_ends
  g_are_ends : mg "are_ends" = some (.ref (He.ga K "are_ends"))
  d_are_moves : FuncData
  F_are_moves : FnP K "are_moves" st_are_moves (He.ga K "are_moves") d_are_moves
  g_are_moves : mg "are_moves" = some (.ref (He.ga K "are_moves"))
  d_is_move : FuncData
  F_is_move : FnP K "is_move" st_is_move (He.ga K "is_move") d_is_move
  g_is_move : mg "is_move" = some (.ref (He.ga K "is_move"))
  d_steps_of : FuncData
  F_steps_of : FnP K "steps_of" st_steps_of (He.ga K "steps_of") d_steps_of
  g_steps_of : mg "steps_of" = some (.ref (He.ga K "steps_of"))
  d_walked : FuncData
  F_walked : FnP K "walked" st_walked (He.ga K "walked") d_walked
  g_walked : mg "walked" = some (.ref (He.ga K "walked"))
  d_tells : FuncData
  F_tells : FnP K "tells" st_tells (He.ga K "tells") d_tells
  g_tells : mg "tells" = some (.ref (He.ga K "tells"))
  d_first_words : FuncData
  F_first_words : FnP K "first_words" st_first_words (He.ga K "first_words") d_first_words
  g_first_words : mg "first_words" = some (.ref (He.ga K "first_words"))
  d_longest_words : FuncData
  F_longest_words : FnP K "longest_words" st_longest_words (He.ga K "longest_words") d_longest_words
  g_longest_words : mg "longest_words" = some (.ref (He.ga K "longest_words"))
  d__law_so : FuncData
  F__law_so : FnP K "_law_so" st__law_so (He.ga K "_law_so") d__law_so
  g__law_so : mg "_law_so" = some (.ref (He.ga K "_law_so"))
  d__law_numbers : FuncData
  F__law_numbers : FnP K "_law_numbers" st__law_numbers (He.ga K "_law_numbers") d__law_numbers
  g__law_numbers : mg "_law_numbers" = some (.ref (He.ga K "_law_numbers"))
  d__law_draw : FuncData
  F__law_draw : FnP K "_law_draw" st__law_draw (He.ga K "_law_draw") d__law_draw
  g__law_draw : mg "_law_draw" = some (.ref (He.ga K "_law_draw"))
  d__law_take : FuncData
  F__law_take : FnP K "_law_take" st__law_take (He.ga K "_law_take") d__law_take
  g__law_take : mg "_law_take" = some (.ref (He.ga K "_law_take"))
  d__law_whole : FuncData
  F__law_whole : FnP K "_law_whole" st__law_whole (He.ga K "_law_whole") d__law_whole
  g__law_whole : mg "_law_whole" = some (.ref (He.ga K "_law_whole"))
  d__law_listed : FuncData
  F__law_listed : FnP K "_law_listed" st__law_listed (He.ga K "_law_listed") d__law_listed
  g__law_listed : mg "_law_listed" = some (.ref (He.ga K "_law_listed"))
  d__law_tupled : FuncData
  F__law_tupled : FnP K "_law_tupled" st__law_tupled (He.ga K "_law_tupled") d__law_tupled
  g__law_tupled : mg "_law_tupled" = some (.ref (He.ga K "_law_tupled"))
  d__law_handed : FuncData
  F__law_handed : FnP K "_law_handed" st__law_handed (He.ga K "_law_handed") d__law_handed
  g__law_handed : mg "_law_handed" = some (.ref (He.ga K "_law_handed"))
  d__law_levels : FuncData
  F__law_levels : FnP K "_law_levels" st__law_levels (He.ga K "_law_levels") d__law_levels
  g__law_levels : mg "_law_levels" = some (.ref (He.ga K "_law_levels"))
  d__law_is_string : FuncData
  F__law_is_string : FnP K "_law_is_string" st__law_is_string (He.ga K "_law_is_string") d__law_is_string
  g__law_is_string : mg "_law_is_string" = some (.ref (He.ga K "_law_is_string"))
  d__law_is_machine : FuncData
  F__law_is_machine : FnP K "_law_is_machine" st__law_is_machine (He.ga K "_law_is_machine") d__law_is_machine
  g__law_is_machine : mg "_law_is_machine" = some (.ref (He.ga K "_law_is_machine"))
  d__law_moves : FuncData
  F__law_moves : FnP K "_law_moves" st__law_moves (He.ga K "_law_moves") d__law_moves
  g__law_moves : mg "_law_moves" = some (.ref (He.ga K "_law_moves"))
  d__law_tells : FuncData
  F__law_tells : FnP K "_law_tells" st__law_tells (He.ga K "_law_tells") d__law_tells
  g__law_tells : mg "_law_tells" = some (.ref (He.ga K "_law_tells"))
  d__law_letters : FuncData
  F__law_letters : FnP K "_law_letters" st__law_letters (He.ga K "_law_letters") d__law_letters
  g__law_letters : mg "_law_letters" = some (.ref (He.ga K "_law_letters"))
  d__law_few : FuncData
  F__law_few : FnP K "_law_few" st__law_few (He.ga K "_law_few") d__law_few
  g__law_few : mg "_law_few" = some (.ref (He.ga K "_law_few"))
  d__law_machine : FuncData
  F__law_machine : FnP K "_law_machine" st__law_machine (He.ga K "_law_machine") d__law_machine
  g__law_machine : mg "_law_machine" = some (.ref (He.ga K "_law_machine"))
  d__law_first_words : FuncData
  F__law_first_words : FnP K "_law_first_words" st__law_first_words (He.ga K "_law_first_words") d__law_first_words
  g__law_first_words : mg "_law_first_words" = some (.ref (He.ga K "_law_first_words"))
  d__law_words_of : FuncData
  F__law_words_of : FnP K "_law_words_of" st__law_words_of (He.ga K "_law_words_of") d__law_words_of
  g__law_words_of : mg "_law_words_of" = some (.ref (He.ga K "_law_words_of"))
  d__law_machine_changed : FuncData
  F__law_machine_changed : FnP K "_law_machine_changed" st__law_machine_changed (He.ga K "_law_machine_changed") d__law_machine_changed
  g__law_machine_changed : mg "_law_machine_changed" = some (.ref (He.ga K "_law_machine_changed"))
  d_law : FuncData
  F_law : FnP K "law" st_law (He.ga K "law") d_law
  g_law : mg "law" = some (.ref (He.ga K "law"))
  c_LETTERS : ∃ t, mg "LETTERS" = some (.str "abcdef" t)
  c_MOST_STATES : ∃ t, mg "MOST_STATES" = some (.int 8 t)
  c_MOST_TOLD : ∃ t, mg "MOST_TOLD" = some (.int 50 t)
  z_all : mg "all" = none
  z_bool : mg "bool" = none
  z_enumerate : mg "enumerate" = none
  z_int : mg "int" = none
  z_isinstance : mg "isinstance" = none
  z_len : mg "len" = none
  z_list : mg "list" = none
  z_range : mg "range" = none
  z_reversed : mg "reversed" = none
  z_str : mg "str" = none
  z_tuple : mg "tuple" = none
section
variable {K : Frag} {mg : Str → Option Value} {P : Program} {w : World} {base : Heap}
theorem Env.b_check_arguments (E : Env K mg) : Binds K E.d_check_arguments ["fits"] [] := FunD.bindsN E.F_check_arguments fun _ _ _ _ _ _ us hl => match us, hl with | [_], _ => rfl
theorem Env.b_is_whole (E : Env K mg) : Binds K E.d_is_whole ["value", "low", "high"] [] := FunD.bindsN E.F_is_whole fun _ _ _ _ _ _ us hl => match us, hl with | [_, _, _], _ => rfl
theorem Env.b_is_sequence (E : Env K mg) : Binds K E.d_is_sequence ["value"] [] := FunD.bindsN E.F_is_sequence fun _ _ _ _ _ _ us hl => match us, hl with | [_], _ => rfl
theorem Env.b_is_triple (E : Env K mg) : Binds K E.d_is_triple ["value"] [] := FunD.bindsN E.F_is_triple fun _ _ _ _ _ _ us hl => match us, hl with | [_], _ => rfl
theorem Env.b_is_word (E : Env K mg) : Binds K E.d_is_word ["value"] [] := FunD.bindsN E.F_is_word fun _ _ _ _ _ _ us hl => match us, hl with | [_], _ => rfl
theorem Env.b_is_rising (E : Env K mg) : Binds K E.d_is_rising ["rows"] [] := FunD.bindsN E.F_is_rising fun _ _ _ _ _ _ us hl => match us, hl with | [_], _ => rfl
theorem Env.b_is_machine (E : Env K mg) : Binds K E.d_is_machine ["value"] [] := FunD.bindsN E.F_is_machine fun _ _ _ _ _ _ us hl => match us, hl with | [_], _ => rfl
theorem Env.b_are_ends (E : Env K mg) : Binds K E.d_are_ends ["value", "count"] [] := FunD.bindsN E.F_are_ends fun _ _ _ _ _ _ us hl => match us, hl with | [_, _], _ => rfl
theorem Env.b_are_moves (E : Env K mg) : Binds K E.d_are_moves ["value", "count"] [] := FunD.bindsN E.F_are_moves fun _ _ _ _ _ _ us hl => match us, hl with | [_, _], _ => rfl
theorem Env.b_is_move (E : Env K mg) : Binds K E.d_is_move ["value", "count"] [] := FunD.bindsN E.F_is_move fun _ _ _ _ _ _ us hl => match us, hl with | [_, _], _ => rfl
theorem Env.b_steps_of (E : Env K mg) : Binds K E.d_steps_of ["moves"] [] := FunD.bindsN E.F_steps_of fun _ _ _ _ _ _ us hl => match us, hl with | [_], _ => rfl
theorem Env.b_walked (E : Env K mg) : Binds K E.d_walked ["steps", "state", "word"] [] := FunD.bindsN E.F_walked fun _ _ _ _ _ _ us hl => match us, hl with | [_, _, _], _ => rfl
theorem Env.b_tells (E : Env K mg) : Binds K E.d_tells ["machine", "word"] [] := FunD.bindsN E.F_tells fun _ _ _ _ _ _ us hl => match us, hl with | [_, _], _ => rfl
theorem Env.b_first_words (E : Env K mg) : Binds K E.d_first_words ["machine", "limit"] [] := FunD.bindsN E.F_first_words fun _ _ _ _ _ _ us hl => match us, hl with | [_, _], _ => rfl
theorem Env.b_longest_words (E : Env K mg) : Binds K E.d_longest_words ["moves", "ending", "many"] [] := FunD.bindsN E.F_longest_words fun _ _ _ _ _ _ us hl => match us, hl with | [_, _, _], _ => rfl
theorem Env.b__law_so (E : Env K mg) : Binds K E.d__law_so ["found", "wanted"] [] := FunD.bindsN E.F__law_so fun _ _ _ _ _ _ us hl => match us, hl with | [_, _], _ => rfl
theorem Env.b__law_numbers (E : Env K mg) : Binds K E.d__law_numbers ["script"] [] := FunD.bindsN E.F__law_numbers fun _ _ _ _ _ _ us hl => match us, hl with | [_], _ => rfl
theorem Env.b__law_draw (E : Env K mg) : Binds K E.d__law_draw ["row", "at", "limit"] [] := FunD.bindsN E.F__law_draw fun _ _ _ _ _ _ us hl => match us, hl with | [_, _, _], _ => rfl
theorem Env.b__law_take (E : Env K mg) : Binds K E.d__law_take ["row", "spot", "limit"] [] := FunD.bindsN E.F__law_take fun _ _ _ _ _ _ us hl => match us, hl with | [_, _, _], _ => rfl
theorem Env.b__law_whole (E : Env K mg) : Binds K E.d__law_whole ["value"] [] := FunD.bindsN E.F__law_whole fun _ _ _ _ _ _ us hl => match us, hl with | [_], _ => rfl
theorem Env.b__law_listed (E : Env K mg) : Binds K E.d__law_listed ["value"] [] := FunD.bindsN E.F__law_listed fun _ _ _ _ _ _ us hl => match us, hl with | [_], _ => rfl
theorem Env.b__law_tupled (E : Env K mg) : Binds K E.d__law_tupled ["value"] [] := FunD.bindsN E.F__law_tupled fun _ _ _ _ _ _ us hl => match us, hl with | [_], _ => rfl
theorem Env.b__law_handed (E : Env K mg) : Binds K E.d__law_handed ["row", "spot", "value"] [] := FunD.bindsN E.F__law_handed fun _ _ _ _ _ _ us hl => match us, hl with | [_, _, _], _ => rfl
theorem Env.b__law_levels (E : Env K mg) : Binds K E.d__law_levels ["row", "spot", "value"] [] := FunD.bindsN E.F__law_levels fun _ _ _ _ _ _ us hl => match us, hl with | [_, _, _], _ => rfl
theorem Env.b__law_is_string (E : Env K mg) : Binds K E.d__law_is_string ["value", "most"] [] := FunD.bindsN E.F__law_is_string fun _ _ _ _ _ _ us hl => match us, hl with | [_, _], _ => rfl
theorem Env.b__law_is_machine (E : Env K mg) : Binds K E.d__law_is_machine ["value"] [] := FunD.bindsN E.F__law_is_machine fun _ _ _ _ _ _ us hl => match us, hl with | [_], _ => rfl
theorem Env.b__law_moves (E : Env K mg) : Binds K E.d__law_moves ["machine"] [] := FunD.bindsN E.F__law_moves fun _ _ _ _ _ _ us hl => match us, hl with | [_], _ => rfl
theorem Env.b__law_tells (E : Env K mg) : Binds K E.d__law_tells ["machine", "word"] [] := FunD.bindsN E.F__law_tells fun _ _ _ _ _ _ us hl => match us, hl with | [_, _], _ => rfl
theorem Env.b__law_letters (E : Env K mg) : Binds K E.d__law_letters ["row", "spot", "most", "few"] [] := FunD.bindsN E.F__law_letters fun _ _ _ _ _ _ us hl => match us, hl with | [_, _, _, _], _ => rfl
theorem Env.b__law_few (E : Env K mg) : Binds K E.d__law_few ["row", "spot", "sizes"] [] := FunD.bindsN E.F__law_few fun _ _ _ _ _ _ us hl => match us, hl with | [_, _, _], _ => rfl
theorem Env.b__law_machine (E : Env K mg) : Binds K E.d__law_machine ["row", "spot", "many", "few"] [] := FunD.bindsN E.F__law_machine fun _ _ _ _ _ _ us hl => match us, hl with | [_, _, _, _], _ => rfl
theorem Env.b__law_first_words (E : Env K mg) : Binds K E.d__law_first_words ["machine", "limit"] [] := FunD.bindsN E.F__law_first_words fun _ _ _ _ _ _ us hl => match us, hl with | [_, _], _ => rfl
theorem Env.b__law_words_of (E : Env K mg) : Binds K E.d__law_words_of ["moves", "can", "size", "made", "limit"] [] := FunD.bindsN E.F__law_words_of fun _ _ _ _ _ _ us hl => match us, hl with | [_, _, _, _, _], _ => rfl
theorem Env.b__law_machine_changed (E : Env K mg) : Binds K E.d__law_machine_changed ["row", "spot", "value"] [] := FunD.bindsN E.F__law_machine_changed fun _ _ _ _ _ _ us hl => match us, hl with | [_, _, _], _ => rfl
theorem Env.b_law (E : Env K mg) : Binds K E.d_law ["script"] [] := FunD.bindsN E.F_law fun _ _ _ _ _ _ us hl => match us, hl with | [_], _ => rfl
theorem Env.k_first_words_0_2 (E : Env K mg) : KwTo E.d_first_words ["machine", "limit"] 0 ["machine", "limit"] := kwTo E.F_first_words fun _ _ _ _ _ _ us ws hu hw => match us, ws, hu, hw with | [], [_, _], _, _ => rfl
theorem Env.k_is_machine_0_1 (E : Env K mg) : KwTo E.d_is_machine ["value"] 0 ["value"] := kwTo E.F_is_machine fun _ _ _ _ _ _ us ws hu hw => match us, ws, hu, hw with | [], [_], _, _ => rfl
theorem Env.k_tells_0_2 (E : Env K mg) : KwTo E.d_tells ["machine", "word"] 0 ["machine", "word"] := kwTo E.F_tells fun _ _ _ _ _ _ us ws hu hw => match us, ws, hu, hw with | [], [_, _], _, _ => rfl
set_option maxHeartbeats 4000000 in
theorem ok_check_arguments (E : Env K mg)  : FnOk P w K mg base CX0 1 (He.ga K "check_arguments") E.d_check_arguments ["fits"] (sp_check_arguments K) := by
  refine E.F_check_arguments.ok sc_check_arguments (fun vs H Q E' h => len_check_arguments h) (fun cdv A outer s H vs Q E' hr h => ⟨(t_check_arguments K), PSs.nox ?_, pure_check_arguments vs H Q E' h⟩)
  exact (pss_one (ps_for PassesOwn.never rfl (pi_enum (by rfl) E.z_enumerate (pa_cons (pv 0) pa_nil)) (pg_seq (n := 2) rfl (pgs_cons (pg_name (i := 1) sc_check_arguments.nd rfl (by first | exact Or.inl rfl | exact Or.inr rfl)) (pgs_cons (pg_name (i := 2) sc_check_arguments.nd rfl (by first | exact Or.inl rfl | exact Or.inr rfl)) pgs_nil))) (pss_one (ps_if (pt_not (pt_truth (pv 2) (by intro _; rfl))) (pss_one ps_never) pss_nil))))
set_option maxHeartbeats 4000000 in
theorem ok_is_whole (E : Env K mg)  : FnOk P w K mg base CX0 1 (He.ga K "is_whole") E.d_is_whole ["value", "low", "high"] (sp_is_whole K) := by
  refine E.F_is_whole.ok sc_is_whole (fun vs H Q E' h => len_is_whole h) (fun cdv A outer s H vs Q E' hr h => ⟨(t_is_whole K), PSs.nox ?_, pure_is_whole vs H Q E' h⟩)
  exact (pss_one (ps_ret (pe_and (pe_callB call_isiU (by rfl) E.z_isinstance (by decide +kernel) (pa_cons (pv 0) (pa_cons (pe_bltn (v := .ty "int") rfl E.z_int (by decide +kernel) rfl) pa_nil))) (pe_and (pe_not (pe_callB call_isiU (by rfl) E.z_isinstance (by decide +kernel) (pa_cons (pv 0) (pa_cons (pe_bltn (v := .ty "bool") rfl E.z_bool (by decide +kernel) rfl) pa_nil)))) (pe_one (pe_chain (op_leD hr.units) (op_leD hr.units) (pv 1) (pv 0) (pv 2)))))))
set_option maxHeartbeats 4000000 in
theorem ok_is_sequence (E : Env K mg)  : FnOk P w K mg base CX0 1 (He.ga K "is_sequence") E.d_is_sequence ["value"] (sp_is_sequence K) := by
  refine E.F_is_sequence.ok sc_is_sequence (fun vs H Q E' h => len_is_sequence h) (fun cdv A outer s H vs Q E' hr h => ⟨(t_is_sequence K), PSs.nox ?_, pure_is_sequence vs H Q E' h⟩)
  exact (pss_one (ps_ret (pe_callB call_isiU (by rfl) E.z_isinstance (by decide +kernel) (pa_cons (pv 0) (pa_cons (pe_tup (pa_cons (pe_bltn (v := .ty "list") rfl E.z_list (by decide +kernel) rfl) (pa_cons (pe_bltn (v := .ty "tuple") rfl E.z_tuple (by decide +kernel) rfl) pa_nil))) pa_nil)))))
set_option maxHeartbeats 4000000 in
theorem ok_is_triple (E : Env K mg) (G_is_sequence : FnOk P w K mg base CX0 1 (He.ga K "is_sequence") E.d_is_sequence ["value"] (sp_is_sequence K)) : FnOk P w K mg base CX0 2 (He.ga K "is_triple") E.d_is_triple ["value"] (sp_is_triple K) := by
  refine E.F_is_triple.ok sc_is_triple (fun vs H Q E' h => len_is_triple h) (fun cdv A outer s H vs Q E' hr h => ⟨(t_is_triple K), PSs.nox ?_, pure_is_triple vs H Q E' h⟩)
  exact (pss_one (ps_ret (pe_and (pe_call G_is_sequence (hr.mono (by decide)) rfl E.g_is_sequence E.F_is_sequence.kp E.b_is_sequence .nil pass0 (pa_cons (pv 0) pa_nil)) (pe_one (pe_cmpR (op_eqU hr.units) (pe_callB call_lenU (by rfl) E.z_len (by decide +kernel) (pa_cons (pv 0) pa_nil)) pe_int (nomark _))))))
set_option maxHeartbeats 4000000 in
theorem ok_is_word (E : Env K mg)  : FnOk P w K mg base CX0 1 (He.ga K "is_word") E.d_is_word ["value"] (sp_is_word K) := by
  refine E.F_is_word.ok sc_is_word (fun vs H Q E' h => len_is_word h) (fun cdv A outer s H vs Q E' hr h => ⟨(t_is_word K), PSs.nox ?_, pure_is_word vs H Q E' h⟩)
  exact (pss_one (ps_ret (pe_and (pe_callB call_isiU (by rfl) E.z_isinstance (by decide +kernel) (pa_cons (pv 0) (pa_cons (pe_bltn (v := .ty "str") rfl E.z_str (by decide +kernel) rfl) pa_nil))) (pe_one (pe_callB (cr_all rfl) (by rfl) E.z_all (by decide +kernel) (pa_cons (pe_lc (own := [("letter", 1)]) (g := (gName 1)) (tt := tYes) rfl sc_is_word.nd (pi_seq (pv 0)) (blkOk_by (own := [("letter", 1)]) (N := names_is_word) (sc := defScope st_is_word) (by decide +kernel)) (fun _ _ _ _ _ => (pg_name (i := 1) sc_is_word.nd rfl (by first | exact Or.inl rfl | exact Or.inr rfl))) (fun _ _ _ _ _ => pts_nil) (fun _ _ _ _ _ => (pe_cmpR (op_inU (hu_of hr)) (pv 1) (pe_glob rfl E.c_LETTERS.choose_spec ⟨_, rfl⟩) (by rfl)))) pa_nil))))))
set_option maxHeartbeats 4000000 in
theorem ok_is_rising (E : Env K mg)  : FnOk P w K mg base CX0 1 (He.ga K "is_rising") E.d_is_rising ["rows"] (sp_is_rising K) := by
  refine E.F_is_rising.ok sc_is_rising (fun vs H Q E' h => len_is_rising h) (fun cdv A outer s H vs Q E' hr h => ⟨(t_is_rising K), PSs.nox ?_, pure_is_rising vs H Q E' h⟩)
  exact (pss_one (ps_ret (pe_callB (cr_all rfl) (by rfl) E.z_all (by decide +kernel) (pa_cons (pe_lc (own := [("at", 1)]) (g := (gName 1)) (tt := tYes) rfl sc_is_rising.nd (pi_range1 (by rfl) E.z_range (pa_cons (pe_op op_sub (pe_callB call_lenU (by rfl) E.z_len (by decide +kernel) (pa_cons (pv 0) pa_nil)) pe_int) pa_nil)) (blkOk_by (own := [("at", 1)]) (N := names_is_rising) (sc := defScope st_is_rising) (by decide +kernel)) (fun _ _ _ _ _ => (pg_name (i := 1) sc_is_rising.nd rfl (by first | exact Or.inl rfl | exact Or.inr rfl))) (fun _ _ _ _ _ => pts_nil) (fun _ _ _ _ _ => (pe_cmpR (op_ltD hr.units) (pe_ixU (hu_of hr) (pv 0) (pv 1) (fun _ _ => rfl) (fun _ _ => rfl)) (pe_ixU (hu_of hr) (pv 0) (pe_op op_addU (pv 1) pe_int) (fun _ _ => rfl) (fun _ _ => rfl)) (nomark _)))) pa_nil))))
set_option maxHeartbeats 4000000 in
theorem ok_is_machine (E : Env K mg) (G_is_triple : FnOk P w K mg base CX0 2 (He.ga K "is_triple") E.d_is_triple ["value"] (sp_is_triple K)) (G_is_whole : FnOk P w K mg base CX0 1 (He.ga K "is_whole") E.d_is_whole ["value", "low", "high"] (sp_is_whole K)) (G_are_ends : FnOk P w K mg base CX0 2 (He.ga K "are_ends") E.d_are_ends ["value", "count"] (sp_are_ends K)) (G_are_moves : FnOk P w K mg base CX0 4 (He.ga K "are_moves") E.d_are_moves ["value", "count"] (sp_are_moves K)) : FnOk P w K mg base CX0 5 (He.ga K "is_machine") E.d_is_machine ["value"] (sp_is_machine K) := by
  refine E.F_is_machine.ok sc_is_machine (fun vs H Q E' h => len_is_machine h) (fun cdv A outer s H vs Q E' hr h => ⟨(t_is_machine K), PSs.nox ?_, pure_is_machine vs H Q E' h⟩)
  exact (pss_cons (ps_if (pt_not (pt_val (pe_call G_is_triple (hr.mono (by decide)) rfl E.g_is_triple E.F_is_triple.kp E.b_is_triple .nil pass0 (pa_cons (pv 0) pa_nil)))) (pss_one (ps_ret pe_bl)) pss_nil) (pss_cons (ps_asg (pv 0) (pg_seq (n := 3) rfl (pgs_cons (pg_name (i := 1) sc_is_machine.nd rfl (by first | exact Or.inl rfl | exact Or.inr rfl)) (pgs_cons (pg_name (i := 2) sc_is_machine.nd rfl (by first | exact Or.inl rfl | exact Or.inr rfl)) (pgs_cons (pg_name (i := 3) sc_is_machine.nd rfl (by first | exact Or.inl rfl | exact Or.inr rfl)) pgs_nil))))) (pss_one (ps_ret (pe_and (pe_call G_is_whole (hr.mono (by decide)) rfl E.g_is_whole E.F_is_whole.kp E.b_is_whole .nil pass0 (pa_cons (pv 1) (pa_cons pe_int (pa_cons (pe_glob rfl E.c_MOST_STATES.choose_spec ⟨_, rfl⟩) pa_nil)))) (pe_and (pe_call G_are_ends (hr.mono (by decide)) rfl E.g_are_ends E.F_are_ends.kp E.b_are_ends .nil pass0 (pa_cons (pv 2) (pa_cons (pv 1) pa_nil))) (pe_one (pe_call G_are_moves (hr.mono (by decide)) rfl E.g_are_moves E.F_are_moves.kp E.b_are_moves .nil pass0 (pa_cons (pv 3) (pa_cons (pv 1) pa_nil))))))))))
set_option maxHeartbeats 4000000 in
theorem ok_are_ends (E : Env K mg) (G_is_sequence : FnOk P w K mg base CX0 1 (He.ga K "is_sequence") E.d_is_sequence ["value"] (sp_is_sequence K)) (G_is_whole : FnOk P w K mg base CX0 1 (He.ga K "is_whole") E.d_is_whole ["value", "low", "high"] (sp_is_whole K)) (G_is_rising : FnOk P w K mg base CX0 1 (He.ga K "is_rising") E.d_is_rising ["rows"] (sp_is_rising K)) : FnOk P w K mg base CX0 2 (He.ga K "are_ends") E.d_are_ends ["value", "count"] (sp_are_ends K) := by
  refine E.F_are_ends.ok sc_are_ends (fun vs H Q E' h => len_are_ends h) (fun cdv A outer s H vs Q E' hr h => ⟨(t_are_ends K), PSs.nox ?_, pure_are_ends vs H Q E' h⟩)
  exact (pss_cons (ps_if (pt_not (pt_val (pe_call G_is_sequence (hr.mono (by decide)) rfl E.g_is_sequence E.F_is_sequence.kp E.b_is_sequence .nil pass0 (pa_cons (pv 0) pa_nil)))) (pss_one (ps_ret pe_bl)) pss_nil) (pss_one (ps_ret (pe_and (pe_callB (cr_all rfl) (by rfl) E.z_all (by decide +kernel) (pa_cons (pe_lc (own := [("state", 2)]) (g := (gName 2)) (tt := tYes) rfl sc_are_ends.nd (pi_seq (pv 0)) (blkOk_by (own := [("state", 2)]) (N := names_are_ends) (sc := defScope st_are_ends) (by decide +kernel)) (fun _ _ _ _ _ => (pg_name (i := 2) sc_are_ends.nd rfl (by first | exact Or.inl rfl | exact Or.inr rfl))) (fun _ _ _ _ _ => pts_nil) (fun _ _ _ _ _ => (pe_call G_is_whole (hr.mono (by decide)) rfl E.g_is_whole E.F_is_whole.kp E.b_is_whole .nil pass0 (pa_cons (pv 2) (pa_cons pe_int (pa_cons (pe_op op_sub (pv 1) pe_int) pa_nil)))))) pa_nil)) (pe_one (pe_call G_is_rising (hr.mono (by decide)) rfl E.g_is_rising E.F_is_rising.kp E.b_is_rising .nil pass0 (pa_cons (pv 0) pa_nil)))))))
set_option maxHeartbeats 4000000 in
theorem ok_are_moves (E : Env K mg) (G_is_sequence : FnOk P w K mg base CX0 1 (He.ga K "is_sequence") E.d_is_sequence ["value"] (sp_is_sequence K)) (G_is_move : FnOk P w K mg base CX0 3 (He.ga K "is_move") E.d_is_move ["value", "count"] (sp_is_move K)) (G_is_rising : FnOk P w K mg base CX0 1 (He.ga K "is_rising") E.d_is_rising ["rows"] (sp_is_rising K)) : FnOk P w K mg base CX0 4 (He.ga K "are_moves") E.d_are_moves ["value", "count"] (sp_are_moves K) := by
  refine E.F_are_moves.ok sc_are_moves (fun vs H Q E' h => len_are_moves h) (fun cdv A outer s H vs Q E' hr h => ⟨(t_are_moves K), PSs.nox ?_, pure_are_moves vs H Q E' h⟩)
  exact (pss_cons (ps_if (PW.pt (pw_or (pt_not (pt_val (pe_call G_is_sequence (hr.mono (by decide)) rfl E.g_is_sequence E.F_is_sequence.kp E.b_is_sequence .nil pass0 (pa_cons (pv 0) pa_nil)))) (pw_or1 (pt_not (pt_val (pe_callB (cr_all rfl) (by rfl) E.z_all (by decide +kernel) (pa_cons (pe_lc (own := [("move", 2)]) (g := (gName 2)) (tt := tYes) rfl sc_are_moves.nd (pi_seq (pv 0)) (blkOk_by (own := [("move", 2)]) (N := names_are_moves) (sc := defScope st_are_moves) (by decide +kernel)) (fun _ _ _ _ _ => (pg_name (i := 2) sc_are_moves.nd rfl (by first | exact Or.inl rfl | exact Or.inr rfl))) (fun _ _ _ _ _ => pts_nil) (fun _ _ _ _ _ => (pe_call G_is_move (hr.mono (by decide)) rfl E.g_is_move E.F_is_move.kp E.b_is_move .nil pass0 (pa_cons (pv 2) (pa_cons (pv 1) pa_nil))))) pa_nil))))))) (pss_one (ps_ret pe_bl)) pss_nil) (pss_one (ps_ret (pe_call G_is_rising (hr.mono (by decide)) rfl E.g_is_rising E.F_is_rising.kp E.b_is_rising .nil pass0 (pa_cons (pe_lc (own := [("move", 2)]) (g := (gName 2)) (tt := tYes) rfl sc_are_moves.nd (pi_seq (pv 0)) (blkOk_by (own := [("move", 2)]) (N := names_are_moves) (sc := defScope st_are_moves) (by decide +kernel)) (fun _ _ _ _ _ => (pg_name (i := 2) sc_are_moves.nd rfl (by first | exact Or.inl rfl | exact Or.inr rfl))) (fun _ _ _ _ _ => pts_nil) (fun _ _ _ _ _ => (pe_tup (pa_cons (pe_ixU (hu_of hr) (pv 2) pe_int (fun _ _ => rfl) (fun _ _ => rfl)) (pa_cons (pe_ixU (hu_of hr) (pv 2) pe_int (fun _ _ => rfl) (fun _ _ => rfl)) pa_nil))))) pa_nil)))))
set_option maxHeartbeats 4000000 in
theorem ok_is_move (E : Env K mg) (G_is_triple : FnOk P w K mg base CX0 2 (He.ga K "is_triple") E.d_is_triple ["value"] (sp_is_triple K)) (G_is_word : FnOk P w K mg base CX0 1 (He.ga K "is_word") E.d_is_word ["value"] (sp_is_word K)) (G_is_whole : FnOk P w K mg base CX0 1 (He.ga K "is_whole") E.d_is_whole ["value", "low", "high"] (sp_is_whole K)) : FnOk P w K mg base CX0 3 (He.ga K "is_move") E.d_is_move ["value", "count"] (sp_is_move K) := by
  refine E.F_is_move.ok sc_is_move (fun vs H Q E' h => len_is_move h) (fun cdv A outer s H vs Q E' hr h => ⟨(t_is_move K), PSs.nox ?_, pure_is_move vs H Q E' h⟩)
  exact (pss_cons (ps_if (pt_not (pt_val (pe_call G_is_triple (hr.mono (by decide)) rfl E.g_is_triple E.F_is_triple.kp E.b_is_triple .nil pass0 (pa_cons (pv 0) pa_nil)))) (pss_one (ps_ret pe_bl)) pss_nil) (pss_cons (ps_asg (pv 0) (pg_seq (n := 3) rfl (pgs_cons (pg_name (i := 2) sc_is_move.nd rfl (by first | exact Or.inl rfl | exact Or.inr rfl)) (pgs_cons (pg_name (i := 3) sc_is_move.nd rfl (by first | exact Or.inl rfl | exact Or.inr rfl)) (pgs_cons (pg_name (i := 4) sc_is_move.nd rfl (by first | exact Or.inl rfl | exact Or.inr rfl)) pgs_nil))))) (pss_cons (ps_if (PW.pt (pw_or (pt_not (pt_val (pe_call G_is_word (hr.mono (by decide)) rfl E.g_is_word E.F_is_word.kp E.b_is_word .nil pass0 (pa_cons (pv 3) pa_nil)))) (pw_or1 (pt_cmpR (op_neU hr.units) (pe_callB call_lenU (by rfl) E.z_len (by decide +kernel) (pa_cons (pv 3) pa_nil)) pe_int (nomark _))))) (pss_one (ps_ret pe_bl)) pss_nil) (pss_one (ps_ret (pe_and (pe_call G_is_whole (hr.mono (by decide)) rfl E.g_is_whole E.F_is_whole.kp E.b_is_whole .nil pass0 (pa_cons (pv 2) (pa_cons pe_int (pa_cons (pe_op op_sub (pv 1) pe_int) pa_nil)))) (pe_one (pe_call G_is_whole (hr.mono (by decide)) rfl E.g_is_whole E.F_is_whole.kp E.b_is_whole .nil pass0 (pa_cons (pv 4) (pa_cons pe_int (pa_cons (pe_op op_sub (pv 1) pe_int) pa_nil)))))))))))
set_option maxHeartbeats 4000000 in
theorem ok_steps_of (E : Env K mg)  : FnOk P w K mg base CX0 1 (He.ga K "steps_of") E.d_steps_of ["moves"] (sp_steps_of K) := by
  refine E.F_steps_of.ok sc_steps_of (fun vs H Q E' h => len_steps_of h) (fun cdv A outer s H vs Q E' hr h => ⟨(t_steps_of K), PSs.nox ?_, pure_steps_of vs H Q E' h⟩)
  exact (pss_one (ps_ret (pe_dcT (own := [("state", 1), ("letter", 2), ("behind", 3)]) (g := (gSeq K 3 (gCons (gName 1) (gCons (gName 2) (gCons (gName 3) gNil))))) (tt := tYes) rfl (hu_of hr) sc_steps_of.nd (pi_seq (pv 0)) (blkOk_by (own := [("state", 1), ("letter", 2), ("behind", 3)]) (N := names_steps_of) (sc := defScope st_steps_of) (by decide +kernel)) (fun _ _ _ _ _ => (pg_seq (n := 3) rfl (pgs_cons (pg_name (i := 1) sc_steps_of.nd rfl (by first | exact Or.inl rfl | exact Or.inr rfl)) (pgs_cons (pg_name (i := 2) sc_steps_of.nd rfl (by first | exact Or.inl rfl | exact Or.inr rfl)) (pgs_cons (pg_name (i := 3) sc_steps_of.nd rfl (by first | exact Or.inl rfl | exact Or.inr rfl)) pgs_nil))))) (fun _ _ _ _ _ => pts_nil) (fun _ _ _ _ _ => (pe_tup (pa_cons (pv 1) (pa_cons (pv 2) pa_nil)))) (fun _ _ _ _ _ => (pv 3)))))
set_option maxHeartbeats 4000000 in
theorem ok_walked (E : Env K mg)  : FnOk P w K mg base CX0 1 (He.ga K "walked") E.d_walked ["steps", "state", "word"] (sp_walked K) := by
  refine E.F_walked.ok sc_walked (fun vs H Q E' h => len_walked h) (fun cdv A outer s H vs Q E' hr h => ⟨(t_walked K), PSs.nox ?_, pure_walked vs H Q E' h⟩)
  exact (pss_cons (ps_for PassesOwn.never rfl (pi_seq (pv 2)) (pg_name (i := 3) sc_walked.nd rfl (by first | exact Or.inl rfl | exact Or.inr rfl)) (pss_cons (ps_if (pt_cmpR (op_notInU (hu_of hr)) (pe_tup (pa_cons (pv 1) (pa_cons (pv 3) pa_nil))) (pv 0) (by rfl)) (pss_one (ps_ret pe_non)) pss_nil) (pss_one (ps_set (i := 1) sc_walked.nd rfl (by first | exact Or.inl rfl | exact Or.inr rfl) (pe_ixU (hu_of hr) (pv 0) (pe_tup (pa_cons (pv 1) (pa_cons (pv 3) pa_nil))) (fun _ _ => rfl) (fun _ _ => rfl)))))) (pss_one (ps_ret (pv 1))))
set_option maxHeartbeats 4000000 in
theorem ok_tells (E : Env K mg) (G_check_arguments : FnOk P w K mg base CX0 1 (He.ga K "check_arguments") E.d_check_arguments ["fits"] (sp_check_arguments K)) (G_is_word : FnOk P w K mg base CX0 1 (He.ga K "is_word") E.d_is_word ["value"] (sp_is_word K)) (G_is_machine : FnOk P w K mg base CX0 5 (He.ga K "is_machine") E.d_is_machine ["value"] (sp_is_machine K)) (G_walked : FnOk P w K mg base CX0 1 (He.ga K "walked") E.d_walked ["steps", "state", "word"] (sp_walked K)) (G_steps_of : FnOk P w K mg base CX0 1 (He.ga K "steps_of") E.d_steps_of ["moves"] (sp_steps_of K)) : FnOk P w K mg base CX0 6 (He.ga K "tells") E.d_tells ["machine", "word"] (sp_tells K) := by
  refine E.F_tells.ok sc_tells (fun vs H Q E' h => len_tells h) (fun cdv A outer s H vs Q E' hr h => ⟨(t_tells K), PSs.nox ?_, pure_tells vs H Q E' h⟩)
  exact (pss_cons (ps_expr (pe_call G_check_arguments (hr.mono (by decide)) rfl E.g_check_arguments E.F_check_arguments.kp E.b_check_arguments .nil pass0 (pa_cons (pe_lst (pa_cons (pe_call G_is_machine (hr.mono (by decide)) rfl E.g_is_machine E.F_is_machine.kp E.b_is_machine .nil pass0 (pa_cons (pv 0) pa_nil)) (pa_cons (pe_call G_is_word (hr.mono (by decide)) rfl E.g_is_word E.F_is_word.kp E.b_is_word .nil pass0 (pa_cons (pv 1) pa_nil)) pa_nil))) pa_nil))) (pss_one (ps_ret (pe_cmpR (op_inU (hu_of hr)) (pe_call G_walked (hr.mono (by decide)) rfl E.g_walked E.F_walked.kp E.b_walked .nil pass0 (pa_cons (pe_call G_steps_of (hr.mono (by decide)) rfl E.g_steps_of E.F_steps_of.kp E.b_steps_of .nil pass0 (pa_cons (pe_ixU (hu_of hr) (pv 0) pe_int (fun _ _ => rfl) (fun _ _ => rfl)) pa_nil)) (pa_cons pe_int (pa_cons (pv 1) pa_nil)))) (pe_ixU (hu_of hr) (pv 0) pe_int (fun _ _ => rfl) (fun _ _ => rfl)) (by rfl)))))
set_option maxHeartbeats 4000000 in
theorem ok_first_words (E : Env K mg) (G_check_arguments : FnOk P w K mg base CX0 1 (He.ga K "check_arguments") E.d_check_arguments ["fits"] (sp_check_arguments K)) (G_is_whole : FnOk P w K mg base CX0 1 (He.ga K "is_whole") E.d_is_whole ["value", "low", "high"] (sp_is_whole K)) (G_is_machine : FnOk P w K mg base CX0 5 (He.ga K "is_machine") E.d_is_machine ["value"] (sp_is_machine K)) (G_longest_words : FnOk P w K mg base CX0 1 (He.ga K "longest_words") E.d_longest_words ["moves", "ending", "many"] (sp_longest_words K)) : FnOk P w K mg base CX0 6 (He.ga K "first_words") E.d_first_words ["machine", "limit"] (sp_first_words K) := by
  refine E.F_first_words.ok sc_first_words (fun vs H Q E' h => len_first_words h) (fun cdv A outer s H vs Q E' hr h => ⟨(t_first_words K), PSs.nox ?_, pure_first_words vs H Q E' h⟩)
  exact (pss_cons (ps_expr (pe_call G_check_arguments (hr.mono (by decide)) rfl E.g_check_arguments E.F_check_arguments.kp E.b_check_arguments .nil pass0 (pa_cons (pe_lst (pa_cons (pe_call G_is_machine (hr.mono (by decide)) rfl E.g_is_machine E.F_is_machine.kp E.b_is_machine .nil pass0 (pa_cons (pv 0) pa_nil)) (pa_cons (pe_call G_is_whole (hr.mono (by decide)) rfl E.g_is_whole E.F_is_whole.kp E.b_is_whole .nil pass0 (pa_cons (pv 1) (pa_cons pe_int (pa_cons (pe_glob rfl E.c_MOST_TOLD.choose_spec ⟨_, rfl⟩) pa_nil)))) pa_nil))) pa_nil))) (pss_cons (ps_asg (pv 0) (pg_seq (n := 3) rfl (pgs_cons (pg_name (i := 2) sc_first_words.nd rfl (by first | exact Or.inl rfl | exact Or.inr rfl)) (pgs_cons (pg_name (i := 3) sc_first_words.nd rfl (by first | exact Or.inl rfl | exact Or.inr rfl)) (pgs_cons (pg_name (i := 4) sc_first_words.nd rfl (by first | exact Or.inl rfl | exact Or.inr rfl)) pgs_nil))))) (pss_cons (ps_set (i := 5) sc_first_words.nd rfl (by first | exact Or.inl rfl | exact Or.inr rfl) (pe_lst pa_nil)) (pss_cons (ps_set (i := 6) sc_first_words.nd rfl (by first | exact Or.inl rfl | exact Or.inr rfl) (pe_lst (pa_cons (pe_callTy call_lstOf (by rfl) E.z_list (by decide +kernel) (pa_cons (pv 3) pa_nil)) pa_nil))) (pss_cons (ps_while PassesOwn.never (PW.pt (pw_and (pt_cmpR (op_leD hr.units) (pe_callB call_lenU (by rfl) E.z_len (by decide +kernel) (pa_cons (pv 6) pa_nil)) (pe_op op_mulI (pv 2) (pv 1)) (nomark _)) (pw_and1 (pt_cmpR (op_ltD hr.units) (pe_callB call_lenU (by rfl) E.z_len (by decide +kernel) (pa_cons (pv 5) pa_nil)) (pv 1) (nomark _))))) (pss_cons (ps_expr (pe_bm PySem.F.plainAttrs_list PySem.F.slot_list_extend PySem.F.type_list_extend mt_extend (pv 5) (pa_cons (pe_call G_longest_words (hr.mono (by decide)) rfl E.g_longest_words E.F_longest_words.kp E.b_longest_words .nil pass0 (pa_cons (pv 4) (pa_cons (pv 6) (pa_cons (pe_op op_sub (pv 1) (pe_callB call_lenU (by rfl) E.z_len (by decide +kernel) (pa_cons (pv 5) pa_nil))) pa_nil)))) pa_nil))) (pss_one (ps_expr (pe_bm PySem.F.plainAttrs_list PySem.F.slot_list_append PySem.F.type_list_append mt_append (pv 6) (pa_cons (pe_lc (own := [("state", 7), ("letter", 8), ("behind", 9)]) (g := (gSeq K 3 (gCons (gName 7) (gCons (gName 8) (gCons (gName 9) gNil))))) (tt := (tTest (tOp (rInU K) (tVar 9) (tIxU K (tVar 6) (tUn rNegI (tC (.int 1))))))) rfl sc_first_words.nd (pi_seq (pv 4)) (blkOk_by (own := [("state", 7), ("letter", 8), ("behind", 9)]) (N := names_first_words) (sc := defScope st_first_words) (by decide +kernel)) (fun _ _ _ _ _ => (pg_seq (n := 3) rfl (pgs_cons (pg_name (i := 7) sc_first_words.nd rfl (by first | exact Or.inl rfl | exact Or.inr rfl)) (pgs_cons (pg_name (i := 8) sc_first_words.nd rfl (by first | exact Or.inl rfl | exact Or.inr rfl)) (pgs_cons (pg_name (i := 9) sc_first_words.nd rfl (by first | exact Or.inl rfl | exact Or.inr rfl)) pgs_nil))))) (fun _ _ _ _ _ => (pts_one (pt_cmpR (op_inU (hu_of hr)) (pv 9) (pe_ixU (hu_of hr) (pv 6) (pe_un un_negI pe_int) (fun _ _ => rfl) (fun _ _ => rfl)) (by rfl)))) (fun _ _ _ _ _ => (pv 7))) pa_nil)))))) (pss_one (ps_ret (pe_callTy call_tupOf (by rfl) E.z_tuple (by decide +kernel) (pa_cons (pv 5) pa_nil)))))))))
set_option maxHeartbeats 4000000 in
theorem ok_longest_words (E : Env K mg)  : FnOk P w K mg base CX0 1 (He.ga K "longest_words") E.d_longest_words ["moves", "ending", "many"] (sp_longest_words K) := by
  refine E.F_longest_words.ok sc_longest_words (fun vs H Q E' h => len_longest_words h) (fun cdv A outer s H vs Q E' hr h => ⟨(t_longest_words K), PSs.nox ?_, pure_longest_words vs H Q E' h⟩)
  exact (pss_cons (ps_set (i := 3) sc_longest_words.nd rfl (by first | exact Or.inl rfl | exact Or.inr rfl) (pe_ifExp (pt_cmpR (op_inU (hu_of hr)) pe_int (pe_ixU (hu_of hr) (pv 1) (pe_un un_negI pe_int) (fun _ _ => rfl) (fun _ _ => rfl)) (by rfl)) (pe_lst (pa_cons (pe_tup (pa_cons pe_str (pa_cons pe_int pa_nil))) pa_nil)) (pe_lst pa_nil))) (pss_cons (ps_for PassesOwn.never rfl (RT.pi_revA (by rfl) E.z_reversed (pe_slice sl_U (pv 1) po_none (po_some (pe_un un_negI pe_int)))) (pg_name (i := 4) sc_longest_words.nd rfl (by first | exact Or.inl rfl | exact Or.inr rfl)) (pss_cons (ps_setLc2 (i := 3) (own := [("word", 5), ("at", 6), ("state", 7), ("letter", 8), ("behind", 9)]) (vs1 := [7, 8, 9]) rfl sc_longest_words.nd rfl rfl (sw_true rfl rfl rfl (by decide +kernel)) (pi_seq (pv 3)) (blkOk_by (own := [("word", 5), ("at", 6), ("state", 7), ("letter", 8), ("behind", 9)]) (N := names_longest_words) (sc := defScope st_longest_words) (by decide +kernel)) (by decide) (fun _ _ _ _ _ => (pg_seq (n := 2) rfl (pgs_cons (pg_name (i := 5) sc_longest_words.nd rfl (by first | exact Or.inl rfl | exact Or.inr rfl)) (pgs_cons (pg_name (i := 6) sc_longest_words.nd rfl (by first | exact Or.inl rfl | exact Or.inr rfl)) pgs_nil)))) (fun _ _ _ _ _ => pts_nil) (fun _ _ _ _ _ => (pi_seq (pv 0))) (fun _ _ _ _ _ => (pg_seq (n := 3) rfl (pgs_cons (pg_name (i := 7) sc_longest_words.nd rfl (by first | exact Or.inl rfl | exact Or.inr rfl)) (pgs_cons (pg_name (i := 8) sc_longest_words.nd rfl (by first | exact Or.inl rfl | exact Or.inr rfl)) (pgs_cons (pg_name (i := 9) sc_longest_words.nd rfl (by first | exact Or.inl rfl | exact Or.inr rfl)) pgs_nil))))) (fun _ _ _ _ _ => (pts_one (PW.pt (pw_and (pt_cmpR (op_eqU hr.units) (pv 7) (pv 6) (nomark _)) (pw_and1 (pt_cmpR (op_inU (hu_of hr)) (pv 9) (pv 4) (by rfl))))))) (fun _ _ _ _ _ => (pe_tup (pa_cons (pe_op op_addU (pv 5) (pv 8)) (pa_cons (pv 9) pa_nil))))) (pss_one (ps_set (i := 3) sc_longest_words.nd rfl (by first | exact Or.inl rfl | exact Or.inr rfl) (pe_slice sl_U (pv 3) po_none (po_some (pv 2))))))) (pss_one (ps_ret (pe_lc (own := [("word", 5), ("at", 6)]) (g := (gSeq K 2 (gCons (gName 5) (gCons (gName 6) gNil)))) (tt := tYes) rfl sc_longest_words.nd (pi_seq (pv 3)) (blkOk_by (own := [("word", 5), ("at", 6)]) (N := names_longest_words) (sc := defScope st_longest_words) (by decide +kernel)) (fun _ _ _ _ _ => (pg_seq (n := 2) rfl (pgs_cons (pg_name (i := 5) sc_longest_words.nd rfl (by first | exact Or.inl rfl | exact Or.inr rfl)) (pgs_cons (pg_name (i := 6) sc_longest_words.nd rfl (by first | exact Or.inl rfl | exact Or.inr rfl)) pgs_nil)))) (fun _ _ _ _ _ => pts_nil) (fun _ _ _ _ _ => (pv 5)))))))
set_option maxHeartbeats 4000000 in
theorem ok__law_so {n : Nat} (E : Env K mg) (G_self : FnOk P w K mg base CX0 (n + 1) (He.ga K "_law_so") E.d__law_so ["found", "wanted"] (sp__law_so K n)) : FnOk P w K mg base CX0 (n + 1 + 1) (He.ga K "_law_so") E.d__law_so ["found", "wanted"] (sp__law_so K (n + 1)) := by
  refine E.F__law_so.ok sc__law_so (fun vs H Q E' h => len__law_so h) (fun cdv A outer s H vs Q E' hr h => ⟨(t__law_so K n), PSs.nox ?_, pure__law_so vs H Q E' h⟩)
  exact (pss_cons (ps_if (pt_cmpR op_isN1 (pv 1) pe_non (nomark _)) (pss_one (ps_ret (pe_cmpR op_isN1 (pv 0) pe_non (nomark _)))) pss_nil) (pss_cons (ps_if (pt_val (pe_callB call_isiU (by rfl) E.z_isinstance (by decide +kernel) (pa_cons (pv 1) (pa_cons (pe_bltn (v := .ty "tuple") rfl E.z_tuple (by decide +kernel) rfl) pa_nil)))) (pss_cons (ps_if (PW.pt (pw_or (pt_not (pt_val (pe_callB call_isiU (by rfl) E.z_isinstance (by decide +kernel) (pa_cons (pv 0) (pa_cons (pe_bltn (v := .ty "tuple") rfl E.z_tuple (by decide +kernel) rfl) pa_nil))))) (pw_or1 (pt_cmpR (op_neU hr.units) (pe_callB call_lenU (by rfl) E.z_len (by decide +kernel) (pa_cons (pv 0) pa_nil)) (pe_callB call_lenU (by rfl) E.z_len (by decide +kernel) (pa_cons (pv 1) pa_nil)) (nomark _))))) (pss_one (ps_ret pe_bl)) pss_nil) (pss_cons (ps_for PassesOwn.never rfl (pi_range1 (by rfl) E.z_range (pa_cons (pe_callB call_lenU (by rfl) E.z_len (by decide +kernel) (pa_cons (pv 1) pa_nil)) pa_nil)) (pg_name (i := 2) sc__law_so.nd rfl (by first | exact Or.inl rfl | exact Or.inr rfl)) (pss_one (ps_if (pt_not (pt_val (pe_call G_self hr rfl E.g__law_so E.F__law_so.kp E.b__law_so .nil pass0 (pa_cons (pe_ixU (hu_of hr) (pv 0) (pv 2) (fun _ _ => rfl) (fun _ _ => rfl)) (pa_cons (pe_ixU (hu_of hr) (pv 1) (pv 2) (fun _ _ => rfl) (fun _ _ => rfl)) pa_nil))))) (pss_one (ps_ret pe_bl)) pss_nil))) (pss_one (ps_ret pe_bl)))) pss_nil) (pss_cons (ps_if (PW.pt (pw_or (pt_val (pe_callB call_isiU (by rfl) E.z_isinstance (by decide +kernel) (pa_cons (pv 1) (pa_cons (pe_bltn (v := .ty "bool") rfl E.z_bool (by decide +kernel) rfl) pa_nil)))) (pw_or1 (pt_val (pe_callB call_isiU (by rfl) E.z_isinstance (by decide +kernel) (pa_cons (pv 0) (pa_cons (pe_bltn (v := .ty "bool") rfl E.z_bool (by decide +kernel) rfl) pa_nil))))))) (pss_one (ps_ret (pe_and (pe_callB call_isiU (by rfl) E.z_isinstance (by decide +kernel) (pa_cons (pv 1) (pa_cons (pe_bltn (v := .ty "bool") rfl E.z_bool (by decide +kernel) rfl) pa_nil))) (pe_and (pe_callB call_isiU (by rfl) E.z_isinstance (by decide +kernel) (pa_cons (pv 0) (pa_cons (pe_bltn (v := .ty "bool") rfl E.z_bool (by decide +kernel) rfl) pa_nil))) (pe_one (pe_cmpR (op_eqU hr.units) (pv 0) (pv 1) (nomark _))))))) pss_nil) (pss_cons (ps_if (pt_val (pe_callB call_isiU (by rfl) E.z_isinstance (by decide +kernel) (pa_cons (pv 1) (pa_cons (pe_bltn (v := .ty "int") rfl E.z_int (by decide +kernel) rfl) pa_nil)))) (pss_one (ps_ret (pe_and (pe_callB call_isiU (by rfl) E.z_isinstance (by decide +kernel) (pa_cons (pv 0) (pa_cons (pe_bltn (v := .ty "int") rfl E.z_int (by decide +kernel) rfl) pa_nil))) (pe_one (pe_cmpR (op_eqU hr.units) (pv 0) (pv 1) (nomark _)))))) pss_nil) (pss_one (ps_ret (pe_and (pe_callB call_isiU (by rfl) E.z_isinstance (by decide +kernel) (pa_cons (pv 1) (pa_cons (pe_bltn (v := .ty "str") rfl E.z_str (by decide +kernel) rfl) pa_nil))) (pe_and (pe_callB call_isiU (by rfl) E.z_isinstance (by decide +kernel) (pa_cons (pv 0) (pa_cons (pe_bltn (v := .ty "str") rfl E.z_str (by decide +kernel) rfl) pa_nil))) (pe_one (pe_cmpR (op_eqU hr.units) (pv 0) (pv 1) (nomark _)))))))))))
set_option maxHeartbeats 4000000 in
theorem ok__law_numbers (E : Env K mg)  : FnOk P w K mg base CX0 1 (He.ga K "_law_numbers") E.d__law_numbers ["script"] (sp__law_numbers K) := by
  refine E.F__law_numbers.ok sc__law_numbers (fun vs H Q E' h => len__law_numbers h) (fun cdv A outer s H vs Q E' hr h => ⟨(t__law_numbers K), PSs.nox ?_, pure__law_numbers vs H Q E' h⟩)
  exact (pss_cons (ps_set (i := 1) sc__law_numbers.nd rfl (by first | exact Or.inl rfl | exact Or.inr rfl) (pe_lst pa_nil)) (pss_cons (ps_for PassesOwn.never rfl (pi_seq (pe_slice sl_U (pv 0) po_none (po_some pe_int))) (pg_name (i := 2) sc__law_numbers.nd rfl (by first | exact Or.inl rfl | exact Or.inr rfl)) (pss_one (ps_if (pt_cmpR (op_geD hr.units) (pv 2) (pe_op op_powI pe_int pe_int) (nomark _)) (pss_cons (ps_set (i := 3) sc__law_numbers.nd rfl (by first | exact Or.inl rfl | exact Or.inr rfl) (pv 2)) (pss_one (ps_for PassesOwn.never rfl (pi_range1 (by rfl) E.z_range (pa_cons pe_int pa_nil)) (pg_name (i := 4) sc__law_numbers.nd rfl (by first | exact Or.inl rfl | exact Or.inr rfl)) (pss_cons (ps_if (pt_cmpR (op_eqU hr.units) (pv 3) pe_int (nomark _)) (pss_one ps_break) pss_nil) (pss_cons (ps_expr (pe_bm PySem.F.plainAttrs_list PySem.F.slot_list_append PySem.F.type_list_append mt_append (pv 1) (pa_cons (pe_op op_modI (pe_callTy call_intOf (by rfl) E.z_int (by decide +kernel) (pa_cons (pv 3) pa_nil)) pe_int) pa_nil))) (pss_one (ps_set (i := 3) sc__law_numbers.nd rfl (by first | exact Or.inl rfl | exact Or.inr rfl) (pe_op op_fdivI (pv 3) pe_int)))))))) (pss_one (ps_for PassesOwn.never rfl (pi_range1 (by rfl) E.z_range (pa_cons pe_int pa_nil)) (pg_name (i := 4) sc__law_numbers.nd rfl (by first | exact Or.inl rfl | exact Or.inr rfl)) (pss_cons (ps_set (i := 5) sc__law_numbers.nd rfl (by first | exact Or.inl rfl | exact Or.inr rfl) (pe_op op_modI (pe_callTy call_intOf (by rfl) E.z_int (by decide +kernel) (pa_cons (pe_op op_addU (pe_op op_addU (pe_op op_mulI (pv 2) pe_int) (pe_op op_mulI (pv 4) pe_int)) pe_int) pa_nil)) pe_int)) (pss_one (ps_expr (pe_bm PySem.F.plainAttrs_list PySem.F.slot_list_append PySem.F.type_list_append mt_append (pv 1) (pa_cons (pe_op op_modI (pe_callTy call_intOf (by rfl) E.z_int (by decide +kernel) (pa_cons (pe_op op_addU (pe_op op_mulI (pv 5) pe_int) (pv 4)) pa_nil)) pe_int) pa_nil)))))))))) (pss_cons (ps_if (pt_cmpR (op_eqU hr.units) (pe_callB call_lenU (by rfl) E.z_len (by decide +kernel) (pa_cons (pv 1) pa_nil)) pe_int (nomark _)) (pss_one (ps_expr (pe_bm PySem.F.plainAttrs_list PySem.F.slot_list_append PySem.F.type_list_append mt_append (pv 1) (pa_cons pe_int pa_nil)))) pss_nil) (pss_one (ps_ret (pv 1))))))
set_option maxHeartbeats 4000000 in
theorem ok__law_draw (E : Env K mg)  : FnOk P w K mg base CX0 1 (He.ga K "_law_draw") E.d__law_draw ["row", "at", "limit"] (sp__law_draw K) := by
  refine E.F__law_draw.ok sc__law_draw (fun vs H Q E' h => len__law_draw h) (fun cdv A outer s H vs Q E' hr h => ⟨(t__law_draw K), PSs.nox ?_, pure__law_draw vs H Q E' h⟩)
  exact (pss_cons (ps_if (pt_cmpR (op_ltD hr.units) (pv 1) (pe_callB call_lenU (by rfl) E.z_len (by decide +kernel) (pa_cons (pv 0) pa_nil)) (nomark _)) (pss_one (ps_ret (pe_op op_modI (pe_callTy call_intOf (by rfl) E.z_int (by decide +kernel) (pa_cons (pe_ixU (hu_of hr) (pv 0) (pv 1) (fun _ _ => rfl) (fun _ _ => rfl)) pa_nil)) (pv 2)))) pss_nil) (pss_cons (ps_set (i := 3) sc__law_draw.nd rfl (by first | exact Or.inl rfl | exact Or.inr rfl) (pe_op op_modI (pe_callTy call_intOf (by rfl) E.z_int (by decide +kernel) (pa_cons (pe_op op_addU (pe_op op_addU (pe_op op_mulI (pe_ixU (hu_of hr) (pv 0) (pe_op op_modI (pe_callTy call_intOf (by rfl) E.z_int (by decide +kernel) (pa_cons (pv 1) pa_nil)) (pe_callB call_lenU (by rfl) E.z_len (by decide +kernel) (pa_cons (pv 0) pa_nil))) (fun _ _ => rfl) (fun _ _ => rfl)) pe_int) (pe_op op_mulI (pv 1) pe_int)) pe_int) pa_nil)) pe_int)) (pss_one (ps_ret (pe_op op_modI (pe_callTy call_intOf (by rfl) E.z_int (by decide +kernel) (pa_cons (pe_op op_modI (pe_callTy call_intOf (by rfl) E.z_int (by decide +kernel) (pa_cons (pe_op op_addU (pe_op op_mulI (pv 3) pe_int) (pv 1)) pa_nil)) pe_int) pa_nil)) (pv 2))))))
set_option maxHeartbeats 4000000 in
theorem ok__law_take (E : Env K mg) (G__law_draw : FnOk P w K mg base CX0 1 (He.ga K "_law_draw") E.d__law_draw ["row", "at", "limit"] (sp__law_draw K)) : FnOk P w K mg base CX0 2 (He.ga K "_law_take") E.d__law_take ["row", "spot", "limit"] (sp__law_take K) := by
  refine E.F__law_take.ok sc__law_take (fun vs H Q E' h => len__law_take h) (fun cdv A outer s H vs Q E' hr h => ⟨(t__law_take K), PSs.nox ?_, pure__law_take vs H Q E' h⟩)
  exact (pss_cons (ps_asg (pe_op op_addU (pe_ixU (hu_of hr) (pv 1) pe_int (fun _ _ => rfl) (fun _ _ => rfl)) pe_int) (pg_sub (pv 1) pe_int (set_U (hu_of hr)))) (pss_one (ps_ret (pe_call G__law_draw (hr.mono (by decide)) rfl E.g__law_draw E.F__law_draw.kp E.b__law_draw .nil pass0 (pa_cons (pv 0) (pa_cons (pe_op op_sub (pe_ixU (hu_of hr) (pv 1) pe_int (fun _ _ => rfl) (fun _ _ => rfl)) pe_int) (pa_cons (pv 2) pa_nil)))))))
set_option maxHeartbeats 4000000 in
theorem ok__law_whole (E : Env K mg)  : FnOk P w K mg base CX0 1 (He.ga K "_law_whole") E.d__law_whole ["value"] (sp__law_whole K) := by
  refine E.F__law_whole.ok sc__law_whole (fun vs H Q E' h => len__law_whole h) (fun cdv A outer s H vs Q E' hr h => ⟨(t__law_whole K), PSs.nox ?_, pure__law_whole vs H Q E' h⟩)
  exact (pss_one (ps_ret (pe_and (pe_callB call_isiU (by rfl) E.z_isinstance (by decide +kernel) (pa_cons (pv 0) (pa_cons (pe_bltn (v := .ty "int") rfl E.z_int (by decide +kernel) rfl) pa_nil))) (pe_one (pe_not (pe_callB call_isiU (by rfl) E.z_isinstance (by decide +kernel) (pa_cons (pv 0) (pa_cons (pe_bltn (v := .ty "bool") rfl E.z_bool (by decide +kernel) rfl) pa_nil))))))))
set_option maxHeartbeats 4000000 in
theorem ok__law_listed {n : Nat} (E : Env K mg) (G_self : FnOk P w K mg base CX0 (n + 1) (He.ga K "_law_listed") E.d__law_listed ["value"] (sp__law_listed K n)) : FnOk P w K mg base CX0 (n + 1 + 1) (He.ga K "_law_listed") E.d__law_listed ["value"] (sp__law_listed K (n + 1)) := by
  refine E.F__law_listed.ok sc__law_listed (fun vs H Q E' h => len__law_listed h) (fun cdv A outer s H vs Q E' hr h => ⟨(t__law_listed K n), PSs.nox ?_, pure__law_listed vs H Q E' h⟩)
  exact (pss_cons (ps_if (pt_val (pe_callB call_isiU (by rfl) E.z_isinstance (by decide +kernel) (pa_cons (pv 0) (pa_cons (pe_bltn (v := .ty "tuple") rfl E.z_tuple (by decide +kernel) rfl) pa_nil)))) (pss_one (ps_ret (pe_lc (own := [("one", 1)]) (g := (gName 1)) (tt := tYes) rfl sc__law_listed.nd (pi_seq (pv 0)) (blkOk_by (own := [("one", 1)]) (N := names__law_listed) (sc := defScope st__law_listed) (by decide +kernel)) (fun _ _ _ _ _ => (pg_name (i := 1) sc__law_listed.nd rfl (by first | exact Or.inl rfl | exact Or.inr rfl))) (fun _ _ _ _ _ => pts_nil) (fun _ _ _ _ _ => (pe_call G_self hr rfl E.g__law_listed E.F__law_listed.kp E.b__law_listed .nil pass0 (pa_cons (pv 1) pa_nil)))))) pss_nil) (pss_one (ps_ret (pv 0))))
set_option maxHeartbeats 4000000 in
theorem ok__law_tupled {n : Nat} (E : Env K mg) (G_self : FnOk P w K mg base CX0 (n + 1) (He.ga K "_law_tupled") E.d__law_tupled ["value"] (sp__law_tupled K n)) : FnOk P w K mg base CX0 (n + 1 + 1) (He.ga K "_law_tupled") E.d__law_tupled ["value"] (sp__law_tupled K (n + 1)) := by
  refine E.F__law_tupled.ok sc__law_tupled (fun vs H Q E' h => len__law_tupled h) (fun cdv A outer s H vs Q E' hr h => ⟨(t__law_tupled K n), PSs.nox ?_, pure__law_tupled vs H Q E' h⟩)
  exact (pss_cons (ps_if (PW.pt (pw_or (pt_val (pe_callB call_isiU (by rfl) E.z_isinstance (by decide +kernel) (pa_cons (pv 0) (pa_cons (pe_bltn (v := .ty "list") rfl E.z_list (by decide +kernel) rfl) pa_nil)))) (pw_or1 (pt_val (pe_callB call_isiU (by rfl) E.z_isinstance (by decide +kernel) (pa_cons (pv 0) (pa_cons (pe_bltn (v := .ty "tuple") rfl E.z_tuple (by decide +kernel) rfl) pa_nil))))))) (pss_one (ps_ret (pe_callTy call_tupOf (by rfl) E.z_tuple (by decide +kernel) (pa_cons (pe_lc (own := [("one", 1)]) (g := (gName 1)) (tt := tYes) rfl sc__law_tupled.nd (pi_seq (pv 0)) (blkOk_by (own := [("one", 1)]) (N := names__law_tupled) (sc := defScope st__law_tupled) (by decide +kernel)) (fun _ _ _ _ _ => (pg_name (i := 1) sc__law_tupled.nd rfl (by first | exact Or.inl rfl | exact Or.inr rfl))) (fun _ _ _ _ _ => pts_nil) (fun _ _ _ _ _ => (pe_call G_self hr rfl E.g__law_tupled E.F__law_tupled.kp E.b__law_tupled .nil pass0 (pa_cons (pv 1) pa_nil)))) pa_nil)))) pss_nil) (pss_one (ps_ret (pv 0))))
set_option maxHeartbeats 4000000 in
theorem ok__law_handed (E : Env K mg) (G__law_take : FnOk P w K mg base CX0 2 (He.ga K "_law_take") E.d__law_take ["row", "spot", "limit"] (sp__law_take K)) (G__law_listed : FnOk P w K mg base CX0 9 (He.ga K "_law_listed") E.d__law_listed ["value"] (sp__law_listed K 8)) (G__law_levels : FnOk P w K mg base CX0 12 (He.ga K "_law_levels") E.d__law_levels ["row", "spot", "value"] (sp__law_levels K 9)) : FnOk P w K mg base CX0 13 (He.ga K "_law_handed") E.d__law_handed ["row", "spot", "value"] (sp__law_handed K) := by
  refine E.F__law_handed.ok sc__law_handed (fun vs H Q E' h => len__law_handed h) (fun cdv A outer s H vs Q E' hr h => ⟨(t__law_handed K), PSs.nox ?_, pure__law_handed vs H Q E' h⟩)
  exact (pss_cons (ps_set (i := 3) sc__law_handed.nd rfl (by first | exact Or.inl rfl | exact Or.inr rfl) (pe_call G__law_take (hr.mono (by decide)) rfl E.g__law_take E.F__law_take.kp E.b__law_take .nil pass0 (pa_cons (pv 0) (pa_cons (pv 1) (pa_cons pe_int pa_nil))))) (pss_cons (ps_if (pt_cmpR (op_eqU hr.units) (pv 3) pe_int (nomark _)) (pss_one (ps_ret (pe_call G__law_listed (hr.mono (by decide)) rfl E.g__law_listed E.F__law_listed.kp E.b__law_listed .nil pass0 (pa_cons (pv 2) pa_nil)))) pss_nil) (pss_one (ps_ret (pe_ifExp (pt_cmpR (op_eqU hr.units) (pv 3) pe_int (nomark _)) (pe_call G__law_levels (hr.mono (by decide)) rfl E.g__law_levels E.F__law_levels.kp E.b__law_levels .nil pass0 (pa_cons (pv 0) (pa_cons (pv 1) (pa_cons (pv 2) pa_nil)))) (pv 2))))))
set_option maxHeartbeats 4000000 in
theorem ok__law_levels {n : Nat} (E : Env K mg) (G__law_take : FnOk P w K mg base CX0 2 (He.ga K "_law_take") E.d__law_take ["row", "spot", "limit"] (sp__law_take K)) (G_self : FnOk P w K mg base CX0 (n + 3) (He.ga K "_law_levels") E.d__law_levels ["row", "spot", "value"] (sp__law_levels K n)) : FnOk P w K mg base CX0 (n + 3 + 1) (He.ga K "_law_levels") E.d__law_levels ["row", "spot", "value"] (sp__law_levels K (n + 1)) := by
  refine E.F__law_levels.ok sc__law_levels (fun vs H Q E' h => len__law_levels h) (fun cdv A outer s H vs Q E' hr h => ⟨(t__law_levels K n), PSs.nox ?_, pure__law_levels vs H Q E' h⟩)
  exact (pss_cons (ps_if (pt_not (pt_val (pe_callB call_isiU (by rfl) E.z_isinstance (by decide +kernel) (pa_cons (pv 2) (pa_cons (pe_bltn (v := .ty "tuple") rfl E.z_tuple (by decide +kernel) rfl) pa_nil))))) (pss_one (ps_ret (pv 2))) pss_nil) (pss_cons (ps_setLc (i := 3) (own := [("one", 4)]) (g := (gName 4)) (tt := tYes) rfl sc__law_levels.nd rfl rfl (sw_true rfl rfl rfl (by decide +kernel)) (pi_seq (pv 2)) (blkOk_by (own := [("one", 4)]) (N := names__law_levels) (sc := defScope st__law_levels) (by decide +kernel)) (fun _ _ _ _ _ => (pg_name (i := 4) sc__law_levels.nd rfl (by first | exact Or.inl rfl | exact Or.inr rfl))) (fun _ _ _ _ _ => pts_nil) (fun _ _ _ _ _ => (pe_call G_self hr rfl E.g__law_levels E.F__law_levels.kp E.b__law_levels .nil pass0 (pa_cons (pv 0) (pa_cons (pv 1) (pa_cons (pv 4) pa_nil)))))) (pss_one (ps_ret (pe_ifExp (pt_cmpR (op_eqU hr.units) (pe_call G__law_take (hr.mono (by omega)) rfl E.g__law_take E.F__law_take.kp E.b__law_take .nil pass0 (pa_cons (pv 0) (pa_cons (pv 1) (pa_cons pe_int pa_nil)))) pe_int (nomark _)) (pv 3) (pe_callTy call_tupOf (by rfl) E.z_tuple (by decide +kernel) (pa_cons (pv 3) pa_nil)))))))
set_option maxHeartbeats 4000000 in
theorem ok__law_is_string (E : Env K mg)  : FnOk P w K mg base CX0 1 (He.ga K "_law_is_string") E.d__law_is_string ["value", "most"] (sp__law_is_string K) := by
  refine E.F__law_is_string.ok sc__law_is_string (fun vs H Q E' h => len__law_is_string h) (fun cdv A outer s H vs Q E' hr h => ⟨(t__law_is_string K), PSs.nox ?_, pure__law_is_string vs H Q E' h⟩)
  exact (pss_cons (ps_if (PW.pt (pw_or (pt_not (pt_val (pe_callB call_isiU (by rfl) E.z_isinstance (by decide +kernel) (pa_cons (pv 0) (pa_cons (pe_bltn (v := .ty "str") rfl E.z_str (by decide +kernel) rfl) pa_nil))))) (pw_or1 (pt_cmpR (op_gtD hr.units) (pe_callB call_lenU (by rfl) E.z_len (by decide +kernel) (pa_cons (pv 0) pa_nil)) (pv 1) (nomark _))))) (pss_one (ps_ret pe_bl)) pss_nil) (pss_one (ps_ret (pe_cmpR (op_eqU hr.units) (pe_callB call_lenU (by rfl) E.z_len (by decide +kernel) (pa_cons (pe_lc (own := [("one", 2)]) (g := (gName 2)) (tt := (tTest (tOp (rNotInU K) (tVar 2) (tC (.str "abcdef"))))) rfl sc__law_is_string.nd (pi_seq (pv 0)) (blkOk_by (own := [("one", 2)]) (N := names__law_is_string) (sc := defScope st__law_is_string) (by decide +kernel)) (fun _ _ _ _ _ => (pg_name (i := 2) sc__law_is_string.nd rfl (by first | exact Or.inl rfl | exact Or.inr rfl))) (fun _ _ _ _ _ => (pts_one (pt_cmpR (op_notInU (hu_of hr)) (pv 2) pe_str (by rfl)))) (fun _ _ _ _ _ => (pv 2))) pa_nil)) pe_int (nomark _)))))
set_option maxHeartbeats 4000000 in
theorem ok__law_is_machine (E : Env K mg) (G__law_whole : FnOk P w K mg base CX0 1 (He.ga K "_law_whole") E.d__law_whole ["value"] (sp__law_whole K)) (G__law_is_string : FnOk P w K mg base CX0 1 (He.ga K "_law_is_string") E.d__law_is_string ["value", "most"] (sp__law_is_string K)) : FnOk P w K mg base CX0 2 (He.ga K "_law_is_machine") E.d__law_is_machine ["value"] (sp__law_is_machine K) := by
  refine E.F__law_is_machine.ok sc__law_is_machine (fun vs H Q E' h => len__law_is_machine h) (fun cdv A outer s H vs Q E' hr h => ⟨(t__law_is_machine K), PSs.nox ?_, pure__law_is_machine vs H Q E' h⟩)
  exact (pss_cons (ps_if (PW.pt (pw_or (pt_not (pt_val (pe_callB call_isiU (by rfl) E.z_isinstance (by decide +kernel) (pa_cons (pv 0) (pa_cons (pe_bltn (v := .ty "tuple") rfl E.z_tuple (by decide +kernel) rfl) pa_nil))))) (pw_or (pt_cmpR (op_neU hr.units) (pe_callB call_lenU (by rfl) E.z_len (by decide +kernel) (pa_cons (pv 0) pa_nil)) pe_int (nomark _)) (pw_or (pt_not (pt_val (pe_call G__law_whole (hr.mono (by decide)) rfl E.g__law_whole E.F__law_whole.kp E.b__law_whole .nil pass0 (pa_cons (pe_ixU (hu_of hr) (pv 0) pe_int (fun _ _ => rfl) (fun _ _ => rfl)) pa_nil)))) (pw_or1 (pt_not (pt_chain (op_leD hr.units) (op_leD hr.units) pe_int (pe_ixU (hu_of hr) (pv 0) pe_int (fun _ _ => rfl) (fun _ _ => rfl)) pe_int))))))) (pss_one (ps_ret pe_bl)) pss_nil) (pss_cons (ps_if (PW.pt (pw_or (pt_not (pt_val (pe_callB call_isiU (by rfl) E.z_isinstance (by decide +kernel) (pa_cons (pe_ixU (hu_of hr) (pv 0) pe_int (fun _ _ => rfl) (fun _ _ => rfl)) (pa_cons (pe_bltn (v := .ty "tuple") rfl E.z_tuple (by decide +kernel) rfl) pa_nil))))) (pw_or1 (pt_not (pt_val (pe_callB call_isiU (by rfl) E.z_isinstance (by decide +kernel) (pa_cons (pe_ixU (hu_of hr) (pv 0) pe_int (fun _ _ => rfl) (fun _ _ => rfl)) (pa_cons (pe_bltn (v := .ty "tuple") rfl E.z_tuple (by decide +kernel) rfl) pa_nil)))))))) (pss_one (ps_ret pe_bl)) pss_nil) (pss_cons (ps_set (i := 1) sc__law_is_machine.nd rfl (by first | exact Or.inl rfl | exact Or.inr rfl) (pe_un un_negI pe_int)) (pss_cons (ps_for PassesOwn.never rfl (pi_seq (pe_ixU (hu_of hr) (pv 0) pe_int (fun _ _ => rfl) (fun _ _ => rfl))) (pg_name (i := 2) sc__law_is_machine.nd rfl (by first | exact Or.inl rfl | exact Or.inr rfl)) (pss_cons (ps_if (PW.pt (pw_or (pt_not (pt_val (pe_call G__law_whole (hr.mono (by decide)) rfl E.g__law_whole E.F__law_whole.kp E.b__law_whole .nil pass0 (pa_cons (pv 2) pa_nil)))) (pw_or1 (pt_not (pt_chain (op_ltD hr.units) (op_ltD hr.units) (pv 1) (pv 2) (pe_ixU (hu_of hr) (pv 0) pe_int (fun _ _ => rfl) (fun _ _ => rfl))))))) (pss_one (ps_ret pe_bl)) pss_nil) (pss_one (ps_set (i := 1) sc__law_is_machine.nd rfl (by first | exact Or.inl rfl | exact Or.inr rfl) (pv 2))))) (pss_cons (ps_set (i := 3) sc__law_is_machine.nd rfl (by first | exact Or.inl rfl | exact Or.inr rfl) (pe_tup (pa_cons (pe_un un_negI pe_int) (pa_cons pe_str pa_nil)))) (pss_cons (ps_for PassesOwn.never rfl (pi_seq (pe_ixU (hu_of hr) (pv 0) pe_int (fun _ _ => rfl) (fun _ _ => rfl))) (pg_name (i := 2) sc__law_is_machine.nd rfl (by first | exact Or.inl rfl | exact Or.inr rfl)) (pss_cons (ps_if (PW.pt (pw_or (pt_not (pt_val (pe_callB call_isiU (by rfl) E.z_isinstance (by decide +kernel) (pa_cons (pv 2) (pa_cons (pe_bltn (v := .ty "tuple") rfl E.z_tuple (by decide +kernel) rfl) pa_nil))))) (pw_or (pt_cmpR (op_neU hr.units) (pe_callB call_lenU (by rfl) E.z_len (by decide +kernel) (pa_cons (pv 2) pa_nil)) pe_int (nomark _)) (pw_or (pt_not (pt_val (pe_call G__law_whole (hr.mono (by decide)) rfl E.g__law_whole E.F__law_whole.kp E.b__law_whole .nil pass0 (pa_cons (pe_ixU (hu_of hr) (pv 2) pe_int (fun _ _ => rfl) (fun _ _ => rfl)) pa_nil)))) (pw_or1 (pt_not (pt_val (pe_call G__law_whole (hr.mono (by decide)) rfl E.g__law_whole E.F__law_whole.kp E.b__law_whole .nil pass0 (pa_cons (pe_ixU (hu_of hr) (pv 2) pe_int (fun _ _ => rfl) (fun _ _ => rfl)) pa_nil))))))))) (pss_one (ps_ret pe_bl)) pss_nil) (pss_cons (ps_if (PW.pt (pw_or (pt_not (pt_val (pe_call G__law_is_string (hr.mono (by decide)) rfl E.g__law_is_string E.F__law_is_string.kp E.b__law_is_string .nil pass0 (pa_cons (pe_ixU (hu_of hr) (pv 2) pe_int (fun _ _ => rfl) (fun _ _ => rfl)) (pa_cons pe_int pa_nil))))) (pw_or (pt_cmpR (op_neU hr.units) (pe_callB call_lenU (by rfl) E.z_len (by decide +kernel) (pa_cons (pe_ixU (hu_of hr) (pv 2) pe_int (fun _ _ => rfl) (fun _ _ => rfl)) pa_nil)) pe_int (nomark _)) (pw_or (pt_not (pt_chain (op_leD hr.units) (op_ltD hr.units) pe_int (pe_ixU (hu_of hr) (pv 2) pe_int (fun _ _ => rfl) (fun _ _ => rfl)) (pe_ixU (hu_of hr) (pv 0) pe_int (fun _ _ => rfl) (fun _ _ => rfl)))) (pw_or1 (pt_not (pt_chain (op_leD hr.units) (op_ltD hr.units) pe_int (pe_ixU (hu_of hr) (pv 2) pe_int (fun _ _ => rfl) (fun _ _ => rfl)) (pe_ixU (hu_of hr) (pv 0) pe_int (fun _ _ => rfl) (fun _ _ => rfl))))))))) (pss_one (ps_ret pe_bl)) pss_nil) (pss_cons (ps_if (pt_not (pt_cmpR (op_ltD hr.units) (pv 3) (pe_tup (pa_cons (pe_ixU (hu_of hr) (pv 2) pe_int (fun _ _ => rfl) (fun _ _ => rfl)) (pa_cons (pe_ixU (hu_of hr) (pv 2) pe_int (fun _ _ => rfl) (fun _ _ => rfl)) pa_nil))) (nomark _))) (pss_one (ps_ret pe_bl)) pss_nil) (pss_one (ps_set (i := 3) sc__law_is_machine.nd rfl (by first | exact Or.inl rfl | exact Or.inr rfl) (pe_tup (pa_cons (pe_ixU (hu_of hr) (pv 2) pe_int (fun _ _ => rfl) (fun _ _ => rfl)) (pa_cons (pe_ixU (hu_of hr) (pv 2) pe_int (fun _ _ => rfl) (fun _ _ => rfl)) pa_nil))))))))) (pss_one (ps_ret pe_bl))))))))
set_option maxHeartbeats 4000000 in
theorem ok__law_moves (E : Env K mg)  : FnOk P w K mg base CX0 1 (He.ga K "_law_moves") E.d__law_moves ["machine"] (sp__law_moves K) := by
  refine E.F__law_moves.ok sc__law_moves (fun vs H Q E' h => len__law_moves h) (fun cdv A outer s H vs Q E' hr h => ⟨(t__law_moves K), PSs.nox ?_, pure__law_moves vs H Q E' h⟩)
  exact (pss_cons (ps_set (i := 1) sc__law_moves.nd rfl (by first | exact Or.inl rfl | exact Or.inr rfl) pe_dnewT) (pss_cons (ps_for PassesOwn.never rfl (pi_seq (pe_ixU (hu_of hr) (pv 0) pe_int (fun _ _ => rfl) (fun _ _ => rfl))) (pg_name (i := 2) sc__law_moves.nd rfl (by first | exact Or.inl rfl | exact Or.inr rfl)) (pss_one (ps_asg (pe_ixU (hu_of hr) (pv 2) pe_int (fun _ _ => rfl) (fun _ _ => rfl)) (pg_sub (pv 1) (pe_slice sl_U (pv 2) po_none (po_some pe_int)) (set_U (hu_of hr)))))) (pss_one (ps_ret (pv 1)))))
set_option maxHeartbeats 4000000 in
theorem ok__law_tells (E : Env K mg) (G__law_moves : FnOk P w K mg base CX0 1 (He.ga K "_law_moves") E.d__law_moves ["machine"] (sp__law_moves K)) : FnOk P w K mg base CX0 2 (He.ga K "_law_tells") E.d__law_tells ["machine", "word"] (sp__law_tells K) := by
  refine E.F__law_tells.ok sc__law_tells (fun vs H Q E' h => len__law_tells h) (fun cdv A outer s H vs Q E' hr h => ⟨(t__law_tells K), PSs.nox ?_, pure__law_tells vs H Q E' h⟩)
  exact (pss_cons (ps_set (i := 2) sc__law_tells.nd rfl (by first | exact Or.inl rfl | exact Or.inr rfl) (pe_call G__law_moves (hr.mono (by decide)) rfl E.g__law_moves E.F__law_moves.kp E.b__law_moves .nil pass0 (pa_cons (pv 0) pa_nil))) (pss_cons (ps_set (i := 3) sc__law_tells.nd rfl (by first | exact Or.inl rfl | exact Or.inr rfl) pe_int) (pss_cons (ps_for PassesOwn.never rfl (pi_seq (pv 1)) (pg_name (i := 4) sc__law_tells.nd rfl (by first | exact Or.inl rfl | exact Or.inr rfl)) (pss_cons (ps_if (pt_cmpR (op_notInU (hu_of hr)) (pe_tup (pa_cons (pv 3) (pa_cons (pv 4) pa_nil))) (pv 2) (by rfl)) (pss_one (ps_ret pe_bl)) pss_nil) (pss_one (ps_set (i := 3) sc__law_tells.nd rfl (by first | exact Or.inl rfl | exact Or.inr rfl) (pe_ixU (hu_of hr) (pv 2) (pe_tup (pa_cons (pv 3) (pa_cons (pv 4) pa_nil))) (fun _ _ => rfl) (fun _ _ => rfl)))))) (pss_one (ps_ret (pe_cmpR (op_inU (hu_of hr)) (pv 3) (pe_ixU (hu_of hr) (pv 0) pe_int (fun _ _ => rfl) (fun _ _ => rfl)) (by rfl)))))))
set_option maxHeartbeats 4000000 in
theorem ok__law_letters (E : Env K mg) (G__law_take : FnOk P w K mg base CX0 2 (He.ga K "_law_take") E.d__law_take ["row", "spot", "limit"] (sp__law_take K)) : FnOk P w K mg base CX0 3 (He.ga K "_law_letters") E.d__law_letters ["row", "spot", "most", "few"] (sp__law_letters K) := by
  refine E.F__law_letters.ok sc__law_letters (fun vs H Q E' h => len__law_letters h) (fun cdv A outer s H vs Q E' hr h => ⟨(t__law_letters K), PSs.nox ?_, pure__law_letters vs H Q E' h⟩)
  exact (pss_cons (ps_set (i := 4) sc__law_letters.nd rfl (by first | exact Or.inl rfl | exact Or.inr rfl) pe_str) (pss_cons (ps_for PassesOwn.never rfl (pi_range1 (by rfl) E.z_range (pa_cons (pe_call G__law_take (hr.mono (by decide)) rfl E.g__law_take E.F__law_take.kp E.b__law_take .nil pass0 (pa_cons (pv 0) (pa_cons (pv 1) (pa_cons (pe_op op_addU (pv 2) pe_int) pa_nil)))) pa_nil)) (pg_name (i := 5) sc__law_letters.nd rfl (by first | exact Or.inl rfl | exact Or.inr rfl)) (pss_one (ps_set (i := 4) sc__law_letters.nd rfl (by first | exact Or.inl rfl | exact Or.inr rfl) (pe_op op_addU (pv 4) (pe_ixU (hu_of hr) (pv 3) (pe_call G__law_take (hr.mono (by decide)) rfl E.g__law_take E.F__law_take.kp E.b__law_take .nil pass0 (pa_cons (pv 0) (pa_cons (pv 1) (pa_cons (pe_callB call_lenU (by rfl) E.z_len (by decide +kernel) (pa_cons (pv 3) pa_nil)) pa_nil)))) (fun _ _ => rfl) (fun _ _ => rfl)))))) (pss_one (ps_ret (pv 4)))))
set_option maxHeartbeats 4000000 in
theorem ok__law_few (E : Env K mg) (G__law_take : FnOk P w K mg base CX0 2 (He.ga K "_law_take") E.d__law_take ["row", "spot", "limit"] (sp__law_take K)) : FnOk P w K mg base CX0 3 (He.ga K "_law_few") E.d__law_few ["row", "spot", "sizes"] (sp__law_few K) := by
  refine E.F__law_few.ok sc__law_few (fun vs H Q E' h => len__law_few h) (fun cdv A outer s H vs Q E' hr h => ⟨(t__law_few K), PSs.nox ?_, pure__law_few vs H Q E' h⟩)
  exact (pss_cons (ps_set (i := 3) sc__law_few.nd rfl (by first | exact Or.inl rfl | exact Or.inr rfl) (pe_ixU (hu_of hr) (pv 2) (pe_call G__law_take (hr.mono (by decide)) rfl E.g__law_take E.F__law_take.kp E.b__law_take .nil pass0 (pa_cons (pv 0) (pa_cons (pv 1) (pa_cons (pe_callB call_lenU (by rfl) E.z_len (by decide +kernel) (pa_cons (pv 2) pa_nil)) pa_nil)))) (fun _ _ => rfl) (fun _ _ => rfl))) (pss_cons (ps_set (i := 4) sc__law_few.nd rfl (by first | exact Or.inl rfl | exact Or.inr rfl) pe_str) (pss_cons (ps_for PassesOwn.never rfl (pi_range1 (by rfl) E.z_range (pa_cons pe_int pa_nil)) (pg_name (i := 5) sc__law_few.nd rfl (by first | exact Or.inl rfl | exact Or.inr rfl)) (pss_one (ps_if (PW.pt (pw_and (pt_cmpR (op_ltD hr.units) (pe_callB call_lenU (by rfl) E.z_len (by decide +kernel) (pa_cons (pv 4) pa_nil)) (pv 3) (nomark _)) (pw_and1 (pt_cmpR (op_ltD hr.units) (pe_call G__law_take (hr.mono (by decide)) rfl E.g__law_take E.F__law_take.kp E.b__law_take .nil pass0 (pa_cons (pv 0) (pa_cons (pv 1) (pa_cons (pe_op op_sub pe_int (pv 5)) pa_nil)))) (pe_op op_sub (pv 3) (pe_callB call_lenU (by rfl) E.z_len (by decide +kernel) (pa_cons (pv 4) pa_nil))) (nomark _))))) (pss_one (ps_set (i := 4) sc__law_few.nd rfl (by first | exact Or.inl rfl | exact Or.inr rfl) (pe_op op_addU (pv 4) (pe_ixU (hu_of hr) pe_str (pv 5) (fun _ _ => rfl) (fun _ _ => rfl))))) pss_nil))) (pss_one (ps_ret (pv 4))))))
set_option maxHeartbeats 4000000 in
theorem ok__law_machine (E : Env K mg) (G__law_take : FnOk P w K mg base CX0 2 (He.ga K "_law_take") E.d__law_take ["row", "spot", "limit"] (sp__law_take K)) : FnOk P w K mg base CX0 3 (He.ga K "_law_machine") E.d__law_machine ["row", "spot", "many", "few"] (sp__law_machine K) := by
  refine E.F__law_machine.ok sc__law_machine (fun vs H Q E' h => len__law_machine h) (fun cdv A outer s H vs Q E' hr h => ⟨(t__law_machine K), PSs.nox ?_, pure__law_machine vs H Q E' h⟩)
  exact (pss_cons (ps_set (i := 4) sc__law_machine.nd rfl (by first | exact Or.inl rfl | exact Or.inr rfl) (pe_op op_addU pe_int (pe_call G__law_take (hr.mono (by decide)) rfl E.g__law_take E.F__law_take.kp E.b__law_take .nil pass0 (pa_cons (pv 0) (pa_cons (pv 1) (pa_cons (pv 2) pa_nil)))))) (pss_cons (ps_set (i := 5) sc__law_machine.nd rfl (by first | exact Or.inl rfl | exact Or.inr rfl) (pe_callTy call_tupOf (by rfl) E.z_tuple (by decide +kernel) (pa_cons (pe_lc (own := [("k", 9)]) (g := (gName 9)) (tt := (tTest (tOp (rEqU K) (tCall (sp__law_take K) [] E0 (tCons (tVar 0) (tCons (tVar 1) (tCons (tC (.int 2)) tNil)))) (tC (.int 0))))) rfl sc__law_machine.nd (pi_range1 (by rfl) E.z_range (pa_cons (pv 4) pa_nil)) (blkOk_by (own := [("k", 9)]) (N := names__law_machine) (sc := defScope st__law_machine) (by decide +kernel)) (fun _ _ _ _ _ => (pg_name (i := 9) sc__law_machine.nd rfl (by first | exact Or.inl rfl | exact Or.inr rfl))) (fun _ _ _ _ _ => (pts_one (pt_cmpR (op_eqU hr.units) (pe_call G__law_take (hr.mono (by decide)) rfl E.g__law_take E.F__law_take.kp E.b__law_take .nil pass0 (pa_cons (pv 0) (pa_cons (pv 1) (pa_cons pe_int pa_nil)))) pe_int (nomark _)))) (fun _ _ _ _ _ => (pv 9))) pa_nil))) (pss_cons (ps_set (i := 6) sc__law_machine.nd rfl (by first | exact Or.inl rfl | exact Or.inr rfl) (pe_lst pa_nil)) (pss_cons (ps_for PassesOwn.never rfl (pi_range1 (by rfl) E.z_range (pa_cons (pv 4) pa_nil)) (pg_name (i := 7) sc__law_machine.nd rfl (by first | exact Or.inl rfl | exact Or.inr rfl)) (pss_one (ps_for PassesOwn.never rfl (pi_seq (pv 3)) (pg_name (i := 8) sc__law_machine.nd rfl (by first | exact Or.inl rfl | exact Or.inr rfl)) (pss_one (ps_if (pt_cmpR (op_eqU hr.units) (pe_call G__law_take (hr.mono (by decide)) rfl E.g__law_take E.F__law_take.kp E.b__law_take .nil pass0 (pa_cons (pv 0) (pa_cons (pv 1) (pa_cons pe_int pa_nil)))) pe_int (nomark _)) (pss_one (ps_expr (pe_bm PySem.F.plainAttrs_list PySem.F.slot_list_append PySem.F.type_list_append mt_append (pv 6) (pa_cons (pe_tup (pa_cons (pv 7) (pa_cons (pv 8) (pa_cons (pe_call G__law_take (hr.mono (by decide)) rfl E.g__law_take E.F__law_take.kp E.b__law_take .nil pass0 (pa_cons (pv 0) (pa_cons (pv 1) (pa_cons (pv 4) pa_nil)))) pa_nil)))) pa_nil)))) pss_nil))))) (pss_one (ps_ret (pe_tup (pa_cons (pv 4) (pa_cons (pv 5) (pa_cons (pe_callTy call_tupOf (by rfl) E.z_tuple (by decide +kernel) (pa_cons (pv 6) pa_nil)) pa_nil))))))))))
set_option maxHeartbeats 4000000 in
theorem ok__law_first_words (E : Env K mg) (G__law_moves : FnOk P w K mg base CX0 1 (He.ga K "_law_moves") E.d__law_moves ["machine"] (sp__law_moves K)) (G__law_words_of : FnOk P w K mg base CX0 1 (He.ga K "_law_words_of") E.d__law_words_of ["moves", "can", "size", "made", "limit"] (sp__law_words_of K)) : FnOk P w K mg base CX0 3 (He.ga K "_law_first_words") E.d__law_first_words ["machine", "limit"] (sp__law_first_words K) := by
  refine E.F__law_first_words.ok sc__law_first_words (fun vs H Q E' h => len__law_first_words h) (fun cdv A outer s H vs Q E' hr h => ⟨(t__law_first_words K), PSs.nox ?_, pure__law_first_words vs H Q E' h⟩)
  exact (pss_cons (ps_set (i := 2) sc__law_first_words.nd rfl (by first | exact Or.inl rfl | exact Or.inr rfl) (pe_call G__law_moves (hr.mono (by decide)) rfl E.g__law_moves E.F__law_moves.kp E.b__law_moves .nil pass0 (pa_cons (pv 0) pa_nil))) (pss_cons (ps_set (i := 3) sc__law_first_words.nd rfl (by first | exact Or.inl rfl | exact Or.inr rfl) (pe_lst (pa_cons pe_dnewK pa_nil))) (pss_cons (ps_for PassesOwn.never rfl (pi_seq (pe_ixU (hu_of hr) (pv 0) pe_int (fun _ _ => rfl) (fun _ _ => rfl))) (pg_name (i := 4) sc__law_first_words.nd rfl (by first | exact Or.inl rfl | exact Or.inr rfl)) (pss_one (ps_asg pe_bl (pg_sub (pe_ixU (hu_of hr) (pv 3) pe_int (fun _ _ => rfl) (fun _ _ => rfl)) (pv 4) (set_U (hu_of hr)))))) (pss_cons (ps_set (i := 5) sc__law_first_words.nd rfl (by first | exact Or.inl rfl | exact Or.inr rfl) (pe_lst pa_nil)) (pss_cons (ps_for PassesOwn.never rfl (pi_range1 (by rfl) E.z_range (pa_cons pe_int pa_nil)) (pg_name (i := 6) sc__law_first_words.nd rfl (by first | exact Or.inl rfl | exact Or.inr rfl)) (pss_cons (ps_if (PW.pt (pw_and (pt_cmpR (op_inU (hu_of hr)) pe_int (pe_ixU (hu_of hr) (pv 3) (pv 6) (fun _ _ => rfl) (fun _ _ => rfl)) (by rfl)) (pw_and1 (pt_cmpR (op_ltD hr.units) (pe_callB call_lenU (by rfl) E.z_len (by decide +kernel) (pa_cons (pv 5) pa_nil)) (pv 1) (nomark _))))) (pss_one (ps_expr (pe_call G__law_words_of (hr.mono (by decide)) rfl E.g__law_words_of E.F__law_words_of.kp E.b__law_words_of .nil pass0 (pa_cons (pv 2) (pa_cons (pv 3) (pa_cons (pv 6) (pa_cons (pv 5) (pa_cons (pv 1) pa_nil)))))))) pss_nil) (pss_cons (ps_set (i := 7) sc__law_first_words.nd rfl (by first | exact Or.inl rfl | exact Or.inr rfl) pe_dnewK) (pss_cons (ps_for PassesOwn.never rfl (pi_seq (pe_ixU (hu_of hr) (pv 0) pe_int (fun _ _ => rfl) (fun _ _ => rfl))) (pg_name (i := 8) sc__law_first_words.nd rfl (by first | exact Or.inl rfl | exact Or.inr rfl)) (pss_one (ps_if (pt_cmpR (op_inU (hu_of hr)) (pe_ixU (hu_of hr) (pv 8) pe_int (fun _ _ => rfl) (fun _ _ => rfl)) (pe_ixU (hu_of hr) (pv 3) (pv 6) (fun _ _ => rfl) (fun _ _ => rfl)) (by rfl)) (pss_one (ps_asg pe_bl (pg_sub (pv 7) (pe_ixU (hu_of hr) (pv 8) pe_int (fun _ _ => rfl) (fun _ _ => rfl)) (set_U (hu_of hr))))) pss_nil))) (pss_one (ps_expr (pe_bm PySem.F.plainAttrs_list PySem.F.slot_list_append PySem.F.type_list_append mt_append (pv 3) (pa_cons (pv 7) pa_nil)))))))) (pss_one (ps_ret (pe_callTy call_tupOf (by rfl) E.z_tuple (by decide +kernel) (pa_cons (pv 5) pa_nil)))))))))
set_option maxHeartbeats 4000000 in
theorem ok__law_words_of (E : Env K mg)  : FnOk P w K mg base CX0 1 (He.ga K "_law_words_of") E.d__law_words_of ["moves", "can", "size", "made", "limit"] (sp__law_words_of K) := by
  refine E.F__law_words_of.ok sc__law_words_of (fun vs H Q E' h => len__law_words_of h) (fun cdv A outer s H vs Q E' hr h => ⟨(t__law_words_of K), PSs.nox ?_, pure__law_words_of vs H Q E' h⟩)
  exact (pss_cons (ps_set (i := 5) sc__law_words_of.nd rfl (by first | exact Or.inl rfl | exact Or.inr rfl) (pe_lst (pa_cons (pe_tup (pa_cons pe_int (pa_cons pe_str pa_nil))) pa_nil))) (pss_one (ps_for PassesOwn.never rfl (pi_range1 (by rfl) E.z_range (pa_cons (pe_op op_powI pe_int pe_int) pa_nil)) (pg_name (i := 6) sc__law_words_of.nd rfl (by first | exact Or.inl rfl | exact Or.inr rfl)) (pss_cons (ps_if (PW.pt (pw_or (pt_cmpR (op_eqU hr.units) (pe_callB call_lenU (by rfl) E.z_len (by decide +kernel) (pa_cons (pv 5) pa_nil)) pe_int (nomark _)) (pw_or1 (pt_cmpR (op_geD hr.units) (pe_callB call_lenU (by rfl) E.z_len (by decide +kernel) (pa_cons (pv 3) pa_nil)) (pv 4) (nomark _))))) (pss_one ps_break) pss_nil) (pss_cons (ps_asg (pe_bm0 PySem.F.plainAttrs_list PySem.F.slot_list_pop PySem.F.type_list_pop mt_pop (pv 5)) (pg_seq (n := 2) rfl (pgs_cons (pg_name (i := 7) sc__law_words_of.nd rfl (by first | exact Or.inl rfl | exact Or.inr rfl)) (pgs_cons (pg_name (i := 8) sc__law_words_of.nd rfl (by first | exact Or.inl rfl | exact Or.inr rfl)) pgs_nil)))) (pss_one (ps_if (pt_cmpR (op_eqU hr.units) (pe_callB call_lenU (by rfl) E.z_len (by decide +kernel) (pa_cons (pv 8) pa_nil)) (pv 2) (nomark _)) (pss_one (ps_expr (pe_bm PySem.F.plainAttrs_list PySem.F.slot_list_append PySem.F.type_list_append mt_append (pv 3) (pa_cons (pv 8) pa_nil)))) (pss_one (ps_for PassesOwn.never rfl (pi_seq pe_str) (pg_name (i := 9) sc__law_words_of.nd rfl (by first | exact Or.inl rfl | exact Or.inr rfl)) (pss_cons (ps_set (i := 10) sc__law_words_of.nd rfl (by first | exact Or.inl rfl | exact Or.inr rfl) (pe_ifExp (pt_cmpR (op_inU (hu_of hr)) (pe_tup (pa_cons (pv 7) (pa_cons (pv 9) pa_nil))) (pv 0) (by rfl)) (pe_ixU (hu_of hr) (pv 0) (pe_tup (pa_cons (pv 7) (pa_cons (pv 9) pa_nil))) (fun _ _ => rfl) (fun _ _ => rfl)) pe_non)) (pss_one (ps_if (PW.pt (pw_and (pt_cmpR op_notN1 (pv 10) pe_non (nomark _)) (pw_and1 (pt_cmpR (op_inU (hu_of hr)) (pv 10) (pe_ixU (hu_of hr) (pv 1) (pe_op op_sub (pe_op op_sub (pv 2) (pe_callB call_lenU (by rfl) E.z_len (by decide +kernel) (pa_cons (pv 8) pa_nil))) pe_int) (fun _ _ => rfl) (fun _ _ => rfl)) (by rfl))))) (pss_one (ps_expr (pe_bm PySem.F.plainAttrs_list PySem.F.slot_list_append PySem.F.type_list_append mt_append (pv 5) (pa_cons (pe_tup (pa_cons (pv 10) (pa_cons (pe_op op_addU (pv 8) (pv 9)) pa_nil))) pa_nil)))) pss_nil))))))))))))
set_option maxHeartbeats 4000000 in
theorem ok__law_machine_changed {n : Nat} (E : Env K mg) (G__law_take : FnOk P w K mg base CX0 2 (He.ga K "_law_take") E.d__law_take ["row", "spot", "limit"] (sp__law_take K)) (G_self : FnOk P w K mg base CX0 (n + 3) (He.ga K "_law_machine_changed") E.d__law_machine_changed ["row", "spot", "value"] (sp__law_machine_changed K n)) : FnOk P w K mg base CX0 (n + 3 + 1) (He.ga K "_law_machine_changed") E.d__law_machine_changed ["row", "spot", "value"] (sp__law_machine_changed K (n + 1)) := by
  refine E.F__law_machine_changed.ok sc__law_machine_changed (fun vs H Q E' h => len__law_machine_changed h) (fun cdv A outer s H vs Q E' hr h => ⟨(t__law_machine_changed K n), PSs.nox ?_, pure__law_machine_changed vs H Q E' h⟩)
  exact (pss_cons (ps_if (PW.pt (pw_and (pt_val (pe_callB call_isiU (by rfl) E.z_isinstance (by decide +kernel) (pa_cons (pv 2) (pa_cons (pe_bltn (v := .ty "tuple") rfl E.z_tuple (by decide +kernel) rfl) pa_nil)))) (pw_and (pt_cmpR (op_gtD hr.units) (pe_callB call_lenU (by rfl) E.z_len (by decide +kernel) (pa_cons (pv 2) pa_nil)) pe_int (nomark _)) (pw_and1 (pt_cmpR (op_gtD hr.units) (pe_call G__law_take (hr.mono (by omega)) rfl E.g__law_take E.F__law_take.kp E.b__law_take .nil pass0 (pa_cons (pv 0) (pa_cons (pv 1) (pa_cons pe_int pa_nil)))) pe_int (nomark _)))))) (pss_cons (ps_set (i := 3) sc__law_machine_changed.nd rfl (by first | exact Or.inl rfl | exact Or.inr rfl) (pe_call G__law_take (hr.mono (by omega)) rfl E.g__law_take E.F__law_take.kp E.b__law_take .nil pass0 (pa_cons (pv 0) (pa_cons (pv 1) (pa_cons (pe_callB call_lenU (by rfl) E.z_len (by decide +kernel) (pa_cons (pv 2) pa_nil)) pa_nil))))) (pss_one (ps_ret (pe_op op_addU (pe_op op_addU (pe_slice sl_U (pv 2) po_none (po_some (pv 3))) (pe_tup (pa_cons (pe_call G_self hr rfl E.g__law_machine_changed E.F__law_machine_changed.kp E.b__law_machine_changed .nil pass0 (pa_cons (pv 0) (pa_cons (pv 1) (pa_cons (pe_ixU (hu_of hr) (pv 2) (pv 3) (fun _ _ => rfl) (fun _ _ => rfl)) pa_nil)))) pa_nil))) (pe_slice sl_U (pv 2) (po_some (pe_op op_addU (pv 3) pe_int)) po_none))))) pss_nil) (pss_cons (ps_set (i := 4) sc__law_machine_changed.nd rfl (by first | exact Or.inl rfl | exact Or.inr rfl) (pe_call G__law_take (hr.mono (by omega)) rfl E.g__law_take E.F__law_take.kp E.b__law_take .nil pass0 (pa_cons (pv 0) (pa_cons (pv 1) (pa_cons pe_int pa_nil))))) (pss_cons (ps_if (PW.pt (pw_and (pt_val (pe_callB call_isiU (by rfl) E.z_isinstance (by decide +kernel) (pa_cons (pv 2) (pa_cons (pe_bltn (v := .ty "tuple") rfl E.z_tuple (by decide +kernel) rfl) pa_nil)))) (pw_and (pt_cmpR (op_eqU hr.units) (pv 4) pe_int (nomark _)) (pw_and1 (pt_cmpR (op_gtD hr.units) (pe_callB call_lenU (by rfl) E.z_len (by decide +kernel) (pa_cons (pv 2) pa_nil)) pe_int (nomark _)))))) (pss_one (ps_ret (pe_op op_addU (pv 2) (pe_slice sl_U (pv 2) po_none (po_some pe_int))))) pss_nil) (pss_cons (ps_if (PW.pt (pw_and (pt_val (pe_callB call_isiU (by rfl) E.z_isinstance (by decide +kernel) (pa_cons (pv 2) (pa_cons (pe_bltn (v := .ty "tuple") rfl E.z_tuple (by decide +kernel) rfl) pa_nil)))) (pw_and (pt_cmpR (op_eqU hr.units) (pv 4) pe_int (nomark _)) (pw_and1 (pt_cmpR (op_gtD hr.units) (pe_callB call_lenU (by rfl) E.z_len (by decide +kernel) (pa_cons (pv 2) pa_nil)) pe_int (nomark _)))))) (pss_one (ps_ret (pe_slice sl_U (pv 2) (po_some pe_int) po_none))) pss_nil) (pss_cons (ps_if (PW.pt (pw_and (pt_val (pe_callB call_isiU (by rfl) E.z_isinstance (by decide +kernel) (pa_cons (pv 2) (pa_cons (pe_bltn (v := .ty "tuple") rfl E.z_tuple (by decide +kernel) rfl) pa_nil)))) (pw_and (pt_cmpR (op_eqU hr.units) (pv 4) pe_int (nomark _)) (pw_and1 (pt_cmpR (op_gtD hr.units) (pe_callB call_lenU (by rfl) E.z_len (by decide +kernel) (pa_cons (pv 2) pa_nil)) pe_int (nomark _)))))) (pss_one (ps_ret (pe_op op_addU (pe_slice sl_U (pv 2) (po_some pe_int) po_none) (pe_slice sl_U (pv 2) po_none (po_some pe_int))))) pss_nil) (pss_cons (ps_if (PW.pt (pw_and (pt_val (pe_callB call_isiU (by rfl) E.z_isinstance (by decide +kernel) (pa_cons (pv 2) (pa_cons (pe_bltn (v := .ty "str") rfl E.z_str (by decide +kernel) rfl) pa_nil)))) (pw_and1 (pt_cmpR (op_ltD hr.units) (pv 4) pe_int (nomark _))))) (pss_one (ps_ret (pe_ixU (hu_of hr) (pe_lst (pa_cons pe_str (pa_cons pe_str (pa_cons pe_str (pa_cons pe_str (pa_cons pe_str (pa_cons pe_str (pa_cons pe_str pa_nil)))))))) (pe_call G__law_take (hr.mono (by omega)) rfl E.g__law_take E.F__law_take.kp E.b__law_take .nil pass0 (pa_cons (pv 0) (pa_cons (pv 1) (pa_cons pe_int pa_nil)))) (fun _ _ => rfl) (fun _ _ => rfl)))) pss_nil) (pss_cons (ps_if (PW.pt (pw_and (pt_val (pe_callB call_isiU (by rfl) E.z_isinstance (by decide +kernel) (pa_cons (pv 2) (pa_cons (pe_bltn (v := .ty "int") rfl E.z_int (by decide +kernel) rfl) pa_nil)))) (pw_and1 (pt_cmpR (op_ltD hr.units) (pv 4) pe_int (nomark _))))) (pss_one (ps_ret (pe_ixU (hu_of hr) (pe_lst (pa_cons (pe_op op_addU (pv 2) pe_int) (pa_cons (pe_op op_sub (pv 2) pe_int) (pa_cons pe_int (pa_cons pe_int (pa_cons pe_int (pa_cons pe_non (pa_cons pe_bl (pa_cons (pe_un un_negI pe_int) pa_nil))))))))) (pe_call G__law_take (hr.mono (by omega)) rfl E.g__law_take E.F__law_take.kp E.b__law_take .nil pass0 (pa_cons (pv 0) (pa_cons (pv 1) (pa_cons pe_int pa_nil)))) (fun _ _ => rfl) (fun _ _ => rfl)))) pss_nil) (pss_one (ps_ret (pe_ixU (hu_of hr) (pe_lst (pa_cons pe_non (pa_cons pe_int (pa_cons pe_bl (pa_cons pe_str (pa_cons (pe_tup pa_nil) (pa_cons (pe_tup (pa_cons pe_int (pa_cons pe_str (pa_cons pe_int pa_nil)))) (pa_cons pe_str pa_nil)))))))) (pe_call G__law_take (hr.mono (by omega)) rfl E.g__law_take E.F__law_take.kp E.b__law_take .nil pass0 (pa_cons (pv 0) (pa_cons (pv 1) (pa_cons pe_int pa_nil)))) (fun _ _ => rfl) (fun _ _ => rfl)))))))))))
set_option maxHeartbeats 4000000 in
theorem ok_law (E : Env K mg) (G__law_numbers : FnOk P w K mg base CX0 1 (He.ga K "_law_numbers") E.d__law_numbers ["script"] (sp__law_numbers K)) (G__law_few : FnOk P w K mg base CX0 3 (He.ga K "_law_few") E.d__law_few ["row", "spot", "sizes"] (sp__law_few K)) (G__law_machine : FnOk P w K mg base CX0 3 (He.ga K "_law_machine") E.d__law_machine ["row", "spot", "many", "few"] (sp__law_machine K)) (G__law_take : FnOk P w K mg base CX0 2 (He.ga K "_law_take") E.d__law_take ["row", "spot", "limit"] (sp__law_take K)) (G__law_so : FnOk P w K mg base CX0 9 (He.ga K "_law_so") E.d__law_so ["found", "wanted"] (sp__law_so K 8)) (G_is_machine : FnOk P w K mg base CX0 5 (He.ga K "is_machine") E.d_is_machine ["value"] (sp_is_machine K)) (G__law_handed : FnOk P w K mg base CX0 13 (He.ga K "_law_handed") E.d__law_handed ["row", "spot", "value"] (sp__law_handed K)) (G__law_tupled : FnOk P w K mg base CX0 9 (He.ga K "_law_tupled") E.d__law_tupled ["value"] (sp__law_tupled K 8)) (G__law_machine_changed : FnOk P w K mg base CX0 12 (He.ga K "_law_machine_changed") E.d__law_machine_changed ["row", "spot", "value"] (sp__law_machine_changed K 9)) (G__law_is_machine : FnOk P w K mg base CX0 2 (He.ga K "_law_is_machine") E.d__law_is_machine ["value"] (sp__law_is_machine K)) (G__law_letters : FnOk P w K mg base CX0 3 (He.ga K "_law_letters") E.d__law_letters ["row", "spot", "most", "few"] (sp__law_letters K)) (G__law_tells : FnOk P w K mg base CX0 2 (He.ga K "_law_tells") E.d__law_tells ["machine", "word"] (sp__law_tells K)) (G_tells : FnOk P w K mg base CX0 6 (He.ga K "tells") E.d_tells ["machine", "word"] (sp_tells K)) (G__law_first_words : FnOk P w K mg base CX0 3 (He.ga K "_law_first_words") E.d__law_first_words ["machine", "limit"] (sp__law_first_words K)) (G_first_words : FnOk P w K mg base CX0 6 (He.ga K "first_words") E.d_first_words ["machine", "limit"] (sp_first_words K)) : FnOk P w K mg base CX0 20 (He.ga K "law") E.d_law ["script"] (sp_law K) := by
  refine E.F_law.ok sc_law (fun vs H Q E' h => len_law h) (fun cdv A outer s H vs Q E' hr h => ⟨(t_law K), PSs.nox ?_, pure_law vs H Q E' h⟩)
  exact (pss_cons (ps_set (i := 1) sc_law.nd rfl (by first | exact Or.inl rfl | exact Or.inr rfl) (pe_call G__law_numbers (hr.mono (by decide)) rfl E.g__law_numbers E.F__law_numbers.kp E.b__law_numbers .nil pass0 (pa_cons (pv 0) pa_nil))) (pss_cons (ps_set (i := 2) sc_law.nd rfl (by first | exact Or.inl rfl | exact Or.inr rfl) (pe_lst (pa_cons pe_int pa_nil))) (pss_cons (ps_set (i := 3) sc_law.nd rfl (by first | exact Or.inl rfl | exact Or.inr rfl) (pe_call G__law_few (hr.mono (by decide)) rfl E.g__law_few E.F__law_few.kp E.b__law_few .nil pass0 (pa_cons (pv 1) (pa_cons (pv 2) (pa_cons (pe_lst (pa_cons pe_int (pa_cons pe_int (pa_cons pe_int pa_nil)))) pa_nil))))) (pss_cons (ps_set (i := 4) sc_law.nd rfl (by first | exact Or.inl rfl | exact Or.inr rfl) (pe_call G__law_machine (hr.mono (by decide)) rfl E.g__law_machine E.F__law_machine.kp E.b__law_machine .nil pass0 (pa_cons (pv 1) (pa_cons (pv 2) (pa_cons (pe_ixU (hu_of hr) (pe_lst (pa_cons pe_int (pa_cons pe_int pa_nil))) (pe_call G__law_take (hr.mono (by decide)) rfl E.g__law_take E.F__law_take.kp E.b__law_take .nil pass0 (pa_cons (pv 1) (pa_cons (pv 2) (pa_cons pe_int pa_nil)))) (fun _ _ => rfl) (fun _ _ => rfl)) (pa_cons (pv 3) pa_nil)))))) (pss_cons (ps_if (PW.pt (pw_or (pt_not (pt_val (pe_call G__law_so (hr.mono (by decide)) rfl E.g__law_so E.F__law_so.kp E.b__law_so .nil pass0 (pa_cons (pe_call G_is_machine (hr.mono (by decide)) rfl E.g_is_machine E.F_is_machine.kp E.b_is_machine .nil pass0 (pa_cons (pe_tup (pa_cons pe_int (pa_cons (pe_tup pa_nil) (pa_cons (pe_tup pa_nil) pa_nil)))) pa_nil)) (pa_cons pe_bl pa_nil))))) (pw_or1 (pt_not (pt_val (pe_call G__law_so (hr.mono (by decide)) rfl E.g__law_so E.F__law_so.kp E.b__law_so .nil pass0 (pa_cons (pe_call G_is_machine (hr.mono (by decide)) rfl E.g_is_machine E.F_is_machine.kp E.b_is_machine .nil pass0 (pa_cons (pe_tup (pa_cons pe_int (pa_cons (pe_tup pa_nil) (pa_cons (pe_tup pa_nil) pa_nil)))) pa_nil)) (pa_cons pe_bl pa_nil)))))))) (pss_one (ps_ret pe_bl)) pss_nil) (pss_cons (ps_set (i := 5) sc_law.nd rfl (by first | exact Or.inl rfl | exact Or.inr rfl) (pe_call G__law_handed (hr.mono (by decide)) rfl E.g__law_handed E.F__law_handed.kp E.b__law_handed .nil pass0 (pa_cons (pv 1) (pa_cons (pv 2) (pa_cons (pv 4) pa_nil))))) (pss_cons (ps_if (PW.pt (pw_or (pt_not (pt_val (pe_call G__law_so (hr.mono (by decide)) rfl E.g__law_so E.F__law_so.kp E.b__law_so .nil pass0 (pa_cons (pe_callK0 G_is_machine (hr.mono (by decide)) rfl E.g_is_machine E.F_is_machine.kp (E.k_is_machine_0_1) pass0 (pk_cons (pv 5) pk_nil)) (pa_cons pe_bl pa_nil))))) (pw_or1 (pt_not (pt_val (pe_call G__law_so (hr.mono (by decide)) rfl E.g__law_so E.F__law_so.kp E.b__law_so .nil pass0 (pa_cons (pe_call G__law_tupled (hr.mono (by decide)) rfl E.g__law_tupled E.F__law_tupled.kp E.b__law_tupled .nil pass0 (pa_cons (pv 5) pa_nil)) (pa_cons (pv 4) pa_nil)))))))) (pss_one (ps_ret pe_bl)) pss_nil) (pss_cons (ps_for PassesOwn.never rfl (pi_range1 (by rfl) E.z_range (pa_cons pe_int pa_nil)) (pg_name (i := 6) sc_law.nd rfl (by first | exact Or.inl rfl | exact Or.inr rfl)) (pss_cons (ps_set (i := 7) sc_law.nd rfl (by first | exact Or.inl rfl | exact Or.inr rfl) (pe_call G__law_machine_changed (hr.mono (by decide)) rfl E.g__law_machine_changed E.F__law_machine_changed.kp E.b__law_machine_changed .nil pass0 (pa_cons (pv 1) (pa_cons (pv 2) (pa_cons (pv 4) pa_nil))))) (pss_one (ps_if (pt_not (pt_val (pe_call G__law_so (hr.mono (by decide)) rfl E.g__law_so E.F__law_so.kp E.b__law_so .nil pass0 (pa_cons (pe_call G_is_machine (hr.mono (by decide)) rfl E.g_is_machine E.F_is_machine.kp E.b_is_machine .nil pass0 (pa_cons (pe_call G__law_handed (hr.mono (by decide)) rfl E.g__law_handed E.F__law_handed.kp E.b__law_handed .nil pass0 (pa_cons (pv 1) (pa_cons (pv 2) (pa_cons (pv 7) pa_nil)))) pa_nil)) (pa_cons (pe_call G__law_is_machine (hr.mono (by decide)) rfl E.g__law_is_machine E.F__law_is_machine.kp E.b__law_is_machine .nil pass0 (pa_cons (pv 7) pa_nil)) pa_nil))))) (pss_one (ps_ret pe_bl)) pss_nil)))) (pss_cons (ps_for PassesOwn.never rfl (pi_range1 (by rfl) E.z_range (pa_cons pe_int pa_nil)) (pg_name (i := 6) sc_law.nd rfl (by first | exact Or.inl rfl | exact Or.inr rfl)) (pss_cons (ps_set (i := 8) sc_law.nd rfl (by first | exact Or.inl rfl | exact Or.inr rfl) (pe_call G__law_letters (hr.mono (by decide)) rfl E.g__law_letters E.F__law_letters.kp E.b__law_letters .nil pass0 (pa_cons (pv 1) (pa_cons (pv 2) (pa_cons pe_int (pa_cons (pv 3) pa_nil)))))) (pss_one (ps_if (pt_not (pt_val (pe_call G__law_so (hr.mono (by decide)) rfl E.g__law_so E.F__law_so.kp E.b__law_so .nil pass0 (pa_cons (pe_callK0 G_tells (hr.mono (by decide)) rfl E.g_tells E.F_tells.kp (E.k_tells_0_2) pass0 (pk_cons (pe_call G__law_handed (hr.mono (by decide)) rfl E.g__law_handed E.F__law_handed.kp E.b__law_handed .nil pass0 (pa_cons (pv 1) (pa_cons (pv 2) (pa_cons (pv 4) pa_nil)))) (pk_cons (pv 8) pk_nil))) (pa_cons (pe_call G__law_tells (hr.mono (by decide)) rfl E.g__law_tells E.F__law_tells.kp E.b__law_tells .nil pass0 (pa_cons (pv 4) (pa_cons (pv 8) pa_nil))) pa_nil))))) (pss_one (ps_ret pe_bl)) pss_nil)))) (pss_cons (ps_set (i := 9) sc_law.nd rfl (by first | exact Or.inl rfl | exact Or.inr rfl) (pe_ixU (hu_of hr) (pe_lst (pa_cons pe_int (pa_cons pe_int (pa_cons pe_int (pa_cons pe_int pa_nil))))) (pe_call G__law_take (hr.mono (by decide)) rfl E.g__law_take E.F__law_take.kp E.b__law_take .nil pass0 (pa_cons (pv 1) (pa_cons (pv 2) (pa_cons pe_int pa_nil)))) (fun _ _ => rfl) (fun _ _ => rfl))) (pss_one (ps_ret (pe_call G__law_so (hr.mono (by decide)) rfl E.g__law_so E.F__law_so.kp E.b__law_so .nil pass0 (pa_cons (pe_callK0 G_first_words (hr.mono (by decide)) rfl E.g_first_words E.F_first_words.kp (E.k_first_words_0_2) pass0 (pk_cons (pv 4) (pk_cons (pv 9) pk_nil))) (pa_cons (pe_call G__law_first_words (hr.mono (by decide)) rfl E.g__law_first_words E.F__law_first_words.kp E.b__law_first_words .nil pass0 (pa_cons (pv 4) (pa_cons (pv 9) pa_nil))) pa_nil)))))))))))))))
end
/-! ### the head -/
def dd_check_arguments : He.DefD := ⟨("check_arguments", none), "check_arguments", "check_arguments", defArgs st_check_arguments, defBody st_check_arguments, defScope st_check_arguments, [], []⟩
def dd_is_whole : He.DefD := ⟨("is_whole", none), "is_whole", "is_whole", defArgs st_is_whole, defBody st_is_whole, defScope st_is_whole, [], []⟩
def dd_is_sequence : He.DefD := ⟨("is_sequence", none), "is_sequence", "is_sequence", defArgs st_is_sequence, defBody st_is_sequence, defScope st_is_sequence, [], []⟩
def dd_is_triple : He.DefD := ⟨("is_triple", none), "is_triple", "is_triple", defArgs st_is_triple, defBody st_is_triple, defScope st_is_triple, [], []⟩
def dd_is_word : He.DefD := ⟨("is_word", none), "is_word", "is_word", defArgs st_is_word, defBody st_is_word, defScope st_is_word, [], []⟩
def dd_is_rising : He.DefD := ⟨("is_rising", none), "is_rising", "is_rising", defArgs st_is_rising, defBody st_is_rising, defScope st_is_rising, [], []⟩
def dd_is_machine : He.DefD := ⟨("is_machine", none), "is_machine", "is_machine", defArgs st_is_machine, defBody st_is_machine, defScope st_is_machine, [], []⟩
def dd_are_ends : He.DefD := ⟨("are_ends", none), "are_ends", "are_ends", defArgs st_are_ends, defBody st_are_ends, defScope st_are_ends, [], []⟩
def dd_are_moves : He.DefD := ⟨("are_moves", none), "are_moves", "are_moves", defArgs st_are_moves, defBody st_are_moves, defScope st_are_moves, [], []⟩
def dd_is_move : He.DefD := ⟨("is_move", none), "is_move", "is_move", defArgs st_is_move, defBody st_is_move, defScope st_is_move, [], []⟩
def dd_steps_of : He.DefD := ⟨("steps_of", none), "steps_of", "steps_of", defArgs st_steps_of, defBody st_steps_of, defScope st_steps_of, [], []⟩
def dd_walked : He.DefD := ⟨("walked", none), "walked", "walked", defArgs st_walked, defBody st_walked, defScope st_walked, [], []⟩
def dd_tells : He.DefD := ⟨("tells", none), "tells", "tells", defArgs st_tells, defBody st_tells, defScope st_tells, [], []⟩
def dd_first_words : He.DefD := ⟨("first_words", none), "first_words", "first_words", defArgs st_first_words, defBody st_first_words, defScope st_first_words, [], []⟩
def dd_longest_words : He.DefD := ⟨("longest_words", none), "longest_words", "longest_words", defArgs st_longest_words, defBody st_longest_words, defScope st_longest_words, [], []⟩
def dd__law_so : He.DefD := ⟨("_law_so", none), "_law_so", "_law_so", defArgs st__law_so, defBody st__law_so, defScope st__law_so, [], []⟩
def dd__law_numbers : He.DefD := ⟨("_law_numbers", none), "_law_numbers", "_law_numbers", defArgs st__law_numbers, defBody st__law_numbers, defScope st__law_numbers, [], []⟩
def dd__law_draw : He.DefD := ⟨("_law_draw", none), "_law_draw", "_law_draw", defArgs st__law_draw, defBody st__law_draw, defScope st__law_draw, [], []⟩
def dd__law_take : He.DefD := ⟨("_law_take", none), "_law_take", "_law_take", defArgs st__law_take, defBody st__law_take, defScope st__law_take, [], []⟩
def dd__law_whole : He.DefD := ⟨("_law_whole", none), "_law_whole", "_law_whole", defArgs st__law_whole, defBody st__law_whole, defScope st__law_whole, [], []⟩
def dd__law_listed : He.DefD := ⟨("_law_listed", none), "_law_listed", "_law_listed", defArgs st__law_listed, defBody st__law_listed, defScope st__law_listed, [], []⟩
def dd__law_tupled : He.DefD := ⟨("_law_tupled", none), "_law_tupled", "_law_tupled", defArgs st__law_tupled, defBody st__law_tupled, defScope st__law_tupled, [], []⟩
def dd__law_handed : He.DefD := ⟨("_law_handed", none), "_law_handed", "_law_handed", defArgs st__law_handed, defBody st__law_handed, defScope st__law_handed, [], []⟩
def dd__law_levels : He.DefD := ⟨("_law_levels", none), "_law_levels", "_law_levels", defArgs st__law_levels, defBody st__law_levels, defScope st__law_levels, [], []⟩
def dd__law_is_string : He.DefD := ⟨("_law_is_string", none), "_law_is_string", "_law_is_string", defArgs st__law_is_string, defBody st__law_is_string, defScope st__law_is_string, [], []⟩
def dd__law_is_machine : He.DefD := ⟨("_law_is_machine", none), "_law_is_machine", "_law_is_machine", defArgs st__law_is_machine, defBody st__law_is_machine, defScope st__law_is_machine, [], []⟩
def dd__law_moves : He.DefD := ⟨("_law_moves", none), "_law_moves", "_law_moves", defArgs st__law_moves, defBody st__law_moves, defScope st__law_moves, [], []⟩
def dd__law_tells : He.DefD := ⟨("_law_tells", none), "_law_tells", "_law_tells", defArgs st__law_tells, defBody st__law_tells, defScope st__law_tells, [], []⟩
def dd__law_letters : He.DefD := ⟨("_law_letters", none), "_law_letters", "_law_letters", defArgs st__law_letters, defBody st__law_letters, defScope st__law_letters, [], []⟩
def dd__law_few : He.DefD := ⟨("_law_few", none), "_law_few", "_law_few", defArgs st__law_few, defBody st__law_few, defScope st__law_few, [], []⟩
def dd__law_machine : He.DefD := ⟨("_law_machine", none), "_law_machine", "_law_machine", defArgs st__law_machine, defBody st__law_machine, defScope st__law_machine, [], []⟩
def dd__law_first_words : He.DefD := ⟨("_law_first_words", none), "_law_first_words", "_law_first_words", defArgs st__law_first_words, defBody st__law_first_words, defScope st__law_first_words, [], []⟩
def dd__law_words_of : He.DefD := ⟨("_law_words_of", none), "_law_words_of", "_law_words_of", defArgs st__law_words_of, defBody st__law_words_of, defScope st__law_words_of, [], []⟩
def dd__law_machine_changed : He.DefD := ⟨("_law_machine_changed", none), "_law_machine_changed", "_law_machine_changed", defArgs st__law_machine_changed, defBody st__law_machine_changed, defScope st__law_machine_changed, [], []⟩
def dd_law : He.DefD := ⟨("law", none), "law", "law", defArgs st_law, defBody st_law, defScope st_law, [], []⟩
def fn : List He.DefD := [dd_check_arguments, dd_is_whole, dd_is_sequence, dd_is_triple, dd_is_word, dd_is_rising, dd_is_machine, dd_are_ends, dd_are_moves, dd_is_move, dd_steps_of, dd_walked, dd_tells, dd_first_words, dd_longest_words, dd__law_so, dd__law_numbers, dd__law_draw, dd__law_take, dd__law_whole, dd__law_listed, dd__law_tupled, dd__law_handed, dd__law_levels, dd__law_is_string, dd__law_is_machine, dd__law_moves, dd__law_tells, dd__law_letters, dd__law_few, dd__law_machine, dd__law_first_words, dd__law_words_of, dd__law_machine_changed, dd_law]
def fa0 : List He.Fa := [.glo "check_arguments", .glo "is_whole", .glo "is_sequence", .glo "is_triple", .glo "is_word", .glo "is_rising", .glo "is_machine", .glo "are_ends", .glo "are_moves", .glo "is_move", .glo "steps_of", .glo "walked", .glo "tells", .glo "first_words", .glo "longest_words", .glo "_law_so", .glo "_law_numbers", .glo "_law_draw", .glo "_law_take", .glo "_law_whole", .glo "_law_listed", .glo "_law_tupled", .glo "_law_handed", .glo "_law_levels", .glo "_law_is_string", .glo "_law_is_machine", .glo "_law_moves", .glo "_law_tells", .glo "_law_letters", .glo "_law_few"]
def fa1 : List He.Fa := [.glo "_law_machine", .glo "_law_first_words", .glo "_law_words_of", .glo "_law_machine_changed", .glo "law", .str "LETTERS" "abcdef", .int "MOST_STATES" 8, .int "MOST_TOLD" 50, .free "all", .free "bool", .free "enumerate", .free "int", .free "isinstance", .free "len", .free "list", .free "range", .free "reversed", .free "str", .free "tuple"]
def fa : List He.Fa := fa0 ++ (fa1)
abbrev Rw : PySem.W.OpenRow := PySem.W.OpenLaw.row PySem.Challenge.rw_slipworth_k15_machines_told_apart
abbrev hk : PySem.W.Hook := He.hookD 4 fa fn
def ob (s : PySem.W.SharedT) : He.AlD := He.obsDG 4 fa fn (HandSHeadRun.getT s)
theorem ob_eq (s : PySem.W.SharedT) : ob s = hk.obs s.abs := He.obsDG_eq (HandSHeadRun.getT_eq s)
abbrev lo0 : List PySem.Str := ["SlipError", "BadValue", "LETTERS", "check_arguments", "is_whole", "is_sequence", "is_triple", "is_word", "is_rising", "is_machine", "are_ends", "are_moves", "is_move", "steps_of", "tells", "walked", "first_words", "longest_words", "_law_numbers", "_law_draw", "_law_take", "_law_whole", "_law_letters", "_law_few", "_law_is_string", "_law_is_machine", "_law_moves", "_law_tells", "_law_machine", "_law_first_words"]
abbrev lo1 : List PySem.Str := ["_law_words_of", "_law_so", "_law_listed", "_law_tupled", "_law_levels", "_law_handed", "_law_machine_changed", "MOST_STATES", "MOST_TOLD"]
abbrev loose : List PySem.Str := lo0 ++ (lo1)
theorem run (w : World) : HandSHeadRun.RunEq Rw (PySem.W.view Rw.prog [43]) hk ob 2000 loose w := by
  intro os
  kernel_rfl
section
variable {P : Program} {w : World} {K : Frag} {mg : Str → Option Value} {base : Heap}
theorem all_check_arguments (E : Env K mg) : FnOk P w K mg base CX0 1 (He.ga K "check_arguments") E.d_check_arguments ["fits"] (sp_check_arguments K) := ok_check_arguments E 
theorem all_is_whole (E : Env K mg) : FnOk P w K mg base CX0 1 (He.ga K "is_whole") E.d_is_whole ["value", "low", "high"] (sp_is_whole K) := ok_is_whole E 
theorem all_is_sequence (E : Env K mg) : FnOk P w K mg base CX0 1 (He.ga K "is_sequence") E.d_is_sequence ["value"] (sp_is_sequence K) := ok_is_sequence E 
theorem all_is_triple (E : Env K mg) : FnOk P w K mg base CX0 2 (He.ga K "is_triple") E.d_is_triple ["value"] (sp_is_triple K) := ok_is_triple E (all_is_sequence E)
theorem all_is_word (E : Env K mg) : FnOk P w K mg base CX0 1 (He.ga K "is_word") E.d_is_word ["value"] (sp_is_word K) := ok_is_word E 
theorem all_is_rising (E : Env K mg) : FnOk P w K mg base CX0 1 (He.ga K "is_rising") E.d_is_rising ["rows"] (sp_is_rising K) := ok_is_rising E 
theorem all_are_ends (E : Env K mg) : FnOk P w K mg base CX0 2 (He.ga K "are_ends") E.d_are_ends ["value", "count"] (sp_are_ends K) := ok_are_ends E (all_is_sequence E) (all_is_whole E) (all_is_rising E)
theorem all_is_move (E : Env K mg) : FnOk P w K mg base CX0 3 (He.ga K "is_move") E.d_is_move ["value", "count"] (sp_is_move K) := ok_is_move E (all_is_triple E) (all_is_word E) (all_is_whole E)
theorem all_are_moves (E : Env K mg) : FnOk P w K mg base CX0 4 (He.ga K "are_moves") E.d_are_moves ["value", "count"] (sp_are_moves K) := ok_are_moves E (all_is_sequence E) (all_is_move E) (all_is_rising E)
theorem all_is_machine (E : Env K mg) : FnOk P w K mg base CX0 5 (He.ga K "is_machine") E.d_is_machine ["value"] (sp_is_machine K) := ok_is_machine E (all_is_triple E) (all_is_whole E) (all_are_ends E) (all_are_moves E)
theorem all_steps_of (E : Env K mg) : FnOk P w K mg base CX0 1 (He.ga K "steps_of") E.d_steps_of ["moves"] (sp_steps_of K) := ok_steps_of E 
theorem all_walked (E : Env K mg) : FnOk P w K mg base CX0 1 (He.ga K "walked") E.d_walked ["steps", "state", "word"] (sp_walked K) := ok_walked E 
theorem all_tells (E : Env K mg) : FnOk P w K mg base CX0 6 (He.ga K "tells") E.d_tells ["machine", "word"] (sp_tells K) := ok_tells E (all_check_arguments E) (all_is_word E) (all_is_machine E) (all_walked E) (all_steps_of E)
theorem all_longest_words (E : Env K mg) : FnOk P w K mg base CX0 1 (He.ga K "longest_words") E.d_longest_words ["moves", "ending", "many"] (sp_longest_words K) := ok_longest_words E 
theorem all_first_words (E : Env K mg) : FnOk P w K mg base CX0 6 (He.ga K "first_words") E.d_first_words ["machine", "limit"] (sp_first_words K) := ok_first_words E (all_check_arguments E) (all_is_whole E) (all_is_machine E) (all_longest_words E)
theorem rec__law_so (E : Env K mg) : ∀ n : Nat, FnOk P w K mg base CX0 (n + 1) (He.ga K "_law_so") E.d__law_so ["found", "wanted"] (sp__law_so K n)
  | 0 => E.F__law_so.ok sc__law_so (fun vs H Q E' h => len__law_so h) (fun cdv A outer s H vs Q E' hr h => absurd h no__law_so)
  | n + 1 => ok__law_so E (rec__law_so E n)
theorem all__law_so (E : Env K mg) : FnOk P w K mg base CX0 9 (He.ga K "_law_so") E.d__law_so ["found", "wanted"] (sp__law_so K 8) := rec__law_so E 8
theorem all__law_numbers (E : Env K mg) : FnOk P w K mg base CX0 1 (He.ga K "_law_numbers") E.d__law_numbers ["script"] (sp__law_numbers K) := ok__law_numbers E 
theorem all__law_draw (E : Env K mg) : FnOk P w K mg base CX0 1 (He.ga K "_law_draw") E.d__law_draw ["row", "at", "limit"] (sp__law_draw K) := ok__law_draw E 
theorem all__law_take (E : Env K mg) : FnOk P w K mg base CX0 2 (He.ga K "_law_take") E.d__law_take ["row", "spot", "limit"] (sp__law_take K) := ok__law_take E (all__law_draw E)
theorem all__law_whole (E : Env K mg) : FnOk P w K mg base CX0 1 (He.ga K "_law_whole") E.d__law_whole ["value"] (sp__law_whole K) := ok__law_whole E 
theorem rec__law_listed (E : Env K mg) : ∀ n : Nat, FnOk P w K mg base CX0 (n + 1) (He.ga K "_law_listed") E.d__law_listed ["value"] (sp__law_listed K n)
  | 0 => E.F__law_listed.ok sc__law_listed (fun vs H Q E' h => len__law_listed h) (fun cdv A outer s H vs Q E' hr h => absurd h no__law_listed)
  | n + 1 => ok__law_listed E (rec__law_listed E n)
theorem all__law_listed (E : Env K mg) : FnOk P w K mg base CX0 9 (He.ga K "_law_listed") E.d__law_listed ["value"] (sp__law_listed K 8) := rec__law_listed E 8
theorem rec__law_tupled (E : Env K mg) : ∀ n : Nat, FnOk P w K mg base CX0 (n + 1) (He.ga K "_law_tupled") E.d__law_tupled ["value"] (sp__law_tupled K n)
  | 0 => E.F__law_tupled.ok sc__law_tupled (fun vs H Q E' h => len__law_tupled h) (fun cdv A outer s H vs Q E' hr h => absurd h no__law_tupled)
  | n + 1 => ok__law_tupled E (rec__law_tupled E n)
theorem all__law_tupled (E : Env K mg) : FnOk P w K mg base CX0 9 (He.ga K "_law_tupled") E.d__law_tupled ["value"] (sp__law_tupled K 8) := rec__law_tupled E 8
theorem rec__law_levels (E : Env K mg) : ∀ n : Nat, FnOk P w K mg base CX0 (n + 3) (He.ga K "_law_levels") E.d__law_levels ["row", "spot", "value"] (sp__law_levels K n)
  | 0 => E.F__law_levels.ok sc__law_levels (fun vs H Q E' h => len__law_levels h) (fun cdv A outer s H vs Q E' hr h => absurd h no__law_levels)
  | n + 1 => ok__law_levels E (all__law_take E) (rec__law_levels E n)
theorem all__law_levels (E : Env K mg) : FnOk P w K mg base CX0 12 (He.ga K "_law_levels") E.d__law_levels ["row", "spot", "value"] (sp__law_levels K 9) := rec__law_levels E 9
theorem all__law_handed (E : Env K mg) : FnOk P w K mg base CX0 13 (He.ga K "_law_handed") E.d__law_handed ["row", "spot", "value"] (sp__law_handed K) := ok__law_handed E (all__law_take E) (all__law_listed E) (all__law_levels E)
theorem all__law_is_string (E : Env K mg) : FnOk P w K mg base CX0 1 (He.ga K "_law_is_string") E.d__law_is_string ["value", "most"] (sp__law_is_string K) := ok__law_is_string E 
theorem all__law_is_machine (E : Env K mg) : FnOk P w K mg base CX0 2 (He.ga K "_law_is_machine") E.d__law_is_machine ["value"] (sp__law_is_machine K) := ok__law_is_machine E (all__law_whole E) (all__law_is_string E)
theorem all__law_moves (E : Env K mg) : FnOk P w K mg base CX0 1 (He.ga K "_law_moves") E.d__law_moves ["machine"] (sp__law_moves K) := ok__law_moves E 
theorem all__law_tells (E : Env K mg) : FnOk P w K mg base CX0 2 (He.ga K "_law_tells") E.d__law_tells ["machine", "word"] (sp__law_tells K) := ok__law_tells E (all__law_moves E)
theorem all__law_letters (E : Env K mg) : FnOk P w K mg base CX0 3 (He.ga K "_law_letters") E.d__law_letters ["row", "spot", "most", "few"] (sp__law_letters K) := ok__law_letters E (all__law_take E)
theorem all__law_few (E : Env K mg) : FnOk P w K mg base CX0 3 (He.ga K "_law_few") E.d__law_few ["row", "spot", "sizes"] (sp__law_few K) := ok__law_few E (all__law_take E)
theorem all__law_machine (E : Env K mg) : FnOk P w K mg base CX0 3 (He.ga K "_law_machine") E.d__law_machine ["row", "spot", "many", "few"] (sp__law_machine K) := ok__law_machine E (all__law_take E)
theorem all__law_words_of (E : Env K mg) : FnOk P w K mg base CX0 1 (He.ga K "_law_words_of") E.d__law_words_of ["moves", "can", "size", "made", "limit"] (sp__law_words_of K) := ok__law_words_of E 
theorem all__law_first_words (E : Env K mg) : FnOk P w K mg base CX0 3 (He.ga K "_law_first_words") E.d__law_first_words ["machine", "limit"] (sp__law_first_words K) := ok__law_first_words E (all__law_moves E) (all__law_words_of E)
theorem rec__law_machine_changed (E : Env K mg) : ∀ n : Nat, FnOk P w K mg base CX0 (n + 3) (He.ga K "_law_machine_changed") E.d__law_machine_changed ["row", "spot", "value"] (sp__law_machine_changed K n)
  | 0 => E.F__law_machine_changed.ok sc__law_machine_changed (fun vs H Q E' h => len__law_machine_changed h) (fun cdv A outer s H vs Q E' hr h => absurd h no__law_machine_changed)
  | n + 1 => ok__law_machine_changed E (all__law_take E) (rec__law_machine_changed E n)
theorem all__law_machine_changed (E : Env K mg) : FnOk P w K mg base CX0 12 (He.ga K "_law_machine_changed") E.d__law_machine_changed ["row", "spot", "value"] (sp__law_machine_changed K 9) := rec__law_machine_changed E 9
theorem all_law (E : Env K mg) : FnOk P w K mg base CX0 20 (He.ga K "law") E.d_law ["script"] (sp_law K) := ok_law E (all__law_numbers E) (all__law_few E) (all__law_machine E) (all__law_take E) (all__law_so E) (all_is_machine E) (all__law_handed E) (all__law_tupled E) (all__law_machine_changed E) (all__law_is_machine E) (all__law_letters E) (all__law_tells E) (all_tells E) (all__law_first_words E) (all_first_words E)
theorem facts {h : Heap} {f : Addr} (X : K.In h) (G : h.Ns mainGlobals mg) (hfa : mg ("law" : Str) = some (.ref f)) (c : He.SaysD fa fn K) :
    ∃ fd : FuncData, (∀ (s : Shared) (v : Value), BindsTo s fd ⟨[v], []⟩ [("script", v)]) ∧ ∀ base : Heap, K.In base → base.Ns mainGlobals mg → FnOk P w K mg base CX0 20 f fd ["script"] (sp_law K) := by
  obtain ⟨f_check_arguments, F_check_arguments⟩ := c.def_ 0 (d := dd_check_arguments) rfl
  obtain ⟨f_is_whole, F_is_whole⟩ := c.def_ 1 (d := dd_is_whole) rfl
  obtain ⟨f_is_sequence, F_is_sequence⟩ := c.def_ 2 (d := dd_is_sequence) rfl
  obtain ⟨f_is_triple, F_is_triple⟩ := c.def_ 3 (d := dd_is_triple) rfl
  obtain ⟨f_is_word, F_is_word⟩ := c.def_ 4 (d := dd_is_word) rfl
  obtain ⟨f_is_rising, F_is_rising⟩ := c.def_ 5 (d := dd_is_rising) rfl
  obtain ⟨f_is_machine, F_is_machine⟩ := c.def_ 6 (d := dd_is_machine) rfl
  obtain ⟨f_are_ends, F_are_ends⟩ := c.def_ 7 (d := dd_are_ends) rfl
  obtain ⟨f_are_moves, F_are_moves⟩ := c.def_ 8 (d := dd_are_moves) rfl
  obtain ⟨f_is_move, F_is_move⟩ := c.def_ 9 (d := dd_is_move) rfl
  obtain ⟨f_steps_of, F_steps_of⟩ := c.def_ 10 (d := dd_steps_of) rfl
  obtain ⟨f_walked, F_walked⟩ := c.def_ 11 (d := dd_walked) rfl
  obtain ⟨f_tells, F_tells⟩ := c.def_ 12 (d := dd_tells) rfl
  obtain ⟨f_first_words, F_first_words⟩ := c.def_ 13 (d := dd_first_words) rfl
  obtain ⟨f_longest_words, F_longest_words⟩ := c.def_ 14 (d := dd_longest_words) rfl
  obtain ⟨f__law_so, F__law_so⟩ := c.def_ 15 (d := dd__law_so) rfl
  obtain ⟨f__law_numbers, F__law_numbers⟩ := c.def_ 16 (d := dd__law_numbers) rfl
  obtain ⟨f__law_draw, F__law_draw⟩ := c.def_ 17 (d := dd__law_draw) rfl
  obtain ⟨f__law_take, F__law_take⟩ := c.def_ 18 (d := dd__law_take) rfl
  obtain ⟨f__law_whole, F__law_whole⟩ := c.def_ 19 (d := dd__law_whole) rfl
  obtain ⟨f__law_listed, F__law_listed⟩ := c.def_ 20 (d := dd__law_listed) rfl
  obtain ⟨f__law_tupled, F__law_tupled⟩ := c.def_ 21 (d := dd__law_tupled) rfl
  obtain ⟨f__law_handed, F__law_handed⟩ := c.def_ 22 (d := dd__law_handed) rfl
  obtain ⟨f__law_levels, F__law_levels⟩ := c.def_ 23 (d := dd__law_levels) rfl
  obtain ⟨f__law_is_string, F__law_is_string⟩ := c.def_ 24 (d := dd__law_is_string) rfl
  obtain ⟨f__law_is_machine, F__law_is_machine⟩ := c.def_ 25 (d := dd__law_is_machine) rfl
  obtain ⟨f__law_moves, F__law_moves⟩ := c.def_ 26 (d := dd__law_moves) rfl
  obtain ⟨f__law_tells, F__law_tells⟩ := c.def_ 27 (d := dd__law_tells) rfl
  obtain ⟨f__law_letters, F__law_letters⟩ := c.def_ 28 (d := dd__law_letters) rfl
  obtain ⟨f__law_few, F__law_few⟩ := c.def_ 29 (d := dd__law_few) rfl
  obtain ⟨f__law_machine, F__law_machine⟩ := c.def_ 30 (d := dd__law_machine) rfl
  obtain ⟨f__law_first_words, F__law_first_words⟩ := c.def_ 31 (d := dd__law_first_words) rfl
  obtain ⟨f__law_words_of, F__law_words_of⟩ := c.def_ 32 (d := dd__law_words_of) rfl
  obtain ⟨f__law_machine_changed, F__law_machine_changed⟩ := c.def_ 33 (d := dd__law_machine_changed) rfl
  obtain ⟨f_law, F_law⟩ := c.def_ 34 (d := dd_law) rfl
  let E : Env K mg := {
    d_check_arguments := f_check_arguments
    F_check_arguments := F_check_arguments
    g_check_arguments := He.glo_ok X G (c.fact 0 (f := .glo "check_arguments") rfl)
    d_is_whole := f_is_whole
    F_is_whole := F_is_whole
    g_is_whole := He.glo_ok X G (c.fact 1 (f := .glo "is_whole") rfl)
    d_is_sequence := f_is_sequence
    F_is_sequence := F_is_sequence
    g_is_sequence := He.glo_ok X G (c.fact 2 (f := .glo "is_sequence") rfl)
    d_is_triple := f_is_triple
    F_is_triple := F_is_triple
    g_is_triple := He.glo_ok X G (c.fact 3 (f := .glo "is_triple") rfl)
    d_is_word := f_is_word
    F_is_word := F_is_word
    g_is_word := He.glo_ok X G (c.fact 4 (f := .glo "is_word") rfl)
    d_is_rising := f_is_rising
    F_is_rising := F_is_rising
    g_is_rising := He.glo_ok X G (c.fact 5 (f := .glo "is_rising") rfl)
    d_is_machine := f_is_machine
    F_is_machine := F_is_machine
    g_is_machine := He.glo_ok X G (c.fact 6 (f := .glo "is_machine") rfl)
    d_are_ends := f_are_ends
    F_are_ends := F_are_ends
    g_are_ends := He.glo_ok X G (c.fact 7 (f := .glo "are_ends") rfl)
    d_are_moves := f_are_moves
    F_are_moves := F_are_moves
    g_are_moves := He.glo_ok X G (c.fact 8 (f := .glo "are_moves") rfl)
    d_is_move := f_is_move
    F_is_move := F_is_move
    g_is_move := He.glo_ok X G (c.fact 9 (f := .glo "is_move") rfl)
    d_steps_of := f_steps_of
    F_steps_of := F_steps_of
    g_steps_of := He.glo_ok X G (c.fact 10 (f := .glo "steps_of") rfl)
    d_walked := f_walked
    F_walked := F_walked
    g_walked := He.glo_ok X G (c.fact 11 (f := .glo "walked") rfl)
    d_tells := f_tells
    F_tells := F_tells
    g_tells := He.glo_ok X G (c.fact 12 (f := .glo "tells") rfl)
    d_first_words := f_first_words
    F_first_words := F_first_words
    g_first_words := He.glo_ok X G (c.fact 13 (f := .glo "first_words") rfl)
    d_longest_words := f_longest_words
    F_longest_words := F_longest_words
    g_longest_words := He.glo_ok X G (c.fact 14 (f := .glo "longest_words") rfl)
    d__law_so := f__law_so
    F__law_so := F__law_so
    g__law_so := He.glo_ok X G (c.fact 15 (f := .glo "_law_so") rfl)
    d__law_numbers := f__law_numbers
    F__law_numbers := F__law_numbers
    g__law_numbers := He.glo_ok X G (c.fact 16 (f := .glo "_law_numbers") rfl)
    d__law_draw := f__law_draw
    F__law_draw := F__law_draw
    g__law_draw := He.glo_ok X G (c.fact 17 (f := .glo "_law_draw") rfl)
    d__law_take := f__law_take
    F__law_take := F__law_take
    g__law_take := He.glo_ok X G (c.fact 18 (f := .glo "_law_take") rfl)
    d__law_whole := f__law_whole
    F__law_whole := F__law_whole
    g__law_whole := He.glo_ok X G (c.fact 19 (f := .glo "_law_whole") rfl)
    d__law_listed := f__law_listed
    F__law_listed := F__law_listed
    g__law_listed := He.glo_ok X G (c.fact 20 (f := .glo "_law_listed") rfl)
    d__law_tupled := f__law_tupled
    F__law_tupled := F__law_tupled
    g__law_tupled := He.glo_ok X G (c.fact 21 (f := .glo "_law_tupled") rfl)
    d__law_handed := f__law_handed
    F__law_handed := F__law_handed
    g__law_handed := He.glo_ok X G (c.fact 22 (f := .glo "_law_handed") rfl)
    d__law_levels := f__law_levels
    F__law_levels := F__law_levels
    g__law_levels := He.glo_ok X G (c.fact 23 (f := .glo "_law_levels") rfl)
    d__law_is_string := f__law_is_string
    F__law_is_string := F__law_is_string
    g__law_is_string := He.glo_ok X G (c.fact 24 (f := .glo "_law_is_string") rfl)
    d__law_is_machine := f__law_is_machine
    F__law_is_machine := F__law_is_machine
    g__law_is_machine := He.glo_ok X G (c.fact 25 (f := .glo "_law_is_machine") rfl)
    d__law_moves := f__law_moves
    F__law_moves := F__law_moves
    g__law_moves := He.glo_ok X G (c.fact 26 (f := .glo "_law_moves") rfl)
    d__law_tells := f__law_tells
    F__law_tells := F__law_tells
    g__law_tells := He.glo_ok X G (c.fact 27 (f := .glo "_law_tells") rfl)
    d__law_letters := f__law_letters
    F__law_letters := F__law_letters
    g__law_letters := He.glo_ok X G (c.fact 28 (f := .glo "_law_letters") rfl)
    d__law_few := f__law_few
    F__law_few := F__law_few
    g__law_few := He.glo_ok X G (c.fact 29 (f := .glo "_law_few") rfl)
    d__law_machine := f__law_machine
    F__law_machine := F__law_machine
    g__law_machine := He.glo_ok X G (c.fact 30 (f := .glo "_law_machine") rfl)
    d__law_first_words := f__law_first_words
    F__law_first_words := F__law_first_words
    g__law_first_words := He.glo_ok X G (c.fact 31 (f := .glo "_law_first_words") rfl)
    d__law_words_of := f__law_words_of
    F__law_words_of := F__law_words_of
    g__law_words_of := He.glo_ok X G (c.fact 32 (f := .glo "_law_words_of") rfl)
    d__law_machine_changed := f__law_machine_changed
    F__law_machine_changed := F__law_machine_changed
    g__law_machine_changed := He.glo_ok X G (c.fact 33 (f := .glo "_law_machine_changed") rfl)
    d_law := f_law
    F_law := F_law
    g_law := He.glo_ok X G (c.fact 34 (f := .glo "law") rfl)
    c_LETTERS := He.str_ok X G (c.fact 35 (f := .str "LETTERS" "abcdef") rfl)
    c_MOST_STATES := He.int_ok X G (c.fact 36 (f := .int "MOST_STATES" 8) rfl)
    c_MOST_TOLD := He.int_ok X G (c.fact 37 (f := .int "MOST_TOLD" 50) rfl)
    z_all := He.free_ok X G (c.fact 38 (f := .free "all") rfl)
    z_bool := He.free_ok X G (c.fact 39 (f := .free "bool") rfl)
    z_enumerate := He.free_ok X G (c.fact 40 (f := .free "enumerate") rfl)
    z_int := He.free_ok X G (c.fact 41 (f := .free "int") rfl)
    z_isinstance := He.free_ok X G (c.fact 42 (f := .free "isinstance") rfl)
    z_len := He.free_ok X G (c.fact 43 (f := .free "len") rfl)
    z_list := He.free_ok X G (c.fact 44 (f := .free "list") rfl)
    z_range := He.free_ok X G (c.fact 45 (f := .free "range") rfl)
    z_reversed := He.free_ok X G (c.fact 46 (f := .free "reversed") rfl)
    z_str := He.free_ok X G (c.fact 47 (f := .free "str") rfl)
    z_tuple := He.free_ok X G (c.fact 48 (f := .free "tuple") rfl) }
  have e := hfa.symm.trans E.g_law
  cases e
  have b := FunD.bindsA (ps := ["script"]) F_law fun _ _ _ _ _ _ us hl => match us, hl with | [_], _ => rfl
  exact ⟨f_law, fun s v => b s [v] rfl, fun base _ _ => all_law E⟩
end
end K15
open PySem PySem.W PySem.Calls PyProof.Rows
theorem PySem.Challenge.cw_slipworth_k15_machines_told_apart_holds : PySem.Challenge.rw_slipworth_k15_machines_told_apart.Holds := by
  w_on; o_law
  refine HandSHeadRun.head_any (r := OpenLaw.row PySem.Challenge.rw_slipworth_k15_machines_told_apart) (q := view (OpenLaw.row PySem.Challenge.rw_slipworth_k15_machines_told_apart).prog [43]) (H := K15.hk) (ob := K15.ob) (M := 2000) (loose := K15.loose) (d := HandSHeadRun.topDef (OpenLaw.row PySem.Challenge.rw_slipworth_k15_machines_told_apart).prog 43) (kwd := []) K15.ob_eq
    (by kernel_rfl) (fun s => by kernel_rfl) K15.run (by kernel_rfl) (by kernel_rfl) (by kernel_rfl) (by rfl) (by first | assumption | decide +kernel) (by decide +kernel) ⟨rfl, rfl, rfl, rfl, rfl, by decide +kernel⟩ ?hw ?hc
  case hw => w_witness2
  case hc =>
    refine L2.walk_ofE (l := PySem.Challenge.rw_slipworth_k15_machines_told_apart) (n := 63) (k := 20) (x := "script") (CX := L2.CX0) rfl (by decide) (by kernel_rfl) ⟨rfl, by decide, by decide⟩ ?F (fun _ _ _ _ z => z)
    intro w mg fa h Y G hmg0
    obtain ⟨K, KX, c⟩ := Y
    have hmg : mg ("law" : PySem.Str) = some (.ref fa) := by
      have e : (HandSHeadRun.topDef (OpenLaw.row PySem.Challenge.rw_slipworth_k15_machines_told_apart).prog 43).name = ("law" : PySem.Str) := by kernel_rfl
      rw [← e]
      exact hmg0
    obtain ⟨fd, hb, hF⟩ := K15.facts (P := (PySem.Challenge.rw_slipworth_k15_machines_told_apart).prog) (w := w) KX G hmg c
    exact ⟨K, fd, Slip.sp_law K, KX, hb, fun H a ns hl _ hS => ⟨a, ns, rfl, hS, hl, fun _ => rfl⟩, hF⟩
