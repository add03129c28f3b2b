import PyProof.Rows.All
import Wide.All
import OpenK.AllK
import Wide.FinOn
import HandS.Base
import HandS.Call
import HandS.List
import HandS.Comp
import HandS.Dict
import HandS.Iter
import HandS.Text
import HandS.Words
import HandS.Evl
import KE.DataCmp
import KE.SortData
import HandS.Walk
import HandS.IsInst
import HandS.TupAny
import HandS.TupLen
import HandS.Small
import HandS.Style
import HandS.Rev
import HandS.NoneIn
import HandS.TryOnly
import HandS.WordsDict
import HandS.WordsList
import HandS.Head0
import HandS.Head1
import HandS.Head2
import HandS.HeadEnd
import HandS.HeadHook1
import HandS.HeadHook2
import HandS.Defaults
import HandS.Conv
import HandS.More
import PySem.Challenge.RW_slipworth_k16_tables_told_apart
import HandS.WordsExc
import KE.KStateDown
set_option Elab.async false
set_option linter.all false
set_option maxRecDepth 100000
set_option maxHeartbeats 4000000
/-! rules of our own over the hand layer: one rule an operator, whatever its operands are -/
namespace Slip
open PySem PySem.Spec PyProof.Rows L2
section
variable {X : Cx} {e tg : Expr}
theorem pe_alt {t1 t2 : TE} (h1 : PE X e t1) (h2 : PE X e t2) : PE X e (fun σ H Q => t1 σ H Q ∨ t2 σ H Q) :=
  ⟨fun pins s σ H Q I h => h.elim (h1.run pins s σ H Q I) (h2.run pins s σ H Q I)⟩
theorem pi_alt {w1 w2 : TI} (h1 : PI X tg e w1) (h2 : PI X tg e w2) : PI X tg e (fun σ H R => w1 σ H R ∨ w2 σ H R) :=
  ⟨fun pins s σ H R I h => h.elim (h1.run pins s σ H R I) (h2.run pins s σ H R I)⟩
theorem pg_alt {g1 g2 : TG} (h1 : PG X e g1) (h2 : PG X e g2) : PG X e (fun v σ H Q => g1 v σ H Q ∨ g2 v σ H Q) :=
  ⟨fun pins s σ H v u Q I r h => h.elim (h1.run pins s σ H v u Q I r) (h2.run pins s σ H v u Q I r)⟩
theorem pset_alt {t1 t2 : TSet} (h1 : PSet X t1) (h2 : PSet X t2) : PSet X (fun o i v H Q => t1 o i v H Q ∨ t2 o i v H Q) :=
  fun pins s σ H o i v ov iv u Q I r1 r2 r3 h => h.elim (h1 pins s σ H o i v ov iv u Q I r1 r2 r3) (h2 pins s σ H o i v ov iv u Q I r1 r2 r3)
end
/-! ### comparisons of data -/
def rCmp (K : PySem.W.Frag) (g : PyData → PyData → Bool) : R2 := fun x y H Q => ∃ d e, Dp K H x d ∧ Dp K H y e ∧ PySem.W.alike d e = true ∧ d ≠ .none ∧ d.depth ≤ 64 ∧ Q (.bl (g d e)) H
abbrev gLt (d e : PyData) : Bool := PySem.W.dataLt d e
abbrev gGt (d e : PyData) : Bool := PySem.W.dataLt e d
abbrev gLe (d e : PyData) : Bool := !PySem.W.dataLt e d
abbrev gGe (d e : PyData) : Bool := !PySem.W.dataLt d e
section
variable {X : Cx}
theorem room_min {A : Around} {d e : PyData} (hd : d.depth ≤ 64) (hu : A.units + 64 < cLine) : A.units + min d.depth e.depth < cLine := by
  have := Nat.min_le_left d.depth e.depth
  omega
theorem op_ltD (hu : X.A.units + 64 < cLine) : OpR X (compareOp .Lt) (rCmp X.K gLt) := by
  intro pins s σ H x y v u Q I rx ry h
  obtain ⟨d, e, hd, he, al, nn, dp, q⟩ := h
  obtain ⟨as, r1⟩ := Dp.reads I d x v hd rx
  obtain ⟨bs, r2⟩ := Dp.reads I e y u he ry
  exact PySem.W.lt_data r1 r2 al nn (room_min dp hu) ⟨.bl _, H, I, rfl, q⟩
theorem op_gtD (hu : X.A.units + 64 < cLine) : OpR X (compareOp .Gt) (rCmp X.K gGt) := by
  intro pins s σ H x y v u Q I rx ry h
  obtain ⟨d, e, hd, he, al, nn, dp, q⟩ := h
  obtain ⟨as, r1⟩ := Dp.reads I d x v hd rx
  obtain ⟨bs, r2⟩ := Dp.reads I e y u he ry
  exact PySem.W.gt_data r1 r2 al nn (room_min dp hu) ⟨.bl _, H, I, rfl, q⟩
theorem op_leD (hu : X.A.units + 64 < cLine) : OpR X (compareOp .LtE) (rCmp X.K gLe) := by
  intro pins s σ H x y v u Q I rx ry h
  obtain ⟨d, e, hd, he, al, nn, dp, q⟩ := h
  obtain ⟨as, r1⟩ := Dp.reads I d x v hd rx
  obtain ⟨bs, r2⟩ := Dp.reads I e y u he ry
  exact PySem.W.le_data r1 r2 al nn (room_min dp hu) ⟨.bl _, H, I, rfl, q⟩
theorem op_geD (hu : X.A.units + 64 < cLine) : OpR X (compareOp .GtE) (rCmp X.K gGe) := by
  intro pins s σ H x y v u Q I rx ry h
  obtain ⟨d, e, hd, he, al, nn, dp, q⟩ := h
  obtain ⟨as, r1⟩ := Dp.reads I d x v hd rx
  obtain ⟨bs, r2⟩ := Dp.reads I e y u he ry
  exact PySem.W.ge_data r1 r2 al nn (room_min dp hu) ⟨.bl _, H, I, rfl, q⟩
end
/-! ### arithmetic by names -/
abbrev rSubI : R2 := rI0 fun i j => .int (i - j)
abbrev rAddI : R2 := rI0 fun i j => .int (i + j)
abbrev rAddS : R2 := fun x y H Q => ∃ i j, x = .str i ∧ y = .str j ∧ i.length + j.length ≤ sizeLine ∧ Q (.str (i ++ j)) H
/-! ### isinstance of data -/
/-- the built-in class of a datum -/
def tyD : PyData → String
  | .none => "NoneType"
  | .bool _ => "bool"
  | .int _ => "int"
  | .str _ => "str"
  | .list _ => "list"
  | .tuple _ => "tuple"
  | .dict _ => "dict"
end Slip
/-! what an expression comes to, with a relation between heaps -/
namespace Slip
open PySem PySem.Spec PyProof.Rows L2
abbrev Frag := PySem.W.Frag
/-- a list of one number, not below nought -/
def Spot (a : Addr) (H : Hp) : Prop := ∃ k : Int, 0 ≤ k ∧ H a = some (.lst [.int k])
/-- which objects may change (S), which of them stay a list of one number (P) -/
structure Rl where
  S : Addr → Prop
  P : Addr → Prop
  sub : ∀ a, P a → S a
structure Rl.r (ρ : Rl) (H H' : Hp) : Prop where
  keep : ∀ a o, ¬ ρ.S a → H a = some o → H' a = some o
  back : ∀ a, H' a = none → H a = none
  tup : ∀ a xs, H a = some (.tup xs) → H' a = some (.tup xs)
  frz : ∀ a o u, H a = some (.frz o u) → H' a = some (.frz o u)
  spot : ∀ a, ρ.P a → Spot a H → Spot a H'
abbrev exR : Rl := ⟨fun _ => False, fun _ => False, fun _ h => h⟩
abbrev spR (a : Addr) : Rl := ⟨fun b => b = a, fun b => b = a, fun _ h => h⟩
/-- D may change too -/
abbrev Rl.and (ρ : Rl) (D : Addr) : Rl := ⟨fun a => ρ.S a ∨ a = D, ρ.P, fun a h => .inl (ρ.sub a h)⟩
abbrev Ext (H H' : Hp) : Prop := ∀ a o, H a = some o → H' a = some o
theorem Ext.r {ρ : Rl} {H H' : Hp} (e : Ext H H') : ρ.r H H' :=
  ⟨fun a o _ h => e a o h, fun a h => Evl.fresh_back e h, fun a xs h => e a _ h, fun a o u h => e a _ h, fun a _ ⟨k, h0, h⟩ => ⟨k, h0, e a _ h⟩⟩
theorem Rl.r.rfl {ρ : Rl} {H : Hp} : ρ.r H H := Ext.r fun _ _ h => h
theorem Rl.r.trans {ρ : Rl} {H H1 H2 : Hp} (a : ρ.r H H1) (b : ρ.r H1 H2) : ρ.r H H2 :=
  ⟨fun x o n h => b.keep x o n (a.keep x o n h), fun x h => a.back x (b.back x h), fun x xs h => b.tup x xs (a.tup x xs h), fun x o u h => b.frz x o u (a.frz x o u h), fun x p h => b.spot x p (a.spot x p h)⟩
theorem Rl.r.ext {H H' : Hp} (e : exR.r H H') : Ext H H' := fun a o h => e.keep a o (fun z => z) h
theorem ext_new {H : Hp} {p : Addr} (o : HO) (h : H p = none) : Ext H (upd H p o) := fun a u q => by rw [upd_ne (ne_of_none q h)]; exact q
theorem r_new {ρ : Rl} {H : Hp} {p : Addr} (o : HO) (h : H p = none) : ρ.r H (upd H p o) := Ext.r (ext_new o h)
theorem r_new2 {ρ : Rl} {H H1 : Hp} (e : ρ.r H H1) {p : Addr} (o : HO) (h : H1 p = none) : ρ.r H (upd H1 p o) := e.trans (r_new o h)
/-- an object that H does not know may change, if it is no tuple, none that is locked -/
theorem r_mut {ρ : Rl} {H H1 : Hp} {p : Addr} {o : HO} (e : ρ.r H H1) (h : H p = none) : ρ.r H (upd H1 p o) :=
  ⟨fun a u n q => by rw [upd_ne (ne_of_none q h)]; exact e.keep a u n q,
   fun a q => by
    by_cases z : a = p
    · subst z; exact h
    · rw [upd_ne z] at q; exact e.back a q,
   fun a xs q => by rw [upd_ne (ne_of_none q h)]; exact e.tup a xs q, fun a u v q => by rw [upd_ne (ne_of_none q h)]; exact e.frz a u v q,
   fun a n ⟨k, h0, q⟩ => by
    obtain ⟨k', h0', q'⟩ := e.spot a n ⟨k, h0, q⟩
    exact ⟨k', h0', by rw [upd_ne (ne_of_none q h)]; exact q'⟩⟩
/-! ### sequences and data -/
/-- at a a list or a tuple of xs -/
def SqA (K : Frag) (H : Hp) (a : Addr) (xs : List V) : Prop := SqL K H a xs ∨ SqT K H a xs
theorem Rl.r.sqT {ρ : Rl} {K : Frag} {H H' : Hp} {a : Addr} {xs : List V} (e : ρ.r H H') (h : SqT K H a xs) : SqT K H' a xs := by
  rcases h with (h | ⟨o, h⟩) | h
  · exact .inl (.inl (e.tup _ _ h))
  · exact .inl (.inr ⟨o, e.frz _ _ _ h⟩)
  · exact .inr h
theorem Rl.r.sqL {ρ : Rl} {K : Frag} {H H' : Hp} {a : Addr} {xs : List V} (e : ρ.r H H') (n : ¬ ρ.S a) (h : SqL K H a xs) : SqL K H' a xs := by
  rcases h with (h | ⟨o, h⟩) | h
  · exact .inl (.inl (e.keep _ _ n h))
  · exact .inl (.inr ⟨o, e.frz _ _ _ h⟩)
  · exact .inr h
theorem ext_sqL {K : Frag} {H H' : Hp} {a : Addr} {xs : List V} (e : Ext H H') (h : SqL K H a xs) : SqL K H' a xs := Rl.r.sqL (ρ := exR) (Ext.r e) (fun z => z) h
theorem ext_sqT {K : Frag} {H H' : Hp} {a : Addr} {xs : List V} (e : Ext H H') (h : SqT K H a xs) : SqT K H' a xs := Rl.r.sqT (ρ := exR) (Ext.r e) h
theorem ext_sqA {K : Frag} {H H' : Hp} {a : Addr} {xs : List V} (e : Ext H H') (h : SqA K H a xs) : SqA K H' a xs := h.imp (ext_sqL e) (ext_sqT e)
/- data made in the heap: a list stands where A allows it -/
mutual
inductive Dq (A : Addr → Prop) (H : Hp) : V → PyData → Prop
  | non : Dq A H .non .none
  | bl (b : Bool) : Dq A H (.bl b) (.bool b)
  | int (i : Int) : Dq A H (.int i) (.int i)
  | str (x : Str) : Dq A H (.str x) (.str x)
  | lst {a : Addr} {xs : List V} {ds : List PyData} : A a → H a = some (.lst xs) → DqAll A H xs ds → Dq A H (.ref a) (.list ds)
  | tup {a : Addr} {xs : List V} {ds : List PyData} : H a = some (.tup xs) → DqAll A H xs ds → Dq A H (.ref a) (.tuple ds)
inductive DqAll (A : Addr → Prop) (H : Hp) : List V → List PyData → Prop
  | nil : DqAll A H [] []
  | cons {v : V} {vs : List V} {d : PyData} {ds : List PyData} : Dq A H v d → DqAll A H vs ds → DqAll A H (v :: vs) (d :: ds)
end
mutual
theorem Dq.dp {A : Addr → Prop} {K : Frag} {H : Hp} : ∀ (d : PyData) (v : V), Dq A H v d → Dp K H v d
  | .none, _, h => by cases h; exact .non
  | .bool b, _, h => by cases h; exact .bl b
  | .int i, _, h => by cases h; exact .int i
  | .str x, _, h => by cases h; exact .str x
  | .list ds, _, h => by cases h with | lst _ hs ha => exact .lst (.of hs) (DqAll.dp ds _ ha)
  | .tuple ds, _, h => by cases h with | tup hs ha => exact .tup (.inl (.inl hs)) (DqAll.dp ds _ ha)
  | .dict _, _, h => by cases h
theorem DqAll.dp {A : Addr → Prop} {K : Frag} {H : Hp} : ∀ (ds : List PyData) (vs : List V), DqAll A H vs ds → DpAll K H vs ds
  | [], _, h => by cases h; exact .nil
  | d :: ds, _, h => by cases h with | cons h1 h2 => exact .cons (Dq.dp d _ h1) (DqAll.dp ds _ h2)
end
mutual
theorem Dq.move {A A' : Addr → Prop} {H H' : Hp} (hl : ∀ a xs, A a → H a = some (.lst xs) → A' a ∧ H' a = some (.lst xs)) (ht : ∀ a xs, H a = some (.tup xs) → H' a = some (.tup xs)) : ∀ (d : PyData) (v : V), Dq A H v d → Dq A' H' v d
  | .none, _, h => by cases h; exact .non
  | .bool b, _, h => by cases h; exact .bl b
  | .int i, _, h => by cases h; exact .int i
  | .str x, _, h => by cases h; exact .str x
  | .list ds, _, h => by cases h with | lst n hs ha => exact .lst (hl _ _ n hs).1 (hl _ _ n hs).2 (DqAll.move hl ht ds _ ha)
  | .tuple ds, _, h => by cases h with | tup hs ha => exact .tup (ht _ _ hs) (DqAll.move hl ht ds _ ha)
  | .dict _, _, h => by cases h
theorem DqAll.move {A A' : Addr → Prop} {H H' : Hp} (hl : ∀ a xs, A a → H a = some (.lst xs) → A' a ∧ H' a = some (.lst xs)) (ht : ∀ a xs, H a = some (.tup xs) → H' a = some (.tup xs)) : ∀ (ds : List PyData) (vs : List V), DqAll A H vs ds → DqAll A' H' vs ds
  | [], _, h => by cases h; exact .nil
  | d :: ds, _, h => by cases h with | cons h1 h2 => exact .cons (Dq.move hl ht d _ h1) (DqAll.move hl ht ds _ h2)
end
/- no list within -/
mutual
def noList : PyData → Bool
  | .list _ => false
  | .tuple ds => noLists ds
  | _ => true
def noLists : List PyData → Bool
  | [] => true
  | d :: ds => noList d && noLists ds
end
mutual
theorem Dq.tups {A A' : Addr → Prop} {H H' : Hp} (ht : ∀ a xs, H a = some (.tup xs) → H' a = some (.tup xs)) : ∀ (d : PyData) (v : V), noList d = true → Dq A H v d → Dq A' H' v d
  | .none, _, _, h => by cases h; exact .non
  | .bool b, _, _, h => by cases h; exact .bl b
  | .int i, _, _, h => by cases h; exact .int i
  | .str x, _, _, h => by cases h; exact .str x
  | .list ds, _, n, h => by cases n
  | .tuple ds, _, n, h => by cases h with | tup hs ha => exact .tup (ht _ _ hs) (DqAll.tups ht ds _ (by simpa [noList] using n) ha)
  | .dict _, _, _, h => by cases h
theorem DqAll.tups {A A' : Addr → Prop} {H H' : Hp} (ht : ∀ a xs, H a = some (.tup xs) → H' a = some (.tup xs)) : ∀ (ds : List PyData) (vs : List V), noLists ds = true → DqAll A H vs ds → DqAll A' H' vs ds
  | [], _, _, h => by cases h; exact .nil
  | d :: ds, _, n, h => by
    have n' : noList d = true ∧ noLists ds = true := by simpa [noLists] using n
    cases h with | cons h1 h2 => exact .cons (Dq.tups ht d _ n'.1 h1) (DqAll.tups ht ds _ n'.2 h2)
end
theorem DqAll.length {A : Addr → Prop} {H : Hp} : ∀ {vs : List V} {ds : List PyData}, DqAll A H vs ds → vs.length = ds.length
  | _, _, .nil => rfl
  | _, _, .cons _ h => congrArg Nat.succ (DqAll.length h)
theorem DqAll.get {A : Addr → Prop} {H : Hp} : ∀ {vs : List V} {ds : List PyData} {i : Nat} {v : V}, DqAll A H vs ds → vs[i]? = some v → ∃ d, ds[i]? = some d ∧ Dq A H v d
  | _, _, i, v, .nil, e => by simp at e
  | _, _, 0, v, .cons h _, e => by simp at e; subst e; exact ⟨_, rfl, h⟩
  | _, _, i + 1, v, .cons _ h, e => by
    obtain ⟨d, e1, h1⟩ := DqAll.get (i := i) h (by simpa using e)
    exact ⟨d, by simpa using e1, h1⟩
theorem DqAll.get' {A : Addr → Prop} {H : Hp} : ∀ {vs : List V} {ds : List PyData} {i : Nat} {d : PyData}, DqAll A H vs ds → ds[i]? = some d → ∃ v, vs[i]? = some v ∧ Dq A H v d
  | _, _, i, v, .nil, e => by simp at e
  | _, _, 0, v, .cons h _, e => by simp at e; subst e; exact ⟨_, rfl, h⟩
  | _, _, i + 1, v, .cons _ h, e => by
    obtain ⟨d, e1, h1⟩ := DqAll.get' (i := i) h (by simpa using e)
    exact ⟨d, by simpa using e1, h1⟩
theorem DqAll.append {A : Addr → Prop} {H : Hp} : ∀ {vs ws : List V} {ds es : List PyData}, DqAll A H vs ds → DqAll A H ws es → DqAll A H (vs ++ ws) (ds ++ es)
  | _, _, _, _, .nil, h => h
  | _, _, _, _, .cons a t, h => .cons a (DqAll.append t h)
theorem DqAll.drop {A : Addr → Prop} {H : Hp} : ∀ {vs : List V} {ds : List PyData} (n : Nat), DqAll A H vs ds → DqAll A H (vs.drop n) (ds.drop n)
  | _, _, 0, h => h
  | _, _, _ + 1, .nil => .nil
  | _, _, n + 1, .cons _ t => DqAll.drop n t
theorem DqAll.take {A : Addr → Prop} {H : Hp} : ∀ {vs : List V} {ds : List PyData} (n : Nat), DqAll A H vs ds → DqAll A H (vs.take n) (ds.take n)
  | _, _, 0, h => .nil
  | _, _, _ + 1, .nil => .nil
  | _, _, n + 1, .cons a t => .cons a (DqAll.take n t)
/-- by places -/
theorem DqAll.of {A : Addr → Prop} {H : Hp} : ∀ {vs : List V} {ds : List PyData}, vs.length = ds.length → (∀ (i : Nat) v d, vs[i]? = some v → ds[i]? = some d → Dq A H v d) → DqAll A H vs ds
  | [], [], _, _ => .nil
  | v :: vs, d :: ds, hl, h => .cons (h 0 v d rfl rfl) (DqAll.of (by simpa using hl) fun i x y a b => h (i + 1) x y (by simpa using a) (by simpa using b))
  | [], _ :: _, hl, _ => by simp at hl
  | _ :: _, [], hl, _ => by simp at hl
/-- a datum that stays, whatever ρ lets change -/
abbrev DS (ρ : Rl) (H : Hp) (v : V) (d : PyData) : Prop := Dq (fun a => ¬ ρ.S a) H v d
abbrev DSs (ρ : Rl) (H : Hp) (vs : List V) (ds : List PyData) : Prop := DqAll (fun a => ¬ ρ.S a) H vs ds
theorem Rl.r.ds {ρ : Rl} {H H' : Hp} (e : ρ.r H H') {v : V} {d : PyData} (h : DS ρ H v d) : DS ρ H' v d := h.move (fun a _ n q => ⟨n, e.keep a _ n q⟩) e.tup
theorem Rl.r.dss {ρ : Rl} {H H' : Hp} (e : ρ.r H H') {v : List V} {d : List PyData} (h : DSs ρ H v d) : DSs ρ H' v d := h.move (fun a _ n q => ⟨n, e.keep a _ n q⟩) e.tup
theorem DS.ex {ρ : Rl} {H : Hp} {v : V} {d : PyData} (h : DS ρ H v d) : DS exR H v d := h.move (fun a _ n q => ⟨fun z => z, q⟩) fun _ _ q => q
/-- all that ρ lets change stands already -/
def Own (ρ : Rl) (H : Hp) : Prop := ∀ a, ρ.S a → H a ≠ none
theorem Own.r {ρ ρ' : Rl} {H H' : Hp} (o : Own ρ H) (e : ρ'.r H H') : Own ρ H' := fun a s n => o a s (e.back a n)
theorem Own.fresh {ρ : Rl} {H : Hp} (o : Own ρ H) {p : Addr} (n : H p = none) : ¬ ρ.S p := fun s => o p s n
theorem own_ex {H : Hp} : Own exR H := fun _ s => s.elim
theorem DS.seq {ρ : Rl} {H : Hp} {v : V} {ds : List PyData} (h : DS ρ H v (.list ds) ∨ DS ρ H v (.tuple ds)) : ∃ a xs, v = .ref a ∧ DSs ρ H xs ds ∧ ∀ (K : Frag) (H' : Hp), ρ.r H H' → SqA K H' a xs := by
  rcases h with h | h
  · cases h with | lst n hs ha => exact ⟨_, _, rfl, ha, fun K H' e => .inl (.of (e.keep _ _ n hs))⟩
  · cases h with | tup hs ha => exact ⟨_, _, rfl, ha, fun K H' e => .inr (.inl (.inl (e.tup _ _ hs)))⟩
theorem r_and {ρ : Rl} {D : Addr} {H H1 H2 : Hp} (e : ρ.r H H1) (n : H D = none) (e2 : (ρ.and D).r H1 H2) : ρ.r H H2 :=
  ⟨fun a o s h => e2.keep a o (fun z => z.elim s fun q => ne_of_none h n q) (e.keep a o s h), fun a h => e.back a (e2.back a h), fun a xs h => e2.tup a xs (e.tup a xs h), fun a o u h => e2.frz a o u (e.frz a o u h), fun a p h => e2.spot a p (e.spot a p h)⟩
theorem and_of {ρ : Rl} {D : Addr} {H H1 : Hp} (e : ρ.r H H1) : (ρ.and D).r H H1 := ⟨fun a o s h => e.keep a o (fun z => s (.inl z)) h, e.back, e.tup, e.frz, e.spot⟩
/-- D itself is changed -/
theorem r_chg {ρ : Rl} {D : Addr} {H : Hp} {xs ys : List V} (h : H D = some (.lst xs)) (n : ¬ ρ.S D) : (ρ.and D).r H (upd H D (.lst ys)) :=
  ⟨fun a o s q => by rw [upd_ne (fun z => s (.inr z))]; exact q,
   fun a q => by
    by_cases z : a = D
    · subst z; rw [upd_same] at q; cases q
    · rw [upd_ne z] at q; exact q,
   fun a xs q => by rw [upd_ne (ne_of q h (by intro z; cases z))]; exact q, fun a o u q => by rw [upd_ne (ne_of q h (by intro z; cases z))]; exact q,
   fun a p ⟨k, h0, q⟩ => ⟨k, h0, by rw [upd_ne (fun z : a = D => n (z ▸ ρ.sub a p))]; exact q⟩⟩
theorem DS.and {ρ : Rl} {D : Addr} {H : Hp} (n : H D = none) {v : V} {d : PyData} (h : DS ρ H v d) : DS (ρ.and D) H v d := h.move (fun a _ s q => ⟨fun z => z.elim s fun e => ne_of_none q n e, q⟩) fun _ _ q => q
theorem Rl.r.dsA {ρ : Rl} {D : Addr} {H H' : Hp} (e : ρ.r H H') {v : V} {d : PyData} (h : DS (ρ.and D) H v d) : DS (ρ.and D) H' v d := (and_of e).ds h
theorem DS.less {ρ : Rl} {D : Addr} {H : Hp} {v : V} {d : PyData} (h : DS (ρ.and D) H v d) : DS ρ H v d := h.move (fun a _ s q => ⟨fun z => s (.inl z), q⟩) fun _ _ q => q
theorem DSs.and {ρ : Rl} {D : Addr} {H : Hp} (n : H D = none) {v : List V} {d : List PyData} (h : DSs ρ H v d) : DSs (ρ.and D) H v d := h.move (fun a _ s q => ⟨fun z => z.elim s fun e => ne_of_none q n e, q⟩) fun _ _ q => q
theorem Own.and {ρ : Rl} {D : Addr} {H H' : Hp} (o : Own ρ H) (e : ρ.r H H') (h : H' D ≠ none) : Own (ρ.and D) H' := fun a s => s.elim (o.r e a) fun z => z ▸ h
/-! ### Ev -/
def Ev (ρ : Rl) (te : TE) (σ : L2.St) (H : Hp) (R : V → Hp → Prop) : Prop := ∀ H1, ρ.r H H1 → ∀ Q : VK, (∀ v H2, ρ.r H1 H2 → R v H2 → Q v H2) → te σ H1 Q
abbrev EvV (ρ : Rl) (te : TE) (σ : L2.St) (H : Hp) (v : V) : Prop := Ev ρ te σ H fun v' _ => v' = v
def EvT (ρ : Rl) (tt : TT) (σ : L2.St) (H : Hp) (b : Bool) : Prop := ∀ H1, ρ.r H H1 → ∀ Q : Bool → Hp → Prop, (∀ H2, ρ.r H1 H2 → Q b H2) → tt σ H1 Q
/-- a test of an unknown answer -/
def EvT2 (ρ : Rl) (tt : TT) (σ : L2.St) (H : Hp) : Prop := ∀ H1, ρ.r H H1 → ∀ Q : Bool → Hp → Prop, (∀ b H2, ρ.r H1 H2 → Q b H2) → tt σ H1 Q
def EvA (ρ : Rl) (ta : TA) (σ : L2.St) (H : Hp) (R : List V → Hp → Prop) : Prop := ∀ H1, ρ.r H H1 → ∀ Q : List V → Hp → Prop, (∀ vs H2, ρ.r H1 H2 → R vs H2 → Q vs H2) → ta σ H1 Q
abbrev EvAV (ρ : Rl) (ta : TA) (σ : L2.St) (H : Hp) (vs : List V) : Prop := EvA ρ ta σ H fun vs' _ => vs' = vs
def EvO (ρ : Rl) (to : TO) (σ : L2.St) (H : Hp) (o : Option Int) : Prop := ∀ H1, ρ.r H H1 → ∀ Q : Option Int → Hp → Prop, (∀ H2, ρ.r H1 H2 → Q o H2) → to σ H1 Q
/-- what is iterated over: n turns, Y tells each -/
def EvI (ρ : Rl) (wi : TI) (σ : L2.St) (H : Hp) (n : Nat) (Y : Nat → Hp → V → Hp → Prop) : Prop :=
  ∀ H1, ρ.r H H1 → ∀ R : It → Hp → Prop, (∀ J H2, ρ.r H1 H2 → Walk J n (fun H3 => ρ.r H2 H3) Y → R J H2) → wi σ H1 R
def RV (ρ : Rl) (r : R2) (x y : V) (H : Hp) (R : V → Hp → Prop) : Prop := ∀ H1, ρ.r H H1 → ∀ Q : VK, (∀ v H2, ρ.r H1 H2 → R v H2 → Q v H2) → r x y H1 Q
def RC (ρ : Rl) (r : List V → Hp → VK → Prop) (vs : List V) (H : Hp) (R : V → Hp → Prop) : Prop := ∀ H1, ρ.r H H1 → ∀ Q : VK, (∀ v H2, ρ.r H1 H2 → R v H2 → Q v H2) → r vs H1 Q
def SpR (ρ : Rl) (sp : Sp) (vs : List V) (H : Hp) (R : V → Hp → Prop) : Prop := ∀ H1, ρ.r H H1 → ∀ Q : VK, (∀ v H2, ρ.r H1 H2 → R v H2 → Q v H2) → ∀ E : XK, sp vs H1 Q E
section
variable {ρ : Rl} {K : Frag} {σ : L2.St} {H H' : Hp} {ta tb te tx : TE} {t u : TT} {x y z v : V} {r : R2} {R R' Ra Rb : V → Hp → Prop}
theorem Ev.mono (e : ρ.r H H') (h : Ev ρ te σ H R) : Ev ρ te σ H' R := fun H1 a Q q => h H1 (e.trans a) Q q
theorem EvT.mono {b : Bool} (e : ρ.r H H') (h : EvT ρ t σ H b) : EvT ρ t σ H' b := fun H1 a Q q => h H1 (e.trans a) Q q
theorem Ev.imp (h : Ev ρ te σ H R) (f : ∀ v H1, ρ.r H H1 → R v H1 → R' v H1) : Ev ρ te σ H R' := fun H1 a Q q => h H1 a Q fun v H2 e r => q v H2 e (f v H2 (a.trans e) r)
theorem Ev.val (h : EvV ρ te σ H v) (e : v = x) : EvV ρ te σ H x := by rw [← e]; exact h
theorem EvT.to {a b : Bool} (h : EvT ρ t σ H a) (e : a = b) : EvT ρ t σ H b := by rw [← e]; exact h
theorem ev_var {i : Nat} (h : σ[i]? = some (some v)) : EvV ρ (tVar i) σ H v := fun H1 _ _ q => ⟨v, h, q v H1 .rfl rfl⟩
theorem ev_c : EvV ρ (tC v) σ H v := fun H1 _ _ q => q v H1 .rfl rfl
theorem ev_op (ha : EvV ρ ta σ H x) (hb : EvV ρ tb σ H y) (hr : RV ρ r x y H R) : Ev ρ (tOp r ta tb) σ H R := fun H1 e Q q =>
  ha H1 e _ fun _ H2 e2 h2 => by
    subst h2
    exact hb H2 (e.trans e2) _ fun _ H3 e3 h3 => by
      subst h3
      exact hr H3 ((e.trans e2).trans e3) Q fun v H4 e4 rv => q v H4 ((e2.trans e3).trans e4) rv
/-- operands that may be new -/
theorem ev_op2 (ha : Ev ρ ta σ H Ra) (hb : ∀ x H1, ρ.r H H1 → Ra x H1 → Ev ρ tb σ H1 Rb) (hr : ∀ x y H1 H2, ρ.r H H1 → ρ.r H1 H2 → Ra x H1 → Rb y H2 → RV ρ r x y H2 R) : Ev ρ (tOp r ta tb) σ H R := fun H1 e Q q =>
  ha H1 e _ fun x H2 e2 rx => hb x H2 (e.trans e2) rx H2 .rfl _ fun y H3 e3 ry => hr x y H2 H3 (e.trans e2) e3 rx ry H3 .rfl Q fun v H4 e4 rv => q v H4 ((e2.trans e3).trans e4) rv
theorem RV.const (h : ∀ H1, ρ.r H H1 → ∀ Q : VK, Q z H1 → r x y H1 Q) : RV ρ r x y H (fun v' _ => v' = z) := fun H1 e Q q => h H1 e Q (q z H1 .rfl rfl)
theorem ea_nil : EvAV ρ tNil σ H [] := fun H1 _ _ q => q [] H1 .rfl rfl
theorem ea_cons {tr : TA} {vs : List V} (h : EvV ρ ta σ H x) (hr : EvAV ρ tr σ H vs) : EvAV ρ (tCons ta tr) σ H (x :: vs) := fun H1 e _ q =>
  h H1 e _ fun _ H2 e2 h2 => by
    subst h2
    exact hr H2 (e.trans e2) _ fun _ H3 e3 h3 => by
      subst h3
      exact q _ H3 (e2.trans e3) rfl
/-- the first argument new, then the rest -/
theorem ea_consR {tr : TA} {Rr : V → List V → Hp → Prop} (h : Ev ρ ta σ H Ra) (hr : ∀ x H1, ρ.r H H1 → Ra x H1 → EvA ρ tr σ H1 (Rr x)) : EvA ρ (tCons ta tr) σ H (fun vs H2 => ∃ x ws, vs = x :: ws ∧ Rr x ws H2) := fun H1 e _ q =>
  h H1 e _ fun x H2 e2 rx => hr x H2 (e.trans e2) rx H2 .rfl _ fun ws H3 e3 rw' => q _ H3 (e2.trans e3) ⟨x, ws, rfl, rw'⟩
/-- one argument, new -/
theorem ea_one (h : Ev ρ ta σ H Ra) : EvA ρ (tCons ta tNil) σ H (fun vs H2 => ∃ x, vs = [x] ∧ Ra x H2) := fun H1 e _ q =>
  h H1 e _ fun x H2 e2 rx => q _ H2 e2 ⟨x, rfl, rx⟩
theorem EvA.imp {tr : TA} {Rr Rr' : List V → Hp → Prop} (h : EvA ρ tr σ H Rr) (f : ∀ vs H1, ρ.r H H1 → Rr vs H1 → Rr' vs H1) : EvA ρ tr σ H Rr' := fun H1 a Q q => h H1 a Q fun v H2 e r => q v H2 e (f v H2 (a.trans e) r)
theorem ev_tup {ta : TA} {Rr : List V → Hp → Prop} (h : EvA ρ ta σ H Rr) (hl : ∀ vs H1, ρ.r H H1 → Rr vs H1 → vs.length ≤ 100000) : Ev ρ (tTup ta) σ H (fun v H2 => ∃ p vs H1, v = .ref p ∧ Rr vs H1 ∧ H1 p = none ∧ ρ.r H H1 ∧ H2 = upd H1 p (.tup vs)) := fun H1 e _ q =>
  h H1 e _ fun vs H2 e2 rv => ⟨Evl.sz_of (hl vs H2 (e.trans e2) rv), fun p hp => q _ _ (r_new2 e2 _ hp) ⟨p, vs, H2, rfl, rv, hp, e.trans e2, rfl⟩⟩
theorem ev_lst {ta : TA} {Rr : List V → Hp → Prop} (h : EvA ρ ta σ H Rr) (hl : ∀ vs H1, ρ.r H H1 → Rr vs H1 → vs.length ≤ 100000) : Ev ρ (tLst ta) σ H (fun v H2 => ∃ p vs H1, v = .ref p ∧ Rr vs H1 ∧ H1 p = none ∧ ρ.r H H1 ∧ H2 = upd H1 p (.lst vs)) := fun H1 e _ q =>
  h H1 e _ fun vs H2 e2 rv => ⟨Evl.sz_of (hl vs H2 (e.trans e2) rv), fun p hp => q _ _ (r_new2 e2 _ hp) ⟨p, vs, H2, rfl, rv, hp, e.trans e2, rfl⟩⟩
theorem ev_cb {r : List V → Hp → VK → Prop} {ta : TA} {Rr : List V → Hp → Prop} (h : EvA ρ ta σ H Rr) (hr : ∀ vs H1, ρ.r H H1 → Rr vs H1 → RC ρ r vs H1 R) : Ev ρ (tCB r ta) σ H R := fun H1 e Q q =>
  h H1 e _ fun vs H2 e2 rv => hr vs H2 (e.trans e2) rv H2 .rfl Q fun v H3 e3 rx => q v H3 (e2.trans e3) rx
theorem ev_cbV {r : List V → Hp → VK → Prop} {ta : TA} {vs : List V} (h : EvAV ρ ta σ H vs) (hr : RC ρ r vs H R) : Ev ρ (tCB r ta) σ H R := fun H1 e Q q =>
  h H1 e _ fun _ H2 e2 rv => by
    subst rv
    exact hr H2 (e.trans e2) Q fun v H3 e3 rx => q v H3 (e2.trans e3) rx
theorem ev_call {sp : Sp} {E : XK} {ta : TA} {vs : List V} (h : EvAV ρ ta σ H vs) (hs : SpR ρ sp vs H R) : Ev ρ (tCall sp [] E ta) σ H R := fun H1 e Q q =>
  h H1 e _ fun _ H2 e2 rv => by
    subst rv
    rw [List.append_nil]
    exact hs H2 (e.trans e2) Q (fun v H3 e3 rx => q v H3 (e2.trans e3) rx) E
theorem ev_callR {sp : Sp} {E : XK} {ta : TA} {Rr : List V → Hp → Prop} (h : EvA ρ ta σ H Rr) (hs : ∀ vs H1, ρ.r H H1 → Rr vs H1 → SpR ρ sp vs H1 R) : Ev ρ (tCall sp [] E ta) σ H R := fun H1 e Q q =>
  h H1 e _ fun vs H2 e2 rv => by
    rw [List.append_nil]
    exact hs vs H2 (e.trans e2) rv H2 .rfl Q (fun v H3 e3 rx => q v H3 (e2.trans e3) rx) E
theorem ev_callK {sp : Sp} {E : XK} {ta tk : TA} {vs zs : List V} {gV : List V → List V → List V} (h : EvAV ρ ta σ H vs) (hk : EvAV ρ tk σ H zs) (hs : SpR ρ sp (gV vs zs) H R) : Ev ρ (tCallK sp gV E ta tk) σ H R := fun H1 e Q q =>
  h H1 e _ fun _ H2 e2 rv => by
    subst rv
    exact hk H2 (e.trans e2) _ fun _ H3 e3 rz => by
      subst rz
      exact hs H3 ((e.trans e2).trans e3) Q (fun v H4 e4 rx => q v H4 ((e2.trans e3).trans e4) rx) E
theorem et_test {b : Bool} (h : EvV ρ te σ H (.bl b)) : EvT ρ (tTest te) σ H b := fun H1 e _ q => h H1 e _ fun v H2 e2 hv => ⟨b, hv, q H2 e2⟩
theorem et_B {b : Bool} (h : EvV ρ te σ H (.bl b)) : EvT ρ (tB te) σ H b := fun H1 e _ q => h H1 e _ fun v H2 e2 hv => ⟨b, hv, q H2 e2⟩
theorem et_not {a : Bool} (h1 : EvT ρ t σ H a) : EvT ρ (tNot t) σ H (!a) := fun H1 e _ q => h1 H1 e _ fun H2 e2 => q H2 e2
theorem et_and {a b : Bool} (h1 : EvT ρ t σ H a) (h2 : a = true → EvT ρ u σ H b) : EvT ρ (tAnd t u) σ H (a && b) := fun H1 e Q q => h1 H1 e _ fun H2 e2 => by
  cases a with
  | true => show u σ H2 Q; exact h2 rfl H2 (e.trans e2) Q fun H3 e3 => q H3 (e2.trans e3)
  | false => show Q false H2; exact q H2 e2
theorem et_or {a b : Bool} (h1 : EvT ρ t σ H a) (h2 : a = false → EvT ρ u σ H b) : EvT ρ (tOr t u) σ H (a || b) := fun H1 e Q q => h1 H1 e _ fun H2 e2 => by
  cases a with
  | true => show Q true H2; exact q H2 e2
  | false => show u σ H2 Q; exact h2 rfl H2 (e.trans e2) Q fun H3 e3 => q H3 (e2.trans e3)
theorem ev_andV {a b : Bool} (h1 : EvV ρ ta σ H (.bl a)) (h2 : a = true → EvV ρ tb σ H (.bl b)) : EvV ρ (tAndV ta tb) σ H (.bl (a && b)) := fun H1 e Q q => h1 H1 e _ fun v H2 e2 hv => ⟨a, hv, by
  cases a with
  | true => show tb σ H2 Q; exact h2 rfl H2 (e.trans e2) Q fun v' H3 e3 hv' => q _ H3 (e2.trans e3) hv'
  | false => show Q (.bl false) H2; exact q _ H2 e2 rfl⟩
theorem ev_orV {a b : Bool} (h1 : EvV ρ ta σ H (.bl a)) (h2 : a = false → EvV ρ tb σ H (.bl b)) : EvV ρ (tOrV ta tb) σ H (.bl (a || b)) := fun H1 e Q q => h1 H1 e _ fun v H2 e2 hv => ⟨a, hv, by
  cases a with
  | true => show Q (.bl true) H2; exact q _ H2 e2 rfl
  | false => show tb σ H2 Q; exact h2 rfl H2 (e.trans e2) Q fun v' H3 e3 hv' => q _ H3 (e2.trans e3) hv'⟩
theorem ev_notV {a : Bool} (h1 : EvV ρ ta σ H (.bl a)) : EvV ρ (tNotV ta) σ H (.bl (!a)) := fun H1 e _ q => h1 H1 e _ fun v H2 e2 hv => ⟨a, hv, q _ H2 e2 rfl⟩
theorem ev_if {b : Bool} (h : EvT ρ t σ H b) (h1 : b = true → Ev ρ ta σ H R) (h2 : b = false → Ev ρ tb σ H R) : Ev ρ (tIf t ta tb) σ H R := fun H1 e Q q => h H1 e _ fun H2 e2 => by
  cases b with
  | true => show ta σ H2 Q; exact h1 rfl H2 (e.trans e2) Q fun v H3 e3 rv => q v H3 (e2.trans e3) rv
  | false => show tb σ H2 Q; exact h2 rfl H2 (e.trans e2) Q fun v H3 e3 rv => q v H3 (e2.trans e3) rv
theorem eo_none : EvO ρ tNoPart σ H none := fun H1 _ _ q => q H1 .rfl
theorem eo_some {i : Int} (h : EvV ρ te σ H (.int i)) : EvO ρ (tPart te) σ H (some i) := fun H1 e _ q => h H1 e _ fun v H2 e2 hv => ⟨i, hv, q H2 e2⟩
/-! ### statements -/
variable {D : Ends} {tu tw tz : TS}
theorem s_ret (h : Ev ρ te σ H R) (k : ∀ v H1, ρ.r H H1 → R v H1 → D.rt v H1) : tRet te D σ H := h H .rfl _ fun v H1 e rv => k v H1 e rv
theorem s_retV (h : EvV ρ te σ H v) (k : ∀ H1, ρ.r H H1 → D.rt v H1) : tRet te D σ H := h H .rfl _ fun v' H1 e rv => by subst rv; exact k H1 e
theorem s_seq (h : tu { D with nx := tz D } σ H) : tSeq tu tz D σ H := h
theorem s_asg {i : Nat} (h : Ev ρ te σ H R) (k : ∀ v H1, ρ.r H H1 → R v H1 → D.nx (σ.set i (some v)) H1) : tAsg te (gName i) D σ H := h H .rfl _ fun v H1 e rv => k v H1 e rv
theorem q_asg {i : Nat} (h : Ev ρ te σ H R) (k : ∀ v H1, ρ.r H H1 → R v H1 → tz D (σ.set i (some v)) H1) : tSeq (tAsg te (gName i)) tz D σ H := h H .rfl _ fun v H1 e rv => k v H1 e rv
theorem q_asgV {i : Nat} (h : EvV ρ te σ H v) (k : ∀ H1, ρ.r H H1 → tz D (σ.set i (some v)) H1) : tSeq (tAsg te (gName i)) tz D σ H := h H .rfl _ fun v' H1 e rv => by subst rv; exact k H1 e
theorem s_asgV {i : Nat} (h : EvV ρ te σ H v) (k : ∀ H1, ρ.r H H1 → D.nx (σ.set i (some v)) H1) : tAsg te (gName i) D σ H := h H .rfl _ fun v' H1 e rv => by subst rv; exact k H1 e
theorem s_if {b : Bool} (h : EvT ρ t σ H b) (h1 : b = true → ∀ H1, ρ.r H H1 → tu D σ H1) (h2 : b = false → ∀ H1, ρ.r H H1 → tw D σ H1) : tIfS t tu tw D σ H := h H .rfl _ fun H1 e => by
  cases b with
  | true => show tu D σ H1; exact h1 rfl H1 e
  | false => show tw D σ H1; exact h2 rfl H1 e
theorem q_if {b : Bool} (h : EvT ρ t σ H b) (h1 : b = true → ∀ H1, ρ.r H H1 → tu { D with nx := tz D } σ H1) (h2 : b = false → ∀ H1, ρ.r H H1 → tw { D with nx := tz D } σ H1) : tSeq (tIfS t tu tw) tz D σ H := s_if (D := { D with nx := tz D }) h h1 h2
theorem q_when {b : Bool} (h : EvT ρ t σ H b) (h1 : b = true → ∀ H1, ρ.r H H1 → tu { D with nx := tz D } σ H1) (h2 : b = false → ∀ H1, ρ.r H H1 → tz D σ H1) : tSeq (tIfS t tu tNext) tz D σ H := s_if (D := { D with nx := tz D }) h h1 h2
theorem s_drop (h : Ev ρ te σ H R) (k : ∀ v H1, ρ.r H H1 → R v H1 → D.nx σ H1) : tDrop te D σ H := h H .rfl _ fun v H1 e rv => k v H1 e rv
theorem q_drop (h : Ev ρ te σ H R) (k : ∀ v H1, ρ.r H H1 → R v H1 → tz D σ H1) : tSeq (tDrop te) tz D σ H := h H .rfl _ fun v H1 e rv => k v H1 e rv
/-! ### loops -/
variable {wi : TI} {g : TG} {n : Nat} {Y : Nat → Hp → V → Hp → Prop}
theorem s_for (h : EvI ρ wi σ H n Y) (k : ∀ H1, ρ.r H H1 → ∃ Pv : Nat → L2.St → Hp → Prop, Pv 0 σ H1 ∧ (∀ i σ' H', i ≤ n → Pv i σ' H' → ρ.r H1 H') ∧
    (∀ i x σ' H' H'', i < n → Pv i σ' H' → Y i H' x H'' → g x σ' H'' fun σ2 H2 => tu { D with nx := Pv (i + 1), ct := Pv (i + 1), bk := D.nx } σ2 H2) ∧ ∀ σ' H', Pv n σ' H' → D.nx σ' H') : tFor wi g tu D σ H :=
  h H .rfl _ fun J H1 e w => by
    obtain ⟨Pv, h0, hr, hs, hd⟩ := k H1 e
    exact for_it w Pv h0 hr hs hd
theorem q_for (h : EvI ρ wi σ H n Y) (k : ∀ H1, ρ.r H H1 → ∃ Pv : Nat → L2.St → Hp → Prop, Pv 0 σ H1 ∧ (∀ i σ' H', i ≤ n → Pv i σ' H' → ρ.r H1 H') ∧
    (∀ i x σ' H' H'', i < n → Pv i σ' H' → Y i H' x H'' → g x σ' H'' fun σ2 H2 => tu { D with nx := Pv (i + 1), ct := Pv (i + 1), bk := tz D } σ2 H2) ∧ ∀ σ' H', Pv n σ' H' → tz D σ' H') : tSeq (tFor wi g tu) tz D σ H :=
  s_for (D := { D with nx := tz D }) h k
end
end Slip
/-! one rule a construct, whatever stands in it; the names that the generator prints -/
namespace Slip
open PySem PySem.Spec PyProof.Rows L2
section
variable {X : Cx} {a b e tg : Expr} {pos : Pos} {ta tb te : TE}
/-! ### + - * // % ** -/
def rAddStr : R2 := fun x y H Q => ∃ i j, x = .str i ∧ y = .str j ∧ i.length + j.length ≤ sizeLine ∧ Q (.str (i ++ j)) H
def rAddU (K : Frag) : R2 := fun x y H Q => rAddI x y H Q ∨ (rAddStr x y H Q ∨ (rCatA K x y H Q ∨ rCat x y H Q))
theorem op_addU : OpR X (binaryOp .Add) (rAddU X.K) := OpR.or (r := rAddI) op_add (OpR.or (r := rAddStr) op_add_str (OpR.or op_catA op_cat))
abbrev rMulI : R2 := rI CMul fun i j => .int (i * j)
theorem op_mulI : OpR X (binaryOp .Mult) rMulI := op_mul
abbrev rModI : R2 := rI (fun _ j => 0 < j) fun i j => .int (i % j)
theorem op_modI : OpR X (binaryOp .Mod) rModI := op_mod
abbrev rFdivI : R2 := rI CDiv fun i j => .int (i / j)
theorem op_fdivI : OpR X (binaryOp .FloorDiv) rFdivI := op_fdiv
abbrev rPowI : R2 := rI CPow fun i j => .int (i ^ j.toNat)
theorem op_powI : OpR X (binaryOp .Pow) rPowI := op_pow
abbrev rNegI : V → Hp → VK → Prop := rU fun i => .int (-i)
theorem un_negI : UnR X (unaryOp .USub) rNegI := un_neg
abbrev rAugAdd : TIp := ipI fun i j => i + j
theorem ip_augAdd : PIp X .Add rAugAdd := ip_add
/-! ### == -/
def rEqU (K : Frag) : R2 := fun x y H Q => rEq x y H Q ∨ rEqD K x y H Q
def rNeU (K : Frag) : R2 := fun x y H Q => rNe x y H Q ∨ rNeD K x y H Q
theorem op_eqU (hu : X.A.units + 64 < cLine) : OpR X (compareOp .Eq) (rEqU X.K) := OpR.or op_eq (op_eqD hu)
theorem op_neU (hu : X.A.units + 64 < cLine) : OpR X (compareOp .NotEq) (rNeU X.K) := OpR.or op_ne (op_neD hu)
/-! ### is None -/
def rIsN : R2 := fun x y H Q => y = .non ∧ Q (.bl (decide (x = .non))) H
def rNotN : R2 := fun x y H Q => y = .non ∧ Q (.bl (!decide (x = .non))) H
theorem op_isN1 : OpR X (compareOp .Is) rIsN := op_isN
theorem op_notN1 : OpR X (compareOp .IsNot) rNotN := op_notN
/-! ### in -/
def rInS : R2 := fun x y H Q => ∃ (c : Nat) (z : Str), x = .str ⟨#[c]⟩ ∧ y = .str z ∧ Q (.bl (decide (c ∈ z.cps.toList))) H
def rNotInS : R2 := fun x y H Q => ∃ (c : Nat) (z : Str), x = .str ⟨#[c]⟩ ∧ y = .str z ∧ Q (.bl (!decide (c ∈ z.cps.toList))) H
def rInD : R2 := fun x y H Q => ∃ a o, y = .ref a ∧ DGet H a x o ∧ Q (.bl o.isSome) H
def rNotInD : R2 := fun x y H Q => ∃ a o, y = .ref a ∧ DGet H a x o ∧ Q (.bl (!o.isSome)) H
theorem op_inD (hu : X.A.units + 1 < cLine) : OpR X (compareOp .In) rInD := by
  intro pins s σ H x y v u Q I rx ry h
  obtain ⟨a, o, rfl, g, q⟩ := h
  obtain rfl : u = Value.ref a := ry
  exact d_in hu I g rx fun s3 I3 => ⟨.bl o.isSome, H, I3, rfl, q⟩
theorem op_notInD (hu : X.A.units + 1 < cLine) : OpR X (compareOp .NotIn) rNotInD := by
  intro pins s σ H x y v u Q I rx ry h
  obtain ⟨a, o, rfl, g, q⟩ := h
  obtain rfl : u = Value.ref a := ry
  exact d_notIn hu I g rx fun s3 I3 => ⟨.bl (!o.isSome), H, I3, rfl, q⟩
def rInU (K : Frag) : R2 := fun x y H Q => rIn K false x y H Q ∨ (rInS x y H Q ∨ rInD x y H Q)
def rNotInU (K : Frag) : R2 := fun x y H Q => rIn K true x y H Q ∨ (rNotInS x y H Q ∨ rNotInD x y H Q)
theorem op_inU (hu : X.A.units + 1 < cLine) : OpR X (compareOp .In) (rInU X.K) := OpR.or op_in_seq (OpR.or (r := rInS) op_in_sign (op_inD hu))
theorem op_notInU (hu : X.A.units + 1 < cLine) : OpR X (compareOp .NotIn) (rNotInU X.K) := OpR.or op_notIn_seq (OpR.or (r := rNotInS) op_notIn_sign (op_notInD hu))
/-! ### subscripts, slices -/
def tIxU (K : Frag) (ta tb : TE) : TE := fun σ H Q => tOp (rIx K) ta tb σ H Q ∨ tDGet ta tb σ H Q
theorem pe_ixU (hu : X.A.units + 1 < cLine) (ha : PE X a ta) (hb : PE X b tb) (hs : PlainIx b) (hn : NoSl b) : PE X (.Subscript a b pos) (tIxU X.K ta tb) :=
  pe_alt (pe_ix ix_seq ha hb hs) (pe_dget hu ha hb hn)
def rSlU (K : Frag) : V → Option Int → Option Int → Hp → VK → Prop := fun x lo hi H Q => rSlL K x lo hi H Q ∨ (rSlA K x lo hi H Q ∨ rSlS x lo hi H Q)
theorem sl_U : SlR X (rSlU X.K) := SlR.or sl_list (SlR.or sl_tupA sl_str)
/-! ### what a for walks, targets, stores -/
def iSeq (K : Frag) (te : TE) : TI := fun σ H R => iList K te σ H R ∨ (iTup K te σ H R ∨ iStr te σ H R)
theorem pi_seq (h : PE X e te) : PI X tg e (iSeq X.K te) := pi_alt (pi_list h) (pi_alt (pi_tup h) (pi_str h))
def gSeq (K : Frag) (n : Nat) (t : TGs) : TG := fun v σ H Q => gTup K n t v σ H Q ∨ gLst K n t v σ H Q
theorem pg_seq {es : List Expr} {k : Nat} {t : TGs} {n : Nat} (hc : X.calm = true) (h : PGs X es t)
    (hn : (assignEach es X.env).length = n := by rfl) (hst : (assignEach es X.env).findIdx? (·.1) = none := by rfl) : PG X (.Tuple es k pos) (gSeq X.K n t) := pg_alt (pg_tup hc h hn hst) (pg_lst hc h hn hst)
def rSetU (K : Frag) : TSet := fun o i v H Q => rSetL o i v H Q ∨ rSetD o i v H Q
theorem set_U {K : Frag} (hu : X.A.units + 1 < cLine) : PSet X (rSetU K) := pset_alt set_list (set_dict hu)
/-! ### built-in functions -/
abbrev RCa := List V → Hp → VK → Prop
def rLenV (K : Frag) : RCa := fun xs H Q => ∃ x n, xs = [x] ∧ LenV K x H n ∧ Q (.int n) H
def rLenDK : RCa := fun xs H Q => ∃ a kvs, xs = [V.ref a] ∧ H a = some (.dK kvs) ∧ Q (.int kvs.length) H
def rLenU (K : Frag) : RCa := fun xs H Q => rLenV K xs H Q ∨ (rLenDK xs H Q ∨ rLenT xs H Q)
theorem call_lenU : CallR X (.builtin "len") (rLenU X.K) := CallR.or (r := rLenV X.K) call_len (CallR.or (r := rLenDK) call_lenD call_len_dT)
def rIntOf : RCa := fun xs H Q => (∃ i, xs = [.int i] ∧ Q (.int i) H) ∨ ∃ k, xs = [.bl k] ∧ Q (.int (if k then 1 else 0)) H
theorem call_intOf : CallR X (.type "int") rIntOf := call_int1
def rTupOf (K : Frag) : RCa := fun xs H Q => ∃ p ys, xs = [.ref p] ∧ ((SqL K H p ys ∧ ∀ l, H l = none → Q (.ref l) (upd H l (.tup ys))) ∨ (SqT K H p ys ∧ Q (.ref p) H))
theorem call_tupOf : CallR X (.type "tuple") (rTupOf X.K) := call_tuple_of
def rLstOf (K : Frag) : RCa := fun xs H Q => ∃ p ys, xs = [.ref p] ∧ (SqL K H p ys ∨ SqT K H p ys) ∧ ∀ l, H l = none → Q (.ref l) (upd H l (.lst ys))
theorem call_lstOf : CallR X (.type "list") (rLstOf X.K) := call_list_of
def rMin2' : RCa := fun xs H Q => ∃ i j, xs = [.int i, .int j] ∧ Q (.int (if j < i then j else i)) H
theorem call_min2' (hc : X.calm = true) : CallR X (.builtin "min") rMin2' := call_min2 hc
/-! ### isinstance -/
def isiB (d : PyData) (n : String) : Bool := tyD d == n || (tyD d == "bool" && n == "int")
def isiAny (d : PyData) (ns : List String) : Bool := ns.any (isiB d)
def good (n : String) : Bool := n == "int" || n == "bool" || n == "str" || n == "list" || n == "tuple"
theorem kit_good (d : PyData) (n : String) (h : good n = true) : kitB (tyD d) n = some (isiB d n) := by
  have hn : n = "int" ∨ n = "bool" ∨ n = "str" ∨ n = "list" ∨ n = "tuple" := by
    simp only [good, Bool.or_eq_true, beq_iff_eq] at h
    rcases h with (((h | h) | h) | h) | h <;> simp [h]
  rcases hn with rfl | rfl | rfl | rfl | rfl <;> cases d <;> (dsimp only [isiB, tyD]; decide +kernel)
theorem dp_ty {K : Frag} {H : Hp} {v : V} {d : PyData} (h : Dp K H v d) : TyX K H v (.type (tyD d)) := by
  cases h with
  | non => exact .base .non
  | bl b => exact .base (.bl b)
  | int i => exact .base (.int i)
  | str x => exact .base (.str x)
  | lst hs ha =>
    rcases hs with (hs | ⟨o, hs⟩) | ⟨o, its, n, hk, hc, _⟩
    · exact .base (.lst hs)
    · exact .base (.frz hs)
    · exact .kList hk hc
  | tup hs ha =>
    rcases hs with (hs | ⟨o, hs⟩) | ⟨o, its, n, hk, hc, _⟩
    · exact .base (.tup hs)
    · exact .fTuple hs
    · exact .kTuple hk hc
def rIsi1 (K : Frag) : RCa := fun xs H Q => ∃ x n d, xs = [x, .ty n] ∧ Dp K H x d ∧ good n = true ∧ Q (.bl (isiB d n)) H
def rIsi2 (K : Frag) : RCa := fun xs H Q => ∃ x p ns d, xs = [x, .ref p] ∧ H p = some (.tup (ns.map V.ty)) ∧ Dp K H x d ∧ (ns.all good) = true ∧ Q (.bl (isiAny d ns)) H
def rIsiU (K : Frag) : RCa := fun xs H Q => rIsi1 K xs H Q ∨ rIsi2 K xs H Q
theorem kit_all (K : Frag) (d : PyData) : ∀ ns : List String, ns.all good = true → PySem.W.kitAny K (.type (tyD d)) (ns.map Value.type) = some (isiAny d ns)
  | [], _ => rfl
  | n :: ns, h => by
    have h' : good n = true ∧ ns.all good = true := by simpa using h
    have ih := kit_all K d ns h'.2
    refine kitAny_cons (kit_ty (kit_good d n h'.1)) (fun e => ?_) (fun e => ?_)
    · rw [ih]; unfold isiAny; rw [List.any_cons, e, Bool.false_or]
    · unfold isiAny; rw [List.any_cons, e, Bool.true_or]
theorem cls_all : ∀ ns : List String, Paired ClsV (ns.map V.ty) (ns.map Value.type)
  | [] => .nil
  | n :: ns => .cons (.ty n) (cls_all ns)
theorem call_isiU : CallR X (.builtin "isinstance") (rIsiU X.K) := by
  refine CallR.or (fun pins s σ H xs us Q I r h => ?_) (fun pins s σ H xs us Q I r h => ?_)
  · obtain ⟨x, n, d, rfl, hd, g, q⟩ := h
    exact call_isi pins s σ H _ us Q I r ⟨x, _, _, _, _, rfl, .ty n, dp_ty hd, kit_ty (kit_good d n g), q⟩
  · obtain ⟨x, p, ns, d, rfl, hp, hd, g, q⟩ := h
    exact call_isiT pins s σ H _ us Q I r ⟨x, p, _, _, _, _, rfl, hp, cls_all ns, dp_ty hd, kit_all X.K d ns g, q⟩
/-! ### calls with keywords -/
/-- n values, then the keywords ks, each a parameter behind them -/
def KwTo (fd : FuncData) (ps : List Str) (n : Nat) (ks : List Str) : Prop := ∀ (s : Shared) (us ws : List Value), us.length = n → ws.length = ks.length → BindsTo s fd ⟨us, ks.zip ws⟩ (ps.zip (us ++ ws))
theorem run_kw {CX : CXT} {E : XK} {f : Addr} {fd : FuncData} {ps ks : List Str} {k n : Nat} {sp : Sp} {pins : List (Addr × Obj)} {σ : L2.St} {H : Hp} {s : Shared} {Q : VK} {us ws : List Value} {vs zs : List V} (F : FnOk X.prog X.w X.K X.mg X.base CX k f fd ps sp) (hr : Room k X.A) (hb : KwTo fd ps n ks) (hx : Passes CX X E)
    (I : Inv X pins σ H s) (hn : us.length = n) (hk : ps.length = n + ks.length) (r : Vals vs us) (rz : Vals zs ws) (h : sp (vs ++ zs) H Q E) : wpAny (model X.prog X.w) X.A (call (.ref f) us (ks.zip ws)) (EP X pins σ Q) X.xe s := by
  have r2 : Vals (vs ++ zs) (us ++ ws) := r.append rz
  have hl : (us ++ ws).length = ps.length := by rw [← r2.length]; exact F.len _ _ _ _ h
  have hw : ws.length = ks.length := by rw [List.length_append] at hl; omega
  refine wpAny_call (codeAny_mono (F.run X.A X.stack s H ⟨us, ks.zip ws⟩ (us ++ ws) (vs ++ zs) Q E hr I.env0 (hb s us ws hn hw) r2 h) fun r s' hq => ?_)
  cases r with
  | error e => exact hx pins σ H s e s' I hq
  | ok fl =>
    cases fl with
    | ret u => exact I.after hq
    | next => exact False.elim hq
    | brk => exact False.elim hq
    | cont => exact False.elim hq
theorem pe_callK0 {CX : CXT} {E : XK} {x : Str} {p : Pos} {f : Addr} {fd : FuncData} {ps ks : List Str} {k : Nat} {sp : Sp} {kws : List Keyword} {tk : TA} (F : FnOk X.prog X.w X.K X.mg X.base CX k f fd ps sp) (hr : Room k X.A) (hg : Gl X x) (hm : X.mg x = some (.ref f)) (hk : PySem.W.keepIn X.K (.ref f) = true)
    (hb : KwTo fd ps 0 ks) (hx : Passes CX X E) (hkw : PK X kws tk) (hall : (backToKw pos (keywordEach kws X.env)).all (·.1.isSome) = true := by rfl) (hks : (backToKw pos (keywordEach kws X.env)).filterMap (·.1) = ks := by rfl)
    (hlen : ps.length = 0 + ks.length := by rfl) (hdb : (x == ("__debug__" : Str)) = false := by decide)
    (hpl : ((backTo pos (starEach [] X.env)).any (·.1) || (backToKw pos (keywordEach kws X.env)).any (·.1.isNone)) = false := by rfl) :
    PE X (.Call (.Name x p) [] kws pos) (tCall sp [] E tk) := by
  refine ⟨fun pins s σ H Q I h => ?_⟩
  refine wpAny_Call_Name_kw (ld_glob I hg hm ?_ hdb)
  refine PySem.W.callWith_KW0 (h₀ := X.base) I.ok.mod.kin hk hall ?_ hpl
  refine thn (hkw.run pos pins s σ H _ I h) fun ws s2 ⟨zs, H2, I2, rz, q2⟩ => ⟨I2.kIn, ?_⟩
  rw [hks]
  have q3 : sp (zs ++ []) H2 Q E := q2
  rw [List.append_nil] at q3
  exact run_kw (vs := []) F hr hb hx I2 rfl hlen .nil rz q3
def tCat (t tk : TA) : TA := fun σ H Q => t σ H fun vs H1 => tk σ H1 fun zs H2 => vs.length = vs.length ∧ Q (vs ++ zs) H2
theorem pe_callKn {CX : CXT} {E : XK} {x : Str} {p : Pos} {f : Addr} {fd : FuncData} {ps ks : List Str} {k n : Nat} {sp : Sp} {kws : List Keyword} {t tk : TA} {es : List Expr} (F : FnOk X.prog X.w X.K X.mg X.base CX k f fd ps sp) (hr : Room k X.A) (hg : Gl X x) (hm : X.mg x = some (.ref f)) (hk : PySem.W.keepIn X.K (.ref f) = true)
    (hb : KwTo fd ps n ks) (hx : Passes CX X E) (ha : PA X (e :: es) t) (hkw : PK X kws tk) (hall : (backToKw pos (keywordEach kws X.env)).all (·.1.isSome) = true := by rfl) (hks : (backToKw pos (keywordEach kws X.env)).filterMap (·.1) = ks := by rfl)
    (hlen : ps.length = n + ks.length := by rfl) (hdb : (x == ("__debug__" : Str)) = false := by decide) (he : starEach (e :: es) X.env = (false, eval e X.env) :: starEach es X.env := by rfl)
    (hpl : ((backTo pos (starEach (e :: es) X.env)).any (·.1) || (backToKw pos (keywordEach kws X.env)).any (·.1.isNone)) = false := by rfl) :
    PE X (.Call (.Name x p) (e :: es) kws pos) (fun σ H Q => t σ H fun vs H1 => tk σ H1 fun zs H2 => vs.length = n ∧ sp (vs ++ zs) H2 Q E) := by
  refine ⟨fun pins s σ H Q I h => ?_⟩
  refine wpAny_Call_Name_kw (ld_glob I hg hm ?_ hdb)
  refine PySem.W.callWith_KW (h₀ := X.base) I.ok.mod.kin hk hall (thn (ha.run pos pins s σ H _ I h) fun us s1 ⟨vs, H1, I1, r, q⟩ => ?_) hpl he
  refine thn (hkw.run pos pins s1 σ H1 _ I1 q) fun ws s2 ⟨zs, H2, I2, rz, hl, q2⟩ => ⟨I2.kIn, ?_⟩
  rw [hks]
  exact run_kw F hr hb hx I2 (r.length.symm.trans hl) hlen r rz q2
end
section
variable {K : Frag} {x qual : Str} {params : Arguments} {body : List Stmt} {scope : Scope} {kws : List (Str × V)} {f : Addr} {fd : FuncData} {ps : List Str}
theorem kwTo (F : FunD K x qual params body scope [] kws f fd) {n : Nat} {ks : List Str}
    (h : ∀ (kV doc pm : Value) (an : Option Addr) (cdv ct : Value) (us ws : List Value), us.length = n → ws.length = ks.length → bindArgs (PySem.W.fnOf x qual params body scope .none kV doc pm an cdv ct) ⟨us, ks.zip ws⟩ = pure (ps.zip (us ++ ws))) : KwTo fd ps n ks := fun s us ws hu hw => by
  obtain ⟨oc, od, dV, kV, doc, pm, an, cdv, ct, osl, rfl, lk, hcd, hD, hK⟩ := F.ex
  rcases hD with ⟨_, rfl⟩ | ⟨e, _⟩
  · exact .of_eq (h kV doc pm an cdv ct us ws hu hw)
  · exact absurd rfl e
end
/-- a def of the top -/
abbrev FnP (K : Frag) (x : Str) (st : Stmt) (f : Addr) (fd : FuncData) : Prop := FunD K x x (defArgs st) (defBody st) (defScope st) [] [] f fd
end Slip
/-! what each construct comes to -/
namespace Slip
open PySem PySem.Spec PyProof.Rows L2
section
variable {ρ : Rl} {K : Frag} {σ : L2.St} {H H' : Hp} {ta tb te tc : TE} {t u : TT} {x y z v : V} {i j k : Int} {R : V → Hp → Prop} {a b p : Addr} {xs ys : List V} {d e : PyData}
/-! ### numbers -/
theorem ev_add (h1 : EvV ρ ta σ H (.int i)) (h2 : EvV ρ tb σ H (.int j)) : EvV ρ (tOp (rAddU K) ta tb) σ H (.int (i + j)) := ev_op h1 h2 (.const fun _ _ _ q => .inl ⟨i, j, rfl, rfl, q⟩)
theorem ev_sub (h1 : EvV ρ ta σ H (.int i)) (h2 : EvV ρ tb σ H (.int j)) : EvV ρ (tOp rSubI ta tb) σ H (.int (i - j)) := ev_op h1 h2 (.const fun _ _ _ q => ⟨i, j, rfl, rfl, q⟩)
theorem ev_mul (h1 : EvV ρ ta σ H (.int i)) (h2 : EvV ρ tb σ H (.int j)) (h : CMul i j) : EvV ρ (tOp rMulI ta tb) σ H (.int (i * j)) := ev_op h1 h2 (.const fun _ _ _ q => ⟨i, j, rfl, rfl, h, q⟩)
theorem ev_mod (h1 : EvV ρ ta σ H (.int i)) (h2 : EvV ρ tb σ H (.int j)) (h : 0 < j) : EvV ρ (tOp rModI ta tb) σ H (.int (i % j)) := ev_op h1 h2 (.const fun _ _ _ q => ⟨i, j, rfl, rfl, h, q⟩)
theorem ev_fdiv (h1 : EvV ρ ta σ H (.int i)) (h2 : EvV ρ tb σ H (.int j)) (h : CDiv i j) : EvV ρ (tOp rFdivI ta tb) σ H (.int (i / j)) := ev_op h1 h2 (.const fun _ _ _ q => ⟨i, j, rfl, rfl, h, q⟩)
theorem ev_pow (h1 : EvV ρ ta σ H (.int i)) (h2 : EvV ρ tb σ H (.int j)) (h : CPow i j) : EvV ρ (tOp rPowI ta tb) σ H (.int (i ^ j.toNat)) := ev_op h1 h2 (.const fun _ _ _ q => ⟨i, j, rfl, rfl, h, q⟩)
theorem ev_neg (h1 : EvV ρ ta σ H (.int i)) : EvV ρ (tUn rNegI ta) σ H (.int (-i)) := fun H1 e1 Q q => h1 H1 e1 _ fun v H2 e2 hv => ⟨i, hv, q _ H2 e2 rfl⟩
theorem ev_int (h1 : EvV ρ ta σ H (.int i)) : EvV ρ (tCB rIntOf (tCons ta tNil)) σ H (.int i) := ev_cbV (ea_cons h1 ea_nil) fun H1 _ Q q => .inl ⟨i, rfl, q _ H1 .rfl rfl⟩
theorem ev_intB {c : Bool} (h1 : EvV ρ ta σ H (.bl c)) : EvV ρ (tCB rIntOf (tCons ta tNil)) σ H (.int (if c then 1 else 0)) := ev_cbV (ea_cons h1 ea_nil) fun H1 _ Q q => .inr ⟨c, rfl, q _ H1 .rfl rfl⟩
/-! ### texts -/
theorem ev_addS {s1 s2 : Str} (h1 : EvV ρ ta σ H (.str s1)) (h2 : EvV ρ tb σ H (.str s2)) (h : s1.length + s2.length ≤ 100000) : EvV ρ (tOp (rAddU K) ta tb) σ H (.str (s1 ++ s2)) := ev_op h1 h2 (.const fun _ _ _ q => .inr (.inl ⟨_, _, rfl, rfl, Evl.sz_of h, q⟩))
theorem ev_ixS {s : Str} {c : Nat} (h1 : EvV ρ ta σ H (.str s)) (h2 : EvV ρ tb σ H (.int i)) (hl : s.length ≤ 100000) (h : atI s.cps.toList i = some c) : EvV ρ (tIxU K ta tb) σ H (.str ⟨#[c]⟩) :=
  fun H1 e1 Q q => .inl (ev_op h1 h2 (RV.const (r := rIx K) fun _ _ _ q => .inr (.inr ⟨s, i, c, rfl, rfl, Evl.sz_of hl, h, q⟩)) H1 e1 Q q)
theorem ev_lenS {s : Str} (h1 : EvV ρ ta σ H (.str s)) (hl : s.length ≤ 100000) : EvV ρ (tCB (rLenU K) (tCons ta tNil)) σ H (.int (s.length : Int)) := ev_cbV (ea_cons h1 ea_nil) fun H1 _ Q q => .inl ⟨_, s.length, rfl, ⟨Evl.sz_of hl, rfl⟩, q _ H1 .rfl rfl⟩
theorem ev_inS {s : Str} {c : Nat} (h1 : EvV ρ ta σ H (.str ⟨#[c]⟩)) (h2 : EvV ρ tb σ H (.str s)) : EvV ρ (tOp (rInU K) ta tb) σ H (.bl (decide (c ∈ s.cps.toList))) := ev_op h1 h2 (.const fun _ _ _ q => .inr (.inl ⟨c, s, rfl, rfl, q⟩))
theorem ev_notInS {s : Str} {c : Nat} (h1 : EvV ρ ta σ H (.str ⟨#[c]⟩)) (h2 : EvV ρ tb σ H (.str s)) : EvV ρ (tOp (rNotInU K) ta tb) σ H (.bl (!decide (c ∈ s.cps.toList))) := ev_op h1 h2 (.const fun _ _ _ q => .inr (.inl ⟨c, s, rfl, rfl, q⟩))
/-! ### sequences -/
theorem ev_ix {n : Nat} (h1 : EvV ρ ta σ H (.ref a)) (h2 : EvV ρ tb σ H (.int i)) (hs : ∀ H1, ρ.r H H1 → SqA K H1 a xs) (hi : i = (n : Int)) (h : xs[n]? = some v) : EvV ρ (tIxU K ta tb) σ H v :=
  fun H1 e1 Q q => .inl (ev_op h1 h2 (RV.const (r := rIx K) fun H2 e2 _ q => (hs H2 e2).elim (fun hs => .inl ⟨a, xs, i, v, rfl, rfl, hs, hi ▸ atI_nat h, q⟩) fun hs => .inr (.inl ⟨a, xs, i, v, rfl, rfl, hs, hi ▸ atI_nat h, q⟩)) H1 e1 Q q)
theorem ev_len (h1 : EvV ρ ta σ H (.ref a)) (hs : ∀ H1, ρ.r H H1 → SqA K H1 a xs) : EvV ρ (tCB (rLenU K) (tCons ta tNil)) σ H (.int (xs.length : Int)) :=
  ev_cbV (ea_cons h1 ea_nil) fun H1 e1 Q q => .inl ⟨_, xs.length, rfl, (hs H1 e1).elim (fun h => .inl ⟨xs, h, rfl⟩) fun h => .inr ⟨xs, h, rfl⟩, q _ H1 .rfl rfl⟩
/-! ### isinstance, is None, ==, < -/
theorem ev_isi {n : String} (h1 : EvV ρ ta σ H v) (hd : DS ρ H v d) (g : good n = true) : EvV ρ (tCB (rIsiU K) (tCons ta (tCons (tC (.ty n)) tNil))) σ H (.bl (isiB d n)) :=
  ev_cbV (ea_cons h1 (ea_cons ev_c ea_nil)) fun H1 e1 Q q => .inl ⟨v, n, d, rfl, (e1.ds hd).dp _ _, g, q _ H1 .rfl rfl⟩
theorem ev_isN (h1 : EvV ρ ta σ H v) : EvV ρ (tOp rIsN ta (tC .non)) σ H (.bl (decide (v = .non))) := ev_op h1 ev_c (.const fun _ _ _ q => ⟨rfl, q⟩)
theorem ev_notN (h1 : EvV ρ ta σ H v) : EvV ρ (tOp rNotN ta (tC .non)) σ H (.bl (!decide (v = .non))) := ev_op h1 ev_c (.const fun _ _ _ q => ⟨rfl, q⟩)
theorem ev_eqD (h1 : EvV ρ ta σ H x) (h2 : EvV ρ tb σ H y) (hd : DS ρ H x d) (he : DS ρ H y e) (sd : SeqAt.shaped d = true) (se : SeqAt.shaped e = true) : EvV ρ (tOp (rEqU K) ta tb) σ H (.bl (PyData.eqv d e)) :=
  ev_op h1 h2 (.const fun H1 e1 _ q => .inr ⟨d, e, (e1.ds hd).dp _ _, (e1.ds he).dp _ _, sd, se, q⟩)
theorem ev_neD (h1 : EvV ρ ta σ H x) (h2 : EvV ρ tb σ H y) (hd : DS ρ H x d) (he : DS ρ H y e) (sd : SeqAt.shaped d = true) (se : SeqAt.shaped e = true) : EvV ρ (tOp (rNeU K) ta tb) σ H (.bl (!PyData.eqv d e)) :=
  ev_op h1 h2 (.const fun H1 e1 _ q => .inr ⟨d, e, (e1.ds hd).dp _ _, (e1.ds he).dp _ _, sd, se, q⟩)
theorem ev_eqV (h1 : EvV ρ ta σ H x) (h2 : EvV ρ tb σ H y) (h : scal x y = true) : EvV ρ (tOp (rEqU K) ta tb) σ H (.bl (decide (x = y))) := ev_op h1 h2 (.const fun H1 e1 _ q => .inl ⟨h, q⟩)
theorem ev_neV (h1 : EvV ρ ta σ H x) (h2 : EvV ρ tb σ H y) (h : scal x y = true) : EvV ρ (tOp (rNeU K) ta tb) σ H (.bl (!decide (x = y))) := ev_op h1 h2 (.const fun H1 e1 _ q => .inl ⟨h, q⟩)
theorem decI (i j : Int) : decide (V.int i = V.int j) = decide (i = j) := by simp
theorem decS (i j : Str) : decide (V.str i = V.str j) = decide (i = j) := by simp
theorem decB (i j : Bool) : decide (V.bl i = V.bl j) = (i == j) := by cases i <;> cases j <;> rfl
theorem ev_eqI (h1 : EvV ρ ta σ H (.int i)) (h2 : EvV ρ tb σ H (.int j)) : EvV ρ (tOp (rEqU K) ta tb) σ H (.bl (decide (i = j))) := (ev_eqV h1 h2 rfl).val (by rw [decI])
theorem ev_neI (h1 : EvV ρ ta σ H (.int i)) (h2 : EvV ρ tb σ H (.int j)) : EvV ρ (tOp (rNeU K) ta tb) σ H (.bl (!decide (i = j))) := (ev_neV h1 h2 rfl).val (by rw [decI])
theorem ev_eqS {s1 s2 : Str} (h1 : EvV ρ ta σ H (.str s1)) (h2 : EvV ρ tb σ H (.str s2)) : EvV ρ (tOp (rEqU K) ta tb) σ H (.bl (decide (s1 = s2))) := (ev_eqV h1 h2 rfl).val (by rw [decS])
theorem ev_neS {s1 s2 : Str} (h1 : EvV ρ ta σ H (.str s1)) (h2 : EvV ρ tb σ H (.str s2)) : EvV ρ (tOp (rNeU K) ta tb) σ H (.bl (!decide (s1 = s2))) := (ev_neV h1 h2 rfl).val (by rw [decS])
theorem ev_eqB {c1 c2 : Bool} (h1 : EvV ρ ta σ H (.bl c1)) (h2 : EvV ρ tb σ H (.bl c2)) : EvV ρ (tOp (rEqU K) ta tb) σ H (.bl (c1 == c2)) := (ev_eqV h1 h2 rfl).val (by rw [decB])
theorem ev_cmp {g : PyData → PyData → Bool} (h1 : EvV ρ ta σ H x) (h2 : EvV ρ tb σ H y) (hd : DS ρ H x d) (he : DS ρ H y e) (al : PySem.W.alike d e = true) (nn : d ≠ .none) (dp : d.depth ≤ 64) : EvV ρ (tOp (rCmp K g) ta tb) σ H (.bl (g d e)) :=
  ev_op h1 h2 (.const fun H1 e1 _ q => ⟨d, e, (e1.ds hd).dp _ _, (e1.ds he).dp _ _, al, nn, dp, q⟩)
theorem rv_cmpI {g : PyData → PyData → Bool} (H1 : Hp) (Q : VK) (q : Q (.bl (g (.int i) (.int j))) H1) : rCmp K g (.int i) (.int j) H1 Q := ⟨.int i, .int j, .int i, .int j, rfl, by simp, by show (0 : Nat) ≤ 64; decide, q⟩
theorem ev_cmpI {g : PyData → PyData → Bool} (h1 : EvV ρ ta σ H (.int i)) (h2 : EvV ρ tb σ H (.int j)) : EvV ρ (tOp (rCmp K g) ta tb) σ H (.bl (g (.int i) (.int j))) := ev_op h1 h2 (.const fun H1 _ Q q => rv_cmpI H1 Q q)
theorem lt_int (i j : Int) : PySem.W.dataLt (.int i) (.int j) = decide (i < j) := PySem.W.dataLt_int i j
theorem ev_lt (h1 : EvV ρ ta σ H (.int i)) (h2 : EvV ρ tb σ H (.int j)) : EvV ρ (tOp (rCmp K gLt) ta tb) σ H (.bl (decide (i < j))) := (ev_cmpI h1 h2).val (by rw [show gLt (.int i) (.int j) = PySem.W.dataLt (.int i) (.int j) from rfl, lt_int])
theorem ev_gt (h1 : EvV ρ ta σ H (.int i)) (h2 : EvV ρ tb σ H (.int j)) : EvV ρ (tOp (rCmp K gGt) ta tb) σ H (.bl (decide (j < i))) := (ev_cmpI h1 h2).val (by rw [show gGt (.int i) (.int j) = PySem.W.dataLt (.int j) (.int i) from rfl, lt_int])
theorem not_lt_dec (i j : Int) : (!decide (j < i)) = decide (i ≤ j) := by
  by_cases h : i ≤ j
  · rw [decide_eq_true h, decide_eq_false (by omega)]; rfl
  · rw [decide_eq_false h, decide_eq_true (by omega)]; rfl
theorem ev_le (h1 : EvV ρ ta σ H (.int i)) (h2 : EvV ρ tb σ H (.int j)) : EvV ρ (tOp (rCmp K gLe) ta tb) σ H (.bl (decide (i ≤ j))) := (ev_cmpI h1 h2).val (by rw [show gLe (.int i) (.int j) = !PySem.W.dataLt (.int j) (.int i) from rfl, lt_int, not_lt_dec])
theorem ev_ge (h1 : EvV ρ ta σ H (.int i)) (h2 : EvV ρ tb σ H (.int j)) : EvV ρ (tOp (rCmp K gGe) ta tb) σ H (.bl (decide (j ≤ i))) := (ev_cmpI h1 h2).val (by rw [show gGe (.int i) (.int j) = !PySem.W.dataLt (.int i) (.int j) from rfl, lt_int, not_lt_dec])
theorem rle_val (i j : Int) : gLe (.int i) (.int j) = decide (i ≤ j) := by rw [show gLe (.int i) (.int j) = !PySem.W.dataLt (.int j) (.int i) from rfl, lt_int, not_lt_dec]
/-- i <= j <= k -/
theorem ev_chainLe (h1 : EvV ρ ta σ H (.int i)) (h2 : EvV ρ tb σ H (.int j)) (h3 : EvV ρ tc σ H (.int k)) : EvV ρ (tChain (rCmp K gLe) (rCmp K gLe) ta tb tc) σ H (.bl (decide (i ≤ j) && decide (j ≤ k))) := fun H1 e1 Q q =>
  h1 H1 e1 _ fun _ H2 e2 hx => by
    subst hx
    exact h2 H2 (e1.trans e2) _ fun _ H3 e3 hy => by
      subst hy
      refine rv_cmpI H3 _ ⟨_, rfl, ?_⟩
      rw [rle_val]
      cases hc : decide (i ≤ j) with
      | true =>
        rw [if_pos rfl]
        refine h3 H3 ((e1.trans e2).trans e3) _ fun _ H4 e4 hz => ?_
        subst hz
        refine rv_cmpI H4 _ ?_
        rw [rle_val]
        exact q _ H4 ((e2.trans e3).trans e4) (by rw [hc, Bool.true_and])
      | false =>
        rw [if_neg Bool.false_ne_true]
        exact q _ H3 (e2.trans e3) (by rw [hc, Bool.false_and])
/-! ### what a for walks -/
variable {wi : TI} {n : Nat} {Y : Nat → Hp → V → Hp → Prop}
theorem ei_seq (h : EvV ρ te σ H (.ref a)) (hs : ∀ H1, ρ.r H H1 → SqA K H1 a xs) (ht : (∀ H1, ρ.r H H1 → SqL K H1 a xs) ∨ (∀ H1, ρ.r H H1 → SqT K H1 a xs)) : EvI ρ (iSeq K te) σ H xs.length (YAt xs) := fun H1 e1 R k => by
  rcases ht with ht | ht
  · exact .inl (h H1 e1 _ fun v H2 e2 hv => ⟨a, hv, ⟨xs, ht H2 (e1.trans e2)⟩, k _ H2 e2 (walk_list.mono (fun H3 e3 => ht H3 ((e1.trans e2).trans e3)) fun _ _ _ _ _ _ y => y)⟩)
  · exact .inr (.inl (h H1 e1 _ fun v H2 e2 hv => ⟨a, hv, ⟨xs, ht H2 (e1.trans e2)⟩, k _ H2 e2 (walk_tup.mono (fun H3 e3 => ht H3 ((e1.trans e2).trans e3)) fun _ _ _ _ _ _ y => y)⟩))
theorem ei_str {s : Str} (h : EvV ρ te σ H (.str s)) : EvI ρ (iSeq K te) σ H s.cps.size (fun i H v H' => H' = H ∧ ∃ c, s.cps[i]? = some c ∧ v = .str ⟨#[c]⟩) := fun H1 e1 R k =>
  .inr (.inr (h H1 e1 _ fun v H2 e2 hv => ⟨s, hv, k _ H2 e2 (walk_str.mono (fun _ _ => trivial) fun _ _ _ _ _ _ y => y)⟩))
theorem ei_rng {ts : TA} (h : EvAV ρ ts σ H [.int i]) (lo : -100000 ≤ i) (hi : i ≤ 100000000) : EvI ρ (iRng1 ts) σ H i.toNat (YFn fun m => .int ((m : Nat) : Int)) := fun H1 e1 R k =>
  h H1 e1 _ fun v H2 e2 hv => ⟨i, hv, by omega, by omega, k _ H2 e2 (walk_range.mono (fun _ _ => trivial) fun m H3 x H4 _ _ y => ⟨y.1, by rw [y.2]; exact congrArg V.int (Int.zero_add _)⟩)⟩
end
end Slip
/-! comprehensions -/
namespace Slip
open PySem PySem.Spec PyProof.Rows L2
def keptN (f : Nat → Bool) (n : Nat) : List Nat := (List.range n).filter f
theorem kept_yes {f : Nat → Bool} {n : Nat} (h : f n = true) : keptN f (n + 1) = keptN f n ++ [n] := by
  unfold keptN
  rw [List.range_succ, List.filter_append, List.filter_cons, if_pos h] <;> rfl
theorem kept_no {f : Nat → Bool} {n : Nat} (h : f n = false) : keptN f (n + 1) = keptN f n := by
  unfold keptN
  rw [List.range_succ, List.filter_append, List.filter_cons, if_neg (by rw [h]; exact Bool.false_ne_true)]
  exact List.append_nil _
theorem kept_len (f : Nat → Bool) (n : Nat) : (keptN f n).length ≤ n := by
  have h := List.length_filter_le f (List.range n)
  rw [List.length_range] at h
  exact h
theorem kept_congr {f g : Nat → Bool} {n : Nat} (h : ∀ i, i < n → f i = g i) : keptN f n = keptN g n := by
  unfold keptN
  exact List.filter_congr fun i hi => h i (List.mem_range.mp hi)
theorem kept_all {f : Nat → Bool} {n : Nat} (h : ∀ i, i < n → f i = true) : keptN f n = List.range n := by
  unfold keptN
  exact List.filter_eq_self.mpr fun i hi => h i (List.mem_range.mp hi)
/-- xs, one for each kept turn -/
def Items (P : Nat → V → Prop) (is : List Nat) (xs : List V) : Prop := xs.length = is.length ∧ ∀ (m : Nat) x i, xs[m]? = some x → is[m]? = some i → P i x
theorem Items.nil {P : Nat → V → Prop} : Items P [] [] := ⟨rfl, fun m x i h => by simp at h⟩
theorem Items.snoc {P : Nat → V → Prop} {is : List Nat} {xs : List V} (h : Items P is xs) {i : Nat} {x : V} (p : P i x) : Items P (is ++ [i]) (xs ++ [x]) := by
  refine ⟨by rw [List.length_append, List.length_append, h.1]; rfl, fun m y j a b => ?_⟩
  by_cases hm : m < xs.length
  · rw [List.getElem?_append_left hm] at a
    rw [List.getElem?_append_left (h.1 ▸ hm)] at b
    exact h.2 m y j a b
  · rw [List.getElem?_append_right (by omega)] at a
    rw [List.getElem?_append_right (by have := h.1; omega)] at b
    have e : m - xs.length = 0 := by
      cases q : m - xs.length with
      | zero => rfl
      | succ z => rw [q] at a; simp at a
    rw [e] at a
    rw [← h.1, e] at b
    simp at a b
    subst a b
    exact p
theorem Items.imp {P P' : Nat → V → Prop} {is : List Nat} {xs : List V} (h : Items P is xs) (f : ∀ i x, P i x → P' i x) : Items P' is xs := ⟨h.1, fun m x i a b => f i x (h.2 m x i a b)⟩
theorem Items.map {v : Nat → V} {is : List Nat} {xs : List V} (h : Items (fun i x => x = v i) is xs) : xs = is.map v := by
  refine List.ext_getElem? fun m => ?_
  rw [List.getElem?_map]
  cases a : xs[m]? with
  | none =>
    have := List.getElem?_eq_none_iff.mp a
    rw [List.getElem?_eq_none_iff.mpr (by rw [← h.1]; exact this)] <;> rfl
  | some x =>
    have hm : m < is.length := by rw [← h.1]; exact (List.getElem?_eq_some_iff.mp a).1
    rw [List.getElem?_eq_getElem hm]
    show some x = some (v _)
    rw [h.2 m x _ a (List.getElem?_eq_getElem hm)]
section
variable {ρ : Rl} {K : Frag} {σ : L2.St} {H : Hp} {te : TE} {tt : TT} {wi : TI} {g : TG} {vs : List Nat} {n : Nat} {Y : Nat → Hp → V → Hp → Prop}
/-- what a turn's test and element come to -/
def Turn1 (ρ' : Rl) (tt : TT) (te : TE) (C : Bool → Prop) (R : V → Hp → Prop) (σ2 : L2.St) (H4 : Hp) : Prop :=
  ∀ H5, ρ'.r H4 H5 → ∀ Q : Bool → Hp → Prop, (∀ b H6, ρ'.r H5 H6 → C b → (b = true → Ev ρ' te σ2 H6 R) → Q b H6) → tt σ2 H5 Q
theorem ev_lc {R : Rl → Nat → V → Hp → Prop} {C : Nat → Bool → Prop} (own : Own ρ H) (hn : n ≤ 90000) (hI : EvI ρ wi σ H n Y)
    (hR : ∀ ρ' i x H1 H2, ρ'.r H1 H2 → R ρ' i x H1 → R ρ' i x H2) (hL : ∀ D i x H1, R (ρ.and D) i x H1 → R ρ i x H1)
    (hs : ∀ D H1, ρ.r H H1 → H1 D = none → ∀ i x H2 H3, i < n → ρ.r H1 H2 → Own (ρ.and D) H2 → Y i H2 x H3 → ∀ cont : L2.St → Hp → Prop,
      (∀ σ2 H4, wipe σ2 vs = wipe σ vs → ρ.r H2 H4 → Turn1 ρ tt te (C i) (R (ρ.and D) i) σ2 H4 → cont σ2 H4) → g x (wipe σ vs) H3 cont) :
    Ev ρ (tLc wi g tt te vs) σ H (fun v H2 => ∃ p xs, ∃ f : Nat → Bool, v = .ref p ∧ ¬ ρ.S p ∧ H p = none ∧ H2 p = some (.lst xs) ∧ (∀ i, i < n → C i (f i)) ∧ Items (fun i x => R ρ i x H2) (keptN f n) xs) := fun H0 e0 Q q =>
  hI H0 e0 _ fun J H1 e1 w D hD => by
    have e01 := e0.trans e1
    have nS : ¬ ρ.S D := (own.r e01).fresh hD
    refine lc_it w (fun i H' => ρ.r H1 H' ∧ ∃ xs, ∃ f : Nat → Bool, H' D = some (.lst xs) ∧ (∀ i', i' < i → C i' (f i')) ∧ Items (fun i' x => R (ρ.and D) i' x H') (keptN f i) xs)
      ⟨r_new _ hD, [], fun _ => true, upd_same, fun i h => absurd h (Nat.not_lt_zero i), Items.nil⟩ (fun i H' _ p => p.1) ?_ ?_
    · rintro i x H2 H3 hi ⟨r12, xs, f, hx, hC, hit⟩ y
      have oD : Own (ρ.and D) H2 := (own.r e01).and r12 (by rw [hx]; exact Option.some_ne_none _)
      refine hs D H1 e01 hD i x H2 H3 hi r12 oD y _ fun σ2 H4 hw r24 ht => ⟨hw, ?_⟩
      refine ht H4 .rfl _ fun b H5 r45 hCb he => ?_
      have r25 := r24.trans r45
      have hlen : xs.length ≤ 90000 := by
        have := hit.1
        have := kept_len f i
        omega
      have fC : ∀ c : Bool, C i c → ∀ i', i' < i + 1 → C i' ((fun j => if j = i then c else f j) i') := fun c hc i' hi' => by
        by_cases z : i' = i
        · subst z; show C i' (if i' = i' then c else f i'); rw [if_pos rfl]; exact hc
        · show C i' (if i' = i then c else f i'); rw [if_neg z]; exact hC i' (by omega)
      have fk : ∀ c : Bool, keptN (fun j => if j = i then c else f j) i = keptN f i := fun c => kept_congr fun j hj => if_neg (by omega)
      cases b with
      | true =>
        show te σ2 H5 _
        refine he rfl H5 .rfl _ fun z H6 r56 hz => ?_
        have r26 := r25.trans r56
        refine ⟨xs, r26.keep _ _ nS hx, Evl.sz_lt (by omega), r_mut (r12.trans r26) hD, xs ++ [z], fun j => if j = i then true else f j, upd_same, fC true hCb, ?_⟩
        rw [kept_yes (by show (if i = i then true else f i) = true; rw [if_pos rfl]), fk true]
        have g6 : H6 D = some (.lst xs) := r26.keep _ _ nS hx
        exact (hit.imp fun i' x' h => hR _ _ _ _ _ ((and_of r26).trans (r_chg g6 nS)) h).snoc (hR _ _ _ _ _ (r_chg g6 nS) hz)
      | false =>
        refine ⟨r12.trans r25, xs, fun j => if j = i then false else f j, r25.keep _ _ nS hx, fC false hCb, ?_⟩
        rw [kept_no (by show (if i = i then false else f i) = false; rw [if_pos rfl]), fk false]
        exact hit.imp fun i' x' h => hR _ _ _ _ _ (and_of r25) h
    · rintro H' ⟨r12, xs, f, hx, hC, hit⟩
      exact q _ H' (e1.trans r12) ⟨D, xs, f, rfl, nS, e01.back D hD, hx, hC, hit.imp fun i x z => hL D i x H' z⟩
/-- no test, one name as the target, elements whose values are known -/
theorem ev_lcV {j : Nat} {v : Nat → V} (own : Own ρ H) (hn : n ≤ 90000) (hI : EvI ρ wi σ H n Y) (hw : ∀ x, wipe ((wipe σ vs).set j (some x)) vs = wipe σ vs)
    (hY : ∀ i H2 x H3, Y i H2 x H3 → H3 = H2) (he : ∀ i x H2 H3, i < n → ρ.r H H2 → Y i H2 x H3 → EvV ρ te ((wipe σ vs).set j (some x)) H2 (v i)) :
    Ev ρ (tLc wi (gName j) tYes te vs) σ H (fun u H2 => ∃ p, u = .ref p ∧ ¬ ρ.S p ∧ H p = none ∧ H2 p = some (.lst ((List.range n).map v))) := by
  refine (ev_lc (R := fun _ i x _ => x = v i) (C := fun _ b => b = true) own hn hI (fun _ _ _ _ _ _ h => h) (fun _ _ _ _ h => h) ?_).imp ?_
  · intro D H1 r1 hD i x H2 H3 hi r2 oD y cont hc
    have e3 := hY i H2 x H3 y
    refine hc _ H3 (hw x) (by rw [e3]; exact .rfl) fun H5 r5 Q q => q true H5 .rfl rfl fun _ => ?_
    exact (he i x H2 H3 hi (r1.trans r2) y).mono (by rw [← e3]; exact r5)
  · rintro u H2 r ⟨p, xs, f, e, nS, hp, hx, hC, hit⟩
    rw [kept_all hC] at hit
    exact ⟨p, e, nS, hp, by rw [hx, hit.map]⟩
/-- no test, one name, elements that are data -/
theorem ev_lcD {j : Nat} {dd : Nat → PyData} (own : Own ρ H) (hn : n ≤ 90000) (hI : EvI ρ wi σ H n Y) (hw : ∀ x, wipe ((wipe σ vs).set j (some x)) vs = wipe σ vs)
    (hY : ∀ i H2 x H3, Y i H2 x H3 → H3 = H2)
    (he : ∀ D H1, ρ.r H H1 → H1 D = none → ∀ i x H2 H3, i < n → ρ.r H1 H2 → Own (ρ.and D) H2 → Y i H2 x H3 → Ev ρ te ((wipe σ vs).set j (some x)) H2 (fun y H4 => DS (ρ.and D) H4 y (dd i))) :
    Ev ρ (tLc wi (gName j) tYes te vs) σ H (fun u H2 => ∃ p xs, u = .ref p ∧ ¬ ρ.S p ∧ H p = none ∧ H2 p = some (.lst xs) ∧ DSs ρ H2 xs ((List.range n).map dd)) := by
  refine (ev_lc (R := fun ρ' i x H' => DS ρ' H' x (dd i)) (C := fun _ b => b = true) own hn hI (fun _ _ _ _ _ r h => r.ds h) (fun _ _ _ _ h => h.less) ?_).imp ?_
  · intro D H1 r1 hD i x H2 H3 hi r2 oD y cont hc
    have e3 := hY i H2 x H3 y
    refine hc _ H3 (hw x) (by rw [e3]; exact .rfl) fun H5 r5 Q q => q true H5 .rfl rfl fun _ => ?_
    exact (he D H1 r1 hD i x H2 H3 hi r2 oD y).mono (by rw [← e3]; exact r5)
  · rintro u H2 r ⟨p, xs, f, e, nS, hp, hx, hC, hit⟩
    rw [kept_all hC] at hit
    refine ⟨p, xs, e, nS, hp, hx, .of (by rw [hit.1, List.length_map]) fun m x d a b => ?_⟩
    rw [List.getElem?_map] at b
    cases q : (List.range n)[m]? with
    | none => rw [q] at b; cases b
    | some i =>
      rw [q] at b
      have := hit.2 m x i a q
      cases b
      exact this
end
end Slip
/-! the checks: what they promise, and that they keep it -/
namespace Slip
open PySem PySem.Spec PyProof.Rows L2
/-! ### data -/
def isSeqD : PyData → Bool
  | .list _ => true
  | .tuple _ => true
  | _ => false
def itemsD : PyData → List PyData
  | .list ds => ds
  | .tuple ds => ds
  | _ => []
mutual
def sm : PyData → Bool
  | .str s => decide (s.length ≤ 1000)
  | .list ds => decide (ds.length ≤ 1000) && smAll ds
  | .tuple ds => decide (ds.length ≤ 1000) && smAll ds
  | _ => true
def smAll : List PyData → Bool
  | [] => true
  | d :: ds => sm d && smAll ds
end
theorem smAll_mem : ∀ {ds : List PyData} {d : PyData}, smAll ds = true → d ∈ ds → sm d = true
  | e :: ds, d, h, hm => by
    have h' : sm e = true ∧ smAll ds = true := by simpa [smAll] using h
    rcases List.mem_cons.mp hm with rfl | hm
    · exact h'.1
    · exact smAll_mem h'.2 hm
theorem smAll_of : ∀ {ds : List PyData}, (∀ d ∈ ds, sm d = true) → smAll ds = true
  | [], _ => rfl
  | e :: ds, h => by
    show (sm e && smAll ds) = true
    rw [h e (List.mem_cons_self ..), smAll_of fun d hd => h d (List.mem_cons_of_mem _ hd)]
    rfl
theorem sm_str {s : Str} (h : sm (.str s) = true) : s.length ≤ 1000 := by simpa [sm] using h
theorem sm_seq {ds : List PyData} (h : sm (.list ds) = true ∨ sm (.tuple ds) = true) : ds.length ≤ 1000 ∧ smAll ds = true := by simpa [sm] using h
def letters : List Nat := ("abcdef" : Str).cps.toList
def isWordD : PyData → Bool
  | .str s => s.cps.toList.all fun c => decide (c ∈ letters)
  | _ => false
def isWholeD (lo hi : Int) : PyData → Bool
  | .int i => decide (lo ≤ i) && decide (i ≤ hi)
  | _ => false
def isTripleD (d : PyData) : Bool := isSeqD d && decide ((itemsD d).length = 3)
theorem isi_seq (d : PyData) : isiAny d ["list", "tuple"] = isSeqD d := by cases d <;> rfl
theorem DS.seqd {ρ : Rl} {H : Hp} {v : V} {d : PyData} (h : DS ρ H v d) (s : isSeqD d = true) : ∃ a xs, v = .ref a ∧ DSs ρ H xs (itemsD d) ∧ (∀ (K : Frag) (H' : Hp), ρ.r H H' → SqA K H' a xs) ∧ ((∀ (K : Frag) H', ρ.r H H' → SqL K H' a xs) ∨ ∀ (K : Frag) H', ρ.r H H' → SqT K H' a xs) := by
  cases d with
  | list ds => cases h with | lst n hs ha => exact ⟨_, _, rfl, ha, fun K H' e => .inl (.of (e.keep _ _ n hs)), .inl fun K H' e => .of (e.keep _ _ n hs)⟩
  | tuple ds => cases h with | tup hs ha => exact ⟨_, _, rfl, ha, fun K H' e => .inr (.inl (.inl (e.tup _ _ hs))), .inr fun K H' e => .inl (.inl (e.tup _ _ hs))⟩
  | none => cases s
  | bool b => cases s
  | int i => cases s
  | str x => cases s
  | dict k => cases s
theorem DS.inv_int {ρ : Rl} {H : Hp} {v : V} {d : PyData} (h : DS ρ H v d) (e : (isiB d "int" && !isiB d "bool") = true) : ∃ i, d = .int i ∧ v = .int i := by
  cases h with
  | int i => exact ⟨i, rfl, rfl⟩
  | non => exact absurd e (by show ¬ (false && !false) = true; decide)
  | bl b => exact absurd e (by show ¬ (true && !true) = true; decide)
  | str x => exact absurd e (by show ¬ (false && !false) = true; decide)
  | lst _ _ _ => exact absurd e (by show ¬ (false && !false) = true; decide)
  | tup _ _ => exact absurd e (by show ¬ (false && !false) = true; decide)
theorem DS.inv_str {ρ : Rl} {H : Hp} {v : V} {d : PyData} (h : DS ρ H v d) (e : isiB d "str" = true) : ∃ s, d = .str s ∧ v = .str s := by
  cases h with
  | str s => exact ⟨s, rfl, rfl⟩
  | non => exact absurd e (by show ¬ false = true; decide)
  | bl b => exact absurd e (by show ¬ false = true; decide)
  | int x => exact absurd e (by show ¬ false = true; decide)
  | lst _ _ _ => exact absurd e (by show ¬ false = true; decide)
  | tup _ _ => exact absurd e (by show ¬ false = true; decide)
/-! ### promises of a truth value about one datum -/
def spB1 (F : PyData → Bool) : Sp := fun vs H Q _ => ∃ v d, vs = [v] ∧ DS exR H v d ∧ sm d = true ∧ ∀ H', Ext H H' → Q (.bl (F d)) H'
theorem spB1_len {F : PyData → Bool} {vs : List V} {H : Hp} {Q : VK} {E : XK} (h : spB1 F vs H Q E) : vs.length = 1 := by
  obtain ⟨v, d, rfl, _⟩ := h
  rfl
section
variable {ρ : Rl} {K : Frag} {σ : L2.St} {H : Hp} {ta tb te : TE} {v : V} {d : PyData}
theorem useB1 {F : PyData → Bool} (hd : DS ρ H v d) (hs : sm d = true) : SpR ρ (spB1 F) [v] H (fun v' _ => v' = .bl (F d)) := fun H1 e1 Q q E => ⟨v, d, rfl, (e1.ds hd).ex, hs, fun H' e => q _ H' (Ext.r e) rfl⟩
theorem ev_B1 {F : PyData → Bool} {E : XK} (h : EvV ρ ta σ H v) (hd : DS ρ H v d) (hs : sm d = true) : EvV ρ (tCall (spB1 F) [] E (tCons ta tNil)) σ H (.bl (F d)) := ev_call (ea_cons h ea_nil) (useB1 hd hs)
theorem ev_isiLT (h : EvV ρ ta σ H v) (hd : DS ρ H v d) : EvV ρ (tCB (rIsiU K) (tCons ta (tCons (tTup (tCons (tC (.ty "list")) (tCons (tC (.ty "tuple")) tNil))) tNil))) σ H (.bl (isSeqD d)) := fun H1 e1 Q q =>
  h H1 e1 _ fun v' H2 e2 ev => by
    subst ev
    refine ⟨by show 2 ≤ sizeLine; decide, fun p hp => ?_⟩
    refine .inr ⟨_, p, ["list", "tuple"], d, rfl, upd_same, ((e1.trans (r_new2 e2 _ hp)).ds hd).dp _ _, rfl, ?_⟩
    rw [isi_seq]
    exact q _ _ (r_new2 e2 _ hp) rfl
/-- all([..]) of truth values that are known -/
theorem ev_all {n : Nat} {f : Nat → Bool} (h : Ev ρ te σ H (fun u H2 => ∃ p, u = .ref p ∧ ¬ ρ.S p ∧ H p = none ∧ H2 p = some (.lst ((List.range n).map fun i => V.bl (f i))))) : EvV ρ (tCB (rAll K) (tCons te tNil)) σ H (.bl ((List.range n).all f)) :=
  ev_cb (ea_one h) fun vs H1 e1 ⟨u, eu, p, ep, _, _, hp⟩ => by
    subst eu ep
    refine fun H2 e2 Q q => ⟨p, (List.range n).map f, rfl, ?_, ?_⟩
    · rw [List.map_map]
      exact .of (e2.keep _ _ (by assumption) hp)
    · have z : ((List.range n).map f).all id = (List.range n).all f := by rw [List.all_map]; rfl
      rw [z]
      exact q _ H2 .rfl rfl
end
theorem range_all {α : Type} (xs : List α) (f : α → Bool) (g : Nat → Bool) (h : ∀ (i : Nat) x, xs[i]? = some x → g i = f x) : (List.range xs.length).all g = xs.all f := by
  rw [Bool.eq_iff_iff, List.all_eq_true, List.all_eq_true]
  constructor
  · intro a x hx
    obtain ⟨i, hi, e⟩ := List.mem_iff_getElem.mp hx
    have e2 : xs[i]? = some x := by rw [List.getElem?_eq_getElem hi, e]
    rw [← h i x e2]
    exact a i (List.mem_range.mpr hi)
  · intro a i hi
    have hi' := List.mem_range.mp hi
    rw [h i xs[i] (List.getElem?_eq_getElem hi')]
    exact a _ (List.getElem_mem hi')
local macro_rules | `(tactic| walk_at "ev") => `(tactic| first
  | exact ev_var rfl
  | exact ev_c
  | assumption
  | (refine ev_add ?_ ?_ <;> walk_at "ev")
  | (refine ev_sub ?_ ?_ <;> walk_at "ev")
  | (refine ev_int ?_ <;> walk_at "ev"))
/-! ### the checks -/
def sp_is_sequence (K : Frag) : Sp := spB1 isSeqD
def sp_is_triple (K : Frag) : Sp := spB1 isTripleD
def sp_is_word (K : Frag) : Sp := spB1 isWordD
def sp__law_whole (K : Frag) : Sp := spB1 fun d => isiB d "int" && !isiB d "bool"
def sp_is_whole (K : Frag) : Sp := fun vs H Q _ => ∃ v lo hi d, vs = [v, .int lo, .int hi] ∧ DS exR H v d ∧ ∀ H', Ext H H' → Q (.bl (isWholeD lo hi d)) H'
theorem len_is_sequence {K : Frag} {vs : List V} {H : Hp} {Q : VK} {E : XK} (h : sp_is_sequence K vs H Q E) : vs.length = 1 := spB1_len h
theorem len_is_triple {K : Frag} {vs : List V} {H : Hp} {Q : VK} {E : XK} (h : sp_is_triple K vs H Q E) : vs.length = 1 := spB1_len h
theorem len_is_word {K : Frag} {vs : List V} {H : Hp} {Q : VK} {E : XK} (h : sp_is_word K vs H Q E) : vs.length = 1 := spB1_len h
theorem len__law_whole {K : Frag} {vs : List V} {H : Hp} {Q : VK} {E : XK} (h : sp__law_whole K vs H Q E) : vs.length = 1 := spB1_len h
theorem len_is_whole {K : Frag} {vs : List V} {H : Hp} {Q : VK} {E : XK} (h : sp_is_whole K vs H Q E) : vs.length = 3 := by
  obtain ⟨v, lo, hi, d, rfl, _⟩ := h
  rfl
def t_is_whole (K : Frag) : TS := (tRet (tAndV (tCB (rIsiU K) (tCons (tVar 0) (tCons (tC (.ty "int")) tNil))) (tAndV (tNotV (tCB (rIsiU K) (tCons (tVar 0) (tCons (tC (.ty "bool")) tNil)))) (tChain (rCmp K gLe) (rCmp K gLe) (tVar 1) (tVar 0) (tVar 2)))))
def t_is_sequence (K : Frag) : TS := (tRet (tCB (rIsiU K) (tCons (tVar 0) (tCons (tTup (tCons (tC (.ty "list")) (tCons (tC (.ty "tuple")) tNil))) tNil))))
def t_is_triple (K : Frag) : TS := (tRet (tAndV (tCall (sp_is_sequence K) [] E0 (tCons (tVar 0) tNil)) (tOp (rEqU K) (tCB (rLenU K) (tCons (tVar 0) tNil)) (tC (.int 3)))))
def t_is_word (K : Frag) : TS := (tRet (tAndV (tCB (rIsiU K) (tCons (tVar 0) (tCons (tC (.ty "str")) tNil))) (tCB (rAll K) (tCons (tLc (iSeq K (tVar 0)) (gName 1) tYes (tOp (rInU K) (tVar 1) (tC (.str "abcdef"))) [1]) tNil))))
def t__law_whole (K : Frag) : TS := (tRet (tAndV (tCB (rIsiU K) (tCons (tVar 0) (tCons (tC (.ty "int")) tNil))) (tNotV (tCB (rIsiU K) (tCons (tVar 0) (tCons (tC (.ty "bool")) tNil))))))
theorem pure_is_sequence {K : Frag} (vs : List V) (H : Hp) (Q : VK) (E : XK) (h : sp_is_sequence K vs H Q E) : t_is_sequence K { nx := fun _ H' => Q .non H', rt := Q } (start ["value"] vs) H := by
  obtain ⟨v, d, rfl, hd, hs, k⟩ := h
  exact s_retV (ρ := exR) (ev_isiLT (ev_var rfl) hd) fun H1 e => k H1 e.ext
theorem pure__law_whole {K : Frag} (vs : List V) (H : Hp) (Q : VK) (E : XK) (h : sp__law_whole K vs H Q E) : t__law_whole K { nx := fun _ H' => Q .non H', rt := Q } (start ["value"] vs) H := by
  obtain ⟨v, d, rfl, hd, hs, k⟩ := h
  exact s_retV (ρ := exR) (ev_andV (ev_isi (ev_var rfl) hd rfl) fun _ => ev_notV (ev_isi (ev_var rfl) hd rfl)) fun H1 e => k H1 e.ext
theorem pure_is_whole {K : Frag} (vs : List V) (H : Hp) (Q : VK) (E : XK) (h : sp_is_whole K vs H Q E) : t_is_whole K { nx := fun _ H' => Q .non H', rt := Q } (start ["value", "low", "high"] vs) H := by
  obtain ⟨v, lo, hi, d, rfl, hd, k⟩ := h
  cases hi2 : (isiB d "int" && !isiB d "bool") with
  | true =>
    obtain ⟨i, rfl, rfl⟩ := hd.inv_int hi2
    exact s_retV (ρ := exR) ((ev_andV (ev_isi (ev_var rfl) hd rfl) fun _ => ev_andV (ev_notV (ev_isi (ev_var rfl) hd rfl)) fun _ => ev_chainLe (ev_var rfl) (ev_var rfl) (ev_var rfl)).val rfl) fun H1 e => k H1 e.ext
  | false =>
    have e0 : isWholeD lo hi d = false := by
      cases d with
      | int i => exact absurd hi2 (by show ¬ (true && !false) = false; decide)
      | _ => rfl
    refine s_retV (ρ := exR) ((ev_andV (b := (!isiB d "bool") && false) (ev_isi (ev_var rfl) hd rfl) fun h1 => ev_andV (ev_notV (ev_isi (ev_var rfl) hd rfl)) fun h2 => ?_).val (x := .bl (isWholeD lo hi d)) ?_) fun H1 e => k H1 e.ext
    · rw [h1, h2] at hi2
      cases hi2
    · rw [e0, Bool.and_false, Bool.and_false]
theorem pure_is_triple {K : Frag} (vs : List V) (H : Hp) (Q : VK) (E : XK) (h : sp_is_triple K vs H Q E) : t_is_triple K { nx := fun _ H' => Q .non H', rt := Q } (start ["value"] vs) H := by
  obtain ⟨v, d, rfl, hd, hs, k⟩ := h
  refine s_retV (ρ := exR) ((ev_andV (b := decide ((itemsD d).length = 3)) (ev_B1 (F := isSeqD) (ev_var rfl) hd hs) fun hq => ?_).val rfl) fun H1 e => k H1 e.ext
  obtain ⟨a, xs, rfl, ha, hsq, _⟩ := hd.seqd hq
  refine (ev_eqI (ev_len (ev_var rfl) (hsq K)) ev_c).val ?_
  rw [ha.length]
  exact congrArg V.bl (by
    by_cases z : (itemsD d).length = 3
    · rw [decide_eq_true z, decide_eq_true (by omega)]
    · rw [decide_eq_false z, decide_eq_false (by omega)])
theorem pure_is_word {K : Frag} (vs : List V) (H : Hp) (Q : VK) (E : XK) (h : sp_is_word K vs H Q E) : t_is_word K { nx := fun _ H' => Q .non H', rt := Q } (start ["value", "letter"] vs) H := by
  obtain ⟨v, d, rfl, hd, hs, k⟩ := h
  cases hi2 : isiB d "str" with
  | true =>
    obtain ⟨s, rfl, rfl⟩ := hd.inv_str hi2
    have hl := sm_str hs
    have hz : s.cps.size = s.length := rfl
    refine s_retV (ρ := exR) ((ev_andV (ev_isi (ev_var rfl) hd rfl) fun _ => ev_all (n := s.cps.size) (f := fun i => decide ((s.cps[i]?).getD 0 ∈ letters)) (ev_lcV own_ex (by omega) (ei_str (ev_var rfl)) (fun x => rfl) (fun i H2 x H3 y => y.1) ?_)).val (x := .bl (isWordD (.str s))) ?_) fun H1 e => k H1 e.ext
    · rintro i x H2 H3 hi r ⟨e3, c, hc, rfl⟩
      refine (ev_inS (ev_var rfl) ev_c).val ?_
      rw [hc]
      rfl
    · rw [hi2, Bool.true_and]
      refine congrArg V.bl ?_
      have hsz : s.cps.size = s.cps.toList.length := by simp
      show (List.range s.cps.size).all _ = s.cps.toList.all _
      rw [hsz]
      refine range_all _ _ _ fun i x hx => ?_
      have : s.cps[i]? = some x := by rw [← hx]; simp
      rw [this]
      rfl
  | false =>
    have e0 : isWordD d = false := by
      cases d with
      | str i => exact absurd hi2 (by show ¬ true = false; decide)
      | _ => rfl
    refine s_retV (ρ := exR) ((ev_andV (b := false) (ev_isi (ev_var rfl) hd rfl) fun h1 => ?_).val (x := .bl (isWordD d)) ?_) fun H1 e => k H1 e.ext
    · rw [hi2] at h1
      cases h1
    · rw [e0, Bool.and_false]
/-! ### rising rows -/
/-- neighbours that can be compared -/
def okRow (ds : List PyData) : Prop := ∀ d ∈ ds, ∀ e ∈ ds, PySem.W.alike d e = true ∧ d ≠ .none ∧ d.depth ≤ 64
def risingD : List PyData → Bool
  | d :: e :: r => PySem.W.dataLt d e && risingD (e :: r)
  | _ => true
def sp_is_rising (K : Frag) : Sp := fun vs H Q _ => ∃ v d, vs = [v] ∧ DS exR H v d ∧ isSeqD d = true ∧ (itemsD d).length ≤ 1000 ∧ okRow (itemsD d) ∧ ∀ H', Ext H H' → Q (.bl (risingD (itemsD d))) H'
theorem len_is_rising {K : Frag} {vs : List V} {H : Hp} {Q : VK} {E : XK} (h : sp_is_rising K vs H Q E) : vs.length = 1 := by
  obtain ⟨v, d, rfl, _⟩ := h
  rfl
theorem rising_range : ∀ (ds : List PyData) (g : Nat → Bool), (∀ i d e, ds[i]? = some d → ds[i + 1]? = some e → g i = PySem.W.dataLt d e) → (List.range (ds.length - 1)).all g = risingD ds
  | [], g, _ => rfl
  | [d], g, _ => rfl
  | d :: e :: r, g, h => by
    have ih := rising_range (e :: r) (fun i => g (i + 1)) fun i x y a b => h (i + 1) x y (by simpa using a) (by simpa using b)
    have e1 : (d :: e :: r).length - 1 = ((e :: r).length - 1) + 1 := by simp
    rw [e1, List.range_succ_eq_map, List.all_cons, List.all_map]
    show (g 0 && (List.range ((e :: r).length - 1)).all fun i => g (i + 1)) = (PySem.W.dataLt d e && risingD (e :: r))
    rw [ih, h 0 d e rfl rfl]
def t_is_rising (K : Frag) : TS := (tRet (tCB (rAll K) (tCons (tLc (iRng1 (tCons (tOp rSubI (tCB (rLenU K) (tCons (tVar 0) tNil)) (tC (.int 1))) tNil)) (gName 1) tYes (tOp (rCmp K gLt) (tIxU K (tVar 0) (tVar 1)) (tIxU K (tVar 0) (tOp (rAddU K) (tVar 1) (tC (.int 1))))) [1]) tNil)))
theorem pure_is_rising {K : Frag} (vs : List V) (H : Hp) (Q : VK) (E : XK) (h : sp_is_rising K vs H Q E) : t_is_rising K { nx := fun _ H' => Q .non H', rt := Q } (start ["rows", "at"] vs) H := by
  obtain ⟨v, d, rfl, hd, hq, hl, ok, k⟩ := h
  obtain ⟨a, xs, rfl, ha, hsq, _⟩ := hd.seqd hq
  have hlen := ha.length
  have hn : ((xs.length : Int) - 1).toNat = xs.length - 1 := by omega
  refine s_retV (ρ := exR) ((ev_all (n := ((xs.length : Int) - 1).toNat) (f := fun i => match (itemsD d)[i]?, (itemsD d)[i + 1]? with | some x, some y => PySem.W.dataLt x y | _, _ => true)
    (ev_lcV own_ex (by omega) (ei_rng (ea_cons (ev_sub (ev_len (ev_var rfl) (hsq K)) ev_c) ea_nil) (by omega) (by omega)) (fun x => rfl) (fun i H2 x H3 y => y.1) ?_)).val (x := .bl (risingD (itemsD d))) ?_) fun H1 e => k H1 e.ext
  · rintro i x H2 H3 hi r ⟨e3, rfl⟩
    have h1 : i + 1 < xs.length := by omega
    have g1 : xs[i]? = some xs[i] := List.getElem?_eq_getElem (by omega)
    have g2 : xs[i + 1]? = some xs[i + 1] := List.getElem?_eq_getElem h1
    obtain ⟨d1, e1, q1⟩ := ha.get g1
    obtain ⟨d2, e2, q2⟩ := ha.get g2
    obtain ⟨o1, o2, o3⟩ := ok d1 (List.mem_of_getElem? e1) d2 (List.mem_of_getElem? e2)
    refine (ev_cmp (d := d1) (e := d2) (ev_ix (n := i) (ev_var rfl) (ev_var rfl) (fun H4 r4 => hsq K H4 (r.trans r4)) rfl g1) (ev_ix (n := i + 1) (ev_var rfl) (ev_add (ev_var rfl) ev_c) (fun H4 r4 => hsq K H4 (r.trans r4)) (by omega) g2) (r.ds q1) (r.ds q2) o1 o2 o3).val ?_
    show V.bl (PySem.W.dataLt d1 d2) = V.bl (match (itemsD d)[i]?, (itemsD d)[i + 1]? with | some x, some y => PySem.W.dataLt x y | _, _ => true)
    rw [e1, e2]
  · refine congrArg V.bl ?_
    rw [hn, hlen]
    refine rising_range _ _ fun i x y e1 e2 => ?_
    show (match (itemsD d)[i]?, (itemsD d)[i + 1]? with | some x, some y => PySem.W.dataLt x y | _, _ => true) = _
    rw [e1, e2]
/-! ### strings of letters -/
def isStrD (most : Int) : PyData → Bool
  | .str s => decide ((s.length : Int) ≤ most) && s.cps.toList.all fun c => decide (c ∈ letters)
  | _ => false
def sp__law_is_string (K : Frag) : Sp := fun vs H Q _ => ∃ v most d, vs = [v, .int most] ∧ DS exR H v d ∧ sm d = true ∧ ∀ H', Ext H H' → Q (.bl (isStrD most d)) H'
theorem len__law_is_string {K : Frag} {vs : List V} {H : Hp} {Q : VK} {E : XK} (h : sp__law_is_string K vs H Q E) : vs.length = 2 := by
  obtain ⟨v, lo, d, rfl, _⟩ := h
  rfl
section
variable {ρ : Rl} {K : Frag} {σ : L2.St} {H : Hp} {ta tb te : TE} {v : V} {d : PyData}
theorem ev_is_string {E : XK} {m : Int} (h : EvV ρ ta σ H v) (h2 : EvV ρ tb σ H (.int m)) (hd : DS ρ H v d) (hs : sm d = true) : EvV ρ (tCall (sp__law_is_string K) [] E (tCons ta (tCons tb tNil))) σ H (.bl (isStrD m d)) :=
  ev_call (ea_cons h (ea_cons h2 ea_nil)) fun H1 e1 Q q E => ⟨v, m, d, rfl, (e1.ds hd).ex, hs, fun H' e => q _ H' (Ext.r e) rfl⟩
theorem ev_is_whole {tc : TE} {E : XK} {lo hi : Int} (h : EvV ρ ta σ H v) (h2 : EvV ρ tb σ H (.int lo)) (h3 : EvV ρ tc σ H (.int hi)) (hd : DS ρ H v d) : EvV ρ (tCall (sp_is_whole K) [] E (tCons ta (tCons tb (tCons tc tNil)))) σ H (.bl (isWholeD lo hi d)) :=
  ev_call (ea_cons h (ea_cons h2 (ea_cons h3 ea_nil))) fun H1 e1 Q q E => ⟨v, lo, hi, d, rfl, (e1.ds hd).ex, fun H' e => q _ H' (Ext.r e) rfl⟩
/-- len of a new list -/
theorem ev_lenN {n : Int} {R : V → Hp → Prop} (h : Ev ρ te σ H R) (hs : ∀ v H1, ρ.r H H1 → R v H1 → ∃ p xs, v = .ref p ∧ ¬ ρ.S p ∧ H1 p = some (.lst xs) ∧ (xs.length : Int) = n) : EvV ρ (tCB (rLenU K) (tCons te tNil)) σ H (.int n) :=
  ev_cb (ea_one h) fun vs H1 e1 ⟨u, eu, ru⟩ => by
    obtain ⟨p, xs, rfl, nS, hp, hl⟩ := hs u H1 e1 ru
    subst eu
    exact fun H2 e2 Q q => .inl ⟨_, xs.length, rfl, .inl ⟨xs, .of (e2.keep _ _ nS hp), rfl⟩, q _ H2 .rfl (by rw [hl])⟩
end
theorem filter_len_zero {n : Nat} {f : Nat → Bool} : decide ((((List.range n).filter f).length : Int) = 0) = (List.range n).all fun i => !f i := by
  rw [Bool.eq_iff_iff, decide_eq_true_iff, List.all_eq_true]
  constructor
  · intro h i hi
    have h0 : ((List.range n).filter f) = [] := List.eq_nil_of_length_eq_zero (by omega)
    have := List.filter_eq_nil_iff.mp h0 i hi
    simpa using this
  · intro h
    have h0 : ((List.range n).filter f) = [] := List.filter_eq_nil_iff.mpr fun i hi => by simpa using h i hi
    rw [h0]
    rfl
def t__law_is_string (K : Frag) : TS := (tSeq (tIfS (tOr (tNot (tB (tCB (rIsiU K) (tCons (tVar 0) (tCons (tC (.ty "str")) tNil))))) (tTest (tOp (rCmp K gGt) (tCB (rLenU K) (tCons (tVar 0) tNil)) (tVar 1)))) (tRet (tC (.bl false))) tNext) (tRet (tOp (rEqU K) (tCB (rLenU K) (tCons (tLc (iSeq K (tVar 0)) (gName 2) (tTest (tOp (rNotInU K) (tVar 2) (tC (.str "abcdef")))) (tVar 2) [2]) tNil)) (tC (.int 0)))))
theorem pure__law_is_string {K : Frag} (vs : List V) (H : Hp) (Q : VK) (E : XK) (h : sp__law_is_string K vs H Q E) : t__law_is_string K { nx := fun _ H' => Q .non H', rt := Q } (start ["value", "most", "one"] vs) H := by
  obtain ⟨v, m, d, rfl, hd, hs, k⟩ := h
  cases hi2 : isiB d "str" with
  | true =>
    obtain ⟨s, rfl, rfl⟩ := hd.inv_str hi2
    have hl := sm_str hs
    have hz : s.cps.size = s.length := rfl
    refine q_when (ρ := exR) (et_or (et_not (et_B (ev_isi (ev_var rfl) hd rfl))) fun _ => et_test (ev_gt (ev_lenS (ev_var rfl) (by omega)) (ev_var rfl))) (fun hb H1 e => s_retV (ρ := exR) ev_c fun H2 e2 => ?_) (fun hb H1 e => ?_)
    · have hm : ¬ (s.length : Int) ≤ m := by
        rw [hi2] at hb
        have : decide (m < (s.length : Int)) = true := by simpa using hb
        have := of_decide_eq_true this
        omega
      have e0 : isStrD m (.str s) = false := by
        show (decide ((s.length : Int) ≤ m) && _) = false
        rw [decide_eq_false hm, Bool.false_and]
      have := k H2 (e.trans e2).ext
      rw [e0] at this
      exact this
    · have hm : (s.length : Int) ≤ m := by
        rw [hi2] at hb
        have : decide (m < (s.length : Int)) = false := by simpa using hb
        have := of_decide_eq_false this
        omega
      refine s_retV (ρ := exR) ((ev_eqI (ev_lenN (n := (((List.range s.cps.size).filter fun i => !decide ((s.cps[i]?).getD 0 ∈ letters)).length : Int))
        (ev_lc (R := fun _ i x _ => True) (C := fun i b => b = !decide ((s.cps[i]?).getD 0 ∈ letters)) own_ex (by omega) (ei_str (ev_var rfl)) (fun _ _ _ _ _ _ h => h) (fun _ _ _ _ h => h) ?_) ?_) ev_c).val (x := .bl (isStrD m (.str s))) ?_) fun H2 e2 => k H2 (e.trans e2).ext
      · rintro D H2 r hD i x H3 H4 hi r2 oD ⟨e3, c, hc, rfl⟩ cont hcont
        subst e3
        refine hcont _ _ rfl .rfl fun H5 r5 Q' q' => ?_
        refine et_test (ρ := exR) (H := H5) (ev_notInS (ev_var rfl) ev_c) H5 .rfl _ fun H6 r6 => q' _ H6 r6 ?_ fun _ => ?_
        · show _ = !decide ((s.cps[i]?).getD 0 ∈ letters)
          rw [hc]
          rfl
        · exact (ev_var (v := .str ⟨#[c]⟩) rfl).imp fun _ _ _ _ => trivial
      · rintro v H2 r ⟨p, xs, f, e1, nS, hp, hx, hC, hit⟩
        refine ⟨p, xs, e1, nS, hx, ?_⟩
        rw [hit.1, kept_congr hC]
        rfl
      · refine congrArg V.bl ?_
        rw [filter_len_zero]
        show _ = (decide ((s.length : Int) ≤ m) && s.cps.toList.all fun c => decide (c ∈ letters))
        rw [decide_eq_true hm, Bool.true_and]
        have hsz : s.cps.size = s.cps.toList.length := by simp
        rw [hsz]
        refine range_all _ _ _ fun i x hx => ?_
        have : s.cps[i]? = some x := by rw [← hx]; simp
        rw [this, Bool.not_not]
        rfl
  | false =>
    have e0 : isStrD m d = false := by
      cases d with
      | str i => exact absurd hi2 (by show ¬ true = false; decide)
      | _ => rfl
    rw [e0] at k
    refine q_when (ρ := exR) (et_or (b := false) (et_not (et_B (ev_isi (ev_var rfl) hd rfl))) fun h1 => ?_) (fun hb H1 e => s_retV (ρ := exR) ev_c fun H2 e2 => k H2 (e.trans e2).ext) (fun hb H1 e => ?_)
    · rw [hi2] at h1
      cases h1
    · rw [hi2] at hb
      cases hb
end Slip
/-! faults and tables -/
namespace Slip
open PySem PySem.Spec PyProof.Rows L2
def Le (ρ ρ' : Rl) : Prop := ∀ a, ρ.S a → ρ'.S a
theorem Le.rfl {ρ : Rl} : Le ρ ρ := fun _ h => h
theorem Le.and {ρ : Rl} {D : Addr} : Le ρ (ρ.and D) := fun _ h => .inl h
theorem Le.ds {ρ ρ' : Rl} (l : Le ρ ρ') {H H' : Hp} (e : ρ.r H H') {v : V} {d : PyData} (h : DS ρ' H v d) : DS ρ' H' v d := h.move (fun a _ n q => ⟨n, e.keep a _ (fun z => n (l a z)) q⟩) e.tup
theorem Le.dss {ρ ρ' : Rl} (l : Le ρ ρ') {H H' : Hp} (e : ρ.r H H') {v : List V} {d : List PyData} (h : DSs ρ' H v d) : DSs ρ' H' v d := h.move (fun a _ n q => ⟨n, e.keep a _ (fun z => n (l a z)) q⟩) e.tup
section
variable {ρ ρ' : Rl} {K : Frag} {σ : L2.St} {H : Hp} {ta tb tc te : TE} {x y z v : V} {d e f : PyData} {a : Addr}
/-- a, b, c = a sequence of three -/
theorem g_seq3 {i j l : Nat} {Q : L2.St → Hp → Prop} (hs : SqA K H a [x, y, z]) (q : Q (((σ.set i (some x)).set j (some y)).set l (some z)) H) : gSeq K 3 (gCons (gName i) (gCons (gName j) (gCons (gName l) gNil))) (.ref a) σ H Q := by
  rcases hs with h | h
  · exact .inr ⟨a, _, rfl, h, rfl, x, _, rfl, y, _, rfl, z, _, rfl, rfl, q⟩
  · exact .inl ⟨a, _, rfl, h, rfl, x, _, rfl, y, _, rfl, z, _, rfl, rfl, q⟩
/-- (a, b) of data -/
theorem ev_pairD (l : Le ρ ρ') (h1 : EvV ρ ta σ H x) (h2 : EvV ρ tb σ H y) (hx : DS ρ' H x d) (hy : DS ρ' H y e) : Ev ρ (tTup (tCons ta (tCons tb tNil))) σ H (fun v H' => DS ρ' H' v (.tuple [d, e])) :=
  (ev_tup (ea_cons h1 (ea_cons h2 ea_nil)) fun vs H1 _ e => by rw [e]; show 2 ≤ 100000; decide).imp fun v H2 r ⟨p, vs, H1, ev, evs, hp, r1, eH⟩ => by
    subst ev evs
    exact .tup (by rw [eH]; exact upd_same) (.cons (l.ds r hx) (.cons (l.ds r hy) .nil))
theorem ev_tripleD (l : Le ρ ρ') (h1 : EvV ρ ta σ H x) (h2 : EvV ρ tb σ H y) (h3 : EvV ρ tc σ H z) (hx : DS ρ' H x d) (hy : DS ρ' H y e) (hz : DS ρ' H z f) : Ev ρ (tTup (tCons ta (tCons tb (tCons tc tNil)))) σ H (fun v H' => DS ρ' H' v (.tuple [d, e, f])) :=
  (ev_tup (ea_cons h1 (ea_cons h2 (ea_cons h3 ea_nil))) fun vs H1 _ e => by rw [e]; show 3 ≤ 100000; decide).imp fun v H2 r ⟨p, vs, H1, ev, evs, hp, r1, eH⟩ => by
    subst ev evs
    exact .tup (by rw [eH]; exact upd_same) (.cons (l.ds r hx) (.cons (l.ds r hy) (.cons (l.ds r hz) .nil)))
theorem ev_rising {E : XK} {ds : List PyData} (h : Ev ρ te σ H (fun u H2 => ∃ p xs, u = .ref p ∧ ¬ ρ.S p ∧ H p = none ∧ H2 p = some (.lst xs) ∧ DSs ρ H2 xs ds)) (hl : ds.length ≤ 1000) (ok : okRow ds) : EvV ρ (tCall (sp_is_rising K) [] E (tCons te tNil)) σ H (.bl (risingD ds)) :=
  ev_callR (ea_one h) fun vs H1 e1 ⟨u, eu, p, xs, ep, nS, _, hp, hx⟩ => by
    subst eu ep
    refine fun H2 e2 Q q E => ⟨_, .list ds, rfl, ?_, rfl, hl, ok, fun H' e => q _ H' (Ext.r e) rfl⟩
    exact .lst (fun z => z) (e2.keep _ _ nS hp) ((e2.dss hx).move (fun a _ n q => ⟨fun z => z, q⟩) fun _ _ q => q)
end
theorem three {α : Type} {l : List α} (h : l.length = 3) : ∃ a b c, l = [a, b, c] := by
  match l, h with
  | [a, b, c], _ => exact ⟨a, b, c, rfl⟩
theorem DqAll.three {A : Addr → Prop} {H : Hp} {xs : List V} {m w c : PyData} (h : DqAll A H xs [m, w, c]) : ∃ x y z, xs = [x, y, z] ∧ Dq A H x m ∧ Dq A H y w ∧ Dq A H z c := by
  cases h with | cons h1 h => cases h with | cons h2 h => cases h with | cons h3 h => cases h with | nil => exact ⟨_, _, _, rfl, h1, h2, h3⟩
theorem DqAll.two {A : Addr → Prop} {H : Hp} {xs : List V} {m w : PyData} (h : DqAll A H xs [m, w]) : ∃ x y, xs = [x, y] ∧ Dq A H x m ∧ Dq A H y w := by
  cases h with | cons h1 h => cases h with | cons h2 h => cases h with | nil => exact ⟨_, _, rfl, h1, h2⟩
theorem notb {b : Bool} (h : (!b) = true) : b = false := by
  cases b
  · rfl
  · cases h
theorem notb' {b : Bool} (h : (!b) = false) : b = true := by
  cases b
  · cases h
  · rfl
def isPieceD : PyData → Bool
  | .str s => isWordD (.str s) && decide ((s.length : Int) ≤ 2)
  | _ => false
def isFaultD (d : PyData) : Bool := isTripleD d && match itemsD d with
  | [m, w, c] => isPieceD m && isPieceD w && !(PyData.eqv m w) && isWholeD 1 9 c
  | _ => false
def pairOf (d : PyData) : PyData := match itemsD d with
  | m :: w :: _ => .tuple [m, w]
  | _ => .none
def isTableD (d : PyData) : Bool := isSeqD d && decide ((itemsD d).length ≤ 8) && (itemsD d).all isFaultD && risingD ((itemsD d).map pairOf)
/-- a string of at most so many letters -/
def isShortD (n : Int) : PyData → Bool
  | .str s => isWordD (.str s) && decide ((s.length : Int) ≤ n)
  | _ => false
def sp_is_short (K : Frag) : Sp := fun vs H Q _ => ∃ v n d, vs = [v, .int n] ∧ DS exR H v d ∧ sm d = true ∧ ∀ H', Ext H H' → Q (.bl (isShortD n d)) H'
theorem len_is_short {K : Frag} {vs : List V} {H : Hp} {Q : VK} {E : XK} (h : sp_is_short K vs H Q E) : vs.length = 2 := by
  obtain ⟨v, n, d, rfl, _⟩ := h
  rfl
theorem ev_is_short {ρ : Rl} {K : Frag} {σ : L2.St} {H : Hp} {ta tb : TE} {E : XK} {v : V} {d : PyData} {n : Int} (h : EvV ρ ta σ H v) (h2 : EvV ρ tb σ H (.int n)) (hd : DS ρ H v d) (hs : sm d = true) : EvV ρ (tCall (sp_is_short K) [] E (tCons ta (tCons tb tNil))) σ H (.bl (isShortD n d)) :=
  ev_call (ea_cons h (ea_cons h2 ea_nil)) fun H1 e1 Q q E => ⟨v, n, d, rfl, (e1.ds hd).ex, hs, fun H' e => q _ H' (Ext.r e) rfl⟩
def sp_is_piece (K : Frag) : Sp := spB1 isPieceD
def sp_is_fault (K : Frag) : Sp := spB1 isFaultD
def sp_is_table (K : Frag) : Sp := spB1 isTableD
theorem len_is_piece {K : Frag} {vs : List V} {H : Hp} {Q : VK} {E : XK} (h : sp_is_piece K vs H Q E) : vs.length = 1 := spB1_len h
theorem len_is_fault {K : Frag} {vs : List V} {H : Hp} {Q : VK} {E : XK} (h : sp_is_fault K vs H Q E) : vs.length = 1 := spB1_len h
theorem len_is_table {K : Frag} {vs : List V} {H : Hp} {Q : VK} {E : XK} (h : sp_is_table K vs H Q E) : vs.length = 1 := spB1_len h
def t_is_short (K : Frag) : TS := (tRet (tAndV (tCall (sp_is_word K) [] E0 (tCons (tVar 0) tNil)) (tOp (rCmp K gLe) (tCB (rLenU K) (tCons (tVar 0) tNil)) (tVar 1))))
def t_is_piece (K : Frag) : TS := (tRet (tCall (sp_is_short K) [] E0 (tCons (tVar 0) (tCons (tC (.int 2)) tNil))))
def t_is_fault (K : Frag) : TS := (tSeq (tIfS (tNot (tB (tCall (sp_is_triple K) [] E0 (tCons (tVar 0) tNil)))) (tRet (tC (.bl false))) tNext) (tSeq (tAsg (tVar 0) (gSeq K 3 (gCons (gName 1) (gCons (gName 2) (gCons (gName 3) gNil))))) (tSeq (tIfS (tOr (tNot (tB (tCall (sp_is_piece K) [] E0 (tCons (tVar 1) tNil)))) (tOr (tNot (tB (tCall (sp_is_piece K) [] E0 (tCons (tVar 2) tNil)))) (tTest (tOp (rEqU K) (tVar 1) (tVar 2))))) (tRet (tC (.bl false))) tNext) (tRet (tCall (sp_is_whole K) [] E0 (tCons (tVar 3) (tCons (tC (.int 1)) (tCons (tC (.int 9)) tNil))))))))
def t_is_table (K : Frag) : TS := (tSeq (tIfS (tOr (tNot (tB (tCall (sp_is_sequence K) [] E0 (tCons (tVar 0) tNil)))) (tTest (tOp (rCmp K gGt) (tCB (rLenU K) (tCons (tVar 0) tNil)) (tC (.int 8))))) (tRet (tC (.bl false))) tNext) (tSeq (tIfS (tNot (tB (tCB (rAll K) (tCons (tLc (iSeq K (tVar 0)) (gName 1) tYes (tCall (sp_is_fault K) [] E0 (tCons (tVar 1) tNil)) [1]) tNil)))) (tRet (tC (.bl false))) tNext) (tRet (tCall (sp_is_rising K) [] E0 (tCons (tLc (iSeq K (tVar 0)) (gName 1) tYes (tTup (tCons (tIxU K (tVar 1) (tC (.int 0))) (tCons (tIxU K (tVar 1) (tC (.int 1))) tNil))) [1]) tNil)))))
theorem pure_is_short {K : Frag} (vs : List V) (H : Hp) (Q : VK) (E : XK) (h : sp_is_short K vs H Q E) : t_is_short K { nx := fun _ H' => Q .non H', rt := Q } (start ["value", "most"] vs) H := by
  obtain ⟨v, n, d, rfl, hd, hs, k⟩ := h
  cases hi2 : isWordD d with
  | true =>
    cases d with
    | str s =>
      have hl := sm_str hs
      cases hd
      refine s_retV (ρ := exR) ((ev_andV (ev_B1 (F := isWordD) (ev_var rfl) (.str s) hs) fun _ => ev_le (ev_lenS (ev_var rfl) (by omega)) (ev_var rfl)).val rfl) fun H1 e => k H1 e.ext
    | _ => cases hi2
  | false =>
    have e0 : isShortD n d = false := by
      cases d with
      | str s => show (isWordD (.str s) && _) = false; rw [hi2, Bool.false_and]
      | _ => rfl
    rw [e0] at k
    refine s_retV (ρ := exR) ((ev_andV (b := false) (ev_B1 (F := isWordD) (ev_var rfl) hd hs) fun h1 => ?_).val (x := .bl false) (by rw [Bool.and_false])) fun H1 e => k H1 e.ext
    rw [hi2] at h1
    cases h1
theorem pure_is_piece {K : Frag} (vs : List V) (H : Hp) (Q : VK) (E : XK) (h : sp_is_piece K vs H Q E) : t_is_piece K { nx := fun _ H' => Q .non H', rt := Q } (start ["value"] vs) H := by
  obtain ⟨v, d, rfl, hd, hs, k⟩ := h
  have e0 : isPieceD d = isShortD 2 d := by cases d <;> rfl
  rw [e0] at k
  exact s_retV (ρ := exR) (ev_is_short (ev_var rfl) ev_c hd hs) fun H1 e => k H1 e.ext
theorem piece_str {d : PyData} (h : isPieceD d = true) : ∃ s, d = .str s ∧ s.length ≤ 2 ∧ isWordD (.str s) = true := by
  cases d with
  | str s =>
    have h' : isWordD (.str s) = true ∧ (s.length : Int) ≤ 2 := by simpa [isPieceD] using h
    exact ⟨s, rfl, by omega, h'.1⟩
  | _ => cases h
theorem eqv_str (s t : Str) : PyData.eqv (.str s) (.str t) = decide (s = t) := by
  show (s == t) = decide (s = t)
  rw [Bool.eq_iff_iff]
  simp
theorem pure_is_fault {K : Frag} (vs : List V) (H : Hp) (Q : VK) (E : XK) (h : sp_is_fault K vs H Q E) : t_is_fault K { nx := fun _ H' => Q .non H', rt := Q } (start ["value", "meant", "written", "cost"] vs) H := by
  obtain ⟨v, d, rfl, hd, hs, k⟩ := h
  refine q_when (ρ := exR) (et_not (et_B (ev_B1 (F := isTripleD) (ev_var rfl) hd hs))) (fun hb H1 e => s_retV (ρ := exR) ev_c fun H2 e2 => ?_) (fun hb H1 e => ?_)
  · have e0 : isFaultD d = false := by
      unfold isFaultD
      rw [show isTripleD d = false by simpa using hb, Bool.false_and]
    rw [e0] at k
    exact k H2 (e.trans e2).ext
  have ht : isTripleD d = true := by simpa using hb
  have ht2 : isSeqD d = true ∧ (itemsD d).length = 3 := by simpa [isTripleD] using ht
  obtain ⟨a, xs, rfl, ha, hsq, _⟩ := hd.seqd ht2.1
  have hsm : smAll (itemsD d) = true := by
    cases d with
    | list ds => exact (sm_seq (.inl hs)).2
    | tuple ds => exact (sm_seq (.inr hs)).2
    | _ => rfl
  obtain ⟨m, w, c, hds⟩ := three ht2.2
  rw [hds] at ha hsm
  obtain ⟨x, y, z, rfl, hm, hw, hc⟩ := ha.three
  · have sm3 : sm m = true ∧ sm w = true ∧ sm c = true := by simpa [smAll] using hsm
    have ef : isFaultD d = (isPieceD m && isPieceD w && !(PyData.eqv m w) && isWholeD 1 9 c) := by
      unfold isFaultD
      rw [ht, hds, Bool.true_and]
    rw [ef] at k
    refine ⟨_, rfl, g_seq3 (hsq K H1 e) ?_⟩
    have gm : DS exR H1 x m := e.ds hm
    have gw : DS exR H1 y w := e.ds hw
    have gc : DS exR H1 z c := e.ds hc
    refine q_when (ρ := exR) (H := H1) (b := !(isPieceD m && isPieceD w && !(PyData.eqv m w))) ((et_or (b := !isPieceD w || PyData.eqv m w) (et_not (et_B (ev_B1 (F := isPieceD) (ev_var rfl) gm sm3.1))) fun h1 => et_or (b := PyData.eqv m w) (et_not (et_B (ev_B1 (F := isPieceD) (ev_var rfl) gw sm3.2.1))) fun h2 => et_test ?_).to ?_) (fun hb H2 e2 => s_retV (ρ := exR) ev_c fun H3 e3 => ?_) (fun hb H2 e2 => ?_)
    · obtain ⟨s, rfl, _⟩ := piece_str (d := m) (by simpa using h1)
      obtain ⟨t, rfl, _⟩ := piece_str (d := w) (by simpa using h2)
      cases gm
      cases gw
      exact (ev_eqS (ev_var rfl) (ev_var rfl)).val (by rw [eqv_str])
    · cases isPieceD m <;> cases isPieceD w <;> cases PyData.eqv m w <;> rfl
    · have e0 : (isPieceD m && isPieceD w && !(PyData.eqv m w)) = false := notb hb
      rw [e0, Bool.false_and] at k
      exact k H3 (e.trans (e2.trans e3)).ext
    · have e0 : (isPieceD m && isPieceD w && !(PyData.eqv m w)) = true := notb' hb
      rw [e0, Bool.true_and] at k
      exact s_retV (ρ := exR) (ev_is_whole (ev_var rfl) ev_c ev_c (e2.ds gc)) fun H3 e3 => k H3 (e.trans (e2.trans e3)).ext
theorem fault_parts {d : PyData} (h : isFaultD d = true) : ∃ s t c, itemsD d = [.str s, .str t, .int c] ∧ isPieceD (.str s) = true ∧ isPieceD (.str t) = true ∧ s ≠ t ∧ 1 ≤ c ∧ c ≤ 9 ∧ isSeqD d = true := by
  have h' : isTripleD d = true ∧ (match itemsD d with
    | [m, w, c] => isPieceD m && isPieceD w && !(PyData.eqv m w) && isWholeD 1 9 c
    | _ => false) = true := by simpa [isFaultD] using h
  have ht2 : isSeqD d = true ∧ (itemsD d).length = 3 := by simpa [isTripleD] using h'.1
  match hds : itemsD d, ht2.2, h'.2 with
  | [m, w, c], _, h2 =>
    have h3 : ((isPieceD m = true ∧ isPieceD w = true) ∧ PyData.eqv m w = false) ∧ isWholeD 1 9 c = true := by simpa using h2
    obtain ⟨s, rfl, _⟩ := piece_str h3.1.1.1
    obtain ⟨t, rfl, _⟩ := piece_str h3.1.1.2
    cases c with
    | int i =>
      have h4 : 1 ≤ i ∧ i ≤ 9 := by simpa [isWholeD] using h3.2
      refine ⟨s, t, i, rfl, h3.1.1.1, h3.1.1.2, ?_, h4.1, h4.2, ht2.1⟩
      have := h3.1.2
      rw [eqv_str] at this
      exact of_decide_eq_false this
    | _ => exact absurd h3.2 (by simp [isWholeD])
theorem pair_fault {d : PyData} {s t : Str} {c : PyData} (h : itemsD d = [.str s, .str t, c]) : pairOf d = .tuple [.str s, .str t] := by
  unfold pairOf
  rw [h]
theorem ok_pairs {ds : List PyData} (h : ds.all isFaultD = true) : okRow (ds.map pairOf) := by
  intro d hd e he
  obtain ⟨d', hd', rfl⟩ := List.mem_map.mp hd
  obtain ⟨e', he', rfl⟩ := List.mem_map.mp he
  obtain ⟨s, t, c, h1, _⟩ := fault_parts (List.all_eq_true.mp h d' hd')
  obtain ⟨s2, t2, c2, h2, _⟩ := fault_parts (List.all_eq_true.mp h e' he')
  rw [pair_fault h1, pair_fault h2]
  exact ⟨rfl, by simp, by show (1 : Nat) ≤ 64; decide⟩
theorem pure_is_table {K : Frag} (vs : List V) (H : Hp) (Q : VK) (E : XK) (h : sp_is_table K vs H Q E) : t_is_table K { nx := fun _ H' => Q .non H', rt := Q } (start ["value", "fault"] vs) H := by
  obtain ⟨v, d, rfl, hd, hs, k⟩ := h
  cases hq : isSeqD d with
  | false =>
    have e0 : isTableD d = false := by unfold isTableD; rw [hq]; rfl
    rw [e0] at k
    refine q_when (ρ := exR) (et_or (b := true) (et_not (et_B (ev_B1 (F := isSeqD) (ev_var rfl) hd hs))) fun h1 => ?_) (fun hb H1 e => s_retV (ρ := exR) ev_c fun H2 e2 => k H2 (e.trans e2).ext) (fun hb H1 e => ?_)
    · rw [hq] at h1
      cases h1
    · rw [hq] at hb
      cases hb
  | true =>
  obtain ⟨a, xs, rfl, ha, hsq, hsq2⟩ := hd.seqd hq
  have hlen := ha.length
  have hl1000 : (itemsD d).length ≤ 1000 ∧ smAll (itemsD d) = true := by
    cases d with
    | list ds => exact sm_seq (.inl hs)
    | tuple ds => exact sm_seq (.inr hs)
    | _ => cases hq
  refine q_when (ρ := exR) (et_or (et_not (et_B (ev_B1 (F := isSeqD) (ev_var rfl) hd hs))) fun _ => et_test (ev_gt (ev_len (ev_var rfl) (hsq K)) ev_c)) (fun hb H1 e => s_retV (ρ := exR) ev_c fun H2 e2 => ?_) (fun hb H1 e => ?_)
  · have hz : ¬ (itemsD d).length ≤ 8 := by
      rw [hq] at hb
      have : decide (8 < (xs.length : Int)) = true := by simpa using hb
      have := of_decide_eq_true this
      omega
    have e0 : isTableD d = false := by unfold isTableD; rw [decide_eq_false hz, Bool.and_false]; rfl
    rw [e0] at k
    exact k H2 (e.trans e2).ext
  have hz : (itemsD d).length ≤ 8 := by
    rw [hq] at hb
    have : decide (8 < (xs.length : Int)) = false := by simpa using hb
    have := of_decide_eq_false this
    omega
  have sqs : (∀ H2, exR.r H1 H2 → SqL K H2 a xs) ∨ ∀ H2, exR.r H1 H2 → SqT K H2 a xs := hsq2.imp (fun f H2 e2 => f K H2 (e.trans e2)) fun f H2 e2 => f K H2 (e.trans e2)
  have hx1 : DSs exR H1 xs (itemsD d) := e.dss ha
  refine q_when (ρ := exR) (b := !(itemsD d).all isFaultD) ((et_not (et_B (ev_all (n := xs.length) (f := fun i => isFaultD ((itemsD d)[i]?.getD .none)) (ev_lcV own_ex (by omega) (ei_seq (ev_var rfl) (fun H2 e2 => hsq K H2 (e.trans e2)) sqs) (fun x => rfl) (fun i H2 x H3 y => y.1) ?_)))).to ?_) (fun hb2 H2 e2 => s_retV (ρ := exR) ev_c fun H3 e3 => ?_) (fun hb2 H2 e2 => ?_)
  · rintro i x H2 H3 hi r ⟨e3, hx⟩
    obtain ⟨d1, g1, g2⟩ := hx1.get hx
    refine (ev_B1 (F := isFaultD) (ev_var rfl) (r.ds g2) (smAll_mem hl1000.2 (List.mem_of_getElem? g1))).val ?_
    rw [g1]
    rfl
  · refine congrArg (fun b => !b) ?_
    rw [hlen]
    refine range_all _ _ _ fun i x hx => ?_
    rw [hx]
    rfl
  · have hz2 : (itemsD d).all isFaultD = false := by simpa using hb2
    have e0 : isTableD d = false := by unfold isTableD; rw [hz2, Bool.and_false]; rfl
    rw [e0] at k
    exact k H3 (e.trans (e2.trans e3)).ext
  have hz2 : (itemsD d).all isFaultD = true := by simpa using hb2
  have e0 : isTableD d = risingD ((itemsD d).map pairOf) := by unfold isTableD; rw [hq, decide_eq_true hz, hz2]; rfl
  rw [e0] at k
  have hmap : (List.range xs.length).map (fun i => pairOf ((itemsD d)[i]?.getD .none)) = (itemsD d).map pairOf := by
    refine List.ext_getElem? fun i => ?_
    rw [List.getElem?_map, List.getElem?_map]
    by_cases hi : i < xs.length
    · rw [List.getElem?_range hi]
      have hi' : i < (itemsD d).length := by omega
      rw [List.getElem?_eq_getElem hi']
      show some (pairOf ((itemsD d)[i]?.getD .none)) = some (pairOf (itemsD d)[i])
      rw [List.getElem?_eq_getElem hi']
      rfl
    · rw [List.getElem?_eq_none_iff.mpr (by rw [List.length_range]; omega), List.getElem?_eq_none_iff.mpr (by omega)] <;> rfl
  have r02 := e.trans e2
  have sqs2 : (∀ H3, exR.r H2 H3 → SqL K H3 a xs) ∨ ∀ H3, exR.r H2 H3 → SqT K H3 a xs := hsq2.imp (fun f H3 e3 => f K H3 (r02.trans e3)) fun f H3 e3 => f K H3 (r02.trans e3)
  have hx2 : DSs exR H2 xs (itemsD d) := r02.dss ha
  refine s_retV (ρ := exR) (ev_rising (ds := (itemsD d).map pairOf) ?_ (by rw [List.length_map]; omega) (ok_pairs hz2)) fun H3 e3 => k H3 (r02.trans e3).ext
  rw [← hmap]
  refine ev_lcD own_ex (by omega) (ei_seq (ev_var rfl) (fun H3 e3 => hsq K H3 (r02.trans e3)) sqs2) (fun x => rfl) (fun i H2 x H3 y => y.1) ?_
  rintro D H3 r3 hD i x H4 H5 hi r4 oD ⟨e5, hx⟩
  obtain ⟨d1, g1, g2⟩ := hx2.get hx
  obtain ⟨s, t, c, p1, _, _, _, _, _, p2⟩ := fault_parts (List.all_eq_true.mp hz2 d1 (List.mem_of_getElem? g1))
  have g3 : DS exR H4 x d1 := r4.ds (r3.ds g2)
  obtain ⟨b, ys, rfl, hb3, hb4, _⟩ := g3.seqd p2
  rw [p1] at hb3
  obtain ⟨y1, y2, y3, rfl, c1, c2, c3⟩ := hb3.three
  · rw [g1]
    show Ev exR _ _ H4 (fun y H6 => DS (exR.and D) H6 y (pairOf d1))
    rw [pair_fault p1]
    cases c1
    cases c2
    exact ev_pairD .and (ev_ix (n := 0) (ev_var rfl) ev_c (hb4 K) rfl rfl) (ev_ix (n := 1) (ev_var rfl) ev_c (hb4 K) rfl rfl) (.str s) (.str t)
end Slip
/-! the law's own helpers: the draws -/
namespace Slip
open PySem PySem.Spec PyProof.Rows L2
section
variable {ρ : Rl} {K : Frag} {σ : L2.St} {H H' : Hp} {ta tb tc te ti : TE} {t u : TT} {x y z v : V} {r : R2} {R : V → Hp → Prop} {Pa Pb : V → Prop} {a l p : Addr} {xs : List V} {D : Ends} {tz tu : TS} {n : Nat} {i j : Int}
/-- operands whose values are not known -/
theorem ev_opP (ha : Ev ρ ta σ H (fun v _ => Pa v)) (hb : Ev ρ tb σ H (fun v _ => Pb v)) (hr : ∀ x y, Pa x → Pb y → RV ρ r x y H R) : Ev ρ (tOp r ta tb) σ H R := fun H1 e Q q =>
  ha H1 e _ fun x H2 e2 px => hb H2 (e.trans e2) _ fun y H3 e3 py => hr x y px py H3 ((e.trans e2).trans e3) Q fun v H4 e4 rv => q v H4 ((e2.trans e3).trans e4) rv
theorem ev_P {P : V → Prop} (h : EvV ρ te σ H v) (p : P v) : Ev ρ te σ H (fun v' _ => P v') := h.imp fun _ _ _ e => by rw [e]; exact p
theorem ea_consP {tr : TA} {Pr : List V → Prop} (h : Ev ρ ta σ H (fun v _ => Pa v)) (hr : EvA ρ tr σ H (fun vs _ => Pr vs)) : EvA ρ (tCons ta tr) σ H (fun vs _ => ∃ x ws, vs = x :: ws ∧ Pa x ∧ Pr ws) := fun H1 e _ q =>
  h H1 e _ fun x H2 e2 px => hr H2 (e.trans e2) _ fun ws H3 e3 pw => q _ H3 (e2.trans e3) ⟨x, ws, rfl, px, pw⟩
/-- xs[i] of an unknown place -/
theorem ev_ixP (h1 : EvV ρ ta σ H (.ref a)) (h2 : Ev ρ tb σ H (fun v _ => ∃ m : Int, v = .int m ∧ 0 ≤ m ∧ m < (xs.length : Int))) (hs : ∀ H1, ρ.r H H1 → SqA K H1 a xs) : Ev ρ (tIxU K ta tb) σ H (fun v _ => ∃ m : Nat, xs[m]? = some v) :=
  fun H1 e1 Q q => .inl (ev_opP (Pa := fun v => v = .ref a) h1 h2 (fun x y ex ⟨m, ey, h0, h1⟩ H2 e2 Q q => by
    subst ex ey
    have hm : m.toNat < xs.length := by omega
    have g : xs[m.toNat]? = some xs[m.toNat] := List.getElem?_eq_getElem hm
    have g2 : atI xs m = some xs[m.toNat] := by
      have := atI_nat g
      rwa [show ((m.toNat : Nat) : Int) = m by omega] at this
    exact (hs H2 e2).elim (fun hs => .inl ⟨a, xs, m, _, rfl, rfl, hs, g2, q _ H2 .rfl ⟨_, g⟩⟩) fun hs => .inr (.inl ⟨a, xs, m, _, rfl, rfl, hs, g2, q _ H2 .rfl ⟨_, g⟩⟩)) H1 e1 Q q)
theorem ev_ixSP {s : Str} (h1 : EvV ρ ta σ H (.str s)) (hl : s.length ≤ 100000) (h2 : Ev ρ tb σ H (fun v _ => ∃ m : Int, v = .int m ∧ 0 ≤ m ∧ m < (s.length : Int))) : Ev ρ (tIxU K ta tb) σ H (fun v _ => ∃ c, v = .str ⟨#[c]⟩ ∧ c ∈ s.cps.toList) :=
  fun H1 e1 Q q => .inl (ev_opP (Pa := fun v => v = .str s) h1 h2 (fun x y ex ⟨m, ey, h0, h1⟩ H2 e2 Q q => by
    subst ex ey
    have hz : s.cps.toList.length = s.length := by simp [Str.length]
    have hm : m.toNat < s.cps.toList.length := by omega
    have g : s.cps.toList[m.toNat]? = some s.cps.toList[m.toNat] := List.getElem?_eq_getElem hm
    have g2 : atI s.cps.toList m = some s.cps.toList[m.toNat] := by
      have := atI_nat g
      rwa [show ((m.toNat : Nat) : Int) = m by omega] at this
    exact .inr (.inr ⟨s, m, _, rfl, rfl, Evl.sz_of hl, g2, q _ H2 .rfl ⟨_, rfl, List.getElem_mem hm⟩⟩)) H1 e1 Q q)
/-- xs.append(e) -/
theorem s_app (hl : H l = some (.lst xs)) (nS : ¬ ρ.S l) (ha : EvV ρ ta σ H (.ref l)) (h : Ev ρ te σ H R) (hz : xs.length < 100000) (k : ∀ y H1, ρ.r H H1 → R y H1 → H1 l = some (.lst xs) → D.nx σ (upd H1 l (.lst (xs ++ [y])))) :
    tDrop (tBM K "list" rAppend ta (tCons te tNil)) D σ H := ha H .rfl _ fun v H1 e1 ev => by
  subst ev
  exact ⟨Or.inl ⟨rfl, xs, .of (e1.keep _ _ nS hl)⟩, h H1 e1 _ fun y H2 e2 ry => ⟨l, xs, y, rfl, rfl, (e1.trans e2).keep _ _ nS hl, Evl.sz_lt hz, k y H2 (e1.trans e2) ry ((e1.trans e2).keep _ _ nS hl)⟩⟩
theorem q_app (hl : H l = some (.lst xs)) (nS : ¬ ρ.S l) (ha : EvV ρ ta σ H (.ref l)) (h : Ev ρ te σ H R) (hz : xs.length < 100000) (k : ∀ y H1, ρ.r H H1 → R y H1 → H1 l = some (.lst xs) → tz D σ (upd H1 l (.lst (xs ++ [y])))) :
    tSeq (tDrop (tBM K "list" rAppend ta (tCons te tNil))) tz D σ H := s_app (D := { D with nx := tz D }) hl nS ha h hz k
/-- xs[i] = e -/
theorem q_setL {m : Nat} (hl : ∀ H1, ρ.r H H1 → H1 l = some (.lst xs)) (h : Ev ρ te σ H R) (ho : EvV ρ ta σ H (.ref l)) (hi : EvV ρ ti σ H (.int (m : Int))) (hm : m < xs.length) (k : ∀ y H1, ρ.r H H1 → R y H1 → tz D σ (upd H1 l (.lst (xs.set m y)))) (hR : ∀ y H1 H2, ρ.r H1 H2 → R y H1 → R y H2) :
    tSeq (tAsg te (gSub ta ti (rSetU K))) tz D σ H := h H .rfl _ fun y H1 e1 ry => ho H1 e1 _ fun v H2 e2 ev => by
  subst ev
  exact hi H2 (e1.trans e2) _ fun w H3 e3 ew => by
    subst ew
    have e13 := (e1.trans e2).trans e3
    exact .inl ⟨l, xs, (m : Int), m, rfl, rfl, hl H3 e13, Evl.ixN_nat hm, k y H3 e13 (hR _ _ _ (e2.trans e3) ry)⟩
/-! ### walks over what is not known ahead -/
def EvIx (ρ : Rl) (wi : TI) (σ : L2.St) (H : Hp) (C : Nat → (Nat → Hp → V → Hp → Prop) → Prop) : Prop :=
  ∀ H1, ρ.r H H1 → ∀ R : It → Hp → Prop, (∀ n Y J H2, C n Y → ρ.r H1 H2 → Walk J n (fun H3 => ρ.r H2 H3) Y → R J H2) → wi σ H1 R
variable {wi : TI} {g : TG} {C : Nat → (Nat → Hp → V → Hp → Prop) → Prop}
theorem s_forx (h : EvIx ρ wi σ H C) (k : ∀ n Y H1, C n Y → ρ.r H H1 → ∃ Pv : Nat → L2.St → Hp → Prop, Pv 0 σ H1 ∧ (∀ i σ' H', i ≤ n → Pv i σ' H' → ρ.r H1 H') ∧
    (∀ i x σ' H' H'', i < n → Pv i σ' H' → Y i H' x H'' → g x σ' H'' fun σ2 H2 => tu { D with nx := Pv (i + 1), ct := Pv (i + 1), bk := D.nx } σ2 H2) ∧ ∀ σ' H', Pv n σ' H' → D.nx σ' H') : tFor wi g tu D σ H :=
  h H .rfl _ fun n Y J H1 c e w => by
    obtain ⟨Pv, h0, hr, hs, hd⟩ := k n Y H1 c e
    exact for_it w Pv h0 hr hs hd
theorem q_forx (h : EvIx ρ wi σ H C) (k : ∀ n Y H1, C n Y → ρ.r H H1 → ∃ Pv : Nat → L2.St → Hp → Prop, Pv 0 σ H1 ∧ (∀ i σ' H', i ≤ n → Pv i σ' H' → ρ.r H1 H') ∧
    (∀ i x σ' H' H'', i < n → Pv i σ' H' → Y i H' x H'' → g x σ' H'' fun σ2 H2 => tu { D with nx := Pv (i + 1), ct := Pv (i + 1), bk := tz D } σ2 H2) ∧ ∀ σ' H', Pv n σ' H' → tz D σ' H') : tSeq (tFor wi g tu) tz D σ H :=
  s_forx (D := { D with nx := tz D }) h k
theorem eix_rng {lim : Int} (h : Ev ρ te σ H (fun v _ => ∃ m : Int, v = .int m ∧ 0 ≤ m ∧ m < lim)) (hl : lim ≤ 1000000) : EvIx ρ (iRng1 (tCons te tNil)) σ H (fun n Y => (n : Int) < lim ∧ Y = YFn fun m => .int ((m : Nat) : Int)) := fun H1 e1 R k =>
  h H1 e1 _ fun v H2 e2 ⟨m, ev, h0, h1⟩ => ⟨m, by rw [ev], by omega, by omega, k m.toNat _ _ H2 ⟨by omega, rfl⟩ e2 (walk_range.mono (fun _ _ => trivial) fun i H3 x H4 _ _ y => ⟨y.1, by rw [y.2]; exact congrArg V.int (Int.zero_add _)⟩)⟩
/-- a new list of known things -/
theorem ei_new (h : Ev ρ te σ H (fun v H2 => ∃ p, v = .ref p ∧ ¬ ρ.S p ∧ H2 p = some (.lst xs))) : EvI ρ (iSeq K te) σ H xs.length (YAt xs) := fun H1 e1 R k =>
  .inl (h H1 e1 _ fun v H2 e2 ⟨p, ev, nS, hp⟩ => ⟨p, ev, ⟨xs, .of hp⟩, k _ H2 e2 (walk_list.mono (fun H3 e3 => .of (e3.keep _ _ nS hp)) fun _ _ _ _ _ _ y => y)⟩)
/-- xs[:n] of a list -/
theorem ev_slL {tl th : TO} {lo hi : Option Int} (own : Own ρ H) (h : EvV ρ te σ H (.ref a)) (h1 : EvO ρ tl σ H lo) (h2 : EvO ρ th σ H hi) (hs : ∀ H1, ρ.r H H1 → SqL K H1 a xs) : Ev ρ (tSl (rSlU K) te tl th) σ H (fun v H2 => ∃ p, v = .ref p ∧ ¬ ρ.S p ∧ H2 p = some (.lst (cutV xs lo hi))) := fun H0 e Q q =>
  h H0 e _ fun v H2 e2 ev => by
    subst ev
    refine h1 H2 (e.trans e2) _ fun H3 e3 => h2 H3 ((e.trans e2).trans e3) _ fun H4 e4 => ?_
    have e04 := ((e.trans e2).trans e3).trans e4
    exact .inl ⟨a, xs, rfl, hs H4 e04, fun p hp => q _ _ (((e2.trans e3).trans e4).trans (r_new _ hp)) ⟨p, rfl, (own.r e04).fresh hp, upd_same⟩⟩
end
/-! ### draws -/
/-- a row of numbers at ra, the place at sp -/
def Dr (K : Frag) (ra sp : Addr) (H : Hp) : Prop := (∃ ms : List Int, ms ≠ [] ∧ SqL K H ra (ms.map V.int)) ∧ Spot sp H ∧ ra ≠ sp
theorem Dr.r {ρ : Rl} {K : Frag} {ra sp : Addr} {H H' : Hp} (d : Dr K ra sp H) (e : ρ.r H H') (h1 : ¬ ρ.S ra) (h2 : ρ.S sp → ρ.P sp) : Dr K ra sp H' := by
  obtain ⟨⟨ms, hm, hq⟩, hs, ne⟩ := d
  refine ⟨⟨ms, hm, e.sqL h1 hq⟩, ?_, ne⟩
  by_cases z : ρ.S sp
  · exact e.spot sp (h2 z) hs
  · obtain ⟨k, h0, q⟩ := hs
    exact ⟨k, h0, e.keep _ _ z q⟩
theorem Dr.sp {K : Frag} {ra sp : Addr} {H H' : Hp} (d : Dr K ra sp H) (e : (spR sp).r H H') : Dr K ra sp H' := d.r e d.2.2 fun z => z
def sp__law_draw (K : Frag) : Sp := fun vs H Q _ => ∃ (ra : Addr) (k lim : Int), vs = [.ref ra, .int k, .int lim] ∧ (∃ ms : List Int, ms ≠ [] ∧ SqL K H ra (ms.map V.int)) ∧ 0 ≤ k ∧ 0 < lim ∧ ∀ n H', 0 ≤ n → n < lim → Ext H H' → Q (.int n) H'
def sp__law_take (K : Frag) : Sp := fun vs H Q _ => ∃ (ra sp : Addr) (lim : Int), vs = [.ref ra, .ref sp, .int lim] ∧ Dr K ra sp H ∧ 0 < lim ∧ ∀ n H', 0 ≤ n → n < lim → (spR sp).r H H' → Q (.int n) H'
theorem len__law_draw {K : Frag} {vs : List V} {H : Hp} {Q : VK} {E : XK} (h : sp__law_draw K vs H Q E) : vs.length = 3 := by
  obtain ⟨ra, k, lim, rfl, _⟩ := h
  rfl
theorem len__law_take {K : Frag} {vs : List V} {H : Hp} {Q : VK} {E : XK} (h : sp__law_take K vs H Q E) : vs.length = 3 := by
  obtain ⟨ra, k, lim, rfl, _⟩ := h
  rfl
/-- a drawn number -/
abbrev Below (lim : Int) (v : V) : Prop := ∃ n : Int, v = .int n ∧ 0 ≤ n ∧ n < lim
section
variable {ρ : Rl} {K : Frag} {σ : L2.St} {H : Hp} {ta tb tc : TE} {ra sp : Addr} {lim : Int}
theorem ev_take {E : XK} (h1 : EvV (spR sp) ta σ H (.ref ra)) (h2 : EvV (spR sp) tb σ H (.ref sp)) (h3 : EvV (spR sp) tc σ H (.int lim)) (d : Dr K ra sp H) (hl : 0 < lim) : Ev (spR sp) (tCall (sp__law_take K) [] E (tCons ta (tCons tb (tCons tc tNil)))) σ H (fun v _ => Below lim v) :=
  ev_call (ea_cons h1 (ea_cons h2 (ea_cons h3 ea_nil))) fun H1 e1 Q q E => ⟨ra, sp, lim, rfl, d.sp e1, hl, fun n H' h0 h1 e => q _ H' e ⟨n, rfl, h0, h1⟩⟩
end
def t__law_draw (K : Frag) : TS := (tSeq (tIfS (tTest (tOp (rCmp K gLt) (tVar 1) (tCB (rLenU K) (tCons (tVar 0) tNil)))) (tRet (tOp rModI (tCB rIntOf (tCons (tIxU K (tVar 0) (tVar 1)) tNil)) (tVar 2))) tNext) (tSeq (tAsg (tOp rModI (tCB rIntOf (tCons (tOp (rAddU K) (tOp (rAddU K) (tOp rMulI (tIxU K (tVar 0) (tOp rModI (tCB rIntOf (tCons (tVar 1) tNil)) (tCB (rLenU K) (tCons (tVar 0) tNil)))) (tC (.int 40692))) (tOp rMulI (tVar 1) (tC (.int 7919)))) (tC (.int 3))) tNil)) (tC (.int 2147483399))) (gName 3)) (tRet (tOp rModI (tCB rIntOf (tCons (tOp rModI (tCB rIntOf (tCons (tOp (rAddU K) (tOp rMulI (tVar 3) (tC (.int 48271))) (tVar 1)) tNil)) (tC (.int 2147483647))) tNil)) (tVar 2)))))
def t__law_take (K : Frag) : TS := (tSeq (tAsg (tOp (rAddU K) (tIxU K (tVar 1) (tC (.int 0))) (tC (.int 1))) (gSub (tVar 1) (tC (.int 0)) (rSetU K))) (tRet (tCall (sp__law_draw K) [] E0 (tCons (tVar 0) (tCons (tOp rSubI (tIxU K (tVar 1) (tC (.int 0))) (tC (.int 1))) (tCons (tVar 2) tNil))))))
theorem pure__law_draw {K : Frag} (vs : List V) (H : Hp) (Q : VK) (E : XK) (h : sp__law_draw K vs H Q E) : t__law_draw K { nx := fun _ H' => Q .non H', rt := Q } (start ["row", "at", "limit", "mixed"] vs) H := by
  obtain ⟨ra, k, lim, rfl, ⟨ms, hm, hq⟩, h0, hl, q⟩ := h
  have hlen : (ms.map V.int).length = ms.length := List.length_map _
  have hpos : 0 < ms.length := by
    cases ms with
    | nil => exact absurd rfl hm
    | cons _ _ => exact Nat.succ_pos _
  have sq : ∀ H1, exR.r H H1 → SqA K H1 ra (ms.map V.int) := fun H1 e => .inl (ext_sqL e.ext hq)
  refine q_when (ρ := exR) (et_test (ev_lt (ev_var rfl) (ev_len (ev_var rfl) sq))) (fun hb H1 e => ?_) (fun hb H1 e => ?_)
  · have hk : k < (ms.length : Int) := by
      have := of_decide_eq_true hb
      rwa [hlen] at this
    have sq1 : ∀ H2, exR.r H1 H2 → SqA K H2 ra (ms.map V.int) := fun H2 e2 => sq H2 (e.trans e2)
    have g : (ms.map V.int)[k.toNat]? = some (.int (ms[k.toNat]'(by omega))) := by
      rw [List.getElem?_map, List.getElem?_eq_getElem (by omega)] <;> rfl
    exact s_retV (ρ := exR) (ev_mod (ev_int (ev_ix (n := k.toNat) (ev_var rfl) (ev_var rfl) sq1 (by omega) g)) (ev_var rfl) hl) fun H2 e2 => q _ H2 (Int.emod_nonneg _ (by omega)) (Int.emod_lt_of_pos _ hl) (e.trans e2).ext
  · have sq1 : ∀ H2, exR.r H1 H2 → SqA K H2 ra (ms.map V.int) := fun H2 e2 => sq H2 (e.trans e2)
    have hn : (k % (ms.length : Int)).toNat < ms.length := by
      have h1 := Int.emod_lt_of_pos k (show (0 : Int) < ms.length by omega)
      have h2 := Int.emod_nonneg k (show (ms.length : Int) ≠ 0 by omega)
      omega
    have g : (ms.map V.int)[(k % (ms.length : Int)).toNat]? = some (.int (ms[(k % (ms.length : Int)).toNat]'hn)) := by
      rw [List.getElem?_map, List.getElem?_eq_getElem hn] <;> rfl
    refine q_asgV (ρ := exR) (ev_mod (ev_int (ev_add (ev_add (ev_mul (ev_ix (n := (k % (ms.length : Int)).toNat) (ev_var rfl) ((ev_mod (ev_int (ev_var rfl)) (ev_len (ev_var rfl) sq1) (by omega)).val (by rw [hlen])) sq1 (by have h2 := Int.emod_nonneg k (show (ms.length : Int) ≠ 0 by omega); omega) g) ev_c (.inr (by decide))) (ev_mul (ev_var rfl) ev_c (.inr (by decide)))) ev_c)) ev_c (by decide)) fun H2 e2 => ?_
    exact s_retV (ρ := exR) (ev_mod (ev_int (ev_mod (ev_int (ev_add (ev_mul (ev_var rfl) ev_c (.inr (by decide))) (ev_var rfl))) ev_c (by decide))) (ev_var rfl) hl) fun H3 e3 => q _ H3 (Int.emod_nonneg _ (by omega)) (Int.emod_lt_of_pos _ hl) (e.trans (e2.trans e3)).ext
theorem pure__law_take {K : Frag} (vs : List V) (H : Hp) (Q : VK) (E : XK) (h : sp__law_take K vs H Q E) : t__law_take K { nx := fun _ H' => Q .non H', rt := Q } (start ["row", "spot", "limit"] vs) H := by
  obtain ⟨ra, sp, lim, rfl, ⟨⟨ms, hm, hq⟩, ⟨k, h0, hs⟩, ne⟩, hl, q⟩ := h
  have hs0 : ∀ H1, exR.r H H1 → H1 sp = some (.lst [.int k]) := fun H1 e => e.ext _ _ hs
  refine q_setL (ρ := exR) (R := fun v _ => v = .int (k + 1)) (m := 0) hs0 (ev_add (ev_ix (n := 0) (ev_var rfl) ev_c (fun H1 e => .inl (.of (hs0 H1 e))) rfl rfl) ev_c) (ev_var rfl) ev_c (by show 0 < 1; decide) (fun y H1 e1 ey => ?_) (fun _ _ _ _ h => h)
  subst ey
  have ch : (spR sp).r H (upd H1 sp (.lst [.int (k + 1)])) := by
    have e := e1.ext
    refine ⟨fun a o n h => by rw [upd_ne n]; exact e a o h, fun a h => ?_, fun a xs h => ?_, fun a o u h => ?_, fun a p h => ?_⟩
    · by_cases z : a = sp
      · subst z; rw [upd_same] at h; cases h
      · rw [upd_ne z] at h; exact e1.back a h
    · rw [upd_ne (ne_of h hs (by intro z; cases z))]; exact e a _ h
    · rw [upd_ne (ne_of h hs (by intro z; cases z))]; exact e a _ h
    · subst p
      exact ⟨k + 1, by omega, upd_same⟩
  have hq2 : SqL K (upd H1 sp (.lst [.int (k + 1)])) ra (ms.map V.int) := ch.sqL ne hq
  have hs2 : ∀ H2, exR.r (upd H1 sp (.lst [.int (k + 1)])) H2 → SqA K H2 sp [.int (k + 1)] := fun H2 e => .inl (.of (e.ext _ _ upd_same))
  refine s_ret (ρ := exR) (R := fun v _ => Below lim v) (ev_call (ea_cons (ev_var rfl) (ea_cons (ev_sub (ev_ix (n := 0) (ev_var rfl) ev_c hs2 rfl rfl) ev_c) (ea_cons (ev_var rfl) ea_nil))) fun H2 e2 Q' q' E => ⟨ra, k + 1 - 1, lim, rfl, ⟨ms, hm, ext_sqL e2.ext hq2⟩, by omega, hl, fun n H' h0 h1 e => q' _ H' (Ext.r e) ⟨n, rfl, h0, h1⟩⟩) fun v H2 e2 ⟨n, ev, h0', h1'⟩ => ?_
  subst ev
  exact q n H2 h0' h1' (ch.trans (Ext.r e2.ext))
end Slip
/-! the law's own helpers: sameness, the numbers of the script -/
namespace Slip
open PySem PySem.Spec PyProof.Rows L2
/- found is wanted, kind by kind -/
mutual
def soD : PyData → PyData → Bool
  | f, .none => (match f with | .none => true | _ => false)
  | f, .tuple ws => (match f with | .tuple fs => soAll fs ws | _ => false)
  | f, .bool b => (match f with | .bool a => a == b | _ => false)
  | f, .int j => (match f with | .int i => decide (i = j) | _ => false)
  | f, .str t => (match f with | .str s => decide (s = t) | _ => false)
  | _, .list _ => false
  | _, .dict _ => false
def soAll : List PyData → List PyData → Bool
  | [], [] => true
  | f :: fs, w :: ws => soD f w && soAll fs ws
  | [], _ :: _ => false
  | _ :: _, [] => false
end
theorem soAll_len : ∀ {fs ws : List PyData}, soAll fs ws = true → fs.length = ws.length
  | [], [], _ => rfl
  | f :: fs, w :: ws, h => by
    have h' : soD f w = true ∧ soAll fs ws = true := by simpa [soAll] using h
    exact congrArg Nat.succ (soAll_len h'.2)
  | [], _ :: _, h => by cases h
  | _ :: _, [], h => by cases h
theorem soAll_of : ∀ {fs ws : List PyData}, fs.length = ws.length → (∀ (i : Nat) f w, fs[i]? = some f → ws[i]? = some w → soD f w = true) → soAll fs ws = true
  | [], [], _, _ => rfl
  | f :: fs, w :: ws, hl, h => by
    show (soD f w && soAll fs ws) = true
    rw [h 0 f w rfl rfl, soAll_of (by simpa using hl) fun i x y a b => h (i + 1) x y (by simpa using a) (by simpa using b)]
    rfl
  | [], _ :: _, hl, _ => by simp at hl
  | _ :: _, [], hl, _ => by simp at hl
theorem soAll_no : ∀ {fs ws : List PyData} {i : Nat} {f w : PyData}, fs[i]? = some f → ws[i]? = some w → soD f w = false → soAll fs ws = false
  | f :: fs, w :: ws, 0, x, y, a, b, h => by
    cases a
    cases b
    show (soD f w && soAll fs ws) = false
    rw [h, Bool.false_and]
  | f :: fs, w :: ws, i + 1, x, y, a, b, h => by
    show (soD f w && soAll fs ws) = false
    rw [soAll_no (by simpa using a) (by simpa using b) h, Bool.and_false]
  | [], _, i, x, y, a, _, _ => by simp at a
  | _ :: _, [], i, x, y, _, b, _ => by simp at b
theorem depth_mem : ∀ {ds : List PyData} {d : PyData}, d ∈ ds → d.depth ≤ PyData.depthAll ds
  | e :: ds, d, h => by
    show d.depth ≤ max e.depth (PyData.depthAll ds)
    rcases List.mem_cons.mp h with rfl | h
    · exact Nat.le_max_left _ _
    · exact Nat.le_trans (depth_mem h) (Nat.le_max_right _ _)
/- sizes that a range can walk -/
mutual
def smB : PyData → Bool
  | .tuple ds => decide (ds.length ≤ 100000000) && smBs ds
  | _ => true
def smBs : List PyData → Bool
  | [] => true
  | d :: ds => smB d && smBs ds
end
theorem smB_mem : ∀ {ds : List PyData} {d : PyData}, smBs ds = true → d ∈ ds → smB d = true
  | e :: ds, d, h, hm => by
    have h' : smB e = true ∧ smBs ds = true := by simpa [smBs] using h
    rcases List.mem_cons.mp hm with rfl | hm
    · exact h'.1
    · exact smB_mem h'.2 hm
theorem smB_of : ∀ {ds : List PyData}, (∀ d ∈ ds, smB d = true) → smBs ds = true
  | [], _ => rfl
  | e :: ds, h => by
    show (smB e && smBs ds) = true
    rw [h e (List.mem_cons_self ..), smB_of fun d hd => h d (List.mem_cons_of_mem _ hd)]
    rfl
mutual
theorem sm_B : ∀ (d : PyData), sm d = true → smB d = true
  | .tuple ds, h => by
    have z := sm_seq (.inr h)
    show (decide (ds.length ≤ 100000000) && smBs ds) = true
    rw [decide_eq_true (show ds.length ≤ 100000000 by have := z.1; omega), sms_B ds z.2]
    rfl
  | .none, _ => rfl
  | .bool _, _ => rfl
  | .int _, _ => rfl
  | .str _, _ => rfl
  | .list _, _ => rfl
  | .dict _, _ => rfl
theorem sms_B : ∀ (ds : List PyData), smAll ds = true → smBs ds = true
  | [], _ => rfl
  | d :: ds, h => by
    have h' : sm d = true ∧ smAll ds = true := by simpa [smAll] using h
    show (smB d && smBs ds) = true
    rw [sm_B d h'.1, sms_B ds h'.2]
    rfl
end
def Sm (w : PyData) : Prop := smB w = true
theorem sm_Sm {w : PyData} (h : sm w = true) : Sm w := sm_B w h
instance {w : PyData} : Coe (sm w = true) (Sm w) := ⟨sm_Sm⟩
def sp__law_so (K : Frag) (n : Nat) : Sp := fun vs H Q _ => ∃ x y f w, vs = [x, y] ∧ DS exR H x f ∧ DS exR H y w ∧ Sm w ∧ w.depth < n ∧ ∀ H', Ext H H' → Q (.bl (soD f w)) H'
theorem len__law_so {K : Frag} {n : Nat} {vs : List V} {H : Hp} {Q : VK} {E : XK} (h : sp__law_so K n vs H Q E) : vs.length = 2 := by
  obtain ⟨x, y, f, w, rfl, _⟩ := h
  rfl
section
variable {ρ : Rl} {K : Frag} {σ : L2.St} {H : Hp} {ta tb : TE} {x y : V} {f w : PyData} {n : Nat}
theorem ev_so {E : XK} (h1 : EvV ρ ta σ H x) (h2 : EvV ρ tb σ H y) (hf : DS ρ H x f) (hw : DS ρ H y w) (hs : Sm w) (hd : w.depth < n) : EvV ρ (tCall (sp__law_so K n) [] E (tCons ta (tCons tb tNil))) σ H (.bl (soD f w)) :=
  ev_call (ea_cons h1 (ea_cons h2 ea_nil)) fun H1 e1 Q q E => ⟨x, y, f, w, rfl, (e1.ds hf).ex, (e1.ds hw).ex, hs, hd, fun H' e => q _ H' (Ext.r e) rfl⟩
end
def t__law_so (K : Frag) (n : Nat) : TS := (tSeq (tIfS (tTest (tOp rIsN (tVar 1) (tC .non))) (tRet (tOp rIsN (tVar 0) (tC .non))) tNext) (tSeq (tIfS (tB (tCB (rIsiU K) (tCons (tVar 1) (tCons (tC (.ty "tuple")) tNil)))) (tSeq (tIfS (tOr (tNot (tB (tCB (rIsiU K) (tCons (tVar 0) (tCons (tC (.ty "tuple")) tNil))))) (tTest (tOp (rNeU K) (tCB (rLenU K) (tCons (tVar 0) tNil)) (tCB (rLenU K) (tCons (tVar 1) tNil))))) (tRet (tC (.bl false))) tNext) (tSeq (tFor (iRng1 (tCons (tCB (rLenU K) (tCons (tVar 1) tNil)) tNil)) (gName 2) (tIfS (tNot (tB (tCall (sp__law_so K n) [] E0 (tCons (tIxU K (tVar 0) (tVar 2)) (tCons (tIxU K (tVar 1) (tVar 2)) tNil))))) (tRet (tC (.bl false))) tNext)) (tRet (tC (.bl true))))) tNext) (tSeq (tIfS (tOr (tB (tCB (rIsiU K) (tCons (tVar 1) (tCons (tC (.ty "bool")) tNil)))) (tB (tCB (rIsiU K) (tCons (tVar 0) (tCons (tC (.ty "bool")) tNil))))) (tRet (tAndV (tCB (rIsiU K) (tCons (tVar 1) (tCons (tC (.ty "bool")) tNil))) (tAndV (tCB (rIsiU K) (tCons (tVar 0) (tCons (tC (.ty "bool")) tNil))) (tOp (rEqU K) (tVar 0) (tVar 1))))) tNext) (tSeq (tIfS (tB (tCB (rIsiU K) (tCons (tVar 1) (tCons (tC (.ty "int")) tNil)))) (tRet (tAndV (tCB (rIsiU K) (tCons (tVar 0) (tCons (tC (.ty "int")) tNil))) (tOp (rEqU K) (tVar 0) (tVar 1)))) tNext) (tRet (tAndV (tCB (rIsiU K) (tCons (tVar 1) (tCons (tC (.ty "str")) tNil))) (tAndV (tCB (rIsiU K) (tCons (tVar 0) (tCons (tC (.ty "str")) tNil))) (tOp (rEqU K) (tVar 0) (tVar 1)))))))))
theorem pure__law_so {K : Frag} {n : Nat} (vs : List V) (H : Hp) (Q : VK) (E : XK) (h : sp__law_so K (n + 1) vs H Q E) : t__law_so K n { nx := fun _ H' => Q .non H', rt := Q } (start ["found", "wanted", "k"] vs) H := by
  obtain ⟨x, y, f, w, rfl, hf, hw, hs, hd, k⟩ := h
  cases w with
  | none =>
    cases hw
    refine q_when (ρ := exR) (b := true) ((et_test (ev_isN (v := V.non) (ev_var rfl))).to (decide_eq_true rfl)) (fun hb H1 e => s_retV (ρ := exR) (ev_isN (ev_var rfl)) fun H2 e2 => ?_) (fun hb H1 e => by cases hb)
    have : decide (x = V.non) = soD f .none := by cases hf <;> rfl
    rw [this]
    exact k H2 (e.trans e2).ext
  | list ds =>
    have e0 : soD f (.list ds) = false := by cases f <;> rfl
    rw [e0] at k
    have ne : y ≠ V.non := by cases hw; intro z; cases z
    refine q_when (ρ := exR) (b := false) ((et_test (ev_isN (ev_var rfl))).to (decide_eq_false ne)) (fun hb H1 e => by cases hb) (fun hb H1 e => ?_)
    refine q_when (ρ := exR) (b := false) (et_B (ev_isi (ev_var rfl) (e.ds hw) rfl)) (fun hb H1 e => by cases hb) (fun hb H2 e2 => ?_)
    have e12 := e.trans e2
    refine q_when (ρ := exR) (et_or (et_B (ev_isi (ev_var rfl) (e12.ds hw) rfl)) fun _ => et_B (ev_isi (ev_var rfl) (e12.ds hf) rfl)) (fun hb H3 e3 => s_retV (ρ := exR) ((ev_andV (b := true) (ev_isi (ev_var rfl) ((e12.trans e3).ds hw) rfl) fun h => by cases h)) fun H4 e4 => k H4 (e12.trans (e3.trans e4)).ext) (fun hb H3 e3 => ?_)
    have e13 := e12.trans e3
    refine q_when (ρ := exR) (b := false) (et_B (ev_isi (ev_var rfl) (e13.ds hw) rfl)) (fun hb H1 e => by cases hb) (fun hb H4 e4 => ?_)
    have e14 := e13.trans e4
    exact s_retV (ρ := exR) ((ev_andV (b := true) (ev_isi (ev_var rfl) (e14.ds hw) rfl) fun h => by cases h)) fun H5 e5 => k H5 (e14.trans e5).ext
  | dict ds => cases hw
  | bool b =>
    cases hw
    refine q_when (ρ := exR) (b := false) ((et_test (ev_isN (ev_var rfl))).to (decide_eq_false (by intro z; cases z))) (fun hb H1 e => by cases hb) (fun hb H1 e => ?_)
    refine q_when (ρ := exR) (b := false) (et_B (ev_isi (ev_var rfl) (.bl b) rfl)) (fun hb H1 e => by cases hb) (fun hb H2 e2 => ?_)
    have e12 := e.trans e2
    refine q_when (ρ := exR) (b := true) (et_or (b := true) (et_B (ev_isi (ev_var rfl) (.bl b) rfl)) fun h => by cases h) (fun hb H3 e3 => ?_) (fun hb H1 e => by cases hb)
    have e13 := e12.trans e3
    have gf := e13.ds hf
    cases hq : isiB f "bool" with
    | true =>
      cases f with
      | bool a =>
        cases hf
        exact s_retV (ρ := exR) (ev_andV (ev_isi (ev_var rfl) (.bl b) rfl) fun _ => ev_andV (ev_isi (ev_var rfl) gf rfl) fun _ => ev_eqB (ev_var rfl) (ev_var rfl)) fun H4 e4 => k H4 (e13.trans e4).ext
      | _ => exact absurd hq (by show ¬ false = true; decide)
    | false =>
      have e0 : soD f (.bool b) = false := by
        cases f with
        | bool a => exact absurd hq (by show ¬ true = false; decide)
        | _ => rfl
      rw [e0] at k
      refine s_retV (ρ := exR) ((ev_andV (b := false) (ev_isi (ev_var rfl) (.bl b) rfl) fun _ => (ev_andV (b := false) (ev_isi (ev_var rfl) gf rfl) fun h => by rw [hq] at h; cases h).val (by rw [Bool.and_false])).val (x := .bl false) (by rw [Bool.and_false])) fun H4 e4 => k H4 (e13.trans e4).ext
  | int j =>
    cases hw
    refine q_when (ρ := exR) (b := false) ((et_test (ev_isN (ev_var rfl))).to (decide_eq_false (by intro z; cases z))) (fun hb H1 e => by cases hb) (fun hb H1 e => ?_)
    refine q_when (ρ := exR) (b := false) (et_B (ev_isi (ev_var rfl) (.int j) rfl)) (fun hb H1 e => by cases hb) (fun hb H2 e2 => ?_)
    have e12 := e.trans e2
    refine q_when (ρ := exR) (et_or (et_B (ev_isi (ev_var rfl) (.int j) rfl)) fun _ => et_B (ev_isi (ev_var rfl) (e12.ds hf) rfl)) (fun hb H3 e3 => ?_) (fun hb H3 e3 => ?_)
    · have e0 : soD f (.int j) = false := by
        cases f with
        | int a => exact absurd hb (by show ¬ (false || false) = true; decide)
        | _ => rfl
      rw [e0] at k
      exact s_retV (ρ := exR) ((ev_andV (b := true) (ev_isi (ev_var rfl) (.int j) rfl) fun h => by cases h)) fun H4 e4 => k H4 (e12.trans (e3.trans e4)).ext
    · have e13 := e12.trans e3
      refine q_when (ρ := exR) (b := true) (et_B (ev_isi (ev_var rfl) (.int j) rfl)) (fun _ H4 e4 => ?_) (fun hb H1 e => by cases hb)
      have e14 := e13.trans e4
      have gf := e14.ds hf
      cases f with
      | int i =>
        cases hf
        exact s_retV (ρ := exR) (ev_andV (ev_isi (ev_var rfl) gf rfl) fun _ => ev_eqI (ev_var rfl) (ev_var rfl)) fun H5 e5 => k H5 (e14.trans e5).ext
      | bool a => exact absurd hb (by show ¬ (false || true) = false; decide)
      | none => exact s_retV (ρ := exR) ((ev_andV (b := true) (ev_isi (ev_var rfl) gf rfl) fun h => by cases h)) fun H5 e5 => k H5 (e14.trans e5).ext
      | str s => exact s_retV (ρ := exR) ((ev_andV (b := true) (ev_isi (ev_var rfl) gf rfl) fun h => by cases h)) fun H5 e5 => k H5 (e14.trans e5).ext
      | list s => exact s_retV (ρ := exR) ((ev_andV (b := true) (ev_isi (ev_var rfl) gf rfl) fun h => by cases h)) fun H5 e5 => k H5 (e14.trans e5).ext
      | tuple s => exact s_retV (ρ := exR) ((ev_andV (b := true) (ev_isi (ev_var rfl) gf rfl) fun h => by cases h)) fun H5 e5 => k H5 (e14.trans e5).ext
      | dict s => cases hf
  | str t =>
    cases hw
    refine q_when (ρ := exR) (b := false) ((et_test (ev_isN (ev_var rfl))).to (decide_eq_false (by intro z; cases z))) (fun hb H1 e => by cases hb) (fun hb H1 e => ?_)
    refine q_when (ρ := exR) (b := false) (et_B (ev_isi (ev_var rfl) (.str t) rfl)) (fun hb H1 e => by cases hb) (fun hb H2 e2 => ?_)
    have e12 := e.trans e2
    refine q_when (ρ := exR) (et_or (et_B (ev_isi (ev_var rfl) (.str t) rfl)) fun _ => et_B (ev_isi (ev_var rfl) (e12.ds hf) rfl)) (fun hb H3 e3 => ?_) (fun hb H3 e3 => ?_)
    · have e0 : soD f (.str t) = false := by
        cases f with
        | str a => exact absurd hb (by show ¬ (false || false) = true; decide)
        | _ => rfl
      rw [e0] at k
      exact s_retV (ρ := exR) ((ev_andV (b := true) (ev_isi (ev_var rfl) (.str t) rfl) fun h => by cases h)) fun H4 e4 => k H4 (e12.trans (e3.trans e4)).ext
    · have e13 := e12.trans e3
      refine q_when (ρ := exR) (b := false) (et_B (ev_isi (ev_var rfl) (.str t) rfl)) (fun hb H1 e => by cases hb) (fun _ H4 e4 => ?_)
      have e14 := e13.trans e4
      have gf := e14.ds hf
      cases hq : isiB f "str" with
      | true =>
        obtain ⟨s, rfl, rfl⟩ := hf.inv_str hq
        exact s_retV (ρ := exR) (ev_andV (ev_isi (ev_var rfl) (.str t) rfl) fun _ => ev_andV (ev_isi (ev_var rfl) gf rfl) fun _ => ev_eqS (ev_var rfl) (ev_var rfl)) fun H5 e5 => k H5 (e14.trans e5).ext
      | false =>
        have e0 : soD f (.str t) = false := by
          cases f with
          | str a => exact absurd hq (by show ¬ true = false; decide)
          | _ => rfl
        rw [e0] at k
        refine s_retV (ρ := exR) ((ev_andV (b := false) (ev_isi (ev_var rfl) (.str t) rfl) fun _ => (ev_andV (b := false) (ev_isi (ev_var rfl) gf rfl) fun h => by rw [hq] at h; cases h).val (by rw [Bool.and_false])).val (x := .bl false) (by rw [Bool.and_false])) fun H5 e5 => k H5 (e14.trans e5).ext
  | tuple ws =>
    have ne : y ≠ V.non := by cases hw; intro z; cases z
    have hz : ws.length ≤ 100000000 ∧ smBs ws = true := by simpa [smB] using (show smB (.tuple ws) = true from hs)
    have hd' : PyData.depthAll ws < n := by
      have : PyData.depthAll ws + 1 < n + 1 := hd
      omega
    refine q_when (ρ := exR) (b := false) ((et_test (ev_isN (ev_var rfl))).to (decide_eq_false ne)) (fun hb H1 e => by cases hb) (fun hb H1 e => ?_)
    refine q_when (ρ := exR) (b := true) (et_B (ev_isi (ev_var rfl) (e.ds hw) rfl)) (fun hb H2 e2 => ?_) (fun hb H1 e => by cases hb)
    have e12 := e.trans e2
    have gf := e12.ds hf
    have gw := e12.ds hw
    obtain ⟨b, ys, rfl, hys, hsy, _⟩ := gw.seqd rfl
    have ly : ys.length = ws.length := hys.length
    cases hq : isiB f "tuple" with
    | false =>
      have e0 : soD f (.tuple ws) = false := by
        cases f with
        | tuple a => exact absurd hq (by show ¬ true = false; decide)
        | _ => rfl
      rw [e0] at k
      refine q_when (ρ := exR) (b := true) ((et_or (b := true) (et_not (et_B (ev_isi (ev_var rfl) gf rfl))) fun h => by rw [hq] at h; cases h).to (by rw [hq]; rfl)) (fun hb H3 e3 => s_retV (ρ := exR) ev_c fun H4 e4 => k H4 (e12.trans (e3.trans e4)).ext) (fun hb H1 e => by cases hb)
    | true =>
      obtain ⟨fs, rfl⟩ : ∃ fs, f = .tuple fs := by
        cases f with
        | tuple a => exact ⟨a, rfl⟩
        | _ => exact absurd hq (by show ¬ false = true; decide)
      obtain ⟨a, xs, rfl, hxs, hsx, _⟩ := gf.seqd rfl
      have lx : xs.length = fs.length := hxs.length
      refine q_when (ρ := exR) (b := !decide (fs.length = ws.length)) ((et_or (b := !decide (fs.length = ws.length)) (et_not (et_B (ev_isi (ev_var rfl) gf rfl))) fun _ => (et_test (ev_neI (ev_len (ev_var rfl) (hsx K)) (ev_len (ev_var rfl) (hsy K)))).to ?_).to (by rw [hq]; rfl)) (fun hb H3 e3 => s_retV (ρ := exR) ev_c fun H4 e4 => ?_) (fun hb H3 e3 => ?_)
      · rw [lx, ly]
        refine congrArg (fun b => !b) ?_
        by_cases z : fs.length = ws.length
        · rw [decide_eq_true z, decide_eq_true (by omega)]
        · rw [decide_eq_false z, decide_eq_false (by omega)]
      · have hne : ¬ fs.length = ws.length := of_decide_eq_false (notb hb)
        have e0 : soD (.tuple fs) (.tuple ws) = false := by
          show soAll fs ws = false
          cases q : soAll fs ws with
          | true => exact absurd (soAll_len q) hne
          | false => rfl
        rw [e0] at k
        exact k H4 (e12.trans (e3.trans e4)).ext
      · have hlen : fs.length = ws.length := of_decide_eq_true (notb' hb)
        have e13 := e12.trans e3
        have sy3 : ∀ H4, exR.r H3 H4 → SqA K H4 b ys := fun H4 e4 => hsy K H4 (e3.trans e4)
        have sx3 : ∀ H4, exR.r H3 H4 → SqA K H4 a xs := fun H4 e4 => hsx K H4 (e3.trans e4)
        have dx3 : DSs exR H3 xs fs := e3.dss hxs
        have dy3 : DSs exR H3 ys ws := e3.dss hys
        refine q_for (ρ := exR) (n := ys.length) (ei_rng (ea_cons (ev_len (ev_var rfl) sy3) ea_nil) (by omega) (by omega)) fun H4 e4 => ⟨fun i σ' H' => exR.r H4 H' ∧ (∃ kv, σ' = [some (.ref a), some (.ref b), kv]) ∧ ∀ (j : Nat) f w, j < i → fs[j]? = some f → ws[j]? = some w → soD f w = true, ⟨.rfl, ⟨_, rfl⟩, fun j _ _ h => absurd h (Nat.not_lt_zero j)⟩, fun i σ' H' _ p => p.1, ?_, ?_⟩
        · rintro i v σ' H' H'' hi ⟨r, ⟨kv, rfl⟩, hall⟩ ⟨e5, rfl⟩
          subst e5
          have e35 : exR.r H3 H'' := e4.trans r
          have gx : xs[i]? = some xs[i] := List.getElem?_eq_getElem (by omega)
          have gy : ys[i]? = some ys[i] := List.getElem?_eq_getElem hi
          obtain ⟨f1, f2, f3⟩ := dx3.get gx
          obtain ⟨w1, w2, w3⟩ := dy3.get gy
          have hm := List.mem_of_getElem? w2
          refine s_if (ρ := exR) (et_not (et_B (ev_so (ev_ix (n := i) (ev_var rfl) (ev_var rfl) (fun H6 e6 => sx3 H6 (e35.trans e6)) rfl gx) (ev_ix (n := i) (ev_var rfl) (ev_var rfl) (fun H6 e6 => sy3 H6 (e35.trans e6)) rfl gy) (e35.ds f3) (e35.ds w3) (smB_mem hz.2 hm) (Nat.lt_of_le_of_lt (depth_mem hm) hd')))) (fun hb H6 e6 => s_retV (ρ := exR) ev_c fun H7 e7 => ?_) (fun hb H6 e6 => ?_)
          · have e0 : soD (.tuple fs) (.tuple ws) = false := soAll_no f2 w2 (notb hb)
            rw [e0] at k
            exact k H7 (e13.trans (e35.trans (e6.trans e7))).ext
          · refine ⟨r.trans e6, ⟨_, rfl⟩, fun j f' w' hj a1 a2 => ?_⟩
            by_cases z : j = i
            · subst z
              rw [f2] at a1
              rw [w2] at a2
              cases a1
              cases a2
              exact notb' hb
            · exact hall j f' w' (by omega) a1 a2
        · rintro σ' H' ⟨r, ⟨kv, rfl⟩, hall⟩
          refine s_retV (ρ := exR) ev_c fun H6 e6 => ?_
          have e0 : soD (.tuple fs) (.tuple ws) = true := soAll_of hlen fun i f' w' a1 a2 => hall i f' w' (by have := (List.getElem?_eq_some_iff.mp a2).1; omega) a1 a2
          rw [e0] at k
          exact k H6 (e13.trans (e4.trans (r.trans e6))).ext
end Slip
/-! the law's own helpers: the numbers of the script; data handed as lists -/
namespace Slip
open PySem PySem.Spec PyProof.Rows L2
/-! ### a walk beside which the body changes more (ρw) than what is walked did (ρ) -/
def EvW (ρ ρw : Rl) (wi : TI) (σ : L2.St) (H : Hp) (n : Nat) (Y : Nat → Hp → V → Hp → Prop) : Prop :=
  ∀ H1, ρ.r H H1 → ∀ R : It → Hp → Prop, (∀ J H2, ρ.r H1 H2 → Walk J n (fun H3 => ρw.r H2 H3) Y → R J H2) → wi σ H1 R
section
variable {ρ ρw : Rl} {K : Frag} {σ : L2.St} {H H' : Hp} {te : TE} {a : Addr} {xs : List V} {D : Ends} {tz tu : TS} {n : Nat} {i : Int} {wi : TI} {g : TG} {Y : Nat → Hp → V → Hp → Prop}
theorem s_forw (h : EvW ρ ρw wi σ H n Y) (k : ∀ H1, ρ.r H H1 → ∃ Pv : Nat → L2.St → Hp → Prop, Pv 0 σ H1 ∧ (∀ i σ' H', i ≤ n → Pv i σ' H' → ρw.r H1 H') ∧
    (∀ i x σ' H' H'', i < n → Pv i σ' H' → Y i H' x H'' → g x σ' H'' fun σ2 H2 => tu { D with nx := Pv (i + 1), ct := Pv (i + 1), bk := D.nx } σ2 H2) ∧ ∀ σ' H', Pv n σ' H' → D.nx σ' H') : tFor wi g tu D σ H :=
  h H .rfl _ fun J H1 e w => by
    obtain ⟨Pv, h0, hr, hs, hd⟩ := k H1 e
    exact for_it w Pv h0 hr hs hd
theorem q_forw (h : EvW ρ ρw wi σ H n Y) (k : ∀ H1, ρ.r H H1 → ∃ Pv : Nat → L2.St → Hp → Prop, Pv 0 σ H1 ∧ (∀ i σ' H', i ≤ n → Pv i σ' H' → ρw.r H1 H') ∧
    (∀ i x σ' H' H'', i < n → Pv i σ' H' → Y i H' x H'' → g x σ' H'' fun σ2 H2 => tu { D with nx := Pv (i + 1), ct := Pv (i + 1), bk := tz D } σ2 H2) ∧ ∀ σ' H', Pv n σ' H' → tz D σ' H') : tSeq (tFor wi g tu) tz D σ H :=
  s_forw (D := { D with nx := tz D }) h k
theorem ew_new (own : Own ρw H) (h : Ev ρ te σ H (fun v H2 => ∃ p, v = .ref p ∧ ¬ ρ.S p ∧ H p = none ∧ H2 p = some (.lst xs))) : EvW ρ ρw (iSeq K te) σ H xs.length (YAt xs) := fun H1 e1 R k =>
  .inl (h H1 e1 _ fun v H2 e2 ⟨p, ev, nS, h0, hp⟩ => ⟨p, ev, ⟨xs, .of hp⟩, k _ H2 e2 (walk_list.mono (fun H3 e3 => .of (e3.keep _ _ (own.fresh h0) hp)) fun _ _ _ _ _ _ y => y)⟩)
theorem ew_rng {ts : TA} (h : EvAV ρ ts σ H [.int i]) (lo : -100000 ≤ i) (hi : i ≤ 100000000) : EvW ρ ρw (iRng1 ts) σ H i.toNat (YFn fun m => .int ((m : Nat) : Int)) := fun H1 e1 R k =>
  h H1 e1 _ fun v H2 e2 hv => ⟨i, hv, by omega, by omega, k _ H2 e2 (walk_range.mono (fun _ _ => trivial) fun m H3 x H4 _ _ y => ⟨y.1, by rw [y.2]; exact congrArg V.int (Int.zero_add _)⟩)⟩
theorem ev_slL2 {tl th : TO} {lo hi : Option Int} (own : Own ρ H) (h : EvV ρ te σ H (.ref a)) (h1 : EvO ρ tl σ H lo) (h2 : EvO ρ th σ H hi) (hs : ∀ H1, ρ.r H H1 → SqL K H1 a xs) : Ev ρ (tSl (rSlU K) te tl th) σ H (fun v H2 => ∃ p, v = .ref p ∧ ¬ ρ.S p ∧ H p = none ∧ H2 p = some (.lst (cutV xs lo hi))) := fun H0 e Q q =>
  h H0 e _ fun v H2 e2 ev => by
    subst ev
    refine h1 H2 (e.trans e2) _ fun H3 e3 => h2 H3 ((e.trans e2).trans e3) _ fun H4 e4 => ?_
    have e04 := ((e.trans e2).trans e3).trans e4
    exact .inl ⟨a, xs, rfl, hs H4 e04, fun p hp => q _ _ (((e2.trans e3).trans e4).trans (r_new _ hp)) ⟨p, rfl, (own.r e04).fresh hp, e04.back p hp, upd_same⟩⟩
end
def sp__law_numbers (K : Frag) : Sp := fun vs H Q _ => ∃ (a : Addr) (ns : List Int), vs = [.ref a] ∧ SqL K H a (ns.map V.int) ∧ ns.length ≤ 63 ∧ ∀ p (ms : List Int) H', H p = none → Ext H H' → H' p = some (.lst (ms.map V.int)) → ms ≠ [] → Q (.ref p) H'
theorem len__law_numbers {K : Frag} {vs : List V} {H : Hp} {Q : VK} {E : XK} (h : sp__law_numbers K vs H Q E) : vs.length = 1 := by
  obtain ⟨a, ns, rfl, _⟩ := h
  rfl
theorem cut_int {ns : List Int} {lo hi : Option Int} {i : Nat} {x : V} (h : (cutV (ns.map V.int) lo hi)[i]? = some x) : ∃ n, x = .int n := by
  have hm : x ∈ ns.map V.int := List.mem_of_mem_drop (List.mem_of_mem_take (List.mem_of_getElem? h))
  obtain ⟨n, _, e⟩ := List.mem_map.mp hm
  exact ⟨n, e.symm⟩
theorem map_snoc (ms : List Int) (n : Int) : ms.map V.int ++ [V.int n] = (ms ++ [n]).map V.int := by rw [List.map_append] <;> rfl
def t__law_numbers (K : Frag) : TS := (tSeq (tAsg (tLst tNil) (gName 1)) (tSeq (tFor (iSeq K (tSl (rSlU K) (tVar 0) tNoPart (tPart (tC (.int 63))))) (gName 2) (tIfS (tTest (tOp (rCmp K gGe) (tVar 2) (tOp rPowI (tC (.int 10)) (tC (.int 18))))) (tSeq (tAsg (tVar 2) (gName 3)) (tFor (iRng1 (tCons (tC (.int 60)) tNil)) (gName 4) (tSeq (tIfS (tTest (tOp (rEqU K) (tVar 3) (tC (.int 0)))) tBreak tNext) (tSeq (tDrop (tBM K "list" rAppend (tVar 1) (tCons (tOp rModI (tCB rIntOf (tCons (tVar 3) tNil)) (tC (.int 997))) tNil))) (tAsg (tOp rFdivI (tVar 3) (tC (.int 997))) (gName 3)))))) (tFor (iRng1 (tCons (tC (.int 4)) tNil)) (gName 4) (tSeq (tAsg (tOp rModI (tCB rIntOf (tCons (tOp (rAddU K) (tOp (rAddU K) (tOp rMulI (tVar 2) (tC (.int 48271))) (tOp rMulI (tVar 4) (tC (.int 69621)))) (tC (.int 11))) tNil)) (tC (.int 2147483647))) (gName 5)) (tDrop (tBM K "list" rAppend (tVar 1) (tCons (tOp rModI (tCB rIntOf (tCons (tOp (rAddU K) (tOp rMulI (tVar 5) (tC (.int 16807))) (tVar 4)) tNil)) (tC (.int 2147483629))) tNil))))))) (tSeq (tIfS (tTest (tOp (rEqU K) (tCB (rLenU K) (tCons (tVar 1) tNil)) (tC (.int 0)))) (tDrop (tBM K "list" rAppend (tVar 1) (tCons (tC (.int 0)) tNil))) tNext) (tRet (tVar 1)))))
theorem pure__law_numbers {K : Frag} (vs : List V) (H : Hp) (Q : VK) (E : XK) (h : sp__law_numbers K vs H Q E) : t__law_numbers K { nx := fun _ H' => Q .non H', rt := Q } (start ["script", "row", "cell", "left", "k", "mixed"] vs) H := by
  obtain ⟨a, ns, rfl, hq, hl, q⟩ := h
  refine q_asg (ρ := exR) (ev_lst ea_nil fun vs H1 _ e => by rw [e]; show 0 ≤ 100000; decide) fun v H1 e1 ⟨p, vs, H0, ev, evs, hp, r0, eH⟩ => ?_
  subst ev evs
  have hp0 : H p = none := r0.back p hp
  have hp1 : H1 p = some (.lst (([] : List Int).map V.int)) := by rw [eH]; exact upd_same
  have sq1 : ∀ H2, exR.r H1 H2 → SqL K H2 a (ns.map V.int) := fun H2 e2 => ext_sqL (e1.trans e2).ext hq
  have own1 : Own (exR.and p) H1 := own_ex.and (ρ := exR) (H := H) e1 (by rw [hp1]; exact Option.some_ne_none _)
  have hcut : (cutV (ns.map V.int) none (some 63)).length ≤ 63 := Nat.le_trans (cutV_length _ _ _) (by rw [List.length_map]; exact hl)
  have chg : ∀ {H2 H3 : Hp} {ms : List Int} {n : Int}, (exR.and p).r H2 H3 → H3 p = some (.lst (ms.map V.int)) → (exR.and p).r H2 (upd H3 p (.lst (ms.map V.int ++ [V.int n]))) := fun e h => e.trans (r_chg (ρ := exR) h fun z => z)
  refine q_forw (ρ := exR) (ρw := exR.and p) (ew_new own1 (ev_slL2 own_ex (ev_var rfl) eo_none (eo_some ev_c) sq1)) fun H2 e2 => ⟨fun i σ' H' => (exR.and p).r H2 H' ∧ (∃ c l k m, σ' = [some (.ref a), some (.ref p), c, l, k, m]) ∧ ∃ ms : List Int, ms.length ≤ 60 * i ∧ H' p = some (.lst (ms.map V.int)), ⟨.rfl, ⟨_, _, _, _, rfl⟩, [], Nat.zero_le _, e2.ext _ _ hp1⟩, fun i σ' H' _ h => h.1, ?_, ?_⟩
  · rintro i x σ' H' H'' hi ⟨r, ⟨c, l, k, m, rfl⟩, ms, hms, hp'⟩ ⟨e5, hx⟩
    subst e5
    obtain ⟨n, rfl⟩ := cut_int hx
    refine s_if (ρ := exR) (et_test (ev_ge (ev_var rfl) (ev_pow ev_c ev_c ⟨by decide, by decide, by decide⟩))) (fun hb H3 e3 => ?_) (fun hb H3 e3 => ?_)
    · refine q_asgV (ρ := exR) (ev_var rfl) fun H4 e4 => ?_
      have r4 : (exR.and p).r H2 H4 := r.trans (and_of (e3.trans e4))
      have hp4 : H4 p = some (.lst (ms.map V.int)) := (e3.trans e4).ext _ _ hp'
      refine s_forw (ρ := exR) (ρw := exR.and p) (ew_rng (i := 60) (ea_cons ev_c ea_nil) (by omega) (by omega)) fun H5 e5 => ⟨fun j σ' H' => (exR.and p).r H5 H' ∧ (∃ c l k m, σ' = [some (.ref a), some (.ref p), c, some (.int l), k, m]) ∧ ∃ ms : List Int, ms.length ≤ 60 * i + j ∧ H' p = some (.lst (ms.map V.int)), ⟨.rfl, ⟨_, _, _, _, rfl⟩, ms, hms, e5.ext _ _ hp4⟩, fun i σ' H' _ h => h.1, ?_, ?_⟩
      · rintro j x σ' H' H'' hj ⟨r5, ⟨c, l, k, m, rfl⟩, ms, hms, hp'⟩ ⟨e6, rfl⟩
        subst e6
        have hj' : j < 60 := hj
        have r25 : (exR.and p).r H2 H'' := r4.trans ((and_of e5).trans r5)
        refine q_when (ρ := exR) (et_test (ev_eqI (ev_var rfl) ev_c)) (fun hb H6 e6 => ?_) (fun hb H6 e6 => ?_)
        · exact ⟨r25.trans (and_of e6), ⟨_, _, _, _, rfl⟩, ms, by omega, e6.ext _ _ hp'⟩
        · refine q_app (ρ := exR) (e6.ext _ _ hp') (fun z => z) (ev_var rfl) (ev_mod (ev_int (ev_var rfl)) ev_c (by decide)) (by rw [List.length_map]; omega) fun y H7 e7 ey hp7 => ?_
          subst ey
          have r7 := chg (n := l % 997) (r5.trans (and_of (e6.trans e7))) hp7
          refine s_asgV (ρ := exR) (ev_fdiv (ev_var rfl) ev_c ⟨by decide, by decide⟩) fun H8 e8 => ?_
          refine ⟨r7.trans (and_of e8), ⟨_, _, _, _, rfl⟩, ms ++ [l % 997], by rw [List.length_append, List.length_singleton]; omega, e8.ext _ _ ?_⟩
          rw [← map_snoc]
          exact upd_same
      · rintro σ' H' ⟨r5, ⟨c, l, k, m, rfl⟩, ms, hms, hp'⟩
        exact ⟨r4.trans ((and_of e5).trans r5), ⟨_, _, _, _, rfl⟩, ms, by have : ms.length ≤ 60 * i + 60 := hms; omega, hp'⟩
    · have r4 : (exR.and p).r H2 H3 := r.trans (and_of e3)
      have hp4 : H3 p = some (.lst (ms.map V.int)) := e3.ext _ _ hp'
      refine s_forw (ρ := exR) (ρw := exR.and p) (ew_rng (i := 4) (ea_cons ev_c ea_nil) (by omega) (by omega)) fun H5 e5 => ⟨fun j σ' H' => (exR.and p).r H5 H' ∧ (∃ l k m, σ' = [some (.ref a), some (.ref p), some (.int n), l, k, m]) ∧ ∃ ms : List Int, ms.length ≤ 60 * i + j ∧ H' p = some (.lst (ms.map V.int)), ⟨.rfl, ⟨_, _, _, rfl⟩, ms, hms, e5.ext _ _ hp4⟩, fun i σ' H' _ h => h.1, ?_, ?_⟩
      · rintro j x σ' H' H'' hj ⟨r5, ⟨l, k, m, rfl⟩, ms, hms, hp'⟩ ⟨e6, rfl⟩
        subst e6
        have hj' : j < 4 := hj
        refine q_asgV (ρ := exR) (ev_mod (ev_int (ev_add (ev_add (ev_mul (ev_var rfl) ev_c (.inr (by decide))) (ev_mul (ev_var rfl) ev_c (.inr (by decide)))) ev_c)) ev_c (by decide)) fun H6 e6 => ?_
        refine s_app (ρ := exR) (e6.ext _ _ hp') (fun z => z) (ev_var rfl) (ev_mod (ev_int (ev_add (ev_mul (ev_var rfl) ev_c (.inr (by decide))) (ev_var rfl))) ev_c (by decide)) (by rw [List.length_map]; omega) fun y H7 e7 ey hp7 => ?_
        subst ey
        refine ⟨chg (r5.trans (and_of (e6.trans e7))) hp7, ⟨_, _, _, rfl⟩, ms ++ [((n * 48271 + (j : Int) * 69621 + 11) % 2147483647 * 16807 + (j : Int)) % 2147483629], ?_, ?_⟩
        · rw [List.length_append, List.length_singleton]; omega
        · rw [← map_snoc]
          exact upd_same
      · rintro σ' H' ⟨r5, ⟨l, k, m, rfl⟩, ms, hms, hp'⟩
        exact ⟨r4.trans ((and_of e5).trans r5), ⟨_, _, _, _, rfl⟩, ms, by have : ms.length ≤ 60 * i + 4 := hms; omega, hp'⟩
  · rintro σ' H' ⟨r, ⟨c, l, k, m, rfl⟩, ms, hms, hp'⟩
    have rH : exR.r H H' := (e1.trans e2).trans .rfl |> fun e => r_and e hp0 r
    refine q_when (ρ := exR) (et_test (ev_eqI (ev_len (ev_var rfl) (fun H3 e3 => .inl (.of (e3.ext _ _ hp')))) ev_c)) (fun hb H3 e3 => ?_) (fun hb H3 e3 => ?_)
    · refine s_app (ρ := exR) (e3.ext _ _ hp') (fun z => z) (ev_var rfl) ev_c (by rw [List.length_map]; omega) fun y H4 e4 ey hp4 => ?_
      subst ey
      refine s_retV (ρ := exR) (ev_var rfl) fun H5 e5 => ?_
      refine q p (ms ++ [0]) H5 hp0 ((r_mut (rH.trans (e3.trans e4)) hp0).trans e5).ext (e5.ext _ _ ?_) (by simp)
      rw [← map_snoc]
      exact upd_same
    · refine s_retV (ρ := exR) (ev_var rfl) fun H5 e5 => q p ms H5 hp0 (rH.trans (e3.trans e5)).ext ((e3.trans e5).ext _ _ hp') ?_
      intro z
      have := of_decide_eq_false hb
      rw [z] at this
      exact this rfl
end Slip
/-! data handed as lists, as tuples, as both; drawn texts -/
namespace Slip
open PySem PySem.Spec PyProof.Rows L2
/-- a list of data, each known by its place (P); the facts stand under ρf, which lets more change than the elements do -/
theorem ev_lcF {ρ ρf : Rl} {σ : L2.St} {H : Hp} {te : TE} {wi : TI} {vs : List Nat} {n : Nat} {Y : Nat → Hp → V → Hp → Prop} {j : Nat} {P : Nat → PyData → Prop} (own : Own ρ H) (hn : n ≤ 90000) (hI : EvI ρ wi σ H n Y) (hw : ∀ x, wipe ((wipe σ vs).set j (some x)) vs = wipe σ vs)
    (hY : ∀ i H2 x H3, Y i H2 x H3 → H3 = H2)
    (he : ∀ D H1, ρ.r H H1 → H1 D = none → ∀ i x H2 H3, i < n → ρ.r H1 H2 → H2 D ≠ none → Y i H2 x H3 → Ev ρ te ((wipe σ vs).set j (some x)) H2 (fun y H4 => ∃ d, P i d ∧ DS (ρf.and D) H4 y d))
    (le : Le ρ ρf) :
    Ev ρ (tLc wi (gName j) tYes te vs) σ H (fun u H2 => ∃ p xs ds, u = .ref p ∧ ¬ ρ.S p ∧ H p = none ∧ H2 p = some (.lst xs) ∧ DSs ρf H2 xs ds ∧ ds.length = n ∧ ∀ (i : Nat) d, ds[i]? = some d → P i d) := by
  refine (ev_lc (R := fun ρ' i x H' => ∃ d, P i d ∧ Dq (fun a => ¬ ρf.S a ∧ ¬ ρ'.S a) H' x d) (C := fun _ b => b = true) own hn hI (fun ρ' _ _ H1 H2 r ⟨d, hp, h⟩ => ⟨d, hp, h.move (fun a _ n q => ⟨n, r.keep a _ n.2 q⟩) r.tup⟩) (fun D _ _ _ ⟨d, hp, h⟩ => ⟨d, hp, h.move (fun a _ n q => ⟨⟨n.1, fun z => n.2 (.inl z)⟩, q⟩) fun _ _ q => q⟩) ?_).imp ?_
  · intro D H1 r1 hD i x H2 H3 hi r2 oD y cont hc
    have e3 := hY i H2 x H3 y
    refine hc _ H3 (hw x) (by rw [e3]; exact .rfl) fun H5 r5 Q q => q true H5 .rfl rfl fun _ => ?_
    refine ((he D H1 r1 hD i x H2 H3 hi r2 (oD D (.inr rfl)) y).mono (by rw [← e3]; exact r5)).imp fun v H6 _ ⟨d, hp, h⟩ => ⟨d, hp, h.move (fun a _ n q => ⟨⟨fun z => n (.inl z), fun z => z.elim (fun z => n (.inl (le a z))) fun z => n (.inr z)⟩, q⟩) fun _ _ q => q⟩
  · rintro u H2 r ⟨p, xs, f, e, nS, hp, hx, hC, hit⟩
    rw [kept_all hC] at hit
    have hlen : xs.length = n := by rw [hit.1, List.length_range]
    -- the data, chosen place by place
    have ch : ∀ m, ∃ d, ∀ x, xs[m]? = some x → P m d ∧ DS ρf H2 x d := fun m => by
      cases a : xs[m]? with
      | none => exact ⟨.none, fun x z => by cases z⟩
      | some x =>
        have hm : m < n := by rw [← hlen]; exact (List.getElem?_eq_some_iff.mp a).1
        obtain ⟨d, hp, h⟩ := hit.2 m x m a (List.getElem?_range hm)
        exact ⟨d, fun y z => by cases z; exact ⟨hp, h.move (fun a _ n q => ⟨n.1, q⟩) fun _ _ q => q⟩⟩
    refine ⟨p, xs, (List.range n).map fun m => (ch m).choose, e, nS, hp, hx, .of (by rw [hlen, List.length_map, List.length_range]) fun m x d a b => ?_, by rw [List.length_map, List.length_range], fun i d b => ?_⟩
    · have hm : m < n := by rw [← hlen]; exact (List.getElem?_eq_some_iff.mp a).1
      rw [List.getElem?_map, List.getElem?_range hm] at b
      cases b
      exact ((ch m).choose_spec x a).2
    · have hi : i < n := by
        have := (List.getElem?_eq_some_iff.mp b).1
        rwa [List.length_map, List.length_range] at this
      rw [List.getElem?_map, List.getElem?_range hi] at b
      cases b
      have hx' : xs[i]? = some (xs[i]'(by omega)) := List.getElem?_eq_getElem (by omega)
      exact ((ch i).choose_spec _ hx').1
/- tuples as lists; all as tuples -/
mutual
def listD : PyData → PyData
  | .tuple ds => .list (listAll ds)
  | .none => .none
  | .bool b => .bool b
  | .int i => .int i
  | .str s => .str s
  | .list ds => .list ds
  | .dict k => .dict k
def listAll : List PyData → List PyData
  | [] => []
  | d :: ds => listD d :: listAll ds
end
mutual
def tupD : PyData → PyData
  | .tuple ds => .tuple (tupAll ds)
  | .list ds => .tuple (tupAll ds)
  | .none => .none
  | .bool b => .bool b
  | .int i => .int i
  | .str s => .str s
  | .dict k => .dict k
def tupAll : List PyData → List PyData
  | [] => []
  | d :: ds => tupD d :: tupAll ds
end
theorem listAll_map : ∀ ds : List PyData, listAll ds = ds.map listD
  | [] => rfl
  | d :: ds => by show listD d :: listAll ds = listD d :: ds.map listD; rw [listAll_map ds]
theorem tupAll_map : ∀ ds : List PyData, tupAll ds = ds.map tupD
  | [] => rfl
  | d :: ds => by show tupD d :: tupAll ds = tupD d :: ds.map tupD; rw [tupAll_map ds]
mutual
theorem noList_tup : ∀ d : PyData, noList (tupD d) = true
  | .tuple ds => noLists_tup ds
  | .list ds => noLists_tup ds
  | .none => rfl
  | .bool b => rfl
  | .int i => rfl
  | .str s => rfl
  | .dict k => rfl
theorem noLists_tup : ∀ ds : List PyData, noLists (tupAll ds) = true
  | [] => rfl
  | d :: ds => by
    show (noList (tupD d) && noLists (tupAll ds)) = true
    rw [noList_tup d, noLists_tup ds]
    rfl
end
mutual
theorem tup_self : ∀ d : PyData, noList d = true → tupD d = d
  | .tuple ds, h => congrArg PyData.tuple (tups_self ds (by simpa [noList] using h))
  | .list ds, h => by cases h
  | .none, _ => rfl
  | .bool b, _ => rfl
  | .int i, _ => rfl
  | .str s, _ => rfl
  | .dict k, _ => rfl
theorem tups_self : ∀ ds : List PyData, noLists ds = true → tupAll ds = ds
  | [], _ => rfl
  | d :: ds, h => by
    have h' : noList d = true ∧ noLists ds = true := by simpa [noLists] using h
    show tupD d :: tupAll ds = d :: ds
    rw [tup_self d h'.1, tups_self ds h'.2]
end
mutual
theorem tup_list : ∀ d : PyData, noList d = true → tupD (listD d) = d
  | .tuple ds, h => congrArg PyData.tuple (tups_list ds (by simpa [noList] using h))
  | .list ds, h => by cases h
  | .none, _ => rfl
  | .bool b, _ => rfl
  | .int i, _ => rfl
  | .str s, _ => rfl
  | .dict k, _ => rfl
theorem tups_list : ∀ ds : List PyData, noLists ds = true → tupAll (listAll ds) = ds
  | [], _ => rfl
  | d :: ds, h => by
    have h' : noList d = true ∧ noLists ds = true := by simpa [noLists] using h
    show tupD (listD d) :: tupAll (listAll ds) = d :: ds
    rw [tup_list d h'.1, tups_list ds h'.2]
end
mutual
theorem sm_tup : ∀ d : PyData, sm (tupD d) = sm d
  | .tuple ds => by
    have := sms_tup ds
    show (decide ((tupAll ds).length ≤ 1000) && smAll (tupAll ds)) = (decide (ds.length ≤ 1000) && smAll ds)
    rw [this, tupAll_map, List.length_map]
  | .list ds => by
    have := sms_tup ds
    show (decide ((tupAll ds).length ≤ 1000) && smAll (tupAll ds)) = (decide (ds.length ≤ 1000) && smAll ds)
    rw [this, tupAll_map, List.length_map]
  | .none => rfl
  | .bool b => rfl
  | .int i => rfl
  | .str s => rfl
  | .dict k => rfl
theorem sms_tup : ∀ ds : List PyData, smAll (tupAll ds) = smAll ds
  | [] => rfl
  | d :: ds => by
    show (sm (tupD d) && smAll (tupAll ds)) = (sm d && smAll ds)
    rw [sm_tup d, sms_tup ds]
end
mutual
theorem dep_tup : ∀ d : PyData, (tupD d).depth = d.depth
  | .tuple ds => congrArg Nat.succ (deps_tup ds)
  | .list ds => congrArg Nat.succ (deps_tup ds)
  | .none => rfl
  | .bool b => rfl
  | .int i => rfl
  | .str s => rfl
  | .dict k => rfl
theorem deps_tup : ∀ ds : List PyData, PyData.depthAll (tupAll ds) = PyData.depthAll ds
  | [] => rfl
  | d :: ds => by
    show max (tupD d).depth (PyData.depthAll (tupAll ds)) = max d.depth (PyData.depthAll ds)
    rw [dep_tup d, deps_tup ds]
end
theorem of_places {α β : Type} {ds : List α} {es : List β} {f : α → β} (hl : es.length = ds.length) (h : ∀ (i : Nat) e, es[i]? = some e → ∃ d, ds[i]? = some d ∧ e = f d) : es = ds.map f := by
  refine List.ext_getElem? fun i => ?_
  rw [List.getElem?_map]
  cases a : es[i]? with
  | none => rw [List.getElem?_eq_none_iff.mpr (by rw [← hl]; exact List.getElem?_eq_none_iff.mp a)] <;> rfl
  | some e =>
    obtain ⟨d, h1, h2⟩ := h i e a
    rw [h1, h2] <;> rfl
def sp__law_listed (K : Frag) (n : Nat) : Sp := fun vs H Q _ => ∃ (ρ : Rl) (v : V) (d : PyData), vs = [v] ∧ Own ρ H ∧ DS ρ H v d ∧ sm d = true ∧ d.depth < n ∧ ∀ v' H', Ext H H' → DS ρ H' v' (listD d) → Q v' H'
def sp__law_tupled (K : Frag) (n : Nat) : Sp := fun vs H Q _ => ∃ (v : V) (d : PyData), vs = [v] ∧ DS exR H v d ∧ sm d = true ∧ d.depth < n ∧ ∀ v' H', Ext H H' → (∀ ρ, DS ρ H' v' (tupD d)) → Q v' H'
theorem len__law_listed {K : Frag} {n : Nat} {vs : List V} {H : Hp} {Q : VK} {E : XK} (h : sp__law_listed K n vs H Q E) : vs.length = 1 := by
  obtain ⟨ρ, v, d, rfl, _⟩ := h
  rfl
theorem len__law_tupled {K : Frag} {n : Nat} {vs : List V} {H : Hp} {Q : VK} {E : XK} (h : sp__law_tupled K n vs H Q E) : vs.length = 1 := by
  obtain ⟨v, d, rfl, _⟩ := h
  rfl
theorem isi_tup {d : PyData} (h : isiB d "tuple" = true) : ∃ ds, d = .tuple ds := by
  cases d with
  | tuple a => exact ⟨a, rfl⟩
  | none => exact absurd h (by show ¬ false = true; decide)
  | bool b => exact absurd h (by show ¬ false = true; decide)
  | int b => exact absurd h (by show ¬ false = true; decide)
  | str b => exact absurd h (by show ¬ false = true; decide)
  | list b => exact absurd h (by show ¬ false = true; decide)
  | dict b => exact absurd h (by show ¬ false = true; decide)
theorem depth_seq {ds : List PyData} {n : Nat} (h : (PyData.tuple ds).depth < n + 1 ∨ (PyData.list ds).depth < n + 1) {d : PyData} (hm : d ∈ ds) : d.depth < n := by
  have h1 : PyData.depthAll ds + 1 < n + 1 := h.elim (fun h => h) fun h => h
  have := depth_mem hm
  omega
theorem DS.tupl {ρ : Rl} {H : Hp} {v : V} {ds : List PyData} (h : DS ρ H v (.tuple ds)) : ∃ a xs, v = .ref a ∧ DSs ρ H xs ds ∧ H a = some (.tup xs) ∧ ∀ (K : Frag) (ρ' : Rl) (H' : Hp), ρ'.r H H' → SqT K H' a xs := by
  cases h with | tup hs ha => exact ⟨_, _, rfl, ha, hs, fun K ρ' H' e => .inl (.inl (e.tup _ _ hs))⟩
def t__law_listed (K : Frag) (n : Nat) : TS := (tSeq (tIfS (tB (tCB (rIsiU K) (tCons (tVar 0) (tCons (tC (.ty "tuple")) tNil)))) (tRet (tLc (iSeq K (tVar 0)) (gName 1) tYes (tCall (sp__law_listed K n) [] E0 (tCons (tVar 1) tNil)) [1])) tNext) (tRet (tVar 0)))
def t__law_tupled (K : Frag) (n : Nat) : TS := (tSeq (tIfS (tOr (tB (tCB (rIsiU K) (tCons (tVar 0) (tCons (tC (.ty "list")) tNil)))) (tB (tCB (rIsiU K) (tCons (tVar 0) (tCons (tC (.ty "tuple")) tNil))))) (tRet (tCB (rTupOf K) (tCons (tLc (iSeq K (tVar 0)) (gName 1) tYes (tCall (sp__law_tupled K n) [] E0 (tCons (tVar 1) tNil)) [1]) tNil))) tNext) (tRet (tVar 0)))
theorem pure__law_listed {K : Frag} {n : Nat} (vs : List V) (H : Hp) (Q : VK) (E : XK) (h : sp__law_listed K (n + 1) vs H Q E) : t__law_listed K n { nx := fun _ H' => Q .non H', rt := Q } (start ["value", "one"] vs) H := by
  obtain ⟨ρ, v, d, rfl, own, hd, hs, dp, k⟩ := h
  have le : Le exR ρ := fun a z => z.elim
  refine q_when (ρ := exR) (et_B (ev_isi (ev_var rfl) hd.ex rfl)) (fun hb H1 e => ?_) (fun hb H1 e => s_retV (ρ := exR) (ev_var rfl) fun H2 e2 => ?_)
  · obtain ⟨ds, rfl⟩ := isi_tup hb
    have hd1 := le.ds e hd
    obtain ⟨a, xs, rfl, ha', _, hsq⟩ := hd1.tupl
    have hz := sm_seq (.inr hs)
    have hlen : xs.length = ds.length := ha'.length
    refine s_ret (ρ := exR) (ev_lcF (ρf := ρ) (P := fun i e => ∃ d, ds[i]? = some d ∧ e = listD d) own_ex (by omega) (ei_seq (ev_var rfl) (fun H2 e2 => .inr (hsq K exR H2 e2)) (.inr (hsq K exR))) (fun x => rfl) (fun i H2 x H3 y => y.1) ?_ le) fun v H2 e2 ⟨p, xs', es, ev, _, hp, hx, hds, hl, hP⟩ => ?_
    · rintro D H2 e2 hD i x H3 H4 hi e3 oD ⟨_, hx⟩
      obtain ⟨d1, g1, g2⟩ := ha'.get hx
      have hm := List.mem_of_getElem? g1
      have own3 : Own (ρ.and D) H3 := fun b s => s.elim (fun s => (own.r (e.trans (e2.trans e3))) b s) fun z => z ▸ oD
      have leD : Le exR (ρ.and D) := fun b z => .inl (le b z)
      have g3 : DS (ρ.and D) H3 x d1 := leD.ds e3 (DS.and hD (le.ds e2 g2))
      refine ev_call (ea_cons (ev_var rfl) ea_nil) fun H5 e5 Q' q' E' => ⟨ρ.and D, x, d1, rfl, own3.r e5, ?_, smAll_mem hz.2 hm, depth_seq (.inl dp) hm, fun v' H6 e6 h6 => q' _ H6 (Ext.r e6) ⟨listD d1, ⟨d1, g1, rfl⟩, h6⟩⟩
      exact leD.ds e5 g3
    · subst ev
      have : es = ds.map listD := of_places (by omega) hP
      refine k _ H2 (e.trans e2).ext (.lst ((own.r e).fresh hp) hx ?_)
      rw [listAll_map, ← this]
      exact hds
  · have : listD d = d := by
      cases d with
      | tuple ds => exact absurd hb (by show ¬ true = false; decide)
      | _ => rfl
    rw [this] at k
    exact k _ H2 (e.trans e2).ext (le.ds (e.trans e2) hd)
theorem seq_of {d : PyData} (h : (isiB d "list" || isiB d "tuple") = true) : isSeqD d = true ∧ tupD d = .tuple (tupAll (itemsD d)) := by
  cases d with
  | tuple a => exact ⟨rfl, rfl⟩
  | list b => exact ⟨rfl, rfl⟩
  | none => exact absurd h (by show ¬ (false || false) = true; decide)
  | bool b => exact absurd h (by show ¬ (false || false) = true; decide)
  | int b => exact absurd h (by show ¬ (false || false) = true; decide)
  | str b => exact absurd h (by show ¬ (false || false) = true; decide)
  | dict b => exact absurd h (by show ¬ (false || false) = true; decide)
/-- tuple(new list) -/
theorem ev_tupOf {ρ ρf : Rl} {K : Frag} {σ : L2.St} {H : Hp} {te : TE} {C : List PyData → Prop} (le : Le ρ ρf) (h : Ev ρ te σ H (fun u H2 => ∃ p xs ds, u = .ref p ∧ ¬ ρ.S p ∧ H2 p = some (.lst xs) ∧ DSs ρf H2 xs ds ∧ C ds)) : Ev ρ (tCB (rTupOf K) (tCons te tNil)) σ H (fun u H2 => ∃ ds, C ds ∧ DS ρf H2 u (.tuple ds)) :=
  ev_cb (ea_one h) fun vs H1 e1 ⟨u, eu, p, xs, ds, ep, nS, hp, hd, hC⟩ => by
    subst eu ep
    exact fun H2 e2 Q q => ⟨p, xs, rfl, .inl ⟨.of (e2.keep _ _ nS hp), fun l hl => q _ _ (r_new _ hl) ⟨ds, hC, .tup upd_same (le.dss (r_new (ρ := ρ) _ hl) (le.dss e2 hd))⟩⟩⟩
theorem pure__law_tupled {K : Frag} {n : Nat} (vs : List V) (H : Hp) (Q : VK) (E : XK) (h : sp__law_tupled K (n + 1) vs H Q E) : t__law_tupled K n { nx := fun _ H' => Q .non H', rt := Q } (start ["value", "one"] vs) H := by
  obtain ⟨v, d, rfl, hd, hs, dp, k⟩ := h
  refine q_when (ρ := exR) (et_or (et_B (ev_isi (ev_var rfl) hd rfl)) fun _ => et_B (ev_isi (ev_var rfl) hd rfl)) (fun hb H1 e => ?_) (fun hb H1 e => s_retV (ρ := exR) (ev_var rfl) fun H2 e2 => ?_)
  · obtain ⟨hq, ht⟩ := seq_of hb
    have hd1 := e.ds hd
    obtain ⟨a, xs, rfl, ha, hsq, hsq2⟩ := hd1.seqd hq
    have hz : (itemsD d).length ≤ 1000 ∧ smAll (itemsD d) = true := by
      cases d with
      | list ds => exact sm_seq (.inl hs)
      | tuple ds => exact sm_seq (.inr hs)
      | _ => cases hq
    have hdp : ∀ x, x ∈ itemsD d → x.depth < n := fun x hx => by
      cases d with
      | list ds => exact depth_seq (.inr dp) hx
      | tuple ds => exact depth_seq (.inl dp) hx
      | _ => cases hq
    have hlen : xs.length = (itemsD d).length := ha.length
    refine s_ret (ρ := exR) (ev_tupOf (ρf := exR) (C := fun es => es = (itemsD d).map tupD) Le.rfl ((ev_lcF (ρf := exR) (P := fun i e => ∃ d', (itemsD d)[i]? = some d' ∧ e = tupD d') own_ex (by omega) (ei_seq (ev_var rfl) (hsq K) (hsq2.imp (fun f => f K) fun f => f K)) (fun x => rfl) (fun i H2 x H3 y => y.1) ?_ Le.rfl).imp fun u H2 e2 ⟨p, xs', es, eu, nS, _, hx, hds, hl, hP⟩ => ⟨p, xs', es, eu, nS, hx, hds, of_places (by omega) hP⟩)) fun v H2 e2 ⟨es, he, hv⟩ => ?_
    · rintro D H2 e2 hD i x H3 H4 hi e3 oD ⟨_, hx⟩
      obtain ⟨d1, g1, g2⟩ := ha.get hx
      have hm := List.mem_of_getElem? g1
      exact ev_call (ea_cons (ev_var rfl) ea_nil) fun H5 e5 Q' q' E' => ⟨x, d1, rfl, (e2.trans (e3.trans e5)).ds g2, smAll_mem hz.2 hm, hdp _ hm, fun v' H6 e6 h6 => q' _ H6 (Ext.r e6) ⟨tupD d1, ⟨d1, g1, rfl⟩, h6 _⟩⟩
    · subst he
      rw [ht, tupAll_map] at k
      refine k v H2 (e.trans e2).ext fun ρ => ?_
      exact hv.tups (fun _ _ q => q) _ _ (by rw [← tupAll_map]; exact noLists_tup _)
  · have hnl : tupD d = d ∧ noList d = true := by
      cases d with
      | tuple ds => exact absurd hb (by show ¬ (false || true) = false; decide)
      | list ds => exact absurd hb (by show ¬ (true || false) = false; decide)
      | _ => exact ⟨rfl, rfl⟩
    rw [hnl.1] at k
    exact k v H2 (e.trans e2).ext fun ρ => ((e.trans e2).ds hd).tups (fun _ _ q => q) _ _ hnl.2
/-! ### levels, handed -/
/-- some levels are lists, the rest tuples -/
abbrev Mixed (d d' : PyData) : Prop := tupD d' = d
def sp__law_levels (K : Frag) (n : Nat) : Sp := fun vs H Q _ => ∃ (ρ : Rl) (ra sp : Addr) (v : V) (d : PyData), vs = [.ref ra, .ref sp, v] ∧ ρ.S sp ∧ Own ρ H ∧ Dr K ra sp H ∧ DS ρ H v d ∧ noList d = true ∧ sm d = true ∧ d.depth < n ∧ ∀ v' d' H', (spR sp).r H H' → DS ρ H' v' d' → Mixed d d' → Q v' H'
def sp__law_handed (K : Frag) : Sp := fun vs H Q _ => ∃ (ρ : Rl) (ra sp : Addr) (v : V) (d : PyData), vs = [.ref ra, .ref sp, v] ∧ ρ.S sp ∧ Own ρ H ∧ Dr K ra sp H ∧ DS ρ H v d ∧ noList d = true ∧ sm d = true ∧ d.depth < 8 ∧ ∀ v' d' H', (spR sp).r H H' → DS ρ H' v' d' → Mixed d d' → Q v' H'
theorem len__law_levels {K : Frag} {n : Nat} {vs : List V} {H : Hp} {Q : VK} {E : XK} (h : sp__law_levels K n vs H Q E) : vs.length = 3 := by
  obtain ⟨ρ, ra, sp, v, d, rfl, _⟩ := h
  rfl
theorem len__law_handed {K : Frag} {vs : List V} {H : Hp} {Q : VK} {E : XK} (h : sp__law_handed K vs H Q E) : vs.length = 3 := by
  obtain ⟨ρ, ra, sp, v, d, rfl, _⟩ := h
  rfl
theorem own_sp {K : Frag} {ra sp : Addr} {H : Hp} (d : Dr K ra sp H) : Own (spR sp) H := fun a e => by
  obtain ⟨k, _, h⟩ := d.2.1
  rw [show a = sp from e, h]
  exact Option.some_ne_none _
def t__law_levels (K : Frag) (n : Nat) : TS := (tSeq (tIfS (tNot (tB (tCB (rIsiU K) (tCons (tVar 2) (tCons (tC (.ty "tuple")) tNil))))) (tRet (tVar 2)) tNext) (tSeq (tAsg (tLc (iSeq K (tVar 2)) (gName 4) tYes (tCall (sp__law_levels K n) [] E0 (tCons (tVar 0) (tCons (tVar 1) (tCons (tVar 4) tNil)))) [4]) (gName 3)) (tRet (tIf (tTest (tOp (rEqU K) (tCall (sp__law_take K) [] E0 (tCons (tVar 0) (tCons (tVar 1) (tCons (tC (.int 2)) tNil)))) (tC (.int 0)))) (tVar 3) (tCB (rTupOf K) (tCons (tVar 3) tNil))))))
def t__law_handed (K : Frag) : TS := (tSeq (tAsg (tCall (sp__law_take K) [] E0 (tCons (tVar 0) (tCons (tVar 1) (tCons (tC (.int 4)) tNil)))) (gName 3)) (tSeq (tIfS (tTest (tOp (rEqU K) (tVar 3) (tC (.int 0)))) (tRet (tCall (sp__law_listed K 8) [] E0 (tCons (tVar 2) tNil))) tNext) (tRet (tIf (tTest (tOp (rEqU K) (tVar 3) (tC (.int 1)))) (tCall (sp__law_levels K 9) [] E0 (tCons (tVar 0) (tCons (tVar 1) (tCons (tVar 2) tNil)))) (tVar 2)))))
theorem pure__law_levels {K : Frag} {n : Nat} (vs : List V) (H : Hp) (Q : VK) (E : XK) (h : sp__law_levels K (n + 1) vs H Q E) : t__law_levels K n { nx := fun _ H' => Q .non H', rt := Q } (start ["row", "spot", "value", "made", "one"] vs) H := by
  obtain ⟨ρ, ra, sp, v, d, rfl, hsp, own, dr, hd, hnl, hs, dp, k⟩ := h
  have le : Le (spR sp) ρ := fun a z => z ▸ hsp
  refine q_when (ρ := exR) (et_not (et_B (ev_isi (ev_var rfl) hd.ex rfl))) (fun hb H1 e => s_retV (ρ := exR) (ev_var rfl) fun H2 e2 => ?_) (fun hb H1 e => ?_)
  · exact k v d H2 (Ext.r (e.trans e2).ext) ((Ext.r (ρ := ρ) (e.trans e2).ext).ds hd) (tup_self d hnl)
  · obtain ⟨ds, rfl⟩ := isi_tup (notb' hb)
    have hd1 : DS ρ H1 v (.tuple ds) := (Ext.r (ρ := ρ) e.ext).ds hd
    have e1 : (spR sp).r H H1 := Ext.r e.ext
    have dr1 := dr.sp e1
    have own1 := own.r e
    obtain ⟨a, xs, rfl, ha, _, hsq⟩ := hd1.tupl
    have hz := sm_seq (.inr hs)
    have hn : noLists ds = true := by simpa [noList] using hnl
    have hlen : xs.length = ds.length := ha.length
    have hmem : ∀ {ds : List PyData} {d : PyData}, noLists ds = true → d ∈ ds → noList d = true := by
      intro ds
      induction ds with
      | nil => intro d _ h; cases h
      | cons e r ih =>
        intro d h hm
        have h' : noList e = true ∧ noLists r = true := by simpa [noLists] using h
        rcases List.mem_cons.mp hm with rfl | hm
        · exact h'.1
        · exact ih h'.2 hm
    refine q_asg (ρ := spR sp) (ev_lcF (ρf := ρ) (P := fun i e => ∃ d, ds[i]? = some d ∧ d = tupD e) (own_sp dr1) (by omega) (ei_seq (ev_var rfl) (fun H2 e2 => .inr (hsq K (spR sp) H2 e2)) (.inr (hsq K (spR sp)))) (fun x => rfl) (fun i H2 x H3 y => y.1) ?_ le) fun v H2 e2 ⟨p, xs', es, ev, nS, hp, hx, hds, hl, hP⟩ => ?_
    · rintro D H2 e2 hD i x H3 H4 hi e3 oD ⟨_, hx⟩
      obtain ⟨d1, g1, g2⟩ := ha.get hx
      have hm := List.mem_of_getElem? g1
      have own3 : Own (ρ.and D) H3 := fun b s => s.elim (fun s => (own1.r (e2.trans e3)) b s) fun z => z ▸ oD
      have leD : Le (spR sp) (ρ.and D) := fun b z => .inl (le b z)
      have g3 : DS (ρ.and D) H3 x d1 := leD.ds e3 (DS.and hD (le.ds e2 g2))
      refine ev_call (ea_cons (ev_var rfl) (ea_cons (ev_var rfl) (ea_cons (ev_var rfl) ea_nil))) fun H5 e5 Q' q' E' => ⟨ρ.and D, ra, sp, x, d1, rfl, .inl hsp, own3.r e5, dr1.sp (e2.trans (e3.trans e5)), leD.ds e5 g3, hmem hn hm, smAll_mem hz.2 hm, depth_seq (.inl dp) hm, fun v' d' H6 e6 h6 hm6 => q' _ H6 e6 ⟨d', ⟨d1, g1, hm6.symm⟩, h6⟩⟩
    · subst ev
      have hes : ds = es.map tupD := of_places (by omega) fun i d hi => by
        have hi' : i < es.length := by have := (List.getElem?_eq_some_iff.mp hi).1; omega
        obtain ⟨d', h1, h2⟩ := hP i es[i] (List.getElem?_eq_getElem hi')
        rw [hi] at h1
        cases h1
        exact ⟨es[i], List.getElem?_eq_getElem hi', h2⟩
      have dr2 := dr1.sp e2
      have nSf : ¬ ρ.S p := own1.fresh hp
      have kk : ∀ H3, (spR sp).r H2 H3 → Ev (spR sp) (tIf (tTest (tOp (rEqU K) (tCall (sp__law_take K) [] E0 (tCons (tVar 0) (tCons (tVar 1) (tCons (tC (.int 2)) tNil)))) (tC (.int 0)))) (tVar 3) (tCB (rTupOf K) (tCons (tVar 3) tNil))) [some (.ref ra), some (.ref sp), some (.ref a), some (.ref p), none] H2 (fun v H' => ∃ d', DS ρ H' v d' ∧ Mixed (.tuple ds) d') := by
        intro H3 e3 H4 e4 Q' q'
        refine ev_opP (Pa := Below 2) (Pb := fun v => v = .int 0) (R := fun v _ => ∃ b, v = .bl b) (ev_take (ev_var rfl) (ev_var rfl) ev_c dr2 (by decide)) ev_c (fun x y ⟨m, ex, _⟩ ey => ?_) H4 e4 _ fun v H5 e5 ⟨b, eb⟩ => ⟨b, eb, ?_⟩
        · subst ex ey
          exact fun H6 _ Q q => .inl ⟨rfl, q _ H6 .rfl ⟨_, rfl⟩⟩
        · cases b with
          | true =>
            exact ev_var (ρ := spR sp) (H := H5) rfl H5 .rfl _ fun v H6 e6 ev => by
              subst ev
              refine q' _ H6 (e5.trans e6) ⟨.list es, .lst nSf ((e4.trans (e5.trans e6)).keep _ _ nS hx) (le.dss (e4.trans (e5.trans e6)) hds), ?_⟩
              show PyData.tuple (tupAll es) = .tuple ds
              rw [tupAll_map, ← hes]
          | false =>
            refine ev_tupOf (ρ := spR sp) (ρf := ρ) (C := fun ds => ds = es) le ((ev_var (ρ := spR sp) (v := .ref p) rfl).imp fun u H6 e6 eu => ⟨p, xs', es, eu, nS, (e4.trans (e5.trans e6)).keep _ _ nS hx, le.dss (e4.trans (e5.trans e6)) hds, rfl⟩) H5 .rfl _ fun v H6 e6 ⟨es', hes', hv⟩ => ?_
            subst hes'
            refine q' _ H6 (e5.trans e6) ⟨.tuple es', hv, ?_⟩
            show PyData.tuple (tupAll es') = .tuple ds
            rw [tupAll_map, ← hes]
      exact s_ret (ρ := spR sp) (kk H2 .rfl) fun v H3 e3 ⟨d', h1, h2⟩ => k v d' H3 (e1.trans (e2.trans e3)) h1 h2
section
variable {ρ : Rl} {K : Frag} {σ : L2.St} {H : Hp} {ta tb tc : TE} {ra sp : Addr} {v : V} {d : PyData} {E : XK}
theorem ev_handed (h1 : EvV (spR sp) ta σ H (.ref ra)) (h2 : EvV (spR sp) tb σ H (.ref sp)) (h3 : EvV (spR sp) tc σ H v) (dr : Dr K ra sp H) (hd : DS (spR sp) H v d) (hn : noList d = true) (hs : sm d = true) (dp : d.depth < 8) :
    Ev (spR sp) (tCall (sp__law_handed K) [] E (tCons ta (tCons tb (tCons tc tNil)))) σ H (fun v' H' => ∃ d', DS (spR sp) H' v' d' ∧ Mixed d d') :=
  ev_call (ea_cons h1 (ea_cons h2 (ea_cons h3 ea_nil))) fun H1 e1 Q q E => ⟨spR sp, ra, sp, v, d, rfl, rfl, own_sp (dr.sp e1), dr.sp e1, e1.ds hd, hn, hs, dp, fun v' d' H' e h m => q v' H' e ⟨d', h, m⟩⟩
end
theorem pure__law_handed {K : Frag} (vs : List V) (H : Hp) (Q : VK) (E : XK) (h : sp__law_handed K vs H Q E) : t__law_handed K { nx := fun _ H' => Q .non H', rt := Q } (start ["row", "spot", "value", "kind"] vs) H := by
  obtain ⟨ρ, ra, sp, v, d, rfl, hsp, own, dr, hd, hnl, hs, dp, k⟩ := h
  have le : Le (spR sp) ρ := fun a z => z ▸ hsp
  refine q_asg (ρ := spR sp) (ev_take (ev_var rfl) (ev_var rfl) ev_c dr (by decide)) fun v1 H1 e1 ⟨m, ev, _, _⟩ => ?_
  subst ev
  have own1 := own.r e1
  have hd1 := le.ds e1 hd
  have dr1 := dr.sp e1
  refine q_when (ρ := spR sp) (et_test (ev_eqI (ev_var rfl) ev_c)) (fun hb H2 e2 => ?_) (fun hb H2 e2 => ?_)
  · refine s_ret (ρ := spR sp) (R := fun v' H' => DS ρ H' v' (listD d)) (ev_call (ea_cons (ev_var rfl) ea_nil) fun H3 e3 Q' q' E' => ⟨ρ, v, d, rfl, own1.r (e2.trans e3), le.ds (e2.trans e3) hd1, hs, dp, fun v' H' e h => q' v' H' (Ext.r e) h⟩) fun v' H3 e3 h => ?_
    exact k v' _ H3 (e1.trans (e2.trans e3)) h (tup_list d hnl)
  · have dr2 := dr1.sp e2
    refine s_ret (ρ := spR sp) (R := fun v' H' => ∃ d', DS ρ H' v' d' ∧ Mixed d d') (ev_if (et_test (ev_eqI (ev_var rfl) ev_c)) (fun _ => ?_) fun _ => ?_) fun v' H3 e3 ⟨d', h, m⟩ => k v' d' H3 (e1.trans (e2.trans e3)) h m
    · exact ev_call (ea_cons (ev_var rfl) (ea_cons (ev_var rfl) (ea_cons (ev_var rfl) ea_nil))) fun H3 e3 Q' q' E' => ⟨ρ, ra, sp, v, d, rfl, hsp, own1.r (e2.trans e3), dr2.sp e3, le.ds (e2.trans e3) hd1, hnl, hs, Nat.lt_trans dp (by decide), fun v' d' H' e h m => q' v' H' e ⟨d', h, m⟩⟩
    · exact (ev_var (v := v) rfl).imp fun v' H3 e3 ev => by
        rw [ev]
        exact ⟨d, le.ds (e2.trans e3) hd1, tup_self d hnl⟩
end Slip
/-! drawn letters, drawn texts -/
namespace Slip
open PySem PySem.Spec PyProof.Rows L2
theorem app_cps (a b : Str) : (a ++ b).cps.toList = a.cps.toList ++ b.cps.toList := by
  show (a.cps ++ b.cps).toList = _
  simp
theorem app_len (a b : Str) : (a ++ b).length = a.length + b.length := by
  show (a.cps ++ b.cps).size = _
  simp [Str.length]
theorem len_cps (a : Str) : a.cps.toList.length = a.length := by simp [Str.length]
theorem letters_at {i : Nat} (h : i < 6) : ("abcdef" : Str).cps.toList[i]? = some (97 + i) := by
  match i, h with
  | 0, _ => decide +kernel
  | 1, _ => decide +kernel
  | 2, _ => decide +kernel
  | 3, _ => decide +kernel
  | 4, _ => decide +kernel
  | 5, _ => decide +kernel
theorem letters_mem {i : Nat} (h : i < 6) : 97 + i ∈ letters := List.mem_of_getElem? (letters_at h)
/-- the letters of a draw, ascending -/
structure Few (z : Str) : Prop where
  up : z.cps.toList.Pairwise (· < ·)
  low : ∀ c ∈ z.cps.toList, c ∈ letters
  pos : 0 < z.length
  le : z.length ≤ 6
def sp__law_few (K : Frag) : Sp := fun vs H Q _ => ∃ (ra sp za : Addr) (ss : List Int), vs = [.ref ra, .ref sp, .ref za] ∧ Dr K ra sp H ∧ za ≠ sp ∧ SqL K H za (ss.map V.int) ∧ ss ≠ [] ∧ (∀ s ∈ ss, 1 ≤ s ∧ s ≤ 6) ∧ ∀ z H', (spR sp).r H H' → Few z → Q (.str z) H'
def sp__law_letters (K : Frag) : Sp := fun vs H Q _ => ∃ (ra sp : Addr) (most : Int) (z : Str), vs = [.ref ra, .ref sp, .int most, .str z] ∧ Dr K ra sp H ∧ 0 ≤ most ∧ most ≤ 1000 ∧ 0 < z.length ∧ z.length ≤ 1000 ∧ ∀ (s : Str) H', (spR sp).r H H' → (s.length : Int) ≤ most → (∀ c ∈ s.cps.toList, c ∈ z.cps.toList) → Q (.str s) H'
theorem len__law_few {K : Frag} {vs : List V} {H : Hp} {Q : VK} {E : XK} (h : sp__law_few K vs H Q E) : vs.length = 3 := by
  obtain ⟨ra, sp, za, ss, rfl, _⟩ := h
  rfl
theorem len__law_letters {K : Frag} {vs : List V} {H : Hp} {Q : VK} {E : XK} (h : sp__law_letters K vs H Q E) : vs.length = 4 := by
  obtain ⟨ra, sp, m, z, rfl, _⟩ := h
  rfl
section
variable {K : Frag} {σ : L2.St} {H : Hp} {ta tb tc td : TE} {ra sp : Addr} {E : XK}
theorem ev_letters {most : Int} {z : Str} (h1 : EvV (spR sp) ta σ H (.ref ra)) (h2 : EvV (spR sp) tb σ H (.ref sp)) (h3 : EvV (spR sp) tc σ H (.int most)) (h4 : EvV (spR sp) td σ H (.str z)) (dr : Dr K ra sp H) (m0 : 0 ≤ most) (m1 : most ≤ 1000) (z0 : 0 < z.length) (z1 : z.length ≤ 1000) :
    Ev (spR sp) (tCall (sp__law_letters K) [] E (tCons ta (tCons tb (tCons tc (tCons td tNil))))) σ H (fun v _ => ∃ s : Str, v = .str s ∧ (s.length : Int) ≤ most ∧ ∀ c ∈ s.cps.toList, c ∈ z.cps.toList) :=
  ev_call (ea_cons h1 (ea_cons h2 (ea_cons h3 (ea_cons h4 ea_nil)))) fun H1 e1 Q q E => ⟨ra, sp, most, z, rfl, dr.sp e1, m0, m1, z0, z1, fun s H' e hl hc => q _ H' e ⟨s, rfl, hl, hc⟩⟩
end
def t__law_letters (K : Frag) : TS := (tSeq (tAsg (tC (.str "")) (gName 4)) (tSeq (tFor (iRng1 (tCons (tCall (sp__law_take K) [] E0 (tCons (tVar 0) (tCons (tVar 1) (tCons (tOp (rAddU K) (tVar 2) (tC (.int 1))) tNil)))) tNil)) (gName 5) (tAsg (tOp (rAddU K) (tVar 4) (tIxU K (tVar 3) (tCall (sp__law_take K) [] E0 (tCons (tVar 0) (tCons (tVar 1) (tCons (tCB (rLenU K) (tCons (tVar 3) tNil)) tNil)))))) (gName 4))) (tRet (tVar 4))))
def t__law_few (K : Frag) : TS := (tSeq (tAsg (tIxU K (tVar 2) (tCall (sp__law_take K) [] E0 (tCons (tVar 0) (tCons (tVar 1) (tCons (tCB (rLenU K) (tCons (tVar 2) tNil)) tNil))))) (gName 3)) (tSeq (tAsg (tC (.str "")) (gName 4)) (tSeq (tFor (iRng1 (tCons (tC (.int 6)) tNil)) (gName 5) (tIfS (tAnd (tTest (tOp (rCmp K gLt) (tCB (rLenU K) (tCons (tVar 4) tNil)) (tVar 3))) (tTest (tOp (rCmp K gLt) (tCall (sp__law_take K) [] E0 (tCons (tVar 0) (tCons (tVar 1) (tCons (tOp rSubI (tC (.int 6)) (tVar 5)) tNil)))) (tOp rSubI (tVar 3) (tCB (rLenU K) (tCons (tVar 4) tNil)))))) (tAsg (tOp (rAddU K) (tVar 4) (tIxU K (tC (.str "abcdef")) (tVar 5))) (gName 4)) tNext)) (tRet (tVar 4)))))
theorem pure__law_letters {K : Frag} (vs : List V) (H : Hp) (Q : VK) (E : XK) (h : sp__law_letters K vs H Q E) : t__law_letters K { nx := fun _ H' => Q .non H', rt := Q } (start ["row", "spot", "most", "few", "made", "k"] vs) H := by
  obtain ⟨ra, sp, most, z, rfl, dr, m0, m1, z0, z1, q⟩ := h
  refine q_asgV (ρ := spR sp) ev_c fun H1 e1 => ?_
  have dr1 := dr.sp e1
  refine q_forx (ρ := spR sp) (eix_rng (lim := most + 1) (ev_take (ev_var rfl) (ev_var rfl) (ev_add (ev_var rfl) ev_c) dr1 (by omega)) (by omega)) fun n Y H2 ⟨hn, hY⟩ e2 => ⟨fun i σ' H' => (spR sp).r H2 H' ∧ ∃ (s : Str) (kv : Option V), σ' = [some (.ref ra), some (.ref sp), some (.int most), some (.str z), some (.str s), kv] ∧ s.length ≤ i ∧ ∀ c ∈ s.cps.toList, c ∈ z.cps.toList, ⟨.rfl, "", none, rfl, Nat.le_refl _, fun c hc => by
    have : ("" : Str).cps.toList = [] := by decide +kernel
    rw [this] at hc
    cases hc⟩, fun i σ' H' _ h => h.1, ?_, ?_⟩
  · subst hY
    rintro i x σ' H' H'' hi ⟨r, s, kv, rfl, hs, hc⟩ ⟨e5, rfl⟩
    subst e5
    have dr2 := dr1.sp (e2.trans r)
    refine s_asg (ρ := spR sp) (R := fun v _ => ∃ c, v = .str (s ++ ⟨#[c]⟩) ∧ c ∈ z.cps.toList) (ev_opP (Pa := fun v => v = .str s) (Pb := fun v => ∃ c, v = .str ⟨#[c]⟩ ∧ c ∈ z.cps.toList) (ev_var rfl) (ev_ixSP (ev_var rfl) (by omega) (ev_take (ev_var rfl) (ev_var rfl) (ev_lenS (ev_var rfl) (by omega)) dr2 (by omega))) ?_) fun v H3 e3 ⟨c, ev, hcz⟩ => ?_
    · rintro x y rfl ⟨c, rfl, hcz⟩ H3 e3 Q' q'
      exact .inr (.inl ⟨s, ⟨#[c]⟩, rfl, rfl, Evl.sz_of (show s.length + 1 ≤ 100000 by omega), q' _ H3 .rfl ⟨c, rfl, hcz⟩⟩)
    · subst ev
      refine ⟨r.trans e3, s ++ ⟨#[c]⟩, some (.int (i : Int)), rfl, ?_, ?_⟩
      · rw [app_len]
        show s.length + 1 ≤ i + 1
        omega
      · intro c' hc'
        rw [app_cps] at hc'
        rcases List.mem_append.mp hc' with h | h
        · exact hc c' h
        · have : c' = c := by simpa using h
          rw [this]
          exact hcz
  · rintro σ' H' ⟨r, s, kv, rfl, hs, hc⟩
    exact s_retV (ρ := spR sp) (ev_var rfl) fun H3 e3 => q s H3 (e1.trans (e2.trans (r.trans e3))) (by omega) hc
theorem pure__law_few {K : Frag} (vs : List V) (H : Hp) (Q : VK) (E : XK) (h : sp__law_few K vs H Q E) : t__law_few K { nx := fun _ H' => Q .non H', rt := Q } (start ["row", "spot", "sizes", "size", "made", "k"] vs) H := by
  obtain ⟨ra, sp, za, ss, rfl, dr, nz, hz, hss, hsm, q⟩ := h
  have sqz : ∀ H1, (spR sp).r H H1 → SqA K H1 za (ss.map V.int) := fun H1 e => .inl (e.sqL nz hz)
  have hl : (ss.map V.int).length = ss.length := List.length_map _
  have hpos : 0 < ss.length := by
    cases ss with
    | nil => exact absurd rfl hss
    | cons _ _ => exact Nat.succ_pos _
  refine q_asg (ρ := spR sp) (ev_ixP (xs := ss.map V.int) (ev_var rfl) (ev_take (ev_var rfl) (ev_var rfl) (ev_len (ev_var rfl) sqz) dr (by rw [hl]; omega)) sqz) fun v H1 e1 ⟨m, hm⟩ => ?_
  obtain ⟨sz, hmem, rfl⟩ : ∃ s, s ∈ ss ∧ v = .int s := by
    obtain ⟨s, h1, h2⟩ := List.mem_map.mp (List.mem_of_getElem? hm)
    exact ⟨s, h1, h2.symm⟩
  obtain ⟨s1, s6⟩ := hsm sz hmem
  refine q_asgV (ρ := spR sp) ev_c fun H2 e2 => ?_
  refine q_forw (ρ := spR sp) (ρw := spR sp) (ew_rng (i := 6) (ea_cons ev_c ea_nil) (by omega) (by omega)) fun H3 e3 => ⟨fun i σ' H' => (spR sp).r H3 H' ∧ ∃ (s : Str) (kv : Option V), σ' = [some (.ref ra), some (.ref sp), some (.ref za), some (.int sz), some (.str s), kv] ∧ s.cps.toList.Pairwise (· < ·) ∧ (∀ c ∈ s.cps.toList, c ∈ letters ∧ c < 97 + i) ∧ (s.length : Int) ≤ sz ∧ sz - s.length ≤ 6 - i, ⟨.rfl, "", none, rfl, ?_, ?_, ?_, ?_⟩, fun i σ' H' _ h => h.1, ?_, ?_⟩
  · have : ("" : Str).cps.toList = [] := by decide +kernel
    rw [this]
    exact List.Pairwise.nil
  · intro c hc
    have : ("" : Str).cps.toList = [] := by decide +kernel
    rw [this] at hc
    cases hc
  · show ((0 : Nat) : Int) ≤ sz
    omega
  · show sz - ((0 : Nat) : Int) ≤ 6 - ((0 : Nat) : Int)
    omega
  · rintro i x σ' H' H'' hi ⟨r, s, kv, rfl, hup, hlow, hle, hgo⟩ ⟨e5, rfl⟩
    subst e5
    have hi6 : i < 6 := hi
    have r0 := e1.trans (e2.trans (e3.trans r))
    have dr2 := dr.sp r0
    have hs6 : s.length ≤ 6 := by omega
    have hfin : ∀ H4, (spR sp).r H'' H4 → sz - (s.length : Int) ≤ 6 - ((i + 1 : Nat) : Int) → (fun i σ' H' => (spR sp).r H3 H' ∧ ∃ (s : Str) (kv : Option V), σ' = [some (.ref ra), some (.ref sp), some (.ref za), some (.int sz), some (.str s), kv] ∧ s.cps.toList.Pairwise (· < ·) ∧ (∀ c ∈ s.cps.toList, c ∈ letters ∧ c < 97 + i) ∧ (s.length : Int) ≤ sz ∧ sz - s.length ≤ 6 - i) (i + 1) [some (.ref ra), some (.ref sp), some (.ref za), some (.int sz), some (.str s), some (.int (i : Int))] H4 := fun H4 e4 hg =>
      ⟨r.trans e4, s, _, rfl, hup, fun c hc => ⟨(hlow c hc).1, by have := (hlow c hc).2; omega⟩, hle, hg⟩
    refine ev_lt (ρ := spR sp) (H := H'') (i := (s.length : Int)) (j := sz) (ev_lenS (ev_var rfl) (by omega)) (ev_var rfl) H'' .rfl _ fun v H4 e4 ev => ⟨_, ev, ?_⟩
    by_cases hlt : (s.length : Int) < sz
    · rw [decide_eq_true hlt]
      refine iteT ?_
      refine ev_opP (Pa := Below (6 - (i : Int))) (Pb := fun v => v = .int (sz - (s.length : Int))) (R := fun v _ => ∃ b, v = .bl b ∧ (b = false → sz - (s.length : Int) ≤ 6 - (i : Int) - 1)) (ev_take (ev_var rfl) (ev_var rfl) (ev_sub ev_c (ev_var rfl)) dr2 (by omega)) (ev_sub (ev_var rfl) (ev_lenS (ev_var rfl) (by omega))) ?_ H4 e4 _ fun v H5 e5 ⟨b, eb, hb⟩ => ⟨b, eb, ?_⟩
      · rintro x y ⟨m, rfl, h0, h1⟩ rfl H5 e5 Q2 q2
        refine rv_cmpI H5 Q2 (q2 _ H5 .rfl ⟨_, rfl, fun hb => ?_⟩)
        have : PySem.W.dataLt (.int m) (.int (sz - (s.length : Int))) = false := hb
        rw [lt_int] at this
        have := of_decide_eq_false this
        omega
      · cases b with
        | true =>
          refine iteT ?_
          have hle2 : s.length + 1 ≤ 100000 := by omega
          refine s_asgV (ρ := spR sp) (ev_addS (ev_var rfl) (ev_ixS (s := "abcdef") (c := 97 + i) ev_c (ev_var rfl) (by decide +kernel) (atI_nat (letters_at hi6))) hle2) fun H6 e6 => ?_
          refine ⟨r.trans (e4.trans (e5.trans e6)), s ++ ⟨#[97 + i]⟩, _, rfl, ?_, ?_, ?_, ?_⟩
          · rw [app_cps]
            refine List.pairwise_append.mpr ⟨hup, by simp, fun a ha b hb => ?_⟩
            have : b = 97 + i := by simpa using hb
            rw [this]
            exact (hlow a ha).2
          · intro c hc
            rw [app_cps] at hc
            rcases List.mem_append.mp hc with h | h
            · exact ⟨(hlow c h).1, by have := (hlow c h).2; omega⟩
            · have : c = 97 + i := by simpa using h
              rw [this]
              exact ⟨letters_mem hi6, by omega⟩
          · rw [app_len]
            show ((s.length + 1 : Nat) : Int) ≤ sz
            omega
          · rw [app_len]
            show sz - ((s.length + 1 : Nat) : Int) ≤ 6 - ((i + 1 : Nat) : Int)
            omega
        | false =>
          refine iteF ?_
          exact hfin H5 (e4.trans e5) (by have := hb rfl; omega)
    · rw [decide_eq_false hlt]
      refine iteF (iteF ?_)
      exact hfin H4 e4 (by omega)
  · rintro σ' H' ⟨r, s, kv, rfl, hup, hlow, hle, hgo⟩
    have hgo' : sz - (s.length : Int) ≤ 6 - ((6 : Nat) : Int) := hgo
    exact s_retV (ρ := spR sp) (ev_var rfl) fun H4 e4 => q s H4 (e1.trans (e2.trans (e3.trans (r.trans e4)))) ⟨hup, fun c hc => (hlow c hc).1, by omega, by omega⟩
end Slip
/-! the law's own look at a table -/
namespace Slip
open PySem PySem.Spec PyProof.Rows L2
theorem rising_no : ∀ (ds : List PyData) (j : Nat) (x y : PyData), ds[j]? = some x → ds[j + 1]? = some y → PySem.W.dataLt x y = false → risingD ds = false
  | [], j, x, y, a, _, _ => by simp at a
  | [d], 0, x, y, _, b, _ => by simp at b
  | [d], j + 1, x, y, a, _, _ => by simp at a
  | d :: e :: r, 0, x, y, a, b, h => by
    cases a
    cases b
    show (PySem.W.dataLt d e && risingD (e :: r)) = false
    rw [h, Bool.false_and]
  | d :: e :: r, j + 1, x, y, a, b, h => by
    show (PySem.W.dataLt d e && risingD (e :: r)) = false
    rw [rising_no (e :: r) j x y (by simpa using a) (by simpa using b) h, Bool.and_false]
theorem rising_of : ∀ (ds : List PyData), (∀ (j : Nat) (x y : PyData), ds[j]? = some x → ds[j + 1]? = some y → PySem.W.dataLt x y = true) → risingD ds = true
  | [], _ => rfl
  | [d], _ => rfl
  | d :: e :: r, h => by
    show (PySem.W.dataLt d e && risingD (e :: r)) = true
    rw [h 0 d e rfl rfl, rising_of (e :: r) fun j x y a b => h (j + 1) x y (by simpa using a) (by simpa using b)]
    rfl
theorem str2_piece (d : PyData) : isStrD 2 d = isPieceD d := by
  cases d with
  | str s => exact Bool.and_comm _ _
  | _ => rfl
theorem tup_nl {d : PyData} (h : noList d = true) : isiB d "tuple" = isSeqD d := by
  cases d with
  | list ds => cases h
  | _ => rfl
def cutD (ds : List PyData) (lo hi : Option Int) : List PyData := (ds.drop (HT.sIx ds.length 0 lo)).take (HT.sIx ds.length ds.length hi - HT.sIx ds.length 0 lo)
section
variable {ρ ρf : Rl} {K : Frag} {σ : L2.St} {H : Hp} {ta tb te : TE} {x v : V} {d e : PyData} {ds es : List PyData}
/-- t[lo:hi] -/
theorem ev_slD {tl th : TO} {lo hi : Option Int} (le : Le ρ ρf) (h : EvV ρ te σ H v) (h1 : EvO ρ tl σ H lo) (h2 : EvO ρ th σ H hi) (hd : DS ρf H v (.tuple ds)) : Ev ρ (tSl (rSlU K) te tl th) σ H (fun u H2 => DS ρf H2 u (.tuple (cutD ds lo hi))) := fun H0 e Q q =>
  h H0 e _ fun w H2 e2 ew => by
    subst ew
    refine h1 H2 (e.trans e2) _ fun H3 e3 => h2 H3 ((e.trans e2).trans e3) _ fun H4 e4 => ?_
    have e04 := ((e.trans e2).trans e3).trans e4
    have e24 := (e2.trans e3).trans e4
    obtain ⟨a, xs, rfl, hx, ha, hsq⟩ := hd.tupl
    have hl := hx.length
    refine .inr (.inl ⟨a, xs, rfl, hsq K ρ H4 e04, fun hw => q _ _ e24 ?_, fun _ p hp => q _ _ (e24.trans (r_new _ hp)) (.tup upd_same ?_)⟩)
    · have z : cutD ds lo hi = ds := by
        unfold cutD
        rw [← hl, hw.1, hw.2, hl, List.drop_zero, Nat.sub_zero, List.take_length]
      rw [z]
      exact le.ds e04 hd
    · unfold cutD cutV
      rw [hl]
      exact ((le.dss (e04.trans (r_new _ hp)) hx).drop _).take _
/-- a datum against a new one -/
theorem ev_cmp2 {g : PyData → PyData → Bool} (h1 : EvV ρ ta σ H x) (hd : DS ρ H x d) (h2 : Ev ρ tb σ H (fun v H' => DS ρ H' v e)) (al : PySem.W.alike d e = true) (nn : d ≠ .none) (dp : d.depth ≤ 64) : EvV ρ (tOp (rCmp K g) ta tb) σ H (.bl (g d e)) :=
  ev_op2 (Ra := fun v' _ => v' = x) (Rb := fun v H' => DS ρ H' v e) h1 (fun x' H1 e1 _ => h2.mono e1) fun x' y' H1 H2 e1 e2 ex he => by
    subst ex
    exact fun H3 e3 Q q => ⟨d, e, ((e1.trans (e2.trans e3)).ds hd).dp _ _, (e3.ds he).dp _ _, al, nn, dp, q _ H3 .rfl rfl⟩
end
def twoPieces : List PyData → Bool
  | [m, w, _] => isPieceD m && isPieceD w
  | _ => false
theorem two_of {ds : List PyData} (h : twoPieces ds = true) : ∃ s t c, ds = [.str s, .str t, c] ∧ isPieceD (.str s) = true ∧ isPieceD (.str t) = true := by
  match ds, h with
  | [m, w, c], h =>
    have h' : isPieceD m = true ∧ isPieceD w = true := by simpa [twoPieces] using h
    obtain ⟨s, rfl, _⟩ := piece_str h'.1
    obtain ⟨t, rfl, _⟩ := piece_str h'.2
    exact ⟨s, t, c, rfl, h'.1, h'.2⟩
theorem fault_tup (m w c : PyData) : isFaultD (.tuple [m, w, c]) = (isPieceD m && isPieceD w && !(PyData.eqv m w) && isWholeD 1 9 c) := rfl
theorem fault_no {ds : List PyData} (h : twoPieces ds = false) : isFaultD (.tuple ds) = false := by
  cases q : isFaultD (.tuple ds) with
  | false => rfl
  | true =>
    obtain ⟨s, t, c, e1, e2, e3, _⟩ := fault_parts q
    have e1' : ds = [.str s, .str t, .int c] := e1
    rw [e1'] at h
    have : (isPieceD (.str s) && isPieceD (.str t)) = false := h
    rw [e2, e3] at this
    cases this
theorem fault_seq {d : PyData} (h : isSeqD d = false) : isFaultD d = false := by
  unfold isFaultD isTripleD
  rw [h]
  rfl
theorem table_nofault {d d1 : PyData} {i : Nat} (h : (itemsD d)[i]? = some d1) (hf : isFaultD d1 = false) : isTableD d = false := by
  have : (itemsD d).all isFaultD = false := by
    cases q : (itemsD d).all isFaultD with
    | false => rfl
    | true =>
      have := List.all_eq_true.mp q d1 (List.mem_of_getElem? h)
      rw [hf] at this
      cases this
  unfold isTableD
  rw [this, Bool.and_false]
  rfl
theorem table_norise {d x y : PyData} {j : Nat} (h : (itemsD d)[j]? = some x) (h2 : (itemsD d)[j + 1]? = some y) (hf : PySem.W.dataLt (pairOf x) (pairOf y) = false) : isTableD d = false := by
  have : risingD ((itemsD d).map pairOf) = false := rising_no _ j (pairOf x) (pairOf y) (by rw [List.getElem?_map, h]; rfl) (by rw [List.getElem?_map, h2]; rfl) hf
  unfold isTableD
  rw [this, Bool.and_false]
theorem table_yes {d : PyData} (hq : isSeqD d = true) (hl : (itemsD d).length ≤ 8) (hf : ∀ x ∈ itemsD d, isFaultD x = true) (hr : ∀ (j : Nat) (x y : PyData), (itemsD d)[j]? = some x → (itemsD d)[j + 1]? = some y → PySem.W.dataLt (pairOf x) (pairOf y) = true) : isTableD d = true := by
  unfold isTableD
  rw [hq, decide_eq_true hl, List.all_eq_true.mpr hf, rising_of]
  · rfl
  · intro j x y a b
    rw [List.getElem?_map] at a b
    cases qa : (itemsD d)[j]? with
    | none => rw [qa] at a; cases a
    | some x' =>
      cases qb : (itemsD d)[j + 1]? with
      | none => rw [qb] at b; cases b
      | some y' =>
        rw [qa] at a
        rw [qb] at b
        cases a
        cases b
        exact hr j x' y' qa qb
def sp__law_is_table (K : Frag) : Sp := fun vs H Q _ => ∃ v d, vs = [v] ∧ DS exR H v d ∧ sm d = true ∧ noList d = true ∧ ∀ H', Ext H H' → Q (.bl (isTableD d)) H'
theorem len__law_is_table {K : Frag} {vs : List V} {H : Hp} {Q : VK} {E : XK} (h : sp__law_is_table K vs H Q E) : vs.length = 1 := by
  obtain ⟨v, d, rfl, _⟩ := h
  rfl
theorem noLists_mem : ∀ {ds : List PyData} {d : PyData}, noLists ds = true → d ∈ ds → noList d = true
  | e :: ds, d, h, hm => by
    have h' : noList e = true ∧ noLists ds = true := by simpa [noLists] using h
    rcases List.mem_cons.mp hm with rfl | hm
    · exact h'.1
    · exact noLists_mem h'.2 hm
def t__law_is_table (K : Frag) : TS := (tSeq (tIfS (tOr (tNot (tB (tCB (rIsiU K) (tCons (tVar 0) (tCons (tC (.ty "tuple")) tNil))))) (tTest (tOp (rCmp K gGt) (tCB (rLenU K) (tCons (tVar 0) tNil)) (tC (.int 8))))) (tRet (tC (.bl false))) tNext) (tSeq (tAsg (tC .non) (gName 1)) (tSeq (tFor (iSeq K (tVar 0)) (gName 2) (tSeq (tIfS (tOr (tNot (tB (tCB (rIsiU K) (tCons (tVar 2) (tCons (tC (.ty "tuple")) tNil))))) (tOr (tTest (tOp (rNeU K) (tCB (rLenU K) (tCons (tVar 2) tNil)) (tC (.int 3)))) (tOr (tNot (tB (tCall (sp__law_is_string K) [] E0 (tCons (tIxU K (tVar 2) (tC (.int 0))) (tCons (tC (.int 2)) tNil))))) (tNot (tB (tCall (sp__law_is_string K) [] E0 (tCons (tIxU K (tVar 2) (tC (.int 1))) (tCons (tC (.int 2)) tNil)))))))) (tRet (tC (.bl false))) tNext) (tSeq (tIfS (tOr (tTest (tOp (rEqU K) (tIxU K (tVar 2) (tC (.int 0))) (tIxU K (tVar 2) (tC (.int 1))))) (tOr (tNot (tB (tCall (sp__law_whole K) [] E0 (tCons (tIxU K (tVar 2) (tC (.int 2))) tNil)))) (tNot (tTest (tChain (rCmp K gLe) (rCmp K gLe) (tC (.int 1)) (tIxU K (tVar 2) (tC (.int 2))) (tC (.int 9))))))) (tRet (tC (.bl false))) tNext) (tSeq (tIfS (tAnd (tTest (tOp rNotN (tVar 1) (tC .non))) (tNot (tTest (tOp (rCmp K gLt) (tVar 1) (tSl (rSlU K) (tVar 2) tNoPart (tPart (tC (.int 2)))))))) (tRet (tC (.bl false))) tNext) (tAsg (tSl (rSlU K) (tVar 2) tNoPart (tPart (tC (.int 2)))) (gName 1)))))) (tRet (tC (.bl true))))))
theorem pure__law_is_table {K : Frag} (vs : List V) (H : Hp) (Q : VK) (E : XK) (h : sp__law_is_table K vs H Q E) : t__law_is_table K { nx := fun _ H' => Q .non H', rt := Q } (start ["value", "before", "one"] vs) H := by
  obtain ⟨v, d, rfl, hd, hs, hn, k⟩ := h
  have ht := tup_nl hn
  cases hq : isSeqD d with
  | false =>
    have e0 : isTableD d = false := by unfold isTableD; rw [hq]; rfl
    rw [e0] at k
    refine q_when (ρ := exR) (b := true) ((et_or (b := true) (et_not (et_B (ev_isi (ev_var rfl) hd rfl))) fun h1 => ?_).to (by rw [Bool.or_true])) (fun hb H1 e => s_retV (ρ := exR) ev_c fun H2 e2 => k H2 (e.trans e2).ext) (fun hb H1 e => by cases hb)
    rw [ht, hq] at h1
    cases h1
  | true =>
  obtain ⟨ds, rfl⟩ : ∃ ds, d = .tuple ds := by
    cases d with
    | tuple ds => exact ⟨ds, rfl⟩
    | list ds => cases hn
    | _ => cases hq
  obtain ⟨a, xs, rfl, ha, hA, hsq⟩ := hd.tupl
  have hlen := ha.length
  have hl1000 := sm_seq (.inr hs)
  have hnl : noLists ds = true := by simpa [noList] using hn
  have hsA : ∀ H1, exR.r H H1 → SqA K H1 a xs := fun H1 e => .inr (hsq K exR H1 e)
  refine q_when (ρ := exR) (et_or (et_not (et_B (ev_isi (ev_var rfl) hd rfl))) fun _ => et_test (ev_gt (ev_len (ev_var rfl) hsA) ev_c)) (fun hb H1 e => s_retV (ρ := exR) ev_c fun H2 e2 => ?_) (fun hb H1 e => ?_)
  · have hz : ¬ ds.length ≤ 8 := by
      rw [ht, hq] at hb
      have : decide (8 < (xs.length : Int)) = true := by simpa using hb
      have := of_decide_eq_true this
      omega
    have e0 : isTableD (.tuple ds) = false := by
      show (true && decide (ds.length ≤ 8) && _ && _) = false
      rw [decide_eq_false hz, Bool.and_false]
      rfl
    rw [e0] at k
    exact k H2 (e.trans e2).ext
  have hz : ds.length ≤ 8 := by
    rw [ht, hq] at hb
    have : decide (8 < (xs.length : Int)) = false := by simpa using hb
    have := of_decide_eq_false this
    omega
  refine q_asgV (ρ := exR) ev_c fun H2 e2 => ?_
  have e02 := e.trans e2
  refine q_for (ρ := exR) (n := xs.length) (ei_seq (ev_var rfl) (fun H3 e3 => hsA H3 (e02.trans e3)) (.inr fun H3 e3 => hsq K exR H3 (e02.trans e3))) fun H3 e3 => ⟨fun i σ' H' => exR.r H3 H' ∧ ∃ (bv : V) (ov : Option V), σ' = [some (.ref a), some bv, ov] ∧ (∀ (j : Nat) x, j < i → ds[j]? = some x → isFaultD x = true) ∧ (∀ (j : Nat) (x y : PyData), j + 1 < i → ds[j]? = some x → ds[j + 1]? = some y → PySem.W.dataLt (pairOf x) (pairOf y) = true) ∧ ((i = 0 ∧ bv = .non) ∨ ∃ (j : Nat) (x : PyData), i = j + 1 ∧ ds[j]? = some x ∧ DS exR H' bv (pairOf x)),
    ⟨.rfl, _, _, rfl, fun j _ h => absurd h (Nat.not_lt_zero j), fun j _ _ h => absurd h (Nat.not_lt_zero _), .inl ⟨rfl, rfl⟩⟩, fun i σ' H' _ p => p.1, ?_, ?_⟩
  · rintro i x σ' H' H'' hi ⟨r, bv, ov, rfl, hF, hR, hB⟩ ⟨e5, hx⟩
    subst e5
    have r0 : exR.r H H'' := e02.trans (e3.trans r)
    obtain ⟨d1, g1, g2⟩ := ha.get hx
    have g3 : DS exR H'' x d1 := r0.ds g2
    have hm := List.mem_of_getElem? g1
    have nl1 := noLists_mem hnl hm
    have sm1 := smAll_mem hl1000.2 hm
    have t1 := tup_nl nl1
    have bad : ∀ H4, exR.r H'' H4 → isFaultD d1 = false → Q (.bl false) H4 := fun H4 e4 hf => by
      have e0 : isTableD (.tuple ds) = false := table_nofault (i := i) g1 hf
      rw [e0] at k
      exact k H4 (r0.trans e4).ext
    cases hq1 : isSeqD d1 with
    | false =>
      refine q_when (ρ := exR) (b := true) ((et_or (b := true) (et_not (et_B (ev_isi (ev_var rfl) g3 rfl))) fun h1 => ?_).to (by rw [Bool.or_true])) (fun hb H1 e => s_retV (ρ := exR) ev_c fun H2 e2 => bad H2 (e.trans e2) (fault_seq hq1)) (fun hb H1 e => by cases hb)
      rw [t1, hq1] at h1
      cases h1
    | true =>
    obtain ⟨es, rfl⟩ : ∃ es, d1 = .tuple es := by
      cases d1 with
      | tuple es => exact ⟨es, rfl⟩
      | list es => cases nl1
      | _ => cases hq1
    obtain ⟨b, ys, rfl, hy, hbA, hsb⟩ := g3.tupl
    have ly := hy.length
    have hsbA : ∀ H1, exR.r H'' H1 → SqA K H1 b ys := fun H1 e => .inr (hsb K exR H1 e)
    have sme := (sm_seq (.inr sm1)).2
    by_cases h3 : es.length = 3
    · obtain ⟨m, w, c, rfl⟩ := three h3
      obtain ⟨y1, y2, y3, rfl, c1, c2, c3⟩ := hy.three
      have s3 : sm m = true ∧ sm w = true ∧ sm c = true := by simpa [smAll] using sme
      refine q_when (ρ := exR) (H := H'') (b := !(isPieceD m && isPieceD w)) ((et_or (b := !(isPieceD m && isPieceD w)) (et_not (et_B (ev_isi (ev_var rfl) g3 rfl))) fun _ => (et_or (b := !(isPieceD m && isPieceD w)) (et_test (ev_neI (ev_len (ev_var rfl) hsbA) ev_c)) fun _ => (et_or (et_not (et_B (ev_is_string (ev_ix (n := 0) (ev_var rfl) ev_c hsbA rfl rfl) ev_c c1 s3.1))) fun _ => et_not (et_B (ev_is_string (ev_ix (n := 1) (ev_var rfl) ev_c hsbA rfl rfl) ev_c c2 s3.2.1))).to ?_).to ?_).to ?_) (fun hb H4 e4 => s_retV (ρ := exR) ev_c fun H5 e5 => ?_) (fun hb H4 e4 => ?_)
      · rw [str2_piece, str2_piece]
        cases isPieceD m <;> cases isPieceD w <;> rfl
      · show (!decide (((3 : Nat) : Int) = 3) || _) = _
        rfl
      · rfl
      · refine bad H5 (e4.trans e5) ?_
        rw [fault_tup, notb hb, Bool.false_and]
        rfl
      have hp2 := notb' hb
      have hp3 : isPieceD m = true ∧ isPieceD w = true := by simpa using hp2
      obtain ⟨s, rfl, _⟩ := piece_str hp3.1
      obtain ⟨t, rfl, _⟩ := piece_str hp3.2
      cases c1
      cases c2
      have hsbA4 : ∀ H1, exR.r H4 H1 → SqA K H1 b [.str s, .str t, y3] := fun H1 e => hsbA H1 (e4.trans e)
      have c34 := e4.ds c3
      refine q_when (ρ := exR) (H := H4) (b := !(!decide (s = t) && isWholeD 1 9 c)) ((et_or (b := !isWholeD 1 9 c) (et_test (ev_eqS (ev_ix (n := 0) (ev_var rfl) ev_c hsbA4 rfl rfl) (ev_ix (n := 1) (ev_var rfl) ev_c hsbA4 rfl rfl))) fun _ => ?_).to ?_) (fun hb H5 e5 => s_retV (ρ := exR) ev_c fun H6 e6 => ?_) (fun hb H5 e5 => ?_)
      · cases hc : (isiB c "int" && !isiB c "bool") with
        | true =>
          obtain ⟨n, rfl, rfl⟩ := c34.inv_int hc
          refine (et_or (b := !isWholeD 1 9 (.int n)) (et_not (et_B (ev_B1 (F := fun d => isiB d "int" && !isiB d "bool") (ev_ix (n := 2) (ev_var rfl) ev_c hsbA4 rfl rfl) (.int n) s3.2.2))) fun _ => et_not (et_test (ev_chainLe ev_c (ev_ix (n := 2) (ev_var rfl) ev_c hsbA4 rfl rfl) ev_c))).to rfl
        | false =>
          have e0 : isWholeD 1 9 c = false := by
            cases c with
            | int i => exact absurd hc (by show ¬ (true && !false) = false; decide)
            | _ => rfl
          rw [e0]
          refine (et_or (b := true) (et_not (et_B (ev_B1 (F := fun d => isiB d "int" && !isiB d "bool") (ev_ix (n := 2) (ev_var rfl) ev_c hsbA4 rfl rfl) c34 s3.2.2))) fun h => ?_).to (by rw [Bool.or_true]; rfl)
          have h' : (!(isiB c "int" && !isiB c "bool")) = false := h
          rw [hc] at h'
          cases h'
      · cases decide (s = t) <;> cases isWholeD 1 9 c <;> rfl
      · refine bad H6 (e4.trans (e5.trans e6)) ?_
        rw [fault_tup, hp2, eqv_str, Bool.true_and]
        exact notb hb
      have hf : isFaultD (.tuple [.str s, .str t, c]) = true := by
        rw [fault_tup, hp2, eqv_str, Bool.true_and]
        exact notb' hb
      have hpr : pairOf (.tuple [.str s, .str t, c]) = .tuple [.str s, .str t] := rfl
      have e45 := e4.trans e5
      have gt5 : DS exR H5 (.ref b) (.tuple [.str s, .str t, c]) := e45.ds g3
      -- the end of a turn
      have fin : ∀ D : Ends, (∀ σ2 H2, (exR.r H3 H2 ∧ ∃ (bv : V) (ov : Option V), σ2 = [some (.ref a), some bv, ov] ∧ (∀ (j : Nat) x, j < i + 1 → ds[j]? = some x → isFaultD x = true) ∧ (∀ (j : Nat) (x y : PyData), j + 1 < i + 1 → ds[j]? = some x → ds[j + 1]? = some y → PySem.W.dataLt (pairOf x) (pairOf y) = true) ∧ ((i + 1 = 0 ∧ bv = .non) ∨ ∃ (j : Nat) (x : PyData), i + 1 = j + 1 ∧ ds[j]? = some x ∧ DS exR H2 bv (pairOf x))) → D.nx σ2 H2) → ∀ H6, exR.r H5 H6 → (∀ (j : Nat) (x : PyData), i = j + 1 → ds[j]? = some x → PySem.W.dataLt (pairOf x) (.tuple [.str s, .str t]) = true) → tAsg (tSl (rSlU K) (tVar 2) tNoPart (tPart (tC (.int 2)))) (gName 1) D [some (.ref a), some bv, some (.ref b)] H6 := fun D hD H6 e6 hlt =>
        s_asg (ρ := exR) (ev_slD Le.rfl (ev_var rfl) eo_none (eo_some ev_c) (e6.ds gt5)) fun u H7 e7 hu => hD _ _
          ⟨r.trans (e45.trans (e6.trans e7)), _, _, rfl, fun j x hj hx' => by
            by_cases z : j = i
            · subst z
              rw [g1] at hx'
              cases hx'
              exact hf
            · exact hF j x (by omega) hx', fun j x y hj hx' hy' => by
            by_cases z : j + 1 = i
            · subst z
              rw [g1] at hy'
              cases hy'
              exact hlt j x rfl hx'
            · exact hR j x y (by omega) hx' hy', .inr ⟨i, _, rfl, g1, hu⟩⟩
      rcases hB with ⟨hi0, rfl⟩ | ⟨j, x0, hij, hx0, hb0⟩
      · refine q_when (ρ := exR) (b := false) ((et_and (b := true) (et_test (ev_notN (v := .non) (ev_var rfl))) fun h => by cases h).to rfl) (fun hb H6 e6 => by cases hb) (fun _ H6 e6 => fin _ (fun _ _ h => h) H6 e6 fun j x hij => by omega)
      · have hf0 := hF j x0 (by omega) hx0
        obtain ⟨s0, t0, n0, p0, _⟩ := fault_parts hf0
        have pr0 := pair_fault p0
        rw [pr0] at hb0
        have hbn : bv ≠ .non := by cases hb0; intro z; cases z
        refine q_when (ρ := exR) (b := !PySem.W.dataLt (pairOf x0) (.tuple [.str s, .str t])) ((et_and (b := !PySem.W.dataLt (pairOf x0) (.tuple [.str s, .str t])) (et_test (ev_notN (ev_var rfl))) fun _ => et_not (et_test ((ev_cmp2 (g := gLt) (e := .tuple [.str s, .str t]) (ev_var rfl) (e45.ds hb0) (ev_slD Le.rfl (ev_var rfl) eo_none (eo_some ev_c) gt5) rfl (by simp) (by show (1 : Nat) ≤ 64; decide)).val (by rw [pr0])))).to ?_) (fun hb H6 e6 => s_retV (ρ := exR) ev_c fun H7 e7 => ?_) (fun hb H6 e6 => fin _ (fun _ _ h => h) H6 e6 fun j' x' hij' hx' => ?_)
        · rw [decide_eq_false hbn]
          rfl
        · have e0 : isTableD (.tuple ds) = false := table_norise (j := j) (y := .tuple [.str s, .str t, c]) hx0 (by rw [← hij]; exact g1) (notb hb)
          rw [e0] at k
          exact k H7 (r0.trans (e45.trans (e6.trans e7))).ext
        · have : j' = j := by omega
          subst this
          rw [hx0] at hx'
          cases hx'
          exact notb' hb
    · refine q_when (ρ := exR) (b := true) ((et_or (b := true) (et_not (et_B (ev_isi (ev_var rfl) g3 rfl))) fun _ => (et_or (b := true) (et_test (ev_neI (ev_len (ev_var rfl) hsbA) ev_c)) fun h => ?_).to (by rw [Bool.or_true])).to (by rw [Bool.or_true])) (fun hb H4 e4 => s_retV (ρ := exR) ev_c fun H5 e5 => bad H5 (e4.trans e5) ?_) (fun hb H1 e => by cases hb)
      · have h' := of_decide_eq_true (notb' h)
        exact absurd h' (by omega)
      · refine fault_no ?_
        cases q : twoPieces es with
        | false => rfl
        | true =>
          obtain ⟨s, t, c, e1, _⟩ := two_of q
          rw [e1] at h3
          exact absurd rfl h3
  · rintro σ' H' ⟨r, bv, ov, rfl, hF, hR, hB⟩
    have e0 : isTableD (.tuple ds) = true := table_yes rfl hz (fun x hx => by
      obtain ⟨j, hj, e⟩ := List.mem_iff_getElem.mp hx
      exact hF j x (by have : j < ds.length := hj; omega) (by rw [← e]; exact List.getElem?_eq_getElem hj)) fun j x y a b => hR j x y (by have := (List.getElem?_eq_some_iff.mp b).1; have : j + 1 < ds.length := this; omega) a b
    rw [e0] at k
    exact s_retV (ρ := exR) ev_c fun H4 e4 => k H4 (e02.trans (e3.trans (r.trans e4))).ext
end Slip
/-! sorted -/
namespace Slip
open PySem PySem.Spec PyProof.Rows L2
def kD : Key → PyData
  | .inl i => .int i
  | .inr s => .str s
abbrev keyT (k : List Key) : PyData := .tuple (k.map kD)
theorem kd_dp {K : Frag} {H : Hp} (k : Key) : Dp K H (kV k) (kD k) := by
  cases k with
  | inl i => exact .int i
  | inr s => exact .str s
theorem kds_dp {K : Frag} {H : Hp} : ∀ k : List Key, DpAll K H (k.map kV) (k.map kD)
  | [] => .nil
  | a :: r => .cons (kd_dp a) (kds_dp r)
theorem kds_depth : ∀ k : List Key, PyData.depthAll (k.map kD) = 0
  | [] => rfl
  | a :: r => by
    show max (kD a).depth (PyData.depthAll (r.map kD)) = 0
    rw [kds_depth r]
    cases a <;> rfl
/-- sorted(d), the keys tuples -/
def rSortT : RCa := fun xs H Q => ∃ (a : Addr) (kvs : List (List Key × V)), xs = [.ref a] ∧ Rd H a (.dT kvs) ∧ kvs.length ≤ 90000 ∧ PySem.W.AllAlike (kvs.map fun p => keyT p.1) ∧ (∀ p ∈ kvs, p.1 ≠ []) ∧
  ∀ p (ys : List (List Key × Addr)), (ys.map (·.1)).Perm (kvs.map (·.1)) → (ys.map (·.1)).Nodup → (∀ b ∈ ys, H b.2 = some (.tup (b.1.map kV))) → ys.Pairwise (fun b c => PySem.W.dataLt (keyT c.1) (keyT b.1) = false) → H p = none → Q (.ref p) (upd H p (.lst (ys.map fun b => V.ref b.2)))
section
variable {X : Cx}
theorem call_sortT (hc : X.calm = true) (hu : X.A.units + 64 < cLine) : CallR X (.builtin "sorted") rSortT := by
  intro pins s σ H xs us Q I r q
  obtain ⟨a, kvs, rfl, hd, h9, hal, hne, q⟩ := q
  obtain ⟨u, rfl, rx⟩ := r.one
  cases rx
  obtain ⟨z, hs, ks, pr, o, es, ep, ho, hx, hdt, he, hn⟩ := (show ObjOk X.prog X.w H s.heap a (.dT kvs) from hd.ok I.hok)
  have l1 : es.size = ks.length := size_of_entries he
  have l2 : kvs.length = ks.length := Paired.length pr
  refine Calls.call_function_entry PyProof.Rows.kind_sorted PyProof.Rows.plain_sorted PyProof.Rows.entry_sorted (PyProof.Rows.args_sorted1 _) ?_
  unfold Builtin.«sorted»
  refine wpAny_bind (m := checkCount "sorted" 1 1 _) (wpAny_pure ?_)
  refine wpAny_bind (PySem.W.kdu_collect (A := X.A.in1) (kdl_raw hs hx hdt) (I.ok.hd hc) ho (by omega) fun h' tk acc hk it => ?_)
  have ea : acc.toList = ks.map fun x => Value.ref x.2.1 := by
    have hl : acc.toList.length = ks.length := by rw [Array.length_toList, it.1]; exact l1
    apply List.ext_getElem?
    intro j
    rw [List.getElem?_map]
    cases hj : acc.toList[j]? with
    | none =>
      have h1 := List.getElem?_eq_none_iff.mp hj
      rw [List.getElem?_eq_none (by omega)]
      all_goals rfl
    | some v =>
      obtain ⟨en, hen, hv⟩ := it.2 j v (by rw [← Array.getElem?_toList]; exact hj)
      have qe := entry_at he j
      rw [hen] at qe
      cases hb : ks[j]? with
      | none =>
        rw [hb] at qe
        exact nomatch (show some en = none from qe)
      | some b =>
        rw [hb] at qe
        have e2 : en = entryOfKey (tupleKind (mixKind X.prog X.w)) b := Option.some.inj qe
        rw [hv, e2]
        all_goals rfl
  have I1 : Inv X pins σ H { s with heap := h', toks := tk } := I.kept hk
  have hlen : acc.toList.length = ks.length := by rw [ea, List.length_map]
  have hz : acc.toList.length ≤ sizeLine := by rw [sizeLine_eq]; omega
  refine wpAny_bind (wpAny_newList ?_ hz)
  have hoL : (h'.push (seqObj "list" acc.toList.toArray 0)).get? h'.objs.size = some (seqObj "list" acc.toList.toArray 0) := Heap.get?_push_size _ rfl
  show wpAny _ _ _ _ _ { s with heap := h'.push (seqObj "list" acc.toList.toArray 0), toks := tk }
  -- the keys, each with its place
  have hkey : ∀ b ∈ (ks.map fun x => (x.1, x.2.1)), H b.2 = some (.tup (b.1.map kV)) := by
    intro b hb
    obtain ⟨x, hx1, rfl⟩ := List.mem_map.mp hb
    have all : ∀ {l : List (List Key × V)} {m : List (List Key × Addr × Value)}, KT H l m → ∀ x ∈ m, H x.2.1 = some (.tup (x.1.map kV)) := by
      intro l m q
      induction q with
      | nil => intro x hx; exact nomatch hx
      | @cons p q ps qs hq t ih =>
        intro x hx
        rcases List.mem_cons.mp hx with e | hx
        · subst e
          rw [← hq.1]
          exact hq.2.1
        · exact ih x hx
    exact all pr x hx1
  have hsame : (ks.map fun x => (x.1, x.2.1)).map (·.1) = kvs.map (·.1) := by
    rw [List.map_map]
    have all : ∀ {l : List (List Key × V)} {m : List (List Key × Addr × Value)}, KT H l m → m.map (fun x => x.1) = l.map (·.1) := by
      intro l m q
      induction q with
      | nil => rfl
      | @cons p q ps qs hq t ih =>
        rw [List.map_cons, List.map_cons, ih, hq.1]
    exact all pr
  have hT : ∀ b ∈ (ks.map fun x => (x.1, x.2.1)), ∃ as, Reads h' (Value.ref b.2) (keyT b.1) as := fun b hb =>
    Dp.reads I1 (keyT b.1) (.ref b.2) (.ref b.2) (.tup (.inl (.inl (hkey b hb))) (kds_dp _)) rfl
  have er : PySem.W.EachIs (fun v b => v = Value.ref b.2 ∧ b ∈ (ks.map fun x => (x.1, x.2.1))) acc.toList (ks.map fun x => (x.1, x.2.1)) := by
    rw [ea]
    have gen : ∀ (l m : List (List Key × Addr × Value)), (∀ x ∈ m, x ∈ l) → PySem.W.EachIs (fun v b => v = Value.ref b.2 ∧ b ∈ (l.map fun x => (x.1, x.2.1))) (m.map fun x => Value.ref x.2.1) (m.map fun x => (x.1, x.2.1)) := by
      intro l m
      induction m with
      | nil => intro _; exact .nil
      | cons x m ih =>
        intro h
        exact .cons ⟨rfl, List.mem_map.mpr ⟨x, h x (List.mem_cons_self ..), rfl⟩⟩ (ih fun y hy => h y (List.mem_cons_of_mem _ hy))
    exact gen ks ks fun x h => h
  have al2 : PySem.W.AllAlike ((ks.map fun x => (x.1, x.2.1)).map fun b => keyT b.1) := by
    have e : (ks.map fun x => (x.1, x.2.1)).map (fun b => keyT b.1) = kvs.map fun p => keyT p.1 := by
      rw [show (fun b : List Key × Addr => keyT b.1) = keyT ∘ (·.1) from rfl, ← List.map_map, hsame, List.map_map]
      rfl
    rw [e]
    exact hal
  have sb : PySem.W.Sortable ((ks.map fun x => (x.1, x.2.1)).map fun b => keyT b.1) := .inl fun d hd => by
    obtain ⟨b, hb, rfl⟩ := List.mem_map.mp hd
    have hm : b.1 ∈ kvs.map (·.1) := by rw [← hsame]; exact List.mem_map.mpr ⟨b, hb, rfl⟩
    obtain ⟨p, hp, e⟩ := List.mem_map.mp hm
    have := hne p hp
    cases hq : b.1 with
    | nil => exact absurd (e.trans hq) this
    | cons k r => exact ⟨kD k, r.map kD, rfl⟩
  have room : ∀ b ∈ (ks.map fun x => (x.1, x.2.1)), X.A.in1.in1.units + (keyT b.1).depth < cLine := fun b _ => by
    have e1 : (keyT b.1).depth = 1 := by show PyData.depthAll (b.1.map kD) + 1 = 1; rw [kds_depth]
    rw [e1]
    have e2 : X.A.in1.in1.units = X.A.units + 1 + 1 := rfl
    omega
  have old : ∀ b o, h'.get? b = some o → (PySem.W.sortingHeap (h'.push (seqObj "list" acc.toList.toArray 0)) h'.objs.size acc.toList).get? b = some o := fun b o e =>
    PySem.W.sortingHeap_old (Nat.ne_of_lt (Heap.lt_size e)) (Heap.get?_push_of_some _ e)
  have er2 : PySem.W.EachIs (fun v b => ∃ as, Reads (PySem.W.sortingHeap (h'.push (seqObj "list" acc.toList.toArray 0)) h'.objs.size acc.toList) v (keyT b.1) as) acc.toList (ks.map fun x => (x.1, x.2.1)) := er.mono fun v b ⟨e, hb⟩ => by
    obtain ⟨as, r⟩ := hT b hb
    rw [e]
    exact ⟨as, PyProof.Rows.Reads.keeps old r⟩
  refine wpAny_bind (wpAny_holding (wpAny_call_entry PyProof.Rows.slot_list_sort ⟨_, hoL, rfl⟩ PyProof.Rows.entry_list_sort
    (PySem.W.list_sort_vals (s := { s with heap := h'.push (seqObj "list" acc.toList.toArray 0), toks := tk }) hoL (PySem.W.SortsAt.data (s := { s with heap := PySem.W.sortingHeap (h'.push (seqObj "list" acc.toList.toArray 0)) h'.objs.size acc.toList, toks := tk }) (PySem.W.each_map (R := fun v d => ∃ as, Reads (PySem.W.sortingHeap (h'.push (seqObj "list" acc.toList.toArray 0)) h'.objs.size acc.toList) v d as) (fun b : List Key × Addr => keyT b.1) er2) al2 sb (PySem.W.bound_map room)) hz ⟨_, rfl, ?_⟩)
    (PyProof.Rows.args_list_sort _)))
  have out := PySem.W.sortVals_data (h' := PySem.W.sortingHeap (h'.push (seqObj "list" acc.toList.toArray 0)) h'.objs.size acc.toList) (R := fun v b => v = Value.ref b.2 ∧ b ∈ (ks.map fun x => (x.1, x.2.1))) (enc := fun b : List Key × Addr => keyT b.1) false er er2 al2
  have eo : PySem.W.sortVals (PySem.W.dataKind (PySem.W.sortingHeap (h'.push (seqObj "list" acc.toList.toArray 0)) h'.objs.size acc.toList) ((ks.map fun x => (x.1, x.2.1)).map fun b => keyT b.1)) false acc.toList acc.toList = ((ks.map fun x => (x.1, x.2.1)).mergeSort (PySem.W.dataLe false fun b => keyT b.1)).map (fun b => Value.ref b.2) := by
    have gen : ∀ {l : List Value} {m : List (List Key × Addr)}, PySem.W.EachIs (fun v b => v = Value.ref b.2 ∧ b ∈ (ks.map fun x => (x.1, x.2.1))) l m → l = m.map fun b => Value.ref b.2 := by
      intro l m h
      induction h with
      | nil => rfl
      | cons h t ih => rw [List.map_cons, h.1, ih]
    exact gen out
  have pm : ((ks.map fun x => (x.1, x.2.1)).mergeSort (PySem.W.dataLe false fun b => keyT b.1)).Perm (ks.map fun x => (x.1, x.2.1)) := List.mergeSort_perm _ _
  have pw := PySem.W.sort_pairwise (PySem.W.sortLe_total (listOrd itemOrd) false fun b : List Key × Addr => PySem.W.keyToks (keyT b.1)) (ks.map fun x => (x.1, x.2.1))
  generalize hys : (ks.map fun x => (x.1, x.2.1)).mergeSort (PySem.W.dataLe false fun b => keyT b.1) = ys at eo pm
  have pw' : ys.Pairwise fun b c => PySem.W.dataLt (keyT c.1) (keyT b.1) = false := by
    rw [← hys]
    refine pw.imp fun {b c} h => ?_
    have h' : (!PySem.W.dataLt (keyT c.1) (keyT b.1)) = true := h
    exact notb h'
  rw [eo]
  obtain ⟨e', he'⟩ := PyProof.Rows.sortedHeap_at (vs := acc.toList) (out := (ys.map fun b => Value.ref b.2).toArray) hoL
  have hpm := pm.map (·.1)
  rw [hsame] at hpm
  have hlen2 : (ys.map fun b => V.ref b.2).length ≤ sizeLine := by
    rw [List.length_map, pm.length_eq, List.length_map, sizeLine_eq]
    omega
  have hvals : Vals (ys.map fun b => V.ref b.2) (ys.map fun b => Value.ref b.2) := by
    have gen : ∀ l : List (List Key × Addr), Vals (l.map fun b => V.ref b.2) (l.map fun b => Value.ref b.2) := fun l => by
      induction l with
      | nil => exact .nil
      | cons x l ih => exact .cons rfl ih
    exact gen ys
  have hnd : (ys.map (·.1)).Nodup := by
    have h1 : (kvs.map (·.1)).Nodup := by
      rw [← hsame, List.map_map]
      exact hn
    exact hpm.nodup_iff.mpr h1
  refine wpAny_pure ⟨_, rfl, .ref h'.objs.size, upd H h'.objs.size (.lst (ys.map fun b => V.ref b.2)), I1.laid (t' := tk) (fun b u e => ?_) (Nat.le_refl _)
    (show ObjOk X.prog X.w _ _ _ (.lst (ys.map fun b => V.ref b.2)) from ⟨hlen2, ys.map fun b => Value.ref b.2, e', hvals, he'⟩), rfl, q _ ys hpm hnd (fun b hb => hkey b (pm.mem_iff.mp hb)) pw' (I1.hok.fresh (Nat.le_refl _))⟩
  have hb : b < h'.objs.size := Heap.lt_size e
  rw [PyProof.Rows.sortedHeap_old (Nat.ne_of_lt hb) (by rw [size_push']; exact Nat.lt_succ_of_lt hb)]
  exact Heap.get?_push_of_some _ e
end
def rSortU (K : Frag) : RCa := rSortT
theorem call_sortU {X : Cx} (hc : X.calm = true) (hu : X.A.units + 64 < cLine) : CallR X (.builtin "sorted") (rSortU X.K) := call_sortT hc hu
end Slip
/-! a drawn table -/
namespace Slip
open PySem PySem.Spec PyProof.Rows L2
/-! ### order -/
theorem toks_same {x y : PyData} (al : PySem.W.alike x y = true) (h : PySem.W.keyToks x = PySem.W.keyToks y) : PyData.eqv x y = true := by
  cases q : PyData.eqv x y with
  | true => rfl
  | false =>
    have h1 := (PySem.W.toks_eqv x y al).2 q [] [.inl 0]
    have h2 := PySem.W.lex_pre (PySem.W.keyToks y) [] [.inl 0]
    rw [h, h2, lex_irrefl] at h1
    exact absurd h1 (by decide)
theorem lt_strict {x y : PyData} (al : PySem.W.alike x y = true) (ne : PyData.eqv x y = false) (h : PySem.W.dataLt y x = false) : PySem.W.dataLt x y = true := by
  cases q : PySem.W.dataLt x y with
  | true => rfl
  | false =>
    have := toks_same al (lex_total (O := itemOrd) _ _ q h)
    rw [ne] at this
    cases this
theorem put_mem {κ : Type} [DecidableEq κ] {kvs : List (κ × V)} {k : κ} {v : V} {p : κ × V} (h : p ∈ putK kvs k v) : p ∈ kvs ∨ p = (k, v) := by
  unfold putK at h
  split at h
  · obtain ⟨q, hq, e⟩ := List.mem_map.mp h
    by_cases z : q.1 = k
    · rw [if_pos z] at e
      right
      rw [← e, z]
    · rw [if_neg z] at e
      left
      rw [← e]
      exact hq
  · rcases List.mem_append.mp h with h | h
    · exact .inl h
    · exact .inr (by simpa using h)
theorem val_mem {κ : Type} [DecidableEq κ] : ∀ {kvs : List (κ × V)} {p : κ × V}, p ∈ kvs → ∃ v, valV kvs p.1 = some v ∧ (p.1, v) ∈ kvs
  | q :: kvs, p, h => by
    by_cases z : q.1 = p.1
    · exact ⟨q.2, valV_pos z, by rw [← z]; exact List.mem_cons_self ..⟩
    · rcases List.mem_cons.mp h with rfl | h
      · exact absurd rfl z
      · obtain ⟨v, h1, h2⟩ := val_mem h
        exact ⟨v, by rw [valV_neg z, h1], List.mem_cons_of_mem _ h2⟩
/-! ### tables -/
def Ent (p : List Key × V) : Prop := ∃ (s t : Str) (c : Int), p = ([.inr s, .inr t], .int c) ∧ isPieceD (.str s) = true ∧ isPieceD (.str t) = true ∧ s ≠ t ∧ 1 ≤ c ∧ c ≤ 9
def entD (kvs : List (List Key × V)) (k : List Key) : PyData :=
  match k, valV kvs k with
  | [.inr s, .inr t], some (.int c) => .tuple [.str s, .str t, .int c]
  | _, _ => .none
theorem ent_at {kvs : List (List Key × V)} (he : ∀ p ∈ kvs, Ent p) {k : List Key} (hk : k ∈ kvs.map (·.1)) : ∃ (s t : Str) (c : Int), k = [.inr s, .inr t] ∧ valV kvs k = some (.int c) ∧ entD kvs k = .tuple [.str s, .str t, .int c] ∧ isPieceD (.str s) = true ∧ isPieceD (.str t) = true ∧ s ≠ t ∧ 1 ≤ c ∧ c ≤ 9 := by
  obtain ⟨p, hp, rfl⟩ := List.mem_map.mp hk
  obtain ⟨v, hv, hm⟩ := val_mem hp
  obtain ⟨s, t, c, e, h1, h2, h3, h4, h5⟩ := he _ hm
  have e1 : p.1 = [.inr s, .inr t] := congrArg Prod.fst e
  have e2 : v = .int c := congrArg Prod.snd e
  rw [e2] at hv
  refine ⟨s, t, c, e1, hv, ?_, h1, h2, h3, h4, h5⟩
  rw [e1] at hv ⊢
  unfold entD
  rw [hv]
theorem table_of {kvs : List (List Key × V)} {ys : List (List Key × Addr)} (he : ∀ p ∈ kvs, Ent p) (hp : (ys.map (·.1)).Perm (kvs.map (·.1))) (nd : (ys.map (·.1)).Nodup) (pw : ys.Pairwise (fun b c => PySem.W.dataLt (keyT c.1) (keyT b.1) = false)) (h8 : kvs.length ≤ 8) :
    isTableD (.tuple (ys.map fun b => entD kvs b.1)) = true := by
  have hl : ys.length = kvs.length := by
    have := hp.length_eq
    rwa [List.length_map, List.length_map] at this
  have at_ : ∀ (j : Nat) b, ys[j]? = some b → ∃ (s t : Str) (c : Int), b.1 = [.inr s, .inr t] ∧ valV kvs b.1 = some (.int c) ∧ entD kvs b.1 = .tuple [.str s, .str t, .int c] ∧ isPieceD (.str s) = true ∧ isPieceD (.str t) = true ∧ s ≠ t ∧ 1 ≤ c ∧ c ≤ 9 := fun j b hb =>
    ent_at he (hp.mem_iff.mp (List.mem_map.mpr ⟨b, List.mem_of_getElem? hb, rfl⟩))
  refine table_yes rfl (by show (ys.map _).length ≤ 8; rw [List.length_map]; omega) (fun x hx => ?_) fun j x y a b => ?_
  · obtain ⟨b, hb, rfl⟩ := List.mem_map.mp (show x ∈ ys.map fun b => entD kvs b.1 from hx)
    obtain ⟨j, hj, e⟩ := List.mem_iff_getElem.mp hb
    obtain ⟨s, t, c, _, _, e3, h1, h2, h3, h4, h5⟩ := at_ j b (by rw [← e]; exact List.getElem?_eq_getElem hj)
    show isFaultD (entD kvs b.1) = true
    rw [e3, fault_tup, h1, h2, eqv_str, decide_eq_false h3]
    show (decide ((1 : Int) ≤ c) && decide (c ≤ 9)) = true
    rw [decide_eq_true h4, decide_eq_true h5]
    rfl
  · have a' : (ys.map fun b => entD kvs b.1)[j]? = some x := a
    have b' : (ys.map fun b => entD kvs b.1)[j + 1]? = some y := b
    rw [List.getElem?_map] at a' b'
    cases qa : ys[j]? with
    | none => rw [qa] at a'; cases a'
    | some u =>
    cases qb : ys[j + 1]? with
    | none => rw [qb] at b'; cases b'
    | some w =>
    rw [qa] at a'
    rw [qb] at b'
    cases a'
    cases b'
    obtain ⟨hj, ej⟩ := List.getElem?_eq_some_iff.mp qa
    obtain ⟨hk, ek⟩ := List.getElem?_eq_some_iff.mp qb
    have h1 := List.pairwise_iff_getElem.mp pw j (j + 1) hj hk (Nat.lt_succ_self j)
    rw [ej, ek] at h1
    have h2 := List.pairwise_iff_getElem.mp nd j (j + 1) (by rw [List.length_map]; exact hj) (by rw [List.length_map]; exact hk) (Nat.lt_succ_self j)
    rw [List.getElem_map, List.getElem_map, ej, ek] at h2
    obtain ⟨s, t, c, k1, _, e1, _⟩ := at_ j u qa
    obtain ⟨s', t', c', k2, _, e2, _⟩ := at_ (j + 1) w qb
    show PySem.W.dataLt (pairOf (entD kvs u.1)) (pairOf (entD kvs w.1)) = true
    rw [e1, e2, pair_fault (d := .tuple [.str s, .str t, .int c]) rfl, pair_fault (d := .tuple [.str s', .str t', .int c']) rfl]
    rw [k1, k2] at h1 h2
    refine lt_strict rfl ?_ h1
    cases q : PyData.eqv (.tuple [.str s, .str t]) (.tuple [.str s', .str t']) with
    | false => rfl
    | true =>
      have q' : (PyData.eqv (.str s) (.str s') && (PyData.eqv (.str t) (.str t') && true)) = true := q
      rw [eqv_str, eqv_str, Bool.and_true] at q'
      have q2 : s = s' ∧ t = t' := by simpa using q'
      rw [q2.1, q2.2] at h2
      exact absurd rfl h2
theorem piece_of {s : Str} (h : s.length ≤ 2) (hc : ∀ c ∈ s.cps.toList, c ∈ letters) : isPieceD (.str s) = true := by
  show ((s.cps.toList.all fun c => decide (c ∈ letters)) && decide ((s.length : Int) ≤ 2)) = true
  rw [decide_eq_true (by omega), Bool.and_true, List.all_eq_true]
  exact fun c h => decide_eq_true (hc c h)
/-! ### rules -/
section
variable {ρ : Rl} {K : Frag} {σ : L2.St} {H : Hp} {ta tb te : TE} {xs : List V} {R : V → Hp → Prop} {wi : TI} {g : TG} {tt : TT} {vs : List Nat} {C : Nat → (Nat → Hp → V → Hp → Prop) → Prop}
/-- a list display, at a drawn place -/
theorem ev_ixNew (h1 : Ev ρ ta σ H (fun v H2 => ∃ p, v = .ref p ∧ ¬ ρ.S p ∧ H2 p = some (.lst xs))) (h2 : ∀ H1, ρ.r H H1 → Ev ρ tb σ H1 (fun v _ => ∃ m : Int, v = .int m ∧ 0 ≤ m ∧ m < (xs.length : Int))) : Ev ρ (tIxU K ta tb) σ H (fun v _ => ∃ m : Nat, xs[m]? = some v) :=
  fun H1 e1 Q q => .inl (h1 H1 e1 _ fun v H2 e2 ⟨p, ev, nS, hp⟩ => h2 H2 (e1.trans e2) H2 .rfl _ fun w H3 e3 ⟨m, ew, h0, hm⟩ => by
    subst ev ew
    have hm' : m.toNat < xs.length := by omega
    have g : xs[m.toNat]? = some xs[m.toNat] := List.getElem?_eq_getElem hm'
    have g2 : atI xs m = some xs[m.toNat] := by
      have := atI_nat g
      rwa [show ((m.toNat : Nat) : Int) = m by omega] at this
    exact .inl ⟨p, xs, m, _, rfl, rfl, .of (e3.keep _ _ nS hp), g2, q _ H3 (e2.trans e3) ⟨_, g⟩⟩)
/-- a new list of known things -/
theorem ev_lstN {ts : TA} (own : Own ρ H) (h : EvAV ρ ts σ H xs) (hl : xs.length ≤ 100000) : Ev ρ (tLst ts) σ H (fun v H2 => ∃ p, v = .ref p ∧ ¬ ρ.S p ∧ H2 p = some (.lst xs)) :=
  (ev_lst h fun vs H1 _ e => by rw [e]; exact hl).imp fun v H2 r ⟨p, vs, H1, ev, evs, hp, r1, eH⟩ => by
    subst ev evs
    exact ⟨p, rfl, (own.r r1).fresh hp, by rw [eH]; exact upd_same⟩
/-- a comprehension over what is not known ahead -/
theorem ev_lcx (hI : EvIx ρ wi σ H C) (h : ∀ n Y H1 J, C n Y → ρ.r H H1 → EvI ρ (fun _ H2 R => R J H2) σ H1 n Y → Ev ρ (tLc (fun _ H2 R => R J H2) g tt te vs) σ H1 R) : Ev ρ (tLc wi g tt te vs) σ H R := fun H0 e0 Q q =>
  hI H0 e0 _ fun n Y J H2 c e2 w => h n Y H2 J c (e0.trans e2) (fun H1 e1 R k => k J H1 .rfl (w.mono (fun H3 e3 => e1.trans e3) fun _ _ _ _ _ _ y => y)) H2 .rfl Q fun v H3 e3 r => q v H3 (e2.trans e3) r
/-- another dict at D -/
theorem r_chgT {D : Addr} {kvs kvs' : List (List Key × V)} (h : H D = some (.dT kvs)) (n : ¬ ρ.S D) : (ρ.and D).r H (upd H D (.dT kvs')) :=
  ⟨fun a o s q => by rw [upd_ne (fun z => s (.inr z))]; exact q,
   fun a q => by
    by_cases z : a = D
    · subst z; rw [upd_same] at q; cases q
    · rw [upd_ne z] at q; exact q,
   fun a xs q => by rw [upd_ne (ne_of q h (by intro z; cases z))]; exact q, fun a o u q => by rw [upd_ne (ne_of q h (by intro z; cases z))]; exact q,
   fun a p ⟨k, h0, q⟩ => ⟨k, h0, by rw [upd_ne (fun z : a = D => n (z ▸ ρ.sub a p))]; exact q⟩⟩
end
/-- sorted(d), walked -/
theorem eix_sortT {ρ : Rl} {K : Frag} {σ : L2.St} {H : Hp} {te : TE} {D : Addr} {kvs : List (List Key × V)} (own : Own ρ H) (h : EvV ρ te σ H (.ref D)) (hD : ∀ H1, ρ.r H H1 → H1 D = some (.dT kvs)) (hl : kvs.length ≤ 90000) (al : PySem.W.AllAlike (kvs.map fun p => keyT p.1)) (ne : ∀ p ∈ kvs, p.1 ≠ []) :
    EvIx ρ (iSeq K (tCB (rSortU K) (tCons te tNil))) σ H (fun n Y => ∃ ys : List (List Key × Addr), (ys.map (·.1)).Perm (kvs.map (·.1)) ∧ (ys.map (·.1)).Nodup ∧ ys.Pairwise (fun b c => PySem.W.dataLt (keyT c.1) (keyT b.1) = false) ∧ n = ys.length ∧ Y = fun i H v H' => H' = H ∧ ∃ b, ys[i]? = some b ∧ v = .ref b.2 ∧ H b.2 = some (.tup (b.1.map kV))) := fun H1 e1 R k =>
  .inl (h H1 e1 _ fun v H2 e2 ev => by
    subst ev
    refine ⟨D, kvs, rfl, .inl (hD H2 (e1.trans e2)), hl, al, ne, fun p ys hp hn hk pw hnew => ⟨p, rfl, ⟨_, .of upd_same⟩, ?_⟩⟩
    have nS : ¬ ρ.S p := (own.r (e1.trans e2)).fresh hnew
    have r2 : ρ.r H2 (upd H2 p (.lst (ys.map fun b => V.ref b.2))) := r_new _ hnew
    refine k ys.length _ _ _ ⟨ys, hp, hn, pw, rfl, rfl⟩ (e2.trans r2) ?_
    have w := walk_list (K := K) (a := p) (xs := ys.map fun b => V.ref b.2)
    rw [List.length_map] at w
    refine w.mono (fun H3 e3 => .of (e3.keep _ _ nS upd_same)) fun i H3 v H4 hi e3 y => ⟨y.1, ?_⟩
    have y2 := y.2
    rw [List.getElem?_map] at y2
    cases q : ys[i]? with
    | none => rw [q] at y2; cases y2
    | some b =>
      rw [q] at y2
      cases y2
      exact ⟨b, rfl, rfl, (r2.trans e3).tup _ _ (hk b (List.mem_of_getElem? q))⟩)
def sp__law_table (K : Frag) : Sp := fun vs H Q _ => ∃ (ra sp : Addr) (many : Int) (z : Str), vs = [.ref ra, .ref sp, .int many, .str z] ∧ Dr K ra sp H ∧ 0 ≤ many ∧ many ≤ 8 ∧ Few z ∧ ∀ v ds H', (spR sp).r H H' → DS (spR sp) H' v (.tuple ds) → noLists ds = true → isTableD (.tuple ds) = true → Q v H'
theorem len__law_table {K : Frag} {vs : List V} {H : Hp} {Q : VK} {E : XK} (h : sp__law_table K vs H Q E) : vs.length = 4 := by
  obtain ⟨ra, sp, m, z, rfl, _⟩ := h
  rfl
def t__law_table (K : Frag) : TS := (tSeq (tAsg tDNewT (gName 4)) (tSeq (tFor (iRng1 (tCons (tCall (sp__law_take K) [] E0 (tCons (tVar 0) (tCons (tVar 1) (tCons (tOp (rAddU K) (tVar 2) (tC (.int 1))) tNil)))) tNil)) (gName 5) (tSeq (tAsg (tCall (sp__law_take K) [] E0 (tCons (tVar 0) (tCons (tVar 1) (tCons (tC (.int 6)) tNil)))) (gName 6)) (tSeq (tAsg (tCall (sp__law_letters K) [] E0 (tCons (tVar 0) (tCons (tVar 1) (tCons (tC (.int 2)) (tCons (tVar 3) tNil))))) (gName 7)) (tSeq (tAsg (tCall (sp__law_letters K) [] E0 (tCons (tVar 0) (tCons (tVar 1) (tCons (tC (.int 2)) (tCons (tVar 3) tNil))))) (gName 8)) (tSeq (tIfS (tTest (tOp (rEqU K) (tVar 6) (tC (.int 0)))) (tAsg (tC (.str "")) (gName 7)) (tIfS (tTest (tOp (rEqU K) (tVar 6) (tC (.int 1)))) (tAsg (tC (.str "")) (gName 8)) (tIfS (tAnd (tTest (tOp (rEqU K) (tVar 6) (tC (.int 2)))) (tTest (tOp (rEqU K) (tCB (rLenU K) (tCons (tVar 7) tNil)) (tC (.int 2))))) (tAsg (tOp (rAddU K) (tIxU K (tVar 7) (tC (.int 1))) (tIxU K (tVar 7) (tC (.int 0)))) (gName 8)) tNext))) (tIfS (tTest (tOp (rNeU K) (tVar 7) (tVar 8))) (tAsg (tOp (rAddU K) (tC (.int 1)) (tCall (sp__law_take K) [] E0 (tCons (tVar 0) (tCons (tVar 1) (tCons (tIxU K (tLst (tCons (tC (.int 2)) (tCons (tC (.int 3)) (tCons (tC (.int 9)) tNil)))) (tCall (sp__law_take K) [] E0 (tCons (tVar 0) (tCons (tVar 1) (tCons (tC (.int 3)) tNil))))) tNil))))) (gSub (tVar 4) (tTup (tCons (tVar 7) (tCons (tVar 8) tNil))) (rSetU K))) tNext)))))) (tRet (tCB (rTupOf K) (tCons (tLc (iSeq K (tCB (rSortU K) (tCons (tVar 4) tNil))) (gName 7) tYes (tOp (rAddU K) (tVar 7) (tTup (tCons (tIxU K (tVar 4) (tVar 7)) tNil))) [7]) tNil)))))
theorem ent_alike {kvs : List (List Key × V)} (he : ∀ p ∈ kvs, Ent p) : PySem.W.AllAlike (kvs.map fun p => keyT p.1) := by
  intro d hd e hd2
  obtain ⟨p, hp, rfl⟩ := List.mem_map.mp hd
  obtain ⟨q, hq, rfl⟩ := List.mem_map.mp hd2
  obtain ⟨s, t, c, rfl, _⟩ := he p hp
  obtain ⟨s', t', c', rfl, _⟩ := he q hq
  rfl
theorem ent_nonempty {kvs : List (List Key × V)} (he : ∀ p ∈ kvs, Ent p) : ∀ p ∈ kvs, p.1 ≠ [] := by
  intro p hp
  obtain ⟨s, t, c, rfl, _⟩ := he p hp
  intro z
  cases z
theorem two_str {s : Str} (h : s.length = 2) : ∃ a b, s.cps.toList = [a, b] := by
  have h2 : s.cps.toList.length = 2 := by rw [len_cps]; exact h
  match hq : s.cps.toList, h2 with
  | [a, b], _ => exact ⟨a, b, rfl⟩
theorem noLists_map {α : Type} {f : α → PyData} : ∀ {l : List α}, (∀ a ∈ l, noList (f a) = true) → noLists (l.map f) = true
  | [], _ => rfl
  | a :: l, h => by
    show (noList (f a) && noLists (l.map f)) = true
    rw [h a (List.mem_cons_self ..), noLists_map fun b hb => h b (List.mem_cons_of_mem _ hb)]
    rfl
/-! ### a walk of unknown length beside a body that changes more -/
def EvWx (ρ ρw : Rl) (wi : TI) (σ : L2.St) (H : Hp) (C : Nat → (Nat → Hp → V → Hp → Prop) → Prop) : Prop :=
  ∀ H1, ρ.r H H1 → ∀ R : It → Hp → Prop, (∀ n Y J H2, C n Y → ρ.r H1 H2 → Walk J n (fun H3 => ρw.r H2 H3) Y → R J H2) → wi σ H1 R
section
variable {ρ ρw : Rl} {σ : L2.St} {H : Hp} {te : TE} {D : Ends} {tz tu : TS} {wi : TI} {g : TG} {C : Nat → (Nat → Hp → V → Hp → Prop) → Prop}
theorem q_forxw (h : EvWx ρ ρw wi σ H C) (k : ∀ n Y H1, C n Y → ρ.r H H1 → ∃ Pv : Nat → L2.St → Hp → Prop, Pv 0 σ H1 ∧ (∀ i σ' H', i ≤ n → Pv i σ' H' → ρw.r H1 H') ∧
    (∀ i x σ' H' H'', i < n → Pv i σ' H' → Y i H' x H'' → g x σ' H'' fun σ2 H2 => tu { D with nx := Pv (i + 1), ct := Pv (i + 1), bk := tz D } σ2 H2) ∧ ∀ σ' H', Pv n σ' H' → tz D σ' H') : tSeq (tFor wi g tu) tz D σ H :=
  h H .rfl _ fun n Y J H1 c e w => by
    obtain ⟨Pv, h0, hr, hs, hd⟩ := k n Y H1 c e
    exact for_it (D := { D with nx := tz D }) w Pv h0 hr hs hd
theorem ewx_rng {lim : Int} (h : Ev ρ te σ H (fun v _ => ∃ m : Int, v = .int m ∧ 0 ≤ m ∧ m < lim)) (hl : lim ≤ 1000000) : EvWx ρ ρw (iRng1 (tCons te tNil)) σ H (fun n Y => (n : Int) < lim ∧ Y = YFn fun m => .int ((m : Nat) : Int)) := fun H1 e1 R k =>
  h H1 e1 _ fun v H2 e2 ⟨m, ev, h0, h1⟩ => ⟨m, by rw [ev], by omega, by omega, k m.toNat _ _ H2 ⟨by omega, rfl⟩ e2 (walk_range.mono (fun _ _ => trivial) fun i H3 x H4 _ _ y => ⟨y.1, by rw [y.2]; exact congrArg V.int (Int.zero_add _)⟩)⟩
end
def OkP (s : Str) : Prop := s.length ≤ 2 ∧ ∀ c ∈ s.cps.toList, c ∈ letters
theorem okp_nil : OkP "" := ⟨by decide +kernel, fun c hc => by
  have : ("" : Str).cps.toList = [] := by decide +kernel
  rw [this] at hc
  cases hc⟩
theorem pure__law_table {K : Frag} (vs : List V) (H : Hp) (Q : VK) (E : XK) (h : sp__law_table K vs H Q E) : t__law_table K { nx := fun _ H' => Q .non H', rt := Q } (start ["row", "spot", "many", "few", "held", "k", "kind", "one", "other"] vs) H := by
  obtain ⟨ra, sp, many, z, rfl, dr, m0, m8, few, k⟩ := h
  have own := own_sp dr
  refine q_asg (ρ := spR sp) (R := fun v H' => ∃ D, v = .ref D ∧ H D = none ∧ H' D = some (.dT [])) (fun H1 e1 Q q p hp => q _ _ (r_new _ hp) ⟨p, rfl, e1.back p hp, upd_same⟩) fun v H1 e1 ⟨D, ev, hD0, hD⟩ => ?_
  subst ev
  have nD : ¬ (spR sp).S D := own.fresh hD0
  have dr1 := dr.sp e1
  have hz := few.pos
  have hz6 := few.le
  refine q_forxw (ρ := spR sp) (ρw := (spR sp).and D) (ewx_rng (lim := many + 1) (ev_take (ev_var rfl) (ev_var rfl) (ev_add (ev_var rfl) ev_c) dr1 (by omega)) (by omega)) fun n Y H2 ⟨hn, hY⟩ e2 => ⟨fun i σ' H' => ((spR sp).and D).r H2 H' ∧ ∃ (kvs : List (List Key × V)) (kv kd on ot : Option V), σ' = [some (.ref ra), some (.ref sp), some (.int many), some (.str z), some (.ref D), kv, kd, on, ot] ∧ H' D = some (.dT kvs) ∧ kvs.length ≤ i ∧ ∀ p ∈ kvs, Ent p, ⟨.rfl, [], none, none, none, none, rfl, e2.keep _ _ nD hD, Nat.le_refl _, fun p hp => nomatch hp⟩, fun i σ' H' _ h => h.1, ?_, ?_⟩
  · subst hY
    rintro i x σ' H' H'' hi ⟨r, kvs, kv, kd, on, ot, rfl, hDk, hlen, hent⟩ ⟨e5, rfl⟩
    subst e5
    have rH : (spR sp).r H H'' := r_and (e1.trans e2) hD0 r
    have dr2 : Dr K ra sp H'' := dr.sp rH
    refine q_asg (ρ := spR sp) (ev_take (ev_var rfl) (ev_var rfl) ev_c dr2 (by decide)) fun v H3 e3 ⟨m, ev, _, _⟩ => ?_
    subst ev
    refine q_asg (ρ := spR sp) (ev_letters (ev_var rfl) (ev_var rfl) ev_c (ev_var rfl) (dr2.sp e3) (by decide) (by decide) hz (by omega)) fun v H4 e4 ⟨s, ev, hs2, hsz⟩ => ?_
    subst ev
    refine q_asg (ρ := spR sp) (ev_letters (ev_var rfl) (ev_var rfl) ev_c (ev_var rfl) (dr2.sp (e3.trans e4)) (by decide) (by decide) hz (by omega)) fun v H5 e5 ⟨t, ev, ht2, htz⟩ => ?_
    subst ev
    have e35 := e3.trans (e4.trans e5)
    have oks : OkP s := ⟨by omega, fun c hc => few.low c (hsz c hc)⟩
    have okt : OkP t := ⟨by omega, fun c hc => few.low c (htz c hc)⟩
    have fin : ∀ D' : Ends, (∀ σ2 H2', (((spR sp).and D).r H2 H2' ∧ ∃ (kvs : List (List Key × V)) (kv kd on ot : Option V), σ2 = [some (.ref ra), some (.ref sp), some (.int many), some (.str z), some (.ref D), kv, kd, on, ot] ∧ H2' D = some (.dT kvs) ∧ kvs.length ≤ i + 1 ∧ ∀ p ∈ kvs, Ent p) → D'.nx σ2 H2') → ∀ (s t : Str) H6, (spR sp).r H5 H6 → OkP s → OkP t → (tIfS (tTest (tOp (rNeU K) (tVar 7) (tVar 8))) (tAsg (tOp (rAddU K) (tC (.int 1)) (tCall (sp__law_take K) [] E0 (tCons (tVar 0) (tCons (tVar 1) (tCons (tIxU K (tLst (tCons (tC (.int 2)) (tCons (tC (.int 3)) (tCons (tC (.int 9)) tNil)))) (tCall (sp__law_take K) [] E0 (tCons (tVar 0) (tCons (tVar 1) (tCons (tC (.int 3)) tNil))))) tNil))))) (gSub (tVar 4) (tTup (tCons (tVar 7) (tCons (tVar 8) tNil))) (rSetU K))) tNext) D' [some (.ref ra), some (.ref sp), some (.int many), some (.str z), some (.ref D), some (.int (i : Int)), some (.int m), some (.str s), some (.str t)] H6 := by
      intro D' hD' s t H6 e6 oks okt
      have e06 : (spR sp).r H'' H6 := e35.trans e6
      refine s_if (ρ := spR sp) (et_test (ev_neS (ev_var rfl) (ev_var rfl))) (fun hb H7 e7 => ?_) (fun hb H7 e7 => hD' _ _ ⟨r.trans (and_of (e06.trans e7)), kvs, _, _, _, _, rfl, (e06.trans e7).keep _ _ nD hDk, by omega, hent⟩)
      have hst : s ≠ t := of_decide_eq_false (notb hb)
      have e07 := e06.trans e7
      have dr7 := dr2.sp e07
      have hixL := ev_ixNew (ρ := spR sp) (K := K) (H := H7) (σ := [some (.ref ra), some (.ref sp), some (.int many), some (.str z), some (.ref D), some (.int (i : Int)), some (.int m), some (.str s), some (.str t)]) (xs := [.int 2, .int 3, .int 9]) (ev_lstN (own_sp dr7) (ea_cons ev_c (ea_cons ev_c (ea_cons ev_c ea_nil))) (by show 3 ≤ 100000; decide)) (fun H8 e8 => ev_take (E := E0) (ta := tVar 0) (tb := tVar 1) (tc := tC (.int 3)) (lim := (([V.int 2, V.int 3, V.int 9].length : Nat) : Int)) (ev_var rfl) (ev_var rfl) ev_c (dr7.sp e8) (by decide))
      have hargs : EvA (spR sp) (tCons (tVar 0) (tCons (tVar 1) (tCons (tIxU K (tLst (tCons (tC (.int 2)) (tCons (tC (.int 3)) (tCons (tC (.int 9)) tNil)))) (tCall (sp__law_take K) [] E0 (tCons (tVar 0) (tCons (tVar 1) (tCons (tC (.int 3)) tNil))))) tNil))) [some (.ref ra), some (.ref sp), some (.int many), some (.str z), some (.ref D), some (.int (i : Int)), some (.int m), some (.str s), some (.str t)] H7 (fun vs _ => ∃ l : Int, vs = [.ref ra, .ref sp, .int l] ∧ 0 < l ∧ l ≤ 9) :=
        (ea_consP (Pa := fun v => v = .ref ra) (ev_var rfl) (ea_consP (Pa := fun v => v = .ref sp) (ev_var rfl) (ea_consP (Pr := fun ws => ws = []) hixL ea_nil))).imp fun vs H1 _ ⟨x, ws, e1, ex, y, ws', e2, ey, u, ws'', e3, ⟨m', hm'⟩, e4⟩ => by
          subst e1 ex e2 ey e3 e4
          match m', hm' with
          | 0, h => cases h; exact ⟨2, rfl, by decide, by decide⟩
          | 1, h => cases h; exact ⟨3, rfl, by decide, by decide⟩
          | 2, h => cases h; exact ⟨9, rfl, by decide, by decide⟩
      have hval := ev_opP (r := rAddU K) (R := fun v _ => ∃ c : Int, v = .int c ∧ 1 ≤ c ∧ c ≤ 9) (Pa := fun v => v = .int 1) (Pb := Below 9) (ev_c (v := .int 1)) (ev_callR (sp := sp__law_take K) (E := E0) (R := fun v _ => Below 9 v) hargs fun vs H1 e ⟨l, evs, l0, l9⟩ => by
        subst evs
        exact fun H2 e2 Q q E => ⟨ra, sp, l, rfl, (dr7.sp (e.trans e2)), l0, fun n H' h0 h1 e => q _ H' e ⟨n, rfl, h0, by omega⟩⟩) (fun x y ex ⟨l, ey, l0, l9⟩ => by
        subst ex ey
        exact fun H2 e2 Q q => .inl ⟨1, l, rfl, rfl, q _ H2 .rfl ⟨1 + l, rfl, by omega, by omega⟩⟩)
      refine hval H7 .rfl _ fun v H8 e8 ⟨c, ev, c1, c9⟩ => ?_
      subst ev
      refine ev_var (ρ := spR sp) (v := .ref D) rfl H8 .rfl _ fun o H9 e9 eo => ?_
      subst eo
      refine (ev_tup (ρ := spR sp) (ea_cons (ev_var (v := .str s) rfl) (ea_cons (ev_var (v := .str t) rfl) ea_nil)) (fun vs H1 _ e => by rw [e]; show 2 ≤ 100000; decide)) H9 .rfl _ fun u H10 e10 ⟨b, ws, Hx, eu, ews, hb0, rx, eH⟩ => ?_
      subst eu ews
      have e010 := e07.trans (e8.trans (e9.trans e10))
      have hD10 : H10 D = some (.dT kvs) := e010.keep _ _ nD hDk
      have hb10 : H10 b = some (.tup (([.inr s, .inr t] : List Key).map kV)) := by rw [eH]; exact upd_same
      refine .inr ⟨D, _, rfl, DPut.t (k := [.inr s, .inr t]) hD10 hb10 (Evl.sz_lt (by omega)), hD' _ _ ⟨(r.trans (and_of e010)).trans (r_chgT hD10 nD), putK kvs [.inr s, .inr t] (.int c), _, _, _, _, rfl, upd_same, ?_, ?_⟩⟩
      · have := length_putK kvs [.inr s, .inr t] (.int c)
        omega
      · intro p hp
        rcases put_mem hp with h | rfl
        · exact hent p h
        · exact ⟨s, t, c, rfl, piece_of oks.1 oks.2, piece_of okt.1 okt.2, hst, c1, c9⟩
    refine q_if (ρ := spR sp) (et_test (ev_eqI (ev_var rfl) ev_c)) (fun hb H6 e6 => s_asgV (ρ := spR sp) ev_c fun H7 e7 => fin _ (fun _ _ h => h) "" t H7 (e6.trans e7) okp_nil okt) (fun hb H6 e6 => ?_)
    refine s_if (ρ := spR sp) (et_test (ev_eqI (ev_var rfl) ev_c)) (fun hb H7 e7 => s_asgV (ρ := spR sp) ev_c fun H8 e8 => fin _ (fun _ _ h => h) s "" H8 (e6.trans (e7.trans e8)) oks okp_nil) (fun hb H7 e7 => ?_)
    refine s_if (ρ := spR sp) (et_and (et_test (ev_eqI (ev_var rfl) ev_c)) fun _ => et_test (ev_eqI (ev_lenS (ev_var rfl) (by have := oks.1; omega)) ev_c)) (fun hb H8 e8 => ?_) (fun hb H8 e8 => fin _ (fun _ _ h => h) s t H8 (e6.trans (e7.trans e8)) oks okt)
    have hs2' : s.length = 2 := by
      have hb' : m = 2 ∧ (s.length : Int) = 2 := by simpa using hb
      omega
    obtain ⟨c0, c1, hcs⟩ := two_str hs2'
    refine s_asgV (ρ := spR sp) (ev_addS (ev_ixS (c := c1) (ev_var rfl) ev_c (by omega) (atI_nat (xs := s.cps.toList) (j := 1) (by rw [hcs]; rfl))) (ev_ixS (c := c0) (ev_var rfl) ev_c (by omega) (atI_nat (xs := s.cps.toList) (j := 0) (by rw [hcs]; rfl))) (by show 1 + 1 ≤ 100000; decide)) fun H9 e9 => fin _ (fun _ _ h => h) s _ H9 (e6.trans (e7.trans (e8.trans e9))) oks ⟨Nat.le_refl 2, ?_⟩
    intro c hc
    rw [app_cps] at hc
    have hc' : c = c1 ∨ c = c0 := by simpa using hc
    rcases hc' with rfl | rfl
    · exact oks.2 _ (by rw [hcs]; exact List.mem_cons_of_mem _ (List.mem_cons_self ..))
    · exact oks.2 _ (by rw [hcs]; exact List.mem_cons_self ..)
  · rintro σ' H' ⟨r, kvs, kv, kd, on, ot, rfl, hDk, hlen, hent⟩
    have rH : (spR sp).r H H' := r_and (e1.trans e2) hD0 r
    have ownH := own.r rH
    have h8 : kvs.length ≤ 8 := by omega
    have hlc := ev_lcx (ρ := spR sp) (wi := iSeq K (tCB (rSortU K) (tCons (tVar 4) tNil))) (σ := [some (.ref ra), some (.ref sp), some (.int many), some (.str z), some (.ref D), kv, kd, on, ot]) (H := H') (g := gName 7) (tt := tYes) (te := tOp (rAddU K) (tVar 7) (tTup (tCons (tIxU K (tVar 4) (tVar 7)) tNil))) (vs := [7])
      (R := fun u H2 => ∃ p xs ds, u = .ref p ∧ ¬ (spR sp).S p ∧ H2 p = some (.lst xs) ∧ DSs (spR sp) H2 xs ds ∧ (noLists ds = true ∧ isTableD (.tuple ds) = true)) (eix_sortT ownH (ev_var rfl) (fun H1 e => e.keep _ _ nD hDk) (by omega) (ent_alike hent) (ent_nonempty hent)) fun n' Y' H3 J ⟨ys, hp, hnd, hpw, hn', hY'⟩ e3 hI => ?_
    · refine s_ret (ρ := spR sp) (ev_tupOf (ρf := spR sp) (C := fun ds => noLists ds = true ∧ isTableD (.tuple ds) = true) Le.rfl hlc) fun v H3 e3 ⟨ds, hC, hv⟩ => k v ds H3 (rH.trans e3) hv hC.1 hC.2
    · subst hn' hY'
      have hl : ys.length = kvs.length := by
        have := hp.length_eq
        rwa [List.length_map, List.length_map] at this
      refine (ev_lcD (dd := fun i => match ys[i]? with | some b => entD kvs b.1 | none => .none) (ownH.r e3) (by omega) hI (fun x => rfl) (fun i H2 x H3 y => y.1) ?_).imp ?_
      · rintro D' H4 e4 hD' i x H5 H6 hi r5 oD ⟨e6, b, hb, rfl, hk⟩
        obtain ⟨s, t, c, k1, k2, k3, _⟩ := ent_at hent (hp.mem_iff.mp (List.mem_map.mpr ⟨b, List.mem_of_getElem? hb, rfl⟩))
        rw [hb]
        show Ev (spR sp) _ _ H5 (fun y H4 => DS ((spR sp).and D') H4 y (entD kvs b.1))
        rw [k3]
        rw [k1] at hk k2
        have hD5 : H5 D = some (.dT kvs) := (e3.trans (e4.trans r5)).keep _ _ nD hDk
        refine ev_op2 (Ra := fun v _ => v = .ref b.2) (Rb := fun v H7 => ∃ q, v = .ref q ∧ H7 q = some (.tup [.int c])) (ev_var rfl) (fun x H7 e7 ex => ?_) (fun x y H7 H8 e7 e8 ex ⟨q, ey, hq⟩ => ?_)
        · refine (ev_tup (Rr := fun vs _ => vs = [.int c]) ((ea_one (Ra := fun v _ => v = .int c) ?_).imp fun vs H8 e8 ⟨u, e9, e10⟩ => by rw [e9, e10]) fun vs H8 _ e => by rw [e]; show 1 ≤ 100000; decide).imp fun v H8 e8 ⟨p, vs, H9, ev, evs, hp9, r9, eH⟩ => ⟨p, ev, by rw [eH, evs]; exact upd_same⟩
          intro H8 e8 Q' q'
          refine .inr (ev_var (ρ := spR sp) (v := .ref D) rfl H8 .rfl _ fun o H9 e9 eo => ?_)
          subst eo
          refine ev_var (ρ := spR sp) (v := .ref b.2) rfl H9 .rfl _ fun o H10 e10 eo => ?_
          subst eo
          have e510 := e7.trans (e8.trans (e9.trans e10))
          refine ⟨D, .int c, rfl, ?_, q' _ H10 (e9.trans e10) rfl⟩
          rw [← k2]
          exact DGet.t (e510.keep _ _ nD hD5) (e510.tup _ _ hk)
        · subst ex ey
          intro H9 e9 Q' q'
          have hb9 := (e7.trans (e8.trans e9)).tup _ _ hk
          have hq9 := e9.tup _ _ hq
          refine .inr (.inr (.inl ⟨b.2, q, _, _, rfl, rfl, .inl (.inl hb9), .inl (.inl hq9), by show 3 ≤ sizeLine; decide, fun z => (by cases z), fun _ z => (by cases z), fun _ _ p hp => q' _ _ (r_new _ hp) (.tup upd_same (.cons (.str s) (.cons (.str t) (.cons (.int c) .nil))))⟩))
      · rintro u H4 e4 ⟨p, xs, rfl, nS, hp0, hx, hds⟩
        have em : (List.range ys.length).map (fun i => match ys[i]? with | some b => entD kvs b.1 | none => .none) = ys.map fun b => entD kvs b.1 := by
          refine List.ext_getElem? fun i => ?_
          rw [List.getElem?_map, List.getElem?_map]
          by_cases hi : i < ys.length
          · rw [List.getElem?_range hi, List.getElem?_eq_getElem hi]
            show some (match ys[i]? with | some b => entD kvs b.1 | none => .none) = some (entD kvs ys[i].1)
            rw [List.getElem?_eq_getElem hi]
          · rw [List.getElem?_eq_none_iff.mpr (by rw [List.length_range]; omega), List.getElem?_eq_none_iff.mpr (by omega)] <;> rfl
        rw [em] at hds
        refine ⟨p, xs, _, rfl, nS, hx, hds, noLists_map fun b hb => ?_, table_of hent hp hnd hpw h8⟩
        obtain ⟨s, t, c, _, _, k3, _⟩ := ent_at hent (hp.mem_iff.mp (List.mem_map.mpr ⟨b, hb, rfl⟩))
        rw [k3]
        rfl
end Slip
/-! a changed table -/
namespace Slip
open PySem PySem.Spec PyProof.Rows L2
/- texts, numbers, tuples of these; none is long -/
mutual
def plainT : PyData → Bool
  | .str s => decide (s.length ≤ 300)
  | .int _ => true
  | .tuple ds => decide (ds.length ≤ 300) && plainTs ds
  | _ => false
def plainTs : List PyData → Bool
  | [] => true
  | d :: ds => plainT d && plainTs ds
end
theorem plainTs_mem : ∀ {ds : List PyData} {d : PyData}, plainTs ds = true → d ∈ ds → plainT d = true
  | e :: ds, d, h, hm => by
    have h' : plainT e = true ∧ plainTs ds = true := by simpa [plainTs] using h
    rcases List.mem_cons.mp hm with rfl | hm
    · exact h'.1
    · exact plainTs_mem h'.2 hm
mutual
theorem plain_nl : ∀ d : PyData, plainT d = true → noList d = true
  | .str _, _ => rfl
  | .int _, _ => rfl
  | .tuple ds, h => by
    have h' : ds.length ≤ 300 ∧ plainTs ds = true := by simpa [plainT] using h
    exact plains_nl ds h'.2
  | .none, h => by cases h
  | .bool _, h => by cases h
  | .list _, h => by cases h
  | .dict _, h => by cases h
theorem plains_nl : ∀ ds : List PyData, plainTs ds = true → noLists ds = true
  | [], _ => rfl
  | d :: ds, h => by
    have h' : plainT d = true ∧ plainTs ds = true := by simpa [plainTs] using h
    show (noList d && noLists ds) = true
    rw [plain_nl d h'.1, plains_nl ds h'.2]
    rfl
end
mutual
theorem plain_sm : ∀ d : PyData, plainT d = true → sm d = true
  | .str s, h => by
    have h' : s.length ≤ 300 := by simpa [plainT] using h
    exact decide_eq_true (by omega)
  | .int _, _ => rfl
  | .tuple ds, h => by
    have h' : ds.length ≤ 300 ∧ plainTs ds = true := by simpa [plainT] using h
    show (decide (ds.length ≤ 1000) && smAll ds) = true
    rw [decide_eq_true (by omega), plains_sm ds h'.2]
    rfl
  | .none, h => by cases h
  | .bool _, h => by cases h
  | .list _, h => by cases h
  | .dict _, h => by cases h
theorem plains_sm : ∀ ds : List PyData, plainTs ds = true → smAll ds = true
  | [], _ => rfl
  | d :: ds, h => by
    have h' : plainT d = true ∧ plainTs ds = true := by simpa [plainTs] using h
    show (sm d && smAll ds) = true
    rw [plain_sm d h'.1, plains_sm ds h'.2]
    rfl
end
/-- no list within, none long, depth bounded -/
structure Fine (L D : Nat) (ds : List PyData) : Prop where
  all : ∀ d ∈ ds, noList d = true ∧ sm d = true ∧ d.depth ≤ D
  len : ds.length ≤ L
abbrev Good (D : Nat) (d : PyData) : Prop := noList d = true ∧ sm d = true ∧ d.depth ≤ D
theorem depth_all {D : Nat} : ∀ {ds : List PyData}, (∀ d ∈ ds, d.depth ≤ D) → PyData.depthAll ds ≤ D
  | [], _ => Nat.zero_le _
  | d :: ds, h => by
    show max d.depth (PyData.depthAll ds) ≤ D
    exact Nat.max_le.mpr ⟨h d (List.mem_cons_self ..), depth_all fun e he => h e (List.mem_cons_of_mem _ he)⟩
theorem noLists_of : ∀ {ds : List PyData}, (∀ d ∈ ds, noList d = true) → noLists ds = true
  | [], _ => rfl
  | d :: ds, h => by
    show (noList d && noLists ds) = true
    rw [h d (List.mem_cons_self ..), noLists_of fun e he => h e (List.mem_cons_of_mem _ he)]
    rfl
theorem Fine.good {L D : Nat} {ds : List PyData} (h : Fine L D ds) (hl : L ≤ 1000) : Good (D + 1) (.tuple ds) := by
  refine ⟨noLists_of fun d hd => (h.all d hd).1, ?_, ?_⟩
  · show (decide (ds.length ≤ 1000) && smAll ds) = true
    rw [decide_eq_true (Nat.le_trans h.len hl), smAll_of fun d hd => (h.all d hd).2.1]
    rfl
  · show PyData.depthAll ds + 1 ≤ D + 1
    exact Nat.succ_le_succ (depth_all fun d hd => (h.all d hd).2.2)
theorem Fine.append {L M D : Nat} {ds es : List PyData} (h : Fine L D ds) (g : Fine M D es) : Fine (L + M) D (ds ++ es) :=
  ⟨fun d hd => (List.mem_append.mp hd).elim (h.all d) (g.all d), by rw [List.length_append]; have := h.len; have := g.len; omega⟩
theorem cut_mem {ds : List PyData} {lo hi : Option Int} {d : PyData} (h : d ∈ cutD ds lo hi) : d ∈ ds := List.mem_of_mem_drop (List.mem_of_mem_take h)
theorem cut_len (ds : List PyData) (lo hi : Option Int) : (cutD ds lo hi).length ≤ ds.length := by
  unfold cutD
  rw [List.length_take, List.length_drop]
  omega
theorem Fine.cut {L D : Nat} {ds : List PyData} (h : Fine L D ds) (lo hi : Option Int) : Fine L D (cutD ds lo hi) := ⟨fun d hd => h.all d (cut_mem hd), Nat.le_trans (cut_len _ _ _) h.len⟩
theorem fine_plain {ds : List PyData} (h : plainT (.tuple ds) = true) : Fine 300 (PyData.depthAll ds) ds := by
  have h' : ds.length ≤ 300 ∧ plainTs ds = true := by simpa [plainT] using h
  exact ⟨fun d hd => ⟨plain_nl d (plainTs_mem h'.2 hd), plain_sm d (plainTs_mem h'.2 hd), depth_mem hd⟩, h'.1⟩
theorem Fine.up {L D D' : Nat} {ds : List PyData} (h : Fine L D ds) (l : D ≤ D') : Fine L D' ds := ⟨fun d hd => ⟨(h.all d hd).1, (h.all d hd).2.1, Nat.le_trans (h.all d hd).2.2 l⟩, h.len⟩
/-! ### rules -/
/-- a test whose answer is not known, but b tells C b -/
def EvTC (ρ : Rl) (tt : TT) (σ : L2.St) (H : Hp) (C : Bool → Prop) : Prop := ∀ H1, ρ.r H H1 → ∀ Q : Bool → Hp → Prop, (∀ b H2, ρ.r H1 H2 → C b → Q b H2) → tt σ H1 Q
section
variable {ρ : Rl} {K : Frag} {σ : L2.St} {H : Hp} {ta tb te : TE} {t u : TT} {tu tw tz : TS} {D : Ends} {C : Bool → Prop} {C1 C2 : List PyData → Prop} {P : V → Hp → Prop} {n : Nat} {tr : TA}
theorem q_whenC (h : EvTC ρ t σ H C) (h1 : C true → ∀ H1, ρ.r H H1 → tu { D with nx := tz D } σ H1) (h2 : C false → ∀ H1, ρ.r H H1 → tz D σ H1) : tSeq (tIfS t tu tNext) tz D σ H := h H .rfl _ fun b H1 e c => by
  cases b with
  | true => exact h1 c H1 e
  | false => exact h2 c H1 e
theorem etc_test (h : Ev ρ te σ H (fun v _ => ∃ b, v = .bl b ∧ C b)) : EvTC ρ (tTest te) σ H C := fun H1 e Q q => h H1 e _ fun v H2 e2 ⟨b, ev, c⟩ => ⟨b, ev, q b H2 e2 c⟩
theorem etc_and (h1 : EvT ρ t σ H true) (h2 : EvTC ρ u σ H C) : EvTC ρ (tAnd t u) σ H C := fun H1 e Q q => h1 H1 e _ fun H2 e2 => show u σ H2 Q from h2 H2 (e.trans e2) Q fun b H3 e3 c => q b H3 (e2.trans e3) c
/-- t + u of tuples -/
theorem ev_catD (h1 : Ev ρ ta σ H (fun v H' => ∃ ds, C1 ds ∧ DS ρ H' v (.tuple ds))) (h2 : ∀ H1, ρ.r H H1 → Ev ρ tb σ H1 (fun v H' => ∃ ds, C2 ds ∧ DS ρ H' v (.tuple ds))) (hl : ∀ ds es, C1 ds → C2 es → ds.length + es.length ≤ 100000) :
    Ev ρ (tOp (rAddU K) ta tb) σ H (fun v H' => ∃ ds, (∃ d1 d2, C1 d1 ∧ C2 d2 ∧ ds = d1 ++ d2) ∧ DS ρ H' v (.tuple ds)) :=
  ev_op2 h1 (fun x H1 e1 _ => h2 H1 e1) fun x y H1 H2 e1 e2 ⟨ds, c1, hx⟩ ⟨es, c2, hy⟩ => by
    obtain ⟨a, xs, rfl, hxs, ha, _⟩ := (e2.ds hx).tupl
    obtain ⟨b, ys, rfl, hys, hb, _⟩ := hy.tupl
    intro H3 e3 Q q
    have ga := e3.tup _ _ ha
    have gb := e3.tup _ _ hb
    have dx := e3.dss hxs
    have dy := e3.dss hys
    have lx := dx.length
    have ly := dy.length
    have ll := hl ds es c1 c2
    refine .inr (.inr (.inl ⟨a, b, xs, ys, rfl, rfl, .inl (.inl ga), .inl (.inl gb), Evl.sz_of (by omega), fun z => ?_, fun _ z => ?_, fun _ _ p hp => ?_⟩))
    · subst z
      have : ds = [] := List.eq_nil_of_length_eq_zero lx.symm
      subst this
      exact q _ H3 .rfl ⟨es, ⟨[], es, c1, c2, rfl⟩, .tup gb dy⟩
    · subst z
      have : es = [] := List.eq_nil_of_length_eq_zero ly.symm
      subst this
      exact q _ H3 .rfl ⟨ds, ⟨ds, [], c1, c2, (List.append_nil _).symm⟩, .tup ga dx⟩
    · exact q _ _ (r_new _ hp) ⟨ds ++ es, ⟨ds, es, c1, c2, rfl⟩, .tup upd_same ((r_new (ρ := ρ) _ hp).dss (dx.append dy))⟩
theorem ea_nilP : EvA ρ tNil σ H (fun vs H' => vs.length = 0 ∧ ∀ x ∈ vs, P x H') := fun H1 _ _ q => q [] H1 .rfl ⟨rfl, fun x hx => nomatch hx⟩
theorem ea_consQ (hP : ∀ v H1 H2, ρ.r H1 H2 → P v H1 → P v H2) (h : Ev ρ ta σ H P) (hr : ∀ H1, ρ.r H H1 → EvA ρ tr σ H1 (fun vs H' => vs.length = n ∧ ∀ x ∈ vs, P x H')) : EvA ρ (tCons ta tr) σ H (fun vs H' => vs.length = n + 1 ∧ ∀ x ∈ vs, P x H') := fun H1 e _ q =>
  h H1 e _ fun x H2 e2 px => hr H2 (e.trans e2) H2 .rfl _ fun ws H3 e3 ⟨hl, pw⟩ => q _ H3 (e2.trans e3) ⟨congrArg Nat.succ hl, fun y hy => (List.mem_cons.mp hy).elim (fun z => z ▸ hP _ _ _ e3 px) (pw y)⟩
/-- one of a display -/
theorem ev_pick {ts : TA} {N : Int} (own : Own ρ H) (hP : ∀ v H1 H2, ρ.r H1 H2 → P v H1 → P v H2) (h : EvA ρ ts σ H (fun vs H' => vs.length = n ∧ ∀ x ∈ vs, P x H')) (hn : n ≤ 1000) (hN : N = (n : Int)) (h2 : ∀ H1, ρ.r H H1 → Ev ρ tb σ H1 (fun v _ => Below N v)) : Ev ρ (tIxU K (tLst ts) tb) σ H P :=
  fun H1 e1 Q q => .inl (ev_lst h (fun vs _ _ c => by rw [c.1]; omega) H1 e1 _ fun v H2 e2 ⟨p, vs, H3, ev, ⟨hl, hp⟩, hnew, r3, eH⟩ => h2 H2 (e1.trans e2) H2 .rfl _ fun w H4 e4 ⟨m, ew, h0, hm⟩ => by
    subst ev ew
    have hm' : m.toNat < vs.length := by omega
    have g : vs[m.toNat]? = some vs[m.toNat] := List.getElem?_eq_getElem hm'
    have g2 : atI vs m = some vs[m.toNat] := by
      have := atI_nat g
      rwa [show ((m.toNat : Nat) : Int) = m by omega] at this
    have nS : ¬ ρ.S p := (own.r r3).fresh hnew
    have hp2 : H2 p = some (.lst vs) := by rw [eH]; exact upd_same
    exact .inl ⟨p, vs, m, _, rfl, rfl, .of (e4.keep _ _ nS hp2), g2, q _ H4 (e2.trans e4) (hP _ _ _ ((eH ▸ r_new (ρ := ρ) _ hnew : ρ.r H3 H2).trans e4) (hp _ (List.getElem_mem hm')))⟩)
end
def sp__law_table_changed (K : Frag) (n : Nat) : Sp := fun vs H Q _ => ∃ (ra sp : Addr) (v : V) (d : PyData), vs = [.ref ra, .ref sp, v] ∧ Dr K ra sp H ∧ DS (spR sp) H v d ∧ plainT d = true ∧ d.depth < n ∧ ∀ v' d' H', (spR sp).r H H' → DS (spR sp) H' v' d' → Good (d.depth + 1) d' → Q v' H'
theorem len__law_table_changed {K : Frag} {n : Nat} {vs : List V} {H : Hp} {Q : VK} {E : XK} (h : sp__law_table_changed K n vs H Q E) : vs.length = 3 := by
  obtain ⟨ra, sp, v, d, rfl, _⟩ := h
  rfl
def t__law_table_changed (K : Frag) (n : Nat) : TS := (tSeq (tIfS (tAnd (tB (tCB (rIsiU K) (tCons (tVar 2) (tCons (tC (.ty "tuple")) tNil)))) (tAnd (tTest (tOp (rCmp K gGt) (tCB (rLenU K) (tCons (tVar 2) tNil)) (tC (.int 0)))) (tTest (tOp (rCmp K gGt) (tCall (sp__law_take K) [] E0 (tCons (tVar 0) (tCons (tVar 1) (tCons (tC (.int 6)) tNil)))) (tC (.int 0)))))) (tSeq (tAsg (tCall (sp__law_take K) [] E0 (tCons (tVar 0) (tCons (tVar 1) (tCons (tCB (rLenU K) (tCons (tVar 2) tNil)) tNil)))) (gName 3)) (tRet (tOp (rAddU K) (tOp (rAddU K) (tSl (rSlU K) (tVar 2) tNoPart (tPart (tVar 3))) (tTup (tCons (tCall (sp__law_table_changed K n) [] E0 (tCons (tVar 0) (tCons (tVar 1) (tCons (tIxU K (tVar 2) (tVar 3)) tNil)))) tNil))) (tSl (rSlU K) (tVar 2) (tPart (tOp (rAddU K) (tVar 3) (tC (.int 1)))) tNoPart)))) tNext) (tSeq (tAsg (tCall (sp__law_take K) [] E0 (tCons (tVar 0) (tCons (tVar 1) (tCons (tC (.int 4)) tNil)))) (gName 4)) (tSeq (tIfS (tAnd (tB (tCB (rIsiU K) (tCons (tVar 2) (tCons (tC (.ty "tuple")) tNil)))) (tAnd (tTest (tOp (rEqU K) (tVar 4) (tC (.int 0)))) (tTest (tOp (rCmp K gGt) (tCB (rLenU K) (tCons (tVar 2) tNil)) (tC (.int 0)))))) (tRet (tOp (rAddU K) (tVar 2) (tSl (rSlU K) (tVar 2) tNoPart (tPart (tC (.int 1)))))) tNext) (tSeq (tIfS (tAnd (tB (tCB (rIsiU K) (tCons (tVar 2) (tCons (tC (.ty "tuple")) tNil)))) (tAnd (tTest (tOp (rEqU K) (tVar 4) (tC (.int 1)))) (tTest (tOp (rCmp K gGt) (tCB (rLenU K) (tCons (tVar 2) tNil)) (tC (.int 0)))))) (tRet (tSl (rSlU K) (tVar 2) (tPart (tC (.int 1))) tNoPart)) tNext) (tSeq (tIfS (tAnd (tB (tCB (rIsiU K) (tCons (tVar 2) (tCons (tC (.ty "tuple")) tNil)))) (tAnd (tTest (tOp (rEqU K) (tVar 4) (tC (.int 2)))) (tTest (tOp (rCmp K gGt) (tCB (rLenU K) (tCons (tVar 2) tNil)) (tC (.int 1)))))) (tRet (tOp (rAddU K) (tSl (rSlU K) (tVar 2) (tPart (tC (.int 1))) tNoPart) (tSl (rSlU K) (tVar 2) tNoPart (tPart (tC (.int 1)))))) tNext) (tSeq (tIfS (tAnd (tB (tCB (rIsiU K) (tCons (tVar 2) (tCons (tC (.ty "str")) tNil)))) (tTest (tOp (rCmp K gLt) (tVar 4) (tC (.int 3))))) (tRet (tIxU K (tLst (tCons (tC (.str "")) (tCons (tC (.str "ab")) (tCons (tC (.str "abc")) (tCons (tC (.str "g")) (tCons (tC (.str "fa")) (tCons (tOp (rAddU K) (tVar 2) (tC (.str "a"))) (tCons (tC (.str "A")) (tCons (tOp (rAddU K) (tVar 2) (tC (.str "\n"))) tNil))))))))) (tCall (sp__law_take K) [] E0 (tCons (tVar 0) (tCons (tVar 1) (tCons (tC (.int 8)) tNil)))))) tNext) (tSeq (tIfS (tAnd (tB (tCB (rIsiU K) (tCons (tVar 2) (tCons (tC (.ty "int")) tNil)))) (tTest (tOp (rCmp K gLt) (tVar 4) (tC (.int 3))))) (tRet (tIxU K (tLst (tCons (tC (.int 0)) (tCons (tC (.int 9)) (tCons (tC (.int 10)) (tCons (tOp (rAddU K) (tVar 2) (tC (.int 1))) (tCons (tC .non) (tCons (tC (.bl true)) tNil))))))) (tCall (sp__law_take K) [] E0 (tCons (tVar 0) (tCons (tVar 1) (tCons (tC (.int 6)) tNil)))))) tNext) (tRet (tIxU K (tLst (tCons (tC .non) (tCons (tC (.int 7)) (tCons (tC (.bl true)) (tCons (tC (.str "")) (tCons (tTup tNil) (tCons (tTup (tCons (tC (.str "a")) (tCons (tC (.str "b")) (tCons (tC (.int 1)) tNil)))) (tCons (tC (.str "a")) tNil)))))))) (tCall (sp__law_take K) [] E0 (tCons (tVar 0) (tCons (tVar 1) (tCons (tC (.int 7)) tNil)))))))))))))
/-- a good datum -/
abbrev GoodV (sp : Addr) (D : Nat) : V → Hp → Prop := fun v H => ∃ d, DS (spR sp) H v d ∧ Good D d
theorem goodV_r {sp : Addr} {D : Nat} (v : V) (H1 H2 : Hp) (e : (spR sp).r H1 H2) : GoodV sp D v H1 → GoodV sp D v H2 := fun ⟨d, h, g⟩ => ⟨d, e.ds h, g⟩
section
variable {K : Frag} {σ : L2.St} {H : Hp} {sp : Addr} {D : Nat}
theorem gv_c {v : V} {d : PyData} (hd : ∀ H', DS (spR sp) H' v d) (g : Good D d) : Ev (spR sp) (tC v) σ H (GoodV sp D) := (ev_c (v := v)).imp fun v' H1 _ e => by rw [e]; exact ⟨d, hd H1, g⟩
theorem gv_v {te : TE} {v : V} {d : PyData} (h : EvV (spR sp) te σ H v) (hd : ∀ H', DS (spR sp) H' v d) (g : Good D d) : Ev (spR sp) te σ H (GoodV sp D) := h.imp fun v' H1 _ e => by rw [e]; exact ⟨d, hd H1, g⟩
theorem gv_unit : Ev (spR sp) (tTup tNil) σ H (GoodV sp (D + 1)) := (ev_tup ea_nil fun vs H1 _ e => by rw [e]; show 0 ≤ 100000; decide).imp fun v H1 _ ⟨p, vs, H2, ev, evs, hp, r, eH⟩ => by
  subst ev evs
  exact ⟨.tuple [], .tup (by rw [eH]; exact upd_same) .nil, rfl, rfl, by show 0 + 1 ≤ D + 1; omega⟩
theorem gv_triple : Ev (spR sp) (tTup (tCons (tC (.str "a")) (tCons (tC (.str "b")) (tCons (tC (.int 1)) tNil)))) σ H (GoodV sp (D + 1)) := (ev_tripleD Le.rfl ev_c ev_c ev_c (.str "a") (.str "b") (.int 1)).imp fun v H1 _ h => ⟨_, h, rfl, by decide +kernel, by show 0 + 1 ≤ D + 1; omega⟩
end
theorem good_str {D : Nat} {s : Str} (h : s.length ≤ 1000) : Good D (.str s) := ⟨rfl, decide_eq_true h, Nat.zero_le _⟩
theorem good_int {D : Nat} {i : Int} : Good D (.int i) := ⟨rfl, rfl, Nat.zero_le _⟩
theorem good_bool {D : Nat} {i : Bool} : Good D (.bool i) := ⟨rfl, rfl, Nat.zero_le _⟩
theorem good_none {D : Nat} : Good D .none := ⟨rfl, rfl, Nat.zero_le _⟩
theorem pure__law_table_changed {K : Frag} {n : Nat} (vs : List V) (H : Hp) (Q : VK) (E : XK) (h : sp__law_table_changed K (n + 1) vs H Q E) : t__law_table_changed K n { nx := fun _ H' => Q .non H', rt := Q } (start ["row", "spot", "value", "at", "kind"] vs) H := by
  obtain ⟨ra, sp, v, d, rfl, dr, hd, hp, dp, k⟩ := h
  have hnl := plain_nl d hp
  have hds : ∀ H', (spR sp).r H H' → DS (spR sp) H' v d := fun H' e => e.ds hd
  -- what is left, after the kind is drawn
  have last : ∀ (σ : L2.St) (D : Ends) H1, D.rt = Q → σ[0]? = some (some (.ref ra)) → σ[1]? = some (some (.ref sp)) → (spR sp).r H H1 → tRet (tIxU K (tLst (tCons (tC .non) (tCons (tC (.int 7)) (tCons (tC (.bl true)) (tCons (tC (.str "")) (tCons (tTup tNil) (tCons (tTup (tCons (tC (.str "a")) (tCons (tC (.str "b")) (tCons (tC (.int 1)) tNil)))) (tCons (tC (.str "a")) tNil)))))))) (tCall (sp__law_take K) [] E0 (tCons (tVar 0) (tCons (tVar 1) (tCons (tC (.int 7)) tNil))))) D σ H1 := by
    intro σ D H1 hD h0 h1 e1
    have dr1 := dr.sp e1
    refine s_ret (ρ := spR sp) (ev_pick (P := GoodV sp (d.depth + 1)) (n := 7) (N := 7) (own_sp dr1) goodV_r ?_ (by decide) rfl fun H2 e2 => ev_take (ev_var h0) (ev_var h1) ev_c (dr1.sp e2) (by decide)) fun v' H2 e2 ⟨d', h, g⟩ => by rw [hD]; exact k v' d' H2 (e1.trans e2) h g
    refine ea_consQ goodV_r (gv_c (fun _ => .non) good_none) fun _ _ => ea_consQ goodV_r (gv_c (fun _ => .int 7) good_int) fun _ _ => ea_consQ goodV_r (gv_c (fun _ => .bl true) good_bool) fun _ _ => ea_consQ goodV_r (gv_c (fun _ => .str "") (good_str (by decide +kernel))) fun _ _ => ea_consQ goodV_r gv_unit fun _ _ => ea_consQ goodV_r gv_triple fun _ _ => ea_consQ goodV_r (gv_c (fun _ => .str "a") (good_str (by decide +kernel))) fun _ _ => ea_nilP
  cases d with
  | none => cases hp
  | bool b => cases hp
  | list ds => cases hp
  | dict ds => cases hp
  | str s =>
    have hs : s.length ≤ 300 := by simpa [plainT] using hp
    cases hd
    refine q_when (ρ := spR sp) (b := false) ((et_and (b := true) (et_B (ev_isi (ev_var rfl) (.str s) rfl)) fun h => by cases h).to rfl) (fun hb => by cases hb) fun _ H1 e1 => ?_
    refine q_asg (ρ := spR sp) (ev_take (ev_var rfl) (ev_var rfl) ev_c (dr.sp e1) (by decide)) fun v1 H2 e2 ⟨m, ev, _, _⟩ => ?_
    subst ev
    have e12 := e1.trans e2
    refine q_when (ρ := spR sp) (b := false) ((et_and (b := true) (et_B (ev_isi (ev_var rfl) (.str s) rfl)) fun h => by cases h).to rfl) (fun hb => by cases hb) fun _ H3 e3 => ?_
    refine q_when (ρ := spR sp) (b := false) ((et_and (b := true) (et_B (ev_isi (ev_var rfl) (.str s) rfl)) fun h => by cases h).to rfl) (fun hb => by cases hb) fun _ H4 e4 => ?_
    refine q_when (ρ := spR sp) (b := false) ((et_and (b := true) (et_B (ev_isi (ev_var rfl) (.str s) rfl)) fun h => by cases h).to rfl) (fun hb => by cases hb) fun _ H5 e5 => ?_
    have e15 := e12.trans (e3.trans (e4.trans e5))
    refine q_when (ρ := spR sp) (et_and (et_B (ev_isi (ev_var rfl) (.str s) rfl)) fun _ => et_test (ev_lt (ev_var rfl) ev_c)) (fun hb H6 e6 => ?_) fun _ H6 e6 => ?_
    · have e16 := e15.trans e6
      have dr6 := dr.sp e16
      refine s_ret (ρ := spR sp) (ev_pick (P := GoodV sp ((PyData.str s).depth + 1)) (n := 8) (N := 8) (own_sp dr6) goodV_r ?_ (by decide) rfl fun H2 e2 => ev_take (ev_var rfl) (ev_var rfl) ev_c (dr6.sp e2) (by decide)) fun v' H2 e2 ⟨d', h, g⟩ => k v' d' H2 (e16.trans e2) h g
      have one : ∀ x : Str, x.length = 1 → (s ++ x).length ≤ 1000 := fun x hx => by rw [app_len]; omega
      exact ea_consQ goodV_r (gv_c (fun _ => .str _) (good_str (by decide +kernel))) fun _ _ => ea_consQ goodV_r (gv_c (fun _ => .str _) (good_str (by decide +kernel))) fun _ _ => ea_consQ goodV_r (gv_c (fun _ => .str _) (good_str (by decide +kernel))) fun _ _ => ea_consQ goodV_r (gv_c (fun _ => .str _) (good_str (by decide +kernel))) fun _ _ => ea_consQ goodV_r (gv_c (fun _ => .str _) (good_str (by decide +kernel))) fun _ _ =>
        ea_consQ goodV_r (gv_v (ev_addS (ev_var rfl) ev_c (by have : ("a" : Str).length = 1 := by decide +kernel
                                                              omega)) (fun _ => .str _) (good_str (one _ (by decide +kernel)))) fun _ _ => ea_consQ goodV_r (gv_c (fun _ => .str _) (good_str (by decide +kernel))) fun _ _ =>
        ea_consQ goodV_r (gv_v (ev_addS (ev_var rfl) ev_c (by have : ("\n" : Str).length = 1 := by decide +kernel
                                                              omega)) (fun _ => .str _) (good_str (one _ (by decide +kernel)))) fun _ _ => ea_nilP
    · refine q_when (ρ := spR sp) (b := false) ((et_and (b := true) (et_B (ev_isi (ev_var rfl) (.str s) rfl)) fun h => by cases h).to rfl) (fun hb => by cases hb) fun _ H7 e7 => ?_
      exact last _ _ H7 rfl rfl rfl (e15.trans (e6.trans e7))
  | int i =>
    cases hd
    refine q_when (ρ := spR sp) (b := false) ((et_and (b := true) (et_B (ev_isi (ev_var rfl) (.int i) rfl)) fun h => by cases h).to rfl) (fun hb => by cases hb) fun _ H1 e1 => ?_
    refine q_asg (ρ := spR sp) (ev_take (ev_var rfl) (ev_var rfl) ev_c (dr.sp e1) (by decide)) fun v1 H2 e2 ⟨m, ev, _, _⟩ => ?_
    subst ev
    have e12 := e1.trans e2
    refine q_when (ρ := spR sp) (b := false) ((et_and (b := true) (et_B (ev_isi (ev_var rfl) (.int i) rfl)) fun h => by cases h).to rfl) (fun hb => by cases hb) fun _ H3 e3 => ?_
    refine q_when (ρ := spR sp) (b := false) ((et_and (b := true) (et_B (ev_isi (ev_var rfl) (.int i) rfl)) fun h => by cases h).to rfl) (fun hb => by cases hb) fun _ H4 e4 => ?_
    refine q_when (ρ := spR sp) (b := false) ((et_and (b := true) (et_B (ev_isi (ev_var rfl) (.int i) rfl)) fun h => by cases h).to rfl) (fun hb => by cases hb) fun _ H5 e5 => ?_
    have e15 := e12.trans (e3.trans (e4.trans e5))
    refine q_when (ρ := spR sp) (b := false) ((et_and (b := true) (et_B (ev_isi (ev_var rfl) (.int i) rfl)) fun h => by cases h).to rfl) (fun hb => by cases hb) fun _ H6 e6 => ?_
    refine q_when (ρ := spR sp) (et_and (et_B (ev_isi (ev_var rfl) (.int i) rfl)) fun _ => et_test (ev_lt (ev_var rfl) ev_c)) (fun hb H7 e7 => ?_) fun _ H7 e7 => ?_
    · have e17 := e15.trans (e6.trans e7)
      have dr7 := dr.sp e17
      refine s_ret (ρ := spR sp) (ev_pick (P := GoodV sp ((PyData.int i).depth + 1)) (n := 6) (N := 6) (own_sp dr7) goodV_r ?_ (by decide) rfl fun H2 e2 => ev_take (ev_var rfl) (ev_var rfl) ev_c (dr7.sp e2) (by decide)) fun v' H2 e2 ⟨d', h, g⟩ => k v' d' H2 (e17.trans e2) h g
      exact ea_consQ goodV_r (gv_c (fun _ => .int _) good_int) fun _ _ => ea_consQ goodV_r (gv_c (fun _ => .int _) good_int) fun _ _ => ea_consQ goodV_r (gv_c (fun _ => .int _) good_int) fun _ _ => ea_consQ goodV_r (gv_v (ev_add (ev_var rfl) ev_c) (fun _ => .int _) good_int) fun _ _ => ea_consQ goodV_r (gv_c (fun _ => .non) good_none) fun _ _ => ea_consQ goodV_r (gv_c (fun _ => .bl _) good_bool) fun _ _ => ea_nilP
    · exact last _ _ H7 rfl rfl rfl (e15.trans (e6.trans e7))
  | tuple ds =>
    obtain ⟨a, xs, rfl, hxs, ha, hsq⟩ := hd.tupl
    have fine := fine_plain hp
    have hpl : ds.length ≤ 300 ∧ plainTs ds = true := by simpa [plainT] using hp
    have hlen := hxs.length
    have sA : ∀ H1, (spR sp).r H H1 → SqA K H1 a xs := fun H1 e => .inr (hsq K (spR sp) H1 e)
    have ddep : (PyData.tuple ds).depth = PyData.depthAll ds + 1 := rfl
    -- behind the first question
    have rest : ∀ (σ : L2.St) (av kv : Option V) H1, σ = [some (.ref ra), some (.ref sp), some (.ref a), av, kv] → (spR sp).r H H1 → (tSeq (tAsg (tCall (sp__law_take K) [] E0 (tCons (tVar 0) (tCons (tVar 1) (tCons (tC (.int 4)) tNil)))) (gName 4)) (tSeq (tIfS (tAnd (tB (tCB (rIsiU K) (tCons (tVar 2) (tCons (tC (.ty "tuple")) tNil)))) (tAnd (tTest (tOp (rEqU K) (tVar 4) (tC (.int 0)))) (tTest (tOp (rCmp K gGt) (tCB (rLenU K) (tCons (tVar 2) tNil)) (tC (.int 0)))))) (tRet (tOp (rAddU K) (tVar 2) (tSl (rSlU K) (tVar 2) tNoPart (tPart (tC (.int 1)))))) tNext) (tSeq (tIfS (tAnd (tB (tCB (rIsiU K) (tCons (tVar 2) (tCons (tC (.ty "tuple")) tNil)))) (tAnd (tTest (tOp (rEqU K) (tVar 4) (tC (.int 1)))) (tTest (tOp (rCmp K gGt) (tCB (rLenU K) (tCons (tVar 2) tNil)) (tC (.int 0)))))) (tRet (tSl (rSlU K) (tVar 2) (tPart (tC (.int 1))) tNoPart)) tNext) (tSeq (tIfS (tAnd (tB (tCB (rIsiU K) (tCons (tVar 2) (tCons (tC (.ty "tuple")) tNil)))) (tAnd (tTest (tOp (rEqU K) (tVar 4) (tC (.int 2)))) (tTest (tOp (rCmp K gGt) (tCB (rLenU K) (tCons (tVar 2) tNil)) (tC (.int 1)))))) (tRet (tOp (rAddU K) (tSl (rSlU K) (tVar 2) (tPart (tC (.int 1))) tNoPart) (tSl (rSlU K) (tVar 2) tNoPart (tPart (tC (.int 1)))))) tNext) (tSeq (tIfS (tAnd (tB (tCB (rIsiU K) (tCons (tVar 2) (tCons (tC (.ty "str")) tNil)))) (tTest (tOp (rCmp K gLt) (tVar 4) (tC (.int 3))))) (tRet (tIxU K (tLst (tCons (tC (.str "")) (tCons (tC (.str "ab")) (tCons (tC (.str "abc")) (tCons (tC (.str "g")) (tCons (tC (.str "fa")) (tCons (tOp (rAddU K) (tVar 2) (tC (.str "a"))) (tCons (tC (.str "A")) (tCons (tOp (rAddU K) (tVar 2) (tC (.str "\n"))) tNil))))))))) (tCall (sp__law_take K) [] E0 (tCons (tVar 0) (tCons (tVar 1) (tCons (tC (.int 8)) tNil)))))) tNext) (tSeq (tIfS (tAnd (tB (tCB (rIsiU K) (tCons (tVar 2) (tCons (tC (.ty "int")) tNil)))) (tTest (tOp (rCmp K gLt) (tVar 4) (tC (.int 3))))) (tRet (tIxU K (tLst (tCons (tC (.int 0)) (tCons (tC (.int 9)) (tCons (tC (.int 10)) (tCons (tOp (rAddU K) (tVar 2) (tC (.int 1))) (tCons (tC .non) (tCons (tC (.bl true)) tNil))))))) (tCall (sp__law_take K) [] E0 (tCons (tVar 0) (tCons (tVar 1) (tCons (tC (.int 6)) tNil)))))) tNext) (tRet (tIxU K (tLst (tCons (tC .non) (tCons (tC (.int 7)) (tCons (tC (.bl true)) (tCons (tC (.str "")) (tCons (tTup tNil) (tCons (tTup (tCons (tC (.str "a")) (tCons (tC (.str "b")) (tCons (tC (.int 1)) tNil)))) (tCons (tC (.str "a")) tNil)))))))) (tCall (sp__law_take K) [] E0 (tCons (tVar 0) (tCons (tVar 1) (tCons (tC (.int 7)) tNil)))))))))))) { nx := fun _ H' => Q .non H', rt := Q } σ H1 := by
      rintro σ av kv H1 rfl e1
      refine q_asg (ρ := spR sp) (ev_take (ev_var rfl) (ev_var rfl) ev_c (dr.sp e1) (by decide)) fun v1 H2 e2 ⟨m, ev, _, _⟩ => ?_
      subst ev
      have e12 := e1.trans e2
      have hdat : ∀ H3, (spR sp).r H2 H3 → DS (spR sp) H3 (.ref a) (.tuple ds) := fun H3 e3 => hds H3 (e12.trans e3)
      have good : ∀ v' ds' H', (spR sp).r H2 H' → DS (spR sp) H' v' (.tuple ds') → Fine 900 (PyData.depthAll ds) ds' → Q v' H' := fun v' ds' H' e h f =>
        k v' _ H' (e12.trans e) h ⟨(f.good (by decide)).1, (f.good (by decide)).2.1, by have := (f.good (by decide)).2.2; rw [ddep]; omega⟩
      have cutE : ∀ {H3 : Hp} {tl th : TO} {lo hi : Option Int}, (spR sp).r H2 H3 → EvO (spR sp) tl [some (.ref ra), some (.ref sp), some (.ref a), av, some (.int m)] H3 lo → EvO (spR sp) th [some (.ref ra), some (.ref sp), some (.ref a), av, some (.int m)] H3 hi → Ev (spR sp) (tSl (rSlU K) (tVar 2) tl th) [some (.ref ra), some (.ref sp), some (.ref a), av, some (.int m)] H3 (fun v H' => ∃ ds', Fine 300 (PyData.depthAll ds) ds' ∧ DS (spR sp) H' v (.tuple ds')) := fun e3 h1 h2 =>
        (ev_slD Le.rfl (ev_var rfl) h1 h2 (hdat _ e3)).imp fun v H' _ h => ⟨_, fine.cut _ _, h⟩
      refine q_when (ρ := spR sp) (et_and (et_B (ev_isi (ev_var rfl) (hdat H2 .rfl) rfl)) fun _ => et_and (et_test (ev_eqI (ev_var rfl) ev_c)) fun _ => et_test (ev_gt (ev_len (ev_var rfl) (fun H3 e3 => sA H3 (e12.trans e3))) ev_c)) (fun hb H3 e3 => ?_) fun _ H3 e3 => ?_
      · refine s_ret (ρ := spR sp) (ev_catD (C1 := Fine 300 (PyData.depthAll ds)) (C2 := Fine 300 (PyData.depthAll ds)) ((ev_var (v := .ref a) rfl).imp fun v H' e ev => ⟨ds, fine, by rw [ev]; exact hdat H' (e3.trans e)⟩) (fun H4 e4 => cutE (e3.trans e4) eo_none (eo_some ev_c)) fun d1 d2 f1 f2 => by have := f1.len; have := f2.len; omega) fun v' H4 e4 ⟨ds', ⟨d1, d2, f1, f2, ed⟩, h⟩ => ?_
        exact good v' ds' H4 (e3.trans e4) h (by rw [ed]; have f := f1.append f2; exact ⟨f.all, Nat.le_trans f.len (by decide)⟩)
      refine q_when (ρ := spR sp) (et_and (et_B (ev_isi (ev_var rfl) (hdat H3 e3) rfl)) fun _ => et_and (et_test (ev_eqI (ev_var rfl) ev_c)) fun _ => et_test (ev_gt (ev_len (ev_var rfl) (fun H4 e4 => sA H4 (e12.trans (e3.trans e4)))) ev_c)) (fun hb H4 e4 => ?_) fun _ H4 e4 => ?_
      · refine s_ret (ρ := spR sp) (cutE (e3.trans e4) (eo_some ev_c) eo_none) fun v' H5 e5 ⟨ds', f, h⟩ => ?_
        exact good v' ds' H5 (e3.trans (e4.trans e5)) h ⟨f.all, Nat.le_trans f.len (by decide)⟩
      have e34 := e3.trans e4
      refine q_when (ρ := spR sp) (et_and (et_B (ev_isi (ev_var rfl) (hdat H4 e34) rfl)) fun _ => et_and (et_test (ev_eqI (ev_var rfl) ev_c)) fun _ => et_test (ev_gt (ev_len (ev_var rfl) (fun H5 e5 => sA H5 (e12.trans (e34.trans e5)))) ev_c)) (fun hb H5 e5 => ?_) fun _ H5 e5 => ?_
      · refine s_ret (ρ := spR sp) (ev_catD (C1 := Fine 300 (PyData.depthAll ds)) (C2 := Fine 300 (PyData.depthAll ds)) (cutE (e34.trans e5) (eo_some ev_c) eo_none) (fun H6 e6 => cutE (e34.trans (e5.trans e6)) eo_none (eo_some ev_c)) fun d1 d2 f1 f2 => by have := f1.len; have := f2.len; omega) fun v' H6 e6 ⟨ds', ⟨d1, d2, f1, f2, ed⟩, h⟩ => ?_
        exact good v' ds' H6 (e34.trans (e5.trans e6)) h (by rw [ed]; have f := f1.append f2; exact ⟨f.all, Nat.le_trans f.len (by decide)⟩)
      have e35 := e34.trans e5
      refine q_when (ρ := spR sp) (b := false) ((et_and (b := true) (et_B (ev_isi (ev_var rfl) (hdat H5 e35) rfl)) fun h => by cases h).to rfl) (fun hb => by cases hb) fun _ H6 e6 => ?_
      refine q_when (ρ := spR sp) (b := false) ((et_and (b := true) (et_B (ev_isi (ev_var rfl) (hdat H6 (e35.trans e6)) rfl)) fun h => by cases h).to rfl) (fun hb => by cases hb) fun _ H7 e7 => ?_
      exact last _ _ H7 rfl rfl rfl (e12.trans (e35.trans (e6.trans e7)))
    by_cases h0 : ds.length = 0
    · refine q_when (ρ := spR sp) (b := false) ((et_and (b := false) (et_B (ev_isi (ev_var rfl) hd rfl)) fun _ => (et_and (b := true) (et_test (ev_gt (ev_len (ev_var rfl) sA) ev_c)) fun h => ?_).to ?_).to rfl) (fun hb => by cases hb) fun _ H1 e1 => rest _ _ _ H1 rfl e1
      · have := of_decide_eq_true h
        omega
      · rw [decide_eq_false (by omega)]
        rfl
    · refine q_whenC (ρ := spR sp) (C := fun _ => True) (etc_and (et_B (ev_isi (ev_var rfl) hd rfl)) (etc_and ((et_test (ev_gt (ev_len (ev_var rfl) sA) ev_c)).to (decide_eq_true (by omega))) (etc_test (ev_opP (Pa := Below 6) (Pb := fun v => v = .int 0) (ev_take (ev_var rfl) (ev_var rfl) ev_c dr (by decide)) ev_c fun x y ⟨m, ex, _⟩ ey => by
        subst ex ey
        exact fun H1 e1 Q q => rv_cmpI H1 Q (q _ H1 .rfl ⟨_, rfl, trivial⟩))))) (fun _ H1 e1 => ?_) fun _ H1 e1 => rest _ _ _ H1 rfl e1
      refine q_asg (ρ := spR sp) (ev_take (ev_var rfl) (ev_var rfl) (ev_len (ev_var rfl) (fun H2 e2 => sA H2 (e1.trans e2))) (dr.sp e1) (by omega)) fun v1 H2 e2 ⟨m, ev, m0, m1⟩ => ?_
      subst ev
      have e12 := e1.trans e2
      have hm : m.toNat < xs.length := by omega
      have gx : xs[m.toNat]? = some xs[m.toNat] := List.getElem?_eq_getElem hm
      obtain ⟨dm, g1, g2⟩ := hxs.get gx
      have hmem := List.mem_of_getElem? g1
      have dmd : dm.depth ≤ PyData.depthAll ds := depth_mem hmem
      have dpn : PyData.depthAll ds + 1 < n + 1 := dp
      have hdat : ∀ H3, (spR sp).r H2 H3 → DS (spR sp) H3 (.ref a) (.tuple ds) := fun H3 e3 => hds H3 (e12.trans e3)
      refine s_ret (ρ := spR sp) (ev_catD (C1 := Fine 301 (PyData.depthAll ds + 1)) (C2 := Fine 300 (PyData.depthAll ds + 1)) ((ev_catD (C1 := Fine 300 (PyData.depthAll ds + 1)) (C2 := Fine 1 (PyData.depthAll ds + 1)) ?_ ?_ ?_).imp ?_) ?_ ?_) fun v' H3 e3 ⟨ds', ⟨d1, d2, f1, f2, ed⟩, h⟩ => ?_
      · exact (ev_slD Le.rfl (ev_var rfl) eo_none (eo_some (ev_var rfl)) (hdat H2 .rfl)).imp fun v H' _ h => ⟨_, (fine.cut _ _).up (Nat.le_succ _), h⟩
      · intro H3 e3
        refine (ev_tup (Rr := fun vs H' => ∃ x, vs = [x] ∧ GoodV sp (PyData.depthAll ds + 1) x H') (ea_one (ev_call (ea_cons (ev_var rfl) (ea_cons (ev_var rfl) (ea_cons (ev_ix (n := m.toNat) (ev_var rfl) (ev_var rfl) (fun H4 e4 => sA H4 (e12.trans (e3.trans e4))) (by omega) gx) ea_nil))) fun H4 e4 Q' q' E' => ?_)) fun vs H4 _ ⟨x, e, _⟩ => by rw [e]; show 1 ≤ 100000; decide).imp fun v H4 e4 ⟨p, vs, H5, ev, ⟨x, evs, dx, hx, gx⟩, hp5, r5, eH⟩ => ?_
        · exact ⟨ra, sp, _, dm, rfl, dr.sp (e12.trans (e3.trans e4)), (e12.trans (e3.trans e4)).ds g2, plainTs_mem hpl.2 hmem, by omega, fun v' d' H' e h g => q' v' H' e ⟨d', h, g.1, g.2.1, Nat.le_trans g.2.2 (by omega)⟩⟩
        · subst ev evs
          refine ⟨[dx], ⟨fun d hd => ?_, Nat.le_refl _⟩, .tup (by rw [eH]; exact upd_same) (.cons ((eH ▸ r_new (ρ := spR sp) _ hp5 : (spR sp).r H5 H4).ds hx) .nil)⟩
          rw [List.mem_singleton.mp hd]
          exact gx
      · intro d1 d2 f1 f2
        have := f1.len
        have := f2.len
        omega
      · rintro v H3 e3 ⟨ds', ⟨d1, d2, f1, f2, rfl⟩, h⟩
        exact ⟨_, f1.append f2, h⟩
      · intro H3 e3
        exact (ev_slD Le.rfl (ev_var rfl) (eo_some (ev_add (ev_var rfl) ev_c)) eo_none (hdat H3 e3)).imp fun v H' _ h => ⟨_, (fine.cut _ _).up (Nat.le_succ _), h⟩
      · intro d1 d2 f1 f2
        have := f1.len
        have := f2.len
        omega
      · have f := f1.append f2
        rw [← ed] at f
        have g := f.good (by decide)
        exact k v' _ H3 (e12.trans e3) h g
end Slip
/-! the law of tables -/
namespace Slip
open PySem PySem.Spec PyProof.Rows L2
/-! ### lists for tuples -/
theorem piece_tupD (m : PyData) : isPieceD (tupD m) = isPieceD m := by cases m <;> rfl
theorem whole_tupD (m : PyData) : isWholeD 1 9 (tupD m) = isWholeD 1 9 m := by cases m <;> rfl
theorem seq_tupD (m : PyData) : isSeqD (tupD m) = isSeqD m := by cases m <;> rfl
theorem items_tupD (m : PyData) : itemsD (tupD m) = (itemsD m).map tupD := by
  cases m with
  | tuple ds => exact tupAll_map ds
  | list ds => exact tupAll_map ds
  | _ => rfl
theorem fault_two {d : PyData} (hq : isSeqD d = true) (h : (itemsD d).length ≠ 3) : isFaultD d = false := by
  unfold isFaultD isTripleD
  rw [hq, decide_eq_false h]
  rfl
theorem fault_tupD (d : PyData) : isFaultD (tupD d) = isFaultD d := by
  cases hq : isSeqD d with
  | false =>
    rw [fault_seq hq, fault_seq (by rw [seq_tupD]; exact hq)]
  | true =>
    by_cases h3 : (itemsD d).length = 3
    · obtain ⟨m, w, c, e⟩ := three h3
      have e2 : itemsD (tupD d) = [tupD m, tupD w, tupD c] := by rw [items_tupD, e]; rfl
      have f1 : isFaultD d = (isPieceD m && isPieceD w && !(PyData.eqv m w) && isWholeD 1 9 c) := by
        unfold isFaultD isTripleD
        rw [hq, e]
        rfl
      have f2 : isFaultD (tupD d) = (isPieceD (tupD m) && isPieceD (tupD w) && !(PyData.eqv (tupD m) (tupD w)) && isWholeD 1 9 (tupD c)) := by
        unfold isFaultD isTripleD
        rw [seq_tupD, hq, e2]
        rfl
      rw [f1, f2, piece_tupD, piece_tupD, whole_tupD]
      cases h1 : isPieceD m with
      | false => rfl
      | true =>
        cases h2 : isPieceD w with
        | false => rfl
        | true =>
          obtain ⟨s, rfl, _⟩ := piece_str h1
          obtain ⟨t, rfl, _⟩ := piece_str h2
          rfl
    · rw [fault_two hq h3, fault_two (by rw [seq_tupD]; exact hq) (by rw [items_tupD, List.length_map]; exact h3)]
theorem pair_tupD {d : PyData} (h : isFaultD d = true) : pairOf (tupD d) = pairOf d := by
  obtain ⟨s, t, c, e, _⟩ := fault_parts h
  rw [pair_fault e, pair_fault (d := tupD d) (s := s) (t := t) (c := .int c) (by rw [items_tupD, e]; rfl)]
theorem table_tupD (d : PyData) : isTableD (tupD d) = isTableD d := by
  unfold isTableD
  rw [seq_tupD, items_tupD, List.length_map, List.all_map]
  have ha : (itemsD d).all (isFaultD ∘ tupD) = (itemsD d).all isFaultD := by
    have : isFaultD ∘ tupD = isFaultD := funext fun x => fault_tupD x
    rw [this]
  rw [ha]
  cases hf : (itemsD d).all isFaultD with
  | false => rw [Bool.and_false]; rfl
  | true =>
    have : ((itemsD d).map tupD).map pairOf = (itemsD d).map pairOf := by
      rw [List.map_map]
      exact List.map_congr_left fun x hx => pair_tupD (List.all_eq_true.mp hf x hx)
    rw [this]
/-! ### a datum is itself -/
mutual
theorem so_self : ∀ d : PyData, plainT d = true → soD d d = true
  | .str s, _ => decide_eq_true rfl
  | .int i, _ => decide_eq_true rfl
  | .tuple ds, h => by
    have h' : ds.length ≤ 300 ∧ plainTs ds = true := by simpa [plainT] using h
    exact sos_self ds h'.2
  | .none, h => by cases h
  | .bool _, h => by cases h
  | .list _, h => by cases h
  | .dict _, h => by cases h
theorem sos_self : ∀ ds : List PyData, plainTs ds = true → soAll ds ds = true
  | [], _ => rfl
  | d :: ds, h => by
    have h' : plainT d = true ∧ plainTs ds = true := by simpa [plainTs] using h
    show (soD d d && soAll ds ds) = true
    rw [so_self d h'.1, sos_self ds h'.2]
    rfl
end
theorem so_bool (b : Bool) : soD (.bool b) (.bool b) = true := by cases b <;> rfl
/-- what a table looks like -/
theorem table_plain {ds : List PyData} (hn : noLists ds = true) (h : isTableD (.tuple ds) = true) : plainT (.tuple ds) = true ∧ (PyData.tuple ds).depth ≤ 2 := by
  have h' : ((true && decide (ds.length ≤ 8)) && ds.all isFaultD) = true := by
    cases q : ((true && decide (ds.length ≤ 8)) && ds.all isFaultD) with
    | true => rfl
    | false =>
      have z : (((true && decide (ds.length ≤ 8)) && ds.all isFaultD) && risingD (ds.map pairOf)) = true := h
      rw [q] at z
      cases z
  have h2 : ds.length ≤ 8 ∧ ∀ x ∈ ds, isFaultD x = true := by simpa using h'
  have one : ∀ x ∈ ds, plainT x = true ∧ x.depth ≤ 1 := fun x hx => by
    obtain ⟨s, t, c, e, p1, p2, _, _, _, hq⟩ := fault_parts (h2.2 x hx)
    have nl := noLists_mem hn hx
    cases x with
    | tuple es =>
      have e' : es = [.str s, .str t, .int c] := e
      subst e'
      obtain ⟨s', es, l1, _⟩ := piece_str p1
      obtain ⟨t', et, l2, _⟩ := piece_str p2
      cases es
      cases et
      refine ⟨?_, Nat.le_refl _⟩
      show (decide (3 ≤ 300) && (decide (s.length ≤ 300) && (decide (t.length ≤ 300) && (true && true)))) = true
      rw [decide_eq_true (show s.length ≤ 300 by omega), decide_eq_true (show t.length ≤ 300 by omega)]
      rfl
    | list es => cases nl
    | _ => cases hq
  have all : ∀ l : List PyData, (∀ x ∈ l, plainT x = true ∧ x.depth ≤ 1) → plainTs l = true := fun l => by
    induction l with
    | nil => intro _; rfl
    | cons x l ih =>
      intro h
      show (plainT x && plainTs l) = true
      rw [(h x (List.mem_cons_self ..)).1, ih fun y hy => h y (List.mem_cons_of_mem _ hy)]
      rfl
  refine ⟨?_, ?_⟩
  · show (decide (ds.length ≤ 300) && plainTs ds) = true
    rw [decide_eq_true (by omega), all ds one]
    rfl
  · show PyData.depthAll ds + 1 ≤ 2
    have := depth_all (D := 1) fun x hx => (one x hx).2
    omega
/-! ### rules -/
section
variable {ρ ρf : Rl} {K : Frag} {σ : L2.St} {H : Hp} {ta te : TE} {tr : TA} {x : V} {d : PyData} {ds : List PyData} {Rr : List V → Hp → Prop}
theorem ea_consV (h : EvV ρ ta σ H x) (hr : EvA ρ tr σ H Rr) : EvA ρ (tCons ta tr) σ H (fun vs H' => ∃ ws, vs = x :: ws ∧ Rr ws H') := fun H1 e _ q =>
  h H1 e _ fun v H2 e2 ev => hr H2 (e.trans e2) _ fun ws H3 e3 rw' => q _ H3 (e2.trans e3) ⟨ws, by rw [ev], rw'⟩
theorem ea_nilD : EvA ρ tNil σ H (fun vs H' => DSs ρf H' vs []) := fun H1 _ _ q => q [] H1 .rfl .nil
theorem ea_consD (le : Le ρ ρf) (h : Ev ρ ta σ H (fun v H' => DS ρf H' v d)) (hr : ∀ H1, ρ.r H H1 → EvA ρ tr σ H1 (fun vs H' => DSs ρf H' vs ds)) : EvA ρ (tCons ta tr) σ H (fun vs H' => DSs ρf H' vs (d :: ds)) := fun H1 e _ q =>
  h H1 e _ fun v H2 e2 hv => hr H2 (e.trans e2) H2 .rfl _ fun ws H3 e3 hw => q _ H3 (e2.trans e3) (.cons (le.ds e3 hv) hw)
theorem ev_tupDs (le : Le ρ ρf) (h : EvA ρ tr σ H (fun vs H' => DSs ρf H' vs ds)) (hl : ds.length ≤ 100000) : Ev ρ (tTup tr) σ H (fun v H' => DS ρf H' v (.tuple ds)) :=
  (ev_tup h fun vs H1 _ e => by rw [e.length]; exact hl).imp fun v H2 r ⟨p, vs, H1, ev, hv, hp, r1, eH⟩ => by
    subst ev
    exact .tup (by rw [eH]; exact upd_same) (le.dss (eH ▸ r_new (ρ := ρ) _ hp) hv)
end
/-- what was handed looks as the table does -/
theorem mixed_table {d d' : PyData} (m : Mixed d d') : isTableD d' = isTableD d := by rw [← table_tupD d', m]
theorem mixed_sm {d d' : PyData} (m : Mixed d d') : sm d' = sm d := by rw [← sm_tup d', m]
theorem mixed_depth {d d' : PyData} (m : Mixed d d') : d'.depth = d.depth := by rw [← dep_tup d', m]
end Slip
/-! the law of tables, walked -/
namespace Slip
open PySem PySem.Spec PyProof.Rows L2
/-! ### the table of all -/
def six : List PyData := (List.range 6).map fun i : Nat => .tuple [.str (("a" : Str) ++ ⟨#[97 + i]⟩), .str "b", .int (1 + (i : Int))]
def rest3 : List PyData := [.tuple [.str "b", .str "", .int 9], .tuple [.str "b", .str "cd", .int 1], .tuple [.str "c", .str "", .int 1]]
abbrev full9 : List PyData := six ++ rest3
theorem full_no : isTableD (.tuple full9) = false := by decide +kernel
theorem full_yes1 : isTableD (.tuple (cutD full9 none (some 8))) = true := by decide +kernel
theorem full_yes2 : isTableD (.tuple (cutD full9 (some 1) none)) = true := by decide +kernel
theorem full_sm : sm (.tuple full9) = true := by decide +kernel
theorem full_sm1 : sm (.tuple (cutD full9 none (some 8))) = true := by decide +kernel
theorem full_sm2 : sm (.tuple (cutD full9 (some 1) none)) = true := by decide +kernel
def sp_law (K : Frag) : Sp := fun vs H Q _ => ∃ (a : Addr) (ns : List Int), vs = [.ref a] ∧ SqL K H a (ns.map V.int) ∧ ns.length ≤ 63 ∧ ∀ H', Q (.bl true) H'
theorem len_law {K : Frag} {vs : List V} {H : Hp} {Q : VK} {E : XK} (h : sp_law K vs H Q E) : vs.length = 1 := by
  obtain ⟨a, ns, rfl, _⟩ := h
  rfl
def t_law (K : Frag) : TS := (tSeq (tAsg (tCall (sp__law_numbers K) [] E0 (tCons (tVar 0) tNil)) (gName 1)) (tSeq (tAsg (tLst (tCons (tC (.int 0)) tNil)) (gName 2)) (tSeq (tAsg (tCall (sp__law_few K) [] E0 (tCons (tVar 1) (tCons (tVar 2) (tCons (tLst (tCons (tC (.int 2)) (tCons (tC (.int 3)) (tCons (tC (.int 6)) tNil)))) tNil)))) (gName 3)) (tSeq (tAsg (tCall (sp__law_table K) [] E0 (tCons (tVar 1) (tCons (tVar 2) (tCons (tC (.int 8)) (tCons (tVar 3) tNil))))) (gName 4)) (tSeq (tAsg (tCall (sp__law_handed K) [] E0 (tCons (tVar 1) (tCons (tVar 2) (tCons (tVar 4) tNil)))) (gName 5)) (tSeq (tIfS (tOr (tNot (tB (tCall (sp__law_so K 8) [] E0 (tCons (tCall (sp_is_table K) [] E0 (tCons (tVar 5) tNil)) (tCons (tC (.bl true)) tNil))))) (tNot (tB (tCall (sp__law_so K 8) [] E0 (tCons (tCall (sp__law_tupled K 8) [] E0 (tCons (tVar 5) tNil)) (tCons (tVar 4) tNil)))))) (tRet (tC (.bl false))) tNext) (tSeq (tFor (iRng1 (tCons (tC (.int 8)) tNil)) (gName 6) (tSeq (tAsg (tCall (sp__law_table_changed K 9) [] E0 (tCons (tVar 1) (tCons (tVar 2) (tCons (tVar 4) tNil)))) (gName 7)) (tIfS (tNot (tB (tCall (sp__law_so K 8) [] E0 (tCons (tCall (sp_is_table K) [] E0 (tCons (tCall (sp__law_handed K) [] E0 (tCons (tVar 1) (tCons (tVar 2) (tCons (tVar 7) tNil)))) tNil)) (tCons (tCall (sp__law_is_table K) [] E0 (tCons (tVar 7) tNil)) tNil))))) (tRet (tC (.bl false))) tNext))) (tSeq (tAsg (tCB (rTupOf K) (tCons (tLc (iRng1 (tCons (tC (.int 6)) tNil)) (gName 9) tYes (tTup (tCons (tOp (rAddU K) (tC (.str "a")) (tIxU K (tC (.str "abcdef")) (tVar 9))) (tCons (tC (.str "b")) (tCons (tOp (rAddU K) (tC (.int 1)) (tVar 9)) tNil)))) [9]) tNil)) (gName 8)) (tSeq (tAsg (tOp (rAddU K) (tVar 8) (tTup (tCons (tTup (tCons (tC (.str "b")) (tCons (tC (.str "")) (tCons (tC (.int 9)) tNil)))) (tCons (tTup (tCons (tC (.str "b")) (tCons (tC (.str "cd")) (tCons (tC (.int 1)) tNil)))) (tCons (tTup (tCons (tC (.str "c")) (tCons (tC (.str "")) (tCons (tC (.int 1)) tNil)))) tNil))))) (gName 8)) (tRet (tAndV (tCall (sp__law_so K 8) [] E0 (tCons (tCall (sp_is_table K) [] E0 (tCons (tVar 8) tNil)) (tCons (tC (.bl false)) tNil))) (tAndV (tCall (sp__law_so K 8) [] E0 (tCons (tCall (sp_is_table K) [] E0 (tCons (tSl (rSlU K) (tVar 8) tNoPart (tPart (tC (.int 8)))) tNil)) (tCons (tC (.bl true)) tNil))) (tCall (sp__law_so K 8) [] E0 (tCons (tCall (sp_is_table K) [] E0 (tCons (tSl (rSlU K) (tVar 8) (tPart (tC (.int 1))) tNoPart) tNil)) (tCons (tC (.bl true)) tNil)))))))))))))))
theorem pure_law {K : Frag} (vs : List V) (H : Hp) (Q : VK) (E : XK) (h : sp_law K vs H Q E) : t_law K { nx := fun _ H' => Q .non H', rt := Q } (start ["script", "row", "spot", "few", "table", "handed", "again", "changed", "full", "k"] vs) H := by
  obtain ⟨a, ns, rfl, hq, hl, k⟩ := h
  refine q_asg (ρ := exR) (R := fun v H' => ∃ (p : Addr) (ms : List Int), v = .ref p ∧ H' p = some (.lst (ms.map V.int)) ∧ ms ≠ []) (ev_call (ea_cons (ev_var rfl) ea_nil) fun H1 e1 Q' q' E' => ⟨a, ns, rfl, ext_sqL e1.ext hq, hl, fun p ms H' hp e hp' hm => q' _ H' (Ext.r e) ⟨p, ms, rfl, hp', hm⟩⟩) fun v H1 e1 ⟨ra, ms, ev, hra, hms⟩ => ?_
  subst ev
  refine q_asg (ρ := exR) (R := fun v H' => ∃ p, v = .ref p ∧ H1 p = none ∧ H' p = some (.lst [.int 0]) ∧ exR.r H1 H') ?_ fun v H2 e2 ⟨sp, ev, hsp0, hsp, _⟩ => ?_
  · refine (ev_lst (ea_cons (ev_c (v := .int 0)) ea_nil) fun vs H2 _ e => by rw [e]; show 1 ≤ 100000; decide).imp fun v H2 r ⟨p, vs, H3, ev, evs, hp, r3, eH⟩ => ?_
    subst ev evs
    exact ⟨p, rfl, r3.back p hp, by rw [eH]; exact upd_same, r⟩
  subst ev
  have nsp : ra ≠ sp := fun z => by rw [← z, hra] at hsp0; cases hsp0
  have dr : Dr K ra sp H2 := ⟨⟨ms, hms, .of (e2.ext _ _ hra)⟩, ⟨0, Int.le_refl _, hsp⟩, nsp⟩
  have ow : ∀ H3, (spR sp).r H2 H3 → Own (spR sp) H3 := fun H3 e => own_sp (dr.sp e)
  refine q_asg (ρ := spR sp) (R := fun v _ => ∃ z : Str, v = .str z ∧ Few z) ?_ fun v H3 e3 ⟨z, ev, few⟩ => ?_
  · refine ev_callR (sp := sp__law_few K) (ea_consV (ev_var (v := .ref ra) rfl) (ea_consV (ev_var (v := .ref sp) rfl) (ea_one (ev_lstN (xs := ([2, 3, 6] : List Int).map V.int) (ow H2 .rfl) (ea_cons ev_c (ea_cons ev_c (ea_cons ev_c ea_nil))) (by show 3 ≤ 100000; decide))))) ?_
    rintro vs H3 e3 ⟨ws, rfl, ws2, rfl, x, rfl, za, rfl, nz, hz⟩
    exact fun H4 e4 Q' q' E' => ⟨ra, sp, za, [2, 3, 6], rfl, dr.sp (e3.trans e4), nz, .of (e4.keep _ _ nz hz), by simp, by decide, fun z H' e f => q' _ H' e ⟨z, rfl, f⟩⟩
  subst ev
  refine q_asg (ρ := spR sp) (R := fun v H' => ∃ ds, DS (spR sp) H' v (.tuple ds) ∧ noLists ds = true ∧ isTableD (.tuple ds) = true) (ev_call (ea_cons (ev_var rfl) (ea_cons (ev_var rfl) (ea_cons ev_c (ea_cons (ev_var rfl) ea_nil)))) fun H4 e4 Q' q' E' => ⟨ra, sp, 8, z, rfl, dr.sp (e3.trans e4), by decide, by decide, few, fun v ds H' e h1 h2 h3 => q' v H' e ⟨ds, h1, h2, h3⟩⟩) fun tv H4 e4 ⟨ds, hds, hnl, htab⟩ => ?_
  obtain ⟨hpl, hdep⟩ := table_plain hnl htab
  have hsm := plain_sm _ hpl
  have hno : noList (.tuple ds) = true := hnl
  have e24 := e3.trans e4
  refine q_asg (ρ := spR sp) (ev_handed (ev_var rfl) (ev_var rfl) (ev_var rfl) (dr.sp e24) hds hno hsm (by omega)) fun hv H5 e5 ⟨h', hh, hm⟩ => ?_
  have e25 := e24.trans e5
  have tabE : ∀ {σ : L2.St} {te : TE} {H6 : Hp} {v : V} {d' : PyData} {E : XK}, EvV (spR sp) te σ H6 v → DS (spR sp) H6 v d' → sm d' = true → EvV (spR sp) (tCall (sp_is_table K) [] E (tCons te tNil)) σ H6 (.bl (isTableD d')) := fun h1 h2 h3 => ev_B1 (F := isTableD) h1 h2 h3
  have soE : ∀ {σ : L2.St} {ta tb : TE} {H6 : Hp} {b c : Bool} {E : XK}, EvV (spR sp) ta σ H6 (.bl b) → EvV (spR sp) tb σ H6 (.bl c) → EvV (spR sp) (tCall (sp__law_so K 8) [] E (tCons ta (tCons tb tNil))) σ H6 (.bl (soD (.bool b) (.bool c))) := fun h1 h2 => ev_so h1 h2 (.bl _) (.bl _) rfl (by show 0 < 8; decide)
  refine q_when (ρ := spR sp) (b := false) ((et_or (b := false) (et_not (et_B (soE (tabE (ev_var rfl) hh (by rw [mixed_sm hm]; exact hsm)) ev_c))) fun _ => (et_not (a := true) (et_B ?_)).to rfl).to ?_) (fun hb => by cases hb) fun _ H6 e6 => ?_
  · refine (ev_callR (sp := sp__law_so K 8) (R := fun v _ => v = .bl true) (ea_consR (Ra := fun v H' => DS (spR sp) H' v (tupD h')) (Rr := fun x ws H' => ws = [tv] ∧ DS (spR sp) H' x (tupD h')) (ev_call (ea_cons (ev_var rfl) ea_nil) fun H6 e6 Q' q' E' => ⟨hv, h', rfl, (e6.ds hh).ex, by rw [mixed_sm hm]; exact hsm, by rw [mixed_depth hm]; omega, fun v' H' e h => q' v' H' (Ext.r e) (h (spR sp))⟩) fun x H6 e6 hx => (ea_cons (ev_var (v := tv) rfl) ea_nil).imp fun ws H7 e7 ew => ⟨ew, e7.ds hx⟩) ?_)
    rintro vs H6 e6 ⟨x, ws, rfl, rfl, hx⟩
    refine fun H7 e7 Q' q' E' => ⟨x, tv, tupD h', .tuple ds, rfl, (e7.ds hx).ex, ((e5.trans (e6.trans e7)).ds hds).ex, hsm, by omega, fun H' e => q' _ H' (Ext.r e) ?_⟩
    have : tupD h' = .tuple ds := hm
    rw [this, so_self _ hpl]
  · rw [mixed_table hm, htab]
    rfl
  have e26 := e25.trans e6
  refine q_forw (ρ := spR sp) (ρw := spR sp) (ew_rng (i := 8) (ea_cons ev_c ea_nil) (by omega) (by omega)) fun H7 e7 => ⟨fun i σ' H' => (spR sp).r H7 H' ∧ ∃ kv cv : Option V, σ' = [some (.ref a), some (.ref ra), some (.ref sp), some (.str z), some tv, some hv, kv, cv, none, none], ⟨.rfl, _, _, rfl⟩, fun i σ' H' _ h => h.1, ?_, ?_⟩
  · rintro i x σ' H' H'' hi ⟨r, kv, cv, rfl⟩ ⟨e5', rfl⟩
    subst e5'
    have e2x := e26.trans (e7.trans r)
    have e4x := (e5.trans e6).trans (e7.trans r)
    refine q_asg (ρ := spR sp) (R := fun v H' => ∃ d', DS (spR sp) H' v d' ∧ Good 3 d') (ev_call (ea_cons (ev_var rfl) (ea_cons (ev_var rfl) (ea_cons (ev_var rfl) ea_nil))) fun H8 e8 Q' q' E' => ⟨ra, sp, tv, _, rfl, dr.sp (e2x.trans e8), (e4x.trans e8).ds hds, hpl, by omega, fun v' d' H' e h g => q' v' H' e ⟨d', h, g.1, g.2.1, Nat.le_trans g.2.2 (by omega)⟩⟩) fun cv' H8 e8 ⟨d', hd', g1, g2, g3⟩ => ?_
    refine s_if (ρ := spR sp) (b := false) ((et_not (a := true) (et_B ((soE (b := isTableD d') (c := isTableD d') ?_ ?_).val (by rw [so_bool])))).to rfl) (fun hb => by cases hb) fun _ H9 e9 => ⟨r.trans (e8.trans e9), _, _, rfl⟩
    · refine ev_callR (sp := sp_is_table K) (ea_one (ev_handed (ev_var rfl) (ev_var rfl) (ev_var rfl) (dr.sp (e2x.trans e8)) hd' g1 g2 (by omega))) ?_
      rintro vs H9 e9 ⟨x, rfl, dx, hx, mx⟩
      refine fun H10 e10 Q' q' E' => ⟨x, dx, rfl, (e10.ds hx).ex, by rw [mixed_sm mx]; exact g2, fun H' e => q' _ H' (Ext.r e) ?_⟩
      rw [mixed_table mx]
    · exact ev_call (ea_cons (ev_var rfl) ea_nil) fun H9 e9 Q' q' E' => ⟨cv', d', rfl, (e9.ds hd').ex, g2, g1, fun H' e => q' _ H' (Ext.r e) rfl⟩
  · rintro σ' H' ⟨r, kv, cv, rfl⟩
    have e2x := e26.trans (e7.trans r)
    refine q_asg (ρ := spR sp) (R := fun v H' => ∃ ds, ds = six ∧ DS (spR sp) H' v (.tuple ds)) (ev_tupOf (ρf := spR sp) (C := fun ds => ds = six) Le.rfl ((ev_lcD (dd := fun i : Nat => .tuple [.str (("a" : Str) ++ ⟨#[97 + i]⟩), .str "b", .int (1 + (i : Int))]) (ow _ e2x) (by decide) (ei_rng (i := 6) (ea_cons ev_c ea_nil) (by decide) (by decide)) (fun x => rfl) (fun i H2 x H3 y => y.1) ?_).imp fun u H8 e8 ⟨p, xs, e, nS, _, hx, hd⟩ => ⟨p, xs, _, e, nS, hx, hd, rfl⟩)) fun fv H8 e8 ⟨ds6, ed6, hf6⟩ => ?_
    · rintro D H8 e8 hD i x H9 H10 hi e9 oD ⟨e10, rfl⟩
      have hi6 : i < 6 := hi
      have hsz : ("a" : Str).length + (⟨#[97 + i]⟩ : Str).length ≤ 100000 := by
        have : ("a" : Str).length = 1 := by decide +kernel
        have : (⟨#[97 + i]⟩ : Str).length = 1 := rfl
        omega
      exact ev_tripleD .and (ev_addS ev_c (ev_ixS (s := "abcdef") (c := 97 + i) ev_c (ev_var rfl) (by decide +kernel) (atI_nat (letters_at hi6))) hsz) ev_c (ev_add ev_c (ev_var rfl)) (.str _) (.str _) (.int _)
    subst ed6
    refine q_asg (ρ := spR sp) (R := fun v H' => DS (spR sp) H' v (.tuple full9)) ((ev_catD (C1 := fun ds => ds = six) (C2 := fun ds => ds = rest3) ((ev_var (v := fv) rfl).imp fun v H9 e9 ev => ⟨_, rfl, by rw [ev]; exact e9.ds hf6⟩) (fun H9 e9 => (ev_tupDs (ρf := spR sp) (ds := rest3) Le.rfl (ea_consD Le.rfl (ev_tripleD Le.rfl ev_c ev_c ev_c (.str _) (.str _) (.int _)) fun _ _ => ea_consD Le.rfl (ev_tripleD Le.rfl ev_c ev_c ev_c (.str _) (.str _) (.int _)) fun _ _ => ea_consD Le.rfl (ev_tripleD Le.rfl ev_c ev_c ev_c (.str _) (.str _) (.int _)) fun _ _ => ea_nilD) (by decide)).imp fun v H10 _ h => ⟨_, rfl, h⟩) (fun d1 d2 h1 h2 => by rw [h1, h2]; decide)).imp fun v H9 _ ⟨ds, ⟨d1, d2, h1, h2, e⟩, h⟩ => by rw [e, h1, h2] at h; exact h) fun gv H9 e9 hg => ?_
    have slE : ∀ {σ : L2.St} {tl th : TO} {lo hi : Option Int} {E : XK} {b : Bool} {H10 : Hp}, (spR sp).r H9 H10 → EvV (spR sp) (tVar 8) σ H10 gv → EvO (spR sp) tl σ H10 lo → EvO (spR sp) th σ H10 hi → sm (.tuple (cutD full9 lo hi)) = true → isTableD (.tuple (cutD full9 lo hi)) = b → EvV (spR sp) (tCall (sp_is_table K) [] E (tCons (tSl (rSlU K) (tVar 8) tl th) tNil)) σ H10 (.bl b) := fun e10 h0 h1 h2 h3 h4 => by
      refine ev_callR (sp := sp_is_table K) (ea_one (ev_slD Le.rfl h0 h1 h2 (e10.ds hg))) ?_
      rintro vs H11 e11 ⟨x, rfl, hx⟩
      refine fun H12 e12 Q' q' E' => ⟨x, _, rfl, (e12.ds hx).ex, h3, fun H' e => q' _ H' (Ext.r e) ?_⟩
      rw [h4]
    refine s_retV (ρ := spR sp) (v := .bl true) ((ev_andV (a := true) (b := true) ((soE ((tabE (ev_var rfl) hg full_sm).val (by rw [full_no])) ev_c).val (by rw [so_bool])) fun _ => (ev_andV (a := true) (b := true) ((soE (slE .rfl (ev_var rfl) eo_none (eo_some ev_c) full_sm1 full_yes1) ev_c).val (by rw [so_bool])) fun _ => (soE (slE .rfl (ev_var rfl) (eo_some ev_c) eo_none full_sm2 full_yes2) ev_c).val (by rw [so_bool])).val rfl).val rfl) fun H10 e10 => k H10
end Slip
namespace K16
open PySem PySem.Spec PyProof.Rows L2 Slip
theorem no__law_so {K : Frag} {vs : List V} {H : Hp} {Q : VK} {E : XK} : ¬ sp__law_so K 0 vs H Q E := fun ⟨_, _, _, _, _, _, _, _, h, _⟩ => absurd h (Nat.not_lt_zero _)
theorem no__law_listed {K : Frag} {vs : List V} {H : Hp} {Q : VK} {E : XK} : ¬ sp__law_listed K 0 vs H Q E := fun ⟨_, _, _, _, _, _, _, h, _⟩ => absurd h (Nat.not_lt_zero _)
theorem no__law_tupled {K : Frag} {vs : List V} {H : Hp} {Q : VK} {E : XK} : ¬ sp__law_tupled K 0 vs H Q E := fun ⟨_, _, _, _, _, h, _⟩ => absurd h (Nat.not_lt_zero _)
theorem no__law_levels {K : Frag} {vs : List V} {H : Hp} {Q : VK} {E : XK} : ¬ sp__law_levels K 0 vs H Q E := fun ⟨_, _, _, _, _, _, _, _, _, _, _, _, h, _⟩ => absurd h (Nat.not_lt_zero _)
theorem no__law_table_changed {K : Frag} {vs : List V} {H : Hp} {Q : VK} {E : XK} : ¬ sp__law_table_changed K 0 vs H Q E := fun ⟨_, _, _, _, _, _, _, _, h, _⟩ => absurd h (Nat.not_lt_zero _)
def top (i : Nat) : Stmt := PySem.Challenge.pw_slipworth_k16_tables_told_apart.main.body.getD i (.Pass ⟨0, 0, 0, 0⟩)
abbrev st_is_whole : Stmt := top 2
abbrev st_is_sequence : Stmt := top 3
abbrev st_is_triple : Stmt := top 4
abbrev st_is_word : Stmt := top 5
abbrev st_is_short : Stmt := top 6
abbrev st_is_rising : Stmt := top 7
abbrev st_is_table : Stmt := top 12
abbrev st_is_fault : Stmt := top 13
abbrev st_is_piece : Stmt := top 14
abbrev st__law_so : Stmt := top 16
abbrev st__law_numbers : Stmt := top 17
abbrev st__law_draw : Stmt := top 18
abbrev st__law_take : Stmt := top 19
abbrev st__law_whole : Stmt := top 20
abbrev st__law_listed : Stmt := top 21
abbrev st__law_tupled : Stmt := top 22
abbrev st__law_handed : Stmt := top 23
abbrev st__law_levels : Stmt := top 24
abbrev st__law_is_string : Stmt := top 25
abbrev st__law_is_table : Stmt := top 26
abbrev st__law_letters : Stmt := top 27
abbrev st__law_few : Stmt := top 28
abbrev st__law_table : Stmt := top 29
abbrev st__law_table_changed : Stmt := top 30
abbrev st_law : Stmt := top 31
abbrev names_is_whole : List Str := ["value", "low", "high"]
theorem sc_is_whole : FnScope names_is_whole ["value", "low", "high"] (defScope st_is_whole) := ⟨rfl, rfl, rfl, by decide +kernel, rfl, by decide +kernel, by decide +kernel⟩
abbrev names_is_sequence : List Str := ["value"]
theorem sc_is_sequence : FnScope names_is_sequence ["value"] (defScope st_is_sequence) := ⟨rfl, rfl, rfl, by decide +kernel, rfl, by decide +kernel, by decide +kernel⟩
abbrev names_is_triple : List Str := ["value"]
theorem sc_is_triple : FnScope names_is_triple ["value"] (defScope st_is_triple) := ⟨rfl, rfl, rfl, by decide +kernel, rfl, by decide +kernel, by decide +kernel⟩
abbrev names_is_word : List Str := ["value", "letter"]
theorem sc_is_word : FnScope names_is_word ["value"] (defScope st_is_word) := ⟨rfl, rfl, rfl, by decide +kernel, rfl, by decide +kernel, by decide +kernel⟩
abbrev names_is_short : List Str := ["value", "most"]
theorem sc_is_short : FnScope names_is_short ["value", "most"] (defScope st_is_short) := ⟨rfl, rfl, rfl, by decide +kernel, rfl, by decide +kernel, by decide +kernel⟩
abbrev names_is_rising : List Str := ["rows", "at"]
theorem sc_is_rising : FnScope names_is_rising ["rows"] (defScope st_is_rising) := ⟨rfl, rfl, rfl, by decide +kernel, rfl, by decide +kernel, by decide +kernel⟩
abbrev names_is_table : List Str := ["value", "fault"]
theorem sc_is_table : FnScope names_is_table ["value"] (defScope st_is_table) := ⟨rfl, rfl, rfl, by decide +kernel, rfl, by decide +kernel, by decide +kernel⟩
abbrev names_is_fault : List Str := ["value", "meant", "written", "cost"]
theorem sc_is_fault : FnScope names_is_fault ["value"] (defScope st_is_fault) := ⟨rfl, rfl, rfl, by decide +kernel, rfl, by decide +kernel, by decide +kernel⟩
abbrev names_is_piece : List Str := ["value"]
theorem sc_is_piece : FnScope names_is_piece ["value"] (defScope st_is_piece) := ⟨rfl, rfl, rfl, by decide +kernel, rfl, by decide +kernel, by decide +kernel⟩
abbrev names__law_so : List Str := ["found", "wanted", "k"]
theorem sc__law_so : FnScope names__law_so ["found", "wanted"] (defScope st__law_so) := ⟨rfl, rfl, rfl, by decide +kernel, rfl, by decide +kernel, by decide +kernel⟩
abbrev names__law_numbers : List Str := ["script", "row", "cell", "left", "k", "mixed"]
theorem sc__law_numbers : FnScope names__law_numbers ["script"] (defScope st__law_numbers) := ⟨rfl, rfl, rfl, by decide +kernel, rfl, by decide +kernel, by decide +kernel⟩
abbrev names__law_draw : List Str := ["row", "at", "limit", "mixed"]
theorem sc__law_draw : FnScope names__law_draw ["row", "at", "limit"] (defScope st__law_draw) := ⟨rfl, rfl, rfl, by decide +kernel, rfl, by decide +kernel, by decide +kernel⟩
abbrev names__law_take : List Str := ["row", "spot", "limit"]
theorem sc__law_take : FnScope names__law_take ["row", "spot", "limit"] (defScope st__law_take) := ⟨rfl, rfl, rfl, by decide +kernel, rfl, by decide +kernel, by decide +kernel⟩
abbrev names__law_whole : List Str := ["value"]
theorem sc__law_whole : FnScope names__law_whole ["value"] (defScope st__law_whole) := ⟨rfl, rfl, rfl, by decide +kernel, rfl, by decide +kernel, by decide +kernel⟩
abbrev names__law_listed : List Str := ["value", "one"]
theorem sc__law_listed : FnScope names__law_listed ["value"] (defScope st__law_listed) := ⟨rfl, rfl, rfl, by decide +kernel, rfl, by decide +kernel, by decide +kernel⟩
abbrev names__law_tupled : List Str := ["value", "one"]
theorem sc__law_tupled : FnScope names__law_tupled ["value"] (defScope st__law_tupled) := ⟨rfl, rfl, rfl, by decide +kernel, rfl, by decide +kernel, by decide +kernel⟩
abbrev names__law_handed : List Str := ["row", "spot", "value", "kind"]
theorem sc__law_handed : FnScope names__law_handed ["row", "spot", "value"] (defScope st__law_handed) := ⟨rfl, rfl, rfl, by decide +kernel, rfl, by decide +kernel, by decide +kernel⟩
abbrev names__law_levels : List Str := ["row", "spot", "value", "made", "one"]
theorem sc__law_levels : FnScope names__law_levels ["row", "spot", "value"] (defScope st__law_levels) := ⟨rfl, rfl, rfl, by decide +kernel, rfl, by decide +kernel, by decide +kernel⟩
abbrev names__law_is_string : List Str := ["value", "most", "one"]
theorem sc__law_is_string : FnScope names__law_is_string ["value", "most"] (defScope st__law_is_string) := ⟨rfl, rfl, rfl, by decide +kernel, rfl, by decide +kernel, by decide +kernel⟩
abbrev names__law_is_table : List Str := ["value", "before", "one"]
theorem sc__law_is_table : FnScope names__law_is_table ["value"] (defScope st__law_is_table) := ⟨rfl, rfl, rfl, by decide +kernel, rfl, by decide +kernel, by decide +kernel⟩
abbrev names__law_letters : List Str := ["row", "spot", "most", "few", "made", "k"]
theorem sc__law_letters : FnScope names__law_letters ["row", "spot", "most", "few"] (defScope st__law_letters) := ⟨rfl, rfl, rfl, by decide +kernel, rfl, by decide +kernel, by decide +kernel⟩
abbrev names__law_few : List Str := ["row", "spot", "sizes", "size", "made", "k"]
theorem sc__law_few : FnScope names__law_few ["row", "spot", "sizes"] (defScope st__law_few) := ⟨rfl, rfl, rfl, by decide +kernel, rfl, by decide +kernel, by decide +kernel⟩
abbrev names__law_table : List Str := ["row", "spot", "many", "few", "held", "k", "kind", "one", "other"]
theorem sc__law_table : FnScope names__law_table ["row", "spot", "many", "few"] (defScope st__law_table) := ⟨rfl, rfl, rfl, by decide +kernel, rfl, by decide +kernel, by decide +kernel⟩
abbrev names__law_table_changed : List Str := ["row", "spot", "value", "at", "kind"]
theorem sc__law_table_changed : FnScope names__law_table_changed ["row", "spot", "value"] (defScope st__law_table_changed) := ⟨rfl, rfl, rfl, by decide +kernel, rfl, by decide +kernel, by decide +kernel⟩
abbrev names_law : List Str := ["script", "row", "spot", "few", "table", "handed", "again", "changed", "full", "k"]
theorem sc_law : FnScope names_law ["script"] (defScope st_law) := ⟨rfl, rfl, rfl, by decide +kernel, rfl, by decide +kernel, by decide +kernel⟩
structure Env (K : Frag) (mg : Str → Option Value) : Type where
  d_is_whole : FuncData
  F_is_whole : FnP K "is_whole" st_is_whole (He.ga K "is_whole") d_is_whole
  g_is_whole : mg "is_whole" = some (.ref (He.ga K "is_whole"))
  d_is_sequence : FuncData
  F_is_sequence : FnP K "is_sequence" st_is_sequence (He.ga K "is_sequence") d_is_sequence
  g_is_sequence : mg "is_sequence" = some (.ref (He.ga K "is_sequence"))
  d_is_triple : FuncData
  F_is_triple : FnP K "is_triple" st_is_triple (He.ga K "is_triple") d_is_triple
  g_is_triple : mg "is_triple" = some (.ref (He.ga K "is_triple"))
  d_is_word : FuncData
  F_is_word : FnP K "is_word" st_is_word (He.ga K "is_word") d_is_word
  g_is_word : mg "is_word" = some (.ref (He.ga K "is_word"))
  d_is_short : FuncData
  F_is_short : FnP K "is_short" st_is_short (He.ga K "is_short") d_is_short
  g_is_short : mg "is_short" = some (.ref (He.ga K "is_short"))
  d_is_rising : FuncData
  F_is_rising : FnP K "is_rising" st_is_rising (He.ga K "is_rising") d_is_rising
  g_is_rising : mg "is_rising" = some (.ref (He.ga K "is_rising"))
  d_is_table : FuncData
  F_is_table : FnP K "is_table" st_is_table (He.ga K "is_table") d_is_table
  g_is_table : mg "is_table" = some (.ref (He.ga K "is_table"))
  d_is_fault : FuncData
  F_is_fault : FnP K "is_fault" st_is_fault (He.ga K "is_fault") d_is_fault
  g_is_fault : mg "is_fault" = some (.ref (He.ga K "is_fault"))
  d_is_piece : FuncData
  F_is_piece : FnP K "is_piece" st_is_piece (He.ga K "is_piece") d_is_piece
  g_is_piece : mg "is_piece" = some (.ref (He.ga K "is_piece"))
  d__law_so : FuncData
  F__law_so : FnP K "_law_so" st__law_so (He.ga K "_law_so") d__law_so
  g__law_so : mg "_law_so" = some (.ref (He.ga K "_law_so"))
  d__law_numbers : FuncData
  F__law_numbers : FnP K "_law_numbers" st__law_numbers (He.ga K "_law_numbers") d__law_numbers
  g__law_numbers : mg "_law_numbers" = some (.ref (He.ga K "_law_numbers"))
  d__law_draw : FuncData
  F__law_draw : FnP K "_law_draw" st__law_draw (He.ga K "_law_draw") d__law_draw
  g__law_draw : mg "_law_draw" = some (.ref (He.ga K "_law_draw"))
  d__law_take : FuncData
  F__law_take : FnP K "_law_take" st__law_take (He.ga K "_law_take") d__law_take
  g__law_take : mg "_law_take" = some (.ref (He.ga K "_law_take"))
  d__law_whole : FuncData
  F__law_whole : FnP K "_law_whole" st__law_whole (He.ga K "_law_whole") d__law_whole
  g__law_whole : mg "_law_whole" = some (.ref (He.ga K "_law_whole"))
  d__law_listed : FuncData
  F__law_listed : FnP K "_law_listed" st__law_listed (He.ga K "_law_listed") d__law_listed
  g__law_listed : mg "_law_listed" = some (.ref (He.ga K "_law_listed"))
  d__law_tupled : FuncData
  F__law_tupled : FnP K "_law_tupled" st__law_tupled (He.ga K "_law_tupled") d__law_tupled
  g__law_tupled : mg "_law_tupled" = some (.ref (He.ga K "_law_tupled"))
  d__law_handed : FuncData
  F__law_handed : FnP K "_law_handed" st__law_handed (He.ga K "_law_handed") d__law_handed
  g__law_handed : mg "_law_handed" = some (.ref (He.ga K "_law_handed"))
  d__law_levels : FuncData
  F__law_levels : FnP K "_law_levels" st__law_levels (He.ga K "_law_levels") d__law_levels
  g__law_levels : mg "_law_levels" = some (.ref (He.ga K "_law_levels"))
  d__law_is_string : FuncData
  F__law_is_string : FnP K "_law_is_string" st__law_is_string (He.ga K "_law_is_string") d__law_is_string
  g__law_is_string : mg "_law_is_string" = some (.ref (He.ga K "_law_is_string"))
  d__law_is_table : FuncData
  F__law_is_table : FnP K "_law_is_table" st__law_is_table (He.ga K "_law_is_table") d__law_is_table
  g__law_is_table : mg "_law_is_table" = some (.ref (He.ga K "_law_is_table"))
  d__law_letters : FuncData
  F__law_letters : FnP K "_law_letters" st__law_letters (He.ga K "_law_letters") d__law_letters
  g__law_letters : mg "_law_letters" = some (.ref (He.ga K "_law_letters"))
  d__law_few : FuncData
  F__law_few : FnP K "_law_few" st__law_few (He.ga K "_law_few") d__law_few
  g__law_few : mg "_law_few" = some (.ref (He.ga K "_law_few"))
  d__law_table : FuncData
  F__law_table : FnP K "_law_table" st__law_table (He.ga K "_law_table") d__law_table
  g__law_table : mg "_law_table" = some (.ref (He.ga K "_law_table"))
  d__law_table_changed : FuncData
  F__law_table_changed : FnP K "_law_table_changed" st__law_table_changed (He.ga K "_law_table_changed") d__law_table_changed
  g__law_table_changed : mg "_law_table_changed" = some (.ref (He.ga K "_law_table_changed"))
  d_law : FuncData
  F_law : FnP K "law" st_law (He.ga K "law") d_law
  g_law : mg "law" = some (.ref (He.ga K "law"))
  c_GREATEST_FAULT : ∃ t, mg "GREATEST_FAULT" = some (.int 9 t)
  c_LETTERS : ∃ t, mg "LETTERS" = some (.str "abcdef" t)
  c_MOST_FAULTS : ∃ t, mg "MOST_FAULTS" = some (.int 8 t)
  c_MOST_IN_PIECE : ∃ t, mg "MOST_IN_PIECE" = some (.int 2 t)
  z_all : mg "all" = none
  z_bool : mg "bool" = none
  z_int : mg "int" = none
  z_isinstance : mg "isinstance" = none
  z_len : mg "len" = none
  z_list : mg "list" = none
  z_range : mg "range" = none
  z_sorted : mg "sorted" = none
  z_str : mg "str" = none
  z_tuple : mg "tuple" = none
section
variable {K : Frag} {mg : Str → Option Value} {P : Program} {w : World} {base : Heap}
theorem Env.b_is_whole (E : Env K mg) : Binds K E.d_is_whole ["value", "low", "high"] [] := FunD.bindsN E.F_is_whole fun _ _ _ _ _ _ us hl => match us, hl with | [_, _, _], _ => rfl
theorem Env.b_is_sequence (E : Env K mg) : Binds K E.d_is_sequence ["value"] [] := FunD.bindsN E.F_is_sequence fun _ _ _ _ _ _ us hl => match us, hl with | [_], _ => rfl
theorem Env.b_is_triple (E : Env K mg) : Binds K E.d_is_triple ["value"] [] := FunD.bindsN E.F_is_triple fun _ _ _ _ _ _ us hl => match us, hl with | [_], _ => rfl
theorem Env.b_is_word (E : Env K mg) : Binds K E.d_is_word ["value"] [] := FunD.bindsN E.F_is_word fun _ _ _ _ _ _ us hl => match us, hl with | [_], _ => rfl
theorem Env.b_is_short (E : Env K mg) : Binds K E.d_is_short ["value", "most"] [] := FunD.bindsN E.F_is_short fun _ _ _ _ _ _ us hl => match us, hl with | [_, _], _ => rfl
theorem Env.b_is_rising (E : Env K mg) : Binds K E.d_is_rising ["rows"] [] := FunD.bindsN E.F_is_rising fun _ _ _ _ _ _ us hl => match us, hl with | [_], _ => rfl
theorem Env.b_is_table (E : Env K mg) : Binds K E.d_is_table ["value"] [] := FunD.bindsN E.F_is_table fun _ _ _ _ _ _ us hl => match us, hl with | [_], _ => rfl
theorem Env.b_is_fault (E : Env K mg) : Binds K E.d_is_fault ["value"] [] := FunD.bindsN E.F_is_fault fun _ _ _ _ _ _ us hl => match us, hl with | [_], _ => rfl
theorem Env.b_is_piece (E : Env K mg) : Binds K E.d_is_piece ["value"] [] := FunD.bindsN E.F_is_piece fun _ _ _ _ _ _ us hl => match us, hl with | [_], _ => rfl
theorem Env.b__law_so (E : Env K mg) : Binds K E.d__law_so ["found", "wanted"] [] := FunD.bindsN E.F__law_so fun _ _ _ _ _ _ us hl => match us, hl with | [_, _], _ => rfl
theorem Env.b__law_numbers (E : Env K mg) : Binds K E.d__law_numbers ["script"] [] := FunD.bindsN E.F__law_numbers fun _ _ _ _ _ _ us hl => match us, hl with | [_], _ => rfl
theorem Env.b__law_draw (E : Env K mg) : Binds K E.d__law_draw ["row", "at", "limit"] [] := FunD.bindsN E.F__law_draw fun _ _ _ _ _ _ us hl => match us, hl with | [_, _, _], _ => rfl
theorem Env.b__law_take (E : Env K mg) : Binds K E.d__law_take ["row", "spot", "limit"] [] := FunD.bindsN E.F__law_take fun _ _ _ _ _ _ us hl => match us, hl with | [_, _, _], _ => rfl
theorem Env.b__law_whole (E : Env K mg) : Binds K E.d__law_whole ["value"] [] := FunD.bindsN E.F__law_whole fun _ _ _ _ _ _ us hl => match us, hl with | [_], _ => rfl
theorem Env.b__law_listed (E : Env K mg) : Binds K E.d__law_listed ["value"] [] := FunD.bindsN E.F__law_listed fun _ _ _ _ _ _ us hl => match us, hl with | [_], _ => rfl
theorem Env.b__law_tupled (E : Env K mg) : Binds K E.d__law_tupled ["value"] [] := FunD.bindsN E.F__law_tupled fun _ _ _ _ _ _ us hl => match us, hl with | [_], _ => rfl
theorem Env.b__law_handed (E : Env K mg) : Binds K E.d__law_handed ["row", "spot", "value"] [] := FunD.bindsN E.F__law_handed fun _ _ _ _ _ _ us hl => match us, hl with | [_, _, _], _ => rfl
theorem Env.b__law_levels (E : Env K mg) : Binds K E.d__law_levels ["row", "spot", "value"] [] := FunD.bindsN E.F__law_levels fun _ _ _ _ _ _ us hl => match us, hl with | [_, _, _], _ => rfl
theorem Env.b__law_is_string (E : Env K mg) : Binds K E.d__law_is_string ["value", "most"] [] := FunD.bindsN E.F__law_is_string fun _ _ _ _ _ _ us hl => match us, hl with | [_, _], _ => rfl
theorem Env.b__law_is_table (E : Env K mg) : Binds K E.d__law_is_table ["value"] [] := FunD.bindsN E.F__law_is_table fun _ _ _ _ _ _ us hl => match us, hl with | [_], _ => rfl
theorem Env.b__law_letters (E : Env K mg) : Binds K E.d__law_letters ["row", "spot", "most", "few"] [] := FunD.bindsN E.F__law_letters fun _ _ _ _ _ _ us hl => match us, hl with | [_, _, _, _], _ => rfl
theorem Env.b__law_few (E : Env K mg) : Binds K E.d__law_few ["row", "spot", "sizes"] [] := FunD.bindsN E.F__law_few fun _ _ _ _ _ _ us hl => match us, hl with | [_, _, _], _ => rfl
theorem Env.b__law_table (E : Env K mg) : Binds K E.d__law_table ["row", "spot", "many", "few"] [] := FunD.bindsN E.F__law_table fun _ _ _ _ _ _ us hl => match us, hl with | [_, _, _, _], _ => rfl
theorem Env.b__law_table_changed (E : Env K mg) : Binds K E.d__law_table_changed ["row", "spot", "value"] [] := FunD.bindsN E.F__law_table_changed fun _ _ _ _ _ _ us hl => match us, hl with | [_, _, _], _ => rfl
theorem Env.b_law (E : Env K mg) : Binds K E.d_law ["script"] [] := FunD.bindsN E.F_law fun _ _ _ _ _ _ us hl => match us, hl with | [_], _ => rfl
theorem Env.k_is_table_0_1 (E : Env K mg) : KwTo E.d_is_table ["value"] 0 ["value"] := kwTo E.F_is_table fun _ _ _ _ _ _ us ws hu hw => match us, ws, hu, hw with | [], [_], _, _ => rfl
set_option maxHeartbeats 4000000 in
theorem ok_is_whole (E : Env K mg)  : FnOk P w K mg base CX0 1 (He.ga K "is_whole") E.d_is_whole ["value", "low", "high"] (sp_is_whole K) := by
  refine E.F_is_whole.ok sc_is_whole (fun vs H Q E' h => len_is_whole h) (fun cdv A outer s H vs Q E' hr h => ⟨(t_is_whole K), PSs.nox ?_, pure_is_whole vs H Q E' h⟩)
  exact (pss_one (ps_ret (pe_and (pe_callB call_isiU (by rfl) E.z_isinstance (by decide +kernel) (pa_cons (pv 0) (pa_cons (pe_bltn (v := .ty "int") rfl E.z_int (by decide +kernel) rfl) pa_nil))) (pe_and (pe_not (pe_callB call_isiU (by rfl) E.z_isinstance (by decide +kernel) (pa_cons (pv 0) (pa_cons (pe_bltn (v := .ty "bool") rfl E.z_bool (by decide +kernel) rfl) pa_nil)))) (pe_one (pe_chain (op_leD hr.units) (op_leD hr.units) (pv 1) (pv 0) (pv 2)))))))
set_option maxHeartbeats 4000000 in
theorem ok_is_sequence (E : Env K mg)  : FnOk P w K mg base CX0 1 (He.ga K "is_sequence") E.d_is_sequence ["value"] (sp_is_sequence K) := by
  refine E.F_is_sequence.ok sc_is_sequence (fun vs H Q E' h => len_is_sequence h) (fun cdv A outer s H vs Q E' hr h => ⟨(t_is_sequence K), PSs.nox ?_, pure_is_sequence vs H Q E' h⟩)
  exact (pss_one (ps_ret (pe_callB call_isiU (by rfl) E.z_isinstance (by decide +kernel) (pa_cons (pv 0) (pa_cons (pe_tup (pa_cons (pe_bltn (v := .ty "list") rfl E.z_list (by decide +kernel) rfl) (pa_cons (pe_bltn (v := .ty "tuple") rfl E.z_tuple (by decide +kernel) rfl) pa_nil))) pa_nil)))))
set_option maxHeartbeats 4000000 in
theorem ok_is_triple (E : Env K mg) (G_is_sequence : FnOk P w K mg base CX0 1 (He.ga K "is_sequence") E.d_is_sequence ["value"] (sp_is_sequence K)) : FnOk P w K mg base CX0 2 (He.ga K "is_triple") E.d_is_triple ["value"] (sp_is_triple K) := by
  refine E.F_is_triple.ok sc_is_triple (fun vs H Q E' h => len_is_triple h) (fun cdv A outer s H vs Q E' hr h => ⟨(t_is_triple K), PSs.nox ?_, pure_is_triple vs H Q E' h⟩)
  exact (pss_one (ps_ret (pe_and (pe_call G_is_sequence (hr.mono (by decide)) rfl E.g_is_sequence E.F_is_sequence.kp E.b_is_sequence .nil pass0 (pa_cons (pv 0) pa_nil)) (pe_one (pe_cmpR (op_eqU hr.units) (pe_callB call_lenU (by rfl) E.z_len (by decide +kernel) (pa_cons (pv 0) pa_nil)) pe_int (nomark _))))))
set_option maxHeartbeats 4000000 in
theorem ok_is_word (E : Env K mg)  : FnOk P w K mg base CX0 1 (He.ga K "is_word") E.d_is_word ["value"] (sp_is_word K) := by
  refine E.F_is_word.ok sc_is_word (fun vs H Q E' h => len_is_word h) (fun cdv A outer s H vs Q E' hr h => ⟨(t_is_word K), PSs.nox ?_, pure_is_word vs H Q E' h⟩)
  exact (pss_one (ps_ret (pe_and (pe_callB call_isiU (by rfl) E.z_isinstance (by decide +kernel) (pa_cons (pv 0) (pa_cons (pe_bltn (v := .ty "str") rfl E.z_str (by decide +kernel) rfl) pa_nil))) (pe_one (pe_callB (cr_all rfl) (by rfl) E.z_all (by decide +kernel) (pa_cons (pe_lc (own := [("letter", 1)]) (g := (gName 1)) (tt := tYes) rfl sc_is_word.nd (pi_seq (pv 0)) (blkOk_by (own := [("letter", 1)]) (N := names_is_word) (sc := defScope st_is_word) (by decide +kernel)) (fun _ _ _ _ _ => (pg_name (i := 1) sc_is_word.nd rfl (by first | exact Or.inl rfl | exact Or.inr rfl))) (fun _ _ _ _ _ => pts_nil) (fun _ _ _ _ _ => (pe_cmpR (op_inU (hu_of hr)) (pv 1) (pe_glob rfl E.c_LETTERS.choose_spec ⟨_, rfl⟩) (by rfl)))) pa_nil))))))
set_option maxHeartbeats 4000000 in
theorem ok_is_short (E : Env K mg) (G_is_word : FnOk P w K mg base CX0 1 (He.ga K "is_word") E.d_is_word ["value"] (sp_is_word K)) : FnOk P w K mg base CX0 2 (He.ga K "is_short") E.d_is_short ["value", "most"] (sp_is_short K) := by
  refine E.F_is_short.ok sc_is_short (fun vs H Q E' h => len_is_short h) (fun cdv A outer s H vs Q E' hr h => ⟨(t_is_short K), PSs.nox ?_, pure_is_short vs H Q E' h⟩)
  exact (pss_one (ps_ret (pe_and (pe_call G_is_word (hr.mono (by decide)) rfl E.g_is_word E.F_is_word.kp E.b_is_word .nil pass0 (pa_cons (pv 0) pa_nil)) (pe_one (pe_cmpR (op_leD hr.units) (pe_callB call_lenU (by rfl) E.z_len (by decide +kernel) (pa_cons (pv 0) pa_nil)) (pv 1) (nomark _))))))
set_option maxHeartbeats 4000000 in
theorem ok_is_rising (E : Env K mg)  : FnOk P w K mg base CX0 1 (He.ga K "is_rising") E.d_is_rising ["rows"] (sp_is_rising K) := by
  refine E.F_is_rising.ok sc_is_rising (fun vs H Q E' h => len_is_rising h) (fun cdv A outer s H vs Q E' hr h => ⟨(t_is_rising K), PSs.nox ?_, pure_is_rising vs H Q E' h⟩)
  exact (pss_one (ps_ret (pe_callB (cr_all rfl) (by rfl) E.z_all (by decide +kernel) (pa_cons (pe_lc (own := [("at", 1)]) (g := (gName 1)) (tt := tYes) rfl sc_is_rising.nd (pi_range1 (by rfl) E.z_range (pa_cons (pe_op op_sub (pe_callB call_lenU (by rfl) E.z_len (by decide +kernel) (pa_cons (pv 0) pa_nil)) pe_int) pa_nil)) (blkOk_by (own := [("at", 1)]) (N := names_is_rising) (sc := defScope st_is_rising) (by decide +kernel)) (fun _ _ _ _ _ => (pg_name (i := 1) sc_is_rising.nd rfl (by first | exact Or.inl rfl | exact Or.inr rfl))) (fun _ _ _ _ _ => pts_nil) (fun _ _ _ _ _ => (pe_cmpR (op_ltD hr.units) (pe_ixU (hu_of hr) (pv 0) (pv 1) (fun _ _ => rfl) (fun _ _ => rfl)) (pe_ixU (hu_of hr) (pv 0) (pe_op op_addU (pv 1) pe_int) (fun _ _ => rfl) (fun _ _ => rfl)) (nomark _)))) pa_nil))))
set_option maxHeartbeats 4000000 in
theorem ok_is_table (E : Env K mg) (G_is_sequence : FnOk P w K mg base CX0 1 (He.ga K "is_sequence") E.d_is_sequence ["value"] (sp_is_sequence K)) (G_is_fault : FnOk P w K mg base CX0 4 (He.ga K "is_fault") E.d_is_fault ["value"] (sp_is_fault K)) (G_is_rising : FnOk P w K mg base CX0 1 (He.ga K "is_rising") E.d_is_rising ["rows"] (sp_is_rising K)) : FnOk P w K mg base CX0 5 (He.ga K "is_table") E.d_is_table ["value"] (sp_is_table K) := by
  refine E.F_is_table.ok sc_is_table (fun vs H Q E' h => len_is_table h) (fun cdv A outer s H vs Q E' hr h => ⟨(t_is_table K), PSs.nox ?_, pure_is_table vs H Q E' h⟩)
  exact (pss_cons (ps_if (PW.pt (pw_or (pt_not (pt_val (pe_call G_is_sequence (hr.mono (by decide)) rfl E.g_is_sequence E.F_is_sequence.kp E.b_is_sequence .nil pass0 (pa_cons (pv 0) pa_nil)))) (pw_or1 (pt_cmpR (op_gtD hr.units) (pe_callB call_lenU (by rfl) E.z_len (by decide +kernel) (pa_cons (pv 0) pa_nil)) (pe_glob rfl E.c_MOST_FAULTS.choose_spec ⟨_, rfl⟩) (nomark _))))) (pss_one (ps_ret pe_bl)) pss_nil) (pss_cons (ps_if (pt_not (pt_val (pe_callB (cr_all rfl) (by rfl) E.z_all (by decide +kernel) (pa_cons (pe_lc (own := [("fault", 1)]) (g := (gName 1)) (tt := tYes) rfl sc_is_table.nd (pi_seq (pv 0)) (blkOk_by (own := [("fault", 1)]) (N := names_is_table) (sc := defScope st_is_table) (by decide +kernel)) (fun _ _ _ _ _ => (pg_name (i := 1) sc_is_table.nd rfl (by first | exact Or.inl rfl | exact Or.inr rfl))) (fun _ _ _ _ _ => pts_nil) (fun _ _ _ _ _ => (pe_call G_is_fault (hr.mono (by decide)) rfl E.g_is_fault E.F_is_fault.kp E.b_is_fault .nil pass0 (pa_cons (pv 1) pa_nil)))) pa_nil)))) (pss_one (ps_ret pe_bl)) pss_nil) (pss_one (ps_ret (pe_call G_is_rising (hr.mono (by decide)) rfl E.g_is_rising E.F_is_rising.kp E.b_is_rising .nil pass0 (pa_cons (pe_lc (own := [("fault", 1)]) (g := (gName 1)) (tt := tYes) rfl sc_is_table.nd (pi_seq (pv 0)) (blkOk_by (own := [("fault", 1)]) (N := names_is_table) (sc := defScope st_is_table) (by decide +kernel)) (fun _ _ _ _ _ => (pg_name (i := 1) sc_is_table.nd rfl (by first | exact Or.inl rfl | exact Or.inr rfl))) (fun _ _ _ _ _ => pts_nil) (fun _ _ _ _ _ => (pe_tup (pa_cons (pe_ixU (hu_of hr) (pv 1) pe_int (fun _ _ => rfl) (fun _ _ => rfl)) (pa_cons (pe_ixU (hu_of hr) (pv 1) pe_int (fun _ _ => rfl) (fun _ _ => rfl)) pa_nil))))) pa_nil))))))
set_option maxHeartbeats 4000000 in
theorem ok_is_fault (E : Env K mg) (G_is_triple : FnOk P w K mg base CX0 2 (He.ga K "is_triple") E.d_is_triple ["value"] (sp_is_triple K)) (G_is_piece : FnOk P w K mg base CX0 3 (He.ga K "is_piece") E.d_is_piece ["value"] (sp_is_piece K)) (G_is_whole : FnOk P w K mg base CX0 1 (He.ga K "is_whole") E.d_is_whole ["value", "low", "high"] (sp_is_whole K)) : FnOk P w K mg base CX0 4 (He.ga K "is_fault") E.d_is_fault ["value"] (sp_is_fault K) := by
  refine E.F_is_fault.ok sc_is_fault (fun vs H Q E' h => len_is_fault h) (fun cdv A outer s H vs Q E' hr h => ⟨(t_is_fault K), PSs.nox ?_, pure_is_fault vs H Q E' h⟩)
  exact (pss_cons (ps_if (pt_not (pt_val (pe_call G_is_triple (hr.mono (by decide)) rfl E.g_is_triple E.F_is_triple.kp E.b_is_triple .nil pass0 (pa_cons (pv 0) pa_nil)))) (pss_one (ps_ret pe_bl)) pss_nil) (pss_cons (ps_asg (pv 0) (pg_seq (n := 3) rfl (pgs_cons (pg_name (i := 1) sc_is_fault.nd rfl (by first | exact Or.inl rfl | exact Or.inr rfl)) (pgs_cons (pg_name (i := 2) sc_is_fault.nd rfl (by first | exact Or.inl rfl | exact Or.inr rfl)) (pgs_cons (pg_name (i := 3) sc_is_fault.nd rfl (by first | exact Or.inl rfl | exact Or.inr rfl)) pgs_nil))))) (pss_cons (ps_if (PW.pt (pw_or (pt_not (pt_val (pe_call G_is_piece (hr.mono (by decide)) rfl E.g_is_piece E.F_is_piece.kp E.b_is_piece .nil pass0 (pa_cons (pv 1) pa_nil)))) (pw_or (pt_not (pt_val (pe_call G_is_piece (hr.mono (by decide)) rfl E.g_is_piece E.F_is_piece.kp E.b_is_piece .nil pass0 (pa_cons (pv 2) pa_nil)))) (pw_or1 (pt_cmpR (op_eqU hr.units) (pv 1) (pv 2) (nomark _)))))) (pss_one (ps_ret pe_bl)) pss_nil) (pss_one (ps_ret (pe_call G_is_whole (hr.mono (by decide)) rfl E.g_is_whole E.F_is_whole.kp E.b_is_whole .nil pass0 (pa_cons (pv 3) (pa_cons pe_int (pa_cons (pe_glob rfl E.c_GREATEST_FAULT.choose_spec ⟨_, rfl⟩) pa_nil)))))))))
set_option maxHeartbeats 4000000 in
theorem ok_is_piece (E : Env K mg) (G_is_short : FnOk P w K mg base CX0 2 (He.ga K "is_short") E.d_is_short ["value", "most"] (sp_is_short K)) : FnOk P w K mg base CX0 3 (He.ga K "is_piece") E.d_is_piece ["value"] (sp_is_piece K) := by
  refine E.F_is_piece.ok sc_is_piece (fun vs H Q E' h => len_is_piece h) (fun cdv A outer s H vs Q E' hr h => ⟨(t_is_piece K), PSs.nox ?_, pure_is_piece vs H Q E' h⟩)
  exact (pss_one (ps_ret (pe_call G_is_short (hr.mono (by decide)) rfl E.g_is_short E.F_is_short.kp E.b_is_short .nil pass0 (pa_cons (pv 0) (pa_cons (pe_glob rfl E.c_MOST_IN_PIECE.choose_spec ⟨_, rfl⟩) pa_nil)))))
set_option maxHeartbeats 4000000 in
theorem ok__law_so {n : Nat} (E : Env K mg) (G_self : FnOk P w K mg base CX0 (n + 1) (He.ga K "_law_so") E.d__law_so ["found", "wanted"] (sp__law_so K n)) : FnOk P w K mg base CX0 (n + 1 + 1) (He.ga K "_law_so") E.d__law_so ["found", "wanted"] (sp__law_so K (n + 1)) := by
  refine E.F__law_so.ok sc__law_so (fun vs H Q E' h => len__law_so h) (fun cdv A outer s H vs Q E' hr h => ⟨(t__law_so K n), PSs.nox ?_, pure__law_so vs H Q E' h⟩)
  exact (pss_cons (ps_if (pt_cmpR op_isN1 (pv 1) pe_non (nomark _)) (pss_one (ps_ret (pe_cmpR op_isN1 (pv 0) pe_non (nomark _)))) pss_nil) (pss_cons (ps_if (pt_val (pe_callB call_isiU (by rfl) E.z_isinstance (by decide +kernel) (pa_cons (pv 1) (pa_cons (pe_bltn (v := .ty "tuple") rfl E.z_tuple (by decide +kernel) rfl) pa_nil)))) (pss_cons (ps_if (PW.pt (pw_or (pt_not (pt_val (pe_callB call_isiU (by rfl) E.z_isinstance (by decide +kernel) (pa_cons (pv 0) (pa_cons (pe_bltn (v := .ty "tuple") rfl E.z_tuple (by decide +kernel) rfl) pa_nil))))) (pw_or1 (pt_cmpR (op_neU hr.units) (pe_callB call_lenU (by rfl) E.z_len (by decide +kernel) (pa_cons (pv 0) pa_nil)) (pe_callB call_lenU (by rfl) E.z_len (by decide +kernel) (pa_cons (pv 1) pa_nil)) (nomark _))))) (pss_one (ps_ret pe_bl)) pss_nil) (pss_cons (ps_for PassesOwn.never rfl (pi_range1 (by rfl) E.z_range (pa_cons (pe_callB call_lenU (by rfl) E.z_len (by decide +kernel) (pa_cons (pv 1) pa_nil)) pa_nil)) (pg_name (i := 2) sc__law_so.nd rfl (by first | exact Or.inl rfl | exact Or.inr rfl)) (pss_one (ps_if (pt_not (pt_val (pe_call G_self hr rfl E.g__law_so E.F__law_so.kp E.b__law_so .nil pass0 (pa_cons (pe_ixU (hu_of hr) (pv 0) (pv 2) (fun _ _ => rfl) (fun _ _ => rfl)) (pa_cons (pe_ixU (hu_of hr) (pv 1) (pv 2) (fun _ _ => rfl) (fun _ _ => rfl)) pa_nil))))) (pss_one (ps_ret pe_bl)) pss_nil))) (pss_one (ps_ret pe_bl)))) pss_nil) (pss_cons (ps_if (PW.pt (pw_or (pt_val (pe_callB call_isiU (by rfl) E.z_isinstance (by decide +kernel) (pa_cons (pv 1) (pa_cons (pe_bltn (v := .ty "bool") rfl E.z_bool (by decide +kernel) rfl) pa_nil)))) (pw_or1 (pt_val (pe_callB call_isiU (by rfl) E.z_isinstance (by decide +kernel) (pa_cons (pv 0) (pa_cons (pe_bltn (v := .ty "bool") rfl E.z_bool (by decide +kernel) rfl) pa_nil))))))) (pss_one (ps_ret (pe_and (pe_callB call_isiU (by rfl) E.z_isinstance (by decide +kernel) (pa_cons (pv 1) (pa_cons (pe_bltn (v := .ty "bool") rfl E.z_bool (by decide +kernel) rfl) pa_nil))) (pe_and (pe_callB call_isiU (by rfl) E.z_isinstance (by decide +kernel) (pa_cons (pv 0) (pa_cons (pe_bltn (v := .ty "bool") rfl E.z_bool (by decide +kernel) rfl) pa_nil))) (pe_one (pe_cmpR (op_eqU hr.units) (pv 0) (pv 1) (nomark _))))))) pss_nil) (pss_cons (ps_if (pt_val (pe_callB call_isiU (by rfl) E.z_isinstance (by decide +kernel) (pa_cons (pv 1) (pa_cons (pe_bltn (v := .ty "int") rfl E.z_int (by decide +kernel) rfl) pa_nil)))) (pss_one (ps_ret (pe_and (pe_callB call_isiU (by rfl) E.z_isinstance (by decide +kernel) (pa_cons (pv 0) (pa_cons (pe_bltn (v := .ty "int") rfl E.z_int (by decide +kernel) rfl) pa_nil))) (pe_one (pe_cmpR (op_eqU hr.units) (pv 0) (pv 1) (nomark _)))))) pss_nil) (pss_one (ps_ret (pe_and (pe_callB call_isiU (by rfl) E.z_isinstance (by decide +kernel) (pa_cons (pv 1) (pa_cons (pe_bltn (v := .ty "str") rfl E.z_str (by decide +kernel) rfl) pa_nil))) (pe_and (pe_callB call_isiU (by rfl) E.z_isinstance (by decide +kernel) (pa_cons (pv 0) (pa_cons (pe_bltn (v := .ty "str") rfl E.z_str (by decide +kernel) rfl) pa_nil))) (pe_one (pe_cmpR (op_eqU hr.units) (pv 0) (pv 1) (nomark _)))))))))))
set_option maxHeartbeats 4000000 in
theorem ok__law_numbers (E : Env K mg)  : FnOk P w K mg base CX0 1 (He.ga K "_law_numbers") E.d__law_numbers ["script"] (sp__law_numbers K) := by
  refine E.F__law_numbers.ok sc__law_numbers (fun vs H Q E' h => len__law_numbers h) (fun cdv A outer s H vs Q E' hr h => ⟨(t__law_numbers K), PSs.nox ?_, pure__law_numbers vs H Q E' h⟩)
  exact (pss_cons (ps_set (i := 1) sc__law_numbers.nd rfl (by first | exact Or.inl rfl | exact Or.inr rfl) (pe_lst pa_nil)) (pss_cons (ps_for PassesOwn.never rfl (pi_seq (pe_slice sl_U (pv 0) po_none (po_some pe_int))) (pg_name (i := 2) sc__law_numbers.nd rfl (by first | exact Or.inl rfl | exact Or.inr rfl)) (pss_one (ps_if (pt_cmpR (op_geD hr.units) (pv 2) (pe_op op_powI pe_int pe_int) (nomark _)) (pss_cons (ps_set (i := 3) sc__law_numbers.nd rfl (by first | exact Or.inl rfl | exact Or.inr rfl) (pv 2)) (pss_one (ps_for PassesOwn.never rfl (pi_range1 (by rfl) E.z_range (pa_cons pe_int pa_nil)) (pg_name (i := 4) sc__law_numbers.nd rfl (by first | exact Or.inl rfl | exact Or.inr rfl)) (pss_cons (ps_if (pt_cmpR (op_eqU hr.units) (pv 3) pe_int (nomark _)) (pss_one ps_break) pss_nil) (pss_cons (ps_expr (pe_bm PySem.F.plainAttrs_list PySem.F.slot_list_append PySem.F.type_list_append mt_append (pv 1) (pa_cons (pe_op op_modI (pe_callTy call_intOf (by rfl) E.z_int (by decide +kernel) (pa_cons (pv 3) pa_nil)) pe_int) pa_nil))) (pss_one (ps_set (i := 3) sc__law_numbers.nd rfl (by first | exact Or.inl rfl | exact Or.inr rfl) (pe_op op_fdivI (pv 3) pe_int)))))))) (pss_one (ps_for PassesOwn.never rfl (pi_range1 (by rfl) E.z_range (pa_cons pe_int pa_nil)) (pg_name (i := 4) sc__law_numbers.nd rfl (by first | exact Or.inl rfl | exact Or.inr rfl)) (pss_cons (ps_set (i := 5) sc__law_numbers.nd rfl (by first | exact Or.inl rfl | exact Or.inr rfl) (pe_op op_modI (pe_callTy call_intOf (by rfl) E.z_int (by decide +kernel) (pa_cons (pe_op op_addU (pe_op op_addU (pe_op op_mulI (pv 2) pe_int) (pe_op op_mulI (pv 4) pe_int)) pe_int) pa_nil)) pe_int)) (pss_one (ps_expr (pe_bm PySem.F.plainAttrs_list PySem.F.slot_list_append PySem.F.type_list_append mt_append (pv 1) (pa_cons (pe_op op_modI (pe_callTy call_intOf (by rfl) E.z_int (by decide +kernel) (pa_cons (pe_op op_addU (pe_op op_mulI (pv 5) pe_int) (pv 4)) pa_nil)) pe_int) pa_nil)))))))))) (pss_cons (ps_if (pt_cmpR (op_eqU hr.units) (pe_callB call_lenU (by rfl) E.z_len (by decide +kernel) (pa_cons (pv 1) pa_nil)) pe_int (nomark _)) (pss_one (ps_expr (pe_bm PySem.F.plainAttrs_list PySem.F.slot_list_append PySem.F.type_list_append mt_append (pv 1) (pa_cons pe_int pa_nil)))) pss_nil) (pss_one (ps_ret (pv 1))))))
set_option maxHeartbeats 4000000 in
theorem ok__law_draw (E : Env K mg)  : FnOk P w K mg base CX0 1 (He.ga K "_law_draw") E.d__law_draw ["row", "at", "limit"] (sp__law_draw K) := by
  refine E.F__law_draw.ok sc__law_draw (fun vs H Q E' h => len__law_draw h) (fun cdv A outer s H vs Q E' hr h => ⟨(t__law_draw K), PSs.nox ?_, pure__law_draw vs H Q E' h⟩)
  exact (pss_cons (ps_if (pt_cmpR (op_ltD hr.units) (pv 1) (pe_callB call_lenU (by rfl) E.z_len (by decide +kernel) (pa_cons (pv 0) pa_nil)) (nomark _)) (pss_one (ps_ret (pe_op op_modI (pe_callTy call_intOf (by rfl) E.z_int (by decide +kernel) (pa_cons (pe_ixU (hu_of hr) (pv 0) (pv 1) (fun _ _ => rfl) (fun _ _ => rfl)) pa_nil)) (pv 2)))) pss_nil) (pss_cons (ps_set (i := 3) sc__law_draw.nd rfl (by first | exact Or.inl rfl | exact Or.inr rfl) (pe_op op_modI (pe_callTy call_intOf (by rfl) E.z_int (by decide +kernel) (pa_cons (pe_op op_addU (pe_op op_addU (pe_op op_mulI (pe_ixU (hu_of hr) (pv 0) (pe_op op_modI (pe_callTy call_intOf (by rfl) E.z_int (by decide +kernel) (pa_cons (pv 1) pa_nil)) (pe_callB call_lenU (by rfl) E.z_len (by decide +kernel) (pa_cons (pv 0) pa_nil))) (fun _ _ => rfl) (fun _ _ => rfl)) pe_int) (pe_op op_mulI (pv 1) pe_int)) pe_int) pa_nil)) pe_int)) (pss_one (ps_ret (pe_op op_modI (pe_callTy call_intOf (by rfl) E.z_int (by decide +kernel) (pa_cons (pe_op op_modI (pe_callTy call_intOf (by rfl) E.z_int (by decide +kernel) (pa_cons (pe_op op_addU (pe_op op_mulI (pv 3) pe_int) (pv 1)) pa_nil)) pe_int) pa_nil)) (pv 2))))))
set_option maxHeartbeats 4000000 in
theorem ok__law_take (E : Env K mg) (G__law_draw : FnOk P w K mg base CX0 1 (He.ga K "_law_draw") E.d__law_draw ["row", "at", "limit"] (sp__law_draw K)) : FnOk P w K mg base CX0 2 (He.ga K "_law_take") E.d__law_take ["row", "spot", "limit"] (sp__law_take K) := by
  refine E.F__law_take.ok sc__law_take (fun vs H Q E' h => len__law_take h) (fun cdv A outer s H vs Q E' hr h => ⟨(t__law_take K), PSs.nox ?_, pure__law_take vs H Q E' h⟩)
  exact (pss_cons (ps_asg (pe_op op_addU (pe_ixU (hu_of hr) (pv 1) pe_int (fun _ _ => rfl) (fun _ _ => rfl)) pe_int) (pg_sub (pv 1) pe_int (set_U (hu_of hr)))) (pss_one (ps_ret (pe_call G__law_draw (hr.mono (by decide)) rfl E.g__law_draw E.F__law_draw.kp E.b__law_draw .nil pass0 (pa_cons (pv 0) (pa_cons (pe_op op_sub (pe_ixU (hu_of hr) (pv 1) pe_int (fun _ _ => rfl) (fun _ _ => rfl)) pe_int) (pa_cons (pv 2) pa_nil)))))))
set_option maxHeartbeats 4000000 in
theorem ok__law_whole (E : Env K mg)  : FnOk P w K mg base CX0 1 (He.ga K "_law_whole") E.d__law_whole ["value"] (sp__law_whole K) := by
  refine E.F__law_whole.ok sc__law_whole (fun vs H Q E' h => len__law_whole h) (fun cdv A outer s H vs Q E' hr h => ⟨(t__law_whole K), PSs.nox ?_, pure__law_whole vs H Q E' h⟩)
  exact (pss_one (ps_ret (pe_and (pe_callB call_isiU (by rfl) E.z_isinstance (by decide +kernel) (pa_cons (pv 0) (pa_cons (pe_bltn (v := .ty "int") rfl E.z_int (by decide +kernel) rfl) pa_nil))) (pe_one (pe_not (pe_callB call_isiU (by rfl) E.z_isinstance (by decide +kernel) (pa_cons (pv 0) (pa_cons (pe_bltn (v := .ty "bool") rfl E.z_bool (by decide +kernel) rfl) pa_nil))))))))
set_option maxHeartbeats 4000000 in
theorem ok__law_listed {n : Nat} (E : Env K mg) (G_self : FnOk P w K mg base CX0 (n + 1) (He.ga K "_law_listed") E.d__law_listed ["value"] (sp__law_listed K n)) : FnOk P w K mg base CX0 (n + 1 + 1) (He.ga K "_law_listed") E.d__law_listed ["value"] (sp__law_listed K (n + 1)) := by
  refine E.F__law_listed.ok sc__law_listed (fun vs H Q E' h => len__law_listed h) (fun cdv A outer s H vs Q E' hr h => ⟨(t__law_listed K n), PSs.nox ?_, pure__law_listed vs H Q E' h⟩)
  exact (pss_cons (ps_if (pt_val (pe_callB call_isiU (by rfl) E.z_isinstance (by decide +kernel) (pa_cons (pv 0) (pa_cons (pe_bltn (v := .ty "tuple") rfl E.z_tuple (by decide +kernel) rfl) pa_nil)))) (pss_one (ps_ret (pe_lc (own := [("one", 1)]) (g := (gName 1)) (tt := tYes) rfl sc__law_listed.nd (pi_seq (pv 0)) (blkOk_by (own := [("one", 1)]) (N := names__law_listed) (sc := defScope st__law_listed) (by decide +kernel)) (fun _ _ _ _ _ => (pg_name (i := 1) sc__law_listed.nd rfl (by first | exact Or.inl rfl | exact Or.inr rfl))) (fun _ _ _ _ _ => pts_nil) (fun _ _ _ _ _ => (pe_call G_self hr rfl E.g__law_listed E.F__law_listed.kp E.b__law_listed .nil pass0 (pa_cons (pv 1) pa_nil)))))) pss_nil) (pss_one (ps_ret (pv 0))))
set_option maxHeartbeats 4000000 in
theorem ok__law_tupled {n : Nat} (E : Env K mg) (G_self : FnOk P w K mg base CX0 (n + 1) (He.ga K "_law_tupled") E.d__law_tupled ["value"] (sp__law_tupled K n)) : FnOk P w K mg base CX0 (n + 1 + 1) (He.ga K "_law_tupled") E.d__law_tupled ["value"] (sp__law_tupled K (n + 1)) := by
  refine E.F__law_tupled.ok sc__law_tupled (fun vs H Q E' h => len__law_tupled h) (fun cdv A outer s H vs Q E' hr h => ⟨(t__law_tupled K n), PSs.nox ?_, pure__law_tupled vs H Q E' h⟩)
  exact (pss_cons (ps_if (PW.pt (pw_or (pt_val (pe_callB call_isiU (by rfl) E.z_isinstance (by decide +kernel) (pa_cons (pv 0) (pa_cons (pe_bltn (v := .ty "list") rfl E.z_list (by decide +kernel) rfl) pa_nil)))) (pw_or1 (pt_val (pe_callB call_isiU (by rfl) E.z_isinstance (by decide +kernel) (pa_cons (pv 0) (pa_cons (pe_bltn (v := .ty "tuple") rfl E.z_tuple (by decide +kernel) rfl) pa_nil))))))) (pss_one (ps_ret (pe_callTy call_tupOf (by rfl) E.z_tuple (by decide +kernel) (pa_cons (pe_lc (own := [("one", 1)]) (g := (gName 1)) (tt := tYes) rfl sc__law_tupled.nd (pi_seq (pv 0)) (blkOk_by (own := [("one", 1)]) (N := names__law_tupled) (sc := defScope st__law_tupled) (by decide +kernel)) (fun _ _ _ _ _ => (pg_name (i := 1) sc__law_tupled.nd rfl (by first | exact Or.inl rfl | exact Or.inr rfl))) (fun _ _ _ _ _ => pts_nil) (fun _ _ _ _ _ => (pe_call G_self hr rfl E.g__law_tupled E.F__law_tupled.kp E.b__law_tupled .nil pass0 (pa_cons (pv 1) pa_nil)))) pa_nil)))) pss_nil) (pss_one (ps_ret (pv 0))))
set_option maxHeartbeats 4000000 in
theorem ok__law_handed (E : Env K mg) (G__law_take : FnOk P w K mg base CX0 2 (He.ga K "_law_take") E.d__law_take ["row", "spot", "limit"] (sp__law_take K)) (G__law_listed : FnOk P w K mg base CX0 9 (He.ga K "_law_listed") E.d__law_listed ["value"] (sp__law_listed K 8)) (G__law_levels : FnOk P w K mg base CX0 12 (He.ga K "_law_levels") E.d__law_levels ["row", "spot", "value"] (sp__law_levels K 9)) : FnOk P w K mg base CX0 13 (He.ga K "_law_handed") E.d__law_handed ["row", "spot", "value"] (sp__law_handed K) := by
  refine E.F__law_handed.ok sc__law_handed (fun vs H Q E' h => len__law_handed h) (fun cdv A outer s H vs Q E' hr h => ⟨(t__law_handed K), PSs.nox ?_, pure__law_handed vs H Q E' h⟩)
  exact (pss_cons (ps_set (i := 3) sc__law_handed.nd rfl (by first | exact Or.inl rfl | exact Or.inr rfl) (pe_call G__law_take (hr.mono (by decide)) rfl E.g__law_take E.F__law_take.kp E.b__law_take .nil pass0 (pa_cons (pv 0) (pa_cons (pv 1) (pa_cons pe_int pa_nil))))) (pss_cons (ps_if (pt_cmpR (op_eqU hr.units) (pv 3) pe_int (nomark _)) (pss_one (ps_ret (pe_call G__law_listed (hr.mono (by decide)) rfl E.g__law_listed E.F__law_listed.kp E.b__law_listed .nil pass0 (pa_cons (pv 2) pa_nil)))) pss_nil) (pss_one (ps_ret (pe_ifExp (pt_cmpR (op_eqU hr.units) (pv 3) pe_int (nomark _)) (pe_call G__law_levels (hr.mono (by decide)) rfl E.g__law_levels E.F__law_levels.kp E.b__law_levels .nil pass0 (pa_cons (pv 0) (pa_cons (pv 1) (pa_cons (pv 2) pa_nil)))) (pv 2))))))
set_option maxHeartbeats 4000000 in
theorem ok__law_levels {n : Nat} (E : Env K mg) (G__law_take : FnOk P w K mg base CX0 2 (He.ga K "_law_take") E.d__law_take ["row", "spot", "limit"] (sp__law_take K)) (G_self : FnOk P w K mg base CX0 (n + 3) (He.ga K "_law_levels") E.d__law_levels ["row", "spot", "value"] (sp__law_levels K n)) : FnOk P w K mg base CX0 (n + 3 + 1) (He.ga K "_law_levels") E.d__law_levels ["row", "spot", "value"] (sp__law_levels K (n + 1)) := by
  refine E.F__law_levels.ok sc__law_levels (fun vs H Q E' h => len__law_levels h) (fun cdv A outer s H vs Q E' hr h => ⟨(t__law_levels K n), PSs.nox ?_, pure__law_levels vs H Q E' h⟩)
  exact (pss_cons (ps_if (pt_not (pt_val (pe_callB call_isiU (by rfl) E.z_isinstance (by decide +kernel) (pa_cons (pv 2) (pa_cons (pe_bltn (v := .ty "tuple") rfl E.z_tuple (by decide +kernel) rfl) pa_nil))))) (pss_one (ps_ret (pv 2))) pss_nil) (pss_cons (ps_setLc (i := 3) (own := [("one", 4)]) (g := (gName 4)) (tt := tYes) rfl sc__law_levels.nd rfl rfl (sw_true rfl rfl rfl (by decide +kernel)) (pi_seq (pv 2)) (blkOk_by (own := [("one", 4)]) (N := names__law_levels) (sc := defScope st__law_levels) (by decide +kernel)) (fun _ _ _ _ _ => (pg_name (i := 4) sc__law_levels.nd rfl (by first | exact Or.inl rfl | exact Or.inr rfl))) (fun _ _ _ _ _ => pts_nil) (fun _ _ _ _ _ => (pe_call G_self hr rfl E.g__law_levels E.F__law_levels.kp E.b__law_levels .nil pass0 (pa_cons (pv 0) (pa_cons (pv 1) (pa_cons (pv 4) pa_nil)))))) (pss_one (ps_ret (pe_ifExp (pt_cmpR (op_eqU hr.units) (pe_call G__law_take (hr.mono (by omega)) rfl E.g__law_take E.F__law_take.kp E.b__law_take .nil pass0 (pa_cons (pv 0) (pa_cons (pv 1) (pa_cons pe_int pa_nil)))) pe_int (nomark _)) (pv 3) (pe_callTy call_tupOf (by rfl) E.z_tuple (by decide +kernel) (pa_cons (pv 3) pa_nil)))))))
set_option maxHeartbeats 4000000 in
theorem ok__law_is_string (E : Env K mg)  : FnOk P w K mg base CX0 1 (He.ga K "_law_is_string") E.d__law_is_string ["value", "most"] (sp__law_is_string K) := by
  refine E.F__law_is_string.ok sc__law_is_string (fun vs H Q E' h => len__law_is_string h) (fun cdv A outer s H vs Q E' hr h => ⟨(t__law_is_string K), PSs.nox ?_, pure__law_is_string vs H Q E' h⟩)
  exact (pss_cons (ps_if (PW.pt (pw_or (pt_not (pt_val (pe_callB call_isiU (by rfl) E.z_isinstance (by decide +kernel) (pa_cons (pv 0) (pa_cons (pe_bltn (v := .ty "str") rfl E.z_str (by decide +kernel) rfl) pa_nil))))) (pw_or1 (pt_cmpR (op_gtD hr.units) (pe_callB call_lenU (by rfl) E.z_len (by decide +kernel) (pa_cons (pv 0) pa_nil)) (pv 1) (nomark _))))) (pss_one (ps_ret pe_bl)) pss_nil) (pss_one (ps_ret (pe_cmpR (op_eqU hr.units) (pe_callB call_lenU (by rfl) E.z_len (by decide +kernel) (pa_cons (pe_lc (own := [("one", 2)]) (g := (gName 2)) (tt := (tTest (tOp (rNotInU K) (tVar 2) (tC (.str "abcdef"))))) rfl sc__law_is_string.nd (pi_seq (pv 0)) (blkOk_by (own := [("one", 2)]) (N := names__law_is_string) (sc := defScope st__law_is_string) (by decide +kernel)) (fun _ _ _ _ _ => (pg_name (i := 2) sc__law_is_string.nd rfl (by first | exact Or.inl rfl | exact Or.inr rfl))) (fun _ _ _ _ _ => (pts_one (pt_cmpR (op_notInU (hu_of hr)) (pv 2) pe_str (by rfl)))) (fun _ _ _ _ _ => (pv 2))) pa_nil)) pe_int (nomark _)))))
set_option maxHeartbeats 4000000 in
theorem ok__law_is_table (E : Env K mg) (G__law_is_string : FnOk P w K mg base CX0 1 (He.ga K "_law_is_string") E.d__law_is_string ["value", "most"] (sp__law_is_string K)) (G__law_whole : FnOk P w K mg base CX0 1 (He.ga K "_law_whole") E.d__law_whole ["value"] (sp__law_whole K)) : FnOk P w K mg base CX0 2 (He.ga K "_law_is_table") E.d__law_is_table ["value"] (sp__law_is_table K) := by
  refine E.F__law_is_table.ok sc__law_is_table (fun vs H Q E' h => len__law_is_table h) (fun cdv A outer s H vs Q E' hr h => ⟨(t__law_is_table K), PSs.nox ?_, pure__law_is_table vs H Q E' h⟩)
  exact (pss_cons (ps_if (PW.pt (pw_or (pt_not (pt_val (pe_callB call_isiU (by rfl) E.z_isinstance (by decide +kernel) (pa_cons (pv 0) (pa_cons (pe_bltn (v := .ty "tuple") rfl E.z_tuple (by decide +kernel) rfl) pa_nil))))) (pw_or1 (pt_cmpR (op_gtD hr.units) (pe_callB call_lenU (by rfl) E.z_len (by decide +kernel) (pa_cons (pv 0) pa_nil)) pe_int (nomark _))))) (pss_one (ps_ret pe_bl)) pss_nil) (pss_cons (ps_set (i := 1) sc__law_is_table.nd rfl (by first | exact Or.inl rfl | exact Or.inr rfl) pe_non) (pss_cons (ps_for PassesOwn.never rfl (pi_seq (pv 0)) (pg_name (i := 2) sc__law_is_table.nd rfl (by first | exact Or.inl rfl | exact Or.inr rfl)) (pss_cons (ps_if (PW.pt (pw_or (pt_not (pt_val (pe_callB call_isiU (by rfl) E.z_isinstance (by decide +kernel) (pa_cons (pv 2) (pa_cons (pe_bltn (v := .ty "tuple") rfl E.z_tuple (by decide +kernel) rfl) pa_nil))))) (pw_or (pt_cmpR (op_neU hr.units) (pe_callB call_lenU (by rfl) E.z_len (by decide +kernel) (pa_cons (pv 2) pa_nil)) pe_int (nomark _)) (pw_or (pt_not (pt_val (pe_call G__law_is_string (hr.mono (by decide)) rfl E.g__law_is_string E.F__law_is_string.kp E.b__law_is_string .nil pass0 (pa_cons (pe_ixU (hu_of hr) (pv 2) pe_int (fun _ _ => rfl) (fun _ _ => rfl)) (pa_cons pe_int pa_nil))))) (pw_or1 (pt_not (pt_val (pe_call G__law_is_string (hr.mono (by decide)) rfl E.g__law_is_string E.F__law_is_string.kp E.b__law_is_string .nil pass0 (pa_cons (pe_ixU (hu_of hr) (pv 2) pe_int (fun _ _ => rfl) (fun _ _ => rfl)) (pa_cons pe_int pa_nil)))))))))) (pss_one (ps_ret pe_bl)) pss_nil) (pss_cons (ps_if (PW.pt (pw_or (pt_cmpR (op_eqU hr.units) (pe_ixU (hu_of hr) (pv 2) pe_int (fun _ _ => rfl) (fun _ _ => rfl)) (pe_ixU (hu_of hr) (pv 2) pe_int (fun _ _ => rfl) (fun _ _ => rfl)) (nomark _)) (pw_or (pt_not (pt_val (pe_call G__law_whole (hr.mono (by decide)) rfl E.g__law_whole E.F__law_whole.kp E.b__law_whole .nil pass0 (pa_cons (pe_ixU (hu_of hr) (pv 2) pe_int (fun _ _ => rfl) (fun _ _ => rfl)) pa_nil)))) (pw_or1 (pt_not (pt_chain (op_leD hr.units) (op_leD hr.units) pe_int (pe_ixU (hu_of hr) (pv 2) pe_int (fun _ _ => rfl) (fun _ _ => rfl)) pe_int)))))) (pss_one (ps_ret pe_bl)) pss_nil) (pss_cons (ps_if (PW.pt (pw_and (pt_cmpR op_notN1 (pv 1) pe_non (nomark _)) (pw_and1 (pt_not (pt_cmpR (op_ltD hr.units) (pv 1) (pe_slice sl_U (pv 2) po_none (po_some pe_int)) (nomark _)))))) (pss_one (ps_ret pe_bl)) pss_nil) (pss_one (ps_set (i := 1) sc__law_is_table.nd rfl (by first | exact Or.inl rfl | exact Or.inr rfl) (pe_slice sl_U (pv 2) po_none (po_some pe_int)))))))) (pss_one (ps_ret pe_bl)))))
set_option maxHeartbeats 4000000 in
theorem ok__law_letters (E : Env K mg) (G__law_take : FnOk P w K mg base CX0 2 (He.ga K "_law_take") E.d__law_take ["row", "spot", "limit"] (sp__law_take K)) : FnOk P w K mg base CX0 3 (He.ga K "_law_letters") E.d__law_letters ["row", "spot", "most", "few"] (sp__law_letters K) := by
  refine E.F__law_letters.ok sc__law_letters (fun vs H Q E' h => len__law_letters h) (fun cdv A outer s H vs Q E' hr h => ⟨(t__law_letters K), PSs.nox ?_, pure__law_letters vs H Q E' h⟩)
  exact (pss_cons (ps_set (i := 4) sc__law_letters.nd rfl (by first | exact Or.inl rfl | exact Or.inr rfl) pe_str) (pss_cons (ps_for PassesOwn.never rfl (pi_range1 (by rfl) E.z_range (pa_cons (pe_call G__law_take (hr.mono (by decide)) rfl E.g__law_take E.F__law_take.kp E.b__law_take .nil pass0 (pa_cons (pv 0) (pa_cons (pv 1) (pa_cons (pe_op op_addU (pv 2) pe_int) pa_nil)))) pa_nil)) (pg_name (i := 5) sc__law_letters.nd rfl (by first | exact Or.inl rfl | exact Or.inr rfl)) (pss_one (ps_set (i := 4) sc__law_letters.nd rfl (by first | exact Or.inl rfl | exact Or.inr rfl) (pe_op op_addU (pv 4) (pe_ixU (hu_of hr) (pv 3) (pe_call G__law_take (hr.mono (by decide)) rfl E.g__law_take E.F__law_take.kp E.b__law_take .nil pass0 (pa_cons (pv 0) (pa_cons (pv 1) (pa_cons (pe_callB call_lenU (by rfl) E.z_len (by decide +kernel) (pa_cons (pv 3) pa_nil)) pa_nil)))) (fun _ _ => rfl) (fun _ _ => rfl)))))) (pss_one (ps_ret (pv 4)))))
set_option maxHeartbeats 4000000 in
theorem ok__law_few (E : Env K mg) (G__law_take : FnOk P w K mg base CX0 2 (He.ga K "_law_take") E.d__law_take ["row", "spot", "limit"] (sp__law_take K)) : FnOk P w K mg base CX0 3 (He.ga K "_law_few") E.d__law_few ["row", "spot", "sizes"] (sp__law_few K) := by
  refine E.F__law_few.ok sc__law_few (fun vs H Q E' h => len__law_few h) (fun cdv A outer s H vs Q E' hr h => ⟨(t__law_few K), PSs.nox ?_, pure__law_few vs H Q E' h⟩)
  exact (pss_cons (ps_set (i := 3) sc__law_few.nd rfl (by first | exact Or.inl rfl | exact Or.inr rfl) (pe_ixU (hu_of hr) (pv 2) (pe_call G__law_take (hr.mono (by decide)) rfl E.g__law_take E.F__law_take.kp E.b__law_take .nil pass0 (pa_cons (pv 0) (pa_cons (pv 1) (pa_cons (pe_callB call_lenU (by rfl) E.z_len (by decide +kernel) (pa_cons (pv 2) pa_nil)) pa_nil)))) (fun _ _ => rfl) (fun _ _ => rfl))) (pss_cons (ps_set (i := 4) sc__law_few.nd rfl (by first | exact Or.inl rfl | exact Or.inr rfl) pe_str) (pss_cons (ps_for PassesOwn.never rfl (pi_range1 (by rfl) E.z_range (pa_cons pe_int pa_nil)) (pg_name (i := 5) sc__law_few.nd rfl (by first | exact Or.inl rfl | exact Or.inr rfl)) (pss_one (ps_if (PW.pt (pw_and (pt_cmpR (op_ltD hr.units) (pe_callB call_lenU (by rfl) E.z_len (by decide +kernel) (pa_cons (pv 4) pa_nil)) (pv 3) (nomark _)) (pw_and1 (pt_cmpR (op_ltD hr.units) (pe_call G__law_take (hr.mono (by decide)) rfl E.g__law_take E.F__law_take.kp E.b__law_take .nil pass0 (pa_cons (pv 0) (pa_cons (pv 1) (pa_cons (pe_op op_sub pe_int (pv 5)) pa_nil)))) (pe_op op_sub (pv 3) (pe_callB call_lenU (by rfl) E.z_len (by decide +kernel) (pa_cons (pv 4) pa_nil))) (nomark _))))) (pss_one (ps_set (i := 4) sc__law_few.nd rfl (by first | exact Or.inl rfl | exact Or.inr rfl) (pe_op op_addU (pv 4) (pe_ixU (hu_of hr) pe_str (pv 5) (fun _ _ => rfl) (fun _ _ => rfl))))) pss_nil))) (pss_one (ps_ret (pv 4))))))
set_option maxHeartbeats 4000000 in
theorem ok__law_table (E : Env K mg) (G__law_take : FnOk P w K mg base CX0 2 (He.ga K "_law_take") E.d__law_take ["row", "spot", "limit"] (sp__law_take K)) (G__law_letters : FnOk P w K mg base CX0 3 (He.ga K "_law_letters") E.d__law_letters ["row", "spot", "most", "few"] (sp__law_letters K)) : FnOk P w K mg base CX0 4 (He.ga K "_law_table") E.d__law_table ["row", "spot", "many", "few"] (sp__law_table K) := by
  refine E.F__law_table.ok sc__law_table (fun vs H Q E' h => len__law_table h) (fun cdv A outer s H vs Q E' hr h => ⟨(t__law_table K), PSs.nox ?_, pure__law_table vs H Q E' h⟩)
  exact (pss_cons (ps_set (i := 4) sc__law_table.nd rfl (by first | exact Or.inl rfl | exact Or.inr rfl) pe_dnewT) (pss_cons (ps_for PassesOwn.never rfl (pi_range1 (by rfl) E.z_range (pa_cons (pe_call G__law_take (hr.mono (by decide)) rfl E.g__law_take E.F__law_take.kp E.b__law_take .nil pass0 (pa_cons (pv 0) (pa_cons (pv 1) (pa_cons (pe_op op_addU (pv 2) pe_int) pa_nil)))) pa_nil)) (pg_name (i := 5) sc__law_table.nd rfl (by first | exact Or.inl rfl | exact Or.inr rfl)) (pss_cons (ps_set (i := 6) sc__law_table.nd rfl (by first | exact Or.inl rfl | exact Or.inr rfl) (pe_call G__law_take (hr.mono (by decide)) rfl E.g__law_take E.F__law_take.kp E.b__law_take .nil pass0 (pa_cons (pv 0) (pa_cons (pv 1) (pa_cons pe_int pa_nil))))) (pss_cons (ps_set (i := 7) sc__law_table.nd rfl (by first | exact Or.inl rfl | exact Or.inr rfl) (pe_call G__law_letters (hr.mono (by decide)) rfl E.g__law_letters E.F__law_letters.kp E.b__law_letters .nil pass0 (pa_cons (pv 0) (pa_cons (pv 1) (pa_cons pe_int (pa_cons (pv 3) pa_nil)))))) (pss_cons (ps_set (i := 8) sc__law_table.nd rfl (by first | exact Or.inl rfl | exact Or.inr rfl) (pe_call G__law_letters (hr.mono (by decide)) rfl E.g__law_letters E.F__law_letters.kp E.b__law_letters .nil pass0 (pa_cons (pv 0) (pa_cons (pv 1) (pa_cons pe_int (pa_cons (pv 3) pa_nil)))))) (pss_cons (ps_if (pt_cmpR (op_eqU hr.units) (pv 6) pe_int (nomark _)) (pss_one (ps_set (i := 7) sc__law_table.nd rfl (by first | exact Or.inl rfl | exact Or.inr rfl) pe_str)) (pss_one (ps_if (pt_cmpR (op_eqU hr.units) (pv 6) pe_int (nomark _)) (pss_one (ps_set (i := 8) sc__law_table.nd rfl (by first | exact Or.inl rfl | exact Or.inr rfl) pe_str)) (pss_one (ps_if (PW.pt (pw_and (pt_cmpR (op_eqU hr.units) (pv 6) pe_int (nomark _)) (pw_and1 (pt_cmpR (op_eqU hr.units) (pe_callB call_lenU (by rfl) E.z_len (by decide +kernel) (pa_cons (pv 7) pa_nil)) pe_int (nomark _))))) (pss_one (ps_set (i := 8) sc__law_table.nd rfl (by first | exact Or.inl rfl | exact Or.inr rfl) (pe_op op_addU (pe_ixU (hu_of hr) (pv 7) pe_int (fun _ _ => rfl) (fun _ _ => rfl)) (pe_ixU (hu_of hr) (pv 7) pe_int (fun _ _ => rfl) (fun _ _ => rfl))))) pss_nil))))) (pss_one (ps_if (pt_cmpR (op_neU hr.units) (pv 7) (pv 8) (nomark _)) (pss_one (ps_asg (pe_op op_addU pe_int (pe_call G__law_take (hr.mono (by decide)) rfl E.g__law_take E.F__law_take.kp E.b__law_take .nil pass0 (pa_cons (pv 0) (pa_cons (pv 1) (pa_cons (pe_ixU (hu_of hr) (pe_lst (pa_cons pe_int (pa_cons pe_int (pa_cons pe_int pa_nil)))) (pe_call G__law_take (hr.mono (by decide)) rfl E.g__law_take E.F__law_take.kp E.b__law_take .nil pass0 (pa_cons (pv 0) (pa_cons (pv 1) (pa_cons pe_int pa_nil)))) (fun _ _ => rfl) (fun _ _ => rfl)) pa_nil))))) (pg_sub (pv 4) (pe_tup (pa_cons (pv 7) (pa_cons (pv 8) pa_nil))) (set_U (hu_of hr))))) pss_nil))))))) (pss_one (ps_ret (pe_callTy call_tupOf (by rfl) E.z_tuple (by decide +kernel) (pa_cons (pe_lc (own := [("one", 7)]) (g := (gName 7)) (tt := tYes) rfl sc__law_table.nd (pi_seq (pe_callB (call_sortU (by rfl) hr.units) (by rfl) E.z_sorted (by decide +kernel) (pa_cons (pv 4) pa_nil))) (blkOk_by (own := [("one", 7)]) (N := names__law_table) (sc := defScope st__law_table) (by decide +kernel)) (fun _ _ _ _ _ => (pg_name (i := 7) sc__law_table.nd rfl (by first | exact Or.inl rfl | exact Or.inr rfl))) (fun _ _ _ _ _ => pts_nil) (fun _ _ _ _ _ => (pe_op op_addU (pv 7) (pe_tup (pa_cons (pe_ixU (hu_of hr) (pv 4) (pv 7) (fun _ _ => rfl) (fun _ _ => rfl)) pa_nil))))) pa_nil))))))
set_option maxHeartbeats 4000000 in
theorem ok__law_table_changed {n : Nat} (E : Env K mg) (G__law_take : FnOk P w K mg base CX0 2 (He.ga K "_law_take") E.d__law_take ["row", "spot", "limit"] (sp__law_take K)) (G_self : FnOk P w K mg base CX0 (n + 3) (He.ga K "_law_table_changed") E.d__law_table_changed ["row", "spot", "value"] (sp__law_table_changed K n)) : FnOk P w K mg base CX0 (n + 3 + 1) (He.ga K "_law_table_changed") E.d__law_table_changed ["row", "spot", "value"] (sp__law_table_changed K (n + 1)) := by
  refine E.F__law_table_changed.ok sc__law_table_changed (fun vs H Q E' h => len__law_table_changed h) (fun cdv A outer s H vs Q E' hr h => ⟨(t__law_table_changed K n), PSs.nox ?_, pure__law_table_changed vs H Q E' h⟩)
  exact (pss_cons (ps_if (PW.pt (pw_and (pt_val (pe_callB call_isiU (by rfl) E.z_isinstance (by decide +kernel) (pa_cons (pv 2) (pa_cons (pe_bltn (v := .ty "tuple") rfl E.z_tuple (by decide +kernel) rfl) pa_nil)))) (pw_and (pt_cmpR (op_gtD hr.units) (pe_callB call_lenU (by rfl) E.z_len (by decide +kernel) (pa_cons (pv 2) pa_nil)) pe_int (nomark _)) (pw_and1 (pt_cmpR (op_gtD hr.units) (pe_call G__law_take (hr.mono (by omega)) rfl E.g__law_take E.F__law_take.kp E.b__law_take .nil pass0 (pa_cons (pv 0) (pa_cons (pv 1) (pa_cons pe_int pa_nil)))) pe_int (nomark _)))))) (pss_cons (ps_set (i := 3) sc__law_table_changed.nd rfl (by first | exact Or.inl rfl | exact Or.inr rfl) (pe_call G__law_take (hr.mono (by omega)) rfl E.g__law_take E.F__law_take.kp E.b__law_take .nil pass0 (pa_cons (pv 0) (pa_cons (pv 1) (pa_cons (pe_callB call_lenU (by rfl) E.z_len (by decide +kernel) (pa_cons (pv 2) pa_nil)) pa_nil))))) (pss_one (ps_ret (pe_op op_addU (pe_op op_addU (pe_slice sl_U (pv 2) po_none (po_some (pv 3))) (pe_tup (pa_cons (pe_call G_self hr rfl E.g__law_table_changed E.F__law_table_changed.kp E.b__law_table_changed .nil pass0 (pa_cons (pv 0) (pa_cons (pv 1) (pa_cons (pe_ixU (hu_of hr) (pv 2) (pv 3) (fun _ _ => rfl) (fun _ _ => rfl)) pa_nil)))) pa_nil))) (pe_slice sl_U (pv 2) (po_some (pe_op op_addU (pv 3) pe_int)) po_none))))) pss_nil) (pss_cons (ps_set (i := 4) sc__law_table_changed.nd rfl (by first | exact Or.inl rfl | exact Or.inr rfl) (pe_call G__law_take (hr.mono (by omega)) rfl E.g__law_take E.F__law_take.kp E.b__law_take .nil pass0 (pa_cons (pv 0) (pa_cons (pv 1) (pa_cons pe_int pa_nil))))) (pss_cons (ps_if (PW.pt (pw_and (pt_val (pe_callB call_isiU (by rfl) E.z_isinstance (by decide +kernel) (pa_cons (pv 2) (pa_cons (pe_bltn (v := .ty "tuple") rfl E.z_tuple (by decide +kernel) rfl) pa_nil)))) (pw_and (pt_cmpR (op_eqU hr.units) (pv 4) pe_int (nomark _)) (pw_and1 (pt_cmpR (op_gtD hr.units) (pe_callB call_lenU (by rfl) E.z_len (by decide +kernel) (pa_cons (pv 2) pa_nil)) pe_int (nomark _)))))) (pss_one (ps_ret (pe_op op_addU (pv 2) (pe_slice sl_U (pv 2) po_none (po_some pe_int))))) pss_nil) (pss_cons (ps_if (PW.pt (pw_and (pt_val (pe_callB call_isiU (by rfl) E.z_isinstance (by decide +kernel) (pa_cons (pv 2) (pa_cons (pe_bltn (v := .ty "tuple") rfl E.z_tuple (by decide +kernel) rfl) pa_nil)))) (pw_and (pt_cmpR (op_eqU hr.units) (pv 4) pe_int (nomark _)) (pw_and1 (pt_cmpR (op_gtD hr.units) (pe_callB call_lenU (by rfl) E.z_len (by decide +kernel) (pa_cons (pv 2) pa_nil)) pe_int (nomark _)))))) (pss_one (ps_ret (pe_slice sl_U (pv 2) (po_some pe_int) po_none))) pss_nil) (pss_cons (ps_if (PW.pt (pw_and (pt_val (pe_callB call_isiU (by rfl) E.z_isinstance (by decide +kernel) (pa_cons (pv 2) (pa_cons (pe_bltn (v := .ty "tuple") rfl E.z_tuple (by decide +kernel) rfl) pa_nil)))) (pw_and (pt_cmpR (op_eqU hr.units) (pv 4) pe_int (nomark _)) (pw_and1 (pt_cmpR (op_gtD hr.units) (pe_callB call_lenU (by rfl) E.z_len (by decide +kernel) (pa_cons (pv 2) pa_nil)) pe_int (nomark _)))))) (pss_one (ps_ret (pe_op op_addU (pe_slice sl_U (pv 2) (po_some pe_int) po_none) (pe_slice sl_U (pv 2) po_none (po_some pe_int))))) pss_nil) (pss_cons (ps_if (PW.pt (pw_and (pt_val (pe_callB call_isiU (by rfl) E.z_isinstance (by decide +kernel) (pa_cons (pv 2) (pa_cons (pe_bltn (v := .ty "str") rfl E.z_str (by decide +kernel) rfl) pa_nil)))) (pw_and1 (pt_cmpR (op_ltD hr.units) (pv 4) pe_int (nomark _))))) (pss_one (ps_ret (pe_ixU (hu_of hr) (pe_lst (pa_cons pe_str (pa_cons pe_str (pa_cons pe_str (pa_cons pe_str (pa_cons pe_str (pa_cons (pe_op op_addU (pv 2) pe_str) (pa_cons pe_str (pa_cons (pe_op op_addU (pv 2) pe_str) pa_nil))))))))) (pe_call G__law_take (hr.mono (by omega)) rfl E.g__law_take E.F__law_take.kp E.b__law_take .nil pass0 (pa_cons (pv 0) (pa_cons (pv 1) (pa_cons pe_int pa_nil)))) (fun _ _ => rfl) (fun _ _ => rfl)))) pss_nil) (pss_cons (ps_if (PW.pt (pw_and (pt_val (pe_callB call_isiU (by rfl) E.z_isinstance (by decide +kernel) (pa_cons (pv 2) (pa_cons (pe_bltn (v := .ty "int") rfl E.z_int (by decide +kernel) rfl) pa_nil)))) (pw_and1 (pt_cmpR (op_ltD hr.units) (pv 4) pe_int (nomark _))))) (pss_one (ps_ret (pe_ixU (hu_of hr) (pe_lst (pa_cons pe_int (pa_cons pe_int (pa_cons pe_int (pa_cons (pe_op op_addU (pv 2) pe_int) (pa_cons pe_non (pa_cons pe_bl pa_nil))))))) (pe_call G__law_take (hr.mono (by omega)) rfl E.g__law_take E.F__law_take.kp E.b__law_take .nil pass0 (pa_cons (pv 0) (pa_cons (pv 1) (pa_cons pe_int pa_nil)))) (fun _ _ => rfl) (fun _ _ => rfl)))) pss_nil) (pss_one (ps_ret (pe_ixU (hu_of hr) (pe_lst (pa_cons pe_non (pa_cons pe_int (pa_cons pe_bl (pa_cons pe_str (pa_cons (pe_tup pa_nil) (pa_cons (pe_tup (pa_cons pe_str (pa_cons pe_str (pa_cons pe_int pa_nil)))) (pa_cons pe_str pa_nil)))))))) (pe_call G__law_take (hr.mono (by omega)) rfl E.g__law_take E.F__law_take.kp E.b__law_take .nil pass0 (pa_cons (pv 0) (pa_cons (pv 1) (pa_cons pe_int pa_nil)))) (fun _ _ => rfl) (fun _ _ => rfl)))))))))))
set_option maxHeartbeats 4000000 in
theorem ok_law (E : Env K mg) (G__law_numbers : FnOk P w K mg base CX0 1 (He.ga K "_law_numbers") E.d__law_numbers ["script"] (sp__law_numbers K)) (G__law_few : FnOk P w K mg base CX0 3 (He.ga K "_law_few") E.d__law_few ["row", "spot", "sizes"] (sp__law_few K)) (G__law_table : FnOk P w K mg base CX0 4 (He.ga K "_law_table") E.d__law_table ["row", "spot", "many", "few"] (sp__law_table K)) (G__law_handed : FnOk P w K mg base CX0 13 (He.ga K "_law_handed") E.d__law_handed ["row", "spot", "value"] (sp__law_handed K)) (G__law_so : FnOk P w K mg base CX0 9 (He.ga K "_law_so") E.d__law_so ["found", "wanted"] (sp__law_so K 8)) (G_is_table : FnOk P w K mg base CX0 5 (He.ga K "is_table") E.d_is_table ["value"] (sp_is_table K)) (G__law_tupled : FnOk P w K mg base CX0 9 (He.ga K "_law_tupled") E.d__law_tupled ["value"] (sp__law_tupled K 8)) (G__law_table_changed : FnOk P w K mg base CX0 12 (He.ga K "_law_table_changed") E.d__law_table_changed ["row", "spot", "value"] (sp__law_table_changed K 9)) (G__law_is_table : FnOk P w K mg base CX0 2 (He.ga K "_law_is_table") E.d__law_is_table ["value"] (sp__law_is_table K)) : FnOk P w K mg base CX0 20 (He.ga K "law") E.d_law ["script"] (sp_law K) := by
  refine E.F_law.ok sc_law (fun vs H Q E' h => len_law h) (fun cdv A outer s H vs Q E' hr h => ⟨(t_law K), PSs.nox ?_, pure_law vs H Q E' h⟩)
  exact (pss_cons (ps_set (i := 1) sc_law.nd rfl (by first | exact Or.inl rfl | exact Or.inr rfl) (pe_call G__law_numbers (hr.mono (by decide)) rfl E.g__law_numbers E.F__law_numbers.kp E.b__law_numbers .nil pass0 (pa_cons (pv 0) pa_nil))) (pss_cons (ps_set (i := 2) sc_law.nd rfl (by first | exact Or.inl rfl | exact Or.inr rfl) (pe_lst (pa_cons pe_int pa_nil))) (pss_cons (ps_set (i := 3) sc_law.nd rfl (by first | exact Or.inl rfl | exact Or.inr rfl) (pe_call G__law_few (hr.mono (by decide)) rfl E.g__law_few E.F__law_few.kp E.b__law_few .nil pass0 (pa_cons (pv 1) (pa_cons (pv 2) (pa_cons (pe_lst (pa_cons pe_int (pa_cons pe_int (pa_cons pe_int pa_nil)))) pa_nil))))) (pss_cons (ps_set (i := 4) sc_law.nd rfl (by first | exact Or.inl rfl | exact Or.inr rfl) (pe_call G__law_table (hr.mono (by decide)) rfl E.g__law_table E.F__law_table.kp E.b__law_table .nil pass0 (pa_cons (pv 1) (pa_cons (pv 2) (pa_cons pe_int (pa_cons (pv 3) pa_nil)))))) (pss_cons (ps_set (i := 5) sc_law.nd rfl (by first | exact Or.inl rfl | exact Or.inr rfl) (pe_call G__law_handed (hr.mono (by decide)) rfl E.g__law_handed E.F__law_handed.kp E.b__law_handed .nil pass0 (pa_cons (pv 1) (pa_cons (pv 2) (pa_cons (pv 4) pa_nil))))) (pss_cons (ps_if (PW.pt (pw_or (pt_not (pt_val (pe_call G__law_so (hr.mono (by decide)) rfl E.g__law_so E.F__law_so.kp E.b__law_so .nil pass0 (pa_cons (pe_callK0 G_is_table (hr.mono (by decide)) rfl E.g_is_table E.F_is_table.kp (E.k_is_table_0_1) pass0 (pk_cons (pv 5) pk_nil)) (pa_cons pe_bl pa_nil))))) (pw_or1 (pt_not (pt_val (pe_call G__law_so (hr.mono (by decide)) rfl E.g__law_so E.F__law_so.kp E.b__law_so .nil pass0 (pa_cons (pe_call G__law_tupled (hr.mono (by decide)) rfl E.g__law_tupled E.F__law_tupled.kp E.b__law_tupled .nil pass0 (pa_cons (pv 5) pa_nil)) (pa_cons (pv 4) pa_nil)))))))) (pss_one (ps_ret pe_bl)) pss_nil) (pss_cons (ps_for PassesOwn.never rfl (pi_range1 (by rfl) E.z_range (pa_cons pe_int pa_nil)) (pg_name (i := 6) sc_law.nd rfl (by first | exact Or.inl rfl | exact Or.inr rfl)) (pss_cons (ps_set (i := 7) sc_law.nd rfl (by first | exact Or.inl rfl | exact Or.inr rfl) (pe_call G__law_table_changed (hr.mono (by decide)) rfl E.g__law_table_changed E.F__law_table_changed.kp E.b__law_table_changed .nil pass0 (pa_cons (pv 1) (pa_cons (pv 2) (pa_cons (pv 4) pa_nil))))) (pss_one (ps_if (pt_not (pt_val (pe_call G__law_so (hr.mono (by decide)) rfl E.g__law_so E.F__law_so.kp E.b__law_so .nil pass0 (pa_cons (pe_call G_is_table (hr.mono (by decide)) rfl E.g_is_table E.F_is_table.kp E.b_is_table .nil pass0 (pa_cons (pe_call G__law_handed (hr.mono (by decide)) rfl E.g__law_handed E.F__law_handed.kp E.b__law_handed .nil pass0 (pa_cons (pv 1) (pa_cons (pv 2) (pa_cons (pv 7) pa_nil)))) pa_nil)) (pa_cons (pe_call G__law_is_table (hr.mono (by decide)) rfl E.g__law_is_table E.F__law_is_table.kp E.b__law_is_table .nil pass0 (pa_cons (pv 7) pa_nil)) pa_nil))))) (pss_one (ps_ret pe_bl)) pss_nil)))) (pss_cons (ps_set (i := 8) sc_law.nd rfl (by first | exact Or.inl rfl | exact Or.inr rfl) (pe_callTy call_tupOf (by rfl) E.z_tuple (by decide +kernel) (pa_cons (pe_lc (own := [("k", 9)]) (g := (gName 9)) (tt := tYes) rfl sc_law.nd (pi_range1 (by rfl) E.z_range (pa_cons pe_int pa_nil)) (blkOk_by (own := [("k", 9)]) (N := names_law) (sc := defScope st_law) (by decide +kernel)) (fun _ _ _ _ _ => (pg_name (i := 9) sc_law.nd rfl (by first | exact Or.inl rfl | exact Or.inr rfl))) (fun _ _ _ _ _ => pts_nil) (fun _ _ _ _ _ => (pe_tup (pa_cons (pe_op op_addU pe_str (pe_ixU (hu_of hr) pe_str (pv 9) (fun _ _ => rfl) (fun _ _ => rfl))) (pa_cons pe_str (pa_cons (pe_op op_addU pe_int (pv 9)) pa_nil)))))) pa_nil))) (pss_cons (ps_set (i := 8) sc_law.nd rfl (by first | exact Or.inl rfl | exact Or.inr rfl) (pe_op op_addU (pv 8) (pe_tup (pa_cons (pe_tup (pa_cons pe_str (pa_cons pe_str (pa_cons pe_int pa_nil)))) (pa_cons (pe_tup (pa_cons pe_str (pa_cons pe_str (pa_cons pe_int pa_nil)))) (pa_cons (pe_tup (pa_cons pe_str (pa_cons pe_str (pa_cons pe_int pa_nil)))) pa_nil)))))) (pss_one (ps_ret (pe_and (pe_call G__law_so (hr.mono (by decide)) rfl E.g__law_so E.F__law_so.kp E.b__law_so .nil pass0 (pa_cons (pe_call G_is_table (hr.mono (by decide)) rfl E.g_is_table E.F_is_table.kp E.b_is_table .nil pass0 (pa_cons (pv 8) pa_nil)) (pa_cons pe_bl pa_nil))) (pe_and (pe_call G__law_so (hr.mono (by decide)) rfl E.g__law_so E.F__law_so.kp E.b__law_so .nil pass0 (pa_cons (pe_call G_is_table (hr.mono (by decide)) rfl E.g_is_table E.F_is_table.kp E.b_is_table .nil pass0 (pa_cons (pe_slice sl_U (pv 8) po_none (po_some pe_int)) pa_nil)) (pa_cons pe_bl pa_nil))) (pe_one (pe_call G__law_so (hr.mono (by decide)) rfl E.g__law_so E.F__law_so.kp E.b__law_so .nil pass0 (pa_cons (pe_call G_is_table (hr.mono (by decide)) rfl E.g_is_table E.F_is_table.kp E.b_is_table .nil pass0 (pa_cons (pe_slice sl_U (pv 8) (po_some pe_int) po_none) pa_nil)) (pa_cons pe_bl pa_nil)))))))))))))))))
end
/-! ### the head -/
def dd_is_whole : He.DefD := ⟨("is_whole", none), "is_whole", "is_whole", defArgs st_is_whole, defBody st_is_whole, defScope st_is_whole, [], []⟩
def dd_is_sequence : He.DefD := ⟨("is_sequence", none), "is_sequence", "is_sequence", defArgs st_is_sequence, defBody st_is_sequence, defScope st_is_sequence, [], []⟩
def dd_is_triple : He.DefD := ⟨("is_triple", none), "is_triple", "is_triple", defArgs st_is_triple, defBody st_is_triple, defScope st_is_triple, [], []⟩
def dd_is_word : He.DefD := ⟨("is_word", none), "is_word", "is_word", defArgs st_is_word, defBody st_is_word, defScope st_is_word, [], []⟩
def dd_is_short : He.DefD := ⟨("is_short", none), "is_short", "is_short", defArgs st_is_short, defBody st_is_short, defScope st_is_short, [], []⟩
def dd_is_rising : He.DefD := ⟨("is_rising", none), "is_rising", "is_rising", defArgs st_is_rising, defBody st_is_rising, defScope st_is_rising, [], []⟩
def dd_is_table : He.DefD := ⟨("is_table", none), "is_table", "is_table", defArgs st_is_table, defBody st_is_table, defScope st_is_table, [], []⟩
def dd_is_fault : He.DefD := ⟨("is_fault", none), "is_fault", "is_fault", defArgs st_is_fault, defBody st_is_fault, defScope st_is_fault, [], []⟩
def dd_is_piece : He.DefD := ⟨("is_piece", none), "is_piece", "is_piece", defArgs st_is_piece, defBody st_is_piece, defScope st_is_piece, [], []⟩
def dd__law_so : He.DefD := ⟨("_law_so", none), "_law_so", "_law_so", defArgs st__law_so, defBody st__law_so, defScope st__law_so, [], []⟩
def dd__law_numbers : He.DefD := ⟨("_law_numbers", none), "_law_numbers", "_law_numbers", defArgs st__law_numbers, defBody st__law_numbers, defScope st__law_numbers, [], []⟩
def dd__law_draw : He.DefD := ⟨("_law_draw", none), "_law_draw", "_law_draw", defArgs st__law_draw, defBody st__law_draw, defScope st__law_draw, [], []⟩
def dd__law_take : He.DefD := ⟨("_law_take", none), "_law_take", "_law_take", defArgs st__law_take, defBody st__law_take, defScope st__law_take, [], []⟩
def dd__law_whole : He.DefD := ⟨("_law_whole", none), "_law_whole", "_law_whole", defArgs st__law_whole, defBody st__law_whole, defScope st__law_whole, [], []⟩
def dd__law_listed : He.DefD := ⟨("_law_listed", none), "_law_listed", "_law_listed", defArgs st__law_listed, defBody st__law_listed, defScope st__law_listed, [], []⟩
def dd__law_tupled : He.DefD := ⟨("_law_tupled", none), "_law_tupled", "_law_tupled", defArgs st__law_tupled, defBody st__law_tupled, defScope st__law_tupled, [], []⟩
def dd__law_handed : He.DefD := ⟨("_law_handed", none), "_law_handed", "_law_handed", defArgs st__law_handed, defBody st__law_handed, defScope st__law_handed, [], []⟩
def dd__law_levels : He.DefD := ⟨("_law_levels", none), "_law_levels", "_law_levels", defArgs st__law_levels, defBody st__law_levels, defScope st__law_levels, [], []⟩
def dd__law_is_string : He.DefD := ⟨("_law_is_string", none), "_law_is_string", "_law_is_string", defArgs st__law_is_string, defBody st__law_is_string, defScope st__law_is_string, [], []⟩
def dd__law_is_table : He.DefD := ⟨("_law_is_table", none), "_law_is_table", "_law_is_table", defArgs st__law_is_table, defBody st__law_is_table, defScope st__law_is_table, [], []⟩
def dd__law_letters : He.DefD := ⟨("_law_letters", none), "_law_letters", "_law_letters", defArgs st__law_letters, defBody st__law_letters, defScope st__law_letters, [], []⟩
def dd__law_few : He.DefD := ⟨("_law_few", none), "_law_few", "_law_few", defArgs st__law_few, defBody st__law_few, defScope st__law_few, [], []⟩
def dd__law_table : He.DefD := ⟨("_law_table", none), "_law_table", "_law_table", defArgs st__law_table, defBody st__law_table, defScope st__law_table, [], []⟩
def dd__law_table_changed : He.DefD := ⟨("_law_table_changed", none), "_law_table_changed", "_law_table_changed", defArgs st__law_table_changed, defBody st__law_table_changed, defScope st__law_table_changed, [], []⟩
def dd_law : He.DefD := ⟨("law", none), "law", "law", defArgs st_law, defBody st_law, defScope st_law, [], []⟩
def fn : List He.DefD := [dd_is_whole, dd_is_sequence, dd_is_triple, dd_is_word, dd_is_short, dd_is_rising, dd_is_table, dd_is_fault, dd_is_piece, dd__law_so, dd__law_numbers, dd__law_draw, dd__law_take, dd__law_whole, dd__law_listed, dd__law_tupled, dd__law_handed, dd__law_levels, dd__law_is_string, dd__law_is_table, dd__law_letters, dd__law_few, dd__law_table, dd__law_table_changed, dd_law]
def fa0 : List He.Fa := [.glo "is_whole", .glo "is_sequence", .glo "is_triple", .glo "is_word", .glo "is_short", .glo "is_rising", .glo "is_table", .glo "is_fault", .glo "is_piece", .glo "_law_so", .glo "_law_numbers", .glo "_law_draw", .glo "_law_take", .glo "_law_whole", .glo "_law_listed", .glo "_law_tupled", .glo "_law_handed", .glo "_law_levels", .glo "_law_is_string", .glo "_law_is_table", .glo "_law_letters", .glo "_law_few", .glo "_law_table", .glo "_law_table_changed", .glo "law", .int "GREATEST_FAULT" 9, .str "LETTERS" "abcdef", .int "MOST_FAULTS" 8, .int "MOST_IN_PIECE" 2, .free "all"]
def fa1 : List He.Fa := [.free "bool", .free "int", .free "isinstance", .free "len", .free "list", .free "range", .free "sorted", .free "str", .free "tuple"]
def fa : List He.Fa := fa0 ++ (fa1)
abbrev Rw : PySem.W.OpenRow := PySem.W.OpenLaw.row PySem.Challenge.rw_slipworth_k16_tables_told_apart
abbrev hk : PySem.W.Hook := He.hookD 4 fa fn
def ob (s : PySem.W.SharedT) : He.AlD := He.obsDG 4 fa fn (HandSHeadRun.getT s)
theorem ob_eq (s : PySem.W.SharedT) : ob s = hk.obs s.abs := He.obsDG_eq (HandSHeadRun.getT_eq s)
abbrev lo0 : List PySem.Str := ["LETTERS", "is_whole", "is_sequence", "is_triple", "is_word", "is_rising", "is_short", "is_piece", "is_fault", "is_table", "_law_numbers", "_law_draw", "_law_take", "_law_whole", "_law_letters", "_law_few", "_law_is_string", "_law_is_table", "_law_so", "_law_listed", "_law_tupled", "_law_levels", "_law_handed", "_law_table", "_law_table_changed", "MOST_FAULTS", "MOST_IN_PIECE", "GREATEST_FAULT"]
abbrev loose : List PySem.Str := lo0
theorem run (w : World) : HandSHeadRun.RunEq Rw (PySem.W.view Rw.prog [31]) hk ob 1500 loose w := by
  intro os
  kernel_rfl
section
variable {P : Program} {w : World} {K : Frag} {mg : Str → Option Value} {base : Heap}
theorem all_is_whole (E : Env K mg) : FnOk P w K mg base CX0 1 (He.ga K "is_whole") E.d_is_whole ["value", "low", "high"] (sp_is_whole K) := ok_is_whole E 
theorem all_is_sequence (E : Env K mg) : FnOk P w K mg base CX0 1 (He.ga K "is_sequence") E.d_is_sequence ["value"] (sp_is_sequence K) := ok_is_sequence E 
theorem all_is_triple (E : Env K mg) : FnOk P w K mg base CX0 2 (He.ga K "is_triple") E.d_is_triple ["value"] (sp_is_triple K) := ok_is_triple E (all_is_sequence E)
theorem all_is_word (E : Env K mg) : FnOk P w K mg base CX0 1 (He.ga K "is_word") E.d_is_word ["value"] (sp_is_word K) := ok_is_word E 
theorem all_is_short (E : Env K mg) : FnOk P w K mg base CX0 2 (He.ga K "is_short") E.d_is_short ["value", "most"] (sp_is_short K) := ok_is_short E (all_is_word E)
theorem all_is_rising (E : Env K mg) : FnOk P w K mg base CX0 1 (He.ga K "is_rising") E.d_is_rising ["rows"] (sp_is_rising K) := ok_is_rising E 
theorem all_is_piece (E : Env K mg) : FnOk P w K mg base CX0 3 (He.ga K "is_piece") E.d_is_piece ["value"] (sp_is_piece K) := ok_is_piece E (all_is_short E)
theorem all_is_fault (E : Env K mg) : FnOk P w K mg base CX0 4 (He.ga K "is_fault") E.d_is_fault ["value"] (sp_is_fault K) := ok_is_fault E (all_is_triple E) (all_is_piece E) (all_is_whole E)
theorem all_is_table (E : Env K mg) : FnOk P w K mg base CX0 5 (He.ga K "is_table") E.d_is_table ["value"] (sp_is_table K) := ok_is_table E (all_is_sequence E) (all_is_fault E) (all_is_rising E)
theorem rec__law_so (E : Env K mg) : ∀ n : Nat, FnOk P w K mg base CX0 (n + 1) (He.ga K "_law_so") E.d__law_so ["found", "wanted"] (sp__law_so K n)
  | 0 => E.F__law_so.ok sc__law_so (fun vs H Q E' h => len__law_so h) (fun cdv A outer s H vs Q E' hr h => absurd h no__law_so)
  | n + 1 => ok__law_so E (rec__law_so E n)
theorem all__law_so (E : Env K mg) : FnOk P w K mg base CX0 9 (He.ga K "_law_so") E.d__law_so ["found", "wanted"] (sp__law_so K 8) := rec__law_so E 8
theorem all__law_numbers (E : Env K mg) : FnOk P w K mg base CX0 1 (He.ga K "_law_numbers") E.d__law_numbers ["script"] (sp__law_numbers K) := ok__law_numbers E 
theorem all__law_draw (E : Env K mg) : FnOk P w K mg base CX0 1 (He.ga K "_law_draw") E.d__law_draw ["row", "at", "limit"] (sp__law_draw K) := ok__law_draw E 
theorem all__law_take (E : Env K mg) : FnOk P w K mg base CX0 2 (He.ga K "_law_take") E.d__law_take ["row", "spot", "limit"] (sp__law_take K) := ok__law_take E (all__law_draw E)
theorem all__law_whole (E : Env K mg) : FnOk P w K mg base CX0 1 (He.ga K "_law_whole") E.d__law_whole ["value"] (sp__law_whole K) := ok__law_whole E 
theorem rec__law_listed (E : Env K mg) : ∀ n : Nat, FnOk P w K mg base CX0 (n + 1) (He.ga K "_law_listed") E.d__law_listed ["value"] (sp__law_listed K n)
  | 0 => E.F__law_listed.ok sc__law_listed (fun vs H Q E' h => len__law_listed h) (fun cdv A outer s H vs Q E' hr h => absurd h no__law_listed)
  | n + 1 => ok__law_listed E (rec__law_listed E n)
theorem all__law_listed (E : Env K mg) : FnOk P w K mg base CX0 9 (He.ga K "_law_listed") E.d__law_listed ["value"] (sp__law_listed K 8) := rec__law_listed E 8
theorem rec__law_tupled (E : Env K mg) : ∀ n : Nat, FnOk P w K mg base CX0 (n + 1) (He.ga K "_law_tupled") E.d__law_tupled ["value"] (sp__law_tupled K n)
  | 0 => E.F__law_tupled.ok sc__law_tupled (fun vs H Q E' h => len__law_tupled h) (fun cdv A outer s H vs Q E' hr h => absurd h no__law_tupled)
  | n + 1 => ok__law_tupled E (rec__law_tupled E n)
theorem all__law_tupled (E : Env K mg) : FnOk P w K mg base CX0 9 (He.ga K "_law_tupled") E.d__law_tupled ["value"] (sp__law_tupled K 8) := rec__law_tupled E 8
theorem rec__law_levels (E : Env K mg) : ∀ n : Nat, FnOk P w K mg base CX0 (n + 3) (He.ga K "_law_levels") E.d__law_levels ["row", "spot", "value"] (sp__law_levels K n)
  | 0 => E.F__law_levels.ok sc__law_levels (fun vs H Q E' h => len__law_levels h) (fun cdv A outer s H vs Q E' hr h => absurd h no__law_levels)
  | n + 1 => ok__law_levels E (all__law_take E) (rec__law_levels E n)
theorem all__law_levels (E : Env K mg) : FnOk P w K mg base CX0 12 (He.ga K "_law_levels") E.d__law_levels ["row", "spot", "value"] (sp__law_levels K 9) := rec__law_levels E 9
theorem all__law_handed (E : Env K mg) : FnOk P w K mg base CX0 13 (He.ga K "_law_handed") E.d__law_handed ["row", "spot", "value"] (sp__law_handed K) := ok__law_handed E (all__law_take E) (all__law_listed E) (all__law_levels E)
theorem all__law_is_string (E : Env K mg) : FnOk P w K mg base CX0 1 (He.ga K "_law_is_string") E.d__law_is_string ["value", "most"] (sp__law_is_string K) := ok__law_is_string E 
theorem all__law_is_table (E : Env K mg) : FnOk P w K mg base CX0 2 (He.ga K "_law_is_table") E.d__law_is_table ["value"] (sp__law_is_table K) := ok__law_is_table E (all__law_is_string E) (all__law_whole E)
theorem all__law_letters (E : Env K mg) : FnOk P w K mg base CX0 3 (He.ga K "_law_letters") E.d__law_letters ["row", "spot", "most", "few"] (sp__law_letters K) := ok__law_letters E (all__law_take E)
theorem all__law_few (E : Env K mg) : FnOk P w K mg base CX0 3 (He.ga K "_law_few") E.d__law_few ["row", "spot", "sizes"] (sp__law_few K) := ok__law_few E (all__law_take E)
theorem all__law_table (E : Env K mg) : FnOk P w K mg base CX0 4 (He.ga K "_law_table") E.d__law_table ["row", "spot", "many", "few"] (sp__law_table K) := ok__law_table E (all__law_take E) (all__law_letters E)
theorem rec__law_table_changed (E : Env K mg) : ∀ n : Nat, FnOk P w K mg base CX0 (n + 3) (He.ga K "_law_table_changed") E.d__law_table_changed ["row", "spot", "value"] (sp__law_table_changed K n)
  | 0 => E.F__law_table_changed.ok sc__law_table_changed (fun vs H Q E' h => len__law_table_changed h) (fun cdv A outer s H vs Q E' hr h => absurd h no__law_table_changed)
  | n + 1 => ok__law_table_changed E (all__law_take E) (rec__law_table_changed E n)
theorem all__law_table_changed (E : Env K mg) : FnOk P w K mg base CX0 12 (He.ga K "_law_table_changed") E.d__law_table_changed ["row", "spot", "value"] (sp__law_table_changed K 9) := rec__law_table_changed E 9
theorem all_law (E : Env K mg) : FnOk P w K mg base CX0 20 (He.ga K "law") E.d_law ["script"] (sp_law K) := ok_law E (all__law_numbers E) (all__law_few E) (all__law_table E) (all__law_handed E) (all__law_so E) (all_is_table E) (all__law_tupled E) (all__law_table_changed E) (all__law_is_table E)
theorem facts {h : Heap} {f : Addr} (X : K.In h) (G : h.Ns mainGlobals mg) (hfa : mg ("law" : Str) = some (.ref f)) (c : He.SaysD fa fn K) :
    ∃ fd : FuncData, (∀ (s : Shared) (v : Value), BindsTo s fd ⟨[v], []⟩ [("script", v)]) ∧ ∀ base : Heap, K.In base → base.Ns mainGlobals mg → FnOk P w K mg base CX0 20 f fd ["script"] (sp_law K) := by
  obtain ⟨f_is_whole, F_is_whole⟩ := c.def_ 0 (d := dd_is_whole) rfl
  obtain ⟨f_is_sequence, F_is_sequence⟩ := c.def_ 1 (d := dd_is_sequence) rfl
  obtain ⟨f_is_triple, F_is_triple⟩ := c.def_ 2 (d := dd_is_triple) rfl
  obtain ⟨f_is_word, F_is_word⟩ := c.def_ 3 (d := dd_is_word) rfl
  obtain ⟨f_is_short, F_is_short⟩ := c.def_ 4 (d := dd_is_short) rfl
  obtain ⟨f_is_rising, F_is_rising⟩ := c.def_ 5 (d := dd_is_rising) rfl
  obtain ⟨f_is_table, F_is_table⟩ := c.def_ 6 (d := dd_is_table) rfl
  obtain ⟨f_is_fault, F_is_fault⟩ := c.def_ 7 (d := dd_is_fault) rfl
  obtain ⟨f_is_piece, F_is_piece⟩ := c.def_ 8 (d := dd_is_piece) rfl
  obtain ⟨f__law_so, F__law_so⟩ := c.def_ 9 (d := dd__law_so) rfl
  obtain ⟨f__law_numbers, F__law_numbers⟩ := c.def_ 10 (d := dd__law_numbers) rfl
  obtain ⟨f__law_draw, F__law_draw⟩ := c.def_ 11 (d := dd__law_draw) rfl
  obtain ⟨f__law_take, F__law_take⟩ := c.def_ 12 (d := dd__law_take) rfl
  obtain ⟨f__law_whole, F__law_whole⟩ := c.def_ 13 (d := dd__law_whole) rfl
  obtain ⟨f__law_listed, F__law_listed⟩ := c.def_ 14 (d := dd__law_listed) rfl
  obtain ⟨f__law_tupled, F__law_tupled⟩ := c.def_ 15 (d := dd__law_tupled) rfl
  obtain ⟨f__law_handed, F__law_handed⟩ := c.def_ 16 (d := dd__law_handed) rfl
  obtain ⟨f__law_levels, F__law_levels⟩ := c.def_ 17 (d := dd__law_levels) rfl
  obtain ⟨f__law_is_string, F__law_is_string⟩ := c.def_ 18 (d := dd__law_is_string) rfl
  obtain ⟨f__law_is_table, F__law_is_table⟩ := c.def_ 19 (d := dd__law_is_table) rfl
  obtain ⟨f__law_letters, F__law_letters⟩ := c.def_ 20 (d := dd__law_letters) rfl
  obtain ⟨f__law_few, F__law_few⟩ := c.def_ 21 (d := dd__law_few) rfl
  obtain ⟨f__law_table, F__law_table⟩ := c.def_ 22 (d := dd__law_table) rfl
  obtain ⟨f__law_table_changed, F__law_table_changed⟩ := c.def_ 23 (d := dd__law_table_changed) rfl
  obtain ⟨f_law, F_law⟩ := c.def_ 24 (d := dd_law) rfl
  let E : Env K mg := {
    d_is_whole := f_is_whole
    F_is_whole := F_is_whole
    g_is_whole := He.glo_ok X G (c.fact 0 (f := .glo "is_whole") rfl)
    d_is_sequence := f_is_sequence
    F_is_sequence := F_is_sequence
    g_is_sequence := He.glo_ok X G (c.fact 1 (f := .glo "is_sequence") rfl)
    d_is_triple := f_is_triple
    F_is_triple := F_is_triple
    g_is_triple := He.glo_ok X G (c.fact 2 (f := .glo "is_triple") rfl)
    d_is_word := f_is_word
    F_is_word := F_is_word
    g_is_word := He.glo_ok X G (c.fact 3 (f := .glo "is_word") rfl)
    d_is_short := f_is_short
    F_is_short := F_is_short
    g_is_short := He.glo_ok X G (c.fact 4 (f := .glo "is_short") rfl)
    d_is_rising := f_is_rising
    F_is_rising := F_is_rising
    g_is_rising := He.glo_ok X G (c.fact 5 (f := .glo "is_rising") rfl)
    d_is_table := f_is_table
    F_is_table := F_is_table
    g_is_table := He.glo_ok X G (c.fact 6 (f := .glo "is_table") rfl)
    d_is_fault := f_is_fault
    F_is_fault := F_is_fault
    g_is_fault := He.glo_ok X G (c.fact 7 (f := .glo "is_fault") rfl)
    d_is_piece := f_is_piece
    F_is_piece := F_is_piece
    g_is_piece := He.glo_ok X G (c.fact 8 (f := .glo "is_piece") rfl)
    d__law_so := f__law_so
    F__law_so := F__law_so
    g__law_so := He.glo_ok X G (c.fact 9 (f := .glo "_law_so") rfl)
    d__law_numbers := f__law_numbers
    F__law_numbers := F__law_numbers
    g__law_numbers := He.glo_ok X G (c.fact 10 (f := .glo "_law_numbers") rfl)
    d__law_draw := f__law_draw
    F__law_draw := F__law_draw
    g__law_draw := He.glo_ok X G (c.fact 11 (f := .glo "_law_draw") rfl)
    d__law_take := f__law_take
    F__law_take := F__law_take
    g__law_take := He.glo_ok X G (c.fact 12 (f := .glo "_law_take") rfl)
    d__law_whole := f__law_whole
    F__law_whole := F__law_whole
    g__law_whole := He.glo_ok X G (c.fact 13 (f := .glo "_law_whole") rfl)
    d__law_listed := f__law_listed
    F__law_listed := F__law_listed
    g__law_listed := He.glo_ok X G (c.fact 14 (f := .glo "_law_listed") rfl)
    d__law_tupled := f__law_tupled
    F__law_tupled := F__law_tupled
    g__law_tupled := He.glo_ok X G (c.fact 15 (f := .glo "_law_tupled") rfl)
    d__law_handed := f__law_handed
    F__law_handed := F__law_handed
    g__law_handed := He.glo_ok X G (c.fact 16 (f := .glo "_law_handed") rfl)
    d__law_levels := f__law_levels
    F__law_levels := F__law_levels
    g__law_levels := He.glo_ok X G (c.fact 17 (f := .glo "_law_levels") rfl)
    d__law_is_string := f__law_is_string
    F__law_is_string := F__law_is_string
    g__law_is_string := He.glo_ok X G (c.fact 18 (f := .glo "_law_is_string") rfl)
    d__law_is_table := f__law_is_table
    F__law_is_table := F__law_is_table
    g__law_is_table := He.glo_ok X G (c.fact 19 (f := .glo "_law_is_table") rfl)
    d__law_letters := f__law_letters
    F__law_letters := F__law_letters
    g__law_letters := He.glo_ok X G (c.fact 20 (f := .glo "_law_letters") rfl)
    d__law_few := f__law_few
    F__law_few := F__law_few
    g__law_few := He.glo_ok X G (c.fact 21 (f := .glo "_law_few") rfl)
    d__law_table := f__law_table
    F__law_table := F__law_table
    g__law_table := He.glo_ok X G (c.fact 22 (f := .glo "_law_table") rfl)
    d__law_table_changed := f__law_table_changed
    F__law_table_changed := F__law_table_changed
    g__law_table_changed := He.glo_ok X G (c.fact 23 (f := .glo "_law_table_changed") rfl)
    d_law := f_law
    F_law := F_law
    g_law := He.glo_ok X G (c.fact 24 (f := .glo "law") rfl)
    c_GREATEST_FAULT := He.int_ok X G (c.fact 25 (f := .int "GREATEST_FAULT" 9) rfl)
    c_LETTERS := He.str_ok X G (c.fact 26 (f := .str "LETTERS" "abcdef") rfl)
    c_MOST_FAULTS := He.int_ok X G (c.fact 27 (f := .int "MOST_FAULTS" 8) rfl)
    c_MOST_IN_PIECE := He.int_ok X G (c.fact 28 (f := .int "MOST_IN_PIECE" 2) rfl)
    z_all := He.free_ok X G (c.fact 29 (f := .free "all") rfl)
    z_bool := He.free_ok X G (c.fact 30 (f := .free "bool") rfl)
    z_int := He.free_ok X G (c.fact 31 (f := .free "int") rfl)
    z_isinstance := He.free_ok X G (c.fact 32 (f := .free "isinstance") rfl)
    z_len := He.free_ok X G (c.fact 33 (f := .free "len") rfl)
    z_list := He.free_ok X G (c.fact 34 (f := .free "list") rfl)
    z_range := He.free_ok X G (c.fact 35 (f := .free "range") rfl)
    z_sorted := He.free_ok X G (c.fact 36 (f := .free "sorted") rfl)
    z_str := He.free_ok X G (c.fact 37 (f := .free "str") rfl)
    z_tuple := He.free_ok X G (c.fact 38 (f := .free "tuple") rfl) }
  have e := hfa.symm.trans E.g_law
  cases e
  have b := FunD.bindsA (ps := ["script"]) F_law fun _ _ _ _ _ _ us hl => match us, hl with | [_], _ => rfl
  exact ⟨f_law, fun s v => b s [v] rfl, fun base _ _ => all_law E⟩
end
end K16
open PySem PySem.W PySem.Calls PyProof.Rows
theorem PySem.Challenge.cw_slipworth_k16_tables_told_apart_holds : PySem.Challenge.rw_slipworth_k16_tables_told_apart.Holds := by
  w_on; o_law
  refine HandSHeadRun.head_any (r := OpenLaw.row PySem.Challenge.rw_slipworth_k16_tables_told_apart) (q := view (OpenLaw.row PySem.Challenge.rw_slipworth_k16_tables_told_apart).prog [31]) (H := K16.hk) (ob := K16.ob) (M := 1500) (loose := K16.loose) (d := HandSHeadRun.topDef (OpenLaw.row PySem.Challenge.rw_slipworth_k16_tables_told_apart).prog 31) (kwd := []) K16.ob_eq
    (by kernel_rfl) (fun s => by kernel_rfl) K16.run (by kernel_rfl) (by kernel_rfl) (by kernel_rfl) (by rfl) (by first | assumption | decide +kernel) (by decide +kernel) ⟨rfl, rfl, rfl, rfl, rfl, by decide +kernel⟩ ?hw ?hc
  case hw => w_witness2
  case hc =>
    refine L2.walk_ofE (l := PySem.Challenge.rw_slipworth_k16_tables_told_apart) (n := 63) (k := 20) (x := "script") (CX := L2.CX0) rfl (by decide) (by kernel_rfl) ⟨rfl, by decide, by decide⟩ ?F (fun _ _ _ _ z => z)
    intro w mg fa h Y G hmg0
    obtain ⟨K, KX, c⟩ := Y
    have hmg : mg ("law" : PySem.Str) = some (.ref fa) := by
      have e : (HandSHeadRun.topDef (OpenLaw.row PySem.Challenge.rw_slipworth_k16_tables_told_apart).prog 31).name = ("law" : PySem.Str) := by kernel_rfl
      rw [← e]
      exact hmg0
    obtain ⟨fd, hb, hF⟩ := K16.facts (P := (PySem.Challenge.rw_slipworth_k16_tables_told_apart).prog) (w := w) KX G hmg c
    exact ⟨K, fd, Slip.sp_law K, KX, hb, fun H a ns hl _ hS => ⟨a, ns, rfl, hS, hl, fun _ => rfl⟩, hF⟩
