import PyProof.Rows.All
import Wide.All
import OpenK.AllK
import Wide.FinOn
import HandS.ForMost
import HandS.Wide
import HandS.Codes
import HandS.More
import HandS.IsInst
import HandS.Walk
import HandS.TupAny
import HandS.ForExc
import HandS.Style
import PySem.Challenge.RW_rightrows_k07_heads
set_option Elab.async false
set_option linter.all false
set_option maxRecDepth 100000
set_option synthInstance.maxSize 100000
set_option synthInstance.maxHeartbeats 0
namespace RR
open PySem PySem.Spec PyProof.Rows L2
/-! ### data, cells -/
abbrev D := PyData
abbrev D.obj (c : Int) (ds : List D) : D := .dict [(.int c, .list ds)]
/-- the classes: address, fields in order -/
abbrev Cl := Int → Option (Addr × List Str)
inductive W where
  | val (d : D)
  | ref (k : Nat)
  | ty (n : String)
inductive Cell where
  | lst (ds : List D)
  | frz (ds : List D)
  | obj (c : Int) (ws : List W)
  | nil
/-- how an exception leaves: class, fields, cells -/
abbrev XD := Int → List D → List Cell → Prop
/-- the classes, and what is wanted of an exception, by the heap and by the data -/
structure Ct where
  cl : Cl
  E : XK
  R : XD
instance : Coe Ct Cl := ⟨Ct.cl⟩
mutual
inductive RD (ct : Cl) (F : Addr → Prop) (H : Hp) : V → D → Prop
  | non : RD ct F H .non .none
  | int (i : Int) : RD ct F H (.int i) (.int i)
  | str (x : Str) : RD ct F H (.str x) (.str x)
  | bl (b : Bool) : RD ct F H (.bl b) (.bool b)
  | tup {a : Addr} {xs : List V} {ds : List D} : H a = some (.tup xs) → RDs ct F H xs ds → RD ct F H (.ref a) (.tuple ds)
  | lst {a : Addr} {xs : List V} {ds : List D} : F a → H a = some (.lst xs) → RDs ct F H xs ds → RD ct F H (.ref a) (.list ds)
  | obj {a C dx : Addr} {c : Int} {ns : List Str} {vs : List V} {ds : List D} : F a → ct c = some (C, ns) → H a = some (.ins C dx (ns.zip vs)) → vs.length = ns.length → RDs ct F H vs ds → RD ct F H (.ref a) (.dict [(.int c, .list ds)])
inductive RDs (ct : Cl) (F : Addr → Prop) (H : Hp) : List V → List D → Prop
  | nil : RDs ct F H [] []
  | cons {v : V} {vs : List V} {d : D} {ds : List D} : RD ct F H v d → RDs ct F H vs ds → RDs ct F H (v :: vs) (d :: ds)
end
/-- tuples and what is frozen stand -/
def Kp (F : Addr → Prop) (H : Hp) (F' : Addr → Prop) (H' : Hp) : Prop := (∀ a xs, H a = some (.tup xs) → H' a = some (.tup xs)) ∧ ∀ a, F a → F' a ∧ H' a = H a
theorem Kp.refl (F : Addr → Prop) (H : Hp) : Kp F H F H := ⟨fun _ _ h => h, fun _ h => ⟨h, rfl⟩⟩
theorem Kp.trans {F F1 F2 : Addr → Prop} {H H1 H2 : Hp} (a : Kp F H F1 H1) (b : Kp F1 H1 F2 H2) : Kp F H F2 H2 :=
  ⟨fun c xs h => b.1 c xs (a.1 c xs h), fun c h => ⟨(b.2 c (a.2 c h).1).1, ((b.2 c (a.2 c h).1).2).trans (a.2 c h).2⟩⟩
section
variable {ct : Cl} {F F' : Addr → Prop} {H H' : Hp}
mutual
theorem RD.mono (k : Kp F H F' H') : ∀ (d : D) (v : V), RD ct F H v d → RD ct F' H' v d
  | .none, v, h => by cases h; exact .non
  | .bool b, v, h => by cases h; exact .bl b
  | .int i, v, h => by cases h; exact .int i
  | .str x, v, h => by cases h; exact .str x
  | .tuple ds, v, h => by
    cases h with
    | tup h hs => exact .tup (k.1 _ _ h) (RDs.mono k ds _ hs)
  | .list ds, v, h => by
    cases h with
    | lst f h hs => exact .lst (k.2 _ f).1 ((k.2 _ f).2.trans h) (RDs.mono k ds _ hs)
  | .dict [(.int c, .list ds)], v, h => by
    cases h with
    | obj f hc h hl hs => exact .obj (k.2 _ f).1 hc ((k.2 _ f).2.trans h) hl (RDs.mono k ds _ hs)
  | .dict [], v, h => by cases h
  | .dict ((.none, _) :: _), v, h => by cases h
  | .dict ((.bool _, _) :: _), v, h => by cases h
  | .dict ((.str _, _) :: _), v, h => by cases h
  | .dict ((.tuple _, _) :: _), v, h => by cases h
  | .dict ((.list _, _) :: _), v, h => by cases h
  | .dict ((.dict _, _) :: _), v, h => by cases h
  | .dict ((.int _, .none) :: _), v, h => by cases h
  | .dict ((.int _, .bool _) :: _), v, h => by cases h
  | .dict ((.int _, .int _) :: _), v, h => by cases h
  | .dict ((.int _, .str _) :: _), v, h => by cases h
  | .dict ((.int _, .tuple _) :: _), v, h => by cases h
  | .dict ((.int _, .dict _) :: _), v, h => by cases h
  | .dict ((.int _, .list _) :: _ :: _), v, h => by cases h
theorem RDs.mono (k : Kp F H F' H') : ∀ (ds : List D) (vs : List V), RDs ct F H vs ds → RDs ct F' H' vs ds
  | [], vs, h => by cases h; exact .nil
  | d :: ds, vs, h => by
    cases h with
    | cons h hs => exact .cons (RD.mono k d _ h) (RDs.mono k ds _ hs)
end
theorem RDs.length : ∀ {vs : List V} {ds : List D}, RDs ct F H vs ds → vs.length = ds.length
  | _, _, .nil => rfl
  | _, _, .cons _ h => congrArg Nat.succ (RDs.length h)
theorem RDs.get : ∀ {vs : List V} {ds : List D}, RDs ct F H vs ds → ∀ (i : Nat) (d : D), ds[i]? = some d → ∃ v, vs[i]? = some v ∧ RD ct F H v d
  | _, _, .nil, i, v, h => by simp at h
  | _, _, .cons h1 h, 0, v, e => ⟨_, rfl, by
      have e2 := Option.some.inj e
      rw [← e2]
      exact h1⟩
  | _, _, .cons h1 h, i + 1, v, e => RDs.get h i v e
theorem RDs.get' : ∀ {vs : List V} {ds : List D}, RDs ct F H vs ds → ∀ (i : Nat) (v : V), vs[i]? = some v → ∃ d, ds[i]? = some d ∧ RD ct F H v d
  | _, _, .nil, i, v, h => by simp at h
  | _, _, .cons h1 h, 0, v, e => ⟨_, rfl, by
      have e2 := Option.some.inj e
      rw [← e2]
      exact h1⟩
  | _, _, .cons h1 h, i + 1, v, e => RDs.get' h i v e
theorem RDs.app : ∀ {vs ws : List V} {ds es : List D}, RDs ct F H vs ds → RDs ct F H ws es → RDs ct F H (vs ++ ws) (ds ++ es)
  | _, _, _, _, .nil, h => h
  | _, _, _, _, .cons h1 h2, h => .cons h1 (RDs.app h2 h)
theorem RDs.take : ∀ {vs : List V} {ds : List D} (n : Nat), RDs ct F H vs ds → RDs ct F H (vs.take n) (ds.take n)
  | _, _, 0, _ => .nil
  | _, _, n + 1, .nil => .nil
  | _, _, n + 1, .cons h1 h2 => .cons h1 (RDs.take n h2)
theorem RDs.drop : ∀ {vs : List V} {ds : List D} (n : Nat), RDs ct F H vs ds → RDs ct F H (vs.drop n) (ds.drop n)
  | _, _, 0, h => h
  | _, _, n + 1, .nil => .nil
  | _, _, n + 1, .cons h1 h2 => RDs.drop n h2
theorem RDs.rev : ∀ {vs : List V} {ds : List D}, RDs ct F H vs ds → RDs ct F H vs.reverse ds.reverse
  | _, _, .nil => .nil
  | _, _, .cons h1 h2 => by
    rw [List.reverse_cons, List.reverse_cons]
    exact RDs.app (RDs.rev h2) (.cons h1 .nil)
theorem RDs.set : ∀ {vs : List V} {ds : List D} (i : Nat) {v : V} {d : D}, RDs ct F H vs ds → RD ct F H v d → RDs ct F H (vs.set i v) (ds.set i d)
  | _, _, _, _, _, .nil, _ => .nil
  | _, _, 0, _, _, .cons h1 h2, h => .cons h h2
  | _, _, i + 1, _, _, .cons h1 h2, h => .cons h1 (RDs.set i h2 h)
end
/-! ### the ghost -/
structure Gh where
  F : Addr → Prop
  as : List Addr
  ms : List (List Addr)
structure Bs where
  g : Gh
  H : Hp
abbrev Bs.F (B : Bs) : Addr → Prop := B.g.F
abbrev Bs.M (B : Bs) : List Addr := B.g.ms.flatten
def RW (ct : Cl) (g : Gh) (H : Hp) (v : V) : W → Prop
  | .val d => RD ct g.F H v d
  | .ref k => ∃ a, g.as[k]? = some a ∧ v = .ref a
  | .ty n => v = .ty n
def RWs (ct : Cl) (g : Gh) (H : Hp) : List V → List W → Prop := Paired (RW ct g H)
/-- a cell at a, with what of it may be written -/
def CellAt (ct : Cl) (g : Gh) (H : Hp) (a : Addr) (m : List Addr) : Cell → Prop
  | .lst ds => m = [a] ∧ ∃ xs, H a = some (.lst xs) ∧ RDs ct g.F H xs ds
  | .frz ds => m = [] ∧ g.F a ∧ ∃ xs, H a = some (.lst xs) ∧ RDs ct g.F H xs ds
  | .obj c ws => m = [a] ∧ ∃ C ns dx vs, ct c = some (C, ns) ∧ H a = some (.ins C dx (ns.zip vs)) ∧ vs.length = ns.length ∧ RWs ct g H vs ws
  | .nil => m = []
/-- the cells stand -/
structure Clz (ct : Cl) (g : Gh) (H : Hp) (C : List Cell) : Prop where
  la : g.as.length = C.length
  lm : g.ms.length = C.length
  at_ : ∀ (k : Nat) (c : Cell), C[k]? = some c → ∃ a m, g.as[k]? = some a ∧ g.ms[k]? = some m ∧ CellAt ct g H a m c
  nd : g.ms.flatten.Nodup
  ap : ∀ a ∈ g.ms.flatten, ¬ g.F a
  lv : ∀ a, g.F a → H a ≠ none
/-- ghosts one behind the other -/
structure Gk (g : Gh) (H : Hp) (g' : Gh) (H' : Hp) : Prop where
  kp : Kp g.F H g'.F H'
  as : ∀ (k : Nat) (a : Addr), g.as[k]? = some a → g'.as[k]? = some a
theorem Gk.refl (g : Gh) (H : Hp) : Gk g H g H := ⟨Kp.refl _ _, fun _ _ h => h⟩
theorem Gk.trans {g g1 g2 : Gh} {H H1 H2 : Hp} (a : Gk g H g1 H1) (b : Gk g1 H1 g2 H2) : Gk g H g2 H2 := ⟨a.kp.trans b.kp, fun k x h => b.as k x (a.as k x h)⟩
theorem RW.mono {ct : Cl} {g g' : Gh} {H H' : Hp} (k : Gk g H g' H') : ∀ {v : V} {w : W}, RW ct g H v w → RW ct g' H' v w
  | v, .val d, h => RD.mono k.kp d v h
  | v, .ref i, ⟨a, h, e⟩ => ⟨a, k.as i a h, e⟩
  | v, .ty n, h => h
theorem RWs.mono {ct : Cl} {g g' : Gh} {H H' : Hp} (k : Gk g H g' H') {vs : List V} {ws : List W} (h : RWs ct g H vs ws) : RWs ct g' H' vs ws := Paired.mapP h fun _ _ => RW.mono k
/-- what a body may rely on: since its entry all but M stands, what is frozen or written beside M is new -/
structure Fr0 (B : Bs) (g : Gh) (H : Hp) : Prop where
  kt : ∀ a xs, B.H a = some (.tup xs) → H a = some (.tup xs)
  keep : ∀ a o, B.H a = some o → a ∉ B.M → H a = some o
  newF : ∀ a, g.F a → B.F a ∨ B.H a = none ∨ a ∈ B.M
  newM : ∀ a ∈ g.ms.flatten, a ∈ B.M ∨ B.H a = none
abbrev Ev := List (Option W)
/-- an exception, its class and its fields -/
def XV (ct : Cl) (g : Gh) (H : Hp) (cls : Value) (d : Option Addr) (c : Int) (ds : List D) : Prop :=
  ∃ (C : Addr) (ns : List Str), ct c = some (C, ns) ∧ cls = .ref C ∧ (ns = [] ∧ ds = [] ∨ ∃ (dx : Addr) (vs : List V), d = some dx ∧ H dx = some (.xd (ns.zip vs)) ∧ vs.length = ns.length ∧ RDs ct g.F H vs ds)
def XOk (ct : Ct) (B : Bs) : Prop := ∀ g' H' C' cls d c ds, Gk B.g B.H g' H' → Fr0 B g' H' → Clz ct g' H' C' → XV ct g' H' cls d c ds → ct.R c ds C' → ct.E cls d H'
structure Rel (ct : Ct) (B : Bs) (g : Gh) (σ : L2.St) (H : Hp) (E : Ev) (C : List Cell) : Prop where
  env : ∀ (i : Nat) (w : W), E[i]? = some (some w) → ∃ v, σ[i]? = some (some v) ∧ RW ct g H v w
  len : σ.length = E.length
  cs : Clz ct g H C
  fr : Fr0 B g H
  gg : Gk B.g B.H g H
  xo : XOk ct B
theorem Rel.gk {ct : Ct} {B : Bs} {g g' : Gh} {σ : L2.St} {H H' : Hp} {E : Ev} {C C' : List Cell} (R : Rel ct B g σ H E C) (k : Gk g H g' H') (c : Clz ct g' H' C') (f : Fr0 B g' H') : Rel ct B g' σ H' E C' :=
  ⟨fun i w h => by
    obtain ⟨v, h1, h2⟩ := R.env i w h
    exact ⟨v, h1, h2.mono k⟩, R.len, c, f, R.gg.trans k, R.xo⟩
/-! ### readings -/
abbrev DK := W → List Cell → Prop
abbrev DE := Ev → List Cell → DK → Prop
abbrev DT := Ev → List Cell → (Bool → List Cell → Prop) → Prop
abbrev DA := Ev → List Cell → (List W → List Cell → Prop) → Prop
structure DEnds where
  nx : Ev → List Cell → Prop
  rt : DK
  bk : Ev → List Cell → Prop := fun _ _ => False
  ct : Ev → List Cell → Prop := fun _ _ => False
abbrev DS := DEnds → Ev → List Cell → Prop
def PostE (ct : Ct) (B : Bs) (g : Gh) (H : Hp) (σ : L2.St) (E : Ev) (Q : DK) : VK := fun v H' => ∃ g' C' w, Gk g H g' H' ∧ Rel ct B g' σ H' E C' ∧ RW ct g' H' v w ∧ Q w C'
def ImE (ct : Ct) (tt : TE) (t : DE) : Prop := ∀ B g σ H E C Q (K : VK), Rel ct B g σ H E C → (∀ v H', PostE ct B g H σ E Q v H' → K v H') → t E C Q → tt σ H K
def PostT (ct : Ct) (B : Bs) (g : Gh) (H : Hp) (σ : L2.St) (E : Ev) (Q : Bool → List Cell → Prop) : Bool → Hp → Prop := fun b H' => ∃ g' C', Gk g H g' H' ∧ Rel ct B g' σ H' E C' ∧ Q b C'
def ImT (ct : Ct) (tt : TT) (t : DT) : Prop := ∀ B g σ H E C Q (K : Bool → Hp → Prop), Rel ct B g σ H E C → (∀ v H', PostT ct B g H σ E Q v H' → K v H') → t E C Q → tt σ H K
def PostA (ct : Ct) (B : Bs) (g : Gh) (H : Hp) (σ : L2.St) (E : Ev) (Q : List W → List Cell → Prop) : List V → Hp → Prop := fun vs H' => ∃ g' C' ws, Gk g H g' H' ∧ Rel ct B g' σ H' E C' ∧ RWs ct g' H' vs ws ∧ Q ws C'
def ImA (ct : Ct) (tt : TA) (t : DA) : Prop := ∀ B g σ H E C Q (K : List V → Hp → Prop), Rel ct B g σ H E C → (∀ v H', PostA ct B g H σ E Q v H' → K v H') → t E C Q → tt σ H K
/-- the ends -/
structure EndsOk (ct : Ct) (B : Bs) (g : Gh) (H : Hp) (DD : DEnds) (D : Ends) : Prop where
  nx : ∀ σ' H' g' E' C', Gk g H g' H' → Rel ct B g' σ' H' E' C' → DD.nx E' C' → D.nx σ' H'
  rt : ∀ v σ' H' g' E' C' w, Gk g H g' H' → Rel ct B g' σ' H' E' C' → RW ct g' H' v w → DD.rt w C' → D.rt v H'
  bk : ∀ σ' H' g' E' C', Gk g H g' H' → Rel ct B g' σ' H' E' C' → DD.bk E' C' → D.bk σ' H'
  ct : ∀ σ' H' g' E' C', Gk g H g' H' → Rel ct B g' σ' H' E' C' → DD.ct E' C' → D.ct σ' H'
theorem EndsOk.later {ct : Ct} {B : Bs} {g g1 : Gh} {H H1 : Hp} {DD : DEnds} {D : Ends} (e : EndsOk ct B g H DD D) (k : Gk g H g1 H1) : EndsOk ct B g1 H1 DD D :=
  ⟨fun σ' H' g' E' C' a => e.nx σ' H' g' E' C' (k.trans a), fun v σ' H' g' E' C' w a => e.rt v σ' H' g' E' C' w (k.trans a), fun σ' H' g' E' C' a => e.bk σ' H' g' E' C' (k.trans a), fun σ' H' g' E' C' a => e.ct σ' H' g' E' C' (k.trans a)⟩
def ImS (ct : Ct) (tt : TS) (t : DS) : Prop := ∀ B g σ H E C D DD, Rel ct B g σ H E C → EndsOk ct B g H DD D → t DD E C → tt D σ H
/-- behind an expression: on with what was wanted -/
theorem PostE.later {ct : Ct} {B : Bs} {g g1 : Gh} {H H1 H' : Hp} {σ : L2.St} {E : Ev} {Q : DK} {v : V} (k : Gk g H g1 H1) (h : PostE ct B g1 H1 σ E Q v H') : PostE ct B g H σ E Q v H' := by
  obtain ⟨g', C', w, k', r⟩ := h
  exact ⟨g', C', w, k.trans k', r⟩
end RR

namespace RR
open PySem PySem.Spec PyProof.Rows L2
/-! ### the ghost's steps -/
theorem flat_apart {ms : List (List Addr)} (nd : ms.flatten.Nodup) : ∀ {k j : Nat} {m1 m2 : List Addr} {a : Addr}, ms[k]? = some m1 → ms[j]? = some m2 → k ≠ j → a ∈ m1 → a ∉ m2 := by
  induction ms with
  | nil =>
    intro k j m1 m2 a h
    simp at h
  | cons m r ih =>
    intro k j m1 m2 a h1 h2 hn ha hb
    rw [List.flatten_cons, List.nodup_append] at nd
    have mem : ∀ {i : Nat} {q : List Addr}, r[i]? = some q → ∀ x ∈ q, x ∈ r.flatten := fun h x hx => List.mem_flatten.mpr ⟨_, List.mem_of_getElem? h, hx⟩
    cases k with
    | zero =>
      have e1 : m = m1 := Option.some.inj h1
      subst e1
      cases j with
      | zero => exact hn rfl
      | succ j => exact nd.2.2 a ha a (mem h2 a hb) rfl
    | succ k =>
      cases j with
      | zero =>
        have e2 : m = m2 := Option.some.inj h2
        subst e2
        exact nd.2.2 a hb a (mem h1 a ha) rfl
      | succ j => exact ih nd.2.1 h1 h2 (fun e => hn (by rw [e])) ha hb
theorem mem_flat {ms : List (List Addr)} {k : Nat} {m : List Addr} {a : Addr} (h : ms[k]? = some m) (ha : a ∈ m) : a ∈ ms.flatten := List.mem_flatten.mpr ⟨_, List.mem_of_getElem? h, ha⟩
section
variable {ct : Cl} {B : Bs} {g g' : Gh} {σ : L2.St} {H H' : Hp} {E : Ev} {C C' : List Cell}
/-- a cell whose own object stands -/
theorem CellAt.keep {a : Addr} {m : List Addr} {c : Cell} (h : CellAt ct g H a m c) (k : Gk g H g' H') (ha : H' a = H a ∨ c = .nil) : CellAt ct g' H' a m c := by
  cases c with
  | lst ds =>
    obtain ⟨e, xs, h1, h2⟩ := h
    have ha := ha.resolve_right (fun z => nomatch z)
    exact ⟨e, xs, ha.trans h1, RDs.mono k.kp _ _ h2⟩
  | frz ds =>
    obtain ⟨e, f, xs, h1, h2⟩ := h
    exact ⟨e, (k.kp.2 _ f).1, xs, (k.kp.2 _ f).2.trans h1, RDs.mono k.kp _ _ h2⟩
  | obj c ws =>
    obtain ⟨e, Cc, ns, dx, vs, h1, h2, h3, h4⟩ := h
    have ha := ha.resolve_right (fun z => nomatch z)
    exact ⟨e, Cc, ns, dx, vs, h1, ha.trans h2, h3, h4.mono k⟩
  | nil => exact h
theorem CellAt.some {a : Addr} {m : List Addr} {c : Cell} (h : CellAt ct g H a m c) : H a ≠ none ∨ c = .nil := by
  cases c with
  | lst ds =>
    obtain ⟨e, xs, h1, h2⟩ := h
    exact .inl (by rw [h1]; exact fun z => nomatch z)
  | frz ds =>
    obtain ⟨e, f, xs, h1, h2⟩ := h
    exact .inl (by rw [h1]; exact fun z => nomatch z)
  | obj c ws =>
    obtain ⟨e, Cc, ns, dx, vs, h1, h2, h3, h4⟩ := h
    exact .inl (by rw [h2]; exact fun z => nomatch z)
  | nil => exact .inr rfl
/-- something new is laid that is never written: a tuple, or what is frozen -/
def Gh.fz (g : Gh) (b : Bool) (p : Addr) : Gh := ⟨fun a => g.F a ∨ (b = true ∧ a = p), g.as, g.ms⟩
theorem gk_new {p : Addr} {o : HO} (b : Bool) (hp : H p = none) (lv : ∀ a, g.F a → H a ≠ none) : Gk g H (g.fz b p) (upd H p o) :=
  ⟨⟨fun a xs h => by rw [upd_ne (ne_of_none h hp)]; exact h, fun a h => ⟨.inl h, upd_ne fun e => lv a h (by rw [e]; exact hp)⟩⟩, fun _ _ h => h⟩
theorem Clz.mutIn (c : Clz ct g H C) : ∀ a ∈ g.ms.flatten, ∃ (k : Nat) (x : Cell) (a' : Addr) (m : List Addr), C[k]? = some x ∧ g.as[k]? = some a' ∧ g.ms[k]? = some m ∧ a ∈ m ∧ CellAt ct g H a' m x := fun a ha => by
  obtain ⟨m, hm, ham⟩ := List.mem_flatten.mp ha
  obtain ⟨k, hk⟩ := List.getElem?_of_mem hm
  have hk2 : k < C.length := by rw [← c.lm]; exact (List.getElem?_eq_some_iff.mp hk).1
  obtain ⟨a', m', h1, h2, h3⟩ := c.at_ k _ (List.getElem?_eq_getElem hk2)
  rw [hk] at h2
  cases h2
  exact ⟨k, _, a', m, List.getElem?_eq_getElem hk2, h1, hk, ham, h3⟩
theorem Clz.mutSome (c : Clz ct g H C) : ∀ a ∈ g.ms.flatten, H a ≠ none := fun a ha => by
  obtain ⟨k, x, a', m, h1, h2, h3, h4, h5⟩ := c.mutIn a ha
  cases x with
  | lst ds =>
    obtain ⟨e, xs, q1, q2⟩ := h5
    subst e
    have e2 : a = a' := by simpa using h4
    rw [e2, q1]
    exact fun z => nomatch z
  | frz ds =>
    obtain ⟨e, _⟩ := h5
    subst e
    cases h4
  | obj c ws =>
    obtain ⟨e, Cc, ns, dx, vs, q1, q2, _⟩ := h5
    subst e
    have e2 : a = a' := by simpa using h4
    rw [e2, q2]
    exact fun z => nomatch z
  | nil =>
    have e : m = [] := h5
    subst e
    cases h4
theorem Clz.new {p : Addr} {o : HO} {b : Bool} (c : Clz ct g H C) (hp : H p = none) : Clz ct (g.fz b p) (upd H p o) C :=
  ⟨c.la, c.lm, fun k x h => by
    obtain ⟨a, m, h1, h2, h3⟩ := c.at_ k x h
    refine ⟨a, m, h1, h2, h3.keep (gk_new b hp c.lv) ?_⟩
    rcases h3.some with q | q
    · exact .inl (upd_ne fun e => q (by rw [e]; exact hp))
    · exact .inr q, c.nd, fun a ha h => by
    rcases h with h | ⟨_, h⟩
    · exact c.ap a ha h
    · exact c.mutSome a ha (by rw [h]; exact hp), fun a h => by
    rcases h with h | ⟨_, h⟩
    · rw [upd_ne (fun e => c.lv a h (by rw [e]; exact hp))]
      exact c.lv a h
    · rw [h, upd_same]
      exact fun z => nomatch z⟩
theorem Fr0.fresh (f : Fr0 B g H) {p : Addr} (hp : H p = none) : B.H p = none ∨ p ∈ B.M := by
  by_cases h : p ∈ B.M
  · exact .inr h
  · refine .inl ?_
    cases e : B.H p with
    | none => rfl
    | some o =>
      rw [f.keep p o e h] at hp
      cases hp
theorem Fr0.new {p : Addr} {o : HO} {b : Bool} (f : Fr0 B g H) (hp : H p = none) : Fr0 B (g.fz b p) (upd H p o) :=
  ⟨fun a xs h => by
    have h2 := f.kt a xs h
    rw [upd_ne (ne_of_none h2 hp)]
    exact h2, fun a u h hm => by
    have h2 := f.keep a u h hm
    rw [upd_ne (ne_of_none h2 hp)]
    exact h2, fun a h => by
    rcases h with h | ⟨_, h⟩
    · exact f.newF a h
    · rw [h]
      exact .inr (f.fresh hp), f.newM⟩
theorem Rel.new {ct : Ct} {p : Addr} {o : HO} (b : Bool) (R : Rel ct B g σ H E C) (hp : H p = none) : Gk g H (g.fz b p) (upd H p o) ∧ Rel ct B (g.fz b p) σ (upd H p o) E C :=
  have k := gk_new (o := o) b hp R.cs.lv
  ⟨k, R.gk k (R.cs.new hp) (R.fr.new hp)⟩
/-- a new cell -/
def Gh.ad (g : Gh) (p : Addr) : Gh := ⟨g.F, g.as ++ [p], g.ms ++ [[p]]⟩
theorem gk_ad {p : Addr} {o : HO} (hp : H p = none) (lv : ∀ a, g.F a → H a ≠ none) : Gk g H (g.ad p) (upd H p o) :=
  ⟨⟨fun a xs h => by rw [upd_ne (ne_of_none h hp)]; exact h, fun a h => ⟨h, upd_ne fun e => lv a h (by rw [e]; exact hp)⟩⟩, fun k a h => by
    show (g.as ++ [p])[k]? = some a
    rw [List.getElem?_append_left (List.getElem?_eq_some_iff.mp h).1]
    exact h⟩
theorem Rel.ad {ct : Ct} {p : Addr} {o : HO} {c : Cell} (R : Rel ct B g σ H E C) (hp : H p = none) (new : Gk g H (g.ad p) (upd H p o) → CellAt ct (g.ad p) (upd H p o) p [p] c) :
    Gk g H (g.ad p) (upd H p o) ∧ Rel ct B (g.ad p) σ (upd H p o) E (C ++ [c]) ∧ (g.ad p).as[C.length]? = some p := by
  have k := gk_ad (o := o) hp R.cs.lv
  have fl : (g.ad p).ms.flatten = g.ms.flatten ++ [p] := by
    show (g.ms ++ [[p]]).flatten = _
    rw [List.flatten_append]
    rfl
  have hl : (g.ad p).as[C.length]? = some p := by
    show (g.as ++ [p])[C.length]? = some p
    rw [← R.cs.la]
    exact List.getElem?_concat_length
  refine ⟨k, R.gk k ⟨?_, ?_, fun j x h => ?_, ?_, fun a ha h => ?_, fun a h => ?_⟩ ⟨fun a xs h => ?_, fun a u h hm => ?_, fun a h => R.fr.newF a h, fun a ha => ?_⟩, hl⟩
  · show (g.as ++ [p]).length = _
    rw [List.length_append, List.length_append, R.cs.la]
    rfl
  · show (g.ms ++ [[p]]).length = _
    rw [List.length_append, List.length_append, R.cs.lm]
    rfl
  · by_cases hj : j < C.length
    · rw [List.getElem?_append_left hj] at h
      obtain ⟨a, m, h1, h2, h3⟩ := R.cs.at_ j x h
      refine ⟨a, m, k.as _ _ h1, ?_, h3.keep k ?_⟩
      · show (g.ms ++ [[p]])[j]? = some m
        rw [List.getElem?_append_left (List.getElem?_eq_some_iff.mp h2).1]
        exact h2
      · rcases h3.some with q | q
        · exact .inl (upd_ne fun e => q (by rw [e]; exact hp))
        · exact .inr q
    · have hj2 : j < (C ++ [c]).length := (List.getElem?_eq_some_iff.mp h).1
      rw [List.length_append] at hj2
      have e : j = C.length := by simp at hj2; omega
      subst e
      rw [List.getElem?_concat_length] at h
      cases h
      refine ⟨p, [p], hl, ?_, new k⟩
      show (g.ms ++ [[p]])[C.length]? = some [p]
      rw [← R.cs.lm]
      exact List.getElem?_concat_length
  · rw [fl, List.nodup_append]
    refine ⟨R.cs.nd, by simp, fun a ha b hb e => ?_⟩
    have e2 : b = p := by simpa using hb
    rw [e2] at e
    exact R.cs.mutSome a ha (by rw [e]; exact hp)
  · rw [fl, List.mem_append] at ha
    rcases ha with ha | ha
    · exact R.cs.ap a ha h
    · have e2 : a = p := by simpa using ha
      exact R.cs.lv a h (by rw [e2]; exact hp)
  · rw [upd_ne (fun e => R.cs.lv a h (by rw [e]; exact hp))]
    exact R.cs.lv a h
  · have h2 := R.fr.kt a xs h
    rw [upd_ne (ne_of_none h2 hp)]
    exact h2
  · have h2 := R.fr.keep a u h hm
    rw [upd_ne (ne_of_none h2 hp)]
    exact h2
  · rw [fl, List.mem_append] at ha
    rcases ha with ha | ha
    · exact R.fr.newM a ha
    · have e2 : a = p := by simpa using ha
      rw [e2]
      exact (R.fr.fresh hp).symm
/-- a cell is written -/
theorem Rel.put {ct : Ct} {a : Addr} {o : HO} {k : Nat} {c c' : Cell} (R : Rel ct B g σ H E C) (hc : C[k]? = some c) (ha : g.as[k]? = some a) (hm : g.ms[k]? = some [a]) (hca : CellAt ct g H a [a] c) (ht : ∀ xs, H a ≠ some (.tup xs))
    (new : Gk g H g (upd H a o) → CellAt ct g (upd H a o) a [a] c') : Gk g H g (upd H a o) ∧ Rel ct B g σ (upd H a o) E (C.set k c') := by
  have hin : a ∈ g.ms.flatten := mem_flat hm (List.mem_singleton.mpr rfl)
  have hF : ¬ g.F a := R.cs.ap a hin
  have kk : Gk g H g (upd H a o) := ⟨⟨fun b xs h => by rw [upd_ne (fun e => ht xs (by rw [← e]; exact h))]; exact h, fun b h => ⟨h, upd_ne fun e => hF (by rw [← e]; exact h)⟩⟩, fun _ _ h => h⟩
  have hk : k < C.length := (List.getElem?_eq_some_iff.mp hc).1
  refine ⟨kk, R.gk kk ⟨by rw [List.length_set]; exact R.cs.la, by rw [List.length_set]; exact R.cs.lm, fun j x h => ?_, R.cs.nd, R.cs.ap, fun b h => ?_⟩ ⟨fun b xs h => kk.kp.1 b xs (R.fr.kt b xs h), fun b u h hb => ?_, R.fr.newF, R.fr.newM⟩⟩
  · by_cases e : k = j
    · subst e
      rw [List.getElem?_set_self hk] at h
      cases h
      exact ⟨a, [a], ha, hm, new kk⟩
    · rw [List.getElem?_set_ne e] at h
      obtain ⟨a', m', h1, h2, h3⟩ := R.cs.at_ j x h
      refine ⟨a', m', h1, h2, h3.keep kk ?_⟩
      by_cases e2 : a' = a
      · cases x with
        | lst ds =>
          obtain ⟨e3, _⟩ := h3
          subst e3
          exact absurd (show a ∈ [a'] by rw [e2]; exact List.mem_singleton.mpr rfl) (flat_apart R.cs.nd hm h2 e (List.mem_singleton.mpr rfl))
        | frz ds =>
          obtain ⟨_, f, _⟩ := h3
          exact absurd (by rw [← e2]; exact f) hF
        | obj c ws =>
          obtain ⟨e3, _⟩ := h3
          subst e3
          exact absurd (show a ∈ [a'] by rw [e2]; exact List.mem_singleton.mpr rfl) (flat_apart R.cs.nd hm h2 e (List.mem_singleton.mpr rfl))
        | nil => exact .inr rfl
      · exact .inl (upd_ne e2)
  · rw [(kk.kp.2 b h).2]
    exact R.cs.lv b h
  · by_cases e : b = a
    · rw [e] at hb
      rcases R.fr.newM a hin with q | q
      · exact absurd q hb
      · rw [e, q] at h
        cases h
    · rw [upd_ne e]
      exact R.fr.keep b u h hb
/-- a list is frozen -/
def Gh.ice (g : Gh) (k : Nat) (a : Addr) : Gh := ⟨fun b => g.F b ∨ b = a, g.as, g.ms.set k []⟩
theorem flat_set {ms : List (List Addr)} : ∀ {k : Nat} {a : Addr}, ms[k]? = some [a] → ms.flatten.Nodup → (∀ b ∈ (ms.set k []).flatten, b ∈ ms.flatten ∧ b ≠ a) ∧ (ms.set k []).flatten.Nodup := by
  induction ms with
  | nil =>
    intro k a h
    simp at h
  | cons m r ih =>
    intro k a h nd
    rw [List.flatten_cons, List.nodup_append] at nd
    cases k with
    | zero =>
      have e : m = [a] := Option.some.inj h
      subst e
      refine ⟨fun b hb => ?_, ?_⟩
      · have hb2 : b ∈ r.flatten := hb
        exact ⟨by rw [List.flatten_cons]; exact List.mem_append_right _ hb2, fun e => nd.2.2 a (List.mem_singleton.mpr rfl) b hb2 e.symm⟩
      · exact nd.2.1
    | succ k =>
      obtain ⟨h1, h2⟩ := ih (k := k) (a := a) h nd.2.1
      have hr : a ∈ r.flatten := mem_flat (k := k) h (List.mem_singleton.mpr rfl)
      refine ⟨fun b hb => ?_, ?_⟩
      · have hb2 : b ∈ m ++ (r.set k []).flatten := hb
        rw [List.flatten_cons]
        rcases List.mem_append.mp hb2 with q | q
        · exact ⟨List.mem_append_left _ q, fun e => nd.2.2 b q a hr e⟩
        · exact ⟨List.mem_append_right _ (h1 b q).1, (h1 b q).2⟩
      · show (m ++ (r.set k []).flatten).Nodup
        rw [List.nodup_append]
        exact ⟨nd.1, h2, fun x hx y hy => nd.2.2 x hx y (h1 y hy).1⟩
theorem Rel.ice {ct : Ct} {a : Addr} {k : Nat} {ds : List D} (R : Rel ct B g σ H E C) (hc : C[k]? = some (.lst ds)) (ha : g.as[k]? = some a) : Gk g H (g.ice k a) H ∧ Rel ct B (g.ice k a) σ H E (C.set k (.frz ds)) ∧ RD ct (g.ice k a).F H (.ref a) (.list ds) := by
  obtain ⟨a', m, h1, h2, e, xs, h3, h4⟩ := R.cs.at_ k _ hc
  rw [ha] at h1
  cases h1
  subst e
  have kk : Gk g H (g.ice k a) H := ⟨⟨fun _ _ h => h, fun b h => ⟨.inl h, rfl⟩⟩, fun _ _ h => h⟩
  have hk : k < C.length := (List.getElem?_eq_some_iff.mp hc).1
  have hkm : k < g.ms.length := (List.getElem?_eq_some_iff.mp h2).1
  obtain ⟨f1, f2⟩ := flat_set h2 R.cs.nd
  refine ⟨kk, R.gk kk ⟨by rw [List.length_set]; exact R.cs.la, by rw [List.length_set]; show (g.ms.set k []).length = _; rw [List.length_set]; exact R.cs.lm, fun j x h => ?_, f2, fun b hb h => ?_, fun b h => ?_⟩ ⟨R.fr.kt, R.fr.keep, fun b h => ?_, fun b hb => R.fr.newM b (f1 b hb).1⟩, .lst (.inr rfl) h3 (RDs.mono kk.kp _ _ h4)⟩
  · by_cases e : k = j
    · subst e
      rw [List.getElem?_set_self hk] at h
      cases h
      exact ⟨a, [], ha, List.getElem?_set_self hkm, rfl, .inr rfl, xs, h3, RDs.mono kk.kp _ _ h4⟩
    · rw [List.getElem?_set_ne e] at h
      obtain ⟨a', m', q1, q2, q3⟩ := R.cs.at_ j x h
      exact ⟨a', m', q1, by show (g.ms.set k [])[j]? = some m'; rw [List.getElem?_set_ne e]; exact q2, q3.keep kk (.inl rfl)⟩
  · rcases h with h | h
    · exact R.cs.ap b (f1 b hb).1 h
    · exact (f1 b hb).2 h
  · rcases h with h | h
    · exact R.cs.lv b h
    · rw [h, h3]
      exact fun z => nomatch z
  · rcases h with h | h
    · exact R.fr.newF b h
    · rw [h]
      rcases R.fr.newM a (mem_flat h2 (List.mem_singleton.mpr rfl)) with q | q
      · exact .inr (.inr q)
      · exact .inr (.inl q)
end
/-- the list of a value or a cell -/
def cellL : Option Cell → Option (List D)
  | some (.lst ds) => some ds
  | some (.frz ds) => some ds
  | _ => none
def rdL (C : List Cell) : W → Option (List D)
  | .val (.list ds) => some ds
  | .ref k => cellL C[k]?
  | _ => none
theorem rdL_ok {ct : Cl} {g : Gh} {H : Hp} {C : List Cell} {v : V} {w : W} {ds : List D} (c : Clz ct g H C) (r : RW ct g H v w) (h : rdL C w = some ds) : ∃ a xs, v = .ref a ∧ H a = some (.lst xs) ∧ RDs ct g.F H xs ds := by
  unfold rdL at h
  split at h
  · cases h
    cases r with
    | lst f h1 h2 => exact ⟨_, _, rfl, h1, h2⟩
  · rename_i k
    obtain ⟨a, ha, rfl⟩ := r
    unfold cellL at h
    split at h
    · rename_i ds' e
      cases h
      obtain ⟨a', m, h1, h2, e2, xs, h3, h4⟩ := c.at_ k _ e
      rw [ha] at h1
      cases h1
      exact ⟨a, xs, rfl, h3, h4⟩
    · rename_i ds' e
      cases h
      obtain ⟨a', m, h1, h2, e2, f, xs, h3, h4⟩ := c.at_ k _ e
      rw [ha] at h1
      cases h1
      exact ⟨a, xs, rfl, h3, h4⟩
    · cases h
  · cases h
end RR

namespace RR
open PySem PySem.Spec PyProof.Rows L2
class CE (ct : Ct) (tt : TE) (t : outParam DE) : Prop where run : ImE ct tt t
class CT (ct : Ct) (tt : TT) (t : outParam DT) : Prop where run : ImT ct tt t
class CA (ct : Ct) (tt : TA) (t : outParam DA) : Prop where run : ImA ct tt t
class CS (ct : Ct) (tt : TS) (t : outParam DS) : Prop where run : ImS ct tt t
abbrev F2 := W → W → List Cell → DK → Prop
abbrev FC := List W → List Cell → DK → Prop
class CR2 (ct : Ct) (r : R2) (f : outParam F2) : Prop where
  run : ∀ B g σ H E C Q v u x y (K : VK), Rel ct B g σ H E C → (∀ v H', PostE ct B g H σ E Q v H' → K v H') → RW ct g H v x → RW ct g H u y → f x y C Q → r v u H K
class CC (ct : Ct) (r : List V → Hp → VK → Prop) (f : outParam FC) : Prop where
  run : ∀ B g σ H E C Q vs ws (K : VK), Rel ct B g σ H E C → (∀ v H', PostE ct B g H σ E Q v H' → K v H') → RWs ct g H vs ws → f ws C Q → r vs H K
section
variable {ct : Ct} {B : Bs} {g : Gh} {σ : L2.St} {H : Hp} {E : Ev} {C : List Cell} {Q : DK} {K : VK}
theorem post_val {v : V} {w : W} (R : Rel ct B g σ H E C) (r : RW ct g H v w) (k : ∀ v H', PostE ct B g H σ E Q v H' → K v H') (q : Q w C) : K v H := k _ _ ⟨g, C, w, Gk.refl _ _, R, r, q⟩
theorem post_tup {p : Addr} {xs : List V} {ds : List D} (R : Rel ct B g σ H E C) (hp : H p = none) (hx : RDs ct g.F H xs ds) (kk : ∀ v H', PostE ct B g H σ E Q v H' → K v H') (q : Q (.val (.tuple ds)) C) : K (.ref p) (upd H p (.tup xs)) :=
  have k := R.new (o := .tup xs) false hp
  kk _ _ ⟨_, C, .val (.tuple ds), k.1, k.2, RD.tup upd_same (RDs.mono k.1.kp _ _ hx), q⟩
theorem post_lst {p : Addr} {xs : List V} {ds : List D} (R : Rel ct B g σ H E C) (hp : H p = none) (hx : RDs ct g.F H xs ds) (kk : ∀ v H', PostE ct B g H σ E Q v H' → K v H') (q : Q (.val (.list ds)) C) : K (.ref p) (upd H p (.lst xs)) :=
  have k := R.new (o := .lst xs) true hp
  kk _ _ ⟨_, C, .val (.list ds), k.1, k.2, RD.lst (.inr ⟨rfl, rfl⟩) upd_same (RDs.mono k.1.kp _ _ hx), q⟩
theorem PostE.back {g1 : Gh} {H1 H' : Hp} {v : V} (k : Gk g H g1 H1) (h : PostE ct B g1 H1 σ E Q v H') : PostE ct B g H σ E Q v H' := h.later k
theorem PostT.back {g1 : Gh} {H1 H' : Hp} {b : Bool} {Q : Bool → List Cell → Prop} (k : Gk g H g1 H1) (h : PostT ct B g1 H1 σ E Q b H') : PostT ct B g H σ E Q b H' := by
  obtain ⟨g', C', k', r⟩ := h
  exact ⟨g', C', k.trans k', r⟩
end
/-! ### names and constants -/
def dVar (i : Nat) : DE := fun E C Q => match E[i]? with
  | some (some w) => Q w C
  | _ => False
instance ce_var {ct : Ct} {i : Nat} : CE ct (tVar i) (dVar i) := ⟨fun B g σ H E C Q K R k h => by
  unfold dVar at h
  split at h
  · rename_i w e
    obtain ⟨v, h1, h2⟩ := R.env i w e
    exact ⟨v, h1, post_val R h2 k h⟩
  · exact h.elim⟩
/-- a name whose list is frozen from here on -/
def tVarF (i : Nat) : TE := tVar i
def dVarF (i : Nat) : DE := fun E C Q => match E[i]? with
  | some (some (.ref k)) => (match C[k]? with
    | some (.lst ds) => Q (.val (.list ds)) (C.set k (.frz ds))
    | some (.frz ds) => Q (.val (.list ds)) C
    | _ => False)
  | _ => False
instance ce_varF {ct : Ct} {i : Nat} : CE ct (tVarF i) (dVarF i) := ⟨fun B g σ H E C Q K R k h => by
  unfold dVarF at h
  split at h
  · rename_i j e
    obtain ⟨v, h1, a, h2, rfl⟩ := R.env i _ e
    refine ⟨_, h1, ?_⟩
    split at h
    · rename_i ds e2
      obtain ⟨q1, q2, q3⟩ := R.ice e2 h2
      exact k _ _ ⟨_, _, .val (.list ds), q1, q2, q3, h⟩
    · rename_i ds e2
      obtain ⟨a', m, q1, q2, q3, f, xs, q4, q5⟩ := R.cs.at_ j _ e2
      rw [h2] at q1
      cases q1
      exact post_val R (w := .val (.list ds)) (RD.lst f q4 q5) k h
    · exact h.elim
  · exact h.elim⟩
def dC (d : D) : DE := fun _ C Q => Q (.val d) C
instance ce_int {ct : Ct} {i : Int} : CE ct (tC (.int i)) (dC (.int i)) := ⟨fun B g σ H E C Q K R k h => post_val R (w := .val (.int i)) (.int i) k h⟩
instance ce_str {ct : Ct} {i : Str} : CE ct (tC (.str i)) (dC (.str i)) := ⟨fun B g σ H E C Q K R k h => post_val R (w := .val (.str i)) (.str i) k h⟩
instance ce_bl {ct : Ct} {i : Bool} : CE ct (tC (.bl i)) (dC (.bool i)) := ⟨fun B g σ H E C Q K R k h => post_val R (w := .val (.bool i)) (.bl i) k h⟩
instance ce_non {ct : Ct} : CE ct (tC .non) (dC .none) := ⟨fun B g σ H E C Q K R k h => post_val R (w := .val .none) .non k h⟩
/-! ### operators -/
def dOp (f : F2) (a b : DE) : DE := fun E C Q => a E C fun x C1 => b E C1 fun y C2 => f x y C2 Q
instance ce_op {ct : Ct} {r : R2} {f : F2} {ta tb : TE} {a b : DE} [hr : CR2 ct r f] [ha : CE ct ta a] [hb : CE ct tb b] : CE ct (tOp r ta tb) (dOp f a b) := ⟨fun B g σ H E C Q K R k h => by
  refine ha.run B g σ H E C _ _ R (fun v H1 ⟨g1, C1, x, k1, R1, r1, h1⟩ => ?_) h
  refine hb.run B g1 σ H1 E C1 _ _ R1 (fun u H2 ⟨g2, C2, y, k2, R2, r2, h2⟩ => ?_) h1
  exact hr.run B g2 σ H2 E C2 Q v u x y K R2 (fun v' H' p => k v' H' ((p.later k2).later k1)) (r1.mono k2) r2 h2⟩
def fII (h : Int → Int → D) : W → W → List Cell → DK → Prop
  | .val (.int i), .val (.int j), C, Q => Q (.val (h i j)) C
  | _, _, _, _ => False
def fIIc (c : Int → Int → Prop) (h : Int → Int → D) : W → W → List Cell → DK → Prop
  | .val (.int i), .val (.int j), C, Q => c i j ∧ Q (.val (h i j)) C
  | _, _, _, _ => False
theorem rw_int {ct : Cl} {g : Gh} {H : Hp} {v : V} {i : Int} (h : RW ct g H v (.val (.int i))) : v = .int i := by
  cases (show RD ct g.F H v (.int i) from h)
  rfl
theorem rw_str {ct : Cl} {g : Gh} {H : Hp} {v : V} {i : Str} (h : RW ct g H v (.val (.str i))) : v = .str i := by
  cases (show RD ct g.F H v (.str i) from h)
  rfl
theorem rw_bool {ct : Cl} {g : Gh} {H : Hp} {v : V} {i : Bool} (h : RW ct g H v (.val (.bool i))) : v = .bl i := by
  cases (show RD ct g.F H v (.bool i) from h)
  rfl
theorem rw_tup {ct : Cl} {g : Gh} {H : Hp} {v : V} {ds : List D} (h : RW ct g H v (.val (.tuple ds))) : ∃ a xs, v = .ref a ∧ H a = some (.tup xs) ∧ RDs ct g.F H xs ds := by
  cases (show RD ct g.F H v (.tuple ds) from h) with
  | tup h1 h2 => exact ⟨_, _, rfl, h1, h2⟩
instance cr_ii {ct : Ct} {h : Int → Int → Int} : CR2 ct (rI0 fun i j => .int (h i j)) (fII fun i j => .int (h i j)) := ⟨fun B g σ H E C Q v u x y K R k rx ry q => by
  unfold fII at q
  try dsimp only at q
  split at q
  · exact ⟨_, _, rw_int rx, rw_int ry, post_val R (w := .val (.int _)) (.int _) k q⟩
  · exact q.elim⟩
instance cr_ib {ct : Ct} {h : Int → Int → Bool} : CR2 ct (rI0 fun i j => .bl (h i j)) (fII fun i j => .bool (h i j)) := ⟨fun B g σ H E C Q v u x y K R k rx ry q => by
  unfold fII at q
  try dsimp only at q
  split at q
  · exact ⟨_, _, rw_int rx, rw_int ry, post_val R (w := .val (.bool _)) (.bl _) k q⟩
  · exact q.elim⟩
instance cr_iic {ct : Ct} {c : Int → Int → Prop} {h : Int → Int → Int} : CR2 ct (rI c fun i j => .int (h i j)) (fIIc c fun i j => .int (h i j)) := ⟨fun B g σ H E C Q v u x y K R k rx ry q => by
  unfold fIIc at q
  try dsimp only at q
  split at q
  · exact ⟨_, _, rw_int rx, rw_int ry, q.1, post_val R (w := .val (.int _)) (.int _) k q.2⟩
  · exact q.elim⟩
/-- + of ints, texts, tuples, lists -/
def rAddA (K : PySem.W.Frag) : R2 := fun x y H Q => (rI0 fun i j => .int (i + j)) x y H Q ∨ (∃ i j, x = .str i ∧ y = .str j ∧ i.length + j.length ≤ sizeLine ∧ Q (.str (i ++ j)) H) ∨ rCatA K x y H Q ∨ rCat x y H Q
theorem op_addA {X : Cx} : OpR X (binaryOp .Add) (rAddA X.K) := op_add.or (op_add_str.or (op_catA.or op_cat))
def catK : Option (List D) → Option (List D) → List Cell → DK → Prop
  | some xs, some ys, C, Q => xs.length + ys.length ≤ sizeLine ∧ Q (.val (.list (xs ++ ys))) C
  | _, _, _, _ => False
def fAdd : W → W → List Cell → DK → Prop
  | .val (.int i), .val (.int j), C, Q => Q (.val (.int (i + j))) C
  | .val (.str a), .val (.str b), C, Q => a.length + b.length ≤ sizeLine ∧ Q (.val (.str (a ++ b))) C
  | .val (.tuple a), .val (.tuple b), C, Q => a.length + b.length ≤ sizeLine ∧ Q (.val (.tuple (a ++ b))) C
  | .val (.list a), y, C, Q => catK (some a) (rdL C y) C Q
  | .ref k, y, C, Q => catK (rdL C (.ref k)) (rdL C y) C Q
  | _, _, _, _ => False
theorem catK_ok {ct : Ct} {B : Bs} {g : Gh} {σ : L2.St} {H : Hp} {E : Ev} {C : List Cell} {Q : DK} {v u : V} {x y : W} {k : VK} (R : Rel ct B g σ H E C) (kk : ∀ v H', PostE ct B g H σ E Q v H' → k v H') (rx : RW ct g H v x) (ry : RW ct g H u y) (q : catK (rdL C x) (rdL C y) C Q) : rCat v u H k := by
  unfold catK at q
  split at q
  · rename_i xs ys e1 e2
    obtain ⟨a, us, rfl, h1, h2⟩ := rdL_ok R.cs rx e1
    obtain ⟨b, ws, rfl, h3, h4⟩ := rdL_ok R.cs ry e2
    refine ⟨a, b, us, ws, rfl, rfl, h1, h3, by rw [h2.length, h4.length]; exact q.1, fun p hp => ?_⟩
    exact post_lst R hp (h2.app h4) kk q.2
  · exact q.elim
instance cr_add {ct : Ct} {K : PySem.W.Frag} : CR2 ct (rAddA K) fAdd := ⟨fun B g σ H E C Q v u x y k R kk rx ry q => by
  unfold fAdd at q
  try dsimp only at q
  split at q
  · exact .inl ⟨_, _, rw_int rx, rw_int ry, post_val R (w := .val (.int _)) (.int _) kk q⟩
  · exact .inr (.inl ⟨_, _, rw_str rx, rw_str ry, q.1, post_val R (w := .val (.str _)) (.str _) kk q.2⟩)
  · obtain ⟨a, xs, rfl, h1, h2⟩ := rw_tup rx
    obtain ⟨b, ys, rfl, h3, h4⟩ := rw_tup ry
    refine .inr (.inr (.inl ⟨a, b, xs, ys, rfl, rfl, SqT.of h1, SqT.of h3, by rw [h2.length, h4.length]; exact q.1, fun e => ?_, fun _ e => ?_, fun _ _ p hp => ?_⟩))
    · subst e
      cases h2
      exact post_val R ry kk q.2
    · subst e
      cases h4
      rw [List.append_nil] at q
      exact post_val R rx kk q.2
    · exact post_tup R hp (h2.app h4) kk q.2
  · exact .inr (.inr (.inr (catK_ok R kk rx ry q)))
  · exact .inr (.inr (.inr (catK_ok R kk rx ry q)))
  · exact q.elim⟩
/-- comparisons of ints and of texts -/
def rCmpA (f : Int → Int → Bool) (h : Str → Str → Bool) : R2 := fun x y H Q => (rI0 fun i j => .bl (f i j)) x y H Q ∨ (∃ i j, x = .str i ∧ y = .str j ∧ Q (.bl (h i j)) H)
abbrev ltS (a b : Str) : Bool := decide (a.cps.toList < b.cps.toList)
theorem op_ltA {X : Cx} : OpR X (compareOp .Lt) (rCmpA (fun i j => decide (i < j)) fun a b => ltS a b) := op_lt.or op_lt_str
theorem op_leA {X : Cx} : OpR X (compareOp .LtE) (rCmpA (fun i j => decide (i ≤ j)) fun a b => !ltS b a) := op_le.or op_le_str
theorem op_gtA {X : Cx} : OpR X (compareOp .Gt) (rCmpA (fun i j => decide (j < i)) fun a b => ltS b a) := op_gt.or op_gt_str
theorem op_geA {X : Cx} : OpR X (compareOp .GtE) (rCmpA (fun i j => decide (j ≤ i)) fun a b => !ltS a b) := op_ge.or op_ge_str
def fCmp (f : Int → Int → Bool) (h : Str → Str → Bool) : W → W → List Cell → DK → Prop
  | .val (.int i), .val (.int j), C, Q => Q (.val (.bool (f i j))) C
  | .val (.str a), .val (.str b), C, Q => Q (.val (.bool (h a b))) C
  | _, _, _, _ => False
instance cr_cmp {ct : Ct} {f : Int → Int → Bool} {h : Str → Str → Bool} : CR2 ct (rCmpA f h) (fCmp f h) := ⟨fun B g σ H E C Q v u x y k R kk rx ry q => by
  unfold fCmp at q
  try dsimp only at q
  split at q
  · exact .inl ⟨_, _, rw_int rx, rw_int ry, post_val R (w := .val (.bool _)) (.bl _) kk q⟩
  · exact .inr ⟨_, _, rw_str rx, rw_str ry, post_val R (w := .val (.bool _)) (.bl _) kk q⟩
  · exact q.elim⟩
/-- == and != of data -/
def rdV (C : List Cell) : W → Option D
  | .val d => some d
  | .ref k => (rdL C (.ref k)).map .list
  | .ty _ => none
mutual
theorem RD.dp {ct : Cl} {F : Addr → Prop} {H : Hp} {K : PySem.W.Frag} : ∀ (d : D) (v : V), RD ct F H v d → d.canLay0 = true → Dp K H v d
  | .none, _, .non, _ => .non
  | .int _, _, .int i, _ => .int i
  | .str _, _, .str i, _ => .str i
  | .bool _, _, .bl i, _ => .bl i
  | .tuple ds, _, .tup h hs, s => .tup (SqT.of h) (RDs.dp ds _ hs s)
  | .list ds, _, .lst f h hs, s => .lst (SqL.of h) (RDs.dp ds _ hs s)
  | .dict _, _, .obj _ _ _ _ _, s => nomatch s
theorem RDs.dp {ct : Cl} {F : Addr → Prop} {H : Hp} {K : PySem.W.Frag} : ∀ (ds : List D) (vs : List V), RDs ct F H vs ds → PyData.canLayAll0 ds = true → DpAll K H vs ds
  | [], _, .nil, _ => .nil
  | d :: ds, _, .cons h hs, s => by
    have s' : (d.canLay0 && PyData.canLayAll0 ds) = true := s
    rw [Bool.and_eq_true] at s'
    exact .cons (RD.dp d _ h s'.1) (RDs.dp ds _ hs s'.2)
end
theorem rdV_ok {ct : Cl} {g : Gh} {H : Hp} {C : List Cell} {v : V} {w : W} {d : D} {K : PySem.W.Frag} (c : Clz ct g H C) (r : RW ct g H v w) (h : rdV C w = some d) (l : d.canLay0 = true) : Dp K H v d := by
  cases w with
  | val d' =>
    have e : d' = d := Option.some.inj h
    rw [e] at r
    exact RD.dp d v r l
  | ref k =>
    have h' : (rdL C (.ref k)).map PyData.list = some d := h
    cases e : rdL C (.ref k) with
    | none =>
      rw [e] at h'
      cases h'
    | some ds =>
      rw [e] at h'
      cases h'
      obtain ⟨a, xs, rfl, h1, h2⟩ := rdL_ok c r e
      exact .lst (SqL.of h1) (RDs.dp ds xs h2 l)
  | ty n => cases h
abbrev okD (d : D) : Prop := SeqAt.shaped d = true
theorem okD.lay {d : D} (h : okD d) : d.canLay0 = true := by
  unfold okD SeqAt.shaped at h
  rw [Bool.and_eq_true] at h
  exact h.1
def eqK (f : Bool → Bool) : Option D → Option D → List Cell → DK → Prop
  | some d, some e, C, Q => okD d ∧ okD e ∧ Q (.val (.bool (f (PyData.eqv d e)))) C
  | _, _, _, _ => False
def fEqD (f : Bool → Bool) (x y : W) (C : List Cell) (Q : DK) : Prop := eqK f (rdV C x) (rdV C y) C Q
instance cr_eqD {ct : Ct} {K : PySem.W.Frag} : CR2 ct (rEqD K) (fEqD id) := ⟨fun B g σ H E C Q v u x y k R kk rx ry q => by
  unfold fEqD eqK at q
  try dsimp only at q
  split at q
  · rename_i d e h1 h2
    exact ⟨d, e, rdV_ok R.cs rx h1 (okD.lay q.1), rdV_ok R.cs ry h2 (okD.lay q.2.1), q.1, q.2.1, post_val R (w := .val (.bool _)) (.bl _) kk q.2.2⟩
  · exact q.elim⟩
instance cr_neD {ct : Ct} {K : PySem.W.Frag} : CR2 ct (rNeD K) (fEqD not) := ⟨fun B g σ H E C Q v u x y k R kk rx ry q => by
  unfold fEqD eqK at q
  try dsimp only at q
  split at q
  · rename_i d e h1 h2
    exact ⟨d, e, rdV_ok R.cs rx h1 (okD.lay q.1), rdV_ok R.cs ry h2 (okD.lay q.2.1), q.1, q.2.1, post_val R (w := .val (.bool _)) (.bl _) kk q.2.2⟩
  · exact q.elim⟩
/-- is None, is not None -/
def isNon : W → Bool
  | .val .none => true
  | _ => false
theorem isNon_ok {ct : Cl} {g : Gh} {H : Hp} {v : V} {w : W} (r : RW ct g H v w) : decide (v = .non) = isNon w := by
  cases w with
  | val d =>
    cases (show RD ct g.F H v d from r) <;> first | rfl | exact decide_eq_false (fun z => nomatch z)
  | ref k =>
    obtain ⟨a, _, rfl⟩ := r
    exact decide_eq_false (fun z => nomatch z)
  | ty n =>
    cases (show v = .ty n from r)
    exact decide_eq_false (fun z => nomatch z)
def rIsN (f : Bool → Bool) : R2 := fun x y H Q => y = .non ∧ Q (.bl (f (decide (x = .non)))) H
theorem op_isNA {X : Cx} : OpR X (compareOp .Is) (rIsN id) := op_isN
theorem op_notNA {X : Cx} : OpR X (compareOp .IsNot) (rIsN not) := op_notN
def fIsN (f : Bool → Bool) : W → W → List Cell → DK → Prop
  | x, .val .none, C, Q => Q (.val (.bool (f (isNon x)))) C
  | _, _, _, _ => False
instance cr_isN {ct : Ct} {f : Bool → Bool} : CR2 ct (rIsN f) (fIsN f) := ⟨fun B g σ H E C Q v u x y k R kk rx ry q => by
  unfold fIsN at q
  try dsimp only at q
  split at q
  · cases (show RD ct g.F H u .none from ry)
    refine ⟨rfl, ?_⟩
    rw [isNon_ok rx]
    exact post_val R (w := .val (.bool _)) (.bl _) kk q
  · exact q.elim⟩
/-! ### tests -/
def bK (Q : Bool → List Cell → Prop) : W → List Cell → Prop
  | .val (.bool b), C1 => Q b C1
  | _, _ => False
def dB (a : DE) : DT := fun E C Q => a E C (bK Q)
theorem bl_of {ct : Cl} {g : Gh} {H : Hp} {v : V} {b : Bool} (h : RW ct g H v (.val (.bool b))) : v = .bl b := rw_bool h
instance ct_b {ct : Ct} {t : TE} {a : DE} [h : CE ct t a] : CT ct (tB t) (dB a) := ⟨fun B g σ H E C Q K R k q => by
  refine h.run B g σ H E C _ _ R (fun v H1 ⟨g1, C1, x, k1, R1, r1, q1⟩ => ?_) q
  unfold bK at q1
  split at q1
  · exact ⟨_, rw_bool r1, k _ _ ⟨g1, C1, k1, R1, q1⟩⟩
  · exact q1.elim⟩
instance ct_test {ct : Ct} {t : TE} {a : DE} [h : CE ct t a] : CT ct (tTest t) (dB a) := ⟨fun B g σ H E C Q K R k q => by
  refine h.run B g σ H E C _ _ R (fun v H1 ⟨g1, C1, x, k1, R1, r1, q1⟩ => ?_) q
  unfold bK at q1
  split at q1
  · exact ⟨_, rw_bool r1, k _ _ ⟨g1, C1, k1, R1, q1⟩⟩
  · exact q1.elim⟩
def dAnd (a b : DT) : DT := fun E C Q => a E C fun c C1 => if c = true then b E C1 Q else Q false C1
def dOr (a b : DT) : DT := fun E C Q => a E C fun c C1 => if c = true then Q true C1 else b E C1 Q
def dNot (a : DT) : DT := fun E C Q => a E C fun c C1 => Q (!c) C1
instance ct_and {ct : Ct} {t u : TT} {a b : DT} [ha : CT ct t a] [hb : CT ct u b] : CT ct (tAnd t u) (dAnd a b) := ⟨fun B g σ H E C Q K R k q => by
  refine ha.run B g σ H E C _ _ R (fun c H1 ⟨g1, C1, k1, R1, q1⟩ => ?_) q
  cases c with
  | true => exact iteT (hb.run B g1 σ H1 E C1 _ _ R1 (fun v H' p => k v H' (p.back k1)) q1)
  | false => exact iteF (k _ _ ⟨g1, C1, k1, R1, q1⟩)⟩
instance ct_or {ct : Ct} {t u : TT} {a b : DT} [ha : CT ct t a] [hb : CT ct u b] : CT ct (tOr t u) (dOr a b) := ⟨fun B g σ H E C Q K R k q => by
  refine ha.run B g σ H E C _ _ R (fun c H1 ⟨g1, C1, k1, R1, q1⟩ => ?_) q
  cases c with
  | true => exact iteT (k _ _ ⟨g1, C1, k1, R1, q1⟩)
  | false => exact iteF (hb.run B g1 σ H1 E C1 _ _ R1 (fun v H' p => k v H' (p.back k1)) q1)⟩
instance ct_not {ct : Ct} {t : TT} {a : DT} [ha : CT ct t a] : CT ct (tNot t) (dNot a) := ⟨fun B g σ H E C Q K R k q =>
  ha.run B g σ H E C _ _ R (fun c H1 ⟨g1, C1, k1, R1, q1⟩ => k _ _ ⟨g1, C1, k1, R1, q1⟩) q⟩
/-- truth -/
def tTruA (K : PySem.W.Frag) (ta : TE) : TT := fun σ H Q => ta σ H fun x H' => ∃ k, TruV K x H' k ∧ Q k H'
theorem pt_truA {X : Cx} {a : Expr} {ta : TE} (ha : PE X a ta) (he : ∀ whole, isTrue a X.env whole = (do let v ← whole; standAt a.pos; holding [v] (truthy v)) := by intro _; rfl) : PT X a (tTruA X.K ta) := pt_truth ha he
def truL (Q : Bool → List Cell → Prop) : Option (List D) → List Cell → Prop
  | some ds, C1 => Q (!ds.isEmpty) C1
  | none, _ => False
def truK (Q : Bool → List Cell → Prop) : W → List Cell → Prop
  | .val (.bool b), C1 => Q b C1
  | .val (.int i), C1 => Q (i != 0) C1
  | .val (.tuple ds), C1 => Q (!ds.isEmpty) C1
  | .val .none, C1 => Q false C1
  | .val (.list ds), C1 => Q (!ds.isEmpty) C1
  | .ref k, C1 => truL Q (cellL C1[k]?) C1
  | _, _ => False
def dTru (a : DE) : DT := fun E C Q => a E C (truK Q)
theorem empty_eq {ct : Cl} {F : Addr → Prop} {H : Hp} {xs : List V} {ds : List D} (h : RDs ct F H xs ds) : xs.isEmpty = ds.isEmpty := by
  cases h <;> rfl
instance ct_tru {ct : Ct} {K : PySem.W.Frag} {t : TE} {a : DE} [h : CE ct t a] : CT ct (tTruA K t) (dTru a) := ⟨fun B g σ H E C Q K R k q => by
  refine h.run B g σ H E C _ _ R (fun v H1 ⟨g1, C1, x, k1, R1, r1, q1⟩ => ?_) q
  unfold truK at q1
  split at q1
  · exact ⟨_, by rw [rw_bool r1]; exact rfl, k _ _ ⟨g1, C1, k1, R1, q1⟩⟩
  · exact ⟨_, by rw [rw_int r1]; exact rfl, k _ _ ⟨g1, C1, k1, R1, q1⟩⟩
  · obtain ⟨a, xs, rfl, h1, h2⟩ := rw_tup r1
    exact ⟨_, .inr (.inl ⟨xs, SqT.of h1, by rw [empty_eq h2]⟩), k _ _ ⟨g1, C1, k1, R1, q1⟩⟩
  · cases (show RD ct g1.F H1 v .none from r1)
    exact ⟨_, rfl, k _ _ ⟨g1, C1, k1, R1, q1⟩⟩
  · obtain ⟨a, xs, rfl, h1, h2⟩ := rdL_ok R1.cs r1 rfl
    exact ⟨_, .inl ⟨xs, SqL.of h1, by rw [empty_eq h2]⟩, k _ _ ⟨g1, _, k1, R1, q1⟩⟩
  · unfold truL at q1
    split at q1
    · rename_i ds e
      obtain ⟨a, xs, rfl, h1, h2⟩ := rdL_ok R1.cs r1 e
      exact ⟨_, .inl ⟨xs, SqL.of h1, by rw [empty_eq h2]⟩, k _ _ ⟨g1, _, k1, R1, q1⟩⟩
    · exact q1.elim
  · exact q1.elim⟩
/-! ### values by truth -/
def dIf (c : DT) (a b : DE) : DE := fun E C Q => c E C fun x C1 => if x = true then a E C1 Q else b E C1 Q
instance ce_if {ct : Ct} {tc : TT} {ta tb : TE} {c : DT} {a b : DE} [hc : CT ct tc c] [ha : CE ct ta a] [hb : CE ct tb b] : CE ct (tIf tc ta tb) (dIf c a b) := ⟨fun B g σ H E C Q K R k q => by
  refine hc.run B g σ H E C _ _ R (fun c H1 ⟨g1, C1, k1, R1, q1⟩ => ?_) q
  cases c with
  | true => exact iteT (ha.run B g1 σ H1 E C1 _ _ R1 (fun v H' p => k v H' (p.back k1)) q1)
  | false => exact iteF (hb.run B g1 σ H1 E C1 _ _ R1 (fun v H' p => k v H' (p.back k1)) q1)⟩
def dAndV (a b : DE) : DE := fun E C Q => a E C (bK fun c C1 => if c = true then b E C1 Q else Q (.val (.bool false)) C1)
def dOrV (a b : DE) : DE := fun E C Q => a E C (bK fun c C1 => if c = true then Q (.val (.bool true)) C1 else b E C1 Q)
def dNotV (a : DE) : DE := fun E C Q => a E C (bK fun c C1 => Q (.val (.bool (!c))) C1)
instance ce_andV {ct : Ct} {ta tb : TE} {a b : DE} [ha : CE ct ta a] [hb : CE ct tb b] : CE ct (tAndV ta tb) (dAndV a b) := ⟨fun B g σ H E C Q K R k q => by
  refine ha.run B g σ H E C _ _ R (fun v H1 ⟨g1, C1, x, k1, R1, r1, q1⟩ => ?_) q
  unfold bK at q1
  split at q1
  · rename_i c
    refine ⟨c, rw_bool r1, ?_⟩
    cases c with
    | true => exact iteT (hb.run B g1 σ H1 E C1 _ _ R1 (fun v H' p => k v H' (p.back k1)) q1)
    | false => exact iteF (k _ _ ⟨g1, C1, .val (.bool false), k1, R1, RD.bl _, q1⟩)
  · exact q1.elim⟩
instance ce_orV {ct : Ct} {ta tb : TE} {a b : DE} [ha : CE ct ta a] [hb : CE ct tb b] : CE ct (tOrV ta tb) (dOrV a b) := ⟨fun B g σ H E C Q K R k q => by
  refine ha.run B g σ H E C _ _ R (fun v H1 ⟨g1, C1, x, k1, R1, r1, q1⟩ => ?_) q
  unfold bK at q1
  split at q1
  · rename_i c
    refine ⟨c, rw_bool r1, ?_⟩
    cases c with
    | true => exact iteT (k _ _ ⟨g1, C1, .val (.bool true), k1, R1, RD.bl _, q1⟩)
    | false => exact iteF (hb.run B g1 σ H1 E C1 _ _ R1 (fun v H' p => k v H' (p.back k1)) q1)
  · exact q1.elim⟩
instance ce_notV {ct : Ct} {ta : TE} {a : DE} [ha : CE ct ta a] : CE ct (tNotV ta) (dNotV a) := ⟨fun B g σ H E C Q K R k q => by
  refine ha.run B g σ H E C _ _ R (fun v H1 ⟨g1, C1, x, k1, R1, r1, q1⟩ => ?_) q
  unfold bK at q1
  split at q1
  · exact ⟨_, rw_bool r1, k _ _ ⟨g1, C1, .val (.bool _), k1, R1, RD.bl _, q1⟩⟩
  · exact q1.elim⟩
def dChain (f h : F2) (a b c : DE) : DE := fun E C Q => a E C fun x C1 => b E C1 fun y C2 => f x y C2 (bK fun k C3 => if k = true then c E C3 fun w C4 => h y w C4 Q else Q (.val (.bool false)) C3)
instance ce_chain {ct : Ct} {r r' : R2} {f h : F2} {ta tb tc : TE} {a b c : DE} [hr : CR2 ct r f] [hr' : CR2 ct r' h] [ha : CE ct ta a] [hb : CE ct tb b] [hc : CE ct tc c] : CE ct (tChain r r' ta tb tc) (dChain f h a b c) := ⟨fun B g σ H E C Q K R k q => by
  refine ha.run B g σ H E C _ _ R (fun v H1 ⟨g1, C1, x, k1, R1, r1, q1⟩ => ?_) q
  refine hb.run B g1 σ H1 E C1 _ _ R1 (fun u H2 ⟨g2, C2, y, k2, R2, r2, q2⟩ => ?_) q1
  refine hr.run B g2 σ H2 E C2 _ v u x y _ R2 (fun z H3 ⟨g3, C3, zw, k3, R3, r3, q3⟩ => ?_) (r1.mono k2) r2 q2
  unfold bK at q3
  split at q3
  · rename_i kb
    refine ⟨kb, rw_bool r3, ?_⟩
    cases kb with
    | true =>
      refine iteT (hc.run B g3 σ H3 E C3 _ _ R3 (fun w' H4 ⟨g4, C4, w4, k4, R4, r4, q4⟩ => ?_) q3)
      exact hr'.run B g4 σ H4 E C4 Q u w' y w4 K R4 (fun v' H' p => k v' H' ((((p.back k4).back k3).back k2).back k1)) ((r2.mono k3).mono k4) r4 q4
    | false => exact iteF (k _ _ ⟨g3, C3, .val (.bool false), (k1.trans k2).trans k3, R3, RD.bl _, q3⟩)
  · exact q3.elim⟩
/-! ### argument lists, displays -/
def dNil : DA := fun _ C Q => Q [] C
def dCons (a : DE) (r : DA) : DA := fun E C Q => a E C fun x C1 => r E C1 fun xs C2 => Q (x :: xs) C2
instance ca_nil {ct : Ct} : CA ct tNil dNil := ⟨fun B g σ H E C Q K R k q => k _ _ ⟨g, C, [], Gk.refl _ _, R, .nil, q⟩⟩
instance ca_cons {ct : Ct} {ta : TE} {tr : TA} {a : DE} {r : DA} [ha : CE ct ta a] [hr : CA ct tr r] : CA ct (tCons ta tr) (dCons a r) := ⟨fun B g σ H E C Q K R k q => by
  refine ha.run B g σ H E C _ _ R (fun v H1 ⟨g1, C1, x, k1, R1, r1, q1⟩ => ?_) q
  refine hr.run B g1 σ H1 E C1 _ _ R1 (fun vs H2 ⟨g2, C2, xs, k2, R2, r2, q2⟩ => ?_) q1
  exact k _ _ ⟨g2, C2, x :: xs, k1.trans k2, R2, .cons (r1.mono k2) r2, q2⟩⟩
/-- all are data -/
def vals : List W → Option (List D)
  | [] => some []
  | .val d :: ws => (vals ws).map (d :: ·)
  | _ :: _ => none
theorem vals_ok {ct : Cl} {g : Gh} {H : Hp} : ∀ {vs : List V} {ws : List W} {ds : List D}, RWs ct g H vs ws → vals ws = some ds → RDs ct g.F H vs ds
  | _, _, _, .nil, h => by
    cases h
    exact .nil
  | _, _, _, .cons (b := .val d) (l₂ := ws) r rs, h => by
    have h' : (vals ws).map (d :: ·) = some _ := h
    cases e : vals ws with
    | none =>
      rw [e] at h'
      cases h'
    | some es =>
      rw [e] at h'
      cases h'
      exact .cons r (vals_ok rs e)
  | _, _, _, .cons (b := .ref k) r rs, h => nomatch h
  | _, _, _, .cons (b := .ty k) r rs, h => nomatch h
def dispK (f : List D → D) (Q : DK) : Option (List D) → List Cell → Prop
  | some ds, C1 => ds.length ≤ sizeLine ∧ Q (.val (f ds)) C1
  | none, _ => False
def dTup (a : DA) : DE := fun E C Q => a E C fun ws C1 => dispK .tuple Q (vals ws) C1
instance ce_tup {ct : Ct} {t : TA} {a : DA} [h : CA ct t a] : CE ct (tTup t) (dTup a) := ⟨fun B g σ H E C Q K R k q => by
  refine h.run B g σ H E C _ _ R (fun vs H1 ⟨g1, C1, ws, k1, R1, r1, q1⟩ => ?_) q
  unfold dispK at q1
  dsimp only at q1
  split at q1
  · rename_i ds e
    have hd := vals_ok r1 e
    refine ⟨by rw [hd.length]; exact q1.1, fun p hp => ?_⟩
    exact post_tup R1 hp hd (fun v H' p => k v H' (p.back k1)) q1.2
  · exact q1.elim⟩
def dLst (a : DA) : DE := fun E C Q => a E C fun ws C1 => dispK .list Q (vals ws) C1
instance ce_lst {ct : Ct} {t : TA} {a : DA} [h : CA ct t a] : CE ct (tLst t) (dLst a) := ⟨fun B g σ H E C Q K R k q => by
  refine h.run B g σ H E C _ _ R (fun vs H1 ⟨g1, C1, ws, k1, R1, r1, q1⟩ => ?_) q
  unfold dispK at q1
  dsimp only at q1
  split at q1
  · rename_i ds e
    have hd := vals_ok r1 e
    refine ⟨by rw [hd.length]; exact q1.1, fun p hp => ?_⟩
    exact post_lst R1 hp hd (fun v H' p => k v H' (p.back k1)) q1.2
  · exact q1.elim⟩
end RR

namespace RR
open PySem PySem.Spec PyProof.Rows L2
/-! ### index -/
theorem atI_ex {α β : Type} {xs : List α} {ds : List β} {i : Int} {d : β} (hl : xs.length = ds.length) (h : atI ds i = some d) : ∃ (j : Nat) (v : α), atI xs i = some v ∧ xs[j]? = some v ∧ ds[j]? = some d := by
  unfold atI at h ⊢
  rw [hl]
  cases e : ixN ds.length i with
  | none =>
    rw [e] at h
    cases h
  | some j =>
    rw [e] at h
    have h2 : ds[j]? = some d := h
    have hj : j < xs.length := by rw [hl]; exact (List.getElem?_eq_some_iff.mp h2).1
    exact ⟨j, xs[j], List.getElem?_eq_getElem hj, List.getElem?_eq_getElem hj, h2⟩
theorem RDs.atI {ct : Cl} {F : Addr → Prop} {H : Hp} {xs : List V} {ds : List D} (h : RDs ct F H xs ds) {i : Int} {d : D} (e : L2.atI ds i = some d) : ∃ v, L2.atI xs i = some v ∧ RD ct F H v d := by
  obtain ⟨j, v, h1, h2, h3⟩ := atI_ex h.length e
  obtain ⟨v', h4, h5⟩ := h.get j d h3
  rw [h2] at h4
  cases h4
  exact ⟨v, h1, h5⟩
def ixK (Q : DK) : Option D → List Cell → Prop
  | some d, C => Q (.val d) C
  | none, _ => False
def ixS (Q : DK) : Option Nat → List Cell → Prop
  | some c, C => Q (.val (.str ⟨#[c]⟩)) C
  | none, _ => False
def ixL (Q : DK) (i : Int) : Option (List D) → List Cell → Prop
  | some ds, C => ixK Q (atI ds i) C
  | none, _ => False
def fIx : W → W → List Cell → DK → Prop
  | .val (.tuple ds), .val (.int i), C, Q => ixK Q (atI ds i) C
  | .val (.str z), .val (.int i), C, Q => z.length ≤ sizeLine ∧ ixS Q (atI z.cps.toList i) C
  | .val (.list ds), .val (.int i), C, Q => ixK Q (atI ds i) C
  | .ref k, .val (.int i), C, Q => ixL Q i (cellL C[k]?) C
  | _, _, _, _ => False
theorem ixK_ok {ct : Ct} {B : Bs} {g : Gh} {σ : L2.St} {H : Hp} {E : Ev} {C : List Cell} {Q : DK} {k : VK} {ds : List D} {i : Int} {xs : List V} (R : Rel ct B g σ H E C) (kk : ∀ v H', PostE ct B g H σ E Q v H' → k v H') (r : RDs ct g.F H xs ds) (q : ixK Q (atI ds i) C) : ∃ v, atI xs i = some v ∧ k v H := by
  unfold ixK at q
  split at q
  · rename_i d e
    obtain ⟨v, h3, h4⟩ := r.atI e
    exact ⟨v, h3, post_val R (w := .val d) h4 kk q⟩
  · exact q.elim
instance cr_ix {ct : Ct} {K : PySem.W.Frag} : CR2 ct (rIx K) fIx := ⟨fun B g σ H E C Q v u x y k R kk rx ry q => by
  unfold fIx at q
  split at q
  · obtain ⟨a, xs, rfl, h1, h2⟩ := rw_tup rx
    obtain ⟨v', h3, h4⟩ := ixK_ok R kk h2 q
    exact .inr (.inl ⟨a, xs, _, v', rfl, rw_int ry, SqT.of h1, h3, h4⟩)
  · obtain ⟨hz, q⟩ := q
    unfold ixS at q
    split at q
    · rename_i c e
      exact .inr (.inr ⟨_, _, c, rw_str rx, rw_int ry, hz, e, post_val R (w := .val (.str _)) (.str _) kk q⟩)
    · exact q.elim
  · obtain ⟨a, xs, rfl, h1, h2⟩ := rdL_ok R.cs rx rfl
    obtain ⟨v', h3, h4⟩ := ixK_ok R kk h2 q
    exact .inl ⟨a, xs, _, v', rfl, rw_int ry, SqL.of h1, h3, h4⟩
  · unfold ixL at q
    split at q
    · rename_i ds e
      obtain ⟨a, xs, rfl, h1, h2⟩ := rdL_ok R.cs rx e
      obtain ⟨v', h3, h4⟩ := ixK_ok R kk h2 q
      exact .inl ⟨a, xs, _, v', rfl, rw_int ry, SqL.of h1, h3, h4⟩
    · exact q.elim
  · exact q.elim⟩
/-! ### slices -/
abbrev DO := Ev → List Cell → (Option Int → List Cell → Prop) → Prop
def PostO (ct : Ct) (B : Bs) (g : Gh) (H : Hp) (σ : L2.St) (E : Ev) (Q : Option Int → List Cell → Prop) : Option Int → Hp → Prop := fun b H' => ∃ g' C', Gk g H g' H' ∧ Rel ct B g' σ H' E C' ∧ Q b C'
class CO (ct : Ct) (tt : TO) (t : outParam DO) : Prop where
  run : ∀ B g σ H E C Q (K : Option Int → Hp → Prop), Rel ct B g σ H E C → (∀ v H', PostO ct B g H σ E Q v H' → K v H') → t E C Q → tt σ H K
def dNoPart : DO := fun _ C Q => Q none C
def partK (Q : Option Int → List Cell → Prop) : W → List Cell → Prop
  | .val (.int i), C1 => Q (some i) C1
  | _, _ => False
def dPart (a : DE) : DO := fun E C Q => a E C (partK Q)
instance co_none {ct : Ct} : CO ct tNoPart dNoPart := ⟨fun B g σ H E C Q K R k q => k _ _ ⟨g, C, Gk.refl _ _, R, q⟩⟩
instance co_part {ct : Ct} {t : TE} {a : DE} [h : CE ct t a] : CO ct (tPart t) (dPart a) := ⟨fun B g σ H E C Q K R k q => by
  refine h.run B g σ H E C _ _ R (fun v H1 ⟨g1, C1, x, k1, R1, r1, q1⟩ => ?_) q
  unfold partK at q1
  split at q1
  · exact ⟨_, rw_int r1, k _ _ ⟨g1, _, k1, R1, q1⟩⟩
  · exact q1.elim⟩
def cutL {α : Type} (xs : List α) (lo hi : Option Int) : List α := (xs.drop (HT.sIx xs.length 0 lo)).take (HT.sIx xs.length xs.length hi - HT.sIx xs.length 0 lo)
theorem RDs.cut {ct : Cl} {F : Addr → Prop} {H : Hp} {xs : List V} {ds : List D} (h : RDs ct F H xs ds) (lo hi : Option Int) : RDs ct F H (cutV xs lo hi) (cutL ds lo hi) := by
  unfold cutV cutL
  rw [h.length]
  exact (h.drop _).take _
theorem cutL_full {α : Type} {xs : List α} {lo hi : Option Int} (h : HT.sIx xs.length 0 lo = 0 ∧ HT.sIx xs.length xs.length hi = xs.length) : cutL xs lo hi = xs := by
  unfold cutL
  rw [h.1, h.2, List.drop_zero, Nat.sub_zero, List.take_length]
def rSlN (K : PySem.W.Frag) : V → Option Int → Option Int → Hp → VK → Prop := fun x lo hi H Q => rSlL K x lo hi H Q ∨ rSlA K x lo hi H Q ∨ C8.rSlX x lo hi H Q
theorem sl_any {X : Cx} : SlR X (rSlN X.K) := sl_list.or (sl_tupA.or C8.sl_txt)
def slL (lo hi : Option Int) (Q : DK) : Option (List D) → List Cell → Prop
  | some ds, C => Q (.val (.list (cutL ds lo hi))) C
  | none, _ => False
def slK (lo hi : Option Int) (Q : DK) : W → List Cell → Prop
  | .val (.tuple ds), C => Q (.val (.tuple (cutL ds lo hi))) C
  | .val (.str z), C => z.length ≤ sizeLine ∧ Q (.val (.str (Txt.slice z lo hi))) C
  | .val (.list ds), C => Q (.val (.list (cutL ds lo hi))) C
  | .ref k, C => slL lo hi Q (cellL C[k]?) C
  | _, _ => False
def dSl (a : DE) (l h : DO) : DE := fun E C Q => a E C fun x C1 => l E C1 fun lo C2 => h E C2 fun hi C3 => slK lo hi Q x C3
instance ce_sl {ct : Ct} {K : PySem.W.Frag} {t : TE} {tl th : TO} {a : DE} {l h : DO} [ha : CE ct t a] [hl : CO ct tl l] [hh : CO ct th h] : CE ct (tSl (rSlN K) t tl th) (dSl a l h) := ⟨fun B g σ H E C Q K' R k q => by
  refine ha.run B g σ H E C _ _ R (fun v H1 ⟨g1, C1, x, k1, R1, r1, q1⟩ => ?_) q
  refine hl.run B g1 σ H1 E C1 _ _ R1 (fun lo H2 ⟨g2, C2, k2, R2, q2⟩ => ?_) q1
  refine hh.run B g2 σ H2 E C2 _ _ R2 (fun hi H3 ⟨g3, C3, k3, R3, q3⟩ => ?_) q2
  have k23 := k2.trans k3
  have r3 := r1.mono k23
  have kk : ∀ v' H', PostE ct B g3 H3 σ E Q v' H' → K' v' H' := fun v' H' p => k v' H' (p.back (k1.trans k23))
  unfold slK at q3
  dsimp only at q3
  split at q3
  · obtain ⟨b, xs, rfl, h1, h2⟩ := rw_tup r3
    refine .inr (.inl ⟨b, xs, rfl, SqT.of h1, fun z => ?_, fun _ p hp => post_tup R3 hp (h2.cut lo hi) kk q3⟩)
    rw [h2.length] at z
    rw [cutL_full z] at q3
    exact post_val R3 r3 kk q3
  · exact .inr (.inr ⟨_, rw_str r3, q3.1, post_val R3 (w := .val (.str _)) (.str _) kk q3.2⟩)
  · obtain ⟨b, xs, rfl, h1, h2⟩ := rdL_ok R3.cs r3 rfl
    exact .inl ⟨b, xs, rfl, SqL.of h1, fun p hp => post_lst R3 hp (h2.cut lo hi) kk q3⟩
  · unfold slL at q3
    split at q3
    · rename_i ds e
      obtain ⟨b, xs, rfl, h1, h2⟩ := rdL_ok R3.cs r3 e
      exact .inl ⟨b, xs, rfl, SqL.of h1, fun p hp => post_lst R3 hp (h2.cut lo hi) kk q3⟩
    · exact q3.elim
  · exact q3.elim⟩
/-! ### built-in functions -/
def dCB (f : FC) (a : DA) : DE := fun E C Q => a E C fun ws C1 => f ws C1 Q
instance ce_cb {ct : Ct} {r : List V → Hp → VK → Prop} {f : FC} {t : TA} {a : DA} [hr : CC ct r f] [ha : CA ct t a] : CE ct (tCB r t) (dCB f a) := ⟨fun B g σ H E C Q K R k q => by
  refine ha.run B g σ H E C _ _ R (fun vs H1 ⟨g1, C1, ws, k1, R1, r1, q1⟩ => ?_) q
  exact hr.run B g1 σ H1 E C1 Q vs ws K R1 (fun v H' p => k v H' (p.back k1)) r1 q1⟩
theorem rws1 {ct : Cl} {g : Gh} {H : Hp} {vs : List V} {w : W} (h : RWs ct g H vs [w]) : ∃ v, vs = [v] ∧ RW ct g H v w := by
  cases h with
  | cons r rs =>
    cases rs
    exact ⟨_, rfl, r⟩
theorem rws2 {ct : Cl} {g : Gh} {H : Hp} {vs : List V} {w u : W} (h : RWs ct g H vs [w, u]) : ∃ v x, vs = [v, x] ∧ RW ct g H v w ∧ RW ct g H x u := by
  cases h with
  | cons r rs =>
    obtain ⟨x, rfl, h2⟩ := rws1 rs
    exact ⟨_, _, rfl, r, h2⟩
def rLenA (K : PySem.W.Frag) : List V → Hp → VK → Prop := fun xs H Q => (∃ p ys, xs = [.ref p] ∧ (SqL K H p ys ∨ SqT K H p ys) ∧ Q (.int ys.length) H) ∨ (∃ z, xs = [.str z] ∧ z.length ≤ sizeLine ∧ Q (.int z.length) H)
theorem call_lenA {X : Cx} : CallR X (.builtin "len") (rLenA X.K) := call_len_seq.or call_len_str
def lenLK (Q : DK) : Option (List D) → List Cell → Prop
  | some ds, C => Q (.val (.int ds.length)) C
  | none, _ => False
def fLen : List W → List Cell → DK → Prop
  | [.val (.tuple ds)], C, Q => Q (.val (.int ds.length)) C
  | [.val (.str z)], C, Q => z.length ≤ sizeLine ∧ Q (.val (.int z.length)) C
  | [.val (.list ds)], C, Q => Q (.val (.int ds.length)) C
  | [.ref k], C, Q => lenLK Q (cellL C[k]?) C
  | _, _, _ => False
instance cc_len {ct : Ct} {K : PySem.W.Frag} : CC ct (rLenA K) fLen := ⟨fun B g σ H E C Q vs ws K' R k r q => by
  unfold fLen at q
  split at q
  · obtain ⟨v, rfl, r1⟩ := rws1 r
    obtain ⟨a, xs, rfl, h1, h2⟩ := rw_tup r1
    refine .inl ⟨a, xs, rfl, .inr (SqT.of h1), ?_⟩
    rw [h2.length]
    exact post_val R (w := .val (.int _)) (.int _) k q
  · obtain ⟨v, rfl, r1⟩ := rws1 r
    exact .inr ⟨_, by rw [rw_str r1], q.1, post_val R (w := .val (.int _)) (.int _) k q.2⟩
  · obtain ⟨v, rfl, r1⟩ := rws1 r
    obtain ⟨a, xs, rfl, h1, h2⟩ := rdL_ok R.cs r1 rfl
    refine .inl ⟨a, xs, rfl, .inl (SqL.of h1), ?_⟩
    rw [h2.length]
    exact post_val R (w := .val (.int _)) (.int _) k q
  · obtain ⟨v, rfl, r1⟩ := rws1 r
    unfold lenLK at q
    split at q
    · rename_i ds e
      obtain ⟨a, xs, rfl, h1, h2⟩ := rdL_ok R.cs r1 e
      refine .inl ⟨a, xs, rfl, .inl (SqL.of h1), ?_⟩
      rw [h2.length]
      exact post_val R (w := .val (.int _)) (.int _) k q
    · exact q.elim
  · exact q.elim⟩
def rIntA : List V → Hp → VK → Prop := fun xs H Q => (∃ i, xs = [.int i] ∧ Q (.int i) H) ∨ ∃ k, xs = [.bl k] ∧ Q (.int (if k then 1 else 0)) H
theorem call_intA {X : Cx} : CallR X (.type "int") rIntA := call_int1
def fInt : List W → List Cell → DK → Prop
  | [.val (.int i)], C, Q => Q (.val (.int i)) C
  | [.val (.bool b)], C, Q => Q (.val (.int (if b then 1 else 0))) C
  | _, _, _ => False
instance cc_int {ct : Ct} : CC ct rIntA fInt := ⟨fun B g σ H E C Q vs ws K' R k r q => by
  unfold fInt at q
  split at q
  · obtain ⟨v, rfl, r1⟩ := rws1 r
    exact .inl ⟨_, by rw [rw_int r1], post_val R (w := .val (.int _)) (.int _) k q⟩
  · obtain ⟨v, rfl, r1⟩ := rws1 r
    exact .inr ⟨_, by rw [rw_bool r1], post_val R (w := .val (.int _)) (.int _) k q⟩
  · exact q.elim⟩
def rListA (K : PySem.W.Frag) : List V → Hp → VK → Prop := fun xs H Q => ∃ p ys, xs = [.ref p] ∧ (SqL K H p ys ∨ SqT K H p ys) ∧ ∀ l, H l = none → Q (.ref l) (upd H l (.lst ys))
theorem call_listA {X : Cx} : CallR X (.type "list") (rListA X.K) := call_list_of
/-- the items of a list or a tuple -/
def rdS (C : List Cell) : W → Option (List D)
  | .val (.tuple ds) => some ds
  | .val (.list ds) => some ds
  | .ref k => cellL C[k]?
  | _ => none
theorem rdS_ok {ct : Cl} {g : Gh} {H : Hp} {C : List Cell} {v : V} {w : W} {ds : List D} {K : PySem.W.Frag} (c : Clz ct g H C) (r : RW ct g H v w) (h : rdS C w = some ds) : ∃ a xs, v = .ref a ∧ (SqL K H a xs ∨ SqT K H a xs) ∧ RDs ct g.F H xs ds := by
  unfold rdS at h
  split at h
  · cases h
    obtain ⟨a, xs, rfl, h1, h2⟩ := rw_tup r
    exact ⟨a, xs, rfl, .inr (SqT.of h1), h2⟩
  · obtain ⟨a, xs, rfl, h1, h2⟩ := rdL_ok c r h
    exact ⟨a, xs, rfl, .inl (SqL.of h1), h2⟩
  · obtain ⟨a, xs, rfl, h1, h2⟩ := rdL_ok c r h
    exact ⟨a, xs, rfl, .inl (SqL.of h1), h2⟩
  · cases h
def mkL (f : List D → D) (Q : DK) : Option (List D) → List Cell → Prop
  | some ds, C => Q (.val (f ds)) C
  | none, _ => False
def fList : List W → List Cell → DK → Prop
  | [x], C, Q => mkL .list Q (rdS C x) C
  | _, _, _ => False
instance cc_list {ct : Ct} {K : PySem.W.Frag} : CC ct (rListA K) fList := ⟨fun B g σ H E C Q vs ws K' R k r q => by
  unfold fList at q
  split at q
  · obtain ⟨v, rfl, r1⟩ := rws1 r
    unfold mkL at q
    split at q
    · rename_i ds e
      obtain ⟨a, xs, rfl, h1, h2⟩ := rdS_ok (K := K) R.cs r1 e
      exact ⟨a, xs, rfl, h1, fun l hl => post_lst R hl h2 k q⟩
    · exact q.elim
  · exact q.elim⟩
def rTupA (K : PySem.W.Frag) : List V → Hp → VK → Prop := fun xs H Q => ∃ p ys, xs = [.ref p] ∧ ((SqL K H p ys ∧ ∀ l, H l = none → Q (.ref l) (upd H l (.tup ys))) ∨ (SqT K H p ys ∧ Q (.ref p) H))
theorem call_tupA {X : Cx} : CallR X (.type "tuple") (rTupA X.K) := call_tuple_of
def fTup : List W → List Cell → DK → Prop
  | [x], C, Q => mkL .tuple Q (rdL C x) C
  | _, _, _ => False
instance cc_tup {ct : Ct} {K : PySem.W.Frag} : CC ct (rTupA K) fTup := ⟨fun B g σ H E C Q vs ws K' R k r q => by
  unfold fTup at q
  split at q
  · obtain ⟨v, rfl, r1⟩ := rws1 r
    unfold mkL at q
    split at q
    · rename_i ds e
      obtain ⟨a, xs, rfl, h1, h2⟩ := rdL_ok R.cs r1 e
      exact ⟨a, xs, rfl, .inl ⟨SqL.of h1, fun l hl => post_tup R hl h2 k q⟩⟩
    · exact q.elim
  · exact q.elim⟩
def rOrd : List V → Hp → VK → Prop := fun xs H Q => ∃ x, xs = [.str x] ∧ x.length = 1 ∧ Q (.int (x.cps.getD 0 0 : Nat)) H
theorem call_ordA {X : Cx} : CallR X (.builtin "ord") rOrd := call_ord
def fOrd : List W → List Cell → DK → Prop
  | [.val (.str x)], C, Q => x.length = 1 ∧ Q (.val (.int (x.cps.getD 0 0 : Nat))) C
  | _, _, _ => False
instance cc_ord {ct : Ct} : CC ct rOrd fOrd := ⟨fun B g σ H E C Q vs ws K' R k r q => by
  unfold fOrd at q
  split at q
  · obtain ⟨v, rfl, r1⟩ := rws1 r
    exact ⟨_, by rw [rw_str r1], q.1, post_val R (w := .val (.int _)) (.int _) k q.2⟩
  · exact q.elim⟩
theorem RDs.ints_eq {ct : Cl} {F : Addr → Prop} {H : Hp} : ∀ {xs : List V} {ns : List Int}, RDs ct F H xs (ns.map .int) → xs = ns.map V.int
  | _, [], h => by
    cases h
    rfl
  | _, n :: ns, h => by
    cases h with
    | cons h1 h2 =>
      cases h1
      rw [RDs.ints_eq h2]
      rfl
theorem RDs.bls_eq {ct : Cl} {F : Addr → Prop} {H : Hp} : ∀ {xs : List V} {ns : List Bool}, RDs ct F H xs (ns.map .bool) → xs = ns.map V.bl
  | _, [], h => by
    cases h
    rfl
  | _, n :: ns, h => by
    cases h with
    | cons h1 h2 =>
      cases h1
      rw [RDs.bls_eq h2]
      rfl
def fSum : FC := fun ws C Q => ∃ (x : W) (ns : List Int), ws = [x] ∧ rdL C x = some (ns.map PyData.int) ∧ Q (.val (.int ns.sum)) C
instance cc_sum {ct : Ct} {K : PySem.W.Frag} : CC ct (rSum K) fSum := ⟨fun B g σ H E C Q vs ws K' R k r q => by
  obtain ⟨x, ns, rfl, e, q⟩ := q
  obtain ⟨v, rfl, r1⟩ := rws1 r
  obtain ⟨a, xs, rfl, h1, h2⟩ := rdL_ok R.cs r1 e
  rw [h2.ints_eq] at h1
  exact ⟨a, ns, rfl, SqL.of h1, post_val R (w := .val (.int _)) (.int _) k q⟩⟩
def fAll : FC := fun ws C Q => ∃ (x : W) (bs : List Bool), ws = [x] ∧ rdL C x = some (bs.map PyData.bool) ∧ Q (.val (.bool (bs.all id))) C
instance cc_all {ct : Ct} {K : PySem.W.Frag} : CC ct (rAll K) fAll := ⟨fun B g σ H E C Q vs ws K' R k r q => by
  obtain ⟨x, ns, rfl, e, q⟩ := q
  obtain ⟨v, rfl, r1⟩ := rws1 r
  obtain ⟨a, xs, rfl, h1, h2⟩ := rdL_ok R.cs r1 e
  rw [h2.bls_eq] at h1
  exact ⟨a, ns, rfl, SqL.of h1, post_val R (w := .val (.bool _)) (.bl _) k q⟩⟩
/-- isinstance -/
def tyD (C : List Cell) : W → Option String
  | .val .none => some "NoneType"
  | .val (.bool _) => some "bool"
  | .val (.int _) => some "int"
  | .val (.str _) => some "str"
  | .val (.tuple _) => some "tuple"
  | .val (.list _) => some "list"
  | _ => none
theorem tyD_ok {ct : Cl} {g : Gh} {H : Hp} {C : List Cell} {v : V} {w : W} {t : String} {K : PySem.W.Frag} (r : RW ct g H v w) (h : tyD C w = some t) : TyX K H v (.type t) := by
  unfold tyD at h
  split at h
  · cases h
    cases (show RD ct g.F H v .none from r)
    exact .base .non
  · cases h
    rw [rw_bool r]
    exact .base (.bl _)
  · cases h
    rw [rw_int r]
    exact .base (.int _)
  · cases h
    rw [rw_str r]
    exact .base (.str _)
  · cases h
    obtain ⟨a, xs, rfl, h1, h2⟩ := rw_tup r
    exact .base (.tup h1)
  · cases h
    cases (show RD ct g.F H v (.list _) from r) with
    | lst f h1 h2 => exact .base (.lst h1)
  · cases h
def isiB (Q : DK) : Option Bool → List Cell → Prop
  | some b, C => Q (.val (.bool b)) C
  | none, _ => False
def isiK (n : String) (Q : DK) : Option String → List Cell → Prop
  | some t, C => isiB Q (kitB t n) C
  | none, _ => False
def fIsi : List W → List Cell → DK → Prop
  | [x, .ty n], C, Q => isiK n Q (tyD C x) C
  | _, _, _ => False
instance cc_isi {ct : Ct} {K : PySem.W.Frag} : CC ct (rIsi K) fIsi := ⟨fun B g σ H E C Q vs ws K' R k r q => by
  unfold fIsi at q
  split at q
  · obtain ⟨v, x, rfl, r1, r2⟩ := rws2 r
    unfold isiK at q
    split at q
    · rename_i t e
      unfold isiB at q
      split at q
      · rename_i b e2
        exact ⟨v, x, .type t, _, b, rfl, by rw [show x = .ty _ from r2]; exact .ty _, tyD_ok r1 e, kit_ty e2, post_val R (w := .val (.bool _)) (.bl _) k q⟩
      · exact q.elim
    · exact q.elim
  · exact q.elim⟩
instance ce_ty {ct : Ct} {n : String} : CE ct (tC (.ty n)) (fun E C Q => Q (.ty n) C) := ⟨fun B g σ H E C Q K R k h => post_val R (w := .ty n) rfl k h⟩
theorem kb1 : kitB "int" "int" = some true := by decide +kernel
theorem kb2 : kitB "bool" "int" = some true := by decide +kernel
theorem kb3 : kitB "str" "int" = some false := by decide +kernel
theorem kb4 : kitB "tuple" "int" = some false := by decide +kernel
theorem kb5 : kitB "list" "int" = some false := by decide +kernel
theorem kb6 : kitB "NoneType" "int" = some false := by decide +kernel
theorem kb7 : kitB "int" "bool" = some false := by decide +kernel
theorem kb8 : kitB "bool" "bool" = some true := by decide +kernel
theorem kb9 : kitB "str" "bool" = some false := by decide +kernel
theorem kb10 : kitB "tuple" "bool" = some false := by decide +kernel
theorem kb11 : kitB "list" "bool" = some false := by decide +kernel
theorem kb12 : kitB "NoneType" "bool" = some false := by decide +kernel
theorem kb13 : kitB "int" "str" = some false := by decide +kernel
theorem kb14 : kitB "bool" "str" = some false := by decide +kernel
theorem kb15 : kitB "str" "str" = some true := by decide +kernel
theorem kb16 : kitB "tuple" "str" = some false := by decide +kernel
theorem kb17 : kitB "list" "str" = some false := by decide +kernel
theorem kb18 : kitB "NoneType" "str" = some false := by decide +kernel
theorem kb19 : kitB "int" "tuple" = some false := by decide +kernel
theorem kb20 : kitB "bool" "tuple" = some false := by decide +kernel
theorem kb21 : kitB "str" "tuple" = some false := by decide +kernel
theorem kb22 : kitB "tuple" "tuple" = some true := by decide +kernel
theorem kb23 : kitB "list" "tuple" = some false := by decide +kernel
theorem kb24 : kitB "NoneType" "tuple" = some false := by decide +kernel
end RR

namespace RR
open PySem PySem.Spec PyProof.Rows L2
/-! ### another base -/
abbrev Bs.of (g : Gh) (H : Hp) : Bs := ⟨g, H⟩
theorem Fr0.self (g : Gh) (H : Hp) : Fr0 (Bs.of g H) g H := ⟨fun _ _ h => h, fun _ _ h _ => h, fun _ h => .inl h, fun _ h => .inl h⟩
theorem Fr0.comp {B : Bs} {g g' : Gh} {H H' : Hp} (f : Fr0 B g H) (f' : Fr0 (Bs.of g H) g' H') : Fr0 B g' H' := by
  have fresh : ∀ a, H a = none → B.H a = none ∨ a ∈ B.M := fun a h => f.fresh h
  refine ⟨fun a xs h => f'.kt a xs (f.kt a xs h), fun a o h hm => ?_, fun a h => ?_, fun a h => ?_⟩
  · refine f'.keep a o (f.keep a o h hm) fun hin => ?_
    rcases f.newM a hin with q | q
    · exact hm q
    · rw [q] at h
      cases h
  · rcases f'.newF a h with q | q | q
    · exact f.newF a q
    · exact .inr (fresh a q)
    · exact .inr ((f.newM a q).symm)
  · rcases f'.newM a h with q | q
    · exact f.newM a q
    · exact (fresh a q).symm
theorem Rel.self {ct : Ct} {B : Bs} {g : Gh} {σ : L2.St} {H : Hp} {E : Ev} {C : List Cell} (R : Rel ct B g σ H E C) : Rel ct (Bs.of g H) g σ H E C := ⟨R.env, R.len, R.cs, Fr0.self g H, Gk.refl _ _, fun g' H' C' cls d c ds k f => R.xo g' H' C' cls d c ds (R.gg.trans k) (R.fr.comp f)⟩
/-! ### sequences that are walked -/
def iSeqA (K : PySem.W.Frag) (tl : TE) : TI := fun σ H R => tl σ H fun x H1 => (∃ a, x = .ref a ∧ (∃ xs, SqL K H1 a xs) ∧ R (Itl K a) H1) ∨ (∃ a, x = .ref a ∧ (∃ xs, SqT K H1 a xs) ∧ R (Itt K a) H1) ∨ (∃ z, x = .str z ∧ R (Its z) H1)
theorem pi_seqA {X : Cx} {tg l : Expr} {tl : TE} (hl : PE X l tl) : PI X tg l (iSeqA X.K tl) := by
  refine ⟨fun pins s σ H R I h => ?_⟩
  refine thn (hl.run pins s σ H _ I h) fun v s1 ⟨x, H1, I1, r1, q1⟩ => ?_
  rcases q1 with ⟨a, e, ⟨xs, hq⟩, q⟩ | ⟨a, e, ⟨xs, hq⟩, q⟩ | ⟨z, e, q⟩
  · subst e
    cases r1
    obtain ⟨its, rv, p, hz⟩ := I1.list hq
    refine wpAny_pyIter_list p.isList ?_
    refine ⟨s1.heap.objs.size, [s1.heap.objs.size], _, _, H1, rfl, I1.kept (t' := s1.toks) fun b o e => Heap.get?_push_of_some _ e, turn_list a _, ⟨_, Heap.get?_push_size _ rfl, rfl, rfl⟩, fun b hb => ?_, q⟩
    have e : b = s1.heap.objs.size := by simpa using hb
    subst e
    exact I1.fpOk (Nat.le_refl _) (I1.hok.fresh (Nat.le_refl _))
  · subst e
    cases r1
    obtain ⟨its, rv, p, hz⟩ := I1.tuple hq
    refine wpAny_pyIter_tuple (show s1.heap.IsTuple a its.toArray from p) ?_
    refine ⟨s1.heap.objs.size, [s1.heap.objs.size], _, _, H1, rfl, I1.kept (t' := s1.toks) fun b o e => Heap.get?_push_of_some _ e, turn_tuple a _, ⟨_, Heap.get?_push_size _ rfl, rfl, rfl⟩, fun b hb => ?_, q⟩
    have e : b = s1.heap.objs.size := by simpa using hb
    subst e
    exact I1.fpOk (Nat.le_refl _) (I1.hok.fresh (Nat.le_refl _))
  · subst e
    obtain ⟨t, rfl⟩ := r1
    cases ha : z.cps.all (· < 128)
    · exact wpAny_pyIter_wide ha (pi_one (tk := s1.toks) I1 _ (turn_str _ z t "str_iterator" (.inr rfl)) ⟨_, Heap.get?_push_size _ rfl, rfl, rfl⟩ q)
    · exact wpAny_pyIter_ascii ha (pi_one (tk := s1.toks) I1 _ (turn_str _ z t "str_ascii_iterator" (.inl rfl)) ⟨_, Heap.get?_push_size _ rfl, rfl, rfl⟩ q)
/-- the walk gives the data, one after the other, whatever else goes on -/
structure IterOk (ct : Cl) (J : It) (g : Gh) (H : Hp) (ds : List D) : Prop where
  go : ∀ g' H', Gk g H g' H' → ∀ i, i < ds.length → J.go i H'
  stop : ∀ g' H', Gk g H g' H' → J.stop ds.length H'
  yld : ∀ g' H', Gk g H g' H' → ∀ i x H'' d, ds[i]? = some d → J.yld i H' x H'' → (H'' = H' ∨ ∃ T xs, H' T = none ∧ H'' = upd H' T (.tup xs)) ∧ ∀ g'', Gk g' H' g'' H'' → RD ct g''.F H'' x d
abbrev DI := Ev → List Cell → (List D → List Cell → Prop) → Prop
class CI (ct : Ct) (wi : TI) (t : outParam DI) : Prop where
  run : ∀ B g σ H E C Q (K : It → Hp → Prop), Rel ct B g σ H E C → (∀ J H' g' C' ds, Gk g H g' H' → Rel ct B g' σ H' E C' → IterOk ct J g' H' ds → Q ds C' → K J H') → t E C Q → wi σ H K
theorem iter_list {ct : Cl} {K : PySem.W.Frag} {g : Gh} {H : Hp} {a : Addr} {xs : List V} {ds : List D} (f : g.F a) (h : H a = some (.lst xs)) (r : RDs ct g.F H xs ds) : IterOk ct (Itl K a) g H ds := by
  have at_ : ∀ g' H', Gk g H g' H' → SqL K H' a xs := fun g' H' k => SqL.of ((k.kp.2 a f).2.trans h)
  refine ⟨fun g' H' k i hi => walk_list.goes i H' (by rw [r.length]; exact hi) (at_ g' H' k), fun g' H' k => ?_, fun g' H' k i x H'' d hd y => ?_⟩
  · have q := walk_list.stops H' (at_ g' H' k)
    rw [r.length] at q
    exact q
  · obtain ⟨v, hv, rv⟩ := r.get i d hd
    obtain ⟨e, hx⟩ := walk_list.yields i H' x H'' (List.getElem?_eq_some_iff.mp hv).1 (at_ g' H' k) y
    rw [hv] at hx
    cases hx
    exact ⟨.inl e, fun g'' k' => RD.mono (k.trans k').kp _ _ rv⟩
theorem iter_tup {ct : Cl} {K : PySem.W.Frag} {g : Gh} {H : Hp} {a : Addr} {xs : List V} {ds : List D} (h : H a = some (.tup xs)) (r : RDs ct g.F H xs ds) : IterOk ct (Itt K a) g H ds := by
  have at_ : ∀ g' H', Gk g H g' H' → SqT K H' a xs := fun g' H' k => SqT.of (k.kp.1 a xs h)
  refine ⟨fun g' H' k i hi => walk_tup.goes i H' (by rw [r.length]; exact hi) (at_ g' H' k), fun g' H' k => ?_, fun g' H' k i x H'' d hd y => ?_⟩
  · have q := walk_tup.stops H' (at_ g' H' k)
    rw [r.length] at q
    exact q
  · obtain ⟨v, hv, rv⟩ := r.get i d hd
    obtain ⟨e, hx⟩ := walk_tup.yields i H' x H'' (List.getElem?_eq_some_iff.mp hv).1 (at_ g' H' k) y
    rw [hv] at hx
    cases hx
    exact ⟨.inl e, fun g'' k' => RD.mono (k.trans k').kp _ _ rv⟩
def chars (z : Str) : List D := z.cps.toList.map fun c => .str ⟨#[c]⟩
theorem chars_len (z : Str) : (chars z).length = z.cps.size := by
  unfold chars
  rw [List.length_map, Array.length_toList]
theorem iter_str {ct : Cl} {g : Gh} {H : Hp} {z : Str} : IterOk ct (Its z) g H (chars z) := by
  refine ⟨fun g' H' k i hi => walk_str.goes i H' (by rw [← chars_len]; exact hi) True.intro, fun g' H' k => ?_, fun g' H' k i x H'' d hd y => ?_⟩
  · rw [chars_len]
    exact walk_str.stops H' True.intro
  · have hi : i < z.cps.size := by
      rw [← chars_len]
      exact (List.getElem?_eq_some_iff.mp hd).1
    obtain ⟨e, c, hc, rfl⟩ := walk_str.yields i H' x H'' hi True.intro y
    unfold chars at hd
    rw [List.getElem?_map, Array.getElem?_toList, hc] at hd
    cases hd
    exact ⟨.inl e, fun _ _ => .str _⟩
/-- the items of what a value or a cell holds; a list is frozen then -/
def frzK (k : Nat) (Q : List D → List Cell → Prop) : Option Cell → List Cell → Prop
  | some (.lst ds), C => Q ds (C.set k (.frz ds))
  | some (.frz ds), C => Q ds C
  | _, _ => False
def seqK (Q : List D → List Cell → Prop) : W → List Cell → Prop
  | .val (.list ds), C => Q ds C
  | .val (.tuple ds), C => Q ds C
  | .val (.str z), C => Q (chars z) C
  | .ref k, C => frzK k Q C[k]? C
  | _, _ => False
def dSeq (a : DE) : DI := fun E C Q => a E C (seqK Q)
instance ci_seq {ct : Ct} {K : PySem.W.Frag} {t : TE} {a : DE} [h : CE ct t a] : CI ct (iSeqA K t) (dSeq a) := ⟨fun B g σ H E C Q K' R k q => by
  refine h.run B g σ H E C _ _ R (fun v H1 ⟨g1, C1, x, k1, R1, r1, q1⟩ => ?_) q
  unfold seqK at q1
  split at q1
  · rename_i ds
    cases (show RD ct g1.F H1 v (.list ds) from r1) with
    | lst f h1 h2 => exact .inl ⟨_, rfl, ⟨_, SqL.of h1⟩, k _ _ g1 C1 ds k1 R1 (iter_list f h1 h2) q1⟩
  · rename_i ds
    obtain ⟨a, xs, rfl, h1, h2⟩ := rw_tup r1
    exact .inr (.inl ⟨_, rfl, ⟨_, SqT.of h1⟩, k _ _ g1 C1 ds k1 R1 (iter_tup h1 h2) q1⟩)
  · exact .inr (.inr ⟨_, rw_str r1, k _ _ g1 C1 _ k1 R1 iter_str q1⟩)
  · rename_i j
    obtain ⟨a, ha, rfl⟩ := r1
    unfold frzK at q1
    split at q1
    · rename_i ds e
      obtain ⟨k2, R2, r2⟩ := R1.ice e ha
      cases r2 with
      | lst f h1 h2 => exact .inl ⟨_, rfl, ⟨_, SqL.of h1⟩, k _ _ _ _ ds (k1.trans k2) R2 (iter_list f h1 h2) q1⟩
    · rename_i ds e
      obtain ⟨a', m, q2, q3, q4, f, xs, h1, h2⟩ := R1.cs.at_ j _ e
      rw [ha] at q2
      cases q2
      exact .inl ⟨_, rfl, ⟨_, SqL.of h1⟩, k _ _ g1 _ ds k1 R1 (iter_list f h1 h2) q1⟩
    · exact q1.elim
  · exact q1.elim⟩
/-- ranges -/
def rangeD (lo : Int) (n : Nat) : List D := (List.range n).map fun i => .int (lo + (i : Nat))
theorem iter_range {ct : Cl} {g : Gh} {H : Hp} {lo : Int} {n : Nat} : IterOk ct (Itr lo n) g H (rangeD lo n) := by
  have hl : (rangeD lo n).length = n := by
    unfold rangeD
    rw [List.length_map, List.length_range]
  refine ⟨fun g' H' k i hi => walk_range.goes i H' (by rw [← hl]; exact hi) True.intro, fun g' H' k => ?_, fun g' H' k i x H'' d hd y => ?_⟩
  · rw [hl]
    exact walk_range.stops H' True.intro
  · have hi : i < n := by
      rw [← hl]
      exact (List.getElem?_eq_some_iff.mp hd).1
    obtain ⟨e, rfl⟩ := walk_range.yields i H' x H'' hi True.intro y
    unfold rangeD at hd
    rw [List.getElem?_map, List.getElem?_range hi] at hd
    cases hd
    exact ⟨.inl e, fun _ _ => .int _⟩
def rng1K (Q : List D → List Cell → Prop) : List W → List Cell → Prop
  | [.val (.int j)], C1 => -(2 ^ 62) ≤ j ∧ j < 2 ^ 62 ∧ Q (rangeD 0 j.toNat) C1
  | _, _ => False
def dRng1 (a : DA) : DI := fun E C Q => a E C (rng1K Q)
instance ci_rng1 {ct : Ct} {t : TA} {a : DA} [h : CA ct t a] : CI ct (iRng1 t) (dRng1 a) := ⟨fun B g σ H E C Q K' R k q => by
  refine h.run B g σ H E C _ _ R (fun v H1 ⟨g1, C1, x, k1, R1, r1, q1⟩ => ?_) q
  unfold rng1K at q1
  split at q1
  · rename_i j
    obtain ⟨u, rfl, r2⟩ := rws1 r1
    exact ⟨j, by rw [rw_int r2], q1.1, q1.2.1, k _ _ g1 C1 _ k1 R1 iter_range q1.2.2⟩
  · exact q1.elim⟩
def rng2K (Q : List D → List Cell → Prop) : List W → List Cell → Prop
  | [.val (.int i), .val (.int j)], C1 => (-(2 ^ 62) ≤ i ∧ i < 2 ^ 62 ∧ -(2 ^ 62) ≤ j ∧ j < 2 ^ 62) ∧ Q (rangeD i (j - i).toNat) C1
  | _, _ => False
def dRng2 (a : DA) : DI := fun E C Q => a E C (rng2K Q)
instance ci_rng2 {ct : Ct} {t : TA} {a : DA} [h : CA ct t a] : CI ct (iRng2 t) (dRng2 a) := ⟨fun B g σ H E C Q K' R k q => by
  refine h.run B g σ H E C _ _ R (fun v H1 ⟨g1, C1, x, k1, R1, r1, q1⟩ => ?_) q
  unfold rng2K at q1
  split at q1
  · obtain ⟨u, u2, rfl, r2, r3⟩ := rws2 r1
    exact ⟨_, _, by rw [rw_int r2, rw_int r3], q1.1, k _ _ g1 C1 _ k1 R1 iter_range q1.2⟩
  · exact q1.elim⟩
/-- reversed, of a list that is frozen -/
theorem iter_rev {ct : Cl} {K : PySem.W.Frag} {g : Gh} {H : Hp} {a : Addr} {xs : List V} {ds : List D} (f : g.F a) (h : H a = some (.lst xs)) (r : RDs ct g.F H xs ds) : IterOk ct (Itv K a xs.length) g H ds.reverse := by
  have at_ : ∀ g' H', Gk g H g' H' → SqL K H' a xs := fun g' H' k => SqL.of ((k.kp.2 a f).2.trans h)
  refine ⟨fun g' H' k i hi => walk_rev.goes i H' (by rw [r.length, ← List.length_reverse]; exact hi) (at_ g' H' k), fun g' H' k => ?_, fun g' H' k i x H'' d hd y => ?_⟩
  · have q := walk_rev.stops H' (at_ g' H' k)
    rw [List.length_reverse, ← r.length]
    exact q
  · have hi : i < ds.length := by
      rw [← List.length_reverse]
      exact (List.getElem?_eq_some_iff.mp hd).1
    obtain ⟨e, hx⟩ := walk_rev.yields i H' x H'' (by rw [r.length]; exact hi) (at_ g' H' k) y
    rw [List.getElem?_reverse hi] at hd
    obtain ⟨v, hv, rv⟩ := r.get _ d hd
    rw [r.length, hv] at hx
    cases hx
    exact ⟨.inl e, fun g'' k' => RD.mono (k.trans k').kp _ _ rv⟩
def lstK (Q : List D → List Cell → Prop) : W → List Cell → Prop
  | .val (.list ds), C => Q ds C
  | .ref k, C => frzK k Q C[k]? C
  | _, _ => False
theorem lstK_ok {ct : Ct} {B : Bs} {g : Gh} {σ : L2.St} {H : Hp} {E : Ev} {C : List Cell} {Q : List D → List Cell → Prop} {v : V} {w : W} (R : Rel ct B g σ H E C) (r : RW ct g H v w) (q : lstK Q w C) :
    ∃ g' C' a xs ds, Gk g H g' H ∧ Rel ct B g' σ H E C' ∧ v = .ref a ∧ g'.F a ∧ H a = some (.lst xs) ∧ RDs ct g'.F H xs ds ∧ Q ds C' := by
  unfold lstK at q
  split at q
  · rename_i ds
    cases (show RD ct g.F H v (.list ds) from r) with
    | lst f h1 h2 => exact ⟨g, C, _, _, ds, Gk.refl _ _, R, rfl, f, h1, h2, q⟩
  · rename_i j
    obtain ⟨a, ha, rfl⟩ := r
    unfold frzK at q
    split at q
    · rename_i ds e
      obtain ⟨k2, R2, r2⟩ := R.ice e ha
      cases r2 with
      | lst f h1 h2 => exact ⟨_, _, _, _, ds, k2, R2, rfl, f, h1, h2, q⟩
    · rename_i ds e
      obtain ⟨a', m, q2, q3, q4, f, xs, h1, h2⟩ := R.cs.at_ j _ e
      rw [ha] at q2
      cases q2
      exact ⟨g, _, _, _, ds, Gk.refl _ _, R, rfl, f, h1, h2, q⟩
    · exact q.elim
  · exact q.elim
def lst1K (Q : List D → List Cell → Prop) : List W → List Cell → Prop
  | [x], C1 => lstK Q x C1
  | _, _ => False
def dRev (a : DA) : DI := fun E C Q => a E C (lst1K fun ds C2 => Q ds.reverse C2)
instance ci_rev {ct : Ct} {K : PySem.W.Frag} {t : TA} {a : DA} [h : CA ct t a] : CI ct (iRev K t) (dRev a) := ⟨fun B g σ H E C Q K' R k q => by
  refine h.run B g σ H E C _ _ R (fun v H1 ⟨g1, C1, x, k1, R1, r1, q1⟩ => ?_) q
  unfold lst1K at q1
  split at q1
  · obtain ⟨u, rfl, r2⟩ := rws1 r1
    obtain ⟨g2, C2, b, xs, ds, k2, R2, rfl, f, h1, h2, q2⟩ := lstK_ok R1 r2 q1
    exact ⟨b, xs, rfl, SqL.of h1, k _ _ g2 C2 _ (k1.trans k2) R2 (iter_rev f h1 h2) q2⟩
  · exact q1.elim⟩
theorem iter_enum {ct : Cl} {K : PySem.W.Frag} {g : Gh} {H : Hp} {a : Addr} {xs : List V} {ds : List D} (f : g.F a) (h : H a = some (.lst xs)) (r : RDs ct g.F H xs ds) : IterOk ct (Ite K a) g H (ds.zipIdx.map fun p => .tuple [.int (p.2 : Nat), p.1]) := by
  have at_ : ∀ g' H', Gk g H g' H' → SqL K H' a xs := fun g' H' k => SqL.of ((k.kp.2 a f).2.trans h)
  have hl : (ds.zipIdx.map fun p => PyData.tuple [.int (p.2 : Nat), p.1]).length = xs.length := by rw [List.length_map, List.length_zipIdx, r.length]
  refine ⟨fun g' H' k i hi => walk_enum.goes i H' (by rw [← hl]; exact hi) (at_ g' H' k), fun g' H' k => ?_, fun g' H' k i x H'' d hd y => ?_⟩
  · rw [hl]
    exact walk_enum.stops H' (at_ g' H' k)
  · have hi : i < xs.length := by
      rw [← hl]
      exact (List.getElem?_eq_some_iff.mp hd).1
    obtain ⟨T, u, v, rfl, hT, rfl, e1, e2⟩ := walk_enum.yields i H' x H'' hi (at_ g' H' k) y
    cases e1
    obtain ⟨d', hd', rd'⟩ := r.get' i v e2
    rw [List.getElem?_map, List.getElem?_zipIdx, hd'] at hd
    simp only [Option.map_some, Nat.zero_add] at hd
    cases hd
    exact ⟨.inr ⟨T, _, hT, rfl⟩, fun g'' k' => .tup upd_same (.cons (.int _) (.cons (RD.mono (k.trans k').kp _ _ rd') .nil))⟩
def enumD (ds : List D) : List D := ds.zipIdx.map fun p => .tuple [.int (p.2 : Nat), p.1]
def dEnum (a : DA) : DI := fun E C Q => a E C (lst1K fun ds C2 => Q (enumD ds) C2)
instance ci_enum {ct : Ct} {K : PySem.W.Frag} {t : TA} {a : DA} [h : CA ct t a] : CI ct (iEnum K t) (dEnum a) := ⟨fun B g σ H E C Q K' R k q => by
  refine h.run B g σ H E C _ _ R (fun v H1 ⟨g1, C1, x, k1, R1, r1, q1⟩ => ?_) q
  unfold lst1K at q1
  split at q1
  · obtain ⟨u, rfl, r2⟩ := rws1 r1
    obtain ⟨g2, C2, b, xs, ds, k2, R2, rfl, f, h1, h2, q2⟩ := lstK_ok R1 r2 q1
    exact ⟨b, xs, rfl, SqL.of h1, k _ _ g2 C2 _ (k1.trans k2) R2 (iter_enum f h1 h2) q2⟩
  · exact q1.elim⟩
def zipD (ds es : List D) : List D := List.zipWith (fun d e => .tuple [d, e]) ds es
theorem iter_zip {ct : Cl} {K : PySem.W.Frag} {g : Gh} {H : Hp} {a b : Addr} {xs ys : List V} {ds es : List D} (f : g.F a) (h : H a = some (.lst xs)) (r : RDs ct g.F H xs ds) (f' : g.F b) (h' : H b = some (.lst ys)) (r' : RDs ct g.F H ys es) :
    IterOk ct (Itz K a b) g H (zipD ds es) := by
  have at_ : ∀ g' H', Gk g H g' H' → SqL K H' a xs ∧ SqL K H' b ys := fun g' H' k => ⟨SqL.of ((k.kp.2 a f).2.trans h), SqL.of ((k.kp.2 b f').2.trans h')⟩
  have hl : (zipD ds es).length = min xs.length ys.length := by
    unfold zipD
    rw [List.length_zipWith, r.length, r'.length]
  refine ⟨fun g' H' k i hi => (walk_zip rfl).goes i H' (by rw [← hl]; exact hi) (at_ g' H' k), fun g' H' k => ?_, fun g' H' k i x H'' d hd y => ?_⟩
  · rw [hl]
    exact (walk_zip rfl).stops H' (at_ g' H' k)
  · have hi : i < min xs.length ys.length := by
      rw [← hl]
      exact (List.getElem?_eq_some_iff.mp hd).1
    obtain ⟨T, u, v, rfl, hT, rfl, e1, e2⟩ := (walk_zip rfl).yields i H' x H'' hi (at_ g' H' k) y
    obtain ⟨d1, hd1, rd1⟩ := r.get' i u e1
    obtain ⟨d2, hd2, rd2⟩ := r'.get' i v e2
    unfold zipD at hd
    rw [List.getElem?_zipWith, hd1, hd2] at hd
    cases hd
    exact ⟨.inr ⟨T, _, hT, rfl⟩, fun g'' k' => .tup upd_same (.cons (RD.mono (k.trans k').kp _ _ rd1) (.cons (RD.mono (k.trans k').kp _ _ rd2) .nil))⟩
def zipK (Q : List D → List Cell → Prop) : List W → List Cell → Prop
  | [x, y], C1 => lstK (fun ds C2 => lstK (fun es C3 => Q (zipD ds es) C3) y C2) x C1
  | _, _ => False
def dZip (a : DA) : DI := fun E C Q => a E C (zipK Q)
instance ci_zip {ct : Ct} {K : PySem.W.Frag} {t : TA} {a : DA} [h : CA ct t a] : CI ct (iZip K t) (dZip a) := ⟨fun B g σ H E C Q K' R k q => by
  refine h.run B g σ H E C _ _ R (fun v H1 ⟨g1, C1, x, k1, R1, r1, q1⟩ => ?_) q
  unfold zipK at q1
  split at q1
  · obtain ⟨u, u2, rfl, r2, r3⟩ := rws2 r1
    obtain ⟨g2, C2, b, xs, ds, k2, R2, rfl, f, h1, h2, q2⟩ := lstK_ok R1 r2 q1
    obtain ⟨g3, C3, b', ys, es, k3, R3, rfl, f', h1', h2', q3⟩ := lstK_ok R2 (r3.mono k2) q2
    exact ⟨b, b', xs, ys, rfl, SqL.of h1, SqL.of h1', k _ _ g3 C3 _ ((k1.trans k2).trans k3) R3 (iter_zip (k3.kp.2 b f).1 h1 (RDs.mono k3.kp _ _ h2) f' h1' h2') q3⟩
  · exact q1.elim⟩
end RR

namespace RR
open PySem PySem.Spec PyProof.Rows L2
/-! ### targets -/
abbrev DG := W → Ev → List Cell → (Ev → List Cell → Prop) → Prop
abbrev DGs := List W → Ev → List Cell → (Ev → List Cell → Prop) → Prop
def PostG (ct : Ct) (B : Bs) (g : Gh) (H : Hp) (Q : Ev → List Cell → Prop) : L2.St → Hp → Prop := fun σ' H' => ∃ g' E' C', Gk g H g' H' ∧ Rel ct B g' σ' H' E' C' ∧ Q E' C'
class CG (ct : Ct) (gt : TG) (h : outParam DG) : Prop where
  run : ∀ B g σ H E C v w Q (K : L2.St → Hp → Prop), Rel ct B g σ H E C → RW ct g H v w → (∀ σ' H', PostG ct B g H Q σ' H' → K σ' H') → h w E C Q → gt v σ H K
class CGs (ct : Ct) (gt : TGs) (h : outParam DGs) : Prop where
  run : ∀ B g σ H E C vs ws Q (K : L2.St → Hp → Prop), Rel ct B g σ H E C → RWs ct g H vs ws → (∀ σ' H', PostG ct B g H Q σ' H' → K σ' H') → h ws E C Q → gt vs σ H K
def dgName (i : Nat) : DG := fun w E C Q => Q (E.set i (some w)) C
theorem Rel.set {ct : Ct} {B : Bs} {g : Gh} {σ : L2.St} {H : Hp} {E : Ev} {C : List Cell} {v : V} {w : W} (R : Rel ct B g σ H E C) (r : RW ct g H v w) (i : Nat) : Rel ct B g (σ.set i (some v)) H (E.set i (some w)) C :=
  ⟨fun j u h => by
    by_cases e : i = j
    · subst e
      by_cases hi : i < E.length
      · rw [List.getElem?_set_self hi] at h
        cases h
        exact ⟨v, List.getElem?_set_self (by rw [R.len]; exact hi), r⟩
      · rw [List.getElem?_eq_none (by rw [List.length_set]; omega)] at h
        cases h
    · rw [List.getElem?_set_ne e] at h
      obtain ⟨x, h1, h2⟩ := R.env j u h
      exact ⟨x, by rw [List.getElem?_set_ne e]; exact h1, h2⟩, by rw [List.length_set, List.length_set]; exact R.len, R.cs, R.fr, R.gg, R.xo⟩
instance cg_name {ct : Ct} {i : Nat} : CG ct (gName i) (dgName i) := ⟨fun B g σ H E C v w Q K R r k q => k _ _ ⟨g, _, C, Gk.refl _ _, R.set r i, q⟩⟩
def dgNil : DGs := fun ws E C Q => ws = [] ∧ Q E C
def dgCons (t : DG) (u : DGs) : List W → Ev → List Cell → (Ev → List Cell → Prop) → Prop
  | w :: r, E, C, Q => t w E C fun E' C' => u r E' C' Q
  | [], _, _, _ => False
instance cgs_nil {ct : Ct} : CGs ct gNil dgNil := ⟨fun B g σ H E C vs ws Q K R r k q => by
  obtain ⟨rfl, q⟩ := q
  cases r
  exact ⟨rfl, k _ _ ⟨g, E, C, Gk.refl _ _, R, q⟩⟩⟩
instance cgs_cons {ct : Ct} {t : TG} {u : TGs} {a : DG} {b : DGs} [ha : CG ct t a] [hb : CGs ct u b] : CGs ct (gCons t u) (dgCons a b) := ⟨fun B g σ H E C vs ws Q K R r k q => by
  cases r with
  | nil => exact q.elim
  | cons r rs =>
    refine ⟨_, _, rfl, ha.run B g σ H E C _ _ _ _ R r (fun σ' H' ⟨g', E', C', k', R', q'⟩ => ?_) q⟩
    exact hb.run B g' σ' H' E' C' _ _ _ _ R' (RWs.mono k' rs) (fun σ'' H'' ⟨g2, E2, C2, k2, R2, q2⟩ => k _ _ ⟨g2, E2, C2, k'.trans k2, R2, q2⟩) q'⟩
def dgTup (n : Nat) (t : DGs) : W → Ev → List Cell → (Ev → List Cell → Prop) → Prop
  | .val (.tuple ds), E, C, Q => ds.length = n ∧ t (ds.map .val) E C Q
  | _, _, _, _ => False
theorem rws_vals {ct : Cl} {g : Gh} {H : Hp} : ∀ {vs : List V} {ds : List D}, RDs ct g.F H vs ds → RWs ct g H vs (ds.map .val)
  | _, _, .nil => .nil
  | _, _, .cons h hs => .cons h (rws_vals hs)
instance cg_tup {ct : Ct} {K : PySem.W.Frag} {n : Nat} {t : TGs} {a : DGs} [h : CGs ct t a] : CG ct (gTup K n t) (dgTup n a) := ⟨fun B g σ H E C v w Q K' R r k q => by
  unfold dgTup at q
  split at q
  · obtain ⟨b, xs, rfl, h1, h2⟩ := rw_tup r
    exact ⟨b, xs, rfl, SqT.of h1, by rw [h2.length]; exact q.1, h.run B g σ H E C _ _ _ _ R (rws_vals h2) k q.2⟩
  · exact q.elim⟩
/-- xs[i] = v -/
def sub2K (E : Ev) (Q : Ev → List Cell → Prop) (k : Nat) (ds : List D) (d : D) : Option Nat → List Cell → Prop
  | some m, C => Q E (C.set k (.lst (ds.set m d)))
  | none, _ => False
def sub1K (E : Ev) (Q : Ev → List Cell → Prop) (k : Nat) (j : Int) (d : D) : Option Cell → List Cell → Prop
  | some (.lst ds), C => sub2K E Q k ds d (ixN ds.length j) C
  | _, _ => False
def subK (E : Ev) (Q : Ev → List Cell → Prop) : W → W → W → List Cell → Prop
  | .ref k, .val (.int j), .val d, C => sub1K E Q k j d C[k]? C
  | _, _, _, _ => False
def dgSub (o i : DE) : DG := fun w E C Q => o E C fun x C1 => i E C1 fun y C2 => subK E Q x y w C2
theorem cell_lst {ct : Cl} {g : Gh} {H : Hp} {C : List Cell} {k : Nat} {a : Addr} {ds : List D} (c : Clz ct g H C) (h : C[k]? = some (.lst ds)) (ha : g.as[k]? = some a) : ∃ xs, g.ms[k]? = some [a] ∧ H a = some (.lst xs) ∧ RDs ct g.F H xs ds ∧ CellAt ct g H a [a] (.lst ds) := by
  obtain ⟨a', m, q1, q2, q3⟩ := c.at_ k _ h
  rw [ha] at q1
  cases q1
  obtain ⟨e, xs, h1, h2⟩ := id q3
  subst e
  exact ⟨xs, q2, h1, h2, q3⟩
theorem Rel.write {ct : Ct} {B : Bs} {g : Gh} {σ : L2.St} {H : Hp} {E : Ev} {C : List Cell} {k : Nat} {a : Addr} {ds es : List D} {ys : List V} (R : Rel ct B g σ H E C) (h : C[k]? = some (.lst ds)) (ha : g.as[k]? = some a) (r : RDs ct g.F H ys es) :
    Gk g H g (upd H a (.lst ys)) ∧ Rel ct B g σ (upd H a (.lst ys)) E (C.set k (.lst es)) := by
  obtain ⟨xs, hm, h1, h2, h3⟩ := cell_lst R.cs h ha
  exact R.put h ha hm h3 (fun zs e => by rw [h1] at e; cases e) fun kk => ⟨rfl, ys, upd_same, RDs.mono kk.kp _ _ r⟩
theorem subK_ok {ct : Ct} {B : Bs} {g : Gh} {σ : L2.St} {H : Hp} {E : Ev} {C : List Cell} {Q : Ev → List Cell → Prop} {vx vy vw : V} {x y w : W} (R : Rel ct B g σ H E C) (rx : RW ct g H vx x) (ry : RW ct g H vy y) (rw_ : RW ct g H vw w) (q : subK E Q x y w C) {K : Hp → Prop}
    (k : ∀ C' H', Gk g H g H' → Rel ct B g σ H' E C' → Q E C' → K H') : rSetL vx vy vw H K := by
  unfold subK at q
  split at q
  · rename_i j m d
    obtain ⟨a, ha, rfl⟩ := rx
    cases rw_int ry
    unfold sub1K at q
    split at q
    · rename_i ds e
      unfold sub2K at q
      split at q
      · rename_i n e2
        obtain ⟨xs, hm, h1, h2, h3⟩ := cell_lst R.cs e ha
        obtain ⟨k3, R3⟩ := R.write e ha (h2.set n rw_)
        exact ⟨a, xs, m, n, rfl, rfl, h1, by rw [h2.length]; exact e2, k _ _ k3 R3 q⟩
      · exact q.elim
    · exact q.elim
  · exact q.elim
instance cg_sub {ct : Ct} {to ti : TE} {o i : DE} [ho : CE ct to o] [hi : CE ct ti i] : CG ct (gSub to ti rSetL) (dgSub o i) := ⟨fun B g σ H E C v w Q K R r k q => by
  refine ho.run B g σ H E C _ _ R (fun x H1 ⟨g1, C1, xw, k1, R1, r1, q1⟩ => ?_) q
  refine hi.run B g1 σ H1 E C1 _ _ R1 (fun y H2 ⟨g2, C2, yw, k2, R2, r2, q2⟩ => ?_) q1
  exact subK_ok R2 (r1.mono k2) r2 (r.mono (k1.trans k2)) q2 fun C' H' k3 R3 q3 => k _ _ ⟨g2, E, C', (k1.trans k2).trans k3, R3, q3⟩⟩
/-! ### methods of lists -/
abbrev FM := W → List W → List Cell → DK → Prop
class CM (ct : Ct) (r : V → List V → Hp → VK → Prop) (f : outParam FM) : Prop where
  run : ∀ B g σ H E C Q v vs w ws (K : VK), Rel ct B g σ H E C → (∀ v H', PostE ct B g H σ E Q v H' → K v H') → RW ct g H v w → RWs ct g H vs ws → f w ws C Q → r v vs H K
def dBM (f : FM) (o : DE) (a : DA) : DE := fun E C Q => o E C fun x C1 => (rdL C1 x).isSome = true ∧ a E C1 fun ws C2 => f x ws C2 Q
instance ce_bm {ct : Ct} {K : PySem.W.Frag} {r : V → List V → Hp → VK → Prop} {f : FM} {to : TE} {t : TA} {o : DE} {a : DA} [hr : CM ct r f] [ho : CE ct to o] [ha : CA ct t a] : CE ct (tBM K "list" r to t) (dBM f o a) := ⟨fun B g σ H E C Q K' R k q => by
  refine ho.run B g σ H E C _ _ R (fun x H1 ⟨g1, C1, xw, k1, R1, r1, q1⟩ => ?_) q
  obtain ⟨h1, q1⟩ := q1
  cases e : rdL C1 xw with
  | none =>
    rw [e] at h1
    cases h1
  | some ds =>
    obtain ⟨b, xs, rfl, h2, h3⟩ := rdL_ok R1.cs r1 e
    refine ⟨.inl ⟨rfl, xs, SqL.of h2⟩, ?_⟩
    refine ha.run B g1 σ H1 E C1 _ _ R1 (fun vs H2 ⟨g2, C2, ws, k2, R2, r2, q2⟩ => ?_) q1
    exact hr.run B g2 σ H2 E C2 Q _ vs xw ws K' R2 (fun v' H' p => k v' H' ((p.back k2).back k1)) (r1.mono k2) r2 q2⟩
def dBM0 (f : FM) (o : DE) : DE := fun E C Q => o E C fun x C1 => (rdL C1 x).isSome = true ∧ f x [] C1 Q
instance ce_bm0 {ct : Ct} {K : PySem.W.Frag} {r : V → List V → Hp → VK → Prop} {f : FM} {to : TE} {o : DE} [hr : CM ct r f] [ho : CE ct to o] : CE ct (tBM0 K "list" r to) (dBM0 f o) := ⟨fun B g σ H E C Q K' R k q => by
  refine ho.run B g σ H E C _ _ R (fun x H1 ⟨g1, C1, xw, k1, R1, r1, q1⟩ => ?_) q
  obtain ⟨h1, q1⟩ := q1
  cases e : rdL C1 xw with
  | none =>
    rw [e] at h1
    cases h1
  | some ds =>
    obtain ⟨b, xs, rfl, h2, h3⟩ := rdL_ok R1.cs r1 e
    exact ⟨.inl ⟨rfl, xs, SqL.of h2⟩, hr.run B g1 σ H1 E C1 Q _ [] xw [] K' R1 (fun v' H' p => k v' H' (p.back k1)) r1 .nil q1⟩⟩
def appK (k : Nat) (d : D) (Q : DK) : Option Cell → List Cell → Prop
  | some (.lst ds), C => ds.length < sizeLine ∧ Q (.val .none) (C.set k (.lst (ds ++ [d])))
  | _, _ => False
def fAppend : W → List W → List Cell → DK → Prop
  | .ref k, [.val d], C, Q => appK k d Q C[k]? C
  | _, _, _, _ => False
instance cm_append {ct : Ct} : CM ct rAppend fAppend := ⟨fun B g σ H E C Q v vs w ws K R kk r rs q => by
  unfold fAppend at q
  split at q
  · rename_i k d
    obtain ⟨a, ha, rfl⟩ := r
    obtain ⟨y, rfl, r1⟩ := rws1 rs
    unfold appK at q
    split at q
    · rename_i ds e
      obtain ⟨xs, hm, h1, h2, h3⟩ := cell_lst R.cs e ha
      obtain ⟨k3, R3⟩ := R.write e ha (h2.app (.cons r1 .nil))
      exact ⟨a, xs, y, rfl, rfl, h1, by rw [h2.length]; exact q.1, kk _ _ ⟨g, _, .val .none, k3, R3, RD.non, q.2⟩⟩
    · exact q.elim
  · exact q.elim⟩
def extK (k : Nat) (Q : DK) : Option Cell → Option (List D) → List Cell → Prop
  | some (.lst ds), some es, C => ds.length + es.length ≤ sizeLine ∧ Q (.val .none) (C.set k (.lst (ds ++ es)))
  | _, _, _ => False
def fExtend : W → List W → List Cell → DK → Prop
  | .ref k, [y], C, Q => extK k Q C[k]? (rdL C y) C
  | _, _, _, _ => False
instance cm_extend {ct : Ct} : CM ct rExtend fExtend := ⟨fun B g σ H E C Q v vs w ws K R kk r rs q => by
  unfold fExtend at q
  split at q
  · rename_i k yw
    obtain ⟨a, ha, rfl⟩ := r
    obtain ⟨y, rfl, r1⟩ := rws1 rs
    unfold extK at q
    split at q
    · rename_i ds es e e2
      obtain ⟨xs, hm, h1, h2, h3⟩ := cell_lst R.cs e ha
      obtain ⟨b, ys, rfl, h4, h5⟩ := rdL_ok R.cs r1 e2
      obtain ⟨k3, R3⟩ := R.write e ha (h2.app h5)
      exact ⟨a, b, xs, ys, rfl, rfl, h1, h4, by rw [h2.length, h5.length]; exact q.1, kk _ _ ⟨g, _, .val .none, k3, R3, RD.non, q.2⟩⟩
    · exact q.elim
  · exact q.elim⟩
def pop2K (k : Nat) (ds : List D) (Q : DK) : Option D → List Cell → Prop
  | some d, C => Q (.val d) (C.set k (.lst ds.dropLast))
  | none, _ => False
def popK (k : Nat) (Q : DK) : Option Cell → List Cell → Prop
  | some (.lst ds), C => pop2K k ds Q ds[ds.length - 1]? C
  | _, _ => False
def fPop : W → List W → List Cell → DK → Prop
  | .ref k, [], C, Q => popK k Q C[k]? C
  | _, _, _, _ => False
theorem RDs.dropLast {ct : Cl} {F : Addr → Prop} {H : Hp} {xs : List V} {ds : List D} (h : RDs ct F H xs ds) : RDs ct F H xs.dropLast ds.dropLast := by
  rw [List.dropLast_eq_take, List.dropLast_eq_take, h.length]
  exact h.take _
instance cm_pop {ct : Ct} : CM ct rPop fPop := ⟨fun B g σ H E C Q v vs w ws K R kk r rs q => by
  unfold fPop at q
  split at q
  · rename_i k
    obtain ⟨a, ha, rfl⟩ := r
    cases rs
    unfold popK at q
    split at q
    · rename_i ds e
      obtain ⟨xs, hm, h1, h2, h3⟩ := cell_lst R.cs e ha
      unfold pop2K at q
      split at q
      · rename_i d e2
        obtain ⟨y, hy, ry⟩ := h2.get _ d e2
        obtain ⟨k3, R3⟩ := R.write e ha h2.dropLast
        exact ⟨a, xs, y, rfl, rfl, h1, by rw [h2.length]; exact hy, kk _ _ ⟨g, _, .val d, k3, R3, RD.mono k3.kp _ _ ry, q⟩⟩
      · exact q.elim
    · exact q.elim
  · exact q.elim⟩
/-! ### statements -/
def dNext : DS := fun D E C => D.nx E C
def dSeqS (t u : DS) : DS := fun D E C => t { D with nx := u D } E C
instance cs_next {ct : Ct} : CS ct tNext dNext := ⟨fun B g σ H E C D DD R e q => e.nx σ H g E C (Gk.refl _ _) R q⟩
instance cs_seq {ct : Ct} {t u : TS} {a b : DS} [ha : CS ct t a] [hb : CS ct u b] : CS ct (tSeq t u) (dSeqS a b) := ⟨fun B g σ H E C D DD R e q => by
  refine ha.run B g σ H E C _ { DD with nx := b DD } R ⟨fun σ' H' g' E' C' k R' q' => hb.run B g' σ' H' E' C' _ DD R' (e.later k) q', e.rt, e.bk, e.ct⟩ q⟩
def dDrop (a : DE) : DS := fun D E C => a E C fun _ C1 => D.nx E C1
instance cs_drop {ct : Ct} {t : TE} {a : DE} [h : CE ct t a] : CS ct (tDrop t) (dDrop a) := ⟨fun B g σ H E C D DD R e q =>
  h.run B g σ H E C _ _ R (fun v H1 ⟨g1, C1, x, k1, R1, r1, q1⟩ => e.nx σ H1 g1 E C1 k1 R1 q1) q⟩
def dRet (a : DE) : DS := fun D E C => a E C D.rt
instance cs_ret {ct : Ct} {t : TE} {a : DE} [h : CE ct t a] : CS ct (tRet t) (dRet a) := ⟨fun B g σ H E C D DD R e q =>
  h.run B g σ H E C _ _ R (fun v H1 ⟨g1, C1, x, k1, R1, r1, q1⟩ => e.rt v σ H1 g1 E C1 x k1 R1 r1 q1) q⟩
def dRetN : DS := fun D _ C => D.rt (.val .none) C
instance cs_retN {ct : Ct} : CS ct tRetN dRetN := ⟨fun B g σ H E C D DD R e q => e.rt .non σ H g E C (.val .none) (Gk.refl _ _) R RD.non q⟩
def dIfS (c : DT) (a b : DS) : DS := fun D E C => c E C fun k C1 => if k = true then a D E C1 else b D E C1
instance cs_if {ct : Ct} {tc : TT} {t u : TS} {c : DT} {a b : DS} [hc : CT ct tc c] [ha : CS ct t a] [hb : CS ct u b] : CS ct (tIfS tc t u) (dIfS c a b) := ⟨fun B g σ H E C D DD R e q => by
  refine hc.run B g σ H E C _ _ R (fun k H1 ⟨g1, C1, k1, R1, q1⟩ => ?_) q
  cases k with
  | true => exact iteT (ha.run B g1 σ H1 E C1 _ _ R1 (e.later k1) q1)
  | false => exact iteF (hb.run B g1 σ H1 E C1 _ _ R1 (e.later k1) q1)⟩
def dBreak : DS := fun D E C => D.bk E C
instance cs_break {ct : Ct} : CS ct tBreak dBreak := ⟨fun B g σ H E C D DD R e q => e.bk σ H g E C (Gk.refl _ _) R q⟩
def dAsg (a : DE) (h : DG) : DS := fun D E C => a E C fun x C1 => h x E C1 D.nx
instance cs_asg {ct : Ct} {t : TE} {gt : TG} {a : DE} {h : DG} [ha : CE ct t a] [hg : CG ct gt h] : CS ct (tAsg t gt) (dAsg a h) := ⟨fun B g σ H E C D DD R e q => by
  refine ha.run B g σ H E C _ _ R (fun v H1 ⟨g1, C1, x, k1, R1, r1, q1⟩ => ?_) q
  exact hg.run B g1 σ H1 E C1 v x _ _ R1 r1 (fun σ' H' ⟨g', E', C', k', R', q'⟩ => e.nx σ' H' g' E' C' (k1.trans k') R' q') q1⟩
/-- while, by an invariant with a measure -/
def dWhile (c : DT) (b : DS) : DS := fun D E C => ∃ I : Nat → Ev → List Cell → Prop, (∃ m, I m E C) ∧ ∀ m E C, I m E C →
  c E C fun k C1 => if k = true then b { D with nx := fun E C => ∃ m', m' < m ∧ I m' E C, ct := fun E C => ∃ m', m' < m ∧ I m' E C, bk := D.nx } E C1 else D.nx E C1
instance cs_while {ct : Ct} {tc : TT} {tb : TS} {c : DT} {b : DS} [hc : CT ct tc c] [hb : CS ct tb b] : CS ct (tWhile tc tb) (dWhile c b) := ⟨fun B g σ H E C D DD R e q => by
  obtain ⟨I, ⟨m0, i0⟩, turn⟩ := q
  refine ⟨fun m σ' H' => ∃ g' E' C', Gk g H g' H' ∧ Rel ct B g' σ' H' E' C' ∧ I m E' C', ⟨m0, g, E, C, Gk.refl _ _, R, i0⟩, ?_⟩
  rintro m σ1 H1 ⟨g1, E1, C1, k1, R1, i1⟩
  refine hc.run B g1 σ1 H1 E1 C1 _ _ R1 (fun k H2 ⟨g2, C2, k2, R2, q2⟩ => ?_) (turn m E1 C1 i1)
  cases k with
  | false => exact iteF (e.nx σ1 H2 g2 E1 C2 (k1.trans k2) R2 q2)
  | true =>
    refine iteT ⟨fun σ' H' => ∃ m', m' < m ∧ ∃ g' E' C', Gk g H g' H' ∧ Rel ct B g' σ' H' E' C' ∧ I m' E' C', fun σ' H' h => h, ?_⟩
    have e2 := e.later (k1.trans k2)
    refine hb.run B g2 σ1 H2 E1 C2 _ { DD with nx := fun E C => ∃ m', m' < m ∧ I m' E C, ct := fun E C => ∃ m', m' < m ∧ I m' E C, bk := DD.nx } R2 ⟨?_, e2.rt, e2.nx, ?_⟩ q2
    · rintro σ' H' g' E' C' k' R' ⟨m', h1, h2⟩
      exact ⟨m', h1, g', E', C', (k1.trans k2).trans k', R', h2⟩
    · rintro σ' H' g' E' C' k' R' ⟨m', h1, h2⟩
      exact ⟨m', h1, g', E', C', (k1.trans k2).trans k', R', h2⟩⟩
/-- for, over the data -/
def dForGo (h : DG) (b : DS) (D : DEnds) : List PyData → Ev → List Cell → Prop
  | [], E, C => D.nx E C
  | x :: xs, E, C => h (.val x) E C fun E2 C2 => b { D with nx := dForGo h b D xs, ct := dForGo h b D xs, bk := D.nx } E2 C2
def dFor (it : DI) (h : DG) (b : DS) : DS := fun D E C => it E C fun ds C1 => dForGo h b D ds E C1
theorem Rel.step {ct : Ct} {B : Bs} {g : Gh} {σ : L2.St} {H H' : Hp} {E : Ev} {C : List Cell} (R : Rel ct B g σ H E C) (h : H' = H ∨ ∃ T xs, H T = none ∧ H' = upd H T (.tup xs)) : ∃ g', Gk g H g' H' ∧ Rel ct B g' σ H' E C := by
  rcases h with rfl | ⟨T, xs, hT, rfl⟩
  · exact ⟨g, Gk.refl _ _, R⟩
  · exact ⟨_, R.new false hT⟩
instance cs_for {ct : Ct} {wi : TI} {gt : TG} {tb : TS} {it : DI} {h : DG} {b : DS} [hi : CI ct wi it] [hg : CG ct gt h] [hb : CS ct tb b] : CS ct (tFor wi gt tb) (dFor it h b) := ⟨fun B g σ H E C D DD R e q => by
  refine hi.run B g σ H E C _ _ R (fun J H1 g1 C1 ds k1 R1 ok q1 => ?_) q
  refine ⟨fun i m σ' H' => m = ds.length - i ∧ i ≤ ds.length ∧ ∃ g' E' C', Gk g1 H1 g' H' ∧ Rel ct B g' σ' H' E' C' ∧ dForGo h b DD (ds.drop i) E' C', ⟨ds.length, by simp, Nat.zero_le _, g1, E, C1, Gk.refl _ _, R1, q1⟩, ?_⟩
  rintro i m σ2 H2 ⟨rfl, hle, g2, E2, C2, k2, R2, q2⟩
  by_cases hlt : i < ds.length
  · refine .inr ⟨ok.go g2 H2 k2 i hlt, fun σ' H' => ds.length - (i + 1) = ds.length - (i + 1) ∧ i + 1 ≤ ds.length ∧ ∃ g' E' C', Gk g1 H1 g' H' ∧ Rel ct B g' σ' H' E' C' ∧ dForGo h b DD (ds.drop (i + 1)) E' C', fun σ' H' p => ⟨ds.length - (i + 1), by omega, p⟩, fun x H3 y => ?_⟩
    obtain ⟨h1, h2⟩ := ok.yld g2 H2 k2 i x H3 ds[i] (List.getElem?_eq_getElem hlt) y
    obtain ⟨g3, k3, R3⟩ := R2.step h1
    have q3 : dForGo h b DD (ds[i] :: ds.drop (i + 1)) E2 C2 := by
      rw [← List.drop_eq_getElem_cons hlt]
      exact q2
    refine hg.run B g3 σ2 H3 E2 C2 x (.val ds[i]) _ _ R3 (h2 g3 k3) (fun σ' H' ⟨g4, E4, C4, k4, R4, q4⟩ => ?_) q3
    have kk := (k2.trans k3).trans k4
    have e2 := e.later (k1.trans kk)
    refine hb.run B g4 σ' H' E4 C4 _ { DD with nx := dForGo h b DD (ds.drop (i + 1)), ct := dForGo h b DD (ds.drop (i + 1)), bk := DD.nx } R4 ⟨?_, e2.rt, e2.nx, ?_⟩ q4
    · exact fun σ' H' g' E' C' k' R' q' => ⟨rfl, hlt, g', E', C', kk.trans k', R', q'⟩
    · exact fun σ' H' g' E' C' k' R' q' => ⟨rfl, hlt, g', E', C', kk.trans k', R', q'⟩
  · have hi2 : i = ds.length := by omega
    subst hi2
    rw [List.drop_length] at q2
    exact .inl ⟨ok.stop g2 H2 k2, e.nx σ2 H2 g2 E2 C2 (k1.trans k2) R2 q2⟩⟩
end RR

namespace RR
open PySem PySem.Spec PyProof.Rows L2
/-! ### a list beside the cells -/
structure Side (B : Bs) (g : Gh) (H : Hp) (A : Addr) (xs : List V) : Prop where
  at_ : H A = some (.lst xs)
  nf : ¬ g.F A
  nm : A ∉ g.ms.flatten
  nb : B.H A = none ∨ A ∈ B.M
section
variable {ct : Ct} {B : Bs} {g g' : Gh} {σ : L2.St} {H H' : Hp} {E : Ev} {C C' : List Cell} {A : Addr} {xs ys : List V} {ds : List D}
theorem Clz.ne {ct : Cl} (c : Clz ct g H C) (nf : ¬ g.F A) (nm : A ∉ g.ms.flatten) {k : Nat} {x : Cell} {a : Addr} {m : List Addr} (hm : g.ms[k]? = some m) (h : CellAt ct g H a m x) : a ≠ A ∨ x = .nil := by
  cases x with
  | lst ds =>
    obtain ⟨e, _⟩ := h
    subst e
    exact .inl fun e => nm (mem_flat hm (by rw [e]; exact List.mem_singleton.mpr rfl))
  | frz ds =>
    obtain ⟨_, f, _⟩ := h
    exact .inl fun e => nf (by rw [← e]; exact f)
  | obj c ws =>
    obtain ⟨e, _⟩ := h
    subst e
    exact .inl fun e => nm (mem_flat hm (by rw [e]; exact List.mem_singleton.mpr rfl))
  | nil => exact .inr rfl
/-- it is written -/
theorem Rel.side (R : Rel ct B g σ H E C) (s : Side B g H A xs) : Gk g H g (upd H A (.lst ys)) ∧ Rel ct B g σ (upd H A (.lst ys)) E C ∧ Side B g (upd H A (.lst ys)) A ys := by
  have kk : Gk g H g (upd H A (.lst ys)) := ⟨⟨fun a zs h => by
    rw [upd_ne (fun e => by rw [e, s.at_] at h; cases h)]
    exact h, fun a h => ⟨h, upd_ne fun e => s.nf (by rw [← e]; exact h)⟩⟩, fun _ _ h => h⟩
  refine ⟨kk, R.gk kk ⟨R.cs.la, R.cs.lm, fun k x h => ?_, R.cs.nd, R.cs.ap, fun a h => ?_⟩ ⟨fun a zs h => kk.kp.1 a zs (R.fr.kt a zs h), fun a o h hm => ?_, R.fr.newF, R.fr.newM⟩, ⟨upd_same, s.nf, s.nm, s.nb⟩⟩
  · obtain ⟨a, m, h1, h2, h3⟩ := R.cs.at_ k x h
    refine ⟨a, m, h1, h2, h3.keep kk ?_⟩
    rcases R.cs.ne s.nf s.nm h2 h3 with q | q
    · exact .inl (upd_ne q)
    · exact .inr q
  · rw [(kk.kp.2 a h).2]
    exact R.cs.lv a h
  · by_cases e : a = A
    · rcases s.nb with q | q
      · rw [e, q] at h
        cases h
      · exact absurd (by rw [e]; exact q) hm
    · rw [upd_ne e]
      exact R.fr.keep a o h hm
/-- it is frozen -/
theorem Rel.adopt (R : Rel ct B g σ H E C) (s : Side B g H A xs) (r : RDs ct g.F H xs ds) : Gk g H (g.fz true A) H ∧ Rel ct B (g.fz true A) σ H E C ∧ RD ct (g.fz true A).F H (.ref A) (.list ds) := by
  have kk : Gk g H (g.fz true A) H := ⟨⟨fun _ _ h => h, fun a h => ⟨.inl h, rfl⟩⟩, fun _ _ h => h⟩
  refine ⟨kk, R.gk kk ⟨R.cs.la, R.cs.lm, fun k x h => ?_, R.cs.nd, fun a ha h => ?_, fun a h => ?_⟩ ⟨R.fr.kt, R.fr.keep, fun a h => ?_, R.fr.newM⟩, .lst (.inr ⟨rfl, rfl⟩) s.at_ (RDs.mono kk.kp _ _ r)⟩
  · obtain ⟨a, m, h1, h2, h3⟩ := R.cs.at_ k x h
    exact ⟨a, m, h1, h2, h3.keep kk (.inl rfl)⟩
  · rcases h with h | ⟨_, h⟩
    · exact R.cs.ap a ha h
    · exact s.nm (by rw [← h]; exact ha)
  · rcases h with h | ⟨_, h⟩
    · exact R.cs.lv a h
    · rw [h, s.at_]
      exact fun z => nomatch z
  · rcases h with h | ⟨_, h⟩
    · exact R.fr.newF a h
    · rw [h]
      exact .inr s.nb
/-- it becomes a cell -/
theorem Rel.adoptC (R : Rel ct B g σ H E C) (s : Side B g H A xs) (r : RDs ct g.F H xs ds) : Gk g H (g.ad A) H ∧ Rel ct B (g.ad A) σ H E (C ++ [.lst ds]) ∧ (g.ad A).as[C.length]? = some A := by
  have kk : Gk g H (g.ad A) H := ⟨⟨fun _ _ h => h, fun a h => ⟨h, rfl⟩⟩, fun k a h => by
    show (g.as ++ [A])[k]? = some a
    rw [List.getElem?_append_left (List.getElem?_eq_some_iff.mp h).1]
    exact h⟩
  have fl : (g.ad A).ms.flatten = g.ms.flatten ++ [A] := by
    show (g.ms ++ [[A]]).flatten = _
    rw [List.flatten_append]
    rfl
  have hl : (g.ad A).as[C.length]? = some A := by
    show (g.as ++ [A])[C.length]? = some A
    rw [← R.cs.la]
    exact List.getElem?_concat_length
  refine ⟨kk, R.gk kk ⟨?_, ?_, fun j x h => ?_, ?_, fun a ha h => ?_, fun a h => R.cs.lv a h⟩ ⟨R.fr.kt, R.fr.keep, R.fr.newF, fun a ha => ?_⟩, hl⟩
  · show (g.as ++ [A]).length = _
    rw [List.length_append, List.length_append, R.cs.la]
    rfl
  · show (g.ms ++ [[A]]).length = _
    rw [List.length_append, List.length_append, R.cs.lm]
    rfl
  · by_cases hj : j < C.length
    · rw [List.getElem?_append_left hj] at h
      obtain ⟨a, m, h1, h2, h3⟩ := R.cs.at_ j x h
      refine ⟨a, m, kk.as _ _ h1, ?_, h3.keep kk (.inl rfl)⟩
      show (g.ms ++ [[A]])[j]? = some m
      rw [List.getElem?_append_left (List.getElem?_eq_some_iff.mp h2).1]
      exact h2
    · have hj2 : j < (C ++ [Cell.lst ds]).length := (List.getElem?_eq_some_iff.mp h).1
      rw [List.length_append] at hj2
      have e : j = C.length := by simp at hj2; omega
      subst e
      rw [List.getElem?_concat_length] at h
      cases h
      refine ⟨A, [A], hl, ?_, rfl, xs, s.at_, RDs.mono kk.kp _ _ r⟩
      show (g.ms ++ [[A]])[C.length]? = some [A]
      rw [← R.cs.lm]
      exact List.getElem?_concat_length
  · rw [fl, List.nodup_append]
    refine ⟨R.cs.nd, by simp, fun a ha b hb e => ?_⟩
    have e2 : b = A := by simpa using hb
    exact s.nm (by rw [← e2, ← e]; exact ha)
  · rw [fl, List.mem_append] at ha
    rcases ha with ha | ha
    · exact R.cs.ap a ha h
    · have e2 : a = A := by simpa using ha
      exact s.nf (by rw [← e2]; exact h)
  · rw [fl, List.mem_append] at ha
    rcases ha with ha | ha
    · exact R.fr.newM a ha
    · have e2 : a = A := by simpa using ha
      rw [e2]
      exact s.nb.symm
/-- something new is laid beside -/
theorem Rel.newSide {p : Addr} {xs : List V} (R : Rel ct B g σ H E C) (hp : H p = none) : Gk g H (g.fz false p) (upd H p (.lst xs)) ∧ Rel ct B (g.fz false p) σ (upd H p (.lst xs)) E C ∧ Side B (g.fz false p) (upd H p (.lst xs)) p xs := by
  obtain ⟨k, R'⟩ := R.new (o := .lst xs) false hp
  refine ⟨k, R', upd_same, fun h => ?_, fun h => R.cs.mutSome p h hp, R.fr.fresh hp⟩
  rcases h with h | ⟨h, _⟩
  · exact R.cs.lv p h hp
  · cases h
end
/-! ### what makes a list -/
abbrev DFl := Ev → List Cell → (List D → List Cell → Prop) → Prop
def PostF (ct : Ct) (B : Bs) (g : Gh) (H : Hp) (σ : L2.St) (E : Ev) (Q : List D → List Cell → Prop) : VK := fun v H' => ∃ g' C' ds xs A, Gk g H g' H' ∧ Rel ct B g' σ H' E C' ∧ v = .ref A ∧ Side B g' H' A xs ∧ RDs ct g'.F H' xs ds ∧ Q ds C'
class CF (ct : Ct) (tt : TE) (t : outParam DFl) : Prop where
  run : ∀ B g σ H E C Q (K : VK), Rel ct B g σ H E C → (∀ v H', PostF ct B g H σ E Q v H' → K v H') → t E C Q → tt σ H K
/-- .. is frozen at once -/
theorem CF.val {ct : Ct} {tt : TE} {t : DFl} (h : CF ct tt t) : CE ct tt (fun E C Q => t E C fun ds C1 => Q (.val (.list ds)) C1) := ⟨fun B g σ H E C Q K R k q => by
  refine h.run B g σ H E C _ _ R (fun v H1 ⟨g1, C1, ds, xs, A, k1, R1, e, s, r, q1⟩ => ?_) q
  subst e
  obtain ⟨k2, R2, r2⟩ := R1.adopt s r
  exact k _ _ ⟨_, C1, .val (.list ds), k1.trans k2, R2, r2, q1⟩⟩
/-- .. or is a cell, in slot i -/
def tAsgC (te : TE) (i : Nat) : TS := tAsg te (gName i)
def dAsgC (t : DFl) (i : Nat) : DS := fun D E C => t E C fun ds C1 => D.nx (E.set i (some (.ref C1.length))) (C1 ++ [.lst ds])
instance cs_asgC {ct : Ct} {te : TE} {t : DFl} {i : Nat} [h : CF ct te t] : CS ct (tAsgC te i) (dAsgC t i) := ⟨fun B g σ H E C D DD R e q => by
  refine h.run B g σ H E C _ _ R (fun v H1 ⟨g1, C1, ds, xs, A, k1, R1, ev, s, r, q1⟩ => ?_) q
  subst ev
  obtain ⟨k2, R2, h2⟩ := R1.adoptC s r
  exact e.nx _ _ _ _ _ (k1.trans k2) (R2.set (w := .ref C1.length) ⟨A, h2, rfl⟩ i) q1⟩
def lstFK (Q : List D → List Cell → Prop) : Option (List D) → List Cell → Prop
  | some ds, C1 => ds.length ≤ sizeLine ∧ Q ds C1
  | none, _ => False
def dLstF (a : DA) : DFl := fun E C Q => a E C fun ws C1 => lstFK Q (vals ws) C1
instance cf_lst {ct : Ct} {t : TA} {a : DA} [h : CA ct t a] : CF ct (tLst t) (dLstF a) := ⟨fun B g σ H E C Q K R k q => by
  refine h.run B g σ H E C _ _ R (fun vs H1 ⟨g1, C1, ws, k1, R1, r1, q1⟩ => ?_) q
  unfold lstFK at q1
  dsimp only at q1
  split at q1
  · rename_i ds e
    have hd := vals_ok r1 e
    refine ⟨by rw [hd.length]; exact q1.1, fun p hp => ?_⟩
    obtain ⟨k2, R2, s2⟩ := R1.newSide (xs := vs) hp
    exact k _ _ ⟨_, _, ds, vs, p, k1.trans k2, R2, rfl, s2, RDs.mono k2.kp _ _ hd, q1.2⟩
  · exact q1.elim⟩
def lisF2K (Q : List D → List Cell → Prop) : Option (List D) → List Cell → Prop
  | some ds, C1 => Q ds C1
  | none, _ => False
def lisFK (Q : List D → List Cell → Prop) : List W → List Cell → Prop
  | [x], C1 => lisF2K Q (rdS C1 x) C1
  | _, _ => False
def dListF (a : DA) : DFl := fun E C Q => a E C (lisFK Q)
instance cf_list {ct : Ct} {K : PySem.W.Frag} {t : TA} {a : DA} [h : CA ct t a] : CF ct (tCB (rListA K) t) (dListF a) := ⟨fun B g σ H E C Q K' R k q => by
  refine h.run B g σ H E C _ _ R (fun vs H1 ⟨g1, C1, ws, k1, R1, r1, q1⟩ => ?_) q
  unfold lisFK at q1
  split at q1
  · obtain ⟨v, rfl, r2⟩ := rws1 r1
    unfold lisF2K at q1
    split at q1
    · rename_i ds e
      obtain ⟨a, xs, rfl, h1, h2⟩ := rdS_ok (K := K) R1.cs r2 e
      refine ⟨a, xs, rfl, h1, fun p hp => ?_⟩
      obtain ⟨k2, R2, s2⟩ := R1.newSide (xs := xs) hp
      exact k _ _ ⟨_, _, ds, xs, p, k1.trans k2, R2, rfl, s2, RDs.mono k2.kp _ _ h2, q1⟩
    · exact q1.elim
  · exact q1.elim⟩
/-! ### comprehensions -/
theorem wipe_get (σ : L2.St) : ∀ (vs : List Nat) (j : Nat), (wipe σ vs)[j]? = if j ∈ vs then (σ[j]?.map fun _ => none) else σ[j]?
  | [], j => by simp [wipe]
  | v :: vs, j => by
    have ih := wipe_get σ vs j
    show ((wipe σ vs).set v none)[j]? = _
    by_cases e : v = j
    · subst e
      rw [if_pos List.mem_cons_self]
      by_cases hv : v < σ.length
      · rw [List.getElem?_set_self (by rw [wipe_length]; exact hv), List.getElem?_eq_getElem hv]
        rfl
      · rw [List.getElem?_eq_none (by rw [List.length_set, wipe_length]; omega), List.getElem?_eq_none (by omega)]
        rfl
    · rw [List.getElem?_set_ne e, ih]
      have h : (j ∈ v :: vs) ↔ j ∈ vs := by
        rw [List.mem_cons]
        exact ⟨fun h => h.resolve_left fun z => e z.symm, .inr⟩
      simp only [h]
theorem wipe_ext {σ τ : L2.St} {vs : List Nat} (h : ∀ j, j ∉ vs → σ[j]? = τ[j]?) (hl : σ.length = τ.length) : wipe σ vs = wipe τ vs := by
  apply List.ext_getElem?
  intro j
  rw [wipe_get, wipe_get]
  by_cases e : j ∈ vs
  · rw [if_pos e, if_pos e]
    by_cases hj : j < σ.length
    · rw [List.getElem?_eq_getElem hj, List.getElem?_eq_getElem (by rw [← hl]; exact hj)]
      rfl
    · rw [List.getElem?_eq_none (by omega), List.getElem?_eq_none (by omega)]
  · rw [if_neg e, if_neg e]
    exact h j e
/-- the target stores into these slots alone -/
class GW (gt : TG) (sl : outParam (List Nat)) : Prop where
  run : ∀ v σ H (K K' : L2.St → Hp → Prop), gt v σ H K → (∀ σ2 H2, K σ2 H2 → σ2.length = σ.length → (∀ j, j ∉ sl → σ2[j]? = σ[j]?) → K' σ2 H2) → gt v σ H K'
class GWs (gt : TGs) (sl : outParam (List Nat)) : Prop where
  run : ∀ vs σ H (K K' : L2.St → Hp → Prop), gt vs σ H K → (∀ σ2 H2, K σ2 H2 → σ2.length = σ.length → (∀ j, j ∉ sl → σ2[j]? = σ[j]?) → K' σ2 H2) → gt vs σ H K'
instance gw_name {i : Nat} : GW (gName i) [i] := ⟨fun v σ H K K' h k => k _ _ h (by rw [List.length_set]) fun j hj => List.getElem?_set_ne fun e => hj (by rw [e]; exact List.mem_singleton.mpr rfl)⟩
instance gw_nil : GWs gNil [] := ⟨fun vs σ H K K' h k => ⟨h.1, k _ _ h.2 rfl fun _ _ => rfl⟩⟩
instance gw_cons {i : Nat} {u : TGs} {sl : List Nat} [hu : GWs u sl] : GWs (gCons (gName i) u) (i :: sl) := ⟨fun vs σ H K K' ⟨v, r, e, h⟩ k => by
  refine ⟨v, r, e, hu.run _ _ _ _ _ h fun σ2 H2 p l n => k _ _ p (by rw [l, List.length_set]) fun j hj => ?_⟩
  rw [n j fun z => hj (List.mem_cons_of_mem _ z)]
  exact List.getElem?_set_ne fun e => hj (by rw [e]; exact List.mem_cons_self)⟩
instance gw_tup {K : PySem.W.Frag} {n : Nat} {t : TGs} {sl : List Nat} [h : GWs t sl] : GW (gTup K n t) sl := ⟨fun v σ H K1 K' ⟨a, xs, e, h1, h2, h3⟩ k => ⟨a, xs, e, h1, h2, h.run _ _ _ _ _ h3 k⟩⟩
def wipeE (E : Ev) : List Nat → Ev
  | [] => E
  | v :: vs => (wipeE E vs).set v none
theorem wipeE_some {E : Ev} {i : Nat} {x : W} : ∀ {vs : List Nat}, (wipeE E vs)[i]? = some (some x) → E[i]? = some (some x) ∧ i ∉ vs
  | [], h => ⟨h, by simp⟩
  | v :: vs, h => by
    unfold wipeE at h
    by_cases hi : v = i
    · subst hi
      by_cases hv : v < (wipeE E vs).length
      · rw [List.getElem?_set_self hv] at h
        cases h
      · rw [List.getElem?_eq_none (by simpa using hv)] at h
        cases h
    · rw [List.getElem?_set_ne hi] at h
      obtain ⟨h1, h2⟩ := wipeE_some h
      exact ⟨h1, by simp only [List.mem_cons, not_or]; exact ⟨fun e => hi e.symm, h2⟩⟩
theorem wipeE_length (E : Ev) : ∀ vs : List Nat, (wipeE E vs).length = E.length
  | [] => rfl
  | v :: vs => by unfold wipeE; rw [List.length_set, wipeE_length E vs]
theorem Rel.wipe {ct : Ct} {B : Bs} {g : Gh} {σ : L2.St} {H : Hp} {E : Ev} {C : List Cell} (R : Rel ct B g σ H E C) (vs : List Nat) : Rel ct B g (L2.wipe σ vs) H (wipeE E vs) C :=
  ⟨fun i w h => by
    obtain ⟨h1, h2⟩ := wipeE_some h
    obtain ⟨v, h3, h4⟩ := R.env i w h1
    exact ⟨v, by rw [wipe_get, if_neg h2]; exact h3, h4⟩, by rw [wipe_length, wipeE_length]; exact R.len, R.cs, R.fr, R.gg, R.xo⟩
def dYes : DT := fun _ C Q => Q true C
instance ct_yes {ct : Ct} : CT ct tYes dYes := ⟨fun B g σ H E C Q K R k q => k _ _ ⟨g, C, Gk.refl _ _, R, q⟩⟩
def accK (n : Nat) (N : D → List Cell → Prop) : W → List Cell → Prop
  | .val d, C => n < sizeLine ∧ N d C
  | _, _ => False
def dVal (t : DFl) (E : Ev) (C : List Cell) (Q : DK) : Prop := t E C fun ds C1 => Q (.val (.list ds)) C1
def dLcGo (h : DG) (tt : DT) (te : DE) (E : Ev) : List D → List D → List Cell → (List D → List Cell → Prop) → Prop
  | [], acc, C, Q => Q acc C
  | x :: xs, acc, C, Q => h (.val x) E C fun E2 C1 => tt E2 C1 fun b C2 => if b = true then te E2 C2 (accK acc.length fun d C3 => dLcGo h tt te E xs (acc ++ [d]) C3 Q) else dLcGo h tt te E xs acc C2 Q
def dLc (it : DI) (h : DG) (tt : DT) (te : DE) (sl vs : List Nat) : DFl := fun E C Q => (sl.all fun i => vs.contains i) = true ∧ it E C fun ds C1 => dLcGo h tt te (wipeE E vs) ds [] C1 Q
theorem Rel.step2 {ct : Ct} {B : Bs} {g : Gh} {σ : L2.St} {H H' : Hp} {E : Ev} {C : List Cell} {A : Addr} {xs : List V} (R : Rel ct B g σ H E C) (s : Side B g H A xs) (h : H' = H ∨ ∃ T xs, H T = none ∧ H' = upd H T (.tup xs)) :
    ∃ g', Gk g H g' H' ∧ Rel ct B g' σ H' E C ∧ Side B g' H' A xs := by
  rcases h with rfl | ⟨T, ys, hT, rfl⟩
  · exact ⟨g, Gk.refl _ _, R, s⟩
  · obtain ⟨k, R'⟩ := R.new (o := .tup ys) false hT
    refine ⟨_, k, R', ?_, fun h => ?_, s.nm, s.nb⟩
    · rw [upd_ne (ne_of_none s.at_ hT)]
      exact s.at_
    · rcases h with h | ⟨h, _⟩
      · exact s.nf h
      · cases h
theorem Side.later {B : Bs} {g g' : Gh} {H H' : Hp} {A : Addr} {xs : List V} (s : Side B g H A xs) (f : Fr0 (Bs.of g H) g' H') : Side B g' H' A xs := by
  refine ⟨f.keep A _ s.at_ s.nm, fun h => ?_, fun h => ?_, s.nb⟩
  · rcases f.newF A h with q | q | q
    · exact s.nf q
    · rw [show (Bs.of g H).H A = H A from rfl, s.at_] at q
      cases q
    · exact s.nm q
  · rcases f.newM A h with q | q
    · exact s.nm q
    · rw [show (Bs.of g H).H A = H A from rfl, s.at_] at q
      cases q
instance cf_lc {ct : Ct} {wi : TI} {gt : TG} {t1 : TT} {te : TE} {vs sl : List Nat} {it : DI} {h : DG} {dt : DT} {de : DE} [hi : CI ct wi it] [hg : CG ct gt h] [hw : GW gt sl] [ht : CT ct t1 dt] [he : CE ct te de] : CF ct (tLc wi gt t1 te vs) (dLc it h dt de sl vs) := ⟨fun B g σ H E C Q K R k q => by
  obtain ⟨hsl, q⟩ := q
  refine hi.run B g σ H E C _ _ R (fun J H1 g1 C1 ds k1 R1 ok q1 => ?_) q
  intro A hA
  have hsl2 : ∀ j, j ∉ vs → j ∉ sl := fun j hj hm => hj (by
    have := List.all_eq_true.mp hsl j hm
    simpa using this)
  obtain ⟨k0, R0, s0⟩ := R1.newSide (xs := []) hA
  refine ⟨fun i m H2 => m = ds.length - i ∧ i ≤ ds.length ∧ ∃ g2 C2 xs acc, Gk g1 H1 g2 H2 ∧ Rel ct B g2 σ H2 E C2 ∧ Side B g2 H2 A xs ∧ RDs ct g2.F H2 xs acc ∧ dLcGo h dt de (wipeE E vs) (ds.drop i) acc C2 Q, ⟨ds.length, by simp, Nat.zero_le _, _, C1, [], [], k0, R0, s0, .nil, q1⟩, ?_⟩
  rintro i m H2 ⟨rfl, hle, g2, C2, xs, acc, k2, R2, s2, r2, q2⟩
  by_cases hlt : i < ds.length
  · refine .inr ⟨ok.go g2 H2 k2 i hlt, fun H' => ds.length - (i + 1) = ds.length - (i + 1) ∧ i + 1 ≤ ds.length ∧ ∃ g2 C2 xs acc, Gk g1 H1 g2 H' ∧ Rel ct B g2 σ H' E C2 ∧ Side B g2 H' A xs ∧ RDs ct g2.F H' xs acc ∧ dLcGo h dt de (wipeE E vs) (ds.drop (i + 1)) acc C2 Q, fun H' p => ⟨ds.length - (i + 1), by omega, p⟩, fun x H3 y => ?_⟩
    obtain ⟨h1, h2⟩ := ok.yld g2 H2 k2 i x H3 ds[i] (List.getElem?_eq_getElem hlt) y
    obtain ⟨g3, k3, R3, s3⟩ := R2.step2 s2 h1
    have q3 : dLcGo h dt de (wipeE E vs) (ds[i] :: ds.drop (i + 1)) acc C2 Q := by
      rw [← List.drop_eq_getElem_cons hlt]
      exact q2
    have r3 := RDs.mono k3.kp _ _ r2
    refine hw.run _ _ _ (PostG ct (Bs.of g3 H3) g3 H3 _) _ (hg.run (Bs.of g3 H3) g3 (L2.wipe σ vs) H3 (wipeE E vs) C2 x (.val ds[i]) _ _ ((R3.wipe vs).self) (h2 g3 k3) (fun _ _ p => p) q3) ?_
    rintro σ2 H4 ⟨g4, E4, C4, k4, R4, q4⟩ hl hn
    refine ⟨?_, ?_⟩
    · rw [wipe_ext (σ := σ2) (τ := L2.wipe σ vs) (fun j hj => hn j (hsl2 j hj)) hl]
      exact wipe_ext (fun j hj => by rw [wipe_get, if_neg hj]) (wipe_length σ vs)
    refine ht.run _ g4 σ2 H4 E4 C4 _ _ R4 (fun b H5 ⟨g5, C5, k5, R5, q5⟩ => ?_) q4
    have k35 := k4.trans k5
    cases b with
    | false =>
      refine iteF ⟨rfl, hlt, g5, C5, xs, acc, (k2.trans k3).trans k35, R3.gk k35 R5.cs (R3.fr.comp R5.fr), s3.later R5.fr, RDs.mono k35.kp _ _ r3, q5⟩
    | true =>
      refine iteT (he.run _ g5 σ2 H5 E4 C5 _ _ R5 (fun v H6 ⟨g6, C6, w, k6, R6, r6, q6⟩ => ?_) q5)
      have k36 := k35.trans k6
      have s6 := s3.later R6.fr
      unfold accK at q6
      split at q6
      · rename_i d
        obtain ⟨hz, q7⟩ := q6
        have r36 := RDs.mono k36.kp _ _ r3
        refine ⟨xs, s6.at_, by rw [r36.length]; exact hz, ?_⟩
        have R6' := R3.gk k36 R6.cs (R3.fr.comp R6.fr)
        obtain ⟨k7, R7, s7⟩ := R6'.side (ys := xs ++ [v]) s6
        exact ⟨rfl, hlt, g6, C6, xs ++ [v], acc ++ [d], ((k2.trans k3).trans k36).trans k7, R7, s7, RDs.mono k7.kp _ _ (r36.app (.cons r6 .nil)), q7⟩
      · exact q6.elim
  · have hi2 : i = ds.length := by omega
    subst hi2
    rw [List.drop_length] at q2
    exact .inl ⟨ok.stop g2 H2 k2, k _ _ ⟨g2, C2, acc, xs, A, k1.trans k2, R2, rfl, s2, r2, q2⟩⟩⟩
instance ce_lc {ct : Ct} {wi : TI} {gt : TG} {t1 : TT} {te : TE} {vs : List Nat} {t : DFl} [h : CF ct (tLc wi gt t1 te vs) t] : CE ct (tLc wi gt t1 te vs) (dVal t) := h.val
end RR

namespace RR
open PySem PySem.Spec PyProof.Rows L2
/-! ### defs -/
abbrev DSp := List W → List Cell → DK → XD → Prop
/-- the fields of a class, in order (the exceptions' among them) -/
def clsF : Int → List Str
  | 0 => ["link", "root", "is_open"]
  | 1 => ["rule", "certificate"]
  | 2 => ["rule", "certificate", "position"]
  | 3 => ["word", "number"]
  | 4 => ["rule", "secret", "tables", "line"]
  | 5 => ["rule", "held_cards", "line"]
  | 6 => ["rule", "head", "size", "pairs"]
  | 7 => ["number"]
  | 8 => ["number"]
  | 9 => ["number"]
  | _ => []
abbrev Ct.w (ct : Ct) (E : XK) (R : XD) : Ct := ⟨ct.cl, E, R⟩
def spD (ct : Ct) (n m : Nat) (P : DSp) : Sp := fun vs H Q E => ∃ (g : Gh) (C : List Cell) (ws : List W) (QD : DK) (RX : XD), vs.length = m ∧ C.length = n ∧ Clz ct g H C ∧ RWs ct g H vs ws ∧ P ws C QD RX ∧
  (∀ v H' g' C' w, Gk g H g' H' → Fr0 (Bs.of g H) g' H' → Clz ct g' H' C' → C'.length = n → RW ct g' H' v w → QD w C' → Q v H') ∧
  (∀ cls d H' g' C' c ds, Gk g H g' H' → Fr0 (Bs.of g H) g' H' → Clz ct g' H' C' → C'.length = n → XV ct g' H' cls d c ds → RX c ds C' → E cls d H')
theorem spD_len {ct : Ct} {n m : Nat} {P : DSp} {vs : List V} {H : Hp} {Q : VK} {E : XK} (h : spD ct n m P vs H Q E) : vs.length = m := by
  obtain ⟨g, C, ws, QD, RX, h, _⟩ := h
  exact h
def wOk (n : Nat) : W → Bool
  | .ref k => decide (k < n)
  | _ => true
def cellOk (n : Nat) : Cell → Bool
  | .obj _ ws => ws.all (wOk n)
  | _ => true
def fin (n : Nat) (Q : DK) : DK := fun w C => n ≤ C.length ∧ ((C.take n).all (cellOk n) && wOk n w) = true ∧ Q w (C.take n)
def finD (n : Nat) (Q : DK) : DEnds := { nx := fun _ C => fin n Q (.val .none) C, rt := fin n Q }
def E0D (N : Nat) (ws : List W) : Ev := ws.map some ++ List.replicate (N - ws.length) none
def Gh.tk (g : Gh) (n : Nat) : Gh := ⟨g.F, g.as.take n, g.ms.take n⟩
theorem RW.tk {ct : Cl} {g : Gh} {H : Hp} {n : Nat} {v : V} {w : W} (h : RW ct g H v w) (k : wOk n w = true) : RW ct (g.tk n) H v w := by
  cases w with
  | val d => exact h
  | ty n => exact h
  | ref j =>
    obtain ⟨a, h1, h2⟩ := h
    exact ⟨a, by show (g.as.take n)[j]? = some a; rw [List.getElem?_take, if_pos (of_decide_eq_true k)]; exact h1, h2⟩
theorem RWs.tk {ct : Cl} {g : Gh} {H : Hp} {n : Nat} : ∀ {vs : List V} {ws : List W}, RWs ct g H vs ws → ws.all (wOk n) = true → RWs ct (g.tk n) H vs ws
  | _, _, .nil, _ => .nil
  | _, _, .cons r rs, k => by
    rw [List.all_cons, Bool.and_eq_true] at k
    exact .cons (r.tk k.1) (RWs.tk rs k.2)
theorem flat_take {ms : List (List Addr)} (n : Nat) : (ms.take n).flatten.Sublist ms.flatten := by
  have e : ms.flatten = (ms.take n).flatten ++ (ms.drop n).flatten := by rw [← List.flatten_append, List.take_append_drop]
  rw [e]
  exact List.sublist_append_left _ _
theorem Clz.tk {ct : Cl} {g : Gh} {H : Hp} {C : List Cell} (c : Clz ct g H C) (n : Nat) (k : (C.take n).all (cellOk n) = true) : Clz ct (g.tk n) H (C.take n) := by
  refine ⟨?_, ?_, fun j x h => ?_, c.nd.sublist (flat_take n), fun a ha h => c.ap a ((flat_take n).subset ha) h, c.lv⟩
  · show (g.as.take n).length = _
    rw [List.length_take, List.length_take, c.la]
  · show (g.ms.take n).length = _
    rw [List.length_take, List.length_take, c.lm]
  · have hj : j < n := by
      have := (List.getElem?_eq_some_iff.mp h).1
      rw [List.length_take] at this
      omega
    have hm : x ∈ C.take n := List.mem_of_getElem? h
    rw [List.getElem?_take, if_pos hj] at h
    obtain ⟨a, m, h1, h2, h3⟩ := c.at_ j x h
    refine ⟨a, m, by show (g.as.take n)[j]? = _; rw [List.getElem?_take, if_pos hj]; exact h1, by show (g.ms.take n)[j]? = _; rw [List.getElem?_take, if_pos hj]; exact h2, ?_⟩
    have kx := List.all_eq_true.mp k x hm
    cases x with
    | lst ds => exact h3
    | frz ds => exact h3
    | obj cc ws =>
      obtain ⟨e, Cc, ns, dx, vs, q1, q2, q3, q4⟩ := h3
      exact ⟨e, Cc, ns, dx, vs, q1, q2, q3, q4.tk kx⟩
    | nil => exact h3
theorem start_map {ct : Cl} {g : Gh} {H : Hp} {N : List Str} {vs : List V} {ws : List W} (r : RWs ct g H vs ws) : ∀ (i : Nat) (w : W), (E0D N.length ws)[i]? = some (some w) → ∃ v : V, (start N vs)[i]? = some (some v) ∧ RW ct g H v w := by
  intro i w h
  have hl : vs.length = ws.length := Paired.length r
  unfold E0D at h
  unfold L2.start
  by_cases hi : i < ws.length
  · rw [List.getElem?_append_left (by rw [List.length_map]; exact hi), List.getElem?_map] at h
    rw [List.getElem?_append_left (by rw [List.length_map, hl]; exact hi), List.getElem?_map]
    have get : ∀ {vs : List V} {ws : List W}, RWs ct g H vs ws → ∀ (i : Nat) (w : W), ws[i]? = some w → ∃ v : V, vs[i]? = some v ∧ RW ct g H v w := by
      intro vs ws r
      induction r with
      | nil => intro i w h; simp at h
      | cons r rs ih =>
        intro i w h
        cases i with
        | zero =>
          cases h
          exact ⟨_, rfl, r⟩
        | succ i => exact ih i w h
    cases e : ws[i]? with
    | none =>
      rw [e] at h
      cases h
    | some u =>
      rw [e] at h
      cases h
      obtain ⟨v, h1, h2⟩ := get r i _ e
      exact ⟨v, by rw [h1]; rfl, h2⟩
  · rw [List.getElem?_append_right (by rw [List.length_map]; omega), List.getElem?_replicate] at h
    split at h <;> cases h
def finX (n : Nat) (R : XD) : XD := fun c ds C => n ≤ C.length ∧ (C.take n).all (cellOk n) = true ∧ R c ds (C.take n)
theorem Gk.tk {g g' : Gh} {H H' : Hp} {n : Nat} (k : Gk g H g' H') (hl : g.as.length = n) : Gk g H (g'.tk n) H' :=
  ⟨k.kp, fun j a h => by
    show (g'.as.take n)[j]? = some a
    rw [List.getElem?_take, if_pos (by rw [← hl]; exact (List.getElem?_eq_some_iff.mp h).1)]
    exact k.as j a h⟩
theorem Fr0.tk {B : Bs} {g : Gh} {H : Hp} {n : Nat} (f : Fr0 B g H) : Fr0 B (g.tk n) H := ⟨f.kt, f.keep, f.newF, fun a h => f.newM a ((flat_take n).subset h)⟩
/-- a body keeps the promise -/
theorem body_ok {ct : Ct} {N : List Str} {n m : Nat} {P : DSp} {tt : TS} {vs : List V} {H : Hp} {Q : VK} {E : XK} (t : XD → DS) (c : ∀ R, CS (ct.w E R) tt (t R)) (hm : m ≤ N.length)
    (h : ∀ ws C Q R, ws.length = m → C.length = n → P ws C Q R → t (finX n R) (finD n Q) (E0D N.length ws) C) (sp : spD ct n m P vs H Q E) : tt { nx := fun _ H' => Q .non H', rt := Q } (start N vs) H := by
  obtain ⟨g, C, ws, QD, RX, h1, h2, h3, h4, h5, h6, h7⟩ := sp
  have hl : vs.length = ws.length := Paired.length h4
  have hga : g.as.length = n := by rw [h3.la, h2]
  refine (c (finX n RX)).run ⟨g, H⟩ g (start N vs) H (E0D N.length ws) C _ (finD n QD) ⟨start_map h4, ?_, h3, Fr0.self g H, Gk.refl _ _, ?_⟩ ⟨?_, ?_, ?_, ?_⟩ (h ws C QD RX (by rw [← hl, h1]) h2 h5)
  · unfold L2.start E0D
    rw [List.length_append, List.length_append, List.length_map, List.length_map, List.length_replicate, List.length_replicate, hl]
  · rintro g' H' C' cls d cc ds k f z x ⟨q1, q2, q3⟩
    exact h7 cls d H' (g'.tk n) _ cc ds (k.tk hga) f.tk (z.tk n q2) (by rw [List.length_take]; omega) x q3
  · rintro σ' H' g' E' C' k R' ⟨q1, q2, q3⟩
    rw [Bool.and_eq_true] at q2
    exact h6 .non H' (g'.tk n) _ (.val .none) (k.tk hga) (R'.fr.tk) (R'.cs.tk n q2.1) (by rw [List.length_take]; omega) RD.non q3
  · rintro v σ' H' g' E' C' w k R' r ⟨q1, q2, q3⟩
    rw [Bool.and_eq_true] at q2
    exact h6 v H' (g'.tk n) _ w (k.tk hga) (R'.fr.tk) (R'.cs.tk n q2.1) (by rw [List.length_take]; omega) (r.tk q2.2) q3
  · exact fun _ _ _ _ _ _ _ q => q.elim
  · exact fun _ _ _ _ _ _ _ q => q.elim
/-! ### calls -/
def X0 : XD := fun _ _ _ => False
/-- a call that is given data alone -/
def dCallP (m : Nat) (P : DSp) (a : DA) : DE := fun E C Q => a E C fun ws C1 => ws.length = m ∧ (vals ws).isSome = true ∧ P ws [] (fun w _ => Q w C1) X0
theorem rws_pure {ct : Cl} {g : Gh} {H : Hp} : ∀ {vs : List V} {ws : List W}, RWs ct g H vs ws → (vals ws).isSome = true → RWs ct ⟨g.F, [], []⟩ H vs ws
  | _, _, .nil, _ => .nil
  | _, _, .cons (b := .val d) (l₂ := ws) r rs, h => by
    have h' : ((vals ws).map (d :: ·)).isSome = true := h
    rw [Option.isSome_map] at h'
    exact .cons r (rws_pure rs h')
  | _, _, .cons (b := .ref k) r rs, h => nomatch h
  | _, _, .cons (b := .ty k) r rs, h => nomatch h
theorem clz_nil {ct : Cl} {g : Gh} {H : Hp} {C : List Cell} (c : Clz ct g H C) : Clz ct ⟨g.F, [], []⟩ H [] :=
  ⟨rfl, rfl, fun k c h => by simp at h, List.nodup_nil, fun a h => by simp at h, c.lv⟩
theorem Rel.called {ct : Ct} {B : Bs} {g g' : Gh} {σ : L2.St} {H H' : Hp} {E : Ev} {C : List Cell} (R : Rel ct B g σ H E C) (k : Gk ⟨g.F, [], []⟩ H g' H') (f : Fr0 (Bs.of ⟨g.F, [], []⟩ H) g' H') (c : Clz ct g' H' []) :
    Gk g H ⟨g'.F, g.as, g.ms⟩ H' ∧ Rel ct B ⟨g'.F, g.as, g.ms⟩ σ H' E C := by
  have kk : Gk g H ⟨g'.F, g.as, g.ms⟩ H' := ⟨k.kp, fun _ _ h => h⟩
  have keep : ∀ a o, H a = some o → H' a = some o := fun a o h => f.keep a o h (by simp)
  have nF : ∀ a, g'.F a → g.F a ∨ H a = none := fun a h => by
    rcases f.newF a h with q | q | q
    · exact .inl q
    · exact .inr q
    · exact absurd q (by simp)
  refine ⟨kk, R.gk kk ⟨R.cs.la, R.cs.lm, fun j x h => ?_, R.cs.nd, fun a ha h => ?_, c.lv⟩ (R.fr.comp ⟨fun a xs h => keep a _ h, fun a o h _ => keep a o h, fun a h => ?_, fun a h => .inl h⟩)⟩
  · obtain ⟨a, m, h1, h2, h3⟩ := R.cs.at_ j x h
    refine ⟨a, m, h1, h2, h3.keep kk ?_⟩
    rcases h3.some with q | q
    · cases e : H a with
      | none => exact absurd e q
      | some o => exact .inl (keep a o e)
    · exact .inr q
  · rcases nF a h with q | q
    · exact R.cs.ap a ha q
    · exact R.cs.mutSome a ha q
  · rcases nF a h with q | q
    · exact .inl q
    · exact .inr (.inl q)
instance ce_callP {ct : Ct} {E : XK} {R : XD} {m : Nat} {P : DSp} {E' : XK} {t : TA} {a : DA} [h : CA (ct.w E R) t a] : CE (ct.w E R) (tCall (spD ct 0 m P) [] E' t) (dCallP m P a) := ⟨fun B g σ H Ev C Q K Re k q => by
  refine h.run B g σ H Ev C _ _ Re (fun vs H1 ⟨g1, C1, ws, k1, R1, r1, q1⟩ => ?_) q
  obtain ⟨e1, e2, q2⟩ := q1
  rw [List.append_nil]
  refine ⟨⟨g1.F, [], []⟩, [], ws, _, X0, by rw [← e1]; exact Paired.length r1, rfl, clz_nil R1.cs, rws_pure r1 e2, q2, fun v H' g' C' w k' f' c' l' r' q' => ?_, fun _ _ _ _ _ _ _ _ _ _ _ _ z => z.elim⟩
  have e3 : C' = [] := List.eq_nil_of_length_eq_zero l'
  subst e3
  obtain ⟨k2, R2⟩ := R1.called k' f' c'
  refine k v H' ⟨_, C1, w, k1.trans k2, R2, ?_, q'⟩
  cases w with
  | val d => exact r'
  | ty n => exact r'
  | ref j =>
    obtain ⟨b, hb, _⟩ := r'
    have : g'.as.length = 0 := c'.la
    rw [List.eq_nil_of_length_eq_zero this] at hb
    simp at hb⟩
end RR

namespace RR
open PySem PySem.Spec PyProof.Rows L2
/-! ### calls that are given cells -/
def firstRef : List W → Option Nat
  | [] => none
  | .ref k :: _ => some k
  | _ :: ws => firstRef ws
def shW (k : Nat) : W → W
  | .ref j => .ref (j - k)
  | w => w
def unW (k : Nat) : W → W
  | .ref j => .ref (j + k)
  | w => w
def inW (k n : Nat) : W → Bool
  | .ref j => decide (k ≤ j) && decide (j < k + n)
  | _ => true
def shC (k : Nat) : Cell → Cell
  | .obj c ws => .obj c (ws.map (shW k))
  | c => c
def unC (k : Nat) : Cell → Cell
  | .obj c ws => .obj c (ws.map (unW k))
  | c => c
def inC (k n : Nat) : Cell → Bool
  | .obj _ ws => ws.all (inW k n)
  | _ => true
def Gh.wd (g : Gh) (k n : Nat) : Gh := ⟨g.F, (g.as.drop k).take n, (g.ms.drop k).take n⟩
theorem wd_get {α : Type} (xs : List α) (k n j : Nat) (h : k ≤ j ∧ j < k + n) : ((xs.drop k).take n)[j - k]? = xs[j]? := by
  rw [List.getElem?_take, if_pos (by omega), List.getElem?_drop]
  congr 1
  omega
theorem RW.wd {ct : Cl} {g : Gh} {H : Hp} {k n : Nat} {v : V} {w : W} (h : RW ct g H v w) (i : inW k n w = true) : RW ct (g.wd k n) H v (shW k w) := by
  cases w with
  | val d => exact h
  | ty n => exact h
  | ref j =>
    obtain ⟨a, h1, h2⟩ := h
    have i' : (decide (k ≤ j) && decide (j < k + n)) = true := i
    rw [Bool.and_eq_true] at i'
    exact ⟨a, by show ((g.as.drop k).take n)[j - k]? = some a; rw [wd_get _ _ _ _ ⟨of_decide_eq_true i'.1, of_decide_eq_true i'.2⟩]; exact h1, h2⟩
theorem RWs.wd {ct : Cl} {g : Gh} {H : Hp} {k n : Nat} : ∀ {vs : List V} {ws : List W}, RWs ct g H vs ws → ws.all (inW k n) = true → RWs ct (g.wd k n) H vs (ws.map (shW k))
  | _, _, .nil, _ => .nil
  | _, _, .cons r rs, i => by
    rw [List.all_cons, Bool.and_eq_true] at i
    exact .cons (r.wd i.1) (RWs.wd rs i.2)
theorem flat_wd {ms : List (List Addr)} (k n : Nat) : ms.flatten = (ms.take k).flatten ++ (((ms.drop k).take n).flatten ++ (ms.drop (k + n)).flatten) := by
  rw [← List.flatten_append, ← List.flatten_append]
  congr 1
  rw [← List.drop_drop, List.take_append_drop, List.take_append_drop]
theorem Clz.wd {ct : Cl} {g : Gh} {H : Hp} {C : List Cell} (c : Clz ct g H C) (k n : Nat) (i : ((C.drop k).take n).all (inC k n) = true) : Clz ct (g.wd k n) H (((C.drop k).take n).map (shC k)) := by
  have sub : ∀ a, a ∈ ((g.ms.drop k).take n).flatten → a ∈ g.ms.flatten := fun a h => by
    rw [flat_wd (ms := g.ms) k n]
    exact List.mem_append_right _ (List.mem_append_left _ h)
  have nd := c.nd
  rw [flat_wd (ms := g.ms) k n, List.nodup_append] at nd
  refine ⟨?_, ?_, fun j x h => ?_, (List.nodup_append.mp nd.2.1).1, fun a ha h => c.ap a (sub a ha) h, c.lv⟩
  · show ((g.as.drop k).take n).length = _
    rw [List.length_map, List.length_take, List.length_take, List.length_drop, List.length_drop, c.la]
  · show ((g.ms.drop k).take n).length = _
    rw [List.length_map, List.length_take, List.length_take, List.length_drop, List.length_drop, c.lm]
  · rw [List.getElem?_map] at h
    cases e : ((C.drop k).take n)[j]? with
    | none =>
      rw [e] at h
      cases h
    | some y =>
      rw [e] at h
      cases h
      have hy : y ∈ (C.drop k).take n := List.mem_of_getElem? e
      have hj : j < n := by
        have := (List.getElem?_eq_some_iff.mp e).1
        rw [List.length_take] at this
        omega
      rw [List.getElem?_take, if_pos hj, List.getElem?_drop] at e
      obtain ⟨a, m, h1, h2, h3⟩ := c.at_ _ y e
      refine ⟨a, m, by show ((g.as.drop k).take n)[j]? = _; rw [List.getElem?_take, if_pos hj, List.getElem?_drop]; exact h1, by show ((g.ms.drop k).take n)[j]? = _; rw [List.getElem?_take, if_pos hj, List.getElem?_drop]; exact h2, ?_⟩
      have iy := List.all_eq_true.mp i y hy
      cases y with
      | lst ds => exact h3
      | frz ds => exact h3
      | obj cc ws =>
        obtain ⟨e, Cc, ns, dx, vs, q1, q2, q3, q4⟩ := h3
        exact ⟨e, Cc, ns, dx, vs, q1, q2, q3, q4.wd iy⟩
      | nil => exact h3
/-- back in the caller -/
def Gh.bk (g g' : Gh) (k n : Nat) : Gh := ⟨g'.F, g.as, g.ms.take k ++ g'.ms ++ g.ms.drop (k + n)⟩
section
variable {ct : Ct} {B : Bs} {g g' : Gh} {σ : L2.St} {H H' : Hp} {E : Ev} {C C' : List Cell} {k n : Nat}
theorem RW.un {ct : Cl} (ha : ∀ (j : Nat) (a : Addr), g'.as[j]? = some a → g.as[j + k]? = some a) {v : V} {w : W} (h : RW ct g' H' v w) : RW ct (g.bk g' k n) H' v (unW k w) := by
  cases w with
  | val d => exact h
  | ty n => exact h
  | ref j =>
    obtain ⟨a, h1, h2⟩ := h
    exact ⟨a, ha j a h1, h2⟩
theorem RWs.un {ct : Cl} (ha : ∀ (j : Nat) (a : Addr), g'.as[j]? = some a → g.as[j + k]? = some a) : ∀ {vs : List V} {ws : List W}, RWs ct g' H' vs ws → RWs ct (g.bk g' k n) H' vs (ws.map (unW k))
  | _, _, .nil => .nil
  | _, _, .cons r rs => .cons (RW.un ha r) (RWs.un ha rs)
theorem Rel.calledW (R : Rel ct B g σ H E C) (hk : k + n ≤ C.length) (kk : Gk (g.wd k n) H g' H') (f : Fr0 (Bs.of (g.wd k n) H) g' H') (c : Clz ct g' H' C') (hl : C'.length = n) :
    Gk g H (g.bk g' k n) H' ∧ Rel ct B (g.bk g' k n) σ H' E (C.take k ++ C'.map (unC k) ++ C.drop (k + n)) ∧ ∀ (j : Nat) (a : Addr), g'.as[j]? = some a → g.as[j + k]? = some a := by
  have hga : g.as.length = C.length := R.cs.la
  have hgm : g.ms.length = C.length := R.cs.lm
  have has : ∀ (j : Nat) (a : Addr), g'.as[j]? = some a → g.as[j + k]? = some a := fun j a h => by
    have hj : j < n := by
      rw [← hl, ← c.la]
      exact (List.getElem?_eq_some_iff.mp h).1
    have hb : (g.wd k n).as[j]? = g.as[j + k]? := by
      show ((g.as.drop k).take n)[j]? = _
      rw [List.getElem?_take, if_pos hj, List.getElem?_drop, Nat.add_comm]
    cases e : g.as[j + k]? with
    | none =>
      rw [List.getElem?_eq_none_iff] at e
      omega
    | some b =>
      rw [e] at hb
      have := kk.as j b hb
      rw [h] at this
      exact this.symm
  have k2 : Gk g H (g.bk g' k n) H' := ⟨kk.kp, fun _ _ h => h⟩
  have nd := R.cs.nd
  rw [flat_wd (ms := g.ms) k n, List.nodup_append] at nd
  obtain ⟨nd1, nd2, nd3⟩ := nd
  rw [List.nodup_append] at nd2
  obtain ⟨nd4, nd5, nd6⟩ := nd2
  have keep : ∀ a o, H a = some o → a ∉ (g.wd k n).ms.flatten → H' a = some o := fun a o h hm => f.keep a o h hm
  have all : ∀ a, (a ∈ (g.ms.take k).flatten ∨ a ∈ (g.ms.drop (k + n)).flatten) → a ∈ g.ms.flatten ∧ a ∉ (g.wd k n).ms.flatten := fun a h => by
    refine ⟨?_, fun hw => ?_⟩
    · rw [flat_wd (ms := g.ms) k n]
      rcases h with h | h
      · exact List.mem_append_left _ h
      · exact List.mem_append_right _ (List.mem_append_right _ h)
    · rcases h with h | h
      · exact nd3 a h a (List.mem_append_left _ hw) rfl
      · exact nd6 a hw a h rfl
  have newM : ∀ a ∈ g'.ms.flatten, a ∈ (g.wd k n).ms.flatten ∨ H a = none := f.newM
  have newF : ∀ a, g'.F a → g.F a ∨ H a = none ∨ a ∈ (g.wd k n).ms.flatten := f.newF
  have fl : (g.bk g' k n).ms.flatten = (g.ms.take k).flatten ++ (g'.ms.flatten ++ (g.ms.drop (k + n)).flatten) := by
    show (g.ms.take k ++ g'.ms ++ g.ms.drop (k + n)).flatten = _
    rw [List.flatten_append, List.flatten_append, List.append_assoc]
  have sep : ∀ a, (a ∈ (g.ms.take k).flatten ∨ a ∈ (g.ms.drop (k + n)).flatten) → a ∉ g'.ms.flatten := fun a h hg => by
    obtain ⟨h1, h2⟩ := all a h
    rcases newM a hg with q | q
    · exact h2 q
    · exact R.cs.mutSome a h1 q
  have sepF : ∀ a, (a ∈ (g.ms.take k).flatten ∨ a ∈ (g.ms.drop (k + n)).flatten) → ¬ g'.F a := fun a h hg => by
    obtain ⟨h1, h2⟩ := all a h
    rcases newF a hg with q | q | q
    · exact R.cs.ap a h1 q
    · exact R.cs.mutSome a h1 q
    · exact h2 q
  have wdm : ∀ a, a ∈ (g.wd k n).ms.flatten → a ∈ g.ms.flatten := fun a h => by
    rw [flat_wd (ms := g.ms) k n]
    exact List.mem_append_right _ (List.mem_append_left _ h)
  refine ⟨k2, R.gk k2 ⟨?_, ?_, fun j x h => ?_, ?_, fun a ha h => ?_, c.lv⟩ (R.fr.comp ⟨f.kt, fun a o h hm => keep a o h fun z => hm (wdm a z), fun a h => ?_, fun a h => ?_⟩), has⟩
  · show g.as.length = _
    rw [List.length_append, List.length_append, List.length_map, List.length_take, List.length_drop]
    omega
  · show (g.ms.take k ++ g'.ms ++ g.ms.drop (k + n)).length = _
    have := c.lm
    rw [List.length_append, List.length_append, List.length_append, List.length_append, List.length_map, List.length_take, List.length_drop, List.length_take, List.length_drop]
    omega
  · have lt : (C.take k).length = k := by rw [List.length_take]; omega
    have ltm : (g.ms.take k).length = k := by rw [List.length_take]; omega
    have lc : (C'.map (unC k)).length = n := by rw [List.length_map]; exact hl
    have lgm : g'.ms.length = n := by rw [c.lm]; exact hl
    by_cases h1 : j < k
    · rw [List.append_assoc, List.getElem?_append_left (by omega), List.getElem?_take, if_pos h1] at h
      obtain ⟨a, m, q1, q2, q3⟩ := R.cs.at_ j x h
      refine ⟨a, m, q1, ?_, ?_⟩
      · show (g.ms.take k ++ g'.ms ++ g.ms.drop (k + n))[j]? = _
        rw [List.append_assoc, List.getElem?_append_left (by omega), List.getElem?_take, if_pos h1]
        exact q2
      · refine q3.keep k2 ?_
        have hin : ∀ b ∈ m, b ∈ (g.ms.take k).flatten := fun b hb => mem_flat (k := j) (by rw [List.getElem?_take, if_pos h1]; exact q2) hb
        cases x with
        | lst ds =>
          obtain ⟨e, xs, r1, _⟩ := q3
          exact .inl (by rw [r1]; exact keep a _ r1 (all a (.inl (hin a (by rw [e]; exact List.mem_singleton.mpr rfl)))).2)
        | frz ds =>
          obtain ⟨_, fa, _⟩ := q3
          exact .inl (kk.kp.2 a fa).2
        | obj cc ws =>
          obtain ⟨e, _, _, _, _, _, r1, _⟩ := q3
          exact .inl (by rw [r1]; exact keep a _ r1 (all a (.inl (hin a (by rw [e]; exact List.mem_singleton.mpr rfl)))).2)
        | nil => exact .inr rfl
    · by_cases h2 : j < k + n
      · rw [List.append_assoc, List.getElem?_append_right (by omega), lt, List.getElem?_append_left (by omega), List.getElem?_map] at h
        cases e : C'[j - k]? with
        | none =>
          rw [e] at h
          cases h
        | some y =>
          rw [e] at h
          cases h
          obtain ⟨a, m, q1, q2, q3⟩ := c.at_ _ y e
          have hjk : j - k + k = j := by omega
          refine ⟨a, m, by have := has _ a q1; rw [hjk] at this; exact this, ?_, ?_⟩
          · show (g.ms.take k ++ g'.ms ++ g.ms.drop (k + n))[j]? = _
            rw [List.append_assoc, List.getElem?_append_right (by omega), ltm, List.getElem?_append_left (by omega)]
            exact q2
          · cases y with
            | lst ds => exact q3
            | frz ds => exact q3
            | obj cc ws =>
              obtain ⟨e, Cc, ns, dx, vs, r1, r2, r3, r4⟩ := q3
              exact ⟨e, Cc, ns, dx, vs, r1, r2, r3, RWs.un has r4⟩
            | nil => exact q3
      · rw [List.append_assoc, List.getElem?_append_right (by omega), lt, List.getElem?_append_right (by omega), lc, List.getElem?_drop] at h
        have hj : k + n + (j - k - n) = j := by omega
        rw [hj] at h
        obtain ⟨a, m, q1, q2, q3⟩ := R.cs.at_ j x h
        have hm2 : (g.ms.drop (k + n))[j - k - n]? = some m := by
          rw [List.getElem?_drop, hj]
          exact q2
        refine ⟨a, m, q1, ?_, ?_⟩
        · show (g.ms.take k ++ g'.ms ++ g.ms.drop (k + n))[j]? = _
          rw [List.append_assoc, List.getElem?_append_right (by omega), ltm, List.getElem?_append_right (by omega), lgm]
          exact hm2
        · refine q3.keep k2 ?_
          have hin : ∀ b ∈ m, b ∈ (g.ms.drop (k + n)).flatten := fun b hb => mem_flat hm2 hb
          cases x with
          | lst ds =>
            obtain ⟨e, xs, r1, _⟩ := q3
            exact .inl (by rw [r1]; exact keep a _ r1 (all a (.inr (hin a (by rw [e]; exact List.mem_singleton.mpr rfl)))).2)
          | frz ds =>
            obtain ⟨_, fa, _⟩ := q3
            exact .inl (kk.kp.2 a fa).2
          | obj cc ws =>
            obtain ⟨e, _, _, _, _, _, r1, _⟩ := q3
            exact .inl (by rw [r1]; exact keep a _ r1 (all a (.inr (hin a (by rw [e]; exact List.mem_singleton.mpr rfl)))).2)
          | nil => exact .inr rfl
  · rw [fl, List.nodup_append]
    refine ⟨nd1, List.nodup_append.mpr ⟨c.nd, nd5, fun a ha b hb e => sep b (.inr hb) (by rw [← e]; exact ha)⟩, fun a ha b hb e => ?_⟩
    rcases List.mem_append.mp hb with q | q
    · exact sep a (.inl ha) (by rw [e]; exact q)
    · exact nd3 a ha b (List.mem_append_right _ q) e
  · rw [fl, List.mem_append, List.mem_append] at ha
    rcases ha with q | q | q
    · exact sepF a (.inl q) h
    · exact c.ap a q h
    · exact sepF a (.inr q) h
  · rcases newF a h with q | q | q
    · exact .inl q
    · exact .inr (.inl q)
    · exact .inr (.inr (wdm a q))
  · rw [fl, List.mem_append, List.mem_append] at h
    rcases h with q | q | q
    · exact .inl (all a (.inl q)).1
    · rcases newM a q with z | z
      · exact .inl (wdm a z)
      · exact .inr z
    · exact .inl (all a (.inr q)).1
end
def putW (C C' : List Cell) (k n : Nat) : List Cell := C.take k ++ C'.map (unC k) ++ C.drop (k + n)
def callK (n m : Nat) (P : DSp) (RX : XD) (Q : DK) (ws : List W) (C1 : List Cell) : Option Nat → Prop
  | some k => ws.length = m ∧ k + n ≤ C1.length ∧ (ws.all (inW k n) && ((C1.drop k).take n).all (inC k n)) = true ∧
    P (ws.map (shW k)) (((C1.drop k).take n).map (shC k)) (fun w C' => Q (unW k w) (putW C1 C' k n)) fun c ds C' => RX c ds (putW C1 C' k n)
  | none => False
def dCallW (n m : Nat) (P : DSp) (a : DA) (RX : XD) : DE := fun E C Q => a E C fun ws C1 => callK n m P RX Q ws C1 (firstRef ws)
instance ce_callW {ct : Ct} {E : XK} {R : XD} {n m : Nat} {P : DSp} {E' : XK} {t : TA} {a : DA} [h : CA (ct.w E R) t a] : CE (ct.w E R) (tCall (spD ct (n + 1) m P) [] E' t) (dCallW (n + 1) m P a X0) := ⟨fun B g σ H Ev C Q K Re k q => by
  refine h.run B g σ H Ev C _ _ Re (fun vs H1 ⟨g1, C1, ws, k1, R1, r1, q1⟩ => ?_) q
  unfold callK at q1
  dsimp only at q1
  split at q1
  · rename_i j e
    obtain ⟨e1, e2, e3, q2⟩ := q1
    rw [Bool.and_eq_true] at e3
    rw [List.append_nil]
    refine ⟨g1.wd j (n + 1), _, _, _, _, by rw [← e1]; exact Paired.length r1, ?_, R1.cs.wd j (n + 1) e3.2, r1.wd e3.1, q2, fun v H' g' C' w k' f' c' l' r' q' => ?_, fun _ _ _ _ _ _ _ _ _ _ _ _ z => z.elim⟩
    · rw [List.length_map, List.length_take, List.length_drop]
      omega
    obtain ⟨k2, R2, h2⟩ := R1.calledW e2 k' f' c' l'
    exact k v H' ⟨_, _, _, k1.trans k2, R2, RW.un h2 r', q'⟩
  · exact q1.elim⟩
end RR

namespace RR
open PySem PySem.Spec PyProof.Rows L2
/-! ### names that are frozen, lists that are cells: the same terms under another name -/
section
variable {X : Cx}
theorem pvF (i : Nat) {x : Str} {pos : Pos} (hN : X.N[i]? = some x := by rfl) (hv : Vis X.env.scope x := by first | exact Or.inl rfl | exact Or.inr (Or.inl rfl) | exact Or.inr (Or.inr rfl)) (hd : (x == ("__debug__" : Str)) = false := by decide)
    (hcd : (x == ("__classdict__" : Str)) = false := by decide) : PE X (.Name x pos) (tVarF i) := pe_var hN hv hd hcd
theorem psC {st : Stmt} {te : TE} {i : Nat} (h : PS X st (tAsg te (gName i))) : PS X st (tAsgC te i) := h
end
/-! ### the law's start -/
def lawD : DEnds := { nx := fun _ _ => False, rt := fun w _ => w = .val (.bool true) }
abbrev st0 (ns : List Int) : Cell := .lst [.int 0, .int 0, .list (ns.map .int), .int 1]
def spLaw (K : PySem.W.Frag) : Sp := fun vs H Q _ => ∃ (a : Addr) (ns : List Int), vs = [.ref a] ∧ SqL K H a (ns.map V.int) ∧ ns.length ≤ 63 ∧ ∀ H', Q (.bl true) H'
theorem RDs.ints {ct : Cl} {F : Addr → Prop} {H : Hp} : ∀ ns : List Int, RDs ct F H (ns.map V.int) (ns.map .int)
  | [] => .nil
  | n :: r => .cons (.int n) (RDs.ints r)
theorem law_body {ct : Ct} {K : PySem.W.Frag} {N : List Str} {tt : TS} {t : DS} {vs : List V} {H : Hp} {Q : VK} (c : CS (ct.w E0 X0) tt t) (hN : 2 ≤ N.length) (h : ∀ ns : List Int, ns.length ≤ 63 → t lawD ([none, some (.ref 0)] ++ List.replicate (N.length - 2) none) [st0 ns])
    (sp : spLaw K vs H Q E0) : tSeq (tAsg (tLst (tCons (tC (.int 0)) (tCons (tC (.int 0)) (tCons (tCB (rListA K) (tCons (tVar 0) tNil)) (tCons (tC (.int 1)) tNil))))) (gName 1)) tt { nx := fun _ H' => Q .non H', rt := Q } (start N vs) H := by
  obtain ⟨a, ns, rfl, hS, hlen, q⟩ := sp
  refine ⟨_, rfl, a, _, rfl, .inl hS, fun l hl => ?_⟩
  refine ⟨by show 4 ≤ sizeLine; decide, fun st hst => ?_⟩
  have nls : l ≠ st := ne_of_none upd_same hst
  have hl2 : upd (upd H l (.lst (ns.map V.int))) st (.lst [.int 0, .int 0, .ref l, .int 1]) l = some (.lst (ns.map V.int)) := by
    rw [upd_ne nls]
    exact upd_same
  have hs2 : upd (upd H l (.lst (ns.map V.int))) st (.lst [.int 0, .int 0, .ref l, .int 1]) st = some (.lst [.int 0, .int 0, .ref l, .int 1]) := upd_same
  generalize upd (upd H l (.lst (ns.map V.int))) st (.lst [.int 0, .int 0, .ref l, .int 1]) = H0 at hl2 hs2
  have r : RDs ct.cl (fun b => b = l) H0 [V.int 0, .int 0, .ref l, .int 1] [.int 0, .int 0, .list (ns.map .int), .int 1] := .cons (.int 0) (.cons (.int 0) (.cons (.lst rfl hl2 (RDs.ints ns)) (.cons (.int 1) .nil)))
  have cz : Clz ct.cl ⟨fun b => b = l, [st], [[st]]⟩ H0 [st0 ns] := by
    refine ⟨rfl, rfl, fun k c h => ?_, by simp, fun b hb h => ?_, fun b h => ?_⟩
    · cases k with
      | zero =>
        cases h
        exact ⟨st, [st], rfl, rfl, rfl, _, hs2, r⟩
      | succ k => simp at h
    · have e : b = st := by simpa using hb
      exact nls (by rw [← h, e])
    · rw [h, hl2]
      exact fun z => nomatch z
  refine c.run ⟨⟨fun b => b = l, [st], [[st]]⟩, H0⟩ ⟨fun b => b = l, [st], [[st]]⟩ _ H0 _ _ _ lawD ⟨fun i w h => ?_, ?_, cz, Fr0.self _ _, Gk.refl _ _, ?_⟩ ⟨?_, ?_, ?_, ?_⟩ (h ns hlen)
  · cases i with
    | zero => cases h
    | succ i =>
      cases i with
      | zero =>
        cases h
        refine ⟨.ref st, ?_, st, rfl, rfl⟩
        show ((L2.start N [V.ref a]).set 1 (some (.ref st)))[1]? = _
        rw [List.getElem?_set_self]
        show 1 < ([some (V.ref a)] ++ List.replicate (N.length - 1) none).length
        rw [List.length_append, List.length_replicate]
        show 1 < 1 + _
        omega
      | succ i =>
        have h' : ([none, some (W.ref 0)] ++ List.replicate (N.length - 2) (none : Option W))[i + 2]? = some (some w) := h
        rw [List.getElem?_append_right (by simp), List.getElem?_replicate] at h'
        split at h' <;> cases h'
  · show ((L2.start N [V.ref a]).set 1 (some (.ref st))).length = _
    rw [List.length_set]
    show ([some (V.ref a)] ++ List.replicate (N.length - 1) none).length = ([none, some (W.ref 0)] ++ List.replicate (N.length - 2) none).length
    rw [List.length_append, List.length_append, List.length_replicate, List.length_replicate]
    show 1 + _ = 2 + _
    omega
  · exact fun _ _ _ _ _ _ _ _ _ _ _ z => z.elim
  · exact fun _ _ _ _ _ _ _ z => z.elim
  · rintro v σ' H' g' E' C' w k R' rw_ e
    have e2 : w = .val (.bool true) := e
    subst e2
    rw [rw_bool rw_]
    exact q H'
  · exact fun _ _ _ _ _ _ _ z => z.elim
  · exact fun _ _ _ _ _ _ _ z => z.elim
end RR

namespace RX
open PySem PySem.Spec PyProof.Rows L2
/-! ### t[::-1] of a tuple -/
theorem back_pick (xs : List Value) : ((List.range xs.length).filterMap fun (k : Nat) => xs.toArray[((((xs.length : Nat) : Int) - 1) + (k : Int) * (-1)).toNat]?) = xs.reverse := by
  have key : ∀ n, n ≤ xs.length → ((List.range n).filterMap fun (k : Nat) => xs.toArray[((((xs.length : Nat) : Int) - 1) + (k : Int) * (-1)).toNat]?) = xs.reverse.take n := by
    intro n
    induction n with
    | zero => intro _; rfl
    | succ n ih =>
      intro h
      have e : ((((xs.length : Nat) : Int) - 1) + (n : Int) * (-1)).toNat = xs.length - 1 - n := by omega
      have hl : xs.length - 1 - n < xs.length := by omega
      have hr : xs.reverse[n]? = some xs[xs.length - 1 - n] := by
        rw [List.getElem?_reverse (by omega), List.getElem?_eq_getElem hl]
      have hx : xs.toArray[((((xs.length : Nat) : Int) - 1) + (n : Int) * (-1)).toNat]? = some xs[xs.length - 1 - n] := by
        rw [e, List.getElem?_toArray, List.getElem?_eq_getElem hl]
      rw [List.range_succ, List.filterMap_append, ih (by omega), List.take_add_one, hr, List.filterMap_cons, hx]
      rfl
  rw [key xs.length (Nat.le_refl _), List.take_of_length_le (by rw [List.length_reverse]; exact Nat.le_refl _)]
theorem back_adjust (n : Nat) : Builtin.Slice.sliceAdjust none none (-1) (n : Int) = ((n : Int) - 1, -1) := by
  unfold Builtin.Slice.sliceAdjust
  simp
theorem back_places (n : Nat) : Builtin.Slice.slicePlaces ((n : Int) - 1) (-1) (-1) = n := by
  unfold Builtin.Slice.slicePlaces
  simp
  omega
section
variable {prog : Program} {w : World} {A : Around} {E : Value → Shared → Prop} {s : Shared}
theorem applied_back {sl : Addr} {vs : Value} {n : Nat} {Q : Int × Int × Nat → Shared → Prop} (hs : s.heap.IsSliceOf sl .none .none vs) (ps : IsPart vs (some (-1))) (h : Q ((n : Int) - 1, -1, n) s) :
    wpAny (model prog w) A (Builtin.Slice.sliceApplied (.ref sl) (pure (n : Int))) Q E s := by
  obtain ⟨os, hos, hcs, hds⟩ := id hs
  unfold Builtin.Slice.sliceApplied Builtin.Slice.sliceFields
  refine wpAny_bind (wpAny_bind (wpAny_field hos hds (x := .none) rfl (wpAny_bind (wpAny_field hos hds (x := .none) rfl (wpAny_bind (wpAny_field hos hds (x := vs) rfl (wpAny_pure ?_)))))))
  refine wpAny_bind (HT.slicePart_ ps ?_)
  show wpAny _ _ (if ((-1 : Int) == 0) = true then _ else _) _ _ s
  rw [if_neg (by decide)]
  refine wpAny_bind (slicePart_none (wpAny_bind (slicePart_none (wpAny_bind (wpAny_pure ?_)))))
  show wpAny _ _ (match Builtin.Slice.sliceAdjust none none (-1) (n : Int) with | (lo, hi) => pure (lo, (-1 : Int), Builtin.Slice.slicePlaces lo hi (-1))) _ _ s
  rw [back_adjust n]
  show wpAny _ _ (pure ((n : Int) - 1, (-1 : Int), Builtin.Slice.slicePlaces ((n : Int) - 1) (-1) (-1))) _ _ s
  rw [back_places]
  exact wpAny_pure h
theorem getItem_tuple_back {t sl : Addr} {its : List Value} {vs : Value} {Q : Value → Shared → Prop} (ht : IsTup s.heap t its.toArray) (hs : s.heap.IsSliceOf sl .none .none vs) (ps : IsPart vs (some (-1)))
    (h : Q (.ref s.heap.objs.size) { s with heap := s.heap.push { cls := .type "tuple", data := .seq its.reverse.toArray } }) (hsz : its.length ≤ sizeLine) : wpAny (model prog w) A (getItem (.ref t) (.ref sl)) Q E s := by
  have htake : sizeOk (.seq its.reverse.toArray) := by
    show its.reverse.toArray.size ≤ sizeLine
    rw [List.size_toArray, List.length_reverse]
    exact hsz
  obtain ⟨os, hos, hcs, hds⟩ := id hs
  have hTs : s.TypeIs (.ref sl) "slice" := ⟨os, hos, hcs⟩
  unfold getItem
  try with_reducible refine wpAny_holding ?_
  first | refine wpAny_bind (wpAny_pure ?_) | skip
  refine wpAny_bind (wpAny_sequenceKey ht.typeIs (by decide) ?_)
  refine wpAny_bind (wpAny_callSpecial?_slot (name := Str.ofString "__getitem__") ht.typeIs PyProof.Rows.slot_tuple_getitem (wpAny_call_entry PyProof.Rows.slot_tuple_getitem ht.typeIs entry_tuple_getitem ?_ (args_tuple_getitem _ _)))
  show wpAny _ _ (Builtin.Tuple.tupleItemsOf (.ref t) >>= _) _ _ s
  refine wpAny_bind (tupleItemsOf_ ht ?_)
  refine wpAny_bind (wpAny_typeOf hTs ?_)
  rw [if_pos (by decide), List.size_toArray]
  refine wpAny_bind (applied_back hs ps ?_)
  have hno : ¬ ((((its.length : Int) - 1) == 0 && (-1 : Int) == 1 && its.length == its.length) = true) := by simp
  show wpAny _ _ (if (((its.length : Int) - 1) == 0 && (-1 : Int) == 1 && its.length == its.length) = true then _ else _) _ _ s
  rw [if_neg hno, back_pick]
  first
    | exact wpAny_bind (m := Builtin.Tuple.tupleExact _) (wpAny_newObj_type (wpAny_pure ⟨_, rfl, wpAny_pure h⟩) htake)
    | exact wpAny_bind (m := Builtin.Tuple.tupleExact _) (wpAny_newObj_type (wpAny_bind (wpAny_pure (wpAny_pure ⟨_, rfl, wpAny_pure h⟩))) htake)
    | exact wpAny_bind (wpAny_bind (m := Builtin.Tuple.tupleExact _) (wpAny_newObj_type (wpAny_pure (wpAny_pure ⟨_, rfl, wpAny_pure h⟩)) htake))
end
theorem ext_tup (l b : Addr) (items items2 : Array Value) (n n2 : Nat) (dd : Option Addr) (sl : Array (Option Value)) (hs0 : ¬(!items.isEmpty && Builtin.List.listTooLong (items.size + items2.size)) = true) (hs1 : items.size ≤ sizeLine) (hs2 : items.size + items2.size ≤ sizeLine + 1) :
    Meets (Builtin.«list.extend» ⟨[.ref l, .ref b], []⟩) (fun _ R s => s.heap.get? l = some { cls := .type "list", dict := none, data := .seq items n, slots := #[] } ∧ s.heap.get? b = some { cls := .type "tuple", dict := dd, data := .seq items2 n2, slots := sl } ∧
      R (.ok (.ret Value.none)) { s with heap := s.heap.update l (Obj.mapSeq fun x => x ++ items2), toks := s.toks }) := .of_wp fun prog w A R s h => by
  obtain ⟨hp, g, d, tk, os⟩ := s
  obtain ⟨hl, hb, h⟩ := h
  have f1 := AutoSeq1.idx_int
  have f2 := AutoSeq1.sub_tuple_tuple
  have f3 := AutoSeq1.sub_list_list
  have f4 := AutoSeq1.sub_tuple_list
  have f5 := AutoSeq1.sub_list_tuple
  have hz' : (items ++ items2).size ≤ sizeLine + 1 := by
    rw [Array.size_append]
    exact hs2
  wp_walk using (wpAny_updateSeq hl rfl (hz := hs1) (_hz' := hz')), AutoSeq1.wpAny_loadPart' hl, AutoSeq1.wpAny_loadPart' hb
  exact ⟨_, rfl, h⟩
section
variable {X : Cx}
def tRevT (K : PySem.W.Frag) (te : TE) : TE := fun σ H Q => te σ H fun x H1 => ∃ a xs, x = .ref a ∧ SqT K H1 a xs ∧ ∀ p, H1 p = none → Q (.ref p) (upd H1 p (.tup xs.reverse))
theorem pe_revT {e : Expr} {te : TE} {k : Nat} {p1 p2 p3 pos : Pos} (he : PE X e te) : PE X (.Subscript e (.Slice none none (some (.UnaryOp .USub (.Constant (.int 1) k p1) p2)) p3) pos) (tRevT X.K te) := by
  refine ⟨fun pins s σ H Q I h => Subscript_ (thn (he.run pins s σ H _ I h) fun v s1 ⟨x, H1, I1, r1, q1⟩ => ?_)⟩
  obtain ⟨a, xs, ex, hx, q⟩ := q1
  subst ex
  cases r1
  have hst : PO X (some (.UnaryOp .USub (.Constant (.int 1) k p1) p2)) (tPart (tUn (rU fun i => .int (-i)) (tC (.int 1)))) := po_some (pe_un un_neg pe_int)
  refine wpAny_Slice (thn (po_none.run pins s1 σ H1 (fun o H2 => o = none ∧ H2 = H1) I1 ⟨rfl, rfl⟩) fun vl s2 ⟨l, H2, I2, pl, el, e2⟩ => ?_)
  subst el e2
  refine thn (po_none.run pins s2 σ H2 (fun o H3 => o = none ∧ H3 = H2) I2 ⟨rfl, rfl⟩) fun vu s3 ⟨u, H3, I3, pu, eu, e3⟩ => ?_
  subst eu e3
  refine thn (hst.run pins s3 σ H3 (fun o H4 => o = some (-1) ∧ H4 = H3) I3 ⟨1, rfl, -1, rfl, rfl, rfl⟩) fun vs s4 ⟨o, H4, I4, ps, eo, e4⟩ => ?_
  subst eo e4
  cases pl
  cases pu
  have I5 : Inv X pins σ H4 { s4 with heap := s4.heap.push { cls := .type "slice", data := .fields #[.none, .none, vs] } } := I4.kept (t' := s4.toks) fun b ob q => Heap.get?_push_of_some _ q
  obtain ⟨its, r, ht, hz⟩ := I5.tuple hx
  have hlen := r.length
  show wpAny (model X.prog X.w) X.A (subscriptTail e (.Slice none none (some (.UnaryOp .USub (.Constant (.int 1) k p1) p2)) p3) (.ref a) (.ref s4.heap.objs.size)) (EP X pins σ Q) X.xe { s4 with heap := s4.heap.push { cls := .type "slice", data := .fields #[.none, .none, vs] } }
  refine tail_any (ops := [.ref a, .ref s4.heap.objs.size]) ht.typeIs PyProof.Rows.slot_tuple_getitem.lookup ?_ (by with_unfolding_all rfl)
  refine getItem_tuple_back ht (Heap.IsSliceOf.new _ .none .none vs) ps ?_ (by omega)
  exact ⟨.ref _, _, I5.laid (t' := s4.toks) (o := .tup xs.reverse) (fun b ob q => Heap.get?_push_of_some _ q) (Nat.le_refl _) ⟨by rw [List.length_reverse]; exact hz, _, r.reverse, IsTup.new _ _⟩, rfl, q _ (I5.hok.fresh (Nat.le_refl _))⟩
/-! ### xs.extend(t), t a tuple -/
def rExtT (K : PySem.W.Frag) : V → List V → Hp → VK → Prop := fun x vs H Q => ∃ l b xs zs, x = .ref l ∧ vs = [.ref b] ∧ H l = some (.lst xs) ∧ H b = some (.tup zs) ∧ xs.length + zs.length ≤ sizeLine ∧ Q .non (upd H l (.lst (xs ++ zs)))
theorem mt_extT : MtM X "list.extend" (rExtT X.K) := by
  intro pins s σ H x vs v us Q I rx rv h
  obtain ⟨l, b, xs, zs, rfl, rfl, hH, hB, hz, q⟩ := h
  cases rx
  obtain ⟨u, rfl, ru⟩ := rv.one
  cases ru
  obtain ⟨z, its, n, r, hl, e⟩ := I.lstM hH
  obtain ⟨z2, its2, r2, o, e2, hc, n2, hd⟩ := (show ObjOk X.prog X.w H s.heap b (.tup zs) from I.hok b _ hB)
  obtain ⟨oc, od, dt, osl⟩ := o
  simp only at hc hd
  subst hc hd
  have l2 := r2.length
  have hsz : its.toArray.size + its2.toArray.size ≤ sizeLine := by
    rw [List.size_toArray, List.size_toArray]
    omega
  have hlong : ¬ (!its.toArray.isEmpty && Builtin.List.listTooLong (its.toArray.size + its2.toArray.size)) = true := by
    rw [notLongL hsz, Bool.and_false]
    exact Bool.false_ne_true
  refine call_meets F.slot_list_extend ⟨_, e, rfl⟩ F.entry_list_extend (F.args_list_extend_2 _ _) (ext_tup l b its.toArray its2.toArray n n2 od osl hlong (by omega) (by omega)) ⟨e, e2, ?_⟩
  exact ⟨.non, _, I.lset (its' := its ++ its2) hH e (by simp) (r.append r2) (by rw [List.length_append]; omega), rfl, q⟩
end
end RX

namespace RR
open PySem PySem.Spec PyProof.Rows L2
/-! ### t[::-1] -/
def revTK (Q : DK) : W → List Cell → Prop
  | .val (.tuple ds), C1 => Q (.val (.tuple ds.reverse)) C1
  | _, _ => False
def dRevT (a : DE) : DE := fun E C Q => a E C (revTK Q)
instance ce_revT {ct : Ct} {K : PySem.W.Frag} {t : TE} {a : DE} [h : CE ct t a] : CE ct (RX.tRevT K t) (dRevT a) := ⟨fun B g σ H E C Q K' R k q => by
  refine h.run B g σ H E C _ _ R (fun v H1 ⟨g1, C1, x, k1, R1, r1, q1⟩ => ?_) q
  unfold revTK at q1
  split at q1
  · obtain ⟨a, xs, rfl, h1, h2⟩ := rw_tup r1
    exact ⟨a, xs, rfl, SqT.of h1, fun p hp => post_tup R1 hp h2.rev (fun v' H' p => k v' H' (p.back k1)) q1⟩
  · exact q1.elim⟩
/-! ### extend by a list or a tuple -/
def rExtA (K : PySem.W.Frag) : V → List V → Hp → VK → Prop := fun x vs H Q => rExtend x vs H Q ∨ RX.rExtT K x vs H Q
theorem mt_extA {X : Cx} : MtM X "list.extend" (rExtA X.K) := by
  intro pins s σ H x xs v us Q I r rs h
  rcases h with h | h
  · exact mt_extend pins s σ H x xs v us Q I r rs h
  · exact RX.mt_extT pins s σ H x xs v us Q I r rs h
def fExtA : W → List W → List Cell → DK → Prop
  | .ref k, [y], C, Q => extK k Q C[k]? (rdS C y) C
  | _, _, _, _ => False
instance cm_extA {ct : Ct} {K : PySem.W.Frag} : CM ct (rExtA K) fExtA := ⟨fun B g σ H E C Q v vs w ws K' R kk r rs q => by
  unfold fExtA at q
  split at q
  · rename_i k yw
    obtain ⟨a, ha, rfl⟩ := r
    obtain ⟨y, rfl, r1⟩ := rws1 rs
    unfold extK at q
    split at q
    · rename_i ds es e e2
      obtain ⟨xs, hm, h1, h2, h3⟩ := cell_lst R.cs e ha
      cases yw with
      | val d =>
        cases d with
        | tuple zs =>
          cases e2
          obtain ⟨b, ys, rfl, h4, h5⟩ := rw_tup r1
          obtain ⟨k3, R3⟩ := R.write e ha (h2.app h5)
          exact .inr ⟨a, b, xs, ys, rfl, rfl, h1, h4, by rw [h2.length, h5.length]; exact q.1, kk _ _ ⟨g, _, .val .none, k3, R3, RD.non, q.2⟩⟩
        | list zs =>
          cases e2
          obtain ⟨b, ys, rfl, h4, h5⟩ := rdL_ok R.cs r1 (ds := es) rfl
          obtain ⟨k3, R3⟩ := R.write e ha (h2.app h5)
          exact .inl ⟨a, b, xs, ys, rfl, rfl, h1, h4, by rw [h2.length, h5.length]; exact q.1, kk _ _ ⟨g, _, .val .none, k3, R3, RD.non, q.2⟩⟩
        | _ => cases e2
      | ref j =>
        obtain ⟨b, ys, rfl, h4, h5⟩ := rdL_ok R.cs r1 e2
        obtain ⟨k3, R3⟩ := R.write e ha (h2.app h5)
        exact .inl ⟨a, b, xs, ys, rfl, rfl, h1, h4, by rw [h2.length, h5.length]; exact q.1, kk _ _ ⟨g, _, .val .none, k3, R3, RD.non, q.2⟩⟩
      | ty n => cases e2
    · exact q.elim
  · exact q.elim⟩
def dRevL (a : DE) : DE := fun E C Q => a E C fun x C1 => mkL (fun ds => .list ds.reverse) Q (rdL C1 x) C1
instance ce_revL {ct : Ct} {K : PySem.W.Frag} {t : TE} {a : DE} [h : CE ct t a] : CE ct (tRevL K t) (dRevL a) := ⟨fun B g σ H E C Q K' R k q => by
  refine h.run B g σ H E C _ _ R (fun v H1 ⟨g1, C1, x, k1, R1, r1, q1⟩ => ?_) q
  unfold mkL at q1
  dsimp only at q1
  split at q1
  · rename_i ds e
    obtain ⟨a, xs, rfl, h1, h2⟩ := rdL_ok R1.cs r1 e
    exact ⟨a, xs, rfl, SqL.of h1, fun p hp => post_lst R1 hp h2.rev (fun v' H' p => k v' H' (p.back k1)) q1⟩
  · exact q1.elim⟩
/-! ### min, max of two -/
def rMin2 : List V → Hp → VK → Prop := fun xs H Q => ∃ i j, xs = [.int i, .int j] ∧ Q (.int (if j < i then j else i)) H
def rMax2 : List V → Hp → VK → Prop := fun xs H Q => ∃ i j, xs = [.int i, .int j] ∧ Q (.int (if j > i then j else i)) H
theorem call_minA {X : Cx} (hc : X.calm = true) : CallR X (.builtin "min") rMin2 := call_min2 hc
theorem call_maxA {X : Cx} (hc : X.calm = true) : CallR X (.builtin "max") rMax2 := call_max2 hc
def f2I (h : Int → Int → Int) : List W → List Cell → DK → Prop
  | [.val (.int i), .val (.int j)], C, Q => Q (.val (.int (h i j))) C
  | _, _, _ => False
instance cc_min2 {ct : Ct} : CC ct rMin2 (f2I fun i j => if j < i then j else i) := ⟨fun B g σ H E C Q vs ws K' R k r q => by
  unfold f2I at q
  split at q
  · obtain ⟨v, x, rfl, r1, r2⟩ := rws2 r
    exact ⟨_, _, by rw [rw_int r1, rw_int r2], post_val R (w := .val (.int _)) (.int _) k q⟩
  · exact q.elim⟩
instance cc_max2 {ct : Ct} : CC ct rMax2 (f2I fun i j => if j > i then j else i) := ⟨fun B g σ H E C Q vs ws K' R k r q => by
  unfold f2I at q
  split at q
  · obtain ⟨v, x, rfl, r1, r2⟩ := rws2 r
    exact ⟨_, _, by rw [rw_int r1, rw_int r2], post_val R (w := .val (.int _)) (.int _) k q⟩
  · exact q.elim⟩
theorem at0 {α : Type} (x : α) (xs : List α) : atI (x :: xs) 0 = some x := atI_nat (j := 0) rfl
theorem at1 {α : Type} (x y : α) (xs : List α) : atI (x :: y :: xs) 1 = some y := atI_nat (j := 1) rfl
theorem at2 {α : Type} (x y z : α) (xs : List α) : atI (x :: y :: z :: xs) 2 = some z := atI_nat (j := 2) rfl
theorem at3 {α : Type} (x y z u : α) (xs : List α) : atI (x :: y :: z :: u :: xs) 3 = some u := atI_nat (j := 3) rfl
/-! ### how loops and comprehensions are answered -/
/-- a while: by states a with a measure -/
theorem dWhile_by {α : Type} {c : DT} {b : DS} {D : DEnds} {E : Ev} {C : List Cell} (I : α → Ev → List Cell → Prop) (μ : α → Nat) (a0 : α) (h0 : I a0 E C)
    (turn : ∀ a E C, I a E C → c E C fun k C1 => if k = true then b { D with nx := fun E C => ∃ a', μ a' < μ a ∧ I a' E C, ct := fun E C => ∃ a', μ a' < μ a ∧ I a' E C, bk := D.nx } E C1 else D.nx E C1) : dWhile c b D E C := by
  refine ⟨fun m E C => ∃ a, μ a = m ∧ I a E C, ⟨μ a0, a0, rfl, h0⟩, ?_⟩
  rintro m E C ⟨a, rfl, i⟩
  have e : (fun E C => ∃ m', m' < μ a ∧ ∃ a', μ a' = m' ∧ I a' E C) = fun E C => ∃ a', μ a' < μ a ∧ I a' E C := by
    funext E C
    refine propext ⟨fun ⟨m', h1, a', h2, h3⟩ => ⟨a', by rw [h2]; exact h1, h3⟩, fun ⟨a', h1, h2⟩ => ⟨_, h1, a', rfl, h2⟩⟩
  rw [e]
  exact turn a E C i
/-- a for: by what is left -/
theorem dForGo_ind {h : DG} {b : DS} {D : DEnds} (I : List PyData → Ev → List Cell → Prop) (nil : ∀ E C, I [] E C → D.nx E C)
    (cons : ∀ x xs E C, I (x :: xs) E C → ∀ N : Ev → List Cell → Prop, (∀ E C, I xs E C → N E C) → h (.val x) E C fun E2 C2 => b { D with nx := N, ct := N, bk := D.nx } E2 C2) : ∀ ds E C, I ds E C → dForGo h b D ds E C
  | [], E, C, i => nil E C i
  | x :: xs, E, C, i => cons x xs E C i _ fun E C i' => dForGo_ind I nil cons xs E C i'
/-- a for over an image, by what has been taken -/
theorem dForGo_map {α : Type} {h : DG} {b : DS} {D : DEnds} (f : α → PyData) (full : List α) (I : List α → Ev → List Cell → Prop)
    (turn : ∀ pre a post E C, full = pre ++ a :: post → I pre E C → ∀ N : Ev → List Cell → Prop, (∀ E C, I (pre ++ [a]) E C → N E C) → h (.val (f a)) E C fun E2 C2 => b { D with nx := N, ct := N, bk := D.nx } E2 C2)
    (after : ∀ E C, I full E C → D.nx E C) {E : Ev} {C : List Cell} (start : I [] E C) : dForGo h b D (full.map f) E C := by
  have key : ∀ (post pre : List α) (E : Ev) (C : List Cell), full = pre ++ post → I pre E C → dForGo h b D (post.map f) E C := by
    intro post
    induction post with
    | nil =>
      intro pre E C e i
      rw [List.append_nil] at e
      subst e
      exact after E C i
    | cons a post ih =>
      intro pre E C e i
      exact turn pre a post E C e i _ fun E' C' i' => ih (pre ++ [a]) E' C' (by rw [List.append_assoc]; exact e) i'
  exact key full [] E C rfl start
theorem dForGo_pre {h : DG} {b : DS} {D : DEnds} (full : List PyData) (I : List PyData → Ev → List Cell → Prop)
    (turn : ∀ pre a post E C, full = pre ++ a :: post → I pre E C → ∀ N : Ev → List Cell → Prop, (∀ E C, I (pre ++ [a]) E C → N E C) → h (.val a) E C fun E2 C2 => b { D with nx := N, ct := N, bk := D.nx } E2 C2)
    (after : ∀ E C, I full E C → D.nx E C) {E : Ev} {C : List Cell} (start : I [] E C) : dForGo h b D full E C := by
  have := dForGo_map (h := h) (b := b) (D := D) (fun x => x) full I turn after start
  rw [List.map_id' full] at this
  exact this
theorem dForGo_range {h : DG} {b : DS} {D : DEnds} {lo : Int} (n : Nat) (I : Nat → Ev → List Cell → Prop)
    (turn : ∀ i E C, i < n → I i E C → ∀ N : Ev → List Cell → Prop, (∀ E C, I (i + 1) E C → N E C) → h (.val (.int (lo + (i : Nat)))) E C fun E2 C2 => b { D with nx := N, ct := N, bk := D.nx } E2 C2)
    (after : ∀ E C, I n E C → D.nx E C) {E : Ev} {C : List Cell} (start : I 0 E C) : dForGo h b D (rangeD lo n) E C := by
  refine dForGo_map (fun i : Nat => PyData.int (lo + (i : Nat))) (List.range n) (fun pre E C => I pre.length E C ∧ pre.length ≤ n) ?_ ?_ ⟨start, Nat.zero_le _⟩
  · rintro pre a post E C e ⟨i, hl⟩ N hN
    have h1 : (List.range n)[pre.length]? = some a := by rw [e]; exact List.getElem?_append_right (Nat.le_refl _) |>.trans (by simp)
    have h2 : pre.length < n := by
      have := congrArg List.length e
      rw [List.length_range, List.length_append, List.length_cons] at this
      omega
    rw [List.getElem?_range h2] at h1
    cases h1
    exact turn _ E C h2 i N fun E' C' i' => hN E' C' ⟨by rw [List.length_append]; exact i', by rw [List.length_append]; exact h2⟩
  · rintro E C ⟨i, _⟩
    rw [List.length_range] at i
    exact after E C i
/-- a comprehension: by what is left and what is made -/
theorem dLcGo_ind {h : DG} {tt : DT} {te : DE} {E : Ev} {Q : List D → List Cell → Prop} (I : List D → List D → List Cell → Prop) (nil : ∀ acc C, I [] acc C → Q acc C)
    (cons : ∀ x xs acc C, I (x :: xs) acc C → ∀ N : List D → List Cell → Prop, (∀ acc C, I xs acc C → N acc C) → h (.val x) E C fun E2 C1 => tt E2 C1 fun b C2 => if b = true then te E2 C2 (accK acc.length fun d C3 => N (acc ++ [d]) C3) else N acc C2) : ∀ ds acc C, I ds acc C → dLcGo h tt te E ds acc C Q
  | [], acc, C, i => nil acc C i
  | x :: xs, acc, C, i => cons x xs acc C i (fun acc C => dLcGo h tt te E xs acc C Q) fun acc C i' => dLcGo_ind I nil cons xs acc C i'
/-- .. that only filters and maps -/
theorem dLcGo_fm {h : DG} {tt : DT} {te : DE} {E : Ev} {Q : List D → List Cell → Prop} {C : List Cell} (p : D → Bool) (f : D → D) : ∀ (ds acc : List D), acc.length + ds.length ≤ sizeLine →
    (∀ x ∈ ds, ∀ (K : DK) (L : List Cell → Prop), (p x = true → K (.val (f x)) C) → (p x = false → L C) → h (.val x) E C fun E2 C1 => tt E2 C1 fun b C2 => if b = true then te E2 C2 K else L C2) →
    Q (acc ++ (ds.filter p).map f) C → dLcGo h tt te E ds acc C Q
  | [], acc, hl, cons, q => by
    rw [List.filter_nil, List.map_nil, List.append_nil] at q
    exact q
  | x :: xs, acc, hl, cons, q => by
    rw [List.length_cons] at hl
    have rest := fun y hy => cons y (List.mem_cons_of_mem _ hy)
    refine cons x List.mem_cons_self _ _ (fun e => ?_) fun e => ?_
    · refine ⟨by omega, dLcGo_fm p f xs (acc ++ [f x]) (by rw [List.length_append]; show acc.length + 1 + xs.length ≤ _; omega) rest ?_⟩
      rw [List.filter_cons, if_pos e, List.map_cons] at q
      rw [List.append_assoc]
      exact q
    · refine dLcGo_fm p f xs acc (by omega) rest ?_
      rw [List.filter_cons, if_neg (by rw [e]; decide)] at q
      exact q
/-- .. that only maps -/
theorem dLcGo_map {h : DG} {te : DE} {E : Ev} {Q : List D → List Cell → Prop} {C : List Cell} (f : D → D) (ds : List D) (hl : ds.length ≤ sizeLine)
    (cons : ∀ x ∈ ds, ∀ K : DK, K (.val (f x)) C → h (.val x) E C fun E2 C1 => te E2 C1 K) (q : Q (ds.map f) C) : dLcGo h dYes te E ds [] C Q := by
  refine dLcGo_fm (fun _ => true) f ds [] (by show 0 + _ ≤ _; omega) (fun x hx K L h1 _ => ?_) ?_
  · exact cons x hx K (h1 rfl)
  · rw [List.filter_eq_self.mpr fun _ _ => rfl]
    exact q
theorem okDi (i : Int) : (SeqAt.shaped (PyData.int i) = true) = True := eq_true rfl
theorem okDb (i : Bool) : (SeqAt.shaped (PyData.bool i) = true) = True := eq_true rfl
theorem okDn : (SeqAt.shaped PyData.none = true) = True := eq_true rfl
theorem eqvi (i j : Int) : PyData.eqv (.int i) (.int j) = decide (i = j) := rfl
theorem eqvs (i j : Str) : PyData.eqv (.str i) (.str j) = decide (i = j) := rfl
theorem okDs_of {z : Str} (h : ∀ c ∈ z.cps.toList, c < 128) : okD (.str z) := by
  have h1 : z.cps.all (· < 0x110000) = true := by
    rw [← Array.all_toList, List.all_eq_true]
    exact fun x hx => decide_eq_true (Nat.lt_trans (h x hx) (by decide))
  have h2 : (PyData.str z).canLay0 = true := h1
  unfold okD SeqAt.shaped
  rw [h2]
  rfl
end RR

namespace RR
open PySem PySem.Spec PyProof.Rows L2
/-! ### the same rules where the context is a comprehension's -/
section
variable {X : Cx} {K : PySem.W.Frag} (h : X.K = K)
include h
theorem ix_seqC : IxR X (rIx K) := h ▸ ix_seq
theorem op_addC : OpR X (binaryOp .Add) (rAddA K) := h ▸ op_addA
theorem op_eqC (hu : X.A.units + 64 < cLine) : OpR X (compareOp .Eq) (rEqD K) := h ▸ op_eqD hu
theorem op_neC (hu : X.A.units + 64 < cLine) : OpR X (compareOp .NotEq) (rNeD K) := h ▸ op_neD hu
theorem sl_anyC : SlR X (rSlN K) := h ▸ sl_any
theorem call_lenC : CallR X (.builtin "len") (rLenA K) := h ▸ call_lenA
theorem call_listC : CallR X (.type "list") (rListA K) := h ▸ call_listA
theorem call_tupC : CallR X (.type "tuple") (rTupA K) := h ▸ call_tupA
theorem cr_sumC (hc : X.calm = true) : CallR X (.builtin "sum") (rSum K) := h ▸ cr_sum hc
theorem cr_allC (hc : X.calm = true) : CallR X (.builtin "all") (rAll K) := h ▸ cr_all hc
theorem call_isiC : CallR X (.builtin "isinstance") (rIsi K) := h ▸ call_isi
theorem pi_seqC {tg l : Expr} {tl : TE} (hl : PE X l tl) : PI X tg l (iSeqA K tl) := h ▸ pi_seqA hl
theorem pt_truC {a : Expr} {ta : TE} (ha : PE X a ta) (he : ∀ whole, isTrue a X.env whole = (do let v ← whole; standAt a.pos; holding [v] (truthy v)) := by intro _; rfl) : PT X a (tTruA K ta) := h ▸ pt_truA ha he
end
/-- a comprehension over an image that only filters and maps -/
theorem dLcGo_over {α : Type} {h : DG} {tt : DT} {te : DE} {E : Ev} {Q : List D → List Cell → Prop} {C : List Cell} (g : α → D) (p : α → Bool) (f : α → D) : ∀ (xs : List α) (acc : List D), acc.length + xs.length ≤ sizeLine →
    (∀ x ∈ xs, ∀ (K : DK) (L : List Cell → Prop), (p x = true → K (.val (f x)) C) → (p x = false → L C) → h (.val (g x)) E C fun E2 C1 => tt E2 C1 fun b C2 => if b = true then te E2 C2 K else L C2) →
    Q (acc ++ (xs.filter p).map f) C → dLcGo h tt te E (xs.map g) acc C Q
  | [], acc, hl, cons, q => by
    rw [List.filter_nil, List.map_nil, List.append_nil] at q
    exact q
  | x :: xs, acc, hl, cons, q => by
    rw [List.length_cons] at hl
    have rest := fun y hy => cons y (List.mem_cons_of_mem _ hy)
    refine cons x List.mem_cons_self _ _ (fun e => ?_) fun e => ?_
    · refine ⟨by omega, dLcGo_over g p f xs (acc ++ [f x]) (by rw [List.length_append]; show acc.length + 1 + xs.length ≤ _; omega) rest ?_⟩
      rw [List.filter_cons, if_pos e, List.map_cons] at q
      rw [List.append_assoc]
      exact q
    · refine dLcGo_over g p f xs acc (by omega) rest ?_
      rw [List.filter_cons, if_neg (by rw [e]; decide)] at q
      exact q
theorem dLcGo_each {α : Type} {h : DG} {te : DE} {E : Ev} {Q : List D → List Cell → Prop} {C : List Cell} (g : α → D) (f : α → D) (xs : List α) (hl : xs.length ≤ sizeLine)
    (cons : ∀ x ∈ xs, ∀ K : DK, K (.val (f x)) C → h (.val (g x)) E C fun E2 C1 => te E2 C1 K) (q : Q (xs.map f) C) : dLcGo h dYes te E (xs.map g) [] C Q := by
  refine dLcGo_over g (fun _ => true) f xs [] (by show 0 + _ ≤ _; omega) (fun x hx K L h1 _ => ?_) ?_
  · exact cons x hx K (h1 rfl)
  · rw [List.filter_eq_self.mpr fun _ _ => rfl]
    exact q
theorem if_of {P : Prop} {c : Bool} {A B : Prop} (h : c = true ↔ P) (a : P → A) (b : ¬ P → B) : if c = true then A else B := by
  by_cases e : c = true
  · rw [if_pos e]
    exact a (h.mp e)
  · rw [if_neg e]
    exact b fun z => e (h.mpr z)
/-- a test, both ways -/
theorem ifd {P A B : Prop} [Decidable P] (a : P → A) (b : ¬ P → B) : if decide P = true then A else B := if_of (by simp) a b
/-! ### -x -/
def unK (f : Int → Int) (Q : DK) : W → List Cell → Prop
  | .val (.int i), C => Q (.val (.int (f i))) C
  | _, _ => False
def dUn (f : Int → Int) (a : DE) : DE := fun E C Q => a E C (unK f Q)
instance ce_un {ct : Ct} {f : Int → Int} {t : TE} {a : DE} [h : CE ct t a] : CE ct (tUn (rU fun i => .int (f i)) t) (dUn f a) := ⟨fun B g σ H E C Q K' R k q => by
  refine h.run B g σ H E C _ _ R (fun v H1 ⟨g1, C1, x, k1, R1, r1, q1⟩ => ?_) q
  unfold unK at q1
  split at q1
  · exact ⟨_, rw_int r1, k _ _ ⟨g1, C1, .val (.int _), k1, R1, .int _, q1⟩⟩
  · exact q1.elim⟩
/-- one statement, then the others -/
theorem dSeq_go {a b : DS} {D : DEnds} {E : Ev} {C : List Cell} (h : a { D with nx := fun E C => b D E C } E C) : dSeqS a b D E C := h
/-- .. by what holds between them -/
theorem dSeq_cut {a b : DS} {D : DEnds} {E : Ev} {C : List Cell} (I : Ev → List Cell → Prop) (ha : ∀ N : Ev → List Cell → Prop, (∀ E C, I E C → N E C) → a { D with nx := N } E C) (hb : ∀ E C, I E C → b D E C) : dSeqS a b D E C := ha _ hb
theorem zip_map {α : Type} (f : α → D) : ∀ xs ys : List α, zipD (xs.map f) (ys.map f) = (xs.zip ys).map fun p => .tuple [f p.1, f p.2]
  | [], _ => rfl
  | _ :: _, [] => rfl
  | x :: xs, y :: ys => congrArg (PyData.tuple [f x, f y] :: ·) (zip_map f xs ys)
end RR

namespace RR
open PySem PySem.Spec PyProof.Rows L2
/-! ### objects: instances of the program's classes, frozen as data or in a cell -/
/-- of each class in the table: its names, that they are the instance's alone -/
class CtOk (K : PySem.W.Frag) (ct : Ct) : Prop where
  ok : ∀ c C ns, ct.cl c = some (C, ns) → ns = clsF c ∧ Cls K C ∧ ∀ f ∈ ns, NoAttr K C f
instance {K : PySem.W.Frag} {ct : Ct} {E : XK} {R : XD} [h : CtOk K ct] : CtOk K (ct.w E R) := ⟨h.ok⟩
/-- the class at C is number c -/
class ClA (ct : Ct) (C : Addr) (c : outParam Int) : Prop where
  at_ : ct.cl c = some (C, clsF c)
instance {ct : Ct} {C : Addr} {c : Int} {E : XK} {R : XD} [h : ClA ct C c] : ClA (ct.w E R) C c := ⟨h.at_⟩
def fldOf {α : Type} (c : Int) (f : Str) (xs : List α) : Option α := ((clsF c).zip xs).lookup f
theorem lookup_zip {α : Type} (f : Str) : ∀ (ns : List Str) (xs : List α) (x : α), (ns.zip xs).lookup f = some x → ∃ i : Nat, ns[i]? = some f ∧ xs[i]? = some x ∧ ∀ {β : Type} (ys : List β) (y : β), ys[i]? = some y → (ns.zip ys).lookup f = some y
  | [], _, _, h => nomatch h
  | _ :: _, [], _, h => nomatch h
  | n :: ns, x0 :: xs, x, h => by
    have h' : (match f == n with | true => some x0 | false => (ns.zip xs).lookup f) = some x := h
    by_cases e : f = n
    · subst e
      rw [beq_self_eq_true] at h'
      refine ⟨0, rfl, h', fun ys y hy => ?_⟩
      cases ys with
      | nil => cases hy
      | cons y0 ys =>
        show (match f == f with | true => some y0 | false => (ns.zip ys).lookup f) = some y
        rw [beq_self_eq_true]
        exact hy
    · have eb : (f == n) = false := beq_false_of_ne e
      rw [eb] at h'
      obtain ⟨i, h1, h2, h3⟩ := lookup_zip f ns xs x h'
      refine ⟨i + 1, h1, h2, fun ys y hy => ?_⟩
      cases ys with
      | nil => cases hy
      | cons y0 ys =>
        show (match f == n with | true => some y0 | false => (ns.zip ys).lookup f) = some y
        rw [eb]
        exact h3 ys y hy
def fldW (Q : DK) : Option W → List Cell → Prop
  | some w, C => Q w C
  | none, _ => False
def fldC (f : Str) (Q : DK) : Option Cell → List Cell → Prop
  | some (.obj c ws), C => fldW Q (fldOf c f ws) C
  | _, _ => False
def fldK (f : Str) (Q : DK) : W → List Cell → Prop
  | .val (.dict [(.int c, .list ds)]), C => ixK Q (fldOf c f ds) C
  | .ref k, C => fldC f Q C[k]? C
  | _, _ => False
def dFld (f : Str) (a : DE) : DE := fun E C Q => a E C (fldK f Q)
theorem Paired.at {α β : Type} {R : α → β → Prop} : ∀ {xs : List α} {ys : List β}, Paired R xs ys → ∀ (i : Nat) (y : β), ys[i]? = some y → ∃ x, xs[i]? = some x ∧ R x y
  | _, _, .nil, i, y, h => by simp at h
  | _, _, .cons h1 h, 0, y, e => ⟨_, rfl, by
      have e2 := Option.some.inj e
      rw [← e2]
      exact h1⟩
  | _, _, .cons h1 h, i + 1, y, e => Paired.at h i y e
instance ce_fld {K : PySem.W.Frag} {ct : Ct} {f : Str} {t : TE} {a : DE} [h : CE ct t a] [hk : CtOk K ct] : CE ct (tFld K t f) (dFld f a) := ⟨fun B g σ H E C Q K' R k q => by
  refine h.run B g σ H E C _ _ R (fun v H1 ⟨g1, C1, x, k1, R1, r1, q1⟩ => ?_) q
  unfold fldK at q1
  split at q1
  · rename_i c ds
    cases (show RD ct g1.F H1 v (.dict [(.int c, .list ds)]) from r1) with
    | obj hf hc ho hl hs =>
      obtain ⟨rfl, cls, no⟩ := hk.ok _ _ _ hc
      unfold ixK at q1
      split at q1
      · rename_i d e
        obtain ⟨i, h1, h2, h3⟩ := lookup_zip _ _ _ _ e
        obtain ⟨v, hv, rv⟩ := hs.get i d h2
        exact ⟨_, _, _, _, v, rfl, ho, cls, no f (List.mem_of_getElem? h1), h3 _ v hv, k _ _ ⟨g1, _, .val d, k1, R1, rv, q1⟩⟩
      · exact q1.elim
  · rename_i j
    obtain ⟨a0, ha, rfl⟩ := r1
    unfold fldC at q1
    split at q1
    · rename_i c ws e
      obtain ⟨a', m, z1, z2, z3, Ca, ns, dx, vs, hc, ho, hl, hs⟩ := R1.cs.at_ j _ e
      rw [ha] at z1
      cases z1
      obtain ⟨rfl, cls, no⟩ := hk.ok _ _ _ hc
      unfold fldW at q1
      split at q1
      · rename_i wd e2
        obtain ⟨i, h1, h2, h3⟩ := lookup_zip _ _ _ _ e2
        obtain ⟨v, hv, rv⟩ := Paired.at hs i wd h2
        exact ⟨_, _, _, _, v, rfl, ho, cls, no f (List.mem_of_getElem? h1), h3 _ v hv, k _ _ ⟨g1, _, wd, k1, R1, rv, q1⟩⟩
      · exact q1.elim
    · exact q1.elim
  · exact q1.elim⟩
/-! ### a class whose __init__ takes its fields one by one -/
def spInit (K : PySem.W.Frag) (ns : List Str) : Sp := fun vs H Q _ => ∃ (a C dx : Addr) (us : List V), vs = .ref a :: us ∧ us.length = ns.length ∧ H a = some (.ins C dx []) ∧ Cls K C ∧ (∀ f ∈ ns, NoAttr K C f) ∧ Q .non (upd H a (.ins C dx (ns.zip us)))
def makK (c : Int) (n : Nat) (Q : DK) : Option (List D) → List Cell → Prop
  | some ds, C => ds.length = n ∧ Q (.val (.dict [(.int c, .list ds)])) C
  | none, _ => False
def dMake (c : Int) (n : Nat) (a : DA) : DE := fun E C Q => a E C fun ws C1 => makK c n Q (vals ws) C1
theorem upd_upd {H : Hp} {a : Addr} {o o' : HO} : upd (upd H a o) a o' = upd H a o' := by
  funext b
  by_cases e : b = a
  · rw [e, upd_same, upd_same]
  · rw [upd_ne e, upd_ne e, upd_ne e]
instance ce_make {K : PySem.W.Frag} {ct : Ct} {Ca : Addr} {c : Int} {Ex : XK} {t : TA} {a : DA} [h : CA ct t a] [hk : CtOk K ct] [hc : ClA ct Ca c] : CE ct (tMake Ca (spInit K (clsF c)) [] Ex t) (dMake c (clsF c).length a) := ⟨fun B g σ H E C Q K' R k q => by
  refine h.run B g σ H E C _ _ R (fun vs H1 ⟨g1, C1, ws, k1, R1, r1, q1⟩ => ?_) q
  unfold makK at q1
  dsimp only at q1
  split at q1
  · rename_i ds e
    have hd := vals_ok r1 e
    obtain ⟨hn, q1⟩ := q1
    obtain ⟨_, cls, no⟩ := hk.ok _ _ _ hc.at_
    intro x dx nx ndx nex
    rw [List.append_nil]
    refine ⟨x, Ca, dx, vs, rfl, by rw [hd.length, hn], upd_same, cls, no, rfl, ?_⟩
    rw [upd_upd]
    obtain ⟨k2, R2⟩ := R1.new (o := .own x) false ndx
    have nx2 : upd H1 dx (.own x) x = none := by
      rw [upd_ne (Ne.symm nex)]
      exact nx
    obtain ⟨k3, R3⟩ := R2.new (o := .ins Ca dx ((clsF c).zip vs)) true nx2
    refine k _ _ ⟨_, _, .val (.dict [(.int c, .list ds)]), k1.trans (k2.trans k3), R3, ?_, q1⟩
    exact .obj (.inr ⟨rfl, rfl⟩) hc.at_ upd_same (by rw [hd.length, hn]) (RDs.mono (k2.trans k3).kp _ _ hd)
  · exact q1.elim⟩
/-- __init__ of a class, as the top has made it -/
structure Ini (K : PySem.W.Frag) (mg : Str → Option Value) (x : Str) (C : Addr) (q : Str) (st : Stmt) (ps : List Str) where
  f : Addr
  fd : FuncData
  F : Fun K "__init__" q st f fd
  b : Binds K fd ps []
  M : Mk K C f
  g : mg x = some (.ref C)
theorem fld00 {α : Type} (a b c : α) : fldOf 0 "link" [a, b, c] = some a := rfl
theorem fld01 {α : Type} (a b c : α) : fldOf 0 "root" [a, b, c] = some b := rfl
theorem fld02 {α : Type} (a b c : α) : fldOf 0 "is_open" [a, b, c] = some c := rfl
theorem lenF0 : (clsF 0).length = 3 := rfl
theorem lenF1 : (clsF 1).length = 2 := rfl
theorem lenF2 : (clsF 2).length = 3 := rfl
theorem pe_fldC {X : Cx} {K : PySem.W.Frag} {e : Expr} {f : Str} {pos : Pos} {ta : TE} (h : X.K = K) (he : PE X e ta) (hb : attributeBase e f X.env (eval e X.env) = eval e X.env) : PE X (.Attribute e f pos) (tFld K ta f) := h ▸ pe_fld he hb
theorem get_end {α : Type} (J : List α) (x : α) : (J ++ [x])[J.length]? = some x := by
  rw [List.getElem?_append_right (Nat.le_refl _), Nat.sub_self]
  rfl
theorem set_end {α : Type} (J : List α) (x y : α) : (J ++ [x]).set J.length y = J ++ [y] := by
  rw [List.set_append_right _ _ (Nat.le_refl _), Nat.sub_self]
  rfl
/-- the table of a program's classes -/
def clT (l : List (Int × Addr)) : Cl := fun c => (l.lookup c).map fun C => (C, clsF c)
theorem lookup_mem {α : Type} {l : List (Int × α)} {c : Int} {x : α} (h : l.lookup c = some x) : (c, x) ∈ l := by
  induction l with
  | nil => cases h
  | cons p r ih =>
    have h' : (match c == p.1 with | true => some p.2 | false => r.lookup c) = some x := h
    by_cases e : c = p.1
    · subst e
      rw [beq_self_eq_true] at h'
      cases h'
      exact List.mem_cons_self
    · rw [beq_false_of_ne e] at h'
      exact List.mem_cons_of_mem _ (ih h')
theorem ctOk_of {K : PySem.W.Frag} {l : List (Int × Addr)} {E : XK} {R : XD} (h : ∀ p ∈ l, Cls K p.2 ∧ ∀ f ∈ clsF p.1, NoAttr K p.2 f) : CtOk K ⟨clT l, E, R⟩ := ⟨fun c C ns e => by
  have e' : (l.lookup c).map (fun C => (C, clsF c)) = some (C, ns) := e
  cases e2 : l.lookup c with
  | none =>
    rw [e2] at e'
    cases e'
  | some x =>
    rw [e2] at e'
    cases e'
    have := h _ (lookup_mem e2)
    exact ⟨rfl, this.1, this.2⟩⟩
end RR

namespace RR
open PySem PySem.Spec PyProof.Rows L2
def topS (i : Nat) : Stmt := PySem.Challenge.pw_rightrows_k07_heads.main.body.getD i (.Pass ⟨0, 0, 0, 0⟩)
abbrev sDraw : Stmt := topS 22
/-! ### heaps -/
theorem same_new {H : Hp} {p : Addr} (h : H p = none) (o : HO) : Same H (upd H p o) := fun b u q => by
  rw [upd_ne (ne_of_none q h)]
  exact q
/-- all but the drawer's list stands as it was -/
def Le (st : Addr) (H H' : Hp) : Prop := ∀ b o, b ≠ st → H b = some o → H' b = some o
theorem Le.refl (st : Addr) (H : Hp) : Le st H H := fun _ _ _ h => h
theorem Le.trans {st : Addr} {H H1 H2 : Hp} (a : Le st H H1) (b : Le st H1 H2) : Le st H H2 := fun c o n h => b c o n (a c o n h)
theorem Le.of {st : Addr} {H H' : Hp} (a : Same H H') : Le st H H' := fun b o _ h => a b o h
theorem Le.st {st : Addr} {H : Hp} (o : HO) : Le st H (upd H st o) := fun b u n h => by
  rw [upd_ne n]
  exact h
/-- the drawer's list -/
def Good (st l : Addr) (H : Hp) : Prop := ∃ (a p c : Int) (ns : List Int), H st = some (.lst [.int a, .int p, .ref l, .int c]) ∧ 0 ≤ a ∧ 0 ≤ p ∧ 0 ≤ c ∧ c < 2147483647 ∧ l ≠ st ∧ H l = some (.lst (ns.map V.int))
theorem Good.same {st l : Addr} {H H' : Hp} (g : Good st l H) (s : Same H H') : Good st l H' := by
  obtain ⟨a, p, c, ns, h, h1, h2, h3, h4, h5, h6⟩ := g
  exact ⟨a, p, c, ns, s _ _ h, h1, h2, h3, h4, h5, s _ _ h6⟩
theorem Good.ne {st l D : Addr} {H : Hp} (g : Good st l H) (h : H D = none) : D ≠ st ∧ D ≠ l := by
  obtain ⟨a, p, c, ns, h1, _, _, _, _, _, h6⟩ := g
  refine ⟨fun e => ?_, fun e => ?_⟩
  · rw [e, h1] at h
    cases h
  · rw [e, h6] at h
    cases h
theorem Good.put {st l D : Addr} {H : Hp} {o : HO} (g : Good st l H) (h : D ≠ st ∧ D ≠ l) : Good st l (upd H D o) := by
  obtain ⟨a, p, c, ns, h1, h2, h3, h4, h5, h6, h7⟩ := g
  exact ⟨a, p, c, ns, by rw [upd_ne h.1.symm]; exact h1, h2, h3, h4, h5, h6, by rw [upd_ne h.2.symm]; exact h7⟩
theorem Le.mut {st D : Addr} {H H' : Hp} {o : HO} (le : Le st H H') (h : H D = none) : Le st H (upd H' D o) := fun b u n e => by
  rw [upd_ne (ne_of_none e h)]
  exact le b u n e
theorem small {n : Nat} (h : n ≤ 1000) : n ≤ sizeLine := Nat.le_of_lt (small1000 h)
/-- a def of the text as it stands behind the top -/
structure Def (K : PySem.W.Frag) (mg : Str → Option Value) (x : Str) (st : Stmt) (ps : List Str) where
  f : Addr
  fd : FuncData
  F : Fun K x x st f fd
  b : Binds K fd ps []
  m : mg x = some (.ref f)
def spDraw : Sp := fun vs H Q _ => ∃ (st l : Addr) (n : Int), vs = [.ref st, .int n] ∧ Good st l H ∧ 0 < n ∧ n.natAbs < 2 ^ 200 ∧ ∀ d H', 0 ≤ d → d < n → Le st H H' → Good st l H' → Q (.int d) H'
theorem scDraw : FnScope ["state", "limit", "position", "cell", "mixed", "digit"] ["state", "limit"] (defScope sDraw) := ⟨rfl, rfl, rfl, by decide +kernel, rfl, by decide +kernel, by decide +kernel⟩
section
variable {P : Program} {w : World} {K : PySem.W.Frag} {mg : Str → Option Value} {base : Heap}
theorem ok_draw (D : Def K mg "_law_draw" sDraw ["state", "limit"]) (ml : mg "len" = none) (mi : mg "int" = none) : FnOk P w K mg base CX0 1 D.f D.fd ["state", "limit"] spDraw := by
  refine D.F.ok scDraw (fun vs H Q E h => ?_) (fun cdv A outer s H vs Q E hr h => ?_)
  · obtain ⟨st, l, n, rfl, _⟩ := h
    rfl
  obtain ⟨st, l, n, rfl, g, hn0, hn, q⟩ := h
  refine ⟨_, C8.pss_cut (ps_if (pt_cmpR op_lt (pe_ix ix_list (pv 0) pe_int (fun _ _ => rfl)) (pv 1) (nomark _))
      (pss_cons (ps_set (i := 2) scDraw.nd rfl (.inl rfl) (pe_ix ix_list (pv 0) pe_int (fun _ _ => rfl)))
      (pss_cons (ps_asg (pe_op op_add (pv 2) pe_int) (pg_sub (pv 0) pe_int set_list))
      (pss_cons (ps_set (i := 3) scDraw.nd rfl (.inl rfl) pe_int)
      (C8.pss_cut (ps_if (pt_cmpR op_lt (pv 2) (pe_callB call_len_seq (by rfl) ml PySem.boot_len (pa_cons (pe_ix ix_list (pv 0) pe_int (fun _ _ => rfl)) pa_nil)) (nomark _))
        (pss_one (ps_set (i := 3) scDraw.nd rfl (.inl rfl) (pe_ix ix_list (pe_ix ix_list (pv 0) pe_int (fun _ _ => rfl)) (pv 2) (fun _ _ => rfl)))) pss_nil)
      (pss_one (ps_if (pt_cmpR op_ge (pv 3) (pe_op op_pow pe_int pe_int) (nomark _))
        (pss_one (ps_asg (pv 3) (pg_sub (pv 0) pe_int set_list)))
        (C8.pss_cut (ps_asg (pe_op op_modN (pe_callTy call_int1 (by rfl) mi (by decide +kernel) (pa_cons (pe_op op_mul (pe_op op_add (pe_op op_add (pe_op op_add (pe_ix ix_list (pv 0) pe_int (fun _ _ => rfl)) (pe_op op_modN (pe_callTy call_int1 (by rfl) mi (by decide +kernel) (pa_cons (pv 3) pa_nil)) pe_int)) (pv 2)) pe_int) pe_int) pa_nil)) pe_int) (pg_sub (pv 0) pe_int set_list))
        (C8.pss_cut (ps_set (i := 4) scDraw.nd rfl (.inl rfl) (pe_op op_modN (pe_callTy call_int1 (by rfl) mi (by decide +kernel) (pa_cons (pe_op op_add (pe_op op_mul (pe_ix ix_list (pv 0) pe_int (fun _ _ => rfl)) pe_int) pe_int) pa_nil)) pe_int))
        (pss_one (ps_asg (pe_op op_add (pe_op op_mul (pv 4) pe_int) (pe_op op_modN (pe_callTy call_int1 (by rfl) mi (by decide +kernel) (pa_cons (pe_op op_add (pe_op op_mul (pv 4) pe_int) (pe_ix ix_list (pv 0) pe_int (fun _ _ => rfl))) pa_nil)) pe_int)) (pg_sub (pv 0) pe_int set_list))))))))))) pss_nil)
    (pss_cons (ps_set (i := 5) scDraw.nd rfl (.inl rfl) (pe_op op_modN (pe_callTy call_int1 (by rfl) mi (by decide +kernel) (pa_cons (pe_ix ix_list (pv 0) pe_int (fun _ _ => rfl)) pa_nil)) (pv 1)))
    (pss_cons (ps_asg (pe_op op_fdivW (pe_ix ix_list (pv 0) pe_int (fun _ _ => rfl)) (pv 1)) (pg_sub (pv 0) pe_int set_list))
    (pss_one (ps_ret (pv 5))))), ?_⟩
  obtain ⟨a, p, c, ns, h, ha, hp, hc, hc2, hl, hns⟩ := g
  refine ⟨fun σ' H' => ∃ y2 y3 y4 y5, σ' = [some (.ref st), some (.int n), y2, y3, y4, y5] ∧ Le st H H' ∧ Good st l H', ?_, ?_⟩
  · refine ⟨_, rfl, st, _, 0, _, rfl, rfl, SqL.of h, atI_nat (j := 0) rfl, _, rfl, _, _, rfl, rfl, _, rfl, ite2 (fun _ => ?_) (fun _ => ?_)⟩
    · refine ⟨_, rfl, st, _, 1, _, rfl, rfl, SqL.of h, atI_nat (j := 1) rfl, ?_⟩
      refine ⟨_, rfl, _, _, rfl, rfl, _, rfl, st, _, 1, 1, rfl, rfl, h, rfl, ?_⟩
      have h1 : upd H st (.lst ([.int a, .int p, .ref l, .int c].set 1 (.int (p + 1)))) st = some (.lst [.int a, .int (p + 1), .ref l, .int c]) := upd_same
      have hns1 : upd H st (.lst ([.int a, .int p, .ref l, .int c].set 1 (.int (p + 1)))) l = some (.lst (ns.map V.int)) := by
        rw [upd_ne hl]
        exact hns
      refine ⟨fun σ' H' => ∃ cell : Int, σ' = [some (.ref st), some (.int n), some (.int p), some (.int cell), none, none] ∧ H' = upd H st (.lst ([.int a, .int p, .ref l, .int c].set 1 (.int (p + 1)))), ?_, ?_⟩
      · refine ⟨_, rfl, _, rfl, st, _, 2, _, rfl, rfl, SqL.of h1, atI_nat (j := 2) rfl, l, _, rfl, .inl (SqL.of hns1), _, _, rfl, rfl, _, rfl, ite2 (fun hlt => ?_) (fun _ => ?_)⟩
        · have hlt2 : p < (((ns.map V.int).length : Nat) : Int) := of_decide_eq_true hlt
          rw [List.length_map] at hlt2
          have hk : p.toNat < ns.length := by omega
          have hg : atI (ns.map V.int) p = some (.int ns[p.toNat]) := by
            have e : ((p.toNat : Nat) : Int) = p := by omega
            have z : atI (ns.map V.int) ((p.toNat : Nat) : Int) = some (.int ns[p.toNat]) := atI_nat (by rw [List.getElem?_map, List.getElem?_eq_getElem hk]; rfl)
            rw [e] at z
            exact z
          refine ⟨_, rfl, st, _, 2, _, rfl, rfl, SqL.of h1, atI_nat (j := 2) rfl, _, rfl, l, _, p, _, rfl, rfl, SqL.of hns1, hg, ?_⟩
          exact ⟨_, rfl, rfl⟩
        · exact ⟨_, rfl, rfl⟩
      · rintro σ' H' ⟨cell, rfl, rfl⟩
        refine ⟨_, rfl, 10, 18, rfl, rfl, ⟨by decide, by decide, by decide⟩, _, _, rfl, rfl, _, rfl, ite2 (fun hge => ?_) (fun _ => ?_)⟩
        · have hge2 : cell ≥ 10 ^ 18 := of_decide_eq_true hge
          refine ⟨_, rfl, _, rfl, st, _, 0, 0, rfl, rfl, h1, rfl, ?_⟩
          refine ⟨_, _, _, _, rfl, fun b o nb e => by rw [upd_ne nb, upd_ne nb]; exact e, cell, p + 1, c, ns, upd_same, by omega, by omega, hc, hc2, hl, ?_⟩
          rw [upd_ne hl]
          exact hns1
        · have le1 : Le st H (upd H st (.lst ([.int a, .int p, .ref l, .int c].set 1 (.int (p + 1))))) := Le.st _
          refine ⟨fun σ' H' => ∃ x : Int, σ' = [some (.ref st), some (.int n), some (.int p), some (.int cell), none, none] ∧ 0 ≤ x ∧ x < 2147483647 ∧ H' st = some (.lst [.int a, .int (p + 1), .ref l, .int x]) ∧ H' l = some (.lst (ns.map V.int)) ∧ Le st H H', ?_, ?_⟩
          · refine ⟨_, rfl, st, _, 3, _, rfl, rfl, SqL.of h1, atI_nat (j := 3) rfl, _, rfl, .inl ⟨_, rfl, _, _, rfl, rfl, (by show (2147483629 : Int) ≠ 0; decide), _, _, rfl, rfl, ?_⟩⟩
            refine ⟨_, rfl, _, _, rfl, rfl, _, _, rfl, rfl, _, _, rfl, rfl, .inr (by decide), .inl ⟨_, rfl, _, _, rfl, rfl, (by show (2147483647 : Int) ≠ 0; decide), ?_⟩⟩
            refine ⟨_, rfl, st, _, 3, 3, rfl, rfl, h1, rfl, ?_⟩
            exact ⟨_, rfl, Int.fmod_nonneg_of_pos _ (by decide), Int.fmod_lt_of_pos _ (by decide), upd_same, by rw [upd_ne hl]; exact hns1, le1.trans (Le.st _)⟩
          · rintro σ' H2 ⟨x, rfl, hx0, hx1, h2, hns2, le2⟩
            refine ⟨fun σ' H' => ∃ m : Int, σ' = [some (.ref st), some (.int n), some (.int p), some (.int cell), some (.int m), none] ∧ 0 ≤ m ∧ H' = H2, ?_, ?_⟩
            · refine ⟨_, rfl, st, _, 3, _, rfl, rfl, SqL.of h2, atI_nat (j := 3) rfl, _, _, rfl, rfl, .inr (by decide), _, _, rfl, rfl, .inl ⟨_, rfl, _, _, rfl, rfl, (by show (2147483629 : Int) ≠ 0; decide), ?_⟩⟩
              exact ⟨_, rfl, Int.fmod_nonneg_of_pos _ (by decide), rfl⟩
            · rintro σ' H3 ⟨m, rfl, hm0, rfl⟩
              refine ⟨_, rfl, _, _, rfl, rfl, .inr (by decide), _, rfl, _, _, rfl, rfl, .inr (by decide), _, rfl, st, _, 3, _, rfl, rfl, SqL.of h2, atI_nat (j := 3) rfl, _, _, rfl, rfl, .inl ⟨_, rfl, _, _, rfl, rfl, (by show (2147483587 : Int) ≠ 0; decide), _, _, rfl, rfl, ?_⟩⟩
              refine ⟨_, rfl, st, _, 0, 0, rfl, rfl, h2, rfl, ?_⟩
              have hk0 : 0 ≤ Int.fmod (m * 30011 + x) 2147483587 := Int.fmod_nonneg_of_pos _ (by decide)
              refine ⟨_, _, _, _, rfl, le2.trans (Le.st _), m * 2147483647 + Int.fmod (m * 30011 + x) 2147483587, p + 1, x, ns, upd_same, by omega, by omega, hx0, hx1, hl, ?_⟩
              rw [upd_ne hl]
              exact hns2
    · exact ⟨_, _, _, _, rfl, Le.refl _ _, a, p, c, ns, h, ha, hp, hc, hc2, hl, hns⟩
  · rintro σ' H' ⟨y2, y3, y4, y5, rfl, le, a, p, c, ns, h, ha, hp, hc, hc2, hl, hns⟩
    refine ⟨_, rfl, st, _, 0, _, rfl, rfl, SqL.of h, atI_nat (j := 0) rfl, .inl ⟨_, rfl, ?_⟩⟩
    refine ⟨_, rfl, _, _, rfl, rfl, (by omega), ?_⟩
    refine ⟨_, rfl, st, _, 0, _, rfl, rfl, SqL.of h, atI_nat (j := 0) rfl, _, rfl, _, _, rfl, rfl, wide_div hn0 hn (by decide) (by decide), ?_⟩
    refine ⟨_, rfl, st, _, 0, 0, rfl, rfl, h, rfl, ?_⟩
    refine ⟨_, rfl, ?_⟩
    refine q _ _ (Int.fmod_nonneg_of_pos _ hn0) (Int.fmod_lt_of_pos _ hn0) (fun b o nb e => by rw [upd_ne nb]; exact le _ _ nb e) ⟨a / n, p, c, ns, upd_same, Int.ediv_nonneg ha (by omega), hp, hc, hc2, hl, by rw [upd_ne hl]; exact hns⟩
end

end RR

namespace RR
open PySem PySem.Spec PyProof.Rows L2
abbrev sKey : Stmt := topS 27
abbrev sRow : Stmt := topS 28
/-! ### data that never changes -/
/-- tuples stand as they stood -/
def Tk (H H' : Hp) : Prop := ∀ a xs, H a = some (.tup xs) → H' a = some (.tup xs)
theorem Tk.refl (H : Hp) : Tk H H := fun _ _ h => h
theorem Tk.trans {H H1 H2 : Hp} (a : Tk H H1) (b : Tk H1 H2) : Tk H H2 := fun c o h => b c o (a c o h)
theorem Tk.same {H H' : Hp} (s : Same H H') : Tk H H' := fun _ _ h => s _ _ h
theorem Tk.le {st l : Addr} {H H' : Hp} (g : Good st l H) (s : Le st H H') : Tk H H' := fun a xs h => s a _ (fun e => by
  obtain ⟨i, p, c, ns, h2, _⟩ := g
  rw [e, h2] at h
  cases h) h
/-- a store to what is no tuple -/
theorem Tk.put {H : Hp} {p : Addr} (o : HO) (h : ∀ xs, H p ≠ some (.tup xs)) : Tk H (upd H p o) := fun a xs e => by
  rw [upd_ne (fun z => h xs (by rw [← z]; exact e))]
  exact e
theorem Tk.new {H : Hp} {p : Addr} (h : H p = none) (o : HO) : Tk H (upd H p o) := Tk.same (same_new h o)
mutual
inductive TD (H : Hp) : V → PyData → Prop
  | non : TD H .non .none
  | int (i : Int) : TD H (.int i) (.int i)
  | str (x : Str) : TD H (.str x) (.str x)
  | bl (b : Bool) : TD H (.bl b) (.bool b)
  | tup {a : Addr} {xs : List V} {ds : List PyData} : H a = some (.tup xs) → TDs H xs ds → TD H (.ref a) (.tuple ds)
inductive TDs (H : Hp) : List V → List PyData → Prop
  | nil : TDs H [] []
  | cons {v : V} {vs : List V} {d : PyData} {ds : List PyData} : TD H v d → TDs H vs ds → TDs H (v :: vs) (d :: ds)
end
mutual
theorem TD.mono {H H' : Hp} (k : Tk H H') : ∀ (d : PyData) (v : V), TD H v d → TD H' v d
  | _, _, .non => .non
  | _, _, .int i => .int i
  | _, _, .str x => .str x
  | _, _, .bl b => .bl b
  | .tuple ds, .ref a, .tup (xs := xs) h hs => .tup (k _ _ h) (TDs.mono k ds xs hs)
theorem TDs.mono {H H' : Hp} (k : Tk H H') : ∀ (ds : List PyData) (vs : List V), TDs H vs ds → TDs H' vs ds
  | _, _, .nil => .nil
  | d :: ds, v :: vs, .cons h hs => .cons (TD.mono k d v h) (TDs.mono k ds vs hs)
end
mutual
theorem TD.dp {K : PySem.W.Frag} {H : Hp} : ∀ (d : PyData) (v : V), TD H v d → Dp K H v d
  | _, _, .non => .non
  | _, _, .int i => .int i
  | _, _, .str x => .str x
  | _, _, .bl b => .bl b
  | .tuple ds, .ref a, .tup (xs := xs) h hs => .tup (SqT.of h) (TDs.dp ds xs hs)
theorem TDs.dp {K : PySem.W.Frag} {H : Hp} : ∀ (ds : List PyData) (vs : List V), TDs H vs ds → DpAll K H vs ds
  | _, _, .nil => .nil
  | d :: ds, v :: vs, .cons h hs => .cons (TD.dp d v h) (TDs.dp ds vs hs)
end
theorem TDs.length {H : Hp} : ∀ {vs : List V} {ds : List PyData}, TDs H vs ds → vs.length = ds.length
  | _, _, .nil => rfl
  | _, _, .cons _ h => congrArg Nat.succ (TDs.length h)
theorem TDs.get {H : Hp} : ∀ {vs : List V} {ds : List PyData}, TDs H vs ds → ∀ (i : Nat) (v : V), vs[i]? = some v → ∃ d, ds[i]? = some d ∧ TD H v d
  | _, _, .nil, i, v, h => by simp at h
  | _, _, .cons h1 h, 0, v, e => ⟨_, rfl, by
      have e2 := Option.some.inj e
      rw [← e2]
      exact h1⟩
  | _, _, .cons h1 h, i + 1, v, e => TDs.get h i v e
theorem TDs.app {H : Hp} : ∀ {vs ws : List V} {ds es : List PyData}, TDs H vs ds → TDs H ws es → TDs H (vs ++ ws) (ds ++ es)
  | _, _, _, _, .nil, h => h
  | _, _, _, _, .cons h1 h2, h => .cons h1 (TDs.app h2 h)
theorem TDs.ints {H : Hp} : ∀ ns : List Int, TDs H (ns.map V.int) (ns.map PyData.int)
  | [] => .nil
  | n :: r => .cons (.int n) (TDs.ints r)
def rowD (ns : List Int) : PyData := .tuple (ns.map PyData.int)
def pairD (p : Str × List Int) : PyData := .tuple [.str p.1, rowD p.2]
/-! ### keys, rows -/
def letS : Str := "abcdefghijklmnopqrstuvwxyz0123456789"
def KeyOk (s : Str) : Prop := 1 ≤ s.length ∧ s.length ≤ 8 ∧ ∀ c ∈ s.cps.toList, c ∈ letS.cps.toList
def RowOk (ns : List Int) : Prop := 1 ≤ ns.length ∧ ns.length ≤ 3 ∧ ∀ n ∈ ns, 0 ≤ n ∧ n ≤ 65535
theorem pick {z : Str} {d : Int} (h0 : 0 ≤ d) (h1 : d < (z.cps.toList.length : Int)) : ∃ c, atI z.cps.toList d = some c ∧ c ∈ z.cps.toList := by
  have hk : d.toNat < z.cps.toList.length := by omega
  have e : ((d.toNat : Nat) : Int) = d := by omega
  have q : atI z.cps.toList ((d.toNat : Nat) : Int) = some z.cps.toList[d.toNat] := atI_nat (List.getElem?_eq_getElem hk)
  rw [e] at q
  exact ⟨_, q, List.getElem_mem hk⟩
def spKey : Sp := fun vs H Q _ => ∃ st l : Addr, vs = [.ref st] ∧ Good st l H ∧ ∀ s H', KeyOk s → Le st H H' → Good st l H' → Q (.str s) H'
def spRow : Sp := fun vs H Q _ => ∃ st l : Addr, vs = [.ref st] ∧ Good st l H ∧ ∀ r ns H', RowOk ns → Le st H H' → Good st l H' → H' r = some (.tup (ns.map V.int)) → Q (.ref r) H'
theorem scKey : FnScope ["state", "letters", "choice", "key", "k"] ["state"] (defScope sKey) := ⟨rfl, rfl, rfl, by decide +kernel, rfl, by decide +kernel, by decide +kernel⟩
theorem scRow : FnScope ["state", "k"] ["state"] (defScope sRow) := ⟨rfl, rfl, rfl, by decide +kernel, rfl, by decide +kernel, by decide +kernel⟩
theorem sub1 : ∀ c ∈ ("abcdefghij" : Str).cps.toList, c ∈ letS.cps.toList := by decide +kernel
theorem sub2 : ∀ c ∈ ("ab0z" : Str).cps.toList, c ∈ letS.cps.toList := by decide +kernel
theorem sub3 : ∀ c ∈ ("ab9" : Str).cps.toList, c ∈ letS.cps.toList := by decide +kernel
theorem len1 : (("abcdefghij" : Str).cps.toList.length : Int) = 10 := by decide +kernel
theorem len2 : (("ab0z" : Str).cps.toList.length : Int) = 4 := by decide +kernel
theorem len3 : (("ab9" : Str).cps.toList.length : Int) = 3 := by decide +kernel
theorem lenL : (letS.cps.toList.length : Int) = 36 := by decide +kernel
theorem app_list (a b : Str) : (a ++ b).cps.toList = a.cps.toList ++ b.cps.toList := Array.toList_append
theorem str_len (a : Str) : a.length = a.cps.toList.length := (Array.length_toList).symm
theorem app_len (a b : Str) : (a ++ b).length = a.length + b.length := by
  rw [str_len, str_len, str_len, app_list, List.length_append]
theorem KeyOk.app {s : Str} {c : Nat} (h : s.length < 8) (hs : ∀ c ∈ s.cps.toList, c ∈ letS.cps.toList) (hc : c ∈ letS.cps.toList) : KeyOk (s ++ ⟨#[c]⟩) := by
  refine ⟨?_, ?_, fun x hx => ?_⟩
  · rw [app_len]
    show 1 ≤ s.length + 1
    omega
  · rw [app_len]
    show s.length + 1 ≤ 8
    omega
  · rw [app_list, List.mem_append] at hx
    rcases hx with hx | hx
    · exact hs x hx
    · have e : x = c := by simpa using hx
      rw [e]
      exact hc
theorem pow7 {n : Nat} (h : n ≤ 100000) : n < 2 ^ 200 := Nat.lt_of_le_of_lt h (by decide)
section
variable {P : Program} {w : World} {K : PySem.W.Frag} {mg : Str → Option Value} {base : Heap}
theorem ok_key (D : Def K mg "_law_key" sKey ["state"]) (DD : Def K mg "_law_draw" sDraw ["state", "limit"]) (mr : mg "range" = none) (GD : FnOk P w K mg base CX0 1 DD.f DD.fd ["state", "limit"] spDraw) : FnOk P w K mg base CX0 2 D.f D.fd ["state"] spKey := by
  refine D.F.ok scKey (fun vs H Q E h => ?_) (fun cdv A outer s H vs Q E hr h => ?_)
  · obtain ⟨st, l, rfl, _⟩ := h
    rfl
  obtain ⟨st, l, rfl, g, q⟩ := h
  refine ⟨_, pss_cons (ps_set (i := 1) scKey.nd rfl (.inl rfl) pe_str)
    (pss_cons (ps_set (i := 2) scKey.nd rfl (.inl rfl) (pe_call GD hr (by rfl) DD.m DD.F.kp DD.b .nil pass0 (pa_cons (pv 0) (pa_cons pe_int pa_nil))))
    (pss_cons (ps_if (pt_cmpR op_eq (pv 2) pe_int (nomark _))
      (pss_one (ps_ret (pe_ix ix_str pe_str (pe_call GD hr (by rfl) DD.m DD.F.kp DD.b .nil pass0 (pa_cons (pv 0) (pa_cons pe_int pa_nil))) (fun _ _ => rfl)))) pss_nil)
    (pss_cons (ps_if (pt_cmpR op_eq (pv 2) pe_int (nomark _))
      (pss_one (ps_ret (pe_op op_add_str (pe_ix ix_str pe_str (pe_call GD hr (by rfl) DD.m DD.F.kp DD.b .nil pass0 (pa_cons (pv 0) (pa_cons pe_int pa_nil))) (fun _ _ => rfl)) (pe_ix ix_str pe_str (pe_call GD hr (by rfl) DD.m DD.F.kp DD.b .nil pass0 (pa_cons (pv 0) (pa_cons pe_int pa_nil))) (fun _ _ => rfl))))) pss_nil)
    (pss_cons (ps_set (i := 3) scKey.nd rfl (.inl rfl) pe_str)
    (pss_cons (ps_for PassesOwn.never rfl (pi_range1 (by rfl) mr (pa_cons (pe_op op_add pe_int (pe_call GD hr (by rfl) DD.m DD.F.kp DD.b .nil pass0 (pa_cons (pv 0) (pa_cons pe_int pa_nil)))) pa_nil)) (pg_name (i := 4) scKey.nd rfl (.inl rfl))
      (pss_one (ps_set (i := 3) scKey.nd rfl (.inl rfl) (pe_op op_add_str (pv 3) (pe_ix ix_str (pv 1) (pe_call GD hr (by rfl) DD.m DD.F.kp DD.b .nil pass0 (pa_cons (pv 0) (pa_cons pe_int pa_nil))) (fun _ _ => rfl))))))
    (pss_one (ps_ret (pv 3)))))))), ?_⟩
  refine ⟨_, rfl, st, l, 3, rfl, g, by decide, by decide, fun d H1 d0 d1 le1 g1 => ?_⟩
  refine ⟨_, rfl, rfl, _, rfl, ite2 (fun _ => ?_) (fun _ => ?_)⟩
  · refine ⟨_, rfl, st, l, 10, rfl, g1, by decide, by decide, fun d2 H2 d20 d21 le2 g2 => ?_⟩
    obtain ⟨c, hc, hm⟩ := pick (z := "abcdefghij") d20 (by rw [len1]; exact d21)
    refine ⟨_, _, c, rfl, rfl, by decide, hc, ?_⟩
    refine q _ _ ⟨by show 1 ≤ 1; decide, by show 1 ≤ 8; decide, fun x hx => ?_⟩ (le1.trans le2) g2
    have e : x = c := by simpa using hx
    rw [e]
    exact sub1 c hm
  refine ⟨_, rfl, rfl, _, rfl, ite2 (fun _ => ?_) (fun _ => ?_)⟩
  · refine ⟨_, rfl, st, l, 4, rfl, g1, by decide, by decide, fun d2 H2 d20 d21 le2 g2 => ?_⟩
    obtain ⟨c, hc, hm⟩ := pick (z := "ab0z") d20 (by rw [len2]; exact d21)
    refine ⟨_, _, c, rfl, rfl, by decide, hc, ?_⟩
    refine ⟨_, rfl, st, l, 3, rfl, g2, by decide, by decide, fun d3 H3 d30 d31 le3 g3 => ?_⟩
    obtain ⟨c3, hc3, hm3⟩ := pick (z := "ab9") d30 (by rw [len3]; exact d31)
    refine ⟨_, _, c3, rfl, rfl, by decide, hc3, ?_⟩
    refine ⟨_, _, rfl, rfl, by show 2 ≤ sizeLine; decide, ?_⟩
    refine q _ _ (KeyOk.app (by show 1 < 8; decide) (fun x hx => ?_) (sub3 c3 hm3)) ((le1.trans le2).trans le3) g3
    have e : x = c := by simpa using hx
    rw [e]
    exact sub2 c hm
  refine ⟨_, rfl, st, l, 8, rfl, g1, by decide, by decide, fun d2 H2 d20 d21 le2 g2 => ?_⟩
  refine ⟨_, _, rfl, rfl, _, rfl, by omega, by omega, for_range (lo := 0) (n := (1 + d2).toNat) (fun i σ H' => ∃ s y, σ = [some (.ref st), some (.str letS), some (.int d), some (.str s), y] ∧ s.length = i ∧ (∀ c ∈ s.cps.toList, c ∈ letS.cps.toList) ∧ Le st H H' ∧ Good st l H') ?_ ?_ ?_⟩
  · exact ⟨_, _, rfl, rfl, fun c hc => (by cases hc), le1.trans le2, g2⟩
  · rintro i σ H' hi ⟨s, y, rfl, hl, hs, le, g3⟩
    refine ⟨_, rfl, _, rfl, _, rfl, st, l, 36, rfl, g3, by decide, by decide, fun d3 H3 d30 d31 le3 g3 => ?_⟩
    obtain ⟨c, hc, hm⟩ := pick (z := letS) d30 (by rw [lenL]; exact d31)
    refine ⟨_, _, c, rfl, rfl, by decide +kernel, hc, ?_⟩
    have hl8 : s.length < 8 := by omega
    refine ⟨_, _, rfl, rfl, by show s.length + 1 ≤ sizeLine; exact small (by omega), ?_⟩
    refine ⟨_, _, rfl, ?_, (KeyOk.app hl8 hs hm).2.2, le.trans le3, g3⟩
    rw [app_len, hl]
    rfl
  · rintro σ H' ⟨s, y, rfl, hl, hs, le, g3⟩
    exact ⟨_, rfl, q _ _ ⟨by omega, by omega, hs⟩ le g3⟩
theorem ok_row (D : Def K mg "_law_row" sRow ["state"]) (DD : Def K mg "_law_draw" sDraw ["state", "limit"]) (mr : mg "range" = none) (mt : mg "tuple" = none) (GD : FnOk P w K mg base CX0 1 DD.f DD.fd ["state", "limit"] spDraw) : FnOk P w K mg base CX0 2 D.f D.fd ["state"] spRow := by
  refine D.F.ok scRow (fun vs H Q E h => ?_) (fun cdv A outer s H vs Q E hr h => ?_)
  · obtain ⟨st, l, rfl, _⟩ := h
    rfl
  obtain ⟨st, l, rfl, g, q⟩ := h
  refine ⟨_, pss_one (ps_ret (pe_callTy call_tuple_of (by rfl) mt (by decide +kernel) (pa_cons (pe_lc (own := [("k", 1)]) (g := gName 1) (by rfl) scRow.nd
      (pi_range1 (by rfl) mr (pa_cons (pe_op op_add pe_int (pe_call GD hr (by rfl) DD.m DD.F.kp DD.b .nil pass0 (pa_cons (pv 0) (pa_cons pe_int pa_nil)))) pa_nil))
      (blkOk_by (own := [("k", 1)]) (N := ["state", "k"]) (sc := defScope sRow) (by decide +kernel))
      (fun _ _ _ _ _ => pg_name (i := 1) scRow.nd rfl (Or.inl rfl)) (fun _ _ _ _ _ => pts_nil)
      (fun _ _ _ _ _ => pe_call GD hr (by rfl) DD.m DD.F.kp DD.b .nil pass0 (pa_cons (pv 0) (pa_cons (pe_ix (r := rIxL K) ix_list (pe_lst (pa_cons pe_int (pa_cons pe_int pa_nil))) (pe_call GD hr (by rfl) DD.m DD.F.kp DD.b .nil pass0 (pa_cons (pv 0) (pa_cons pe_int pa_nil))) (fun _ _ => rfl)) pa_nil)))) pa_nil))), ?_⟩
  refine ⟨_, rfl, st, l, 3, rfl, g, by decide, by decide, fun d H1 d0 d1 le1 g1 => ?_⟩
  refine ⟨_, _, rfl, rfl, _, rfl, by omega, by omega, fun D hD => ?_⟩
  refine lc_range (lo := 0) (n := (1 + d).toNat) (fun i H' => ∃ ns : List Int, H' D = some (.lst (ns.map V.int)) ∧ ns.length = i ∧ (∀ n ∈ ns, 0 ≤ n ∧ n ≤ 65535) ∧ Le st H1 H' ∧ Good st l H') ?_ ?_ ?_
  · exact ⟨[], upd_same, rfl, fun n hn => (by cases hn), Le.of (same_new hD _), g1.same (same_new hD _)⟩
  · rintro i H2 hi ⟨ns, hns, hl, hb, le2, g2⟩
    refine ⟨rfl, ?_⟩
    refine ⟨_, rfl, by show 2 ≤ sizeLine; decide, fun z hz => ?_⟩
    have nDz : D ≠ z := ne_of_none hns hz
    have g3 := g2.same (same_new hz (.lst [.int 4, .int 65536]))
    refine ⟨_, rfl, st, l, 2, rfl, g3, by decide, by decide, fun d3 H3 d30 d31 le3 g3 => ?_⟩
    have hz3 : H3 z = some (.lst [.int 4, .int 65536]) := le3 z _ (g2.ne hz).1 upd_same
    have hD3 : H3 D = some (.lst (ns.map V.int)) := le3 D _ (g1.ne hD).1 (by rw [upd_ne nDz]; exact hns)
    obtain ⟨m, hm, m0, m1⟩ : ∃ m : Int, atI [V.int 4, .int 65536] d3 = some (.int m) ∧ 0 < m ∧ m ≤ 65536 := by
      rcases (by omega : d3 = 0 ∨ d3 = 1) with e | e
      · exact ⟨4, by rw [e]; rfl, by decide, by decide⟩
      · exact ⟨65536, by rw [e]; rfl, by decide, by decide⟩
    refine ⟨z, _, d3, _, rfl, rfl, SqL.of hz3, hm, ?_⟩
    refine ⟨st, l, m, rfl, g3, m0, pow7 (by omega), fun d4 H4 d40 d41 le4 g4 => ?_⟩
    have hD4 : H4 D = some (.lst (ns.map V.int)) := le4 D _ (g1.ne hD).1 hD3
    refine ⟨_, hD4, ?_, ns ++ [d4], ?_, ?_, ?_, ?_, g4.put (g1.ne hD)⟩
    · rw [List.length_map]
      exact small1000 (by omega)
    · rw [upd_same, List.map_append]
      rfl
    · rw [List.length_append, hl]
      rfl
    · intro n hn
      rw [List.mem_append] at hn
      rcases hn with hn | hn
      · exact hb n hn
      · have e : n = d4 := by simpa using hn
        omega
    · exact (((le2.trans (Le.of (same_new hz _))).trans le3).trans le4).mut hD
  · rintro H2 ⟨ns, hns, hl, hb, le2, g2⟩
    refine ⟨D, _, rfl, .inl ⟨SqL.of hns, fun r hr2 => ?_⟩⟩
    refine q r ns _ ⟨by omega, by omega, hb⟩ ((le1.trans le2).trans (Le.of (same_new hr2 _))) (g2.same (same_new hr2 _)) upd_same
end

end RR

namespace RR
open PySem PySem.Spec PyProof.Rows L2
abbrev sTable : Stmt := topS 29
/-! ### order of keys -/
def Lt (a b : Str) : Prop := a.cps.toList < b.cps.toList
theorem tri : ∀ a b : List Nat, a < b ∨ a = b ∨ b < a
  | [], [] => .inr (.inl rfl)
  | [], _ :: _ => .inl (by simp)
  | _ :: _, [] => .inr (.inr (by simp))
  | x :: a, y :: b => by
    rcases Nat.lt_trichotomy x y with h | h | h
    · exact .inl (List.cons_lt_cons_iff.mpr (.inl h))
    · subst h
      rcases tri a b with q | q | q
      · exact .inl (List.cons_lt_cons_iff.mpr (.inr ⟨rfl, q⟩))
      · exact .inr (.inl (by rw [q]))
      · exact .inr (.inr (List.cons_lt_cons_iff.mpr (.inr ⟨rfl, q⟩)))
    · exact .inr (.inr (List.cons_lt_cons_iff.mpr (.inl h)))
theorem ltr : ∀ {a b c : List Nat}, a < b → b < c → a < c
  | _, [], _, h, _ => absurd h (by simp)
  | _, _ :: _, [], _, h => absurd h (by simp)
  | [], _ :: _, _ :: _, _, _ => by simp
  | x :: a, y :: b, z :: c, h, k => by
    rw [List.cons_lt_cons_iff] at h k ⊢
    rcases h with h | ⟨rfl, h⟩
    · rcases k with k | ⟨rfl, k⟩
      · exact .inl (Nat.lt_trans h k)
      · exact .inl h
    · rcases k with k | ⟨rfl, k⟩
      · exact .inl k
      · exact .inr ⟨rfl, ltr h k⟩
theorem lirr : ∀ {a : List Nat}, ¬ a < a
  | [], h => absurd h (by simp)
  | x :: a, h => by
    rw [List.cons_lt_cons_iff] at h
    rcases h with h | ⟨_, h⟩
    · exact Nat.lt_irrefl _ h
    · exact lirr h
theorem Lt.trans {a b c : Str} (h : Lt a b) (k : Lt b c) : Lt a c := ltr h k
theorem Lt.irrefl {a : Str} : ¬ Lt a a := lirr
theorem str_ext {a b : Str} (h : a.cps.toList = b.cps.toList) : a = b := by
  cases a
  cases b
  exact congrArg Str.mk (Array.toList_inj.mp h)
theorem Lt.tri (a b : Str) : Lt a b ∨ a = b ∨ Lt b a := by
  rcases RR.tri a.cps.toList b.cps.toList with h | h | h
  · exact .inl h
  · exact .inr (.inl (str_ext h))
  · exact .inr (.inr h)
theorem asc_of : ∀ (r : List Str) (p : Str), risingS p r = true → (p :: r).Nodup → (p :: r).Pairwise Lt
  | [], p, _, _ => List.pairwise_singleton _ _
  | x :: r, p, h, n => by
    have h1 : (!ltCps x.cps.toList p.cps.toList && risingS x r) = true := h
    rw [Bool.and_eq_true] at h1
    have h2 := h1.1
    rw [ltCps_eq] at h2
    have n2 := List.nodup_cons.mp n
    have hx : Lt p x := by
      rcases Lt.tri p x with k | k | k
      · exact k
      · exact absurd (by rw [k]; exact List.mem_cons_self) n2.1
      · rw [decide_eq_true (show x.cps.toList < p.cps.toList from k)] at h2
        cases h2
    have ih := asc_of r x h1.2 n2.2
    refine List.pairwise_cons.mpr ⟨fun y hy => ?_, ih⟩
    rcases List.mem_cons.mp hy with e | e
    · rw [e]
      exact hx
    · exact hx.trans (List.rel_of_pairwise_cons ih e)
theorem asc {ys : List Str} (h : sortedS ys = true) (n : ys.Nodup) : ys.Pairwise Lt := by
  cases ys with
  | nil => exact List.Pairwise.nil
  | cons x r => exact asc_of r x h n
def TabOk (tb : List (Str × List Int)) : Prop := (tb.map (·.1)).Pairwise Lt ∧ ∀ p ∈ tb, KeyOk p.1 ∧ RowOk p.2
/-! ### dicts -/
theorem mem_put {kvs : List (Key × V)} {k : Key} {v : V} {e : Key × V} (h : e ∈ putK kvs k v) : e = (k, v) ∨ e ∈ kvs := by
  unfold putK at h
  split at h
  · obtain ⟨a, ha, rfl⟩ := List.mem_map.mp h
    by_cases q : a.1 = k
    · rw [if_pos q, q]
      exact .inl rfl
    · rw [if_neg q]
      exact .inr ha
  · rcases List.mem_append.mp h with h | h
    · exact .inr h
    · exact .inl (by simpa using h)
theorem put_keys (kvs : List (Key × V)) (k : Key) (v : V) : (k ∈ kvs.map (·.1) ∧ (putK kvs k v).map (·.1) = kvs.map (·.1)) ∨ (k ∉ kvs.map (·.1) ∧ (putK kvs k v).map (·.1) = kvs.map (·.1) ++ [k]) := by
  have ha : (kvs.any fun kv => decide (kv.1 = k)) = true ↔ k ∈ kvs.map (·.1) := by
    rw [List.any_eq_true, List.mem_map]
    constructor
    · rintro ⟨x, hx, e⟩
      exact ⟨x, hx, of_decide_eq_true e⟩
    · rintro ⟨x, hx, e⟩
      exact ⟨x, hx, decide_eq_true e⟩
  unfold putK
  by_cases h : k ∈ kvs.map (·.1)
  · refine .inl ⟨h, ?_⟩
    rw [if_pos (ha.mpr h), List.map_map]
    refine List.map_congr_left fun x _ => ?_
    show (if x.1 = k then (x.1, v) else x).1 = x.1
    split <;> rfl
  · refine .inr ⟨h, ?_⟩
    rw [if_neg (fun z => h (ha.mp z)), List.map_append]
    rfl
theorem val_mem {kvs : List (Key × V)} {k : Key} (h : k ∈ kvs.map (·.1)) : ∃ v, valV kvs k = some v ∧ (k, v) ∈ kvs := by
  induction kvs with
  | nil => cases h
  | cons p r ih =>
    by_cases e : p.1 = k
    · exact ⟨p.2, valV_pos e, by rw [← e]; exact List.mem_cons_self⟩
    · rw [List.map_cons, List.mem_cons] at h
      rcases h with h | h
      · exact absurd h.symm e
      · obtain ⟨v, hv, hm⟩ := ih h
        exact ⟨v, by rw [valV_neg e]; exact hv, List.mem_cons_of_mem _ hm⟩
def RowsOk (H : Hp) (kvs : List (Key × V)) : Prop := (kvs.map (·.1)).Nodup ∧ ∀ e ∈ kvs, ∃ s ns, e.1 = .inr s ∧ KeyOk s ∧ RowOk ns ∧ TD H e.2 (rowD ns)
theorem RowsOk.mono {H H' : Hp} {kvs : List (Key × V)} (k : Tk H H') (h : RowsOk H kvs) : RowsOk H' kvs := ⟨h.1, fun e he => by
  obtain ⟨s, ns, h1, h2, h3, h4⟩ := h.2 e he
  exact ⟨s, ns, h1, h2, h3, TD.mono k _ _ h4⟩⟩
theorem RowsOk.put {H : Hp} {kvs : List (Key × V)} {s : Str} {v : V} {ns : List Int} (h : RowsOk H kvs) (hs : KeyOk s) (hn : RowOk ns) (hv : TD H v (rowD ns)) : RowsOk H (putK kvs (.inr s) v) := by
  refine ⟨?_, fun e he => ?_⟩
  · rcases put_keys kvs (.inr s) v with ⟨hk, q⟩ | ⟨hk, q⟩
    · rw [q]
      exact h.1
    · rw [q]
      refine List.nodup_append.mpr ⟨h.1, by simp, fun a ha b hb => ?_⟩
      have e : b = Sum.inr s := by simpa using hb
      intro z
      rw [z, e] at ha
      exact hk ha
  · rcases mem_put he with e | e
    · rw [e]
      exact ⟨s, ns, rfl, hs, hn, hv⟩
    · exact h.2 _ e
theorem put_len (kvs : List (Key × V)) (k : Key) (v : V) : (putK kvs k v).length ≤ kvs.length + 1 := by
  rcases put_keys kvs k v with ⟨hk, q⟩ | ⟨hk, q⟩
  · have h := congrArg List.length q
    rw [List.length_map, List.length_map] at h
    omega
  · have h := congrArg List.length q
    rw [List.length_map, List.length_append, List.length_map, List.length_singleton] at h
    omega
theorem RowsOk.strs {H : Hp} {kvs : List (Key × V)} (h : RowsOk H kvs) : ∃ ks : List Str, kvs.map (·.1) = ks.map Sum.inr ∧ ks.Nodup := by
  obtain ⟨h1, h2⟩ := h
  induction kvs with
  | nil => exact ⟨[], rfl, List.nodup_nil⟩
  | cons p r ih =>
    rw [List.map_cons, List.nodup_cons] at h1
    obtain ⟨ks, e, n⟩ := ih h1.2 fun e he => h2 e (List.mem_cons_of_mem _ he)
    obtain ⟨s, ns, e1, _⟩ := h2 p List.mem_cons_self
    refine ⟨s :: ks, by rw [List.map_cons, List.map_cons, e, e1], List.nodup_cons.mpr ⟨fun hs => ?_, n⟩⟩
    refine h1.1 ?_
    rw [e, e1]
    exact List.mem_map.mpr ⟨s, hs, rfl⟩
theorem Le.free {st l : Addr} {H H' : Hp} {D : Addr} (le : Le st H H') (g : Good st l H') (h : H' D = none) : H D = none := by
  cases e : H D with
  | none => rfl
  | some o =>
    rw [le D o (g.ne h).1 e] at h
    cases h
def spTable : Sp := fun vs H Q _ => ∃ (st l : Addr) (most : Int), vs = [.ref st, .int most] ∧ Good st l H ∧ 0 ≤ most ∧ most ≤ 30 ∧
  ∀ t vs tb H', TabOk tb → (tb.length : Int) ≤ most → H t = none → Le st H H' → Good st l H' → H' t = some (.lst vs) → TDs H' vs (tb.map pairD) → Q (.ref t) H'
theorem scTable : FnScope ["state", "most", "rows", "k", "key"] ["state", "most"] (defScope sTable) := ⟨rfl, rfl, rfl, by decide +kernel, rfl, by decide +kernel, by decide +kernel⟩
section
variable {P : Program} {w : World} {K : PySem.W.Frag} {mg : Str → Option Value} {base : Heap}
theorem ok_table (D : Def K mg "_law_table" sTable ["state", "most"]) (DD : Def K mg "_law_draw" sDraw ["state", "limit"]) (DK : Def K mg "_law_key" sKey ["state"]) (DR : Def K mg "_law_row" sRow ["state"]) (mr : mg "range" = none) (ms : mg "sorted" = none)
    (GD : FnOk P w K mg base CX0 1 DD.f DD.fd ["state", "limit"] spDraw) (GK : FnOk P w K mg base CX0 2 DK.f DK.fd ["state"] spKey) (GR : FnOk P w K mg base CX0 2 DR.f DR.fd ["state"] spRow) : FnOk P w K mg base CX0 3 D.f D.fd ["state", "most"] spTable := by
  refine D.F.ok scTable (fun vs H Q E h => ?_) (fun cdv A outer s H vs Q E hr h => ?_)
  · obtain ⟨st, l, most, rfl, _⟩ := h
    rfl
  obtain ⟨st, l, most, rfl, g, hm0, hm1, q⟩ := h
  refine ⟨_, pss_cons (ps_set (i := 2) scTable.nd rfl (.inr rfl) pe_dnewK)
    (pss_cons (ps_for PassesOwn.never rfl (pi_range1 (by rfl) mr (pa_cons (pe_call GD (hr.mono (by decide)) (by rfl) DD.m DD.F.kp DD.b .nil pass0 (pa_cons (pv 0) (pa_cons (pe_op op_add (pv 1) pe_int) pa_nil))) pa_nil)) (pg_name (i := 3) scTable.nd rfl (.inl rfl))
      (pss_cons (ps_set (i := 4) scTable.nd rfl (.inl rfl) (pe_call GK hr (by rfl) DK.m DK.F.kp DK.b .nil pass0 (pa_cons (pv 0) pa_nil)))
      (pss_one (ps_dput (hu_of hr) (pv 2) (pv 4) (pe_call GR hr (by rfl) DR.m DR.F.kp DR.b .nil pass0 (pa_cons (pv 0) pa_nil)) rfl))))
    (pss_one (ps_ret (pe_lc (own := [("key", 4)]) (g := gName 4) (by rfl) scTable.nd
      (pi_list (pe_callB (call_sortedD rfl) (by rfl) ms (by decide +kernel) (pa_cons (pv 2) pa_nil)))
      (blkOk_by (own := [("key", 4)]) (N := ["state", "most", "rows", "k", "key"]) (sc := defScope sTable) (by decide +kernel))
      (fun _ _ _ _ _ => pg_name (i := 4) scTable.nd rfl (Or.inl rfl)) (fun _ _ _ _ _ => pts_nil)
      (fun _ _ _ _ _ => pe_tup (pa_cons (pv 4) (pa_cons (pe_dget (hu_of hr) (pv 2) (pv 4) (fun _ _ => rfl)) pa_nil))))))), ?_⟩
  intro d hd
  have g0 := g.same (same_new hd (.dK []))
  refine ⟨_, rfl, _, rfl, _, _, rfl, rfl, st, l, most + 1, rfl, g0, by omega, pow7 (by omega), fun n H1 n0 n1 le1 g1 => ?_⟩
  have hd1 : H1 d = some (.dK []) := le1 d _ (g.ne hd).1 upd_same
  have le1' : Le st H H1 := (Le.of (same_new hd _)).trans le1
  refine ⟨n, rfl, by omega, by omega, for_range (lo := 0) (n := n.toNat) (fun i σ H' => ∃ kvs y3 y4, σ = [some (.ref st), some (.int most), some (.ref d), y3, y4] ∧ H' d = some (.dK kvs) ∧ kvs.length ≤ i ∧ RowsOk H' kvs ∧ Le st H H' ∧ Good st l H') ?_ ?_ ?_⟩
  · exact ⟨[], _, _, rfl, hd1, Nat.le_refl _, ⟨List.nodup_nil, fun e he => (by cases he)⟩, le1', g1⟩
  · rintro i σ H2 hi ⟨kvs, y3, y4, rfl, hd2, hl, hk, le2, g2⟩
    refine ⟨_, rfl, st, l, rfl, g2, fun s H3 hs le3 g3 => ?_⟩
    refine ⟨_, rfl, st, l, rfl, g3, fun r ns H4 hn le4 g4 hr4 => ?_⟩
    have hd4 : H4 d = some (.dK kvs) := le4 d _ (g.ne hd).1 (le3 d _ (g.ne hd).1 hd2)
    have hk4 : RowsOk H4 kvs := (hk.mono (Tk.le g2 le3)).mono (Tk.le g3 le4)
    refine ⟨_, rfl, _, rfl, d, _, rfl, DPut.k (k := Sum.inr s) hd4 (small1000 (by omega)), ?_⟩
    have tk : Tk H4 (upd H4 d (.dK (putK kvs (Sum.inr s) (.ref r)))) := Tk.put _ fun xs e => by
      rw [hd4] at e
      cases e
    refine ⟨putK kvs (Sum.inr s) (.ref r), _, _, rfl, upd_same, Nat.le_trans (put_len _ _ _) (by omega), (hk4.put hs hn ?_).mono tk, ((le2.trans le3).trans le4).mut hd, g4.put (g.ne hd)⟩
    exact .tup hr4 (TDs.ints ns)
  · rintro σ H2 ⟨kvs, y3, y4, rfl, hd2, hl, hk, le2, g2⟩
    obtain ⟨ks, eks, nks⟩ := hk.strs
    have lks : ks.length = kvs.length := by
      have h := congrArg List.length eks
      rw [List.length_map, List.length_map] at h
      exact h.symm
    refine ⟨_, rfl, d, kvs, ks, rfl, .inl hd2, eks, by omega, fun ys p hp hsort hpn => ?_⟩
    refine ⟨p, rfl, ⟨_, SqL.of upd_same⟩, fun D hD => ?_⟩
    have npd : d ≠ p := ne_of_none hd2 hpn
    have npD : p ≠ D := ne_of_none upd_same hD
    have hHD : H2 D = none := by
      rw [upd_ne npD.symm] at hD
      exact hD
    have ndD : d ≠ D := ne_of_none hd2 hHD
    have s3 : Same H2 (upd (upd H2 p (.lst (ys.map V.str))) D (.lst [])) := (same_new hpn _).trans (same_new hD _)
    refine lc_list (K := K) (a := p) (xs := ys.map V.str) (fun i H' => ∃ (vs : List V) (tb : List (Str × List Int)), H' D = some (.lst vs) ∧ TDs H' vs (tb.map pairD) ∧ tb.map (·.1) = ys.take i ∧ (∀ p ∈ tb, KeyOk p.1 ∧ RowOk p.2) ∧ Le st H H' ∧ Good st l H' ∧ H' d = some (.dK kvs) ∧ RowsOk H' kvs ∧ H' p = some (.lst (ys.map V.str))) ?_ ?_ ?_ ?_
    · exact ⟨[], [], upd_same, .nil, rfl, fun p hp => (by cases hp), le2.trans (Le.of s3), g2.same s3, s3 _ _ hd2, hk.mono (Tk.same s3), by rw [upd_ne npD]; exact upd_same⟩
    · rintro i H' hi ⟨vs, tb, _, _, _, _, _, _, _, _, h⟩
      exact SqL.of h
    · rintro i x H' hi ⟨vs, tb, hD', hT, et, hok, le', g', hd', hk', hp'⟩
      obtain ⟨y, hy, rfl⟩ : ∃ y, ys[i]? = some y ∧ x = .str y := by
        rw [List.getElem?_map] at hi
        cases e : ys[i]? with
        | none =>
          rw [e] at hi
          cases hi
        | some y =>
          rw [e] at hi
          exact ⟨y, rfl, (Option.some.inj hi).symm⟩
      have hyk : (Sum.inr y : Key) ∈ kvs.map (·.1) := by
        rw [eks]
        exact List.mem_map.mpr ⟨y, hp.mem_iff.mp (List.mem_of_getElem? hy), rfl⟩
      obtain ⟨v, hv, hm⟩ := val_mem hyk
      obtain ⟨s0, ns, e1, h2, h3, h4⟩ := hk'.2 _ hm
      have e1' : y = s0 := Sum.inr.inj e1
      subst e1'
      refine ⟨rfl, ?_⟩
      refine ⟨_, rfl, _, rfl, _, rfl, d, v, rfl, (by rw [← hv]; exact DGet.k (k := Sum.inr y) hd'), by show 2 ≤ sizeLine; decide, fun t ht => ?_⟩
      have nDt : D ≠ t := ne_of_none hD' ht
      have s5 := same_new ht (.tup [.str y, v])
      have hlen : vs.length = tb.length := by
        have h := TDs.length hT
        rw [List.length_map] at h
        exact h
      have htb : tb.length ≤ 30 := by
        have h := congrArg List.length et
        rw [List.length_map, List.length_take] at h
        have h9 := hp.length_eq
        omega
      refine ⟨vs, by rw [upd_ne nDt]; exact hD', small1000 (by omega), ?_⟩
      have tk : Tk H' (upd (upd H' t (.tup [.str y, v])) D (.lst (vs ++ [.ref t]))) := (Tk.same s5).trans (Tk.put _ fun xs e => by
        rw [upd_ne nDt, hD'] at e
        cases e)
      have nDst : D ≠ st ∧ D ≠ l := g2.ne hHD
      refine ⟨vs ++ [.ref t], tb ++ [(y, ns)], upd_same, ?_, ?_, ?_, (le'.trans (Le.of s5)).mut (le2.free g2 hHD), (g'.same s5).put nDst, ?_, hk'.mono tk, ?_⟩
      · rw [List.map_append]
        refine TDs.app (TDs.mono tk _ _ hT) (.cons ?_ .nil)
        refine .tup (xs := [.str y, v]) ?_ (.cons (.str y) (.cons (TD.mono tk _ _ h4) .nil))
        rw [upd_ne nDt.symm]
        exact upd_same
      · rw [List.map_append, et, List.take_add_one, hy]
        rfl
      · intro p hp
        rw [List.mem_append] at hp
        rcases hp with hp | hp
        · exact hok p hp
        · have e : p = (y, ns) := by simpa using hp
          rw [e]
          exact ⟨h2, h3⟩
      · rw [upd_ne ndD]
        exact s5 _ _ hd'
      · rw [upd_ne npD]
        exact s5 _ _ hp'
    · rintro H' ⟨vs, tb, hD', hT, et, hok, le', g', hd', hk', hp'⟩
      rw [List.length_map, List.take_length] at et
      have hlen : tb.length = ys.length := by
        have h := congrArg List.length et
        rw [List.length_map] at h
        exact h
      have h9 := hp.length_eq
      refine q D vs tb H' ⟨by rw [et]; exact asc hsort (hp.nodup_iff.mpr nks), hok⟩ (by omega) (le2.free g2 hHD) le' g' hD' hT
end

end RR

namespace RR
open PySem PySem.Spec PyProof.Rows L2
def Sh (n : Nat) (d : PyData) : Prop := d.canLay0 = true ∧ d.depth ≤ n
theorem all_lay : ∀ xs : List PyData, (∀ x ∈ xs, x.canLay0 = true) → PyData.canLayAll0 xs = true
  | [], _ => rfl
  | x :: xs, h => by
    show (x.canLay0 && PyData.canLayAll0 xs) = true
    rw [h x List.mem_cons_self, all_lay xs fun y hy => h y (List.mem_cons_of_mem _ hy)]
    rfl
theorem all_depth {n : Nat} : ∀ xs : List PyData, (∀ x ∈ xs, x.depth ≤ n) → PyData.depthAll xs ≤ n
  | [], _ => Nat.zero_le _
  | x :: xs, h => by
    show max x.depth (PyData.depthAll xs) ≤ n
    exact Nat.max_le.mpr ⟨h x List.mem_cons_self, all_depth xs fun y hy => h y (List.mem_cons_of_mem _ hy)⟩
theorem Sh.list {n : Nat} {xs : List PyData} (h : ∀ x ∈ xs, Sh n x) : Sh (n + 1) (.list xs) := ⟨all_lay xs fun x hx => (h x hx).1, Nat.succ_le_succ (all_depth xs fun x hx => (h x hx).2)⟩
theorem Sh.tuple {n : Nat} {xs : List PyData} (h : ∀ x ∈ xs, Sh n x) : Sh (n + 1) (.tuple xs) := ⟨all_lay xs fun x hx => (h x hx).1, Nat.succ_le_succ (all_depth xs fun x hx => (h x hx).2)⟩
theorem Sh.int {n : Nat} (i : Int) : Sh n (.int i) := ⟨rfl, Nat.zero_le _⟩
theorem Sh.non {n : Nat} : Sh n .none := ⟨rfl, Nat.zero_le _⟩
theorem let_ok : ∀ c ∈ letS.cps.toList, c < 128 := by decide +kernel
theorem Sh.str {n : Nat} {s : Str} (h : ∀ c ∈ s.cps.toList, c < 128) : Sh n (.str s) := by
  refine ⟨?_, Nat.zero_le _⟩
  show s.cps.all (· < 0x110000) = true
  rw [← Array.all_toList, List.all_eq_true]
  intro x hx
  exact decide_eq_true (Nat.lt_trans (h x hx) (by decide))
theorem Sh.key {n : Nat} {s : Str} (h : KeyOk s) : Sh n (.str s) := Sh.str fun c hc => let_ok c (h.2.2 c hc)
theorem Sh.row (n : Nat) (ns : List Int) : Sh (n + 1) (rowD ns) := Sh.tuple fun x hx => by
  obtain ⟨i, _, rfl⟩ := List.mem_map.mp hx
  exact Sh.int i
theorem Sh.pair {n : Nat} {p : Str × List Int} (h : KeyOk p.1) : Sh (n + 2) (pairD p) := Sh.tuple fun x hx => by
  rcases List.mem_cons.mp hx with e | e
  · rw [e]
    exact Sh.key h
  · have e2 : x = rowD p.2 := by simpa using e
    rw [e2]
    exact Sh.row n _
theorem Sh.tab {n : Nat} {tb : List (Str × List Int)} (h : ∀ p ∈ tb, KeyOk p.1) : Sh (n + 3) (.list (tb.map pairD)) := Sh.list fun x hx => by
  obtain ⟨p, hp, rfl⟩ := List.mem_map.mp hx
  exact Sh.pair (h p hp)
theorem Sh.mono {n m : Nat} {d : PyData} (h : Sh n d) (k : n ≤ m) : Sh m d := ⟨h.1, Nat.le_trans h.2 k⟩
theorem Sh.ok {n : Nat} {d : PyData} (h : Sh n d) (k : n ≤ 64) : SeqAt.shaped d = true := by
  unfold SeqAt.shaped
  rw [h.1, decide_eq_true (Nat.le_trans h.2 k)]
  rfl
theorem Sh.refl {n : Nat} {d : PyData} (h : Sh n d) : PyData.eqv d d = true := SeqAt.eqv_refl d h.1
theorem TD.un {H : Hp} {v : V} {ds : List PyData} (h : TD H v (.tuple ds)) : ∃ a xs, v = .ref a ∧ H a = some (.tup xs) ∧ TDs H xs ds := by
  cases h with
  | tup h1 h2 => exact ⟨_, _, rfl, h1, h2⟩
theorem TD.str_eq {H : Hp} {v : V} {s : Str} (h : TD H v (.str s)) : v = .str s := by
  cases h with
  | str => rfl
theorem TD.int_eq {H : Hp} {v : V} {i : Int} (h : TD H v (.int i)) : v = .int i := by
  cases h with
  | int => rfl
theorem TDs.un {H : Hp} {vs : List V} {d : PyData} {ds : List PyData} (h : TDs H vs (d :: ds)) : ∃ v ws, vs = v :: ws ∧ TD H v d ∧ TDs H ws ds := by
  cases h with
  | cons h1 h2 => exact ⟨_, _, rfl, h1, h2⟩
theorem TDs.un0 {H : Hp} {vs : List V} (h : TDs H vs []) : vs = [] := by
  cases h with
  | nil => rfl
theorem TD.pair {H : Hp} {v : V} {p : Str × List Int} (h : TD H v (pairD p)) : ∃ a r, v = .ref a ∧ H a = some (.tup [.str p.1, r]) ∧ TD H r (rowD p.2) := by
  obtain ⟨a, xs, rfl, h1, h2⟩ := TD.un h
  obtain ⟨x, ys, rfl, h3, h4⟩ := h2.un
  obtain ⟨r, zs, rfl, h5, h6⟩ := h4.un
  have e := h6.un0
  subst e
  have e2 := h3.str_eq
  subst e2
  exact ⟨a, r, rfl, h1, h5⟩
def below (k : Str) (tb : List (Str × List Int)) : List (Str × List Int) := tb.filter fun p => decide (p.1.cps.toList < k.cps.toList)
def above (k : Str) (tb : List (Str × List Int)) : List (Str × List Int) := tb.filter fun p => decide (k.cps.toList < p.1.cps.toList)
theorem lt_asym {a b : List Nat} (h : a < b) : ¬ b < a := fun k => lirr (ltr h k)
theorem parts_len (k : Str) : ∀ tb : List (Str × List Int), (below k tb).length + (above k tb).length ≤ tb.length
  | [] => Nat.le_refl _
  | p :: r => by
    have ih := parts_len k r
    unfold below above at ih ⊢
    rw [List.filter_cons, List.filter_cons]
    by_cases h1 : p.1.cps.toList < k.cps.toList
    · rw [if_pos (decide_eq_true h1), if_neg (by rw [decide_eq_false (lt_asym h1)]; decide)]
      simp only [List.length_cons]
      omega
    · rw [if_neg (by rw [decide_eq_false h1]; decide)]
      split <;> simp only [List.length_cons] <;> omega
/-- [x for x in xs if test]: a test that makes nothing -/
theorem lc_filt {K : PySem.W.Frag} {a D : Addr} {vs : List V} {tb : List (Str × List Int)} {i : Nat} {tt : TT} {ws : List Nat} {σ : L2.St} {H1 : Hp} {Qd : Hp → Prop} (f : Str × List Int → Bool)
    (hS : H1 a = some (.lst vs)) (hT : TDs H1 vs (tb.map pairD)) (hD : H1 D = none) (hlen : vs.length ≤ 1000)
    (hw : ∀ v, wipe ((wipe σ ws).set i (some v)) ws = wipe σ ws) (hi : ∀ v, ((wipe σ ws).set i (some v))[i]? = some (some v))
    (ht : ∀ (p : Str × List Int) (c : Addr) (r : V) (H' : Hp), p ∈ tb → H' c = some (.tup [.str p.1, r]) → TD H' r (rowD p.2) → Same H1 H' → ∀ Q : Bool → Hp → Prop, Q (f p) H' → tt ((wipe σ ws).set i (some (.ref c))) H' Q)
    (hd : ∀ us H', Same H1 H' → H' D = some (.lst us) → TDs H' us ((tb.filter f).map pairD) → Qd H') :
    ∃ W : Nat → Nat → Hp → Prop, (∃ m, W 0 m (upd H1 D (.lst []))) ∧ ∀ j m H, W j m H →
      ((Itl K a).stop j H ∧ Qd H) ∨ ((Itl K a).go j H ∧ ∃ Nx : Hp → Prop, (∀ H', Nx H' → ∃ m', m' < m ∧ W (j + 1) m' H') ∧ ∀ x H', (Itl K a).yld j H x H' → gName i x (wipe σ ws) H' fun σ2 H2 => wipe σ2 ws = wipe σ ws ∧ tt σ2 H2 fun b H3 =>
        if b = true then tVar i σ2 H3 fun y H4 => ∃ acc, H4 D = some (.lst acc) ∧ acc.length < sizeLine ∧ Nx (upd H4 D (.lst (acc ++ [y]))) else Nx H3) := by
  have hl := hT.length
  rw [List.length_map] at hl
  refine lc_list (K := K) (a := a) (xs := vs) (fun j H' => ∃ us, H' D = some (.lst us) ∧ TDs H' us (((tb.take j).filter f).map pairD) ∧ Same H1 H') ?_ ?_ ?_ ?_
  · exact ⟨[], upd_same, .nil, same_new hD _⟩
  · rintro j H' _ ⟨us, _, _, s⟩
    exact SqL.of (s _ _ hS)
  · rintro j x H' hx ⟨us, hus, hU, s⟩
    have hj : j < vs.length := (List.getElem?_eq_some_iff.mp hx).1
    obtain ⟨d, hd1, hd2⟩ := TDs.get hT j x hx
    rw [List.getElem?_map] at hd1
    obtain ⟨p, hp, rfl⟩ : ∃ p, tb[j]? = some p ∧ d = pairD p := by
      cases e : tb[j]? with
      | none =>
        rw [e] at hd1
        cases hd1
      | some p =>
        rw [e] at hd1
        exact ⟨p, rfl, (Option.some.inj hd1).symm⟩
    have hm : p ∈ tb := List.mem_of_getElem? hp
    obtain ⟨c, r, rfl, hc, hr⟩ := (TD.mono (Tk.same s) _ _ hd2).pair
    have etake : tb.take (j + 1) = tb.take j ++ [p] := by
      rw [List.take_add_one, hp]
      rfl
    refine ⟨hw _, ht p c r H' hm hc hr s _ ?_⟩
    cases e : f p with
    | true =>
      refine iteT ?_
      have hul : us.length ≤ vs.length := by
        have h := hU.length
        rw [List.length_map] at h
        have h2 := List.length_filter_le f (tb.take j)
        rw [List.length_take] at h2
        omega
      have tk : Tk H' (upd H' D (.lst (us ++ [.ref c]))) := Tk.put _ fun xs e => by
        rw [hus] at e
        cases e
      refine ⟨_, hi _, us, hus, small1000 (by omega), us ++ [.ref c], upd_same, ?_, fun b o e => ?_⟩
      · rw [etake, List.filter_append, List.filter_cons, e, if_pos rfl, List.map_append]
        exact TDs.app (TDs.mono tk _ _ hU) (.cons (TD.mono (tk) _ _ (TD.mono (Tk.same s) _ _ hd2)) .nil)
      · rw [upd_ne (ne_of_none e hD)]
        exact s _ _ e
    | false =>
      refine iteF ?_
      refine ⟨us, hus, ?_, s⟩
      rw [etake, List.filter_append, List.filter_cons, e, if_neg Bool.false_ne_true, List.filter_nil, List.append_nil]
      exact hU
  · rintro H' ⟨us, hus, hU, s⟩
    rw [hl, List.take_length] at hU
    exact hd us H' s hus hU
abbrev Tab := List (Str × List Int)
def inR (lo hi k : Str) : Bool := !decide (k.cps.toList < lo.cps.toList) && decide (k.cps.toList < hi.cps.toList)
def within (lo hi : Str) (tb : Tab) : Tab := tb.filter fun p => inR lo hi p.1
def colOf (ns : List Int) (c : Int) : Int := if c < (ns.length : Int) then ns.getD c.toNat 0 else 0
def look (tb : Tab) (k : Str) : Option (List Int) := (tb.find? fun p => decide (p.1 = k)).map (·.2)
def optD : Option (List Int) → PyData
  | none => .none
  | some r => rowD r
def pairO : Option (Str × List Int) → PyData
  | none => .none
  | some p => pairD p
inductive Qry where
  | get (k : Str)
  | range (lo hi : Str)
  | next (k : Str) (n : Int)
  | count (lo hi : Str)
  | sum (c : Int) (lo hi : Str)
  | place (k : Str)
  | at_ (n : Int)
def qryD : Qry → PyData
  | .get k => .tuple [.str "get", .str k]
  | .range lo hi => .tuple [.str "range", .str lo, .str hi]
  | .next k n => .tuple [.str "next", .str k, .int n]
  | .count lo hi => .tuple [.str "count", .str lo, .str hi]
  | .sum c lo hi => .tuple [.str "sum", .int c, .str lo, .str hi]
  | .place k => .tuple [.str "place", .str k]
  | .at_ n => .tuple [.str "at", .int n]
def BndOk (s : Str) : Prop := s.length ≤ 9 ∧ ∀ c ∈ s.cps.toList, c ∈ letS.cps.toList
def Qry.Ok : Qry → Prop
  | .get k => KeyOk k
  | .range lo hi => BndOk lo ∧ BndOk hi
  | .next k n => BndOk k ∧ 0 ≤ n ∧ n ≤ 100
  | .count lo hi => BndOk lo ∧ BndOk hi
  | .sum c lo hi => (0 ≤ c ∧ c ≤ 2) ∧ BndOk lo ∧ BndOk hi
  | .place k => BndOk k
  | .at_ n => 0 ≤ n ∧ n ≤ 100000
inductive Res where
  | dat (d : PyData)
  | lst (tb : Tab)
def ansOf (tb : Tab) : Qry → Res
  | .get k => .dat (optD (look tb k))
  | .range lo hi => .lst (within lo hi tb)
  | .next k n => .lst ((above k tb).take n.toNat)
  | .count lo hi => .dat (.int ((within lo hi tb).length : Int))
  | .sum c lo hi => .dat (.int ((within lo hi tb).map fun p => colOf p.2 c).sum)
  | .place k => .dat (.int ((below k tb).length : Int))
  | .at_ n => .dat (pairO tb[n.toNat]?)
def ResAt (H H' : Hp) (v : V) : Res → Prop
  | .dat d => TD H' v d
  | .lst tb => ∃ p ws, v = .ref p ∧ H p = none ∧ H' p = some (.lst ws) ∧ TDs H' ws (tb.map pairD)
theorem tab_pairs {K : PySem.W.Frag} {H : Hp} : ∀ {vs : List V} {tb : Tab}, TDs H vs (tb.map pairD) → ∃ (ps : List Addr) (kvs : List (Key × V)), vs = ps.map V.ref ∧ Paired (fun p kv => SqT K H p [kV kv.1, kv.2]) ps kvs ∧ kvs.map (·.1) = tb.map (fun p => (Sum.inr p.1 : Key)) ∧ TDs H (kvs.map (·.2)) (tb.map fun p => rowD p.2)
  | vs, [], h => by
    have e := h.un0
    subst e
    exact ⟨[], [], rfl, .nil, rfl, .nil⟩
  | vs, p :: tb, h => by
    obtain ⟨v, ws, rfl, h1, h2⟩ := h.un
    obtain ⟨ps, kvs, rfl, h3, h4, h5⟩ := tab_pairs h2
    obtain ⟨a, r, rfl, h6, h7⟩ := h1.pair
    exact ⟨a :: ps, (Sum.inr p.1, r) :: kvs, rfl, .cons (SqT.of h6) h3, by rw [List.map_cons, List.map_cons, h4], .cons h7 h5⟩
theorem merge_app (acc more : List (Key × V)) (h : ((acc ++ more).map (·.1)).Nodup) : mergeK acc more = acc ++ more := by
  induction more generalizing acc with
  | nil =>
    rw [List.append_nil]
    rfl
  | cons p r ih =>
    have e : putK acc p.1 p.2 = acc ++ [p] := by
      rcases put_keys acc p.1 p.2 with ⟨hk, _⟩ | ⟨hk, _⟩
      · rw [List.map_append, List.nodup_append] at h
        exact absurd rfl (h.2.2 p.1 hk p.1 (by simp))
      · refine putK_new p.2 ?_
        cases e : valV acc p.1 with
        | none => rfl
        | some v => exact absurd (valV_in e) hk
    show mergeK (putK acc p.1 p.2) r = acc ++ p :: r
    rw [e, ih (acc ++ [p]) (by rw [List.append_assoc]; exact h), List.append_assoc]
    rfl
theorem keys_nodup {tb : Tab} (h : (tb.map (·.1)).Pairwise Lt) : (tb.map fun p => (Sum.inr p.1 : Key)).Nodup := by
  have h1 : (tb.map (·.1)).Nodup := List.Pairwise.imp (R := Lt) (fun {a b} q e => by
    rw [e] at q
    exact Lt.irrefl q) h
  have h2 : (tb.map fun p => (Sum.inr p.1 : Key)) = (tb.map (·.1)).map Sum.inr := by
    rw [List.map_map]
    rfl
  rw [h2]
  exact List.Pairwise.map _ (fun a b q e => q (Sum.inr.inj e)) h1
theorem val_look {H : Hp} (k : Str) : ∀ {tb : Tab} {kvs : List (Key × V)}, kvs.map (·.1) = tb.map (fun p => (Sum.inr p.1 : Key)) → TDs H (kvs.map (·.2)) (tb.map fun p => rowD p.2) → TD H ((valV kvs (.inr k)).getD .non) (optD (look tb k))
  | [], [], _, _ => .non
  | [], _ :: _, h, _ => by cases h
  | _ :: _, [], h, _ => by cases h
  | p :: tb, kv :: kvs, h, h2 => by
    rw [List.map_cons, List.map_cons] at h
    have e1 := (List.cons.inj h).1
    have e2 := (List.cons.inj h).2
    obtain ⟨v, ws, e3, h3, h4⟩ := h2.un
    rw [List.map_cons] at e3
    have e4 := (List.cons.inj e3).1
    have e5 := (List.cons.inj e3).2
    rw [← e5] at h4
    by_cases hk : p.1 = k
    · have hv : valV (kv :: kvs) (.inr k) = some kv.2 := valV_pos (by rw [e1, hk])
      have hl : look (p :: tb) k = some p.2 := by
        unfold look
        rw [List.find?_cons, decide_eq_true hk]
        rfl
      rw [hv, hl, e4]
      exact h3
    · have hv : valV (kv :: kvs) (.inr k) = valV kvs (.inr k) := valV_neg (by rw [e1]; exact fun e => hk (Sum.inr.inj e))
      have hl : look (p :: tb) k = look tb k := by
        unfold look
        rw [List.find?_cons, decide_eq_false hk]
      rw [hv, hl]
      exact val_look k e2 h4
theorem small_len {n : Nat} (h : n ≤ 1000) : n < sizeLine := small1000 h
theorem row_un {H : Hp} {v : V} {ns : List Int} (h : TD H v (rowD ns)) : ∃ a, v = .ref a ∧ H a = some (.tup (ns.map V.int)) := by
  obtain ⟨a, xs, rfl, h1, h2⟩ := h.un
  refine ⟨a, rfl, ?_⟩
  have e : ∀ {vs : List V} {ns : List Int}, TDs H vs (ns.map PyData.int) → vs = ns.map V.int := by
    intro vs ns
    induction ns generalizing vs with
    | nil => exact fun h => h.un0
    | cons n r ih =>
      intro h
      obtain ⟨v, ws, rfl, h3, h4⟩ := h.un
      rw [h3.int_eq, ih h4]
      rfl
  rw [h1, e h2]
theorem at_of {α : Type} {xs : List α} {n : Int} (h0 : 0 ≤ n) {x : α} (h : xs[n.toNat]? = some x) : atI xs n = some x := by
  have e : ((n.toNat : Nat) : Int) = n := by omega
  have q : atI xs ((n.toNat : Nat) : Int) = some x := atI_nat h
  rw [e] at q
  exact q
theorem TDs.take {H : Hp} : ∀ {vs : List V} {ds : List PyData} (n : Nat), TDs H vs ds → TDs H (vs.take n) (ds.take n)
  | _, _, 0, _ => .nil
  | _, _, n + 1, .nil => .nil
  | _, _, n + 1, .cons h1 h2 => .cons h1 (TDs.take n h2)
theorem cut_to (xs : List V) {m : Int} (h : 0 ≤ m) : cutV xs none (some m) = xs.take m.toNat := by
  have e : ((m.toNat : Nat) : Int) = m := by omega
  unfold cutV
  rw [HT.sIx_none, ← e, HT.sIx_nat, List.drop_zero, Nat.sub_zero]
  rw [show ((m.toNat : Nat) : Int).toNat = m.toNat by omega]
  by_cases hm : m.toNat ≤ xs.length
  · rw [Nat.min_eq_left hm]
  · rw [Nat.min_eq_right (by omega), List.take_length, List.take_of_length_le (by omega)]
theorem q_un2 {H : Hp} {v : V} {z k : Str} (h : TD H v (.tuple [.str z, .str k])) : ∃ a, v = .ref a ∧ H a = some (.tup [.str z, .str k]) := by
  obtain ⟨a, xs, rfl, h1, h2⟩ := h.un
  obtain ⟨x, ys, rfl, h3, h4⟩ := h2.un
  obtain ⟨y, zs, rfl, h5, h6⟩ := h4.un
  rw [h3.str_eq, h5.str_eq, h6.un0] at h1
  exact ⟨a, rfl, h1⟩
theorem q_un2i {H : Hp} {v : V} {z : Str} {n : Int} (h : TD H v (.tuple [.str z, .int n])) : ∃ a, v = .ref a ∧ H a = some (.tup [.str z, .int n]) := by
  obtain ⟨a, xs, rfl, h1, h2⟩ := h.un
  obtain ⟨x, ys, rfl, h3, h4⟩ := h2.un
  obtain ⟨y, zs, rfl, h5, h6⟩ := h4.un
  rw [h3.str_eq, h5.int_eq, h6.un0] at h1
  exact ⟨a, rfl, h1⟩
theorem q_un3 {H : Hp} {v : V} {z k l : Str} (h : TD H v (.tuple [.str z, .str k, .str l])) : ∃ a, v = .ref a ∧ H a = some (.tup [.str z, .str k, .str l]) := by
  obtain ⟨a, xs, rfl, h1, h2⟩ := h.un
  obtain ⟨x, ys, rfl, h3, h4⟩ := h2.un
  obtain ⟨y, zs, rfl, h5, h6⟩ := h4.un
  obtain ⟨w, us, rfl, h7, h8⟩ := h6.un
  rw [h3.str_eq, h5.str_eq, h7.str_eq, h8.un0] at h1
  exact ⟨a, rfl, h1⟩
theorem q_un3i {H : Hp} {v : V} {z k : Str} {n : Int} (h : TD H v (.tuple [.str z, .str k, .int n])) : ∃ a, v = .ref a ∧ H a = some (.tup [.str z, .str k, .int n]) := by
  obtain ⟨a, xs, rfl, h1, h2⟩ := h.un
  obtain ⟨x, ys, rfl, h3, h4⟩ := h2.un
  obtain ⟨y, zs, rfl, h5, h6⟩ := h4.un
  obtain ⟨w, us, rfl, h7, h8⟩ := h6.un
  rw [h3.str_eq, h5.str_eq, h7.int_eq, h8.un0] at h1
  exact ⟨a, rfl, h1⟩
theorem q_un4 {H : Hp} {v : V} {z k l : Str} {n : Int} (h : TD H v (.tuple [.str z, .int n, .str k, .str l])) : ∃ a, v = .ref a ∧ H a = some (.tup [.str z, .int n, .str k, .str l]) := by
  obtain ⟨a, xs, rfl, h1, h2⟩ := h.un
  obtain ⟨x, ys, rfl, h3, h4⟩ := h2.un
  obtain ⟨y, zs, rfl, h5, h6⟩ := h4.un
  obtain ⟨w, us, rfl, h7, h8⟩ := h6.un
  obtain ⟨w2, us2, rfl, h9, h10⟩ := h8.un
  rw [h3.str_eq, h5.int_eq, h7.str_eq, h9.str_eq, h10.un0] at h1
  exact ⟨a, rfl, h1⟩
def keyAt (tb : Tab) (i : Nat) : Str := (tb.map (·.1)).getD i ""
theorem key_at {tb : Tab} {i : Nat} {p : Str × List Int} (h : tb[i]? = some p) : keyAt tb i = p.1 := by
  unfold keyAt
  rw [List.getD_eq_getElem?_getD, List.getElem?_map, h]
  rfl
/-- a pair of a table, by its index -/
theorem pair_at {H : Hp} {us : List V} {tb : Tab} (hT : TDs H us (tb.map pairD)) {i : Nat} {p : Str × List Int} (h : tb[i]? = some p) : ∃ c r, us[i]? = some (.ref c) ∧ H c = some (.tup [.str p.1, r]) ∧ TD H r (rowD p.2) := by
  have hl := hT.length
  rw [List.length_map] at hl
  have hi : i < tb.length := (List.getElem?_eq_some_iff.mp h).1
  have hu : us[i]? = some us[i] := List.getElem?_eq_getElem (by omega)
  obtain ⟨d, hd, ht⟩ := TDs.get hT i _ hu
  rw [List.getElem?_map, h] at hd
  have e : pairD p = d := Option.some.inj hd
  rw [← e] at ht
  obtain ⟨c, r, ec, hc, hr⟩ := ht.pair
  exact ⟨c, r, by rw [hu, ec], hc, hr⟩
theorem KeyOk.bnd {s : Str} (h : KeyOk s) : BndOk s := ⟨by have := h.2.1; omega, h.2.2⟩
/-- the pair at a drawn place -/
theorem pair_got {H : Hp} {us : List V} {tb : Tab} {d : Int} (hT : TDs H us (tb.map pairD)) (h0 : 0 ≤ d) (h1 : d < (us.length : Int)) : ∃ c r p, atI us d = some (.ref c) ∧ H c = some (.tup [.str p.1, r]) ∧ p ∈ tb := by
  have hj : d.toNat < us.length := by omega
  obtain ⟨dd, hd1, hd2⟩ := TDs.get hT _ _ (List.getElem?_eq_getElem hj)
  rw [List.getElem?_map] at hd1
  cases e : tb[d.toNat]? with
  | none =>
    rw [e] at hd1
    cases hd1
  | some p =>
    rw [e] at hd1
    have e2 : pairD p = dd := Option.some.inj hd1
    rw [← e2] at hd2
    obtain ⟨c, r, ec, hc, _⟩ := hd2.pair
    refine ⟨c, r, p, ?_, hc, List.mem_of_getElem? e⟩
    rw [← ec]
    exact at_of h0 (List.getElem?_eq_getElem hj)
def spColumnOf : Sp := fun vs H Q _ => ∃ (r : Addr) (ns : List Int) (c : Int), vs = [.ref r, .int c] ∧ H r = some (.tup (ns.map V.int)) ∧ 0 ≤ c ∧ ns.length ≤ 1000 ∧ Q (.int (colOf ns c)) H
def spWithin : Sp := fun vs H Q _ => ∃ (t : Addr) (lo hi : Str) (us : List V) (tb : Tab), vs = [.ref t, .str lo, .str hi] ∧ H t = some (.lst us) ∧ TDs H us (tb.map pairD) ∧ tb.length ≤ 1000 ∧
  ∀ p ws H', H p = none → Same H H' → H' p = some (.lst ws) → TDs H' ws ((within lo hi tb).map pairD) → Q (.ref p) H'
def spAns : Sp := fun vs H Q _ => ∃ (t : Addr) (c : V) (qy : Qry) (us : List V) (tb : Tab), vs = [.ref t, c] ∧ TD H c (qryD qy) ∧ qy.Ok ∧ H t = some (.lst us) ∧ TDs H us (tb.map pairD) ∧ tb.length ≤ 100 ∧ (tb.map (·.1)).Pairwise Lt ∧ (∀ p ∈ tb, p.2.length ≤ 1000) ∧
  ∀ v H', Same H H' → ResAt H H' v (ansOf tb qy) → Q v H'

end RR

namespace RR
open PySem PySem.Spec PyProof.Rows L2
/-! ### from the drawer's promises to the data layer's -/
def StL (l : List D) : Prop := ∃ (a p c : Int) (ns : List Int), l = [.int a, .int p, .list (ns.map .int), .int c] ∧ 0 ≤ a ∧ 0 ≤ p ∧ 0 ≤ c ∧ c < 2147483647
theorem st0_ok (ns : List Int) : StL [.int 0, .int 0, .list (ns.map .int), .int 1] := ⟨0, 0, 1, ns, rfl, by decide, by decide, by decide, by decide⟩
mutual
def noL : D → Bool
  | .tuple ds => noLs ds
  | .list _ => false
  | .dict _ => false
  | _ => true
def noLs : List D → Bool
  | [] => true
  | d :: ds => noL d && noLs ds
end
mutual
theorem TD.rd {ct : Cl} {F : Addr → Prop} {H : Hp} : ∀ (d : D) (v : V), TD H v d → RD ct F H v d
  | _, _, .non => .non
  | _, _, .int i => .int i
  | _, _, .str x => .str x
  | _, _, .bl b => .bl b
  | .tuple ds, .ref a, .tup (xs := xs) h hs => .tup h (TDs.rds ds xs hs)
theorem TDs.rds {ct : Cl} {F : Addr → Prop} {H : Hp} : ∀ (ds : List D) (vs : List V), TDs H vs ds → RDs ct F H vs ds
  | _, _, .nil => .nil
  | d :: ds, v :: vs, .cons h hs => .cons (TD.rd d v h) (TDs.rds ds vs hs)
end
mutual
theorem RD.td {ct : Cl} {F : Addr → Prop} {H : Hp} : ∀ (d : D) (v : V), RD ct F H v d → noL d = true → TD H v d
  | _, _, .non, _ => .non
  | _, _, .int i, _ => .int i
  | _, _, .str x, _ => .str x
  | _, _, .bl b, _ => .bl b
  | .tuple ds, .ref a, .tup (xs := xs) h hs, n => .tup h (RDs.tds ds xs hs n)
  | .list ds, _, .lst _ _ _, n => nomatch n
  | .dict _, _, .obj _ _ _ _ _, n => nomatch n
theorem RDs.tds {ct : Cl} {F : Addr → Prop} {H : Hp} : ∀ (ds : List D) (vs : List V), RDs ct F H vs ds → noLs ds = true → TDs H vs ds
  | _, _, .nil, _ => .nil
  | d :: ds, v :: vs, .cons h hs, n => by
    have n' : (noL d && noLs ds) = true := n
    rw [Bool.and_eq_true] at n'
    exact .cons (RD.td d v h n'.1) (RDs.tds ds vs hs n'.2)
end
theorem noLs_ints (ns : List Int) : noLs (ns.map .int) = true := by
  induction ns with
  | nil => rfl
  | cons n r ih => exact ih
theorem noL_pair (p : Str × List Int) : noL (pairD p) = true := by
  show (true && (noLs (p.2.map .int) && true)) = true
  rw [noLs_ints]
  rfl
theorem noLs_tab (tb : List (Str × List Int)) : noLs (tb.map pairD) = true := by
  induction tb with
  | nil => rfl
  | cons p r ih =>
    show (noL (pairD p) && noLs (r.map pairD)) = true
    rw [noL_pair, ih]
    rfl
/-- the state's cell, in the heap -/
theorem st_in {ct : Cl} {g : Gh} {H : Hp} {l : List D} (c : Clz ct g H [.lst l]) (s : StL l) : ∃ st lA, g.as = [st] ∧ g.ms = [[st]] ∧ g.F lA ∧ ¬ g.F st ∧ Good st lA H := by
  obtain ⟨a, p, cc, ns, rfl, h1, h2, h3, h4⟩ := s
  obtain ⟨st, m, q1, q2, q3, xs, q4, q5⟩ := c.at_ 0 _ rfl
  subst q3
  have ea : g.as = [st] := by
    have := c.la
    match e : g.as, this, q1 with
    | [x], _, q => simpa using q
  have em : g.ms = [[st]] := by
    have := c.lm
    match e : g.ms, this, q2 with
    | [x], _, q => simpa using q
  have nF : ¬ g.F st := c.ap st (by rw [em]; simp)
  obtain ⟨x1, xs1, rfl, r1, q6⟩ : ∃ x r, xs = x :: r ∧ RD ct g.F H x (.int a) ∧ RDs ct g.F H r [.int p, .list (ns.map .int), .int cc] := by
    cases q5 with
    | cons h hs => exact ⟨_, _, rfl, h, hs⟩
  obtain ⟨x2, xs2, rfl, r2, q7⟩ : ∃ x r, xs1 = x :: r ∧ RD ct g.F H x (.int p) ∧ RDs ct g.F H r [.list (ns.map .int), .int cc] := by
    cases q6 with
    | cons h hs => exact ⟨_, _, rfl, h, hs⟩
  obtain ⟨x3, xs3, rfl, r3, q8⟩ : ∃ x r, xs2 = x :: r ∧ RD ct g.F H x (.list (ns.map .int)) ∧ RDs ct g.F H r [.int cc] := by
    cases q7 with
    | cons h hs => exact ⟨_, _, rfl, h, hs⟩
  obtain ⟨x4, xs4, rfl, r4, q9⟩ : ∃ x r, xs3 = x :: r ∧ RD ct g.F H x (.int cc) ∧ RDs ct g.F H r [] := by
    cases q8 with
    | cons h hs => exact ⟨_, _, rfl, h, hs⟩
  cases q9
  cases r1
  cases r2
  cases r4
  cases r3 with
  | lst f hl hns =>
    rename_i lA ys
    rw [hns.ints_eq] at hl
    exact ⟨st, lA, ea, em, f, nF, a, p, cc, ns, q4, h1, h2, h3, h4, fun e => nF (by rw [← e]; exact f), hl⟩
/-- .. and back -/
theorem st_out {ct : Cl} {g : Gh} {H H' : Hp} {l : List D} {st lA : Addr} (c : Clz ct g H [.lst l]) (ea : g.as = [st]) (em : g.ms = [[st]]) (f : g.F lA) (nF : ¬ g.F st) (G : Good st lA H) (le : Le st H H') (G' : Good st lA H') :
    ∃ l', StL l' ∧ Gk g H g H' ∧ Fr0 (Bs.of g H) g H' ∧ Clz ct g H' [.lst l'] := by
  have hst : ∀ xs, H st ≠ some (.tup xs) := fun xs e => by
    obtain ⟨_, _, _, _, h, _⟩ := G
    rw [h] at e
    cases e
  obtain ⟨a, p, cc, ns, h1, h2, h3, h4, h5, h6, h7⟩ := G'
  have kF : ∀ b, g.F b → H' b = H b := fun b hb => by
    cases e : H b with
    | none => exact absurd e (c.lv b hb)
    | some o => exact le b o (fun z => nF (by rw [← z]; exact hb)) e
  have kp : Gk g H g H' := ⟨⟨fun b xs h => le b _ (fun z => hst xs (by rw [← z]; exact h)) h, fun b hb => ⟨hb, kF b hb⟩⟩, fun _ _ h => h⟩
  refine ⟨[.int a, .int p, .list (ns.map .int), .int cc], ⟨a, p, cc, ns, rfl, h2, h3, h4, h5⟩, kp, ⟨kp.kp.1, fun b o h hm => le b o (fun z => hm (by rw [z]; show st ∈ g.ms.flatten; rw [em]; simp)) h, fun b h => .inl h, fun b h => .inl h⟩, by rw [ea]; rfl, by rw [em]; rfl, fun k x h => ?_, c.nd, c.ap, fun b hb => by rw [kF b hb]; exact c.lv b hb⟩
  cases k with
  | zero =>
    cases h
    exact ⟨st, [st], by rw [ea]; rfl, by rw [em]; rfl, rfl, _, h1, .cons (.int _) (.cons (.int _) (.cons (.lst f h7 (RDs.ints ns)) (.cons (.int _) .nil)))⟩
  | succ k => simp at h
/-- a new list behind it -/
theorem st_new {ct : Cl} {g : Gh} {H H' : Hp} {C : List Cell} {t : Addr} {us : List V} {ds : List D} (k : Gk g H g H') (f : Fr0 (Bs.of g H) g H') (c : Clz ct g H' C) {C0 : List Cell} (c0 : Clz ct g H C0) (hn : H t = none) (ht : H' t = some (.lst us)) (hT : RDs ct g.F H' us ds) :
    Gk g H (g.fz true t) H' ∧ Fr0 (Bs.of g H) (g.fz true t) H' ∧ Clz ct (g.fz true t) H' C ∧ RD ct (g.fz true t).F H' (.ref t) (.list ds) := by
  have k2 : Gk g H' (g.fz true t) H' := ⟨⟨fun _ _ h => h, fun a h => ⟨.inl h, rfl⟩⟩, fun _ _ h => h⟩
  refine ⟨k.trans k2, ⟨f.kt, f.keep, fun a h => ?_, f.newM⟩, ⟨c.la, c.lm, fun j x h => ?_, c.nd, fun a ha h => ?_, fun a h => ?_⟩, .lst (.inr ⟨rfl, rfl⟩) ht (RDs.mono k2.kp _ _ hT)⟩
  · rcases h with h | ⟨_, h⟩
    · exact f.newF a h
    · rw [h]
      exact .inr (.inl hn)
  · obtain ⟨a, m, h1, h2, h3⟩ := c.at_ j x h
    exact ⟨a, m, h1, h2, h3.keep k2 (.inl rfl)⟩
  · rcases h with h | ⟨_, h⟩
    · exact c.ap a ha h
    · exact c0.mutSome a ha (by rw [h]; exact hn)
  · rcases h with h | ⟨_, h⟩
    · exact c.lv a h
    · rw [h, ht]
      exact fun z => nomatch z

/-! ### the drawer, keys, rows, tables -/
def pLDraw : DSp := fun ws C Q _ => ∃ (n : Int) (l : List D), ws = [.ref 0, .val (.int n)] ∧ C = [.lst l] ∧ StL l ∧ 0 < n ∧ n.natAbs < 2 ^ 200 ∧ ∀ d l', 0 ≤ d → d < n → StL l' → Q (.val (.int d)) [.lst l']
def pLKey : DSp := fun ws C Q _ => ∃ (l : List D), ws = [.ref 0] ∧ C = [.lst l] ∧ StL l ∧ ∀ s l', KeyOk s → StL l' → Q (.val (.str s)) [.lst l']
def pLRow : DSp := fun ws C Q _ => ∃ (l : List D), ws = [.ref 0] ∧ C = [.lst l] ∧ StL l ∧ ∀ ns l', RowOk ns → StL l' → Q (.val (rowD ns)) [.lst l']
abbrev tabD (tb : List (Str × List Int)) : D := .list (tb.map pairD)
def pLTable : DSp := fun ws C Q _ => ∃ (n : Int) (l : List D), ws = [.ref 0, .val (.int n)] ∧ C = [.lst l] ∧ StL l ∧ 0 ≤ n ∧ n ≤ 30 ∧ ∀ tb l', TabOk tb → (tb.length : Int) ≤ n → StL l' → Q (.val (tabD tb)) [.lst l']
/-- what an old promise about the state is asked: all but results that are data -/
theorem st_bridge {ct : Ct} {m : Nat} {P : DSp} {vs : List V} {H : Hp} {Q : VK} {E : XK} (h : spD ct 1 m P vs H Q E) (hc : ∀ ws C QD RX, P ws C QD RX → ∃ l, C = [.lst l] ∧ StL l) :
    ∃ (g : Gh) (l : List D) (ws : List W) (QD : DK) (RX : XD) (st lA : Addr), Clz ct g H [.lst l] ∧ RWs ct g H vs ws ∧ g.as = [st] ∧ Good st lA H ∧ P ws [.lst l] QD RX ∧
      (∀ v d H', Le st H H' → Good st lA H' → TD H' v d → (∀ l', StL l' → QD (.val d) [.lst l']) → Q v H') ∧
      (∀ t us ds H', Le st H H' → Good st lA H' → H t = none → H' t = some (.lst us) → TDs H' us ds → (∀ l', StL l' → QD (.val (.list ds)) [.lst l']) → Q (.ref t) H') := by
  obtain ⟨g, C, ws, QD, RX, h1, h2, h3, h4, h5, h6, h7⟩ := h
  obtain ⟨l, rfl, s⟩ := hc _ _ _ _ h5
  obtain ⟨st, lA, ea, em, f, nF, G⟩ := st_in h3 s
  refine ⟨g, l, ws, QD, RX, st, lA, h3, h4, ea, G, h5, fun v d H' le G' r q => ?_, fun t us ds H' le G' hn ht hT q => ?_⟩
  · obtain ⟨l', s', k, fr, c⟩ := st_out h3 ea em f nF G le G'
    exact h6 v H' g _ (.val d) k fr c rfl (TD.rd _ _ r) (q l' s')
  · obtain ⟨l', s', k, fr, c⟩ := st_out h3 ea em f nF G le G'
    obtain ⟨k2, fr2, c2, r2⟩ := st_new k fr c h3 hn ht (TDs.rds _ _ hT)
    exact h6 _ H' _ _ (.val (.list ds)) k2 fr2 c2 rfl r2 (q l' s')
theorem st_ref {ct : Cl} {g : Gh} {H : Hp} {v : V} {st : Addr} (r : RW ct g H v (.ref 0)) (ea : g.as = [st]) : v = .ref st := by
  obtain ⟨a, h1, rfl⟩ := r
  rw [ea] at h1
  cases h1
  rfl
section
variable {P : Program} {w : World} {K : PySem.W.Frag} {mg : Str → Option Value} {base : Heap} {ct : Ct} {k : Nat} {f : Addr} {fd : FuncData}
theorem br_draw (F : FnOk P w K mg base CX0 k f fd ["state", "limit"] spDraw) : FnOk P w K mg base CX0 k f fd ["state", "limit"] (spD ct 1 2 pLDraw) := F.imp fun vs H Q E h => by
  obtain ⟨g, l, ws, QD, RX, st, lA, c, r, ea, G, ⟨n, l0, rfl, hl, s, h1, h2, q⟩, out, _⟩ := st_bridge h (fun ws C QD RX ⟨n, l, _, h, s, _⟩ => ⟨l, h, s⟩)
  obtain ⟨v, u, rfl, r1, r2⟩ := rws2 r
  rw [st_ref r1 ea, rw_int r2]
  exact ⟨st, lA, n, rfl, G, h1, h2, fun d H' d0 d1 le G' => out _ (.int d) H' le G' (.int d) fun l' s' => q d l' d0 d1 s'⟩
theorem br_key (F : FnOk P w K mg base CX0 k f fd ["state"] spKey) : FnOk P w K mg base CX0 k f fd ["state"] (spD ct 1 1 pLKey) := F.imp fun vs H Q E h => by
  obtain ⟨g, l, ws, QD, RX, st, lA, c, r, ea, G, ⟨l0, rfl, hl, s, q⟩, out, _⟩ := st_bridge h (fun ws C QD RX ⟨l, _, h, s, _⟩ => ⟨l, h, s⟩)
  obtain ⟨v, rfl, r1⟩ := rws1 r
  rw [st_ref r1 ea]
  exact ⟨st, lA, rfl, G, fun s H' hs le G' => out _ (.str s) H' le G' (.str s) fun l' s' => q s l' hs s'⟩
theorem br_row (F : FnOk P w K mg base CX0 k f fd ["state"] spRow) : FnOk P w K mg base CX0 k f fd ["state"] (spD ct 1 1 pLRow) := F.imp fun vs H Q E h => by
  obtain ⟨g, l, ws, QD, RX, st, lA, c, r, ea, G, ⟨l0, rfl, hl, s, q⟩, out, _⟩ := st_bridge h (fun ws C QD RX ⟨l, _, h, s, _⟩ => ⟨l, h, s⟩)
  obtain ⟨v, rfl, r1⟩ := rws1 r
  rw [st_ref r1 ea]
  exact ⟨st, lA, rfl, G, fun a ns H' hs le G' ha => out _ (rowD ns) H' le G' (.tup ha (TDs.ints ns)) fun l' s' => q ns l' hs s'⟩
theorem br_table (F : FnOk P w K mg base CX0 k f fd ["state", "most"] spTable) : FnOk P w K mg base CX0 k f fd ["state", "most"] (spD ct 1 2 pLTable) := F.imp fun vs H Q E h => by
  obtain ⟨g, l, ws, QD, RX, st, lA, c, r, ea, G, ⟨n, l0, rfl, hl, s, h1, h2, q⟩, _, out⟩ := st_bridge h (fun ws C QD RX ⟨n, l, _, h, s, _⟩ => ⟨l, h, s⟩)
  obtain ⟨v, u, rfl, r1, r2⟩ := rws2 r
  rw [st_ref r1 ea, rw_int r2]
  exact ⟨st, lA, n, rfl, G, h1, h2, fun t us tb H' hok hn ht le G' hu hT => out t us _ H' le G' ht hu hT fun l' s' => q tb l' hok hn s'⟩
end

abbrev sLDraw : Stmt := sDraw
abbrev sLKey : Stmt := sKey
abbrev sLRow : Stmt := sRow
abbrev sLTable : Stmt := sTable
theorem spD_none {P : Program} {w : World} {K : PySem.W.Frag} {mg : Str → Option Value} {base : Heap} {CX : CXT} {k : Nat} {f : Addr} {fd : FuncData} {ps : List Str} {ct : Ct} {n m : Nat} {p : DSp} (no : ∀ ws C Q R, ¬ p ws C Q R) : FnOk P w K mg base CX k f fd ps (spD ct n m p) := by
  have no' : ∀ vs H Q E, ¬ spD ct n m p vs H Q E := fun vs H Q E ⟨g, C, ws, QD, RX, _, _, _, _, h, _⟩ => no _ _ _ _ h
  exact ⟨fun vs H Q E h => absurd h (no' vs H Q E), fun A outer s H args us vs Q E _ _ _ _ h => absurd h (no' vs H Q E)⟩

end RR

namespace RR
open PySem PySem.Spec PyProof.Rows L2
/-! ### encodings -/
mutual
def enc : PyData → List Int
  | .int i => [0, i]
  | .str s => 1 :: (s.length : Int) :: s.cps.toList.map (fun c => ((c : Nat) : Int))
  | .tuple ds => 2 :: (ds.length : Int) :: encs ds
  | _ => []
def encs : List PyData → List Int
  | [] => []
  | d :: ds => enc d ++ encs ds
end
mutual
def isV : PyData → Bool
  | .int _ => true
  | .str _ => true
  | .tuple ds => areV ds
  | _ => false
def areV : List PyData → Bool
  | [] => true
  | d :: ds => isV d && areV ds
end
theorem encs_app : ∀ xs ys : List PyData, encs (xs ++ ys) = encs xs ++ encs ys
  | [], ys => rfl
  | x :: xs, ys => by
    show enc x ++ encs (xs ++ ys) = (enc x ++ encs xs) ++ encs ys
    rw [encs_app xs ys, List.append_assoc]
theorem areV_app : ∀ xs ys : List PyData, areV (xs ++ ys) = (areV xs && areV ys)
  | [], ys => rfl
  | x :: xs, ys => by
    show (isV x && areV (xs ++ ys)) = ((isV x && areV xs) && areV ys)
    rw [areV_app xs ys, Bool.and_assoc]
theorem areV_rev (xs : List PyData) : areV xs.reverse = areV xs := by
  induction xs with
  | nil => rfl
  | cons x xs ih =>
    rw [List.reverse_cons, areV_app, ih]
    show (areV xs && (isV x && true)) = (isV x && areV xs)
    rw [Bool.and_true, Bool.and_comm]
theorem enc_two {d : PyData} (h : isV d = true) : 2 ≤ (enc d).length := by
  cases d with
  | int i => exact Nat.le_refl _
  | str s =>
    show 2 ≤ (s.cps.toList.map _).length + 1 + 1
    omega
  | tuple ds =>
    show 2 ≤ (encs ds).length + 1 + 1
    omega
  | none => cases h
  | bool b => cases h
  | list ds => cases h
  | dict kvs => cases h
theorem encs_len : ∀ {ds : List PyData}, areV ds = true → 2 * ds.length ≤ (encs ds).length
  | [], _ => Nat.zero_le _
  | d :: ds, h => by
    have h1 : (isV d && areV ds) = true := h
    rw [Bool.and_eq_true] at h1
    have h2 := enc_two h1.1
    have h3 := encs_len h1.2
    show 2 * (ds.length + 1) ≤ (enc d ++ encs ds).length
    rw [List.length_append]
    omega
theorem big {n : Nat} (h : n ≤ 1000000) : n ≤ sizeLine := Nat.le_trans h (by decide)
theorem bigL {n : Nat} (h : n ≤ 1000000) : n < sizeLine := Nat.lt_of_le_of_lt h (by decide)
/-! ### digests -/
def RuleOk (b m : Int) : Prop := 1 ≤ b ∧ b ≤ 10 ^ 18 ∧ 2 ≤ m ∧ m ≤ 10 ^ 18
def digF (b m : Int) (ns : List Int) : Int := ns.foldl (fun r n => Int.fmod (r * b + n + 1) m) 1
def dig (b m : Int) (ns : List Int) : Int := Int.fmod (digF b m ns * b + (ns.length : Int)) m
theorem digF_snoc (b m n : Int) (ns : List Int) : digF b m (ns ++ [n]) = Int.fmod (digF b m ns * b + n + 1) m := by
  unfold digF
  rw [List.foldl_append]
  rfl

theorem last_get {α : Type} (xs : List α) (x : α) : (xs ++ [x])[(xs ++ [x]).length - 1]? = some x := by
  rw [List.length_append]
  exact List.getElem?_concat_length
theorem isEmpty_concat {α : Type} (xs : List α) (x : α) : (xs ++ [x]).isEmpty = false := by
  cases xs <;> rfl
theorem concat_cases {α : Type} (xs : List α) : xs = [] ∨ ∃ ys y, xs = ys ++ [y] := by
  rcases List.eq_nil_or_concat xs with h | ⟨ys, y, h⟩
  · exact .inl h
  · exact .inr ⟨ys, y, by rw [h, List.concat_eq_append]⟩
def intsD (ns : List Int) : List D := ns.map .int
theorem intsD_app (a b : List Int) : intsD (a ++ b) = intsD a ++ intsD b := List.map_append
theorem intsD_len (a : List Int) : (intsD a).length = a.length := List.length_map ..
theorem big2 {n : Nat} (h : n ≤ 1000000) : n ≤ sizeLine := Nat.le_trans h (by decide)

end RR

namespace RR
open PySem PySem.Spec PyProof.Rows L2
def codesI (s : Str) : List Int := s.cps.toList.map fun c => ((c : Nat) : Int)
def rkF (ns : List Int) : Int := ns.foldl (fun r n => Int.fmod (r * 131 + n) 1000003) 7
def rk (s : Str) : Int := rkF (codesI s)
theorem rkF_snoc (ns : List Int) (n : Int) : rkF (ns ++ [n]) = Int.fmod (rkF ns * 131 + n) 1000003 := by
  unfold rkF
  rw [List.foldl_append]
  rfl
/-- the index of the highest of the first n -/
def topI (tb : Tab) : Nat → Nat
  | 0 => 0
  | n + 1 => if rk (keyAt tb (topI tb n)) < rk (keyAt tb n) then n else topI tb n
theorem topI_lt (tb : Tab) : ∀ n, topI tb (n + 1) ≤ n
  | 0 => by
    show (if _ then 0 else 0) ≤ 0
    split <;> exact Nat.le_refl 0
  | n + 1 => by
    have h := topI_lt tb n
    show (if _ then n + 1 else topI tb (n + 1)) ≤ n + 1
    split
    · exact Nat.le_refl _
    · omega
theorem topI_in {tb : Tab} (h : tb ≠ []) : topI tb tb.length < tb.length := by
  cases tb with
  | nil => exact absurd rfl h
  | cons p r => exact Nat.lt_succ_of_le (topI_lt (p :: r) r.length)
structure Lnk where
  d : Int
  c : Int
  s0 : Int
  s1 : Int
  s2 : Int
deriving DecidableEq
def Lnk.s (l : Lnk) : Nat → Int
  | 0 => l.s0
  | 1 => l.s1
  | _ => l.s2
def sumsD (l : Lnk) : PyData := .tuple [.int l.s0, .int l.s1, .int l.s2]
def linkD (l : Lnk) : PyData := .tuple [.int l.d, .int l.c, sumsD l]
structure Ent where
  key : Str
  row : List Int
  l : Lnk
  r : Lnk
deriving DecidableEq
def entDs (e : Ent) : List PyData := [.str e.key, rowD e.row, linkD e.l, linkD e.r]
def entD (e : Ent) : PyData := .tuple (entDs e)
def nodeD (e : Ent) : PyData := .tuple (.str "node" :: entDs e)
def lnkOf (b m : Int) (e : Ent) : Lnk := ⟨dig b m (enc (nodeD e)), 1 + e.l.c + e.r.c, colOf e.row 0 + e.l.s0 + e.r.s0, colOf e.row 1 + e.l.s1 + e.r.s1, colOf e.row 2 + e.l.s2 + e.r.s2⟩
def lnk0 (b m : Int) : Lnk := ⟨dig b m (enc (.tuple [.str "empty"])), 0, 0, 0, 0⟩
def Ent.Fit (e : Ent) : Prop := e.key.length ≤ 1000 ∧ e.row.length ≤ 1000
theorem areV_ints : ∀ ns : List Int, areV (ns.map PyData.int) = true
  | [] => rfl
  | _ :: r => areV_ints r
theorem depth_ints : ∀ ns : List Int, PyData.depthAll (ns.map PyData.int) = 0
  | [] => rfl
  | n :: r => by
    show max 0 (PyData.depthAll (r.map PyData.int)) = 0
    rw [depth_ints r]
    rfl
theorem encs_ints : ∀ ns : List Int, (encs (ns.map PyData.int)).length = 2 * ns.length
  | [] => rfl
  | n :: r => by
    show (encs (r.map PyData.int)).length + 1 + 1 = 2 * (r.length + 1)
    rw [encs_ints r]
    omega
theorem enc_str_len (s : Str) : (enc (.str s)).length = s.length + 2 := by
  show (s.cps.toList.map _).length + 1 + 1 = s.length + 2
  rw [List.length_map, str_len]
theorem node_fit {e : Ent} (h : e.Fit) : isV (nodeD e) = true ∧ (nodeD e).depth < 8 ∧ (enc (nodeD e)).length ≤ 100000 := by
  refine ⟨?_, ?_, ?_⟩
  · show (true && (true && (areV (e.row.map PyData.int) && (true && (true && true))))) = true
    rw [areV_ints]
    rfl
  · show max 0 (max 0 (max (PyData.depthAll (e.row.map PyData.int) + 1) (max 2 (max 2 0)))) + 1 < 8
    rw [depth_ints]
    decide
  · have h1 := enc_str_len e.key
    have h2 := encs_ints e.row
    obtain ⟨k1, k2⟩ := h
    show (enc (.str "node") ++ (enc (.str e.key) ++ ((2 :: _ :: encs (e.row.map PyData.int)) ++ (enc (linkD e.l) ++ (enc (linkD e.r) ++ []))))).length + 1 + 1 ≤ 100000
    rw [List.length_append, List.length_append, List.length_append, List.length_append, List.length_append, List.length_cons, List.length_cons, h1, h2]
    show 6 + (_ + (_ + (14 + (14 + 0)))) + 1 + 1 ≤ 100000
    omega
inductive Tree where
  | nil
  | node (k : Str) (r : List Int) (x y : Tree)
def Tree.lnk (b m : Int) : Tree → Lnk
  | .nil => lnk0 b m
  | .node k r x y => lnkOf b m ⟨k, r, x.lnk b m, y.lnk b m⟩
def treeN : Nat → Tab → Tree
  | 0, _ => .nil
  | n + 1, tb => match tb[topI tb tb.length]? with
    | none => .nil
    | some p => .node p.1 p.2 (treeN n (tb.take (topI tb tb.length))) (treeN n (tb.drop (topI tb tb.length + 1)))
def treeOf (tb : Tab) : Tree := treeN tb.length tb
theorem treeN_same : ∀ (n m : Nat) (tb : Tab), tb.length ≤ n → tb.length ≤ m → treeN n tb = treeN m tb := by
  intro n
  induction n with
  | zero =>
    intro m tb h _
    have e : tb = [] := List.eq_nil_of_length_eq_zero (by omega)
    subst e
    cases m <;> rfl
  | succ n ih =>
    intro m tb h k
    cases m with
    | zero =>
      have e : tb = [] := List.eq_nil_of_length_eq_zero (by omega)
      subst e
      rfl
    | succ m =>
      show (match tb[topI tb tb.length]? with | none => Tree.nil | some p => _) = (match tb[topI tb tb.length]? with | none => Tree.nil | some p => _)
      cases e : tb[topI tb tb.length]? with
      | none => rfl
      | some p =>
        have hi : topI tb tb.length < tb.length := (List.getElem?_eq_some_iff.mp e).1
        show Tree.node _ _ _ _ = Tree.node _ _ _ _
        rw [ih m _ (by rw [List.length_take]; omega) (by rw [List.length_take]; omega), ih m _ (by rw [List.length_drop]; omega) (by rw [List.length_drop]; omega)]
theorem treeOf_nil : treeOf [] = .nil := rfl
theorem treeOf_node {tb : Tab} {p : Str × List Int} (h : tb[topI tb tb.length]? = some p) : treeOf tb = .node p.1 p.2 (treeOf (tb.take (topI tb tb.length))) (treeOf (tb.drop (topI tb tb.length + 1))) := by
  have hi : topI tb tb.length < tb.length := (List.getElem?_eq_some_iff.mp h).1
  have e : treeOf tb = treeN (tb.length - 1 + 1) tb := treeN_same _ _ _ (Nat.le_refl _) (by omega)
  rw [e]
  show (match tb[topI tb tb.length]? with | none => Tree.nil | some p => _) = _
  rw [h]
  show Tree.node _ _ _ _ = Tree.node _ _ _ _
  unfold treeOf
  rw [treeN_same (tb.length - 1) _ (tb.take (topI tb tb.length)) (by rw [List.length_take]; omega) (Nat.le_refl _), treeN_same (tb.length - 1) _ (tb.drop (topI tb tb.length + 1)) (by rw [List.length_drop]; omega) (Nat.le_refl _)]
def TabFit (tb : Tab) : Prop := ∀ p ∈ tb, p.1.length ≤ 1000 ∧ p.2.length ≤ 1000
theorem TabOk.fit {tb : Tab} (h : TabOk tb) : TabFit tb := fun p hp => by
  obtain ⟨⟨_, k1, _⟩, _, k2, _⟩ := h.2 p hp
  exact ⟨by omega, by omega⟩
theorem empty_fit : isV (.tuple [.str "empty"]) = true ∧ (PyData.tuple [.str "empty"]).depth < 8 ∧ (enc (.tuple [.str "empty"])).length ≤ 100000 := by
  decide +kernel
inductive Chg where
  | put (k : Str) (r : List Int)
  | rem (k : Str)
def Chg.key : Chg → Str
  | .put k _ => k
  | .rem k => k
def Chg.own : Chg → List (Str × List Int)
  | .put k r => [(k, r)]
  | .rem _ => []
def Chg.Ok : Chg → Prop
  | .put k r => KeyOk k ∧ RowOk r
  | .rem k => KeyOk k
def chgD : Chg → PyData
  | .put k r => .tuple [.str "put", .str k, rowD r]
  | .rem k => .tuple [.str "remove", .str k]
def changed (tb : List (Str × List Int)) (ch : Chg) : List (Str × List Int) := below ch.key tb ++ ch.own ++ above ch.key tb
theorem Chg.key_ok {ch : Chg} (h : ch.Ok) : KeyOk ch.key := by
  cases ch with
  | put k r => exact h.1
  | rem k => exact h
theorem changed_ok {tb : List (Str × List Int)} {ch : Chg} (h : ∀ p ∈ tb, KeyOk p.1 ∧ RowOk p.2) (hc : ch.Ok) : ∀ p ∈ changed tb ch, KeyOk p.1 ∧ RowOk p.2 := by
  intro p hp
  rcases List.mem_append.mp hp with hp | hp
  · rcases List.mem_append.mp hp with hp | hp
    · exact h p (List.mem_filter.mp hp).1
    · cases ch with
      | put k r =>
        have e : p = (k, r) := by simpa [Chg.own] using hp
        rw [e]
        exact hc
      | rem k => cases hp
  · exact h p (List.mem_filter.mp hp).1
theorem changed_len (tb : List (Str × List Int)) (ch : Chg) : (changed tb ch).length ≤ tb.length + 1 := by
  have h := parts_len ch.key tb
  unfold changed
  rw [List.length_append, List.length_append]
  have h2 : ch.own.length ≤ 1 := by
    cases ch with
    | put k r => exact Nat.le_refl _
    | rem k => exact Nat.zero_le _
  omega
def slt (a b : Str) : Bool := decide (a.cps.toList < b.cps.toList)
def Tree.size : Tree → Nat
  | .nil => 0
  | .node _ _ x y => x.size + y.size + 1
def entOf (b m : Int) (k : Str) (r : List Int) (x y : Tree) : Ent := ⟨k, r, x.lnk b m, y.lnk b m⟩
def wGet (b m : Int) (key : Str) : Tree → List Ent
  | .nil => []
  | .node k r x y => entOf b m k r x y :: (if slt key k = true then wGet b m key x else if slt k key = true then wGet b m key y else [])
def wPlace (b m : Int) (key : Str) : Tree → List Ent
  | .nil => []
  | .node k r x y => entOf b m k r x y :: (if slt k key = true then wPlace b m key y else wPlace b m key x)
def wAt (b m : Int) : Tree → Int → List Ent
  | .nil, _ => []
  | .node k r x y, p => if ((Tree.node k r x y).lnk b m).c ≤ p then [] else
      entOf b m k r x y :: (if p < (x.lnk b m).c then wAt b m x p else if (x.lnk b m).c < p then wAt b m y (p - (x.lnk b m).c - 1) else [])
def wRange (b m : Int) (lo hi : Str) : Tree → List Ent
  | .nil => []
  | .node k r x y => entOf b m k r x y :: ((if slt lo k = true then wRange b m lo hi x else []) ++ (if slt k hi = true then wRange b m lo hi y else []))
def wNext (b m : Int) (key : Str) (cnt : Int) : Tree → Int → Int × List Ent
  | .nil, g => (g, [])
  | .node k r x y, g => if cnt ≤ g then (g, []) else
      if slt key k = true then
        ((wNext b m key cnt y (if (wNext b m key cnt x g).1 < cnt then (wNext b m key cnt x g).1 + 1 else (wNext b m key cnt x g).1)).1,
          entOf b m k r x y :: ((wNext b m key cnt x g).2 ++ (wNext b m key cnt y (if (wNext b m key cnt x g).1 < cnt then (wNext b m key cnt x g).1 + 1 else (wNext b m key cnt x g).1)).2))
      else ((wNext b m key cnt y g).1, entOf b m k r x y :: (wNext b m key cnt y g).2)
def aboveB (lo : Str) : Option Str → Bool
  | none => false
  | some ab => !slt ab lo
def inside (lo hi : Str) (ab be : Option Str) : Bool :=
  match be with
  | none => false
  | some be => !slt hi be && (decide (lo = "") || aboveB lo ab)
def wSum (b m : Int) (lo hi : Str) : Tree → Option Str → Option Str → List Ent
  | .nil, _, _ => []
  | .node k r x y, ab, be => if inside lo hi ab be = true then [] else
      entOf b m k r x y :: ((if slt lo k = true then wSum b m lo hi x ab (some k) else []) ++ (if slt k hi = true then wSum b m lo hi y (some k) be else []))
/-- the walk of a query -/
def certOf (b m : Int) (t : Tree) : Qry → List Ent
  | .get k => wGet b m k t
  | .range lo hi => wRange b m lo hi t
  | .next k n => (wNext b m k n t 0).2
  | .count lo hi => wSum b m lo hi t none none
  | .sum _ lo hi => wSum b m lo hi t none none
  | .place k => wPlace b m k t
  | .at_ n => wAt b m t n
theorem wGet_len (b m : Int) (key : Str) : ∀ t : Tree, (wGet b m key t).length ≤ t.size
  | .nil => Nat.le_refl _
  | .node k r x y => by
    have h1 := wGet_len b m key x
    have h2 := wGet_len b m key y
    show (if _ then _ else if _ then _ else _ : List Ent).length + 1 ≤ x.size + y.size + 1
    split
    · omega
    · split
      · omega
      · show 0 + 1 ≤ _
        omega
theorem wPlace_len (b m : Int) (key : Str) : ∀ t : Tree, (wPlace b m key t).length ≤ t.size
  | .nil => Nat.le_refl _
  | .node k r x y => by
    have h1 := wPlace_len b m key x
    have h2 := wPlace_len b m key y
    show (if _ then _ else _ : List Ent).length + 1 ≤ x.size + y.size + 1
    split <;> omega
theorem wAt_len (b m : Int) : ∀ (t : Tree) (p : Int), (wAt b m t p).length ≤ t.size
  | .nil, _ => Nat.le_refl _
  | .node k r x y, p => by
    have h1 := wAt_len b m x p
    have h2 := wAt_len b m y (p - (x.lnk b m).c - 1)
    unfold wAt
    split
    · exact Nat.zero_le _
    · show (if _ then _ else if _ then _ else _ : List Ent).length + 1 ≤ x.size + y.size + 1
      split
      · omega
      · split
        · omega
        · show 0 + 1 ≤ _
          omega
theorem wRange_len (b m : Int) (lo hi : Str) : ∀ t : Tree, (wRange b m lo hi t).length ≤ t.size
  | .nil => Nat.le_refl _
  | .node k r x y => by
    have h1 := wRange_len b m lo hi x
    have h2 := wRange_len b m lo hi y
    show (_ ++ _ : List Ent).length + 1 ≤ x.size + y.size + 1
    rw [List.length_append]
    have e : ([] : List Ent).length = 0 := rfl
    split <;> split <;> omega
theorem wSum_len (b m : Int) (lo hi : Str) : ∀ (t : Tree) (ab be : Option Str), (wSum b m lo hi t ab be).length ≤ t.size
  | .nil, _, _ => Nat.le_refl _
  | .node k r x y, ab, be => by
    have h1 := wSum_len b m lo hi x ab (some k)
    have h2 := wSum_len b m lo hi y (some k) be
    unfold wSum
    split
    · exact Nat.zero_le _
    · show (_ ++ _ : List Ent).length + 1 ≤ x.size + y.size + 1
      rw [List.length_append]
      have e : ([] : List Ent).length = 0 := rfl
      split <;> split <;> omega
theorem wNext_len (b m : Int) (key : Str) (cnt : Int) : ∀ (t : Tree) (g : Int), (wNext b m key cnt t g).2.length ≤ t.size
  | .nil, _ => Nat.le_refl _
  | .node k r x y, g => by
    have h1 := wNext_len b m key cnt x g
    have h2 := wNext_len b m key cnt y
    unfold wNext
    split
    · exact Nat.zero_le _
    · split
      · have h3 := h2 (if (wNext b m key cnt x g).1 < cnt then (wNext b m key cnt x g).1 + 1 else (wNext b m key cnt x g).1)
        show (_ ++ _ : List Ent).length + 1 ≤ x.size + y.size + 1
        rw [List.length_append]
        omega
      · have h3 := h2 g
        show (wNext b m key cnt y g).2.length + 1 ≤ x.size + y.size + 1
        omega
theorem certOf_len (b m : Int) (t : Tree) (q : Qry) : (certOf b m t q).length ≤ t.size := by
  cases q with
  | get k => exact wGet_len ..
  | range lo hi => exact wRange_len ..
  | next k n => exact wNext_len ..
  | count lo hi => exact wSum_len ..
  | sum c lo hi => exact wSum_len ..
  | place k => exact wPlace_len ..
  | at_ n => exact wAt_len ..
theorem treeN_size : ∀ (n : Nat) (tb : Tab), (treeN n tb).size ≤ tb.length
  | 0, _ => Nat.zero_le _
  | n + 1, tb => by
    show (match tb[topI tb tb.length]? with | none => Tree.nil | some p => _ : Tree).size ≤ _
    cases e : tb[topI tb tb.length]? with
    | none => exact Nat.zero_le _
    | some p =>
      have hi : topI tb tb.length < tb.length := (List.getElem?_eq_some_iff.mp e).1
      have h1 := treeN_size n (tb.take (topI tb tb.length))
      have h2 := treeN_size n (tb.drop (topI tb tb.length + 1))
      rw [List.length_take] at h1
      rw [List.length_drop] at h2
      show (treeN n (tb.take (topI tb tb.length))).size + (treeN n (tb.drop (topI tb tb.length + 1))).size + 1 ≤ tb.length
      omega
theorem treeOf_size (tb : Tab) : (treeOf tb).size ≤ tb.length := treeN_size _ _

end RR

namespace RR
open PySem PySem.Spec PyProof.Rows L2
set_option hygiene false in
local macro_rules | `(tactic| walk_at "d") => `(tactic| simp -implicitDefEqProofs only [dSeqS, dNext, dDrop, dRet, dRetN, dIfS, dAsg, dAsgC, dgName, dgTup.eq_1, dgTup.eq_2, dgCons.eq_1, dgCons.eq_2, dgNil, dgSub, subK.eq_1, subK.eq_2, dVar, dVarF, dC, dOp, fII.eq_1, fII.eq_2, fIIc.eq_1, fIIc.eq_2, fAdd.eq_1, fAdd.eq_2, fAdd.eq_3, fAdd.eq_4, fAdd.eq_5, fAdd.eq_6, fCmp.eq_1, fCmp.eq_2, fCmp.eq_3, fEqD, fIsN.eq_1, fIsN.eq_2, isNon.eq_1, isNon.eq_2, rdV.eq_1, rdV.eq_2, rdV.eq_3, rdL.eq_1, rdL.eq_2, rdL.eq_3, dB, dAnd, dOr, dNot, dTru, dIf, dAndV, dOrV, dNotV, dChain, dNil, dCons, vals.eq_1, vals.eq_2, vals.eq_3, dTup, dLst, fIx.eq_1, fIx.eq_2, fIx.eq_3, fIx.eq_4, fIx.eq_5, dSl, dPart, dNoPart, dCB, fLen.eq_1, fLen.eq_2, fLen.eq_3, fLen.eq_4, fLen.eq_5, fInt.eq_1, fInt.eq_2, fInt.eq_3, fList.eq_1, fList.eq_2, rdS.eq_1, rdS.eq_2, rdS.eq_3, rdS.eq_4, fTup.eq_1, fTup.eq_2, fOrd.eq_1, fOrd.eq_2, fIsi.eq_1, fIsi.eq_2, tyD.eq_1, tyD.eq_2, tyD.eq_3, tyD.eq_4, tyD.eq_5, tyD.eq_6, tyD.eq_7, kb1, kb2, kb3, kb4, kb5, kb6, kb7, kb8, kb9, kb10, kb11, kb12, kb13, kb14, kb15, kb16, kb17, kb18, kb19, kb20, kb21, kb22, kb23, kb24, dSeq, seqK.eq_1, seqK.eq_2, seqK.eq_3, seqK.eq_4, seqK.eq_5, dRng1, dRng2, dRev, lstK.eq_1, lstK.eq_2, lstK.eq_3, dEnum, dZip, dBM, dBM0, fAppend.eq_1, fAppend.eq_2, fExtend.eq_1, fExtend.eq_2, fExtA.eq_1, fExtA.eq_2, fPop.eq_1, fPop.eq_2, dRevT, dRevL, f2I.eq_1, f2I.eq_2, bK.eq_1, bK.eq_2, truK.eq_1, truK.eq_2, truK.eq_3, truK.eq_4, truK.eq_5, truK.eq_6, truK.eq_7, truL.eq_1, truL.eq_2, dispK.eq_1, dispK.eq_2, ixK.eq_1, ixK.eq_2, ixS.eq_1, ixS.eq_2, ixL.eq_1, ixL.eq_2, partK.eq_1, partK.eq_2, slK.eq_1, slK.eq_2, slK.eq_3, slK.eq_4, slK.eq_5, slL.eq_1, slL.eq_2, lenLK.eq_1, lenLK.eq_2, mkL.eq_1, mkL.eq_2, isiB.eq_1, isiB.eq_2, isiK.eq_1, isiK.eq_2, frzK.eq_1, frzK.eq_2, frzK.eq_3, rng1K.eq_1, rng1K.eq_2, rng2K.eq_1, rng2K.eq_2, lst1K.eq_1, lst1K.eq_2, zipK.eq_1, zipK.eq_2, sub1K.eq_1, sub1K.eq_2, sub2K.eq_1, sub2K.eq_2, appK.eq_1, appK.eq_2, extK.eq_1, extK.eq_2, pop2K.eq_1, pop2K.eq_2, popK.eq_1, popK.eq_2, lstFK.eq_1, lstFK.eq_2, lisFK.eq_1, lisFK.eq_2, lisF2K.eq_1, lisF2K.eq_2, accK.eq_1, accK.eq_2, dVal, revTK.eq_1, revTK.eq_2, callK.eq_1, callK.eq_2, eqK.eq_1, eqK.eq_2, catK.eq_1, catK.eq_2, cellL.eq_1, cellL.eq_2, cellL.eq_3, okDi, okDb, okDn, eqvi, eqvs, dLstF, dListF, dLc, dYes, wipeE.eq_1, wipeE.eq_2, dFor, fin, finD, wOk.eq_1, wOk.eq_2, cellOk.eq_1, cellOk.eq_2, E0D, dCallP, dCallW, putW, firstRef.eq_1, firstRef.eq_2, firstRef.eq_3, shW.eq_1, shW.eq_2, unW.eq_1, unW.eq_2, inW.eq_1, inW.eq_2, shC.eq_1, shC.eq_2, unC.eq_1, unC.eq_2, inC.eq_1, inC.eq_2, dBreak, at0, at1, at2, at3, atI_last, List.getElem?_cons_zero, List.getElem?_cons_succ, List.getElem?_nil, List.set_cons_zero, List.set_cons_succ, List.map_cons, List.map_nil, List.length_cons, List.length_nil, List.replicate_succ, List.replicate_zero, List.cons_append, List.nil_append, List.append_nil, Option.map_some, Option.map_none, Option.isSome_some, if_true, if_false, ite_true, ite_false, Bool.and_true, Bool.true_and, Bool.and_false, Bool.false_and, Bool.or_true, Bool.or_false, Bool.true_or, Bool.false_or, Bool.not_true, Bool.not_false, true_and, and_true, List.take_succ_cons, List.take_zero, List.take_nil, List.drop_zero, List.drop_succ_cons, List.drop_nil, List.all_cons, List.all_nil, List.any_cons, List.any_nil, List.contains_cons, List.elem_nil, Nat.zero_add, Nat.add_zero, Nat.le_refl, Nat.reduceAdd, Nat.reduceSub, Nat.reduceLT, Nat.reduceLeDiff, Nat.sub_self, Nat.sub_zero, Nat.zero_le, decide_true, decide_false, beq_self_eq_true, Bool.false_eq_true, reduceCtorEq, List.isEmpty_cons, List.isEmpty_nil, List.dropLast_concat, dUn, unK.eq_1, unK.eq_2, dFld, fldK.eq_1, fldK.eq_2, fldK.eq_3, fldC.eq_1, fldC.eq_2, fldW.eq_1, fldW.eq_2, dMake, makK.eq_1, makK.eq_2, fld00, fld01, fld02, lenF0, lenF1, lenF2, get_end, set_end, id])
set_option hygiene false in
local macro_rules | `(tactic| walk_at "s") => `(tactic| simp -implicitDefEqProofs only [dNext, dDrop, dRet, dRetN, dIfS, dAsg, dAsgC, dgName, dgTup.eq_1, dgTup.eq_2, dgCons.eq_1, dgCons.eq_2, dgNil, dgSub, subK.eq_1, subK.eq_2, dVar, dVarF, dC, dOp, fII.eq_1, fII.eq_2, fIIc.eq_1, fIIc.eq_2, fAdd.eq_1, fAdd.eq_2, fAdd.eq_3, fAdd.eq_4, fAdd.eq_5, fAdd.eq_6, fCmp.eq_1, fCmp.eq_2, fCmp.eq_3, fEqD, fIsN.eq_1, fIsN.eq_2, isNon.eq_1, isNon.eq_2, rdV.eq_1, rdV.eq_2, rdV.eq_3, rdL.eq_1, rdL.eq_2, rdL.eq_3, dB, dAnd, dOr, dNot, dTru, dIf, dAndV, dOrV, dNotV, dChain, dNil, dCons, vals.eq_1, vals.eq_2, vals.eq_3, dTup, dLst, fIx.eq_1, fIx.eq_2, fIx.eq_3, fIx.eq_4, fIx.eq_5, dSl, dPart, dNoPart, dCB, fLen.eq_1, fLen.eq_2, fLen.eq_3, fLen.eq_4, fLen.eq_5, fInt.eq_1, fInt.eq_2, fInt.eq_3, fList.eq_1, fList.eq_2, rdS.eq_1, rdS.eq_2, rdS.eq_3, rdS.eq_4, fTup.eq_1, fTup.eq_2, fOrd.eq_1, fOrd.eq_2, fIsi.eq_1, fIsi.eq_2, tyD.eq_1, tyD.eq_2, tyD.eq_3, tyD.eq_4, tyD.eq_5, tyD.eq_6, tyD.eq_7, kb1, kb2, kb3, kb4, kb5, kb6, kb7, kb8, kb9, kb10, kb11, kb12, kb13, kb14, kb15, kb16, kb17, kb18, kb19, kb20, kb21, kb22, kb23, kb24, dSeq, seqK.eq_1, seqK.eq_2, seqK.eq_3, seqK.eq_4, seqK.eq_5, dRng1, dRng2, dRev, lstK.eq_1, lstK.eq_2, lstK.eq_3, dEnum, dZip, dBM, dBM0, fAppend.eq_1, fAppend.eq_2, fExtend.eq_1, fExtend.eq_2, fExtA.eq_1, fExtA.eq_2, fPop.eq_1, fPop.eq_2, dRevT, dRevL, f2I.eq_1, f2I.eq_2, bK.eq_1, bK.eq_2, truK.eq_1, truK.eq_2, truK.eq_3, truK.eq_4, truK.eq_5, truK.eq_6, truK.eq_7, truL.eq_1, truL.eq_2, dispK.eq_1, dispK.eq_2, ixK.eq_1, ixK.eq_2, ixS.eq_1, ixS.eq_2, ixL.eq_1, ixL.eq_2, partK.eq_1, partK.eq_2, slK.eq_1, slK.eq_2, slK.eq_3, slK.eq_4, slK.eq_5, slL.eq_1, slL.eq_2, lenLK.eq_1, lenLK.eq_2, mkL.eq_1, mkL.eq_2, isiB.eq_1, isiB.eq_2, isiK.eq_1, isiK.eq_2, frzK.eq_1, frzK.eq_2, frzK.eq_3, rng1K.eq_1, rng1K.eq_2, rng2K.eq_1, rng2K.eq_2, lst1K.eq_1, lst1K.eq_2, zipK.eq_1, zipK.eq_2, sub1K.eq_1, sub1K.eq_2, sub2K.eq_1, sub2K.eq_2, appK.eq_1, appK.eq_2, extK.eq_1, extK.eq_2, pop2K.eq_1, pop2K.eq_2, popK.eq_1, popK.eq_2, lstFK.eq_1, lstFK.eq_2, lisFK.eq_1, lisFK.eq_2, lisF2K.eq_1, lisF2K.eq_2, accK.eq_1, accK.eq_2, dVal, revTK.eq_1, revTK.eq_2, callK.eq_1, callK.eq_2, eqK.eq_1, eqK.eq_2, catK.eq_1, catK.eq_2, cellL.eq_1, cellL.eq_2, cellL.eq_3, okDi, okDb, okDn, eqvi, eqvs, dLstF, dListF, dLc, dYes, wipeE.eq_1, wipeE.eq_2, dFor, fin, finD, wOk.eq_1, wOk.eq_2, cellOk.eq_1, cellOk.eq_2, E0D, dCallP, dCallW, putW, firstRef.eq_1, firstRef.eq_2, firstRef.eq_3, shW.eq_1, shW.eq_2, unW.eq_1, unW.eq_2, inW.eq_1, inW.eq_2, shC.eq_1, shC.eq_2, unC.eq_1, unC.eq_2, inC.eq_1, inC.eq_2, dBreak, at0, at1, at2, at3, atI_last, List.getElem?_cons_zero, List.getElem?_cons_succ, List.getElem?_nil, List.set_cons_zero, List.set_cons_succ, List.map_cons, List.map_nil, List.length_cons, List.length_nil, List.replicate_succ, List.replicate_zero, List.cons_append, List.nil_append, List.append_nil, Option.map_some, Option.map_none, Option.isSome_some, if_true, if_false, ite_true, ite_false, Bool.and_true, Bool.true_and, Bool.and_false, Bool.false_and, Bool.or_true, Bool.or_false, Bool.true_or, Bool.false_or, Bool.not_true, Bool.not_false, true_and, and_true, List.take_succ_cons, List.take_zero, List.take_nil, List.drop_zero, List.drop_succ_cons, List.drop_nil, List.all_cons, List.all_nil, List.any_cons, List.any_nil, List.contains_cons, List.elem_nil, Nat.zero_add, Nat.add_zero, Nat.le_refl, Nat.reduceAdd, Nat.reduceSub, Nat.reduceLT, Nat.reduceLeDiff, Nat.sub_self, Nat.sub_zero, Nat.zero_le, decide_true, decide_false, beq_self_eq_true, Bool.false_eq_true, reduceCtorEq, List.isEmpty_cons, List.isEmpty_nil, List.dropLast_concat, dUn, unK.eq_1, unK.eq_2, dFld, fldK.eq_1, fldK.eq_2, fldK.eq_3, fldC.eq_1, fldC.eq_2, fldW.eq_1, fldW.eq_2, dMake, makK.eq_1, makK.eq_2, fld00, fld01, fld02, lenF0, lenF1, lenF2, get_end, set_end, id])
abbrev sPEncode : Stmt := topS 5
theorem scPEncode : FnScope ["value", "numbers", "waiting", "part", "sign"] ["value"] (defScope sPEncode) := ⟨rfl, rfl, rfl, by decide +kernel, rfl, by decide +kernel, by decide +kernel⟩
def pPEncode : DSp := fun ws C Q _ => ∃ d, ws = [.val d] ∧ isV d = true ∧ (enc d).length ≤ 1000000 ∧ Q (.val (.list (intsD (enc d)))) C
section
variable {P : Program} {w : World} {K : PySem.W.Frag} {mg : Str → Option Value} {base : Heap} {ct : Ct}
theorem ok_PEncode (D : Def K mg "encode" sPEncode ["value"]) (m_int : mg "int" = none) (m_isinstance : mg "isinstance" = none) (m_len : mg "len" = none) (m_ord : mg "ord" = none) (m_str : mg "str" = none)
    : FnOk P w K mg base CX0 1 D.f D.fd ["value"] (spD ct 0 1 pPEncode) := by
  refine D.F.ok scPEncode (fun vs H Q E h => spD_len h) (fun cdv A outer s H vs Q E hr h => ⟨_, (pss_cons (psC (ps_set (i := 1) scPEncode.nd rfl (.inl rfl) (pe_lst pa_nil))) <|
    pss_cons (psC (ps_set (i := 2) scPEncode.nd rfl (.inl rfl) (pe_lst (pa_cons (pv 0) pa_nil)))) <|
    pss_cons (ps_while PassesOwn.never (pt_truA (pv 2))
      (pss_cons (ps_set (i := 3) scPEncode.nd rfl (.inl rfl) (pe_bm0 PySem.F.plainAttrs_list PySem.F.slot_list_pop PySem.F.type_list_pop mt_pop (pv 2))) <|
        pss_one (ps_if (pt_truA (pe_callB call_isi (by rfl) m_isinstance (by decide +kernel) (pa_cons (pv 3) (pa_cons (pe_bltn (v := .ty "int") (by rfl) m_int (by decide +kernel) rfl) pa_nil))))
          (pss_one (ps_expr (pe_bm PySem.F.plainAttrs_list PySem.F.slot_list_extend PySem.F.type_list_extend mt_extA (pv 1) (pa_cons (pe_lst (pa_cons pe_int (pa_cons (pv 3) pa_nil))) pa_nil)))) (pss_one (ps_if (pt_truA (pe_callB call_isi (by rfl) m_isinstance (by decide +kernel) (pa_cons (pv 3) (pa_cons (pe_bltn (v := .ty "str") (by rfl) m_str (by decide +kernel) rfl) pa_nil))))
              (pss_cons (ps_expr (pe_bm PySem.F.plainAttrs_list PySem.F.slot_list_extend PySem.F.type_list_extend mt_extA (pv 1) (pa_cons (pe_lst (pa_cons pe_int (pa_cons (pe_callB call_lenA (by rfl) m_len (by decide +kernel) (pa_cons (pv 3) pa_nil)) pa_nil))) pa_nil))) <|
                pss_one (ps_expr (pe_bm PySem.F.plainAttrs_list PySem.F.slot_list_extend PySem.F.type_list_extend mt_extA (pv 1) (pa_cons (pe_lc (own := [("sign", 4)]) (g := (gName 4)) (by rfl) scPEncode.nd (pi_seqA (pv 3))
        (blkOk_by (own := [("sign", 4)]) (N := ["value", "numbers", "waiting", "part", "sign"]) (sc := defScope sPEncode) (by decide +kernel))
        (fun _ _ _ _ _ => (pg_name (i := 4) scPEncode.nd rfl (Or.inl rfl))) (fun _ _ _ _ _ => pts_nil)
        (fun _ _ _ _ _ => (pe_callB call_ordA (by rfl) m_ord (by decide +kernel) (pa_cons (pv 4) pa_nil)))) pa_nil)))) (pss_cons (ps_expr (pe_bm PySem.F.plainAttrs_list PySem.F.slot_list_extend PySem.F.type_list_extend mt_extA (pv 1) (pa_cons (pe_lst (pa_cons pe_int (pa_cons (pe_callB call_lenA (by rfl) m_len (by decide +kernel) (pa_cons (pv 3) pa_nil)) pa_nil))) pa_nil))) <|
                pss_one (ps_expr (pe_bm PySem.F.plainAttrs_list PySem.F.slot_list_extend PySem.F.type_list_extend mt_extA (pv 2) (pa_cons (RX.pe_revT (pv 3)) pa_nil))))))))) <|
    pss_one (ps_ret (pvF 1))), body_ok _ (fun R => inferInstance) (by decide) (fun ws C Q R hw hC hP => ?_) h⟩)
  obtain rfl := List.eq_nil_of_length_eq_zero hC
  obtain ⟨d, rfl, hv, hl, q⟩ := hP
  walk_at "d"
  refine ⟨by decide, dWhile_by (α := List Int × List PyData) (fun a E C => ∃ x3, E = [some (.val d), some (.ref 0), some (.ref 1), x3, none] ∧ C = [.lst (intsD a.1), .lst a.2] ∧ areV a.2 = true ∧ a.1 ++ encs a.2.reverse = enc d) (fun a => (enc d).length - a.1.length) ([], [d]) ⟨none, rfl, rfl, ?_, ?_⟩ ?_⟩
  · show (isV d && true) = true
    rw [hv]
    rfl
  · show enc d ++ [] = enc d
    rw [List.append_nil]
  rintro ⟨ns, wt⟩ E C ⟨x3, rfl, rfl, ha, he⟩
  dsimp only at ha he
  rcases concat_cases wt with rfl | ⟨wt, x, rfl⟩
  · walk_at "d"
    rw [List.reverse_nil] at he
    have he2 : ns = enc d := (List.append_nil _).symm.trans he
    rw [he2]
    exact q
  · rw [areV_app, Bool.and_eq_true] at ha
    have hx : isV x = true := by
      have := ha.2
      change (isV x && true) = true at this
      rw [Bool.and_true] at this
      exact this
    rw [List.reverse_append] at he
    have he : ns ++ (enc x ++ encs wt.reverse) = enc d := he
    have hlen := congrArg List.length he
    rw [List.length_append, List.length_append] at hlen
    have h2 := enc_two hx
    walk_at "d"
    simp only [isEmpty_concat, last_get, List.dropLast_concat]
    walk_at "d"
    cases x with
    | none => cases hx
    | bool b => cases hx
    | list ds => cases hx
    | dict kvs => cases hx
    | int i =>
      walk_at "d"
      refine ⟨by decide, ?_, (ns ++ [0, i], wt), ?_, _, rfl, by rw [intsD_app]; rfl, ha.1, ?_⟩
      · rw [intsD_len]
        exact big2 (by omega)
      · rw [List.length_append]
        show _ - (ns.length + 2) < _
        omega
      · show (ns ++ [0, i]) ++ encs wt.reverse = _
        rw [List.append_assoc]
        exact he
    | str z =>
      walk_at "d"
      have hz : (enc (.str z)).length = z.length + 2 := by
        show (z.cps.toList.map _).length + 1 + 1 = _
        rw [List.length_map, Array.length_toList]
        rfl
      have hc : (chars z).map (fun x => match x with | .str y => PyData.int (y.cps.getD 0 0 : Nat) | x => x) = intsD (z.cps.toList.map fun c => ((c : Nat) : Int)) := by
        unfold chars intsD
        rw [List.map_map, List.map_map]
        rfl
      refine ⟨big2 (by omega), by decide, by rw [intsD_len]; exact big2 (by omega), dLcGo_map (fun x => match x with | .str y => PyData.int (y.cps.getD 0 0 : Nat) | x => x) _ (by rw [chars_len]; exact big2 (by show z.length ≤ _; omega)) (fun x hx K k => ?_) ?_⟩
      · obtain ⟨c, _, rfl⟩ := List.mem_map.mp hx
        walk_at "d"
        exact ⟨rfl, k⟩
      · rw [hc]
        walk_at "d"
        have e3 : intsD ns ++ [PyData.int 1, .int z.length] ++ intsD (z.cps.toList.map fun c => ((c : Nat) : Int)) = intsD (ns ++ enc (.str z)) := by
          rw [intsD_app, List.append_assoc]
          rfl
        refine ⟨?_, (ns ++ enc (.str z), wt), ?_, _, rfl, by rw [e3], ha.1, ?_⟩
        · rw [List.length_append, intsD_len, intsD_len, List.length_map, Array.length_toList]
          exact big2 (by show ns.length + 2 + z.length ≤ _; omega)
        · rw [List.length_append]
          omega
        · rw [List.append_assoc]
          exact he
    | tuple ds =>
      walk_at "d"
      have hz : (enc (.tuple ds)).length = (encs ds).length + 2 := rfl
      have hds : areV ds = true := hx
      have h3 := encs_len hds
      have h4 : areV wt.reverse = true := by
        rw [areV_rev]
        exact ha.1
      have h5 := encs_len h4
      rw [List.length_reverse] at h5
      refine ⟨by decide, by rw [intsD_len]; exact big2 (by omega), by rw [List.length_reverse]; exact big2 (by omega), (ns ++ [2, (ds.length : Int)], wt ++ ds.reverse), ?_, _, rfl, by rw [intsD_app]; rfl, ?_, ?_⟩
      · rw [List.length_append]
        show _ - (ns.length + 2) < _
        omega
      · show areV (wt ++ ds.reverse) = true
        rw [areV_app, areV_rev, ha.1, hds]
        rfl
      · show (ns ++ [2, (ds.length : Int)]) ++ encs (wt ++ ds.reverse).reverse = _
        rw [List.reverse_append, List.reverse_reverse, encs_app, List.append_assoc]
        exact he
end
abbrev sPDigest : Stmt := topS 6
theorem scPDigest : FnScope ["rule", "value", "base", "modulus", "numbers", "result", "number"] ["rule", "value"] (defScope sPDigest) := ⟨rfl, rfl, rfl, by decide +kernel, rfl, by decide +kernel, by decide +kernel⟩
abbrev ruleD (b m : Int) : PyData := .tuple [.int b, .int m]
def pPDigest : DSp := fun ws C Q _ => ∃ b m d, ws = [.val (ruleD b m), .val d] ∧ RuleOk b m ∧ isV d = true ∧ (enc d).length ≤ 1000000 ∧ Q (.val (.int (dig b m (enc d)))) C
theorem digF_in {b m : Int} (h : RuleOk b m) (ns : List Int) : 0 ≤ digF b m ns ∧ digF b m ns < m := by
  rcases concat_cases ns with rfl | ⟨ns, n, rfl⟩
  · exact ⟨by show (0 : Int) ≤ 1; decide, by show (1 : Int) < m; have := h.2.2.1; omega⟩
  · rw [digF_snoc]
    exact ⟨Int.fmod_nonneg_of_pos _ (by have := h.2.2.1; omega), Int.fmod_lt_of_pos _ (by have := h.2.2.1; omega)⟩
theorem rule_mul {b m r : Int} (h : RuleOk b m) (h0 : 0 ≤ r) (h1 : r < m) : CMulW r b := by
  refine wide_mul (a := 64) (b := 64) ?_ ?_ (by decide) (by decide) (by decide)
  · have := h.2.2.2
    omega
  · have := h.1
    have := h.2.1
    omega
section
variable {P : Program} {w : World} {K : PySem.W.Frag} {mg : Str → Option Value} {base : Heap} {ct : Ct}
theorem ok_PDigest (D : Def K mg "digest" sPDigest ["rule", "value"]) (D_PEncode : Def K mg "encode" sPEncode ["value"]) (m_len : mg "len" = none)
    (G_PEncode : FnOk P w K mg base CX0 1 D_PEncode.f D_PEncode.fd ["value"] (spD ct 0 1 pPEncode)) : FnOk P w K mg base CX0 2 D.f D.fd ["rule", "value"] (spD ct 0 2 pPDigest) := by
  refine D.F.ok scPDigest (fun vs H Q E h => spD_len h) (fun cdv A outer s H vs Q E hr h => ⟨_, (pss_cons (ps_asg (pv 0) (pg_tup (n := 2) (by rfl) (pgs_cons (pg_name (i := 2) scPDigest.nd rfl (Or.inl rfl)) (pgs_cons (pg_name (i := 3) scPDigest.nd rfl (Or.inl rfl)) pgs_nil)))) <|
    pss_cons (ps_set (i := 4) scPDigest.nd rfl (.inl rfl) (pe_call G_PEncode (hr.mono (by omega)) (by rfl) D_PEncode.m D_PEncode.F.kp D_PEncode.b .nil pass0 (pa_cons (pv 1) pa_nil))) <|
    pss_cons (ps_set (i := 5) scPDigest.nd rfl (.inl rfl) pe_int) <|
    pss_cons (ps_for PassesOwn.never rfl (pi_seqA (pv 4)) (pg_name (i := 6) scPDigest.nd rfl (Or.inl rfl))
      (pss_one (ps_set (i := 5) scPDigest.nd rfl (.inl rfl) (pe_op op_modN (pe_op op_addA (pe_op op_addA (pe_op op_mulW (pv 5) (pv 2)) (pv 6)) pe_int) (pv 3))))) <|
    pss_one (ps_ret (pe_op op_modN (pe_op op_addA (pe_op op_mulW (pv 5) (pv 2)) (pe_callB call_lenA (by rfl) m_len (by decide +kernel) (pa_cons (pv 4) pa_nil))) (pv 3)))), body_ok _ (fun R => inferInstance) (by decide) (fun ws C Q R hw hC hP => ?_) h⟩)
  obtain rfl := List.eq_nil_of_length_eq_zero hC
  obtain ⟨b, m, d, rfl, hrm, hv, hl, q⟩ := hP
  have hm0 : m ≠ 0 := by have := hrm.2.2.1; omega
  walk_at "d"
  refine ⟨d, rfl, hv, hl, ?_⟩
  walk_at "d"
  refine dForGo_ind (fun ds E C => C = [] ∧ ∃ (pre rest : List Int) (y : Option W), ds = intsD rest ∧ pre ++ rest = enc d ∧ E = [some (.val (ruleD b m)), some (.val d), some (.val (.int b)), some (.val (.int m)), some (.val (.list (intsD (enc d)))), some (.val (.int (digF b m pre))), y]) ?_ ?_ _ _ _ ⟨rfl, [], enc d, none, rfl, rfl, rfl⟩
  · rintro E C ⟨rfl, pre, rest, y, h1, h2, rfl⟩
    have h3 : rest = [] := by
      cases rest with
      | nil => rfl
      | cons x r => cases h1
    subst h3
    rw [List.append_nil] at h2
    subst h2
    obtain ⟨r0, r1⟩ := digF_in hrm (enc d)
    walk_at "d"
    refine ⟨rule_mul hrm r0 r1, hm0, ?_⟩
    rw [intsD_len]
    exact q
  · rintro x xs E C ⟨rfl, pre, rest, y, h1, h2, rfl⟩ N hN
    cases rest with
    | nil => cases h1
    | cons n rest =>
      cases h1
      obtain ⟨r0, r1⟩ := digF_in hrm pre
      walk_at "d"
      refine ⟨rule_mul hrm r0 r1, hm0, hN _ _ ⟨rfl, pre ++ [n], rest, some (.val (.int n)), rfl, by rw [List.append_assoc]; exact h2, ?_⟩⟩
      rw [digF_snoc]
end

end RR

namespace RR
open PySem PySem.Spec PyProof.Rows L2
set_option hygiene false in
local macro_rules | `(tactic| walk_at "d") => `(tactic| simp -implicitDefEqProofs only [dSeqS, dNext, dDrop, dRet, dRetN, dIfS, dAsg, dAsgC, dgName, dgTup.eq_1, dgTup.eq_2, dgCons.eq_1, dgCons.eq_2, dgNil, dgSub, subK.eq_1, subK.eq_2, dVar, dVarF, dC, dOp, fII.eq_1, fII.eq_2, fIIc.eq_1, fIIc.eq_2, fAdd.eq_1, fAdd.eq_2, fAdd.eq_3, fAdd.eq_4, fAdd.eq_5, fAdd.eq_6, fCmp.eq_1, fCmp.eq_2, fCmp.eq_3, fEqD, fIsN.eq_1, fIsN.eq_2, isNon.eq_1, isNon.eq_2, rdV.eq_1, rdV.eq_2, rdV.eq_3, rdL.eq_1, rdL.eq_2, rdL.eq_3, dB, dAnd, dOr, dNot, dTru, dIf, dAndV, dOrV, dNotV, dChain, dNil, dCons, vals.eq_1, vals.eq_2, vals.eq_3, dTup, dLst, fIx.eq_1, fIx.eq_2, fIx.eq_3, fIx.eq_4, fIx.eq_5, dSl, dPart, dNoPart, dCB, fLen.eq_1, fLen.eq_2, fLen.eq_3, fLen.eq_4, fLen.eq_5, fInt.eq_1, fInt.eq_2, fInt.eq_3, fList.eq_1, fList.eq_2, rdS.eq_1, rdS.eq_2, rdS.eq_3, rdS.eq_4, fTup.eq_1, fTup.eq_2, fOrd.eq_1, fOrd.eq_2, fIsi.eq_1, fIsi.eq_2, tyD.eq_1, tyD.eq_2, tyD.eq_3, tyD.eq_4, tyD.eq_5, tyD.eq_6, tyD.eq_7, kb1, kb2, kb3, kb4, kb5, kb6, kb7, kb8, kb9, kb10, kb11, kb12, kb13, kb14, kb15, kb16, kb17, kb18, kb19, kb20, kb21, kb22, kb23, kb24, dSeq, seqK.eq_1, seqK.eq_2, seqK.eq_3, seqK.eq_4, seqK.eq_5, dRng1, dRng2, dRev, lstK.eq_1, lstK.eq_2, lstK.eq_3, dEnum, dZip, dBM, dBM0, fAppend.eq_1, fAppend.eq_2, fExtend.eq_1, fExtend.eq_2, fExtA.eq_1, fExtA.eq_2, fPop.eq_1, fPop.eq_2, dRevT, dRevL, f2I.eq_1, f2I.eq_2, bK.eq_1, bK.eq_2, truK.eq_1, truK.eq_2, truK.eq_3, truK.eq_4, truK.eq_5, truK.eq_6, truK.eq_7, truL.eq_1, truL.eq_2, dispK.eq_1, dispK.eq_2, ixK.eq_1, ixK.eq_2, ixS.eq_1, ixS.eq_2, ixL.eq_1, ixL.eq_2, partK.eq_1, partK.eq_2, slK.eq_1, slK.eq_2, slK.eq_3, slK.eq_4, slK.eq_5, slL.eq_1, slL.eq_2, lenLK.eq_1, lenLK.eq_2, mkL.eq_1, mkL.eq_2, isiB.eq_1, isiB.eq_2, isiK.eq_1, isiK.eq_2, frzK.eq_1, frzK.eq_2, frzK.eq_3, rng1K.eq_1, rng1K.eq_2, rng2K.eq_1, rng2K.eq_2, lst1K.eq_1, lst1K.eq_2, zipK.eq_1, zipK.eq_2, sub1K.eq_1, sub1K.eq_2, sub2K.eq_1, sub2K.eq_2, appK.eq_1, appK.eq_2, extK.eq_1, extK.eq_2, pop2K.eq_1, pop2K.eq_2, popK.eq_1, popK.eq_2, lstFK.eq_1, lstFK.eq_2, lisFK.eq_1, lisFK.eq_2, lisF2K.eq_1, lisF2K.eq_2, accK.eq_1, accK.eq_2, dVal, revTK.eq_1, revTK.eq_2, callK.eq_1, callK.eq_2, eqK.eq_1, eqK.eq_2, catK.eq_1, catK.eq_2, cellL.eq_1, cellL.eq_2, cellL.eq_3, okDi, okDb, okDn, eqvi, eqvs, dLstF, dListF, dLc, dYes, wipeE.eq_1, wipeE.eq_2, dFor, fin, finD, wOk.eq_1, wOk.eq_2, cellOk.eq_1, cellOk.eq_2, E0D, dCallP, dCallW, putW, firstRef.eq_1, firstRef.eq_2, firstRef.eq_3, shW.eq_1, shW.eq_2, unW.eq_1, unW.eq_2, inW.eq_1, inW.eq_2, shC.eq_1, shC.eq_2, unC.eq_1, unC.eq_2, inC.eq_1, inC.eq_2, dBreak, at0, at1, at2, at3, atI_last, List.getElem?_cons_zero, List.getElem?_cons_succ, List.getElem?_nil, List.set_cons_zero, List.set_cons_succ, List.map_cons, List.map_nil, List.length_cons, List.length_nil, List.replicate_succ, List.replicate_zero, List.cons_append, List.nil_append, List.append_nil, Option.map_some, Option.map_none, Option.isSome_some, if_true, if_false, ite_true, ite_false, Bool.and_true, Bool.true_and, Bool.and_false, Bool.false_and, Bool.or_true, Bool.or_false, Bool.true_or, Bool.false_or, Bool.not_true, Bool.not_false, true_and, and_true, List.take_succ_cons, List.take_zero, List.take_nil, List.drop_zero, List.drop_succ_cons, List.drop_nil, List.all_cons, List.all_nil, List.any_cons, List.any_nil, List.contains_cons, List.elem_nil, Nat.zero_add, Nat.add_zero, Nat.le_refl, Nat.reduceAdd, Nat.reduceSub, Nat.reduceLT, Nat.reduceLeDiff, Nat.sub_self, Nat.sub_zero, Nat.zero_le, decide_true, decide_false, beq_self_eq_true, Bool.false_eq_true, reduceCtorEq, List.isEmpty_cons, List.isEmpty_nil, List.dropLast_concat, dUn, unK.eq_1, unK.eq_2, dFld, fldK.eq_1, fldK.eq_2, fldK.eq_3, fldC.eq_1, fldC.eq_2, fldW.eq_1, fldW.eq_2, dMake, makK.eq_1, makK.eq_2, fld00, fld01, fld02, lenF0, lenF1, lenF2, get_end, set_end, id])
set_option hygiene false in
local macro_rules | `(tactic| walk_at "s") => `(tactic| simp -implicitDefEqProofs only [dNext, dDrop, dRet, dRetN, dIfS, dAsg, dAsgC, dgName, dgTup.eq_1, dgTup.eq_2, dgCons.eq_1, dgCons.eq_2, dgNil, dgSub, subK.eq_1, subK.eq_2, dVar, dVarF, dC, dOp, fII.eq_1, fII.eq_2, fIIc.eq_1, fIIc.eq_2, fAdd.eq_1, fAdd.eq_2, fAdd.eq_3, fAdd.eq_4, fAdd.eq_5, fAdd.eq_6, fCmp.eq_1, fCmp.eq_2, fCmp.eq_3, fEqD, fIsN.eq_1, fIsN.eq_2, isNon.eq_1, isNon.eq_2, rdV.eq_1, rdV.eq_2, rdV.eq_3, rdL.eq_1, rdL.eq_2, rdL.eq_3, dB, dAnd, dOr, dNot, dTru, dIf, dAndV, dOrV, dNotV, dChain, dNil, dCons, vals.eq_1, vals.eq_2, vals.eq_3, dTup, dLst, fIx.eq_1, fIx.eq_2, fIx.eq_3, fIx.eq_4, fIx.eq_5, dSl, dPart, dNoPart, dCB, fLen.eq_1, fLen.eq_2, fLen.eq_3, fLen.eq_4, fLen.eq_5, fInt.eq_1, fInt.eq_2, fInt.eq_3, fList.eq_1, fList.eq_2, rdS.eq_1, rdS.eq_2, rdS.eq_3, rdS.eq_4, fTup.eq_1, fTup.eq_2, fOrd.eq_1, fOrd.eq_2, fIsi.eq_1, fIsi.eq_2, tyD.eq_1, tyD.eq_2, tyD.eq_3, tyD.eq_4, tyD.eq_5, tyD.eq_6, tyD.eq_7, kb1, kb2, kb3, kb4, kb5, kb6, kb7, kb8, kb9, kb10, kb11, kb12, kb13, kb14, kb15, kb16, kb17, kb18, kb19, kb20, kb21, kb22, kb23, kb24, dSeq, seqK.eq_1, seqK.eq_2, seqK.eq_3, seqK.eq_4, seqK.eq_5, dRng1, dRng2, dRev, lstK.eq_1, lstK.eq_2, lstK.eq_3, dEnum, dZip, dBM, dBM0, fAppend.eq_1, fAppend.eq_2, fExtend.eq_1, fExtend.eq_2, fExtA.eq_1, fExtA.eq_2, fPop.eq_1, fPop.eq_2, dRevT, dRevL, f2I.eq_1, f2I.eq_2, bK.eq_1, bK.eq_2, truK.eq_1, truK.eq_2, truK.eq_3, truK.eq_4, truK.eq_5, truK.eq_6, truK.eq_7, truL.eq_1, truL.eq_2, dispK.eq_1, dispK.eq_2, ixK.eq_1, ixK.eq_2, ixS.eq_1, ixS.eq_2, ixL.eq_1, ixL.eq_2, partK.eq_1, partK.eq_2, slK.eq_1, slK.eq_2, slK.eq_3, slK.eq_4, slK.eq_5, slL.eq_1, slL.eq_2, lenLK.eq_1, lenLK.eq_2, mkL.eq_1, mkL.eq_2, isiB.eq_1, isiB.eq_2, isiK.eq_1, isiK.eq_2, frzK.eq_1, frzK.eq_2, frzK.eq_3, rng1K.eq_1, rng1K.eq_2, rng2K.eq_1, rng2K.eq_2, lst1K.eq_1, lst1K.eq_2, zipK.eq_1, zipK.eq_2, sub1K.eq_1, sub1K.eq_2, sub2K.eq_1, sub2K.eq_2, appK.eq_1, appK.eq_2, extK.eq_1, extK.eq_2, pop2K.eq_1, pop2K.eq_2, popK.eq_1, popK.eq_2, lstFK.eq_1, lstFK.eq_2, lisFK.eq_1, lisFK.eq_2, lisF2K.eq_1, lisF2K.eq_2, accK.eq_1, accK.eq_2, dVal, revTK.eq_1, revTK.eq_2, callK.eq_1, callK.eq_2, eqK.eq_1, eqK.eq_2, catK.eq_1, catK.eq_2, cellL.eq_1, cellL.eq_2, cellL.eq_3, okDi, okDb, okDn, eqvi, eqvs, dLstF, dListF, dLc, dYes, wipeE.eq_1, wipeE.eq_2, dFor, fin, finD, wOk.eq_1, wOk.eq_2, cellOk.eq_1, cellOk.eq_2, E0D, dCallP, dCallW, putW, firstRef.eq_1, firstRef.eq_2, firstRef.eq_3, shW.eq_1, shW.eq_2, unW.eq_1, unW.eq_2, inW.eq_1, inW.eq_2, shC.eq_1, shC.eq_2, unC.eq_1, unC.eq_2, inC.eq_1, inC.eq_2, dBreak, at0, at1, at2, at3, atI_last, List.getElem?_cons_zero, List.getElem?_cons_succ, List.getElem?_nil, List.set_cons_zero, List.set_cons_succ, List.map_cons, List.map_nil, List.length_cons, List.length_nil, List.replicate_succ, List.replicate_zero, List.cons_append, List.nil_append, List.append_nil, Option.map_some, Option.map_none, Option.isSome_some, if_true, if_false, ite_true, ite_false, Bool.and_true, Bool.true_and, Bool.and_false, Bool.false_and, Bool.or_true, Bool.or_false, Bool.true_or, Bool.false_or, Bool.not_true, Bool.not_false, true_and, and_true, List.take_succ_cons, List.take_zero, List.take_nil, List.drop_zero, List.drop_succ_cons, List.drop_nil, List.all_cons, List.all_nil, List.any_cons, List.any_nil, List.contains_cons, List.elem_nil, Nat.zero_add, Nat.add_zero, Nat.le_refl, Nat.reduceAdd, Nat.reduceSub, Nat.reduceLT, Nat.reduceLeDiff, Nat.sub_self, Nat.sub_zero, Nat.zero_le, decide_true, decide_false, beq_self_eq_true, Bool.false_eq_true, reduceCtorEq, List.isEmpty_cons, List.isEmpty_nil, List.dropLast_concat, dUn, unK.eq_1, unK.eq_2, dFld, fldK.eq_1, fldK.eq_2, fldK.eq_3, fldC.eq_1, fldC.eq_2, fldW.eq_1, fldW.eq_2, dMake, makK.eq_1, makK.eq_2, fld00, fld01, fld02, lenF0, lenF1, lenF2, get_end, set_end, id])
abbrev sLCodes : Stmt := topS 24
theorem scLCodes : FnScope ["text", "letter"] ["text"] (defScope sLCodes) := ⟨rfl, rfl, rfl, by decide +kernel, rfl, by decide +kernel, by decide +kernel⟩
def pLCodes : DSp := fun ws C Q _ => ∃ z, ws = [.val (.str z)] ∧ z.length ≤ 1000000 ∧ Q (.val (.list (intsD (codesI z)))) C
theorem chars_codes (z : Str) : (chars z).map (fun x => match x with | .str y => PyData.int (y.cps.getD 0 0 : Nat) | x => x) = intsD (codesI z) := by
  unfold chars intsD codesI
  rw [List.map_map, List.map_map]
  rfl
section
variable {P : Program} {w : World} {K : PySem.W.Frag} {mg : Str → Option Value} {base : Heap} {ct : Ct}
theorem ok_LCodes (D : Def K mg "_law_codes" sLCodes ["text"]) (m_ord : mg "ord" = none)
    : FnOk P w K mg base CX0 1 D.f D.fd ["text"] (spD ct 0 1 pLCodes) := by
  refine D.F.ok scLCodes (fun vs H Q E h => spD_len h) (fun cdv A outer s H vs Q E hr h => ⟨_, (pss_one (ps_ret (pe_lc (own := [("letter", 1)]) (g := (gName 1)) (by rfl) scLCodes.nd (pi_seqA (pv 0))
        (blkOk_by (own := [("letter", 1)]) (N := ["text", "letter"]) (sc := defScope sLCodes) (by decide +kernel))
        (fun _ _ _ _ _ => (pg_name (i := 1) scLCodes.nd rfl (Or.inl rfl))) (fun _ _ _ _ _ => pts_nil)
        (fun _ _ _ _ _ => (pe_callB call_ordA (by rfl) m_ord (by decide +kernel) (pa_cons (pv 1) pa_nil)))))), body_ok _ (fun R => inferInstance) (by decide) (fun ws C Q R hw hC hP => ?_) h⟩)
  obtain rfl := List.eq_nil_of_length_eq_zero hC
  obtain ⟨z, rfl, hl, q⟩ := hP
  walk_at "d"
  refine dLcGo_map (fun x => match x with | .str y => PyData.int (y.cps.getD 0 0 : Nat) | x => x) _ (by rw [chars_len]; exact big2 hl) (fun x hx K k => ?_) ?_
  · obtain ⟨c, _, rfl⟩ := List.mem_map.mp hx
    walk_at "d"
    exact ⟨rfl, k⟩
  · rw [chars_codes]
    exact q
end
abbrev sLEncode : Stmt := topS 25
theorem scLEncode : FnScope ["value", "made", "one"] ["value"] (defScope sLEncode) := ⟨rfl, rfl, rfl, by decide +kernel, rfl, by decide +kernel, by decide +kernel⟩
def pLEncode (n : Nat) : DSp := fun ws C Q _ => ∃ d, ws = [.val d] ∧ isV d = true ∧ d.depth < n ∧ (enc d).length ≤ 1000000 ∧ Q (.val (.list (intsD (enc d)))) C
theorem no_LEncode : ∀ ws C Q R, ¬ pLEncode 0 ws C Q R := fun ws C Q R ⟨d, _, _, h, _⟩ => absurd h (Nat.not_lt_zero _)
theorem depth_in {ds : List PyData} : ∀ d ∈ ds, d.depth ≤ PyData.depthAll ds := by
  induction ds with
  | nil => exact fun d h => by cases h
  | cons x xs ih =>
    intro d h
    show d.depth ≤ max x.depth (PyData.depthAll xs)
    rcases List.mem_cons.mp h with rfl | h
    · exact Nat.le_max_left _ _
    · exact Nat.le_trans (ih d h) (Nat.le_max_right _ _)
theorem areV_in : ∀ {ds : List PyData}, areV ds = true → ∀ d ∈ ds, isV d = true
  | x :: xs, hv, d, h => by
    have h' : (isV x && areV xs) = true := hv
    rw [Bool.and_eq_true] at h'
    rcases List.mem_cons.mp h with rfl | h
    · exact h'.1
    · exact areV_in h'.2 d h
section
variable {P : Program} {w : World} {K : PySem.W.Frag} {mg : Str → Option Value} {base : Heap} {ct : Ct}
theorem step_LEncode {n : Nat} (D : Def K mg "_law_encode" sLEncode ["value"]) (D_LCodes : Def K mg "_law_codes" sLCodes ["text"]) (m_isinstance : mg "isinstance" = none) (m_len : mg "len" = none) (m_str : mg "str" = none) (m_tuple : mg "tuple" = none)
    (G_LCodes : FnOk P w K mg base CX0 1 D_LCodes.f D_LCodes.fd ["text"] (spD ct 0 1 pLCodes)) (G : FnOk P w K mg base CX0 (n + 1) D.f D.fd ["value"] (spD ct 0 1 (pLEncode n))) : FnOk P w K mg base CX0 (n + 1 + 1) D.f D.fd ["value"] (spD ct 0 1 (pLEncode (n + 1))) := by
  refine D.F.ok scLEncode (fun vs H Q E h => spD_len h) (fun cdv A outer s H vs Q E hr h => ⟨_, (pss_cons (ps_if (pt_truA (pe_callB call_isi (by rfl) m_isinstance (by decide +kernel) (pa_cons (pv 0) (pa_cons (pe_bltn (v := .ty "str") (by rfl) m_str (by decide +kernel) rfl) pa_nil))))
      (pss_one (ps_ret (pe_op op_addA (pe_lst (pa_cons pe_int (pa_cons (pe_callB call_lenA (by rfl) m_len (by decide +kernel) (pa_cons (pv 0) pa_nil)) pa_nil))) (pe_call G_LCodes (hr.mono (by omega)) (by rfl) D_LCodes.m D_LCodes.F.kp D_LCodes.b .nil pass0 (pa_cons (pv 0) pa_nil))))) pss_nil) <|
    pss_cons (ps_if (pt_truA (pe_callB call_isi (by rfl) m_isinstance (by decide +kernel) (pa_cons (pv 0) (pa_cons (pe_bltn (v := .ty "tuple") (by rfl) m_tuple (by decide +kernel) rfl) pa_nil))))
      (pss_cons (ps_set (i := 1) scLEncode.nd rfl (.inl rfl) (pe_lst (pa_cons pe_int (pa_cons (pe_callB call_lenA (by rfl) m_len (by decide +kernel) (pa_cons (pv 0) pa_nil)) pa_nil)))) <|
        pss_cons (ps_for PassesOwn.never rfl (pi_seqA (pv 0)) (pg_name (i := 2) scLEncode.nd rfl (Or.inl rfl))
          (pss_one (ps_set (i := 1) scLEncode.nd rfl (.inl rfl) (pe_op op_addA (pv 1) (pe_call G (hr.mono (by omega)) (by rfl) D.m D.F.kp D.b .nil pass0 (pa_cons (pv 2) pa_nil)))))) <|
        pss_one (ps_ret (pv 1))) pss_nil) <|
    pss_one (ps_ret (pe_lst (pa_cons pe_int (pa_cons (pv 0) pa_nil))))), body_ok _ (fun R => inferInstance) (by decide) (fun ws C Q R hw hC hP => ?_) h⟩)
  obtain rfl := List.eq_nil_of_length_eq_zero hC
  obtain ⟨d, rfl, hv, hd, hl, q⟩ := hP
  walk_at "d"
  cases d with
  | none => cases hv
  | bool b => cases hv
  | list ds => cases hv
  | dict kvs => cases hv
  | int i =>
    walk_at "d"
    exact ⟨by decide, q⟩
  | str z =>
    have hz : (enc (.str z)).length = z.length + 2 := enc_str_len z
    walk_at "d"
    refine ⟨big2 (by omega), by decide, z, rfl, by omega, ?_⟩
    walk_at "d"
    refine ⟨?_, q⟩
    rw [intsD_len]
    unfold codesI
    rw [List.length_map, Array.length_toList]
    exact big2 (by show 2 + z.length ≤ _; omega)
  | tuple ds =>
    have hz : (enc (.tuple ds)).length = (encs ds).length + 2 := rfl
    have hds : areV ds = true := hv
    have hdd : PyData.depthAll ds + 1 < n + 1 := hd
    walk_at "d"
    refine ⟨by decide, ?_⟩
    refine dForGo_ind (fun rest E C => C = [] ∧ ∃ (pre : List PyData) (y : Option W), pre ++ rest = ds ∧ E = [some (.val (.tuple ds)), some (.val (.list (intsD (2 :: (ds.length : Int) :: encs pre)))), y]) ?_ ?_ _ _ _ ⟨rfl, [], _, rfl, rfl⟩
    · rintro E C ⟨rfl, pre, y, h1, rfl⟩
      rw [List.append_nil] at h1
      subst h1
      walk_at "d"
      exact q
    · rintro x xs E C ⟨rfl, pre, y, h1, rfl⟩ N hN
      have hx : x ∈ ds := by rw [← h1]; exact List.mem_append_right _ List.mem_cons_self
      have e2 : encs ds = encs pre ++ (enc x ++ encs xs) := by rw [← h1, encs_app]; rfl
      have e3 := congrArg List.length e2
      rw [List.length_append, List.length_append] at e3
      walk_at "d"
      refine ⟨x, rfl, areV_in hds x hx, by have := depth_in x hx; omega, by omega, ?_⟩
      walk_at "d"
      refine ⟨?_, hN _ _ ⟨rfl, pre ++ [x], some (W.val x), by rw [List.append_assoc]; exact h1, ?_⟩⟩
      · rw [intsD_len, intsD_len]
        show (encs pre).length + 1 + 1 + _ ≤ _
        exact big2 (by omega)
      · rw [← intsD_app, encs_app]
        show _ = [_, some (W.val (.list (intsD (2 :: (ds.length : Int) :: (encs pre ++ (enc x ++ [])))))), _]
        rw [List.append_nil]
        rfl
theorem ok_LEncode (D : Def K mg "_law_encode" sLEncode ["value"]) (D_LCodes : Def K mg "_law_codes" sLCodes ["text"]) (m_isinstance : mg "isinstance" = none) (m_len : mg "len" = none) (m_str : mg "str" = none) (m_tuple : mg "tuple" = none)
    (G_LCodes : FnOk P w K mg base CX0 1 D_LCodes.f D_LCodes.fd ["text"] (spD ct 0 1 pLCodes)) : ∀ n : Nat, FnOk P w K mg base CX0 (n + 1) D.f D.fd ["value"] (spD ct 0 1 (pLEncode n))
  | 0 => spD_none no_LEncode
  | n + 1 => (step_LEncode D D_LCodes m_isinstance m_len m_str m_tuple G_LCodes (ok_LEncode D D_LCodes m_isinstance m_len m_str m_tuple G_LCodes n)).mono (by omega)

end
abbrev sLDigest : Stmt := topS 26
theorem scLDigest : FnScope ["rule", "value", "found", "numbers", "number"] ["rule", "value"] (defScope sLDigest) := ⟨rfl, rfl, rfl, by decide +kernel, rfl, by decide +kernel, by decide +kernel⟩
def pLDigest : DSp := fun ws C Q _ => ∃ b m d, ws = [.val (.tuple [.int b, .int m]), .val d] ∧ RuleOk b m ∧ isV d = true ∧ d.depth < 8 ∧ (enc d).length ≤ 1000000 ∧ Q (.val (.int (dig b m (enc d)))) C
theorem digF_inL {b m : Int} (h : RuleOk b m) (ns : List Int) : 0 ≤ digF b m ns ∧ digF b m ns < m := by
  rcases concat_cases ns with rfl | ⟨ns, n, rfl⟩
  · exact ⟨by show (0 : Int) ≤ 1; decide, by show (1 : Int) < m; have := h.2.2.1; omega⟩
  · rw [digF_snoc]
    exact ⟨Int.fmod_nonneg_of_pos _ (by have := h.2.2.1; omega), Int.fmod_lt_of_pos _ (by have := h.2.2.1; omega)⟩
theorem rule_mulL {b m r : Int} (h : RuleOk b m) (h0 : 0 ≤ r) (h1 : r < m) : CMulW r b := by
  refine wide_mul (a := 64) (b := 64) ?_ ?_ (by decide) (by decide) (by decide)
  · have := h.2.2.2
    omega
  · have := h.1
    have := h.2.1
    omega
section
variable {P : Program} {w : World} {K : PySem.W.Frag} {mg : Str → Option Value} {base : Heap} {ct : Ct}
theorem ok_LDigest (D : Def K mg "_law_digest" sLDigest ["rule", "value"]) (D_LEncode : Def K mg "_law_encode" sLEncode ["value"]) (m_int : mg "int" = none) (m_len : mg "len" = none)
    (G_LEncode : ∀ n, FnOk P w K mg base CX0 (n + 1) D_LEncode.f D_LEncode.fd ["value"] (spD ct 0 1 (pLEncode n))) : FnOk P w K mg base CX0 10 D.f D.fd ["rule", "value"] (spD ct 0 2 pLDigest) := by
  refine D.F.ok scLDigest (fun vs H Q E h => spD_len h) (fun cdv A outer s H vs Q E hr h => ⟨_, (pss_cons (ps_set (i := 2) scLDigest.nd rfl (.inl rfl) pe_int) <|
    pss_cons (ps_set (i := 3) scLDigest.nd rfl (.inl rfl) (pe_call (G_LEncode 8) (hr.mono (by omega)) (by rfl) D_LEncode.m D_LEncode.F.kp D_LEncode.b .nil pass0 (pa_cons (pv 1) pa_nil))) <|
    pss_cons (ps_for PassesOwn.never rfl (pi_seqA (pv 3)) (pg_name (i := 4) scLDigest.nd rfl (Or.inl rfl))
      (pss_one (ps_set (i := 2) scLDigest.nd rfl (.inl rfl) (pe_op op_modN (pe_callTy call_intA (by rfl) m_int (by decide +kernel) (pa_cons (pe_op op_addA (pe_op op_addA (pe_op op_mulW (pv 2) (pe_ix ix_seq (pv 0) pe_int (fun _ _ => rfl))) (pv 4)) pe_int) pa_nil)) (pe_ix ix_seq (pv 0) pe_int (fun _ _ => rfl)))))) <|
    pss_one (ps_ret (pe_op op_modN (pe_callTy call_intA (by rfl) m_int (by decide +kernel) (pa_cons (pe_op op_addA (pe_op op_mulW (pv 2) (pe_ix ix_seq (pv 0) pe_int (fun _ _ => rfl))) (pe_callB call_lenA (by rfl) m_len (by decide +kernel) (pa_cons (pv 3) pa_nil))) pa_nil)) (pe_ix ix_seq (pv 0) pe_int (fun _ _ => rfl))))), body_ok _ (fun R => inferInstance) (by decide) (fun ws C Q R hw hC hP => ?_) h⟩)
  obtain rfl := List.eq_nil_of_length_eq_zero hC
  obtain ⟨b, m, d, rfl, hrm, hv, hdp, hl, q⟩ := hP
  have hm0 : m ≠ 0 := by have := hrm.2.2.1; omega
  walk_at "d"
  refine ⟨d, rfl, hv, hdp, hl, ?_⟩
  walk_at "d"
  refine dForGo_ind (fun ds E C => C = [] ∧ ∃ (pre rest : List Int) (y : Option W), ds = intsD rest ∧ pre ++ rest = enc d ∧ E = [some (.val (.tuple [.int b, .int m])), some (.val d), some (.val (.int (digF b m pre))), some (.val (.list (intsD (enc d)))), y]) ?_ ?_ _ _ _ ⟨rfl, [], enc d, none, rfl, rfl, rfl⟩
  · rintro E C ⟨rfl, pre, rest, y, h1, h2, rfl⟩
    have h3 : rest = [] := by
      cases rest with
      | nil => rfl
      | cons x r => cases h1
    subst h3
    rw [List.append_nil] at h2
    subst h2
    obtain ⟨r0, r1⟩ := digF_inL hrm (enc d)
    walk_at "d"
    refine ⟨rule_mulL hrm r0 r1, hm0, ?_⟩
    rw [intsD_len]
    exact q
  · rintro x xs E C ⟨rfl, pre, rest, y, h1, h2, rfl⟩ N hN
    cases rest with
    | nil => cases h1
    | cons n rest =>
      cases h1
      obtain ⟨r0, r1⟩ := digF_inL hrm pre
      walk_at "d"
      refine ⟨rule_mulL hrm r0 r1, hm0, hN _ _ ⟨rfl, pre ++ [n], rest, some (.val (.int n)), rfl, by rw [List.append_assoc]; exact h2, ?_⟩⟩
      rw [digF_snoc]
end

end RR

namespace RR
open PySem PySem.Spec PyProof.Rows L2
theorem rule_ok {x y : Int} (h0 : 0 ≤ x) (h1 : x < 10 ^ 18) (k0 : 0 ≤ y) (k1 : y < 10 ^ 18 - 1) : RuleOk (1 + x) (2 + y) := ⟨by omega, by omega, by omega, by omega⟩
theorem at_map {α : Type} (f : α → PyData) {xs : List α} {i : Nat} {x : α} (h : xs[i]? = some x) : atI (xs.map f) (i : Int) = some (f x) := atI_nat (by rw [List.getElem?_map, h]; rfl)
theorem nat_of {d : Int} {n : Nat} (h0 : 0 ≤ d) (h1 : d < (n : Int)) : ∃ j : Nat, d = (j : Int) ∧ j < n := ⟨d.toNat, by omega, by omega⟩
theorem get_of {α : Type} {xs : List α} {i : Nat} (h : i < xs.length) : ∃ x, xs[i]? = some x ∧ x ∈ xs := ⟨xs[i], List.getElem?_eq_getElem h, List.getElem_mem h⟩
/-- a drawn one of a list -/
theorem draw_in {α : Type} {xs : List α} {d : Int} (h0 : 0 ≤ d) (h1 : d < (xs.length : Int)) : ∃ (j : Nat) (x : α), d = (j : Int) ∧ xs[j]? = some x ∧ x ∈ xs := by
  obtain ⟨j, rfl, hj⟩ := nat_of h0 h1
  obtain ⟨x, h, hm⟩ := get_of hj
  exact ⟨j, x, rfl, h, hm⟩
def KeysOk (tb : Tab) : Prop := ∀ p ∈ tb, KeyOk p.1 ∧ RowOk p.2
theorem TabOk.keys {tb : Tab} (h : TabOk tb) : KeysOk tb := h.2
theorem KeysOk.fit {tb : Tab} (h : KeysOk tb) : TabFit tb := fun p hp => by
  obtain ⟨⟨_, k1, _⟩, _, k2, _⟩ := h p hp
  exact ⟨by omega, by omega⟩
theorem okD_put : okD (.str "put") := okDs_of (by decide +kernel)
theorem okD_rem : okD (.str "remove") := okDs_of (by decide +kernel)
def Chg.kind : Chg → Str
  | .put _ _ => "put"
  | .rem _ => "remove"
def Chg.rest : Chg → List PyData
  | .put _ r => [rowD r]
  | .rem _ => []
theorem chgD_eq (ch : Chg) : chgD ch = .tuple (.str ch.kind :: .str ch.key :: ch.rest) := by
  cases ch <;> rfl
theorem TabFit.take {tb : Tab} (h : TabFit tb) (n : Nat) : TabFit (tb.take n) := fun p hp => h p (List.mem_of_mem_take hp)
theorem TabFit.drop {tb : Tab} (h : TabFit tb) (n : Nat) : TabFit (tb.drop n) := fun p hp => h p (List.mem_of_mem_drop hp)
def treeD (b m : Int) : Tree → PyData
  | .nil => .list [linkD (lnk0 b m), .none, .none, .none]
  | .node k r x y => .list [linkD ((Tree.node k r x y).lnk b m), entD (entOf b m k r x y), treeD b m x, treeD b m y]
theorem treeD_head (b m : Int) (t : Tree) : ∃ r, treeD b m t = .list (linkD (t.lnk b m) :: r) := by
  cases t with
  | nil => exact ⟨_, rfl⟩
  | node k r x y => exact ⟨_, rfl⟩
/-! ### versions -/
structure Ver where
  n : Int
  h : Lnk
  p : Int
deriving DecidableEq
def verDs (v : Ver) : List PyData := [.int v.n, linkD v.h, .int v.p]
def verD (v : Ver) : PyData := .tuple [.int v.n, linkD v.h, .int v.p]
def vD (v : Ver) : PyData := .tuple [.str "version", .int v.n, linkD v.h, .int v.p]
def vdig (b m : Int) (v : Ver) : Int := dig b m (enc (vD v))
theorem vD_fit (v : Ver) : isV (vD v) = true ∧ (vD v).depth < 8 ∧ (enc (vD v)).length ≤ 1000000 := ⟨rfl, show 3 < 8 by decide, show 29 ≤ 1000000 by decide⟩
def nextV (b m : Int) (v : Ver) (h : Lnk) : Ver := ⟨v.n + 1, h, vdig b m v⟩
def hstF (b m : Int) (h0 : Lnk) (hs : List Lnk) : List Ver × Ver := hs.foldl (fun s h => (s.1 ++ [s.2], nextV b m s.2 h)) ([], ⟨0, h0, 0⟩)
theorem hstF_snoc (b m : Int) (h0 h : Lnk) (hs : List Lnk) : hstF b m h0 (hs ++ [h]) = ((hstF b m h0 hs).1 ++ [(hstF b m h0 hs).2], nextV b m (hstF b m h0 hs).2 h) := by
  unfold hstF
  rw [List.foldl_append]
  rfl
def hist (b m : Int) (h0 : Lnk) (hs : List Lnk) : List Ver := (hstF b m h0 hs).1 ++ [(hstF b m h0 hs).2]
theorem hstF_len (b m : Int) (h0 : Lnk) (hs : List Lnk) : (hstF b m h0 hs).1.length = hs.length := by
  have key : ∀ (hs : List Lnk) (s : List Ver × Ver), (hs.foldl (fun s h => (s.1 ++ [s.2], nextV b m s.2 h)) s).1.length = s.1.length + hs.length := by
    intro hs
    induction hs with
    | nil => intro s; rfl
    | cons h hs ih =>
      intro s
      rw [List.foldl_cons]
      rw [ih]
      show (s.1 ++ [s.2]).length + hs.length = s.1.length + (hs.length + 1)
      rw [List.length_append]
      show s.1.length + 1 + hs.length = _
      omega
  have := key hs ([], ⟨0, h0, 0⟩)
  unfold hstF
  rw [this]
  show 0 + _ = _
  omega
theorem hist_len (b m : Int) (h0 : Lnk) (hs : List Lnk) : (hist b m h0 hs).length = hs.length + 1 := by
  unfold hist
  rw [List.length_append, hstF_len]
  rfl
def lead1 (b m : Int) (a c : Ver) : Bool := decide (c.n = a.n + 1) && decide (c.p = vdig b m a)
def leads (b m : Int) (row : List Ver) : Bool := (row.zip (row.drop 1)).all fun p => lead1 b m p.1 p.2
theorem leads_iff {b m : Int} {row : List Ver} : leads b m row = true ↔ ∀ i a c, row[i]? = some a → row[i + 1]? = some c → lead1 b m a c = true := by
  unfold leads
  rw [List.all_eq_true]
  constructor
  · intro h i a c h1 h2
    refine h (a, c) (List.mem_of_getElem? (i := i) ?_)
    rw [List.getElem?_zip_eq_some]
    exact ⟨h1, by rw [List.getElem?_drop, Nat.add_comm]; exact h2⟩
  · intro h p hp
    obtain ⟨i, hi⟩ := List.getElem?_of_mem hp
    rw [List.getElem?_zip_eq_some] at hi
    rw [List.getElem?_drop, Nat.add_comm] at hi
    exact h i _ _ hi.1 hi.2
theorem eqv_ints : ∀ ns ms : List Int, PyData.eqvAll (ns.map PyData.int) (ms.map PyData.int) = decide (ns = ms)
  | [], [] => rfl
  | [], _ :: _ => rfl
  | _ :: _, [] => rfl
  | n :: ns, m :: ms => by
    show (decide (n = m) && PyData.eqvAll (ns.map PyData.int) (ms.map PyData.int)) = _
    rw [eqv_ints ns ms]
    simp [List.cons.injEq]
theorem eqv_link (a c : Lnk) : PyData.eqv (linkD a) (linkD c) = decide (a = c) := by
  show (decide (a.d = c.d) && (decide (a.c = c.c) && ((decide (a.s0 = c.s0) && (decide (a.s1 = c.s1) && (decide (a.s2 = c.s2) && true))) && true))) = _
  obtain ⟨a0, a1, a2, a3, a4⟩ := a
  obtain ⟨c0, c1, c2, c3, c4⟩ := c
  simp [Bool.eq_iff_iff]
theorem eqv_ver (a c : Ver) : PyData.eqv (verD a) (verD c) = decide (a = c) := by
  show (decide (a.n = c.n) && (PyData.eqv (linkD a.h) (linkD c.h) && (decide (a.p = c.p) && true))) = _
  rw [eqv_link]
  obtain ⟨a0, a1, a2⟩ := a
  obtain ⟨c0, c1, c2⟩ := c
  simp [Bool.eq_iff_iff]
theorem okD_ver (a : Ver) : okD (verD a) := rfl
theorem okD_link (a : Lnk) : okD (linkD a) := rfl
theorem eqvAll_map {α : Type} (f : α → PyData) [DecidableEq α] (h : ∀ a c, PyData.eqv (f a) (f c) = decide (a = c)) : ∀ xs ys : List α, PyData.eqvAll (xs.map f) (ys.map f) = decide (xs = ys)
  | [], [] => rfl
  | [], _ :: _ => rfl
  | _ :: _, [] => rfl
  | x :: xs, y :: ys => by
    show (PyData.eqv (f x) (f y) && PyData.eqvAll (xs.map f) (ys.map f)) = _
    rw [h, eqvAll_map f h xs ys]
    simp [List.cons.injEq]
theorem okD_list {α : Type} (f : α → PyData) {n : Nat} (hn : n ≤ 63) (h : ∀ a, (f a).canLay0 = true ∧ (f a).depth ≤ n) (xs : List α) : okD (.list (xs.map f)) := by
  have h1 : (PyData.list (xs.map f)).canLay0 = true := all_lay _ fun x hx => by
    obtain ⟨a, _, rfl⟩ := List.mem_map.mp hx
    exact (h a).1
  have h2 : (PyData.list (xs.map f)).depth ≤ n + 1 := Nat.succ_le_succ (all_depth _ fun x hx => by
    obtain ⟨a, _, rfl⟩ := List.mem_map.mp hx
    exact (h a).2)
  unfold okD SeqAt.shaped
  rw [h1, decide_eq_true (Nat.le_trans h2 (by omega))]
  rfl
theorem okD_vers (vs : List Ver) : okD (.list (vs.map verD)) := okD_list verD (n := 3) (by decide) (fun a => ⟨rfl, show 3 ≤ 3 by decide⟩) vs
theorem lead1_next (b m : Int) (a c : Ver) : decide (c = nextV b m a c.h) = lead1 b m a c := by
  obtain ⟨c0, c1, c2⟩ := c
  unfold nextV lead1
  simp [Bool.eq_iff_iff]
theorem cutL_to {α : Type} {xs : List α} {k : Nat} (h : k ≤ xs.length) : cutL xs none (some (k : Int)) = xs.take k := by
  unfold cutL
  rw [HT.sIx_none, HT.sIx_nat, Nat.min_eq_left h]
  rfl
theorem cutL_from {α : Type} {xs : List α} {k : Nat} (h : k ≤ xs.length) : cutL xs (some (k : Int)) none = xs.drop k := by
  unfold cutL
  rw [HT.sIx_none, HT.sIx_nat, Nat.min_eq_left h]
  exact List.take_of_length_le (by rw [List.length_drop]; exact Nat.le_refl _)
theorem cutL_tail {α : Type} (x : α) (xs : List α) : cutL (x :: xs) (some 1) none = xs := cutL_from (k := 1) (by rw [List.length_cons]; omega)
theorem cutL_mid {α : Type} {xs : List α} {i j : Nat} (hi : i ≤ xs.length) (hj : j ≤ xs.length) : cutL xs (some (i : Int)) (some (j : Int)) = (xs.drop i).take (j - i) := by
  unfold cutL
  rw [HT.sIx_nat, HT.sIx_nat, Nat.min_eq_left hi, Nat.min_eq_left hj]
theorem ifn {P A B : Prop} [Decidable P] (a : ¬ P → A) (b : P → B) : if (!decide P) = true then A else B := by
  by_cases e : P
  · rw [decide_eq_true e]
    exact b e
  · rw [decide_eq_false e]
    exact a e

end RR

namespace RR
open PySem PySem.Spec PyProof.Rows L2
set_option hygiene false in
local macro_rules | `(tactic| walk_at "d") => `(tactic| simp -implicitDefEqProofs only [dSeqS, dNext, dDrop, dRet, dRetN, dIfS, dAsg, dAsgC, dgName, dgTup.eq_1, dgTup.eq_2, dgCons.eq_1, dgCons.eq_2, dgNil, dgSub, subK.eq_1, subK.eq_2, dVar, dVarF, dC, dOp, fII.eq_1, fII.eq_2, fIIc.eq_1, fIIc.eq_2, fAdd.eq_1, fAdd.eq_2, fAdd.eq_3, fAdd.eq_4, fAdd.eq_5, fAdd.eq_6, fCmp.eq_1, fCmp.eq_2, fCmp.eq_3, fEqD, fIsN.eq_1, fIsN.eq_2, isNon.eq_1, isNon.eq_2, rdV.eq_1, rdV.eq_2, rdV.eq_3, rdL.eq_1, rdL.eq_2, rdL.eq_3, dB, dAnd, dOr, dNot, dTru, dIf, dAndV, dOrV, dNotV, dChain, dNil, dCons, vals.eq_1, vals.eq_2, vals.eq_3, dTup, dLst, fIx.eq_1, fIx.eq_2, fIx.eq_3, fIx.eq_4, fIx.eq_5, dSl, dPart, dNoPart, dCB, fLen.eq_1, fLen.eq_2, fLen.eq_3, fLen.eq_4, fLen.eq_5, fInt.eq_1, fInt.eq_2, fInt.eq_3, fList.eq_1, fList.eq_2, rdS.eq_1, rdS.eq_2, rdS.eq_3, rdS.eq_4, fTup.eq_1, fTup.eq_2, fOrd.eq_1, fOrd.eq_2, fIsi.eq_1, fIsi.eq_2, tyD.eq_1, tyD.eq_2, tyD.eq_3, tyD.eq_4, tyD.eq_5, tyD.eq_6, tyD.eq_7, kb1, kb2, kb3, kb4, kb5, kb6, kb7, kb8, kb9, kb10, kb11, kb12, kb13, kb14, kb15, kb16, kb17, kb18, kb19, kb20, kb21, kb22, kb23, kb24, dSeq, seqK.eq_1, seqK.eq_2, seqK.eq_3, seqK.eq_4, seqK.eq_5, dRng1, dRng2, dRev, lstK.eq_1, lstK.eq_2, lstK.eq_3, dEnum, dZip, dBM, dBM0, fAppend.eq_1, fAppend.eq_2, fExtend.eq_1, fExtend.eq_2, fExtA.eq_1, fExtA.eq_2, fPop.eq_1, fPop.eq_2, dRevT, dRevL, f2I.eq_1, f2I.eq_2, bK.eq_1, bK.eq_2, truK.eq_1, truK.eq_2, truK.eq_3, truK.eq_4, truK.eq_5, truK.eq_6, truK.eq_7, truL.eq_1, truL.eq_2, dispK.eq_1, dispK.eq_2, ixK.eq_1, ixK.eq_2, ixS.eq_1, ixS.eq_2, ixL.eq_1, ixL.eq_2, partK.eq_1, partK.eq_2, slK.eq_1, slK.eq_2, slK.eq_3, slK.eq_4, slK.eq_5, slL.eq_1, slL.eq_2, lenLK.eq_1, lenLK.eq_2, mkL.eq_1, mkL.eq_2, isiB.eq_1, isiB.eq_2, isiK.eq_1, isiK.eq_2, frzK.eq_1, frzK.eq_2, frzK.eq_3, rng1K.eq_1, rng1K.eq_2, rng2K.eq_1, rng2K.eq_2, lst1K.eq_1, lst1K.eq_2, zipK.eq_1, zipK.eq_2, sub1K.eq_1, sub1K.eq_2, sub2K.eq_1, sub2K.eq_2, appK.eq_1, appK.eq_2, extK.eq_1, extK.eq_2, pop2K.eq_1, pop2K.eq_2, popK.eq_1, popK.eq_2, lstFK.eq_1, lstFK.eq_2, lisFK.eq_1, lisFK.eq_2, lisF2K.eq_1, lisF2K.eq_2, accK.eq_1, accK.eq_2, dVal, revTK.eq_1, revTK.eq_2, callK.eq_1, callK.eq_2, eqK.eq_1, eqK.eq_2, catK.eq_1, catK.eq_2, cellL.eq_1, cellL.eq_2, cellL.eq_3, okDi, okDb, okDn, eqvi, eqvs, dLstF, dListF, dLc, dYes, wipeE.eq_1, wipeE.eq_2, dFor, fin, finD, wOk.eq_1, wOk.eq_2, cellOk.eq_1, cellOk.eq_2, E0D, dCallP, dCallW, putW, firstRef.eq_1, firstRef.eq_2, firstRef.eq_3, shW.eq_1, shW.eq_2, unW.eq_1, unW.eq_2, inW.eq_1, inW.eq_2, shC.eq_1, shC.eq_2, unC.eq_1, unC.eq_2, inC.eq_1, inC.eq_2, dBreak, at0, at1, at2, at3, atI_last, List.getElem?_cons_zero, List.getElem?_cons_succ, List.getElem?_nil, List.set_cons_zero, List.set_cons_succ, List.map_cons, List.map_nil, List.length_cons, List.length_nil, List.replicate_succ, List.replicate_zero, List.cons_append, List.nil_append, List.append_nil, Option.map_some, Option.map_none, Option.isSome_some, if_true, if_false, ite_true, ite_false, Bool.and_true, Bool.true_and, Bool.and_false, Bool.false_and, Bool.or_true, Bool.or_false, Bool.true_or, Bool.false_or, Bool.not_true, Bool.not_false, true_and, and_true, List.take_succ_cons, List.take_zero, List.take_nil, List.drop_zero, List.drop_succ_cons, List.drop_nil, List.all_cons, List.all_nil, List.any_cons, List.any_nil, List.contains_cons, List.elem_nil, Nat.zero_add, Nat.add_zero, Nat.le_refl, Nat.reduceAdd, Nat.reduceSub, Nat.reduceLT, Nat.reduceLeDiff, Nat.sub_self, Nat.sub_zero, Nat.zero_le, decide_true, decide_false, beq_self_eq_true, Bool.false_eq_true, reduceCtorEq, List.isEmpty_cons, List.isEmpty_nil, List.dropLast_concat, dUn, unK.eq_1, unK.eq_2, dFld, fldK.eq_1, fldK.eq_2, fldK.eq_3, fldC.eq_1, fldC.eq_2, fldW.eq_1, fldW.eq_2, dMake, makK.eq_1, makK.eq_2, fld00, fld01, fld02, lenF0, lenF1, lenF2, get_end, set_end, id])
set_option hygiene false in
local macro_rules | `(tactic| walk_at "s") => `(tactic| simp -implicitDefEqProofs only [dNext, dDrop, dRet, dRetN, dIfS, dAsg, dAsgC, dgName, dgTup.eq_1, dgTup.eq_2, dgCons.eq_1, dgCons.eq_2, dgNil, dgSub, subK.eq_1, subK.eq_2, dVar, dVarF, dC, dOp, fII.eq_1, fII.eq_2, fIIc.eq_1, fIIc.eq_2, fAdd.eq_1, fAdd.eq_2, fAdd.eq_3, fAdd.eq_4, fAdd.eq_5, fAdd.eq_6, fCmp.eq_1, fCmp.eq_2, fCmp.eq_3, fEqD, fIsN.eq_1, fIsN.eq_2, isNon.eq_1, isNon.eq_2, rdV.eq_1, rdV.eq_2, rdV.eq_3, rdL.eq_1, rdL.eq_2, rdL.eq_3, dB, dAnd, dOr, dNot, dTru, dIf, dAndV, dOrV, dNotV, dChain, dNil, dCons, vals.eq_1, vals.eq_2, vals.eq_3, dTup, dLst, fIx.eq_1, fIx.eq_2, fIx.eq_3, fIx.eq_4, fIx.eq_5, dSl, dPart, dNoPart, dCB, fLen.eq_1, fLen.eq_2, fLen.eq_3, fLen.eq_4, fLen.eq_5, fInt.eq_1, fInt.eq_2, fInt.eq_3, fList.eq_1, fList.eq_2, rdS.eq_1, rdS.eq_2, rdS.eq_3, rdS.eq_4, fTup.eq_1, fTup.eq_2, fOrd.eq_1, fOrd.eq_2, fIsi.eq_1, fIsi.eq_2, tyD.eq_1, tyD.eq_2, tyD.eq_3, tyD.eq_4, tyD.eq_5, tyD.eq_6, tyD.eq_7, kb1, kb2, kb3, kb4, kb5, kb6, kb7, kb8, kb9, kb10, kb11, kb12, kb13, kb14, kb15, kb16, kb17, kb18, kb19, kb20, kb21, kb22, kb23, kb24, dSeq, seqK.eq_1, seqK.eq_2, seqK.eq_3, seqK.eq_4, seqK.eq_5, dRng1, dRng2, dRev, lstK.eq_1, lstK.eq_2, lstK.eq_3, dEnum, dZip, dBM, dBM0, fAppend.eq_1, fAppend.eq_2, fExtend.eq_1, fExtend.eq_2, fExtA.eq_1, fExtA.eq_2, fPop.eq_1, fPop.eq_2, dRevT, dRevL, f2I.eq_1, f2I.eq_2, bK.eq_1, bK.eq_2, truK.eq_1, truK.eq_2, truK.eq_3, truK.eq_4, truK.eq_5, truK.eq_6, truK.eq_7, truL.eq_1, truL.eq_2, dispK.eq_1, dispK.eq_2, ixK.eq_1, ixK.eq_2, ixS.eq_1, ixS.eq_2, ixL.eq_1, ixL.eq_2, partK.eq_1, partK.eq_2, slK.eq_1, slK.eq_2, slK.eq_3, slK.eq_4, slK.eq_5, slL.eq_1, slL.eq_2, lenLK.eq_1, lenLK.eq_2, mkL.eq_1, mkL.eq_2, isiB.eq_1, isiB.eq_2, isiK.eq_1, isiK.eq_2, frzK.eq_1, frzK.eq_2, frzK.eq_3, rng1K.eq_1, rng1K.eq_2, rng2K.eq_1, rng2K.eq_2, lst1K.eq_1, lst1K.eq_2, zipK.eq_1, zipK.eq_2, sub1K.eq_1, sub1K.eq_2, sub2K.eq_1, sub2K.eq_2, appK.eq_1, appK.eq_2, extK.eq_1, extK.eq_2, pop2K.eq_1, pop2K.eq_2, popK.eq_1, popK.eq_2, lstFK.eq_1, lstFK.eq_2, lisFK.eq_1, lisFK.eq_2, lisF2K.eq_1, lisF2K.eq_2, accK.eq_1, accK.eq_2, dVal, revTK.eq_1, revTK.eq_2, callK.eq_1, callK.eq_2, eqK.eq_1, eqK.eq_2, catK.eq_1, catK.eq_2, cellL.eq_1, cellL.eq_2, cellL.eq_3, okDi, okDb, okDn, eqvi, eqvs, dLstF, dListF, dLc, dYes, wipeE.eq_1, wipeE.eq_2, dFor, fin, finD, wOk.eq_1, wOk.eq_2, cellOk.eq_1, cellOk.eq_2, E0D, dCallP, dCallW, putW, firstRef.eq_1, firstRef.eq_2, firstRef.eq_3, shW.eq_1, shW.eq_2, unW.eq_1, unW.eq_2, inW.eq_1, inW.eq_2, shC.eq_1, shC.eq_2, unC.eq_1, unC.eq_2, inC.eq_1, inC.eq_2, dBreak, at0, at1, at2, at3, atI_last, List.getElem?_cons_zero, List.getElem?_cons_succ, List.getElem?_nil, List.set_cons_zero, List.set_cons_succ, List.map_cons, List.map_nil, List.length_cons, List.length_nil, List.replicate_succ, List.replicate_zero, List.cons_append, List.nil_append, List.append_nil, Option.map_some, Option.map_none, Option.isSome_some, if_true, if_false, ite_true, ite_false, Bool.and_true, Bool.true_and, Bool.and_false, Bool.false_and, Bool.or_true, Bool.or_false, Bool.true_or, Bool.false_or, Bool.not_true, Bool.not_false, true_and, and_true, List.take_succ_cons, List.take_zero, List.take_nil, List.drop_zero, List.drop_succ_cons, List.drop_nil, List.all_cons, List.all_nil, List.any_cons, List.any_nil, List.contains_cons, List.elem_nil, Nat.zero_add, Nat.add_zero, Nat.le_refl, Nat.reduceAdd, Nat.reduceSub, Nat.reduceLT, Nat.reduceLeDiff, Nat.sub_self, Nat.sub_zero, Nat.zero_le, decide_true, decide_false, beq_self_eq_true, Bool.false_eq_true, reduceCtorEq, List.isEmpty_cons, List.isEmpty_nil, List.dropLast_concat, dUn, unK.eq_1, unK.eq_2, dFld, fldK.eq_1, fldK.eq_2, fldK.eq_3, fldC.eq_1, fldC.eq_2, fldW.eq_1, fldW.eq_2, dMake, makK.eq_1, makK.eq_2, fld00, fld01, fld02, lenF0, lenF1, lenF2, get_end, set_end, id])
abbrev sLRule : Stmt := topS 23
theorem scLRule : FnScope ["state", "choice"] ["state"] (defScope sLRule) := ⟨rfl, rfl, rfl, by decide +kernel, rfl, by decide +kernel, by decide +kernel⟩
def pLRule : DSp := fun ws C Q _ => ∃ l, ws = [.ref 0] ∧ C = [.lst l] ∧ StL l ∧ ∀ b m l', RuleOk b m → StL l' → Q (.val (ruleD b m)) [.lst l']
section
variable {P : Program} {w : World} {K : PySem.W.Frag} {mg : Str → Option Value} {base : Heap} {ct : Ct}
theorem ok_LRule (D : Def K mg "_law_rule" sLRule ["state"]) (D_LDraw : Def K mg "_law_draw" sLDraw ["state", "limit"])
    (G_LDraw : FnOk P w K mg base CX0 1 D_LDraw.f D_LDraw.fd ["state", "limit"] (spD ct 1 2 pLDraw)) : FnOk P w K mg base CX0 2 D.f D.fd ["state"] (spD ct 1 1 pLRule) := by
  refine D.F.ok scLRule (fun vs H Q E h => spD_len h) (fun cdv A outer s H vs Q E hr h => ⟨_, (pss_cons (ps_set (i := 1) scLRule.nd rfl (.inl rfl) (pe_call G_LDraw (hr.mono (by omega)) (by rfl) D_LDraw.m D_LDraw.F.kp D_LDraw.b .nil pass0 (pa_cons (pv 0) (pa_cons pe_int pa_nil)))) <|
    pss_cons (ps_if (pt_cmpR (op_eqD hr.units) (pv 1) pe_int (nomark _))
      (pss_one (ps_ret (pe_tup (pa_cons (pe_op op_addA pe_int (pe_call G_LDraw (hr.mono (by omega)) (by rfl) D_LDraw.m D_LDraw.F.kp D_LDraw.b .nil pass0 (pa_cons (pv 0) (pa_cons pe_int pa_nil)))) (pa_cons (pe_op op_addA pe_int (pe_call G_LDraw (hr.mono (by omega)) (by rfl) D_LDraw.m D_LDraw.F.kp D_LDraw.b .nil pass0 (pa_cons (pv 0) (pa_cons pe_int pa_nil)))) pa_nil))))) pss_nil) <|
    pss_cons (ps_if (pt_cmpR (op_eqD hr.units) (pv 1) pe_int (nomark _))
      (pss_one (ps_ret (pe_tup (pa_cons (pe_op op_addA pe_int (pe_call G_LDraw (hr.mono (by omega)) (by rfl) D_LDraw.m D_LDraw.F.kp D_LDraw.b .nil pass0 (pa_cons (pv 0) (pa_cons pe_int pa_nil)))) (pa_cons (pe_op op_addA pe_int (pe_call G_LDraw (hr.mono (by omega)) (by rfl) D_LDraw.m D_LDraw.F.kp D_LDraw.b .nil pass0 (pa_cons (pv 0) (pa_cons pe_int pa_nil)))) pa_nil))))) pss_nil) <|
    pss_one (ps_ret (pe_tup (pa_cons (pe_op op_addA pe_int (pe_call G_LDraw (hr.mono (by omega)) (by rfl) D_LDraw.m D_LDraw.F.kp D_LDraw.b .nil pass0 (pa_cons (pv 0) (pa_cons (pe_op op_pow pe_int pe_int) pa_nil)))) (pa_cons (pe_op op_addA pe_int (pe_call G_LDraw (hr.mono (by omega)) (by rfl) D_LDraw.m D_LDraw.F.kp D_LDraw.b .nil pass0 (pa_cons (pv 0) (pa_cons (pe_op op_sub (pe_op op_pow pe_int pe_int) pe_int) pa_nil)))) pa_nil))))), body_ok _ (fun R => inferInstance) (by decide) (fun ws C Q R hw hC hP => ?_) h⟩)
  obtain ⟨l, rfl, rfl, hs, q⟩ := hP
  walk_at "d"
  refine ⟨4, l, rfl, rfl, hs, by decide, by decide, fun d l1 d0 d1 s1 => ?_⟩
  walk_at "d"
  refine ite2 (fun _ => ?_) (fun _ => ?_)
  · refine ⟨9, l1, rfl, rfl, s1, by decide, by decide, fun x l2 x0 x1 s2 => ?_⟩
    walk_at "d"
    refine ⟨6, l2, rfl, rfl, s2, by decide, by decide, fun y l3 y0 y1 s3 => ?_⟩
    walk_at "d"
    exact ⟨by decide, q _ _ l3 (rule_ok x0 (by omega) y0 (by omega)) s3⟩
  refine ite2 (fun _ => ?_) (fun _ => ?_)
  · refine ⟨1000, l1, rfl, rfl, s1, by decide, by decide, fun x l2 x0 x1 s2 => ?_⟩
    walk_at "d"
    refine ⟨200, l2, rfl, rfl, s2, by decide, by decide, fun y l3 y0 y1 s3 => ?_⟩
    walk_at "d"
    exact ⟨by decide, q _ _ l3 (rule_ok x0 (by omega) y0 (by omega)) s3⟩
  · refine ⟨⟨by decide, by decide, by decide +kernel⟩, _, l1, rfl, rfl, s1, by decide, by decide +kernel, fun x l2 x0 x1 s2 => ?_⟩
    walk_at "d"
    refine ⟨⟨by decide, by decide, by decide +kernel⟩, _, l2, rfl, rfl, s2, by decide, by decide +kernel, fun y l3 y0 y1 s3 => ?_⟩
    walk_at "d"
    exact ⟨by decide, q _ _ l3 (rule_ok x0 x1 y0 y1) s3⟩
end

end RR

namespace RR
open PySem PySem.Spec PyProof.Rows L2
set_option hygiene false in
local macro_rules | `(tactic| walk_at "d") => `(tactic| simp -implicitDefEqProofs only [dSeqS, dNext, dDrop, dRet, dRetN, dIfS, dAsg, dAsgC, dgName, dgTup.eq_1, dgTup.eq_2, dgCons.eq_1, dgCons.eq_2, dgNil, dgSub, subK.eq_1, subK.eq_2, dVar, dVarF, dC, dOp, fII.eq_1, fII.eq_2, fIIc.eq_1, fIIc.eq_2, fAdd.eq_1, fAdd.eq_2, fAdd.eq_3, fAdd.eq_4, fAdd.eq_5, fAdd.eq_6, fCmp.eq_1, fCmp.eq_2, fCmp.eq_3, fEqD, fIsN.eq_1, fIsN.eq_2, isNon.eq_1, isNon.eq_2, rdV.eq_1, rdV.eq_2, rdV.eq_3, rdL.eq_1, rdL.eq_2, rdL.eq_3, dB, dAnd, dOr, dNot, dTru, dIf, dAndV, dOrV, dNotV, dChain, dNil, dCons, vals.eq_1, vals.eq_2, vals.eq_3, dTup, dLst, fIx.eq_1, fIx.eq_2, fIx.eq_3, fIx.eq_4, fIx.eq_5, dSl, dPart, dNoPart, dCB, fLen.eq_1, fLen.eq_2, fLen.eq_3, fLen.eq_4, fLen.eq_5, fInt.eq_1, fInt.eq_2, fInt.eq_3, fList.eq_1, fList.eq_2, rdS.eq_1, rdS.eq_2, rdS.eq_3, rdS.eq_4, fTup.eq_1, fTup.eq_2, fOrd.eq_1, fOrd.eq_2, fIsi.eq_1, fIsi.eq_2, tyD.eq_1, tyD.eq_2, tyD.eq_3, tyD.eq_4, tyD.eq_5, tyD.eq_6, tyD.eq_7, kb1, kb2, kb3, kb4, kb5, kb6, kb7, kb8, kb9, kb10, kb11, kb12, kb13, kb14, kb15, kb16, kb17, kb18, kb19, kb20, kb21, kb22, kb23, kb24, dSeq, seqK.eq_1, seqK.eq_2, seqK.eq_3, seqK.eq_4, seqK.eq_5, dRng1, dRng2, dRev, lstK.eq_1, lstK.eq_2, lstK.eq_3, dEnum, dZip, dBM, dBM0, fAppend.eq_1, fAppend.eq_2, fExtend.eq_1, fExtend.eq_2, fExtA.eq_1, fExtA.eq_2, fPop.eq_1, fPop.eq_2, dRevT, dRevL, f2I.eq_1, f2I.eq_2, bK.eq_1, bK.eq_2, truK.eq_1, truK.eq_2, truK.eq_3, truK.eq_4, truK.eq_5, truK.eq_6, truK.eq_7, truL.eq_1, truL.eq_2, dispK.eq_1, dispK.eq_2, ixK.eq_1, ixK.eq_2, ixS.eq_1, ixS.eq_2, ixL.eq_1, ixL.eq_2, partK.eq_1, partK.eq_2, slK.eq_1, slK.eq_2, slK.eq_3, slK.eq_4, slK.eq_5, slL.eq_1, slL.eq_2, lenLK.eq_1, lenLK.eq_2, mkL.eq_1, mkL.eq_2, isiB.eq_1, isiB.eq_2, isiK.eq_1, isiK.eq_2, frzK.eq_1, frzK.eq_2, frzK.eq_3, rng1K.eq_1, rng1K.eq_2, rng2K.eq_1, rng2K.eq_2, lst1K.eq_1, lst1K.eq_2, zipK.eq_1, zipK.eq_2, sub1K.eq_1, sub1K.eq_2, sub2K.eq_1, sub2K.eq_2, appK.eq_1, appK.eq_2, extK.eq_1, extK.eq_2, pop2K.eq_1, pop2K.eq_2, popK.eq_1, popK.eq_2, lstFK.eq_1, lstFK.eq_2, lisFK.eq_1, lisFK.eq_2, lisF2K.eq_1, lisF2K.eq_2, accK.eq_1, accK.eq_2, dVal, revTK.eq_1, revTK.eq_2, callK.eq_1, callK.eq_2, eqK.eq_1, eqK.eq_2, catK.eq_1, catK.eq_2, cellL.eq_1, cellL.eq_2, cellL.eq_3, okDi, okDb, okDn, eqvi, eqvs, dLstF, dListF, dLc, dYes, wipeE.eq_1, wipeE.eq_2, dFor, fin, finD, wOk.eq_1, wOk.eq_2, cellOk.eq_1, cellOk.eq_2, E0D, dCallP, dCallW, putW, firstRef.eq_1, firstRef.eq_2, firstRef.eq_3, shW.eq_1, shW.eq_2, unW.eq_1, unW.eq_2, inW.eq_1, inW.eq_2, shC.eq_1, shC.eq_2, unC.eq_1, unC.eq_2, inC.eq_1, inC.eq_2, dBreak, at0, at1, at2, at3, atI_last, List.getElem?_cons_zero, List.getElem?_cons_succ, List.getElem?_nil, List.set_cons_zero, List.set_cons_succ, List.map_cons, List.map_nil, List.length_cons, List.length_nil, List.replicate_succ, List.replicate_zero, List.cons_append, List.nil_append, List.append_nil, Option.map_some, Option.map_none, Option.isSome_some, if_true, if_false, ite_true, ite_false, Bool.and_true, Bool.true_and, Bool.and_false, Bool.false_and, Bool.or_true, Bool.or_false, Bool.true_or, Bool.false_or, Bool.not_true, Bool.not_false, true_and, and_true, List.take_succ_cons, List.take_zero, List.take_nil, List.drop_zero, List.drop_succ_cons, List.drop_nil, List.all_cons, List.all_nil, List.any_cons, List.any_nil, List.contains_cons, List.elem_nil, Nat.zero_add, Nat.add_zero, Nat.le_refl, Nat.reduceAdd, Nat.reduceSub, Nat.reduceLT, Nat.reduceLeDiff, Nat.sub_self, Nat.sub_zero, Nat.zero_le, decide_true, decide_false, beq_self_eq_true, Bool.false_eq_true, reduceCtorEq, List.isEmpty_cons, List.isEmpty_nil, List.dropLast_concat, dUn, unK.eq_1, unK.eq_2, dFld, fldK.eq_1, fldK.eq_2, fldK.eq_3, fldC.eq_1, fldC.eq_2, fldW.eq_1, fldW.eq_2, dMake, makK.eq_1, makK.eq_2, fld00, fld01, fld02, lenF0, lenF1, lenF2, get_end, set_end, id])
set_option hygiene false in
local macro_rules | `(tactic| walk_at "s") => `(tactic| simp -implicitDefEqProofs only [dNext, dDrop, dRet, dRetN, dIfS, dAsg, dAsgC, dgName, dgTup.eq_1, dgTup.eq_2, dgCons.eq_1, dgCons.eq_2, dgNil, dgSub, subK.eq_1, subK.eq_2, dVar, dVarF, dC, dOp, fII.eq_1, fII.eq_2, fIIc.eq_1, fIIc.eq_2, fAdd.eq_1, fAdd.eq_2, fAdd.eq_3, fAdd.eq_4, fAdd.eq_5, fAdd.eq_6, fCmp.eq_1, fCmp.eq_2, fCmp.eq_3, fEqD, fIsN.eq_1, fIsN.eq_2, isNon.eq_1, isNon.eq_2, rdV.eq_1, rdV.eq_2, rdV.eq_3, rdL.eq_1, rdL.eq_2, rdL.eq_3, dB, dAnd, dOr, dNot, dTru, dIf, dAndV, dOrV, dNotV, dChain, dNil, dCons, vals.eq_1, vals.eq_2, vals.eq_3, dTup, dLst, fIx.eq_1, fIx.eq_2, fIx.eq_3, fIx.eq_4, fIx.eq_5, dSl, dPart, dNoPart, dCB, fLen.eq_1, fLen.eq_2, fLen.eq_3, fLen.eq_4, fLen.eq_5, fInt.eq_1, fInt.eq_2, fInt.eq_3, fList.eq_1, fList.eq_2, rdS.eq_1, rdS.eq_2, rdS.eq_3, rdS.eq_4, fTup.eq_1, fTup.eq_2, fOrd.eq_1, fOrd.eq_2, fIsi.eq_1, fIsi.eq_2, tyD.eq_1, tyD.eq_2, tyD.eq_3, tyD.eq_4, tyD.eq_5, tyD.eq_6, tyD.eq_7, kb1, kb2, kb3, kb4, kb5, kb6, kb7, kb8, kb9, kb10, kb11, kb12, kb13, kb14, kb15, kb16, kb17, kb18, kb19, kb20, kb21, kb22, kb23, kb24, dSeq, seqK.eq_1, seqK.eq_2, seqK.eq_3, seqK.eq_4, seqK.eq_5, dRng1, dRng2, dRev, lstK.eq_1, lstK.eq_2, lstK.eq_3, dEnum, dZip, dBM, dBM0, fAppend.eq_1, fAppend.eq_2, fExtend.eq_1, fExtend.eq_2, fExtA.eq_1, fExtA.eq_2, fPop.eq_1, fPop.eq_2, dRevT, dRevL, f2I.eq_1, f2I.eq_2, bK.eq_1, bK.eq_2, truK.eq_1, truK.eq_2, truK.eq_3, truK.eq_4, truK.eq_5, truK.eq_6, truK.eq_7, truL.eq_1, truL.eq_2, dispK.eq_1, dispK.eq_2, ixK.eq_1, ixK.eq_2, ixS.eq_1, ixS.eq_2, ixL.eq_1, ixL.eq_2, partK.eq_1, partK.eq_2, slK.eq_1, slK.eq_2, slK.eq_3, slK.eq_4, slK.eq_5, slL.eq_1, slL.eq_2, lenLK.eq_1, lenLK.eq_2, mkL.eq_1, mkL.eq_2, isiB.eq_1, isiB.eq_2, isiK.eq_1, isiK.eq_2, frzK.eq_1, frzK.eq_2, frzK.eq_3, rng1K.eq_1, rng1K.eq_2, rng2K.eq_1, rng2K.eq_2, lst1K.eq_1, lst1K.eq_2, zipK.eq_1, zipK.eq_2, sub1K.eq_1, sub1K.eq_2, sub2K.eq_1, sub2K.eq_2, appK.eq_1, appK.eq_2, extK.eq_1, extK.eq_2, pop2K.eq_1, pop2K.eq_2, popK.eq_1, popK.eq_2, lstFK.eq_1, lstFK.eq_2, lisFK.eq_1, lisFK.eq_2, lisF2K.eq_1, lisF2K.eq_2, accK.eq_1, accK.eq_2, dVal, revTK.eq_1, revTK.eq_2, callK.eq_1, callK.eq_2, eqK.eq_1, eqK.eq_2, catK.eq_1, catK.eq_2, cellL.eq_1, cellL.eq_2, cellL.eq_3, okDi, okDb, okDn, eqvi, eqvs, dLstF, dListF, dLc, dYes, wipeE.eq_1, wipeE.eq_2, dFor, fin, finD, wOk.eq_1, wOk.eq_2, cellOk.eq_1, cellOk.eq_2, E0D, dCallP, dCallW, putW, firstRef.eq_1, firstRef.eq_2, firstRef.eq_3, shW.eq_1, shW.eq_2, unW.eq_1, unW.eq_2, inW.eq_1, inW.eq_2, shC.eq_1, shC.eq_2, unC.eq_1, unC.eq_2, inC.eq_1, inC.eq_2, dBreak, at0, at1, at2, at3, atI_last, List.getElem?_cons_zero, List.getElem?_cons_succ, List.getElem?_nil, List.set_cons_zero, List.set_cons_succ, List.map_cons, List.map_nil, List.length_cons, List.length_nil, List.replicate_succ, List.replicate_zero, List.cons_append, List.nil_append, List.append_nil, Option.map_some, Option.map_none, Option.isSome_some, if_true, if_false, ite_true, ite_false, Bool.and_true, Bool.true_and, Bool.and_false, Bool.false_and, Bool.or_true, Bool.or_false, Bool.true_or, Bool.false_or, Bool.not_true, Bool.not_false, true_and, and_true, List.take_succ_cons, List.take_zero, List.take_nil, List.drop_zero, List.drop_succ_cons, List.drop_nil, List.all_cons, List.all_nil, List.any_cons, List.any_nil, List.contains_cons, List.elem_nil, Nat.zero_add, Nat.add_zero, Nat.le_refl, Nat.reduceAdd, Nat.reduceSub, Nat.reduceLT, Nat.reduceLeDiff, Nat.sub_self, Nat.sub_zero, Nat.zero_le, decide_true, decide_false, beq_self_eq_true, Bool.false_eq_true, reduceCtorEq, List.isEmpty_cons, List.isEmpty_nil, List.dropLast_concat, dUn, unK.eq_1, unK.eq_2, dFld, fldK.eq_1, fldK.eq_2, fldK.eq_3, fldC.eq_1, fldC.eq_2, fldW.eq_1, fldW.eq_2, dMake, makK.eq_1, makK.eq_2, fld00, fld01, fld02, lenF0, lenF1, lenF2, get_end, set_end, id])
abbrev sLCell : Stmt := topS 30
theorem scLCell : FnScope ["row", "column"] ["row", "column"] (defScope sLCell) := ⟨rfl, rfl, rfl, by decide +kernel, rfl, by decide +kernel, by decide +kernel⟩
def pLCell : DSp := fun ws C Q _ => ∃ ns c, ws = [.val (rowD ns), .val (.int c)] ∧ 0 ≤ c ∧ Q (.val (.int (colOf ns c))) C
theorem colOf_in {ns : List Int} {c : Int} (h0 : 0 ≤ c) (h1 : c < (ns.length : Int)) : atI (ns.map PyData.int) c = some (.int (colOf ns c)) := by
  obtain ⟨j, rfl, hj⟩ := nat_of h0 h1
  obtain ⟨x, hx, _⟩ := get_of hj
  rw [at_map PyData.int hx]
  unfold colOf
  rw [if_pos h1, List.getD_eq_getElem?_getD, show (j : Int).toNat = j by omega, hx]
  rfl
theorem colOf_out {ns : List Int} {c : Int} (h1 : ¬ c < (ns.length : Int)) : colOf ns c = 0 := if_neg h1
section
variable {P : Program} {w : World} {K : PySem.W.Frag} {mg : Str → Option Value} {base : Heap} {ct : Ct}
theorem ok_LCell (D : Def K mg "_law_cell" sLCell ["row", "column"]) (m_len : mg "len" = none)
    : FnOk P w K mg base CX0 1 D.f D.fd ["row", "column"] (spD ct 0 2 pLCell) := by
  refine D.F.ok scLCell (fun vs H Q E h => spD_len h) (fun cdv A outer s H vs Q E hr h => ⟨_, (pss_cons (ps_if (pt_cmpR op_ltA (pv 1) (pe_callB call_lenA (by rfl) m_len (by decide +kernel) (pa_cons (pv 0) pa_nil)) (nomark _))
      (pss_one (ps_ret (pe_ix ix_seq (pv 0) (pv 1) (fun _ _ => rfl)))) pss_nil) <|
    pss_one (ps_ret pe_int)), body_ok _ (fun R => inferInstance) (by decide) (fun ws C Q R hw hC hP => ?_) h⟩)
  obtain rfl := List.eq_nil_of_length_eq_zero hC
  obtain ⟨ns, c, rfl, h0, q⟩ := hP
  unfold rowD
  walk_at "d"
  rw [List.length_map]
  refine ifd (fun h => ?_) (fun h => ?_)
  · rw [colOf_in h0 h]
    walk_at "d"
    exact q
  · rw [colOf_out h] at q
    exact q
end
abbrev sLRank : Stmt := topS 31
theorem scLRank : FnScope ["key", "found", "code"] ["key"] (defScope sLRank) := ⟨rfl, rfl, rfl, by decide +kernel, rfl, by decide +kernel, by decide +kernel⟩
theorem rkF_in (ns : List Int) : 0 ≤ rkF ns ∧ rkF ns < 1000003 := by
  rcases concat_cases ns with rfl | ⟨ns, n, rfl⟩
  · exact ⟨by show (0 : Int) ≤ 7; decide, by show (7 : Int) < 1000003; decide⟩
  · rw [rkF_snoc]
    exact ⟨Int.fmod_nonneg_of_pos _ (by decide), Int.fmod_lt_of_pos _ (by decide)⟩
def pLRank : DSp := fun ws C Q _ => ∃ z, ws = [.val (.str z)] ∧ z.length ≤ 1000 ∧ Q (.val (.int (rk z))) C
section
variable {P : Program} {w : World} {K : PySem.W.Frag} {mg : Str → Option Value} {base : Heap} {ct : Ct}
theorem ok_LRank (D : Def K mg "_law_rank" sLRank ["key"]) (D_LCodes : Def K mg "_law_codes" sLCodes ["text"]) (m_int : mg "int" = none)
    (G_LCodes : FnOk P w K mg base CX0 1 D_LCodes.f D_LCodes.fd ["text"] (spD ct 0 1 pLCodes)) : FnOk P w K mg base CX0 2 D.f D.fd ["key"] (spD ct 0 1 pLRank) := by
  refine D.F.ok scLRank (fun vs H Q E h => spD_len h) (fun cdv A outer s H vs Q E hr h => ⟨_, (pss_cons (ps_set (i := 1) scLRank.nd rfl (.inl rfl) pe_int) <|
    pss_cons (ps_for PassesOwn.never rfl (pi_seqA (pe_call G_LCodes (hr.mono (by omega)) (by rfl) D_LCodes.m D_LCodes.F.kp D_LCodes.b .nil pass0 (pa_cons (pv 0) pa_nil))) (pg_name (i := 2) scLRank.nd rfl (Or.inl rfl))
      (pss_one (ps_set (i := 1) scLRank.nd rfl (.inl rfl) (pe_op op_modN (pe_callTy call_intA (by rfl) m_int (by decide +kernel) (pa_cons (pe_op op_addA (pe_op op_mulW (pv 1) pe_int) (pv 2)) pa_nil)) pe_int)))) <|
    pss_one (ps_ret (pv 1))), body_ok _ (fun R => inferInstance) (by decide) (fun ws C Q R hw hC hP => ?_) h⟩)
  obtain rfl := List.eq_nil_of_length_eq_zero hC
  obtain ⟨z, rfl, hl, q⟩ := hP
  walk_at "d"
  refine ⟨z, rfl, by omega, ?_⟩
  walk_at "d"
  refine dForGo_map PyData.int (codesI z) (fun pre E C => C = [] ∧ ∃ y : Option W, E = [some (.val (.str z)), some (.val (.int (rkF pre))), y]) ?_ ?_ ⟨rfl, none, rfl⟩
  · rintro pre n post E C e ⟨rfl, y, rfl⟩ N hN
    obtain ⟨r0, r1⟩ := rkF_in pre
    walk_at "d"
    refine ⟨wide_mul (a := 21) (b := 8) (by omega) (by decide) (by decide) (by decide) (by decide), by decide, hN _ _ ⟨rfl, some (.val (.int n)), ?_⟩⟩
    rw [rkF_snoc]
  · rintro E C ⟨rfl, y, rfl⟩
    walk_at "d"
    exact q
end
abbrev sLTop : Stmt := topS 32
theorem scLTop : FnScope ["table", "best", "k"] ["table"] (defScope sLTop) := ⟨rfl, rfl, rfl, by decide +kernel, rfl, by decide +kernel, by decide +kernel⟩
def pLTop : DSp := fun ws C Q _ => ∃ tb, ws = [.val (tabD tb)] ∧ TabFit tb ∧ tb.length ≤ 1000 ∧ Q (.val (.int (topI tb tb.length))) C
section
variable {P : Program} {w : World} {K : PySem.W.Frag} {mg : Str → Option Value} {base : Heap} {ct : Ct}
theorem ok_LTop (D : Def K mg "_law_top" sLTop ["table"]) (D_LRank : Def K mg "_law_rank" sLRank ["key"]) (m_len : mg "len" = none) (m_range : mg "range" = none)
    (G_LRank : FnOk P w K mg base CX0 2 D_LRank.f D_LRank.fd ["key"] (spD ct 0 1 pLRank)) : FnOk P w K mg base CX0 3 D.f D.fd ["table"] (spD ct 0 1 pLTop) := by
  refine D.F.ok scLTop (fun vs H Q E h => spD_len h) (fun cdv A outer s H vs Q E hr h => ⟨_, (pss_cons (ps_set (i := 1) scLTop.nd rfl (.inl rfl) pe_int) <|
    pss_cons (ps_for PassesOwn.never rfl (pi_range1 (by rfl) m_range (pa_cons (pe_callB call_lenA (by rfl) m_len (by decide +kernel) (pa_cons (pv 0) pa_nil)) pa_nil)) (pg_name (i := 2) scLTop.nd rfl (Or.inl rfl))
      (pss_one (ps_if (pt_cmpR op_gtA (pe_call G_LRank (hr.mono (by omega)) (by rfl) D_LRank.m D_LRank.F.kp D_LRank.b .nil pass0 (pa_cons (pe_ix ix_seq (pe_ix ix_seq (pv 0) (pv 2) (fun _ _ => rfl)) pe_int (fun _ _ => rfl)) pa_nil)) (pe_call G_LRank (hr.mono (by omega)) (by rfl) D_LRank.m D_LRank.F.kp D_LRank.b .nil pass0 (pa_cons (pe_ix ix_seq (pe_ix ix_seq (pv 0) (pv 1) (fun _ _ => rfl)) pe_int (fun _ _ => rfl)) pa_nil)) (nomark _))
          (pss_one (ps_set (i := 1) scLTop.nd rfl (.inl rfl) (pv 2))) pss_nil))) <|
    pss_one (ps_ret (pv 1))), body_ok _ (fun R => inferInstance) (by decide) (fun ws C Q R hw hC hP => ?_) h⟩)
  obtain rfl := List.eq_nil_of_length_eq_zero hC
  obtain ⟨tb, rfl, hf, hl, q⟩ := hP
  walk_at "d"
  rw [List.length_map]
  refine ⟨by omega, by omega, ?_⟩
  rw [show ((tb.length : Nat) : Int).toNat = tb.length by omega]
  refine dForGo_range tb.length (fun n E C => C = [] ∧ ∃ y : Option W, E = [some (.val (tabD tb)), some (.val (.int ((topI tb n : Nat) : Int))), y]) ?_ ?_ ⟨rfl, none, rfl⟩
  · rintro i E C hi ⟨rfl, y, rfl⟩ N hN
    obtain ⟨p, hp, hpm⟩ := get_of hi
    have ht : topI tb i < tb.length := by
      cases i with
      | zero => exact hi
      | succ i => have := topI_lt tb i; omega
    obtain ⟨p2, hp2, hpm2⟩ := get_of ht
    have e1 : (0 : Int) + (i : Nat) = ((i : Nat) : Int) := by omega
    walk_at "d"
    rw [e1, at_map pairD hp]
    unfold pairD
    walk_at "d"
    refine ⟨p.1, rfl, (hf p hpm).1, ?_⟩
    rw [at_map _ hp2]
    walk_at "d"
    refine ⟨p2.1, rfl, (hf p2 hpm2).1, ?_⟩
    walk_at "d"
    have e2 : topI tb (i + 1) = if rk p2.1 < rk p.1 then i else topI tb i := by
      rw [← key_at hp2, ← key_at hp]
      rfl
    refine ifd (fun h => ?_) (fun h => ?_)
    · rw [if_pos h] at e2
      exact hN _ _ ⟨rfl, _, by rw [e2]⟩
    · rw [if_neg h] at e2
      exact hN _ _ ⟨rfl, _, by rw [e2]⟩
  · rintro E C ⟨rfl, y, rfl⟩
    walk_at "d"
    exact q
end
abbrev sLLink : Stmt := topS 34
theorem scLLink : FnScope ["rule", "entry", "sums", "k"] ["rule", "entry"] (defScope sLLink) := ⟨rfl, rfl, rfl, by decide +kernel, rfl, by decide +kernel, by decide +kernel⟩
def pLLink : DSp := fun ws C Q _ => ∃ b m e, ws = [.val (ruleD b m), .val (entD e)] ∧ RuleOk b m ∧ e.Fit ∧ Q (.val (linkD (lnkOf b m e))) C
section
variable {P : Program} {w : World} {K : PySem.W.Frag} {mg : Str → Option Value} {base : Heap} {ct : Ct}
theorem ok_LLink (D : Def K mg "_law_link" sLLink ["rule", "entry"]) (D_LCell : Def K mg "_law_cell" sLCell ["row", "column"]) (D_LDigest : Def K mg "_law_digest" sLDigest ["rule", "value"]) (m_range : mg "range" = none) (m_tuple : mg "tuple" = none)
    (G_LCell : FnOk P w K mg base CX0 1 D_LCell.f D_LCell.fd ["row", "column"] (spD ct 0 2 pLCell)) (G_LDigest : FnOk P w K mg base CX0 10 D_LDigest.f D_LDigest.fd ["rule", "value"] (spD ct 0 2 pLDigest)) : FnOk P w K mg base CX0 11 D.f D.fd ["rule", "entry"] (spD ct 0 2 pLLink) := by
  refine D.F.ok scLLink (fun vs H Q E h => spD_len h) (fun cdv A outer s H vs Q E hr h => ⟨_, (pss_cons (ps_set (i := 2) scLLink.nd rfl (.inl rfl) (pe_callTy call_tupA (by rfl) m_tuple (by decide +kernel) (pa_cons (pe_lc (own := [("k", 3)]) (g := (gName 3)) (by rfl) scLLink.nd (pi_range1 (by rfl) m_range (pa_cons pe_int pa_nil))
        (blkOk_by (own := [("k", 3)]) (N := ["rule", "entry", "sums", "k"]) (sc := defScope sLLink) (by decide +kernel))
        (fun _ _ _ _ _ => (pg_name (i := 3) scLLink.nd rfl (Or.inl rfl))) (fun _ _ _ _ _ => pts_nil)
        (fun _ _ _ _ _ => (pe_op (op_addC (K := K) rfl) (pe_op (op_addC (K := K) rfl) (pe_call G_LCell (hr.mono (by omega)) (by rfl) D_LCell.m D_LCell.F.kp D_LCell.b .nil pass0 (pa_cons (pe_ix (ix_seqC (K := K) rfl) (pv 1) pe_int (fun _ _ => rfl)) (pa_cons (pv 3) pa_nil))) (pe_ix (ix_seqC (K := K) rfl) (pe_ix (ix_seqC (K := K) rfl) (pe_ix (ix_seqC (K := K) rfl) (pv 1) pe_int (fun _ _ => rfl)) pe_int (fun _ _ => rfl)) (pv 3) (fun _ _ => rfl))) (pe_ix (ix_seqC (K := K) rfl) (pe_ix (ix_seqC (K := K) rfl) (pe_ix (ix_seqC (K := K) rfl) (pv 1) pe_int (fun _ _ => rfl)) pe_int (fun _ _ => rfl)) (pv 3) (fun _ _ => rfl))))) pa_nil))) <|
    pss_one (ps_ret (pe_tup (pa_cons (pe_call G_LDigest (hr.mono (by omega)) (by rfl) D_LDigest.m D_LDigest.F.kp D_LDigest.b .nil pass0 (pa_cons (pv 0) (pa_cons (pe_op op_addA (pe_tup (pa_cons pe_str pa_nil)) (pv 1)) pa_nil))) (pa_cons (pe_op op_addA (pe_op op_addA pe_int (pe_ix ix_seq (pe_ix ix_seq (pv 1) pe_int (fun _ _ => rfl)) pe_int (fun _ _ => rfl))) (pe_ix ix_seq (pe_ix ix_seq (pv 1) pe_int (fun _ _ => rfl)) pe_int (fun _ _ => rfl))) (pa_cons (pv 2) pa_nil)))))), body_ok _ (fun R => inferInstance) (by decide) (fun ws C Q R hw hC hP => ?_) h⟩)
  obtain rfl := List.eq_nil_of_length_eq_zero hC
  obtain ⟨b, m, e, rfl, hr, hf, q⟩ := hP
  obtain ⟨f1, f2, f3⟩ := node_fit hf
  walk_at "d"
  refine ⟨by decide, by decide, ?_⟩
  rw [show rangeD 0 (Int.toNat 3) = [.int 0, .int 1, .int 2] from rfl]
  unfold entD entDs linkD sumsD
  simp only [dLcGo]
  walk_at "d"
  refine ⟨_, _, rfl, by decide, ?_⟩
  walk_at "d"
  refine ⟨by decide, _, _, rfl, by decide, ?_⟩
  walk_at "d"
  refine ⟨by decide, _, _, rfl, by decide, ?_⟩
  walk_at "d"
  refine ⟨by decide, by decide, by decide, b, m, nodeD e, rfl, hr, f1, f2, by omega, ?_⟩
  walk_at "d"
  refine ⟨by decide, q⟩
end
abbrev sLTree : Stmt := topS 33
theorem scLTree : FnScope ["rule", "table", "top", "left", "right", "entry"] ["rule", "table"] (defScope sLTree) := ⟨rfl, rfl, rfl, by decide +kernel, rfl, by decide +kernel, by decide +kernel⟩
def pLTree (n : Nat) : DSp := fun ws C Q _ => ∃ b m tb, ws = [.val (ruleD b m), .val (tabD tb)] ∧ RuleOk b m ∧ TabFit tb ∧ tb.length < n ∧ tb.length ≤ 1000 ∧ Q (.val (treeD b m (treeOf tb))) C
theorem no_LTree : ∀ ws C Q R, ¬ pLTree 0 ws C Q R := fun ws C Q R ⟨_, _, _, _, _, _, h, _⟩ => absurd h (Nat.not_lt_zero _)
section
variable {P : Program} {w : World} {K : PySem.W.Frag} {mg : Str → Option Value} {base : Heap} {ct : Ct}
theorem step_LTree {n : Nat} (D : Def K mg "_law_tree" sLTree ["rule", "table"]) (D_LDigest : Def K mg "_law_digest" sLDigest ["rule", "value"]) (D_LTop : Def K mg "_law_top" sLTop ["table"]) (D_LLink : Def K mg "_law_link" sLLink ["rule", "entry"]) (m_len : mg "len" = none)
    (G_LDigest : FnOk P w K mg base CX0 10 D_LDigest.f D_LDigest.fd ["rule", "value"] (spD ct 0 2 pLDigest)) (G_LTop : FnOk P w K mg base CX0 3 D_LTop.f D_LTop.fd ["table"] (spD ct 0 1 pLTop)) (G_LLink : FnOk P w K mg base CX0 11 D_LLink.f D_LLink.fd ["rule", "entry"] (spD ct 0 2 pLLink)) (G : FnOk P w K mg base CX0 (n + 12) D.f D.fd ["rule", "table"] (spD ct 0 2 (pLTree n))) : FnOk P w K mg base CX0 (n + 12 + 1) D.f D.fd ["rule", "table"] (spD ct 0 2 (pLTree (n + 1))) := by
  refine D.F.ok scLTree (fun vs H Q E h => spD_len h) (fun cdv A outer s H vs Q E hr h => ⟨_, (pss_cons (ps_if (pt_cmpR (op_eqD hr.units) (pe_callB call_lenA (by rfl) m_len (by decide +kernel) (pa_cons (pv 1) pa_nil)) pe_int (nomark _))
      (pss_one (ps_ret (pe_lst (pa_cons (pe_tup (pa_cons (pe_call G_LDigest (hr.mono (by omega)) (by rfl) D_LDigest.m D_LDigest.F.kp D_LDigest.b .nil pass0 (pa_cons (pv 0) (pa_cons (pe_tup (pa_cons pe_str pa_nil)) pa_nil))) (pa_cons pe_int (pa_cons (pe_tup (pa_cons pe_int (pa_cons pe_int (pa_cons pe_int pa_nil)))) pa_nil)))) (pa_cons pe_non (pa_cons pe_non (pa_cons pe_non pa_nil))))))) pss_nil) <|
    pss_cons (ps_set (i := 2) scLTree.nd rfl (.inl rfl) (pe_call G_LTop (hr.mono (by omega)) (by rfl) D_LTop.m D_LTop.F.kp D_LTop.b .nil pass0 (pa_cons (pv 1) pa_nil))) <|
    pss_cons (ps_set (i := 3) scLTree.nd rfl (.inl rfl) (pe_call G (hr.mono (by omega)) (by rfl) D.m D.F.kp D.b .nil pass0 (pa_cons (pv 0) (pa_cons (pe_slice sl_any (pv 1) po_none (po_some (pv 2))) pa_nil)))) <|
    pss_cons (ps_set (i := 4) scLTree.nd rfl (.inl rfl) (pe_call G (hr.mono (by omega)) (by rfl) D.m D.F.kp D.b .nil pass0 (pa_cons (pv 0) (pa_cons (pe_slice sl_any (pv 1) (po_some (pe_op op_addA (pv 2) pe_int)) po_none) pa_nil)))) <|
    pss_cons (ps_set (i := 5) scLTree.nd rfl (.inl rfl) (pe_tup (pa_cons (pe_ix ix_seq (pe_ix ix_seq (pv 1) (pv 2) (fun _ _ => rfl)) pe_int (fun _ _ => rfl)) (pa_cons (pe_ix ix_seq (pe_ix ix_seq (pv 1) (pv 2) (fun _ _ => rfl)) pe_int (fun _ _ => rfl)) (pa_cons (pe_ix ix_seq (pv 3) pe_int (fun _ _ => rfl)) (pa_cons (pe_ix ix_seq (pv 4) pe_int (fun _ _ => rfl)) pa_nil)))))) <|
    pss_one (ps_ret (pe_lst (pa_cons (pe_call G_LLink (hr.mono (by omega)) (by rfl) D_LLink.m D_LLink.F.kp D_LLink.b .nil pass0 (pa_cons (pv 0) (pa_cons (pv 5) pa_nil))) (pa_cons (pv 5) (pa_cons (pv 3) (pa_cons (pv 4) pa_nil))))))), body_ok _ (fun R => inferInstance) (by decide) (fun ws C Q R hw hC hP => ?_) h⟩)
  obtain rfl := List.eq_nil_of_length_eq_zero hC
  obtain ⟨b, m, tb, rfl, hr, hf, hn, hl, q⟩ := hP
  walk_at "d"
  rw [List.length_map]
  refine ifd (fun h => ?_) (fun h => ?_)
  · obtain rfl := List.eq_nil_of_length_eq_zero (by omega : tb.length = 0)
    refine ⟨by decide, b, m, _, rfl, hr, empty_fit.1, empty_fit.2.1, Nat.le_trans empty_fit.2.2 (by decide), ?_⟩
    walk_at "d"
    exact ⟨by decide, by decide, by decide, q⟩
  have hne : tb ≠ [] := fun e => h (by rw [e]; rfl)
  have hi := topI_in hne
  obtain ⟨p, hp, hpm⟩ := get_of hi
  refine ⟨tb, rfl, hf, hl, ?_⟩
  walk_at "d"
  rw [cutL_to (by rw [List.length_map]; omega), ← List.map_take]
  refine ⟨b, m, _, rfl, hr, hf.take _, by rw [List.length_take]; omega, by rw [List.length_take]; omega, ?_⟩
  walk_at "d"
  rw [show ((topI tb tb.length : Nat) : Int) + 1 = ((topI tb tb.length + 1 : Nat) : Int) by omega, cutL_from (by rw [List.length_map]; omega), ← List.map_drop]
  refine ⟨b, m, _, rfl, hr, hf.drop _, by rw [List.length_drop]; omega, by rw [List.length_drop]; omega, ?_⟩
  obtain ⟨r1, e1⟩ := treeD_head b m (treeOf (tb.take (topI tb tb.length)))
  obtain ⟨r2, e2⟩ := treeD_head b m (treeOf (tb.drop (topI tb tb.length + 1)))
  rw [treeOf_node hp] at q
  rw [at_map pairD hp, e1, e2]
  rw [show treeD b m (.node p.1 p.2 (treeOf (tb.take (topI tb tb.length))) (treeOf (tb.drop (topI tb tb.length + 1)))) = .list [_, _, treeD b m (treeOf (tb.take (topI tb tb.length))), treeD b m (treeOf (tb.drop (topI tb tb.length + 1)))] from rfl, e1, e2] at q
  unfold pairD
  walk_at "d"
  refine ⟨by decide, b, m, entOf b m p.1 p.2 (treeOf (tb.take (topI tb tb.length))) (treeOf (tb.drop (topI tb tb.length + 1))), rfl, hr, hf p hpm, ?_⟩
  walk_at "d"
  exact ⟨by decide, q⟩
theorem ok_LTree (D : Def K mg "_law_tree" sLTree ["rule", "table"]) (D_LDigest : Def K mg "_law_digest" sLDigest ["rule", "value"]) (D_LTop : Def K mg "_law_top" sLTop ["table"]) (D_LLink : Def K mg "_law_link" sLLink ["rule", "entry"]) (m_len : mg "len" = none)
    (G_LDigest : FnOk P w K mg base CX0 10 D_LDigest.f D_LDigest.fd ["rule", "value"] (spD ct 0 2 pLDigest)) (G_LTop : FnOk P w K mg base CX0 3 D_LTop.f D_LTop.fd ["table"] (spD ct 0 1 pLTop)) (G_LLink : FnOk P w K mg base CX0 11 D_LLink.f D_LLink.fd ["rule", "entry"] (spD ct 0 2 pLLink)) : ∀ n : Nat, FnOk P w K mg base CX0 (n + 12) D.f D.fd ["rule", "table"] (spD ct 0 2 (pLTree n))
  | 0 => spD_none no_LTree
  | n + 1 => (step_LTree D D_LDigest D_LTop D_LLink m_len G_LDigest G_LTop G_LLink (ok_LTree D D_LDigest D_LTop D_LLink m_len G_LDigest G_LTop G_LLink n)).mono (by omega)

end

end RR

namespace RR
open PySem PySem.Spec PyProof.Rows L2
set_option hygiene false in
local macro_rules | `(tactic| walk_at "d") => `(tactic| simp -implicitDefEqProofs only [dSeqS, dNext, dDrop, dRet, dRetN, dIfS, dAsg, dAsgC, dgName, dgTup.eq_1, dgTup.eq_2, dgCons.eq_1, dgCons.eq_2, dgNil, dgSub, subK.eq_1, subK.eq_2, dVar, dVarF, dC, dOp, fII.eq_1, fII.eq_2, fIIc.eq_1, fIIc.eq_2, fAdd.eq_1, fAdd.eq_2, fAdd.eq_3, fAdd.eq_4, fAdd.eq_5, fAdd.eq_6, fCmp.eq_1, fCmp.eq_2, fCmp.eq_3, fEqD, fIsN.eq_1, fIsN.eq_2, isNon.eq_1, isNon.eq_2, rdV.eq_1, rdV.eq_2, rdV.eq_3, rdL.eq_1, rdL.eq_2, rdL.eq_3, dB, dAnd, dOr, dNot, dTru, dIf, dAndV, dOrV, dNotV, dChain, dNil, dCons, vals.eq_1, vals.eq_2, vals.eq_3, dTup, dLst, fIx.eq_1, fIx.eq_2, fIx.eq_3, fIx.eq_4, fIx.eq_5, dSl, dPart, dNoPart, dCB, fLen.eq_1, fLen.eq_2, fLen.eq_3, fLen.eq_4, fLen.eq_5, fInt.eq_1, fInt.eq_2, fInt.eq_3, fList.eq_1, fList.eq_2, rdS.eq_1, rdS.eq_2, rdS.eq_3, rdS.eq_4, fTup.eq_1, fTup.eq_2, fOrd.eq_1, fOrd.eq_2, fIsi.eq_1, fIsi.eq_2, tyD.eq_1, tyD.eq_2, tyD.eq_3, tyD.eq_4, tyD.eq_5, tyD.eq_6, tyD.eq_7, kb1, kb2, kb3, kb4, kb5, kb6, kb7, kb8, kb9, kb10, kb11, kb12, kb13, kb14, kb15, kb16, kb17, kb18, kb19, kb20, kb21, kb22, kb23, kb24, dSeq, seqK.eq_1, seqK.eq_2, seqK.eq_3, seqK.eq_4, seqK.eq_5, dRng1, dRng2, dRev, lstK.eq_1, lstK.eq_2, lstK.eq_3, dEnum, dZip, dBM, dBM0, fAppend.eq_1, fAppend.eq_2, fExtend.eq_1, fExtend.eq_2, fExtA.eq_1, fExtA.eq_2, fPop.eq_1, fPop.eq_2, dRevT, dRevL, f2I.eq_1, f2I.eq_2, bK.eq_1, bK.eq_2, truK.eq_1, truK.eq_2, truK.eq_3, truK.eq_4, truK.eq_5, truK.eq_6, truK.eq_7, truL.eq_1, truL.eq_2, dispK.eq_1, dispK.eq_2, ixK.eq_1, ixK.eq_2, ixS.eq_1, ixS.eq_2, ixL.eq_1, ixL.eq_2, partK.eq_1, partK.eq_2, slK.eq_1, slK.eq_2, slK.eq_3, slK.eq_4, slK.eq_5, slL.eq_1, slL.eq_2, lenLK.eq_1, lenLK.eq_2, mkL.eq_1, mkL.eq_2, isiB.eq_1, isiB.eq_2, isiK.eq_1, isiK.eq_2, frzK.eq_1, frzK.eq_2, frzK.eq_3, rng1K.eq_1, rng1K.eq_2, rng2K.eq_1, rng2K.eq_2, lst1K.eq_1, lst1K.eq_2, zipK.eq_1, zipK.eq_2, sub1K.eq_1, sub1K.eq_2, sub2K.eq_1, sub2K.eq_2, appK.eq_1, appK.eq_2, extK.eq_1, extK.eq_2, pop2K.eq_1, pop2K.eq_2, popK.eq_1, popK.eq_2, lstFK.eq_1, lstFK.eq_2, lisFK.eq_1, lisFK.eq_2, lisF2K.eq_1, lisF2K.eq_2, accK.eq_1, accK.eq_2, dVal, revTK.eq_1, revTK.eq_2, callK.eq_1, callK.eq_2, eqK.eq_1, eqK.eq_2, catK.eq_1, catK.eq_2, cellL.eq_1, cellL.eq_2, cellL.eq_3, okDi, okDb, okDn, eqvi, eqvs, dLstF, dListF, dLc, dYes, wipeE.eq_1, wipeE.eq_2, dFor, fin, finD, wOk.eq_1, wOk.eq_2, cellOk.eq_1, cellOk.eq_2, E0D, dCallP, dCallW, putW, firstRef.eq_1, firstRef.eq_2, firstRef.eq_3, shW.eq_1, shW.eq_2, unW.eq_1, unW.eq_2, inW.eq_1, inW.eq_2, shC.eq_1, shC.eq_2, unC.eq_1, unC.eq_2, inC.eq_1, inC.eq_2, dBreak, at0, at1, at2, at3, atI_last, List.getElem?_cons_zero, List.getElem?_cons_succ, List.getElem?_nil, List.set_cons_zero, List.set_cons_succ, List.map_cons, List.map_nil, List.length_cons, List.length_nil, List.replicate_succ, List.replicate_zero, List.cons_append, List.nil_append, List.append_nil, Option.map_some, Option.map_none, Option.isSome_some, if_true, if_false, ite_true, ite_false, Bool.and_true, Bool.true_and, Bool.and_false, Bool.false_and, Bool.or_true, Bool.or_false, Bool.true_or, Bool.false_or, Bool.not_true, Bool.not_false, true_and, and_true, List.take_succ_cons, List.take_zero, List.take_nil, List.drop_zero, List.drop_succ_cons, List.drop_nil, List.all_cons, List.all_nil, List.any_cons, List.any_nil, List.contains_cons, List.elem_nil, Nat.zero_add, Nat.add_zero, Nat.le_refl, Nat.reduceAdd, Nat.reduceSub, Nat.reduceLT, Nat.reduceLeDiff, Nat.sub_self, Nat.sub_zero, Nat.zero_le, decide_true, decide_false, beq_self_eq_true, Bool.false_eq_true, reduceCtorEq, List.isEmpty_cons, List.isEmpty_nil, List.dropLast_concat, dUn, unK.eq_1, unK.eq_2, dFld, fldK.eq_1, fldK.eq_2, fldK.eq_3, fldC.eq_1, fldC.eq_2, fldW.eq_1, fldW.eq_2, dMake, makK.eq_1, makK.eq_2, fld00, fld01, fld02, lenF0, lenF1, lenF2, get_end, set_end, id])
set_option hygiene false in
local macro_rules | `(tactic| walk_at "s") => `(tactic| simp -implicitDefEqProofs only [dNext, dDrop, dRet, dRetN, dIfS, dAsg, dAsgC, dgName, dgTup.eq_1, dgTup.eq_2, dgCons.eq_1, dgCons.eq_2, dgNil, dgSub, subK.eq_1, subK.eq_2, dVar, dVarF, dC, dOp, fII.eq_1, fII.eq_2, fIIc.eq_1, fIIc.eq_2, fAdd.eq_1, fAdd.eq_2, fAdd.eq_3, fAdd.eq_4, fAdd.eq_5, fAdd.eq_6, fCmp.eq_1, fCmp.eq_2, fCmp.eq_3, fEqD, fIsN.eq_1, fIsN.eq_2, isNon.eq_1, isNon.eq_2, rdV.eq_1, rdV.eq_2, rdV.eq_3, rdL.eq_1, rdL.eq_2, rdL.eq_3, dB, dAnd, dOr, dNot, dTru, dIf, dAndV, dOrV, dNotV, dChain, dNil, dCons, vals.eq_1, vals.eq_2, vals.eq_3, dTup, dLst, fIx.eq_1, fIx.eq_2, fIx.eq_3, fIx.eq_4, fIx.eq_5, dSl, dPart, dNoPart, dCB, fLen.eq_1, fLen.eq_2, fLen.eq_3, fLen.eq_4, fLen.eq_5, fInt.eq_1, fInt.eq_2, fInt.eq_3, fList.eq_1, fList.eq_2, rdS.eq_1, rdS.eq_2, rdS.eq_3, rdS.eq_4, fTup.eq_1, fTup.eq_2, fOrd.eq_1, fOrd.eq_2, fIsi.eq_1, fIsi.eq_2, tyD.eq_1, tyD.eq_2, tyD.eq_3, tyD.eq_4, tyD.eq_5, tyD.eq_6, tyD.eq_7, kb1, kb2, kb3, kb4, kb5, kb6, kb7, kb8, kb9, kb10, kb11, kb12, kb13, kb14, kb15, kb16, kb17, kb18, kb19, kb20, kb21, kb22, kb23, kb24, dSeq, seqK.eq_1, seqK.eq_2, seqK.eq_3, seqK.eq_4, seqK.eq_5, dRng1, dRng2, dRev, lstK.eq_1, lstK.eq_2, lstK.eq_3, dEnum, dZip, dBM, dBM0, fAppend.eq_1, fAppend.eq_2, fExtend.eq_1, fExtend.eq_2, fExtA.eq_1, fExtA.eq_2, fPop.eq_1, fPop.eq_2, dRevT, dRevL, f2I.eq_1, f2I.eq_2, bK.eq_1, bK.eq_2, truK.eq_1, truK.eq_2, truK.eq_3, truK.eq_4, truK.eq_5, truK.eq_6, truK.eq_7, truL.eq_1, truL.eq_2, dispK.eq_1, dispK.eq_2, ixK.eq_1, ixK.eq_2, ixS.eq_1, ixS.eq_2, ixL.eq_1, ixL.eq_2, partK.eq_1, partK.eq_2, slK.eq_1, slK.eq_2, slK.eq_3, slK.eq_4, slK.eq_5, slL.eq_1, slL.eq_2, lenLK.eq_1, lenLK.eq_2, mkL.eq_1, mkL.eq_2, isiB.eq_1, isiB.eq_2, isiK.eq_1, isiK.eq_2, frzK.eq_1, frzK.eq_2, frzK.eq_3, rng1K.eq_1, rng1K.eq_2, rng2K.eq_1, rng2K.eq_2, lst1K.eq_1, lst1K.eq_2, zipK.eq_1, zipK.eq_2, sub1K.eq_1, sub1K.eq_2, sub2K.eq_1, sub2K.eq_2, appK.eq_1, appK.eq_2, extK.eq_1, extK.eq_2, pop2K.eq_1, pop2K.eq_2, popK.eq_1, popK.eq_2, lstFK.eq_1, lstFK.eq_2, lisFK.eq_1, lisFK.eq_2, lisF2K.eq_1, lisF2K.eq_2, accK.eq_1, accK.eq_2, dVal, revTK.eq_1, revTK.eq_2, callK.eq_1, callK.eq_2, eqK.eq_1, eqK.eq_2, catK.eq_1, catK.eq_2, cellL.eq_1, cellL.eq_2, cellL.eq_3, okDi, okDb, okDn, eqvi, eqvs, dLstF, dListF, dLc, dYes, wipeE.eq_1, wipeE.eq_2, dFor, fin, finD, wOk.eq_1, wOk.eq_2, cellOk.eq_1, cellOk.eq_2, E0D, dCallP, dCallW, putW, firstRef.eq_1, firstRef.eq_2, firstRef.eq_3, shW.eq_1, shW.eq_2, unW.eq_1, unW.eq_2, inW.eq_1, inW.eq_2, shC.eq_1, shC.eq_2, unC.eq_1, unC.eq_2, inC.eq_1, inC.eq_2, dBreak, at0, at1, at2, at3, atI_last, List.getElem?_cons_zero, List.getElem?_cons_succ, List.getElem?_nil, List.set_cons_zero, List.set_cons_succ, List.map_cons, List.map_nil, List.length_cons, List.length_nil, List.replicate_succ, List.replicate_zero, List.cons_append, List.nil_append, List.append_nil, Option.map_some, Option.map_none, Option.isSome_some, if_true, if_false, ite_true, ite_false, Bool.and_true, Bool.true_and, Bool.and_false, Bool.false_and, Bool.or_true, Bool.or_false, Bool.true_or, Bool.false_or, Bool.not_true, Bool.not_false, true_and, and_true, List.take_succ_cons, List.take_zero, List.take_nil, List.drop_zero, List.drop_succ_cons, List.drop_nil, List.all_cons, List.all_nil, List.any_cons, List.any_nil, List.contains_cons, List.elem_nil, Nat.zero_add, Nat.add_zero, Nat.le_refl, Nat.reduceAdd, Nat.reduceSub, Nat.reduceLT, Nat.reduceLeDiff, Nat.sub_self, Nat.sub_zero, Nat.zero_le, decide_true, decide_false, beq_self_eq_true, Bool.false_eq_true, reduceCtorEq, List.isEmpty_cons, List.isEmpty_nil, List.dropLast_concat, dUn, unK.eq_1, unK.eq_2, dFld, fldK.eq_1, fldK.eq_2, fldK.eq_3, fldC.eq_1, fldC.eq_2, fldW.eq_1, fldW.eq_2, dMake, makK.eq_1, makK.eq_2, fld00, fld01, fld02, lenF0, lenF1, lenF2, get_end, set_end, id])
abbrev sPRank : Stmt := topS 12
theorem scPRank : FnScope ["key", "result", "sign"] ["key"] (defScope sPRank) := ⟨rfl, rfl, rfl, by decide +kernel, rfl, by decide +kernel, by decide +kernel⟩
theorem rkFn_in (ns : List Int) : 0 ≤ rkF ns ∧ rkF ns < 1000003 := by
  rcases concat_cases ns with rfl | ⟨ns, n, rfl⟩
  · exact ⟨by show (0 : Int) ≤ 7; decide, by show (7 : Int) < 1000003; decide⟩
  · rw [rkF_snoc]
    exact ⟨Int.fmod_nonneg_of_pos _ (by decide), Int.fmod_lt_of_pos _ (by decide)⟩
theorem rk_in (z : Str) : 0 ≤ rk z ∧ rk z < 1000003 := rkFn_in _
def pPRank : DSp := fun ws C Q _ => ∃ z, ws = [.val (.str z)] ∧ z.length ≤ 1000 ∧ Q (.val (.int (rk z))) C
section
variable {P : Program} {w : World} {K : PySem.W.Frag} {mg : Str → Option Value} {base : Heap} {ct : Ct}
theorem ok_PRank (D : Def K mg "rank" sPRank ["key"]) (m_ord : mg "ord" = none)
    : FnOk P w K mg base CX0 1 D.f D.fd ["key"] (spD ct 0 1 pPRank) := by
  refine D.F.ok scPRank (fun vs H Q E h => spD_len h) (fun cdv A outer s H vs Q E hr h => ⟨_, (pss_cons (ps_set (i := 1) scPRank.nd rfl (.inl rfl) pe_int) <|
    pss_cons (ps_for PassesOwn.never rfl (pi_seqA (pv 0)) (pg_name (i := 2) scPRank.nd rfl (Or.inl rfl))
      (pss_one (ps_set (i := 1) scPRank.nd rfl (.inl rfl) (pe_op op_modN (pe_op op_addA (pe_op op_mulW (pv 1) pe_int) (pe_callB call_ordA (by rfl) m_ord (by decide +kernel) (pa_cons (pv 2) pa_nil))) pe_int)))) <|
    pss_one (ps_ret (pv 1))), body_ok _ (fun R => inferInstance) (by decide) (fun ws C Q R hw hC hP => ?_) h⟩)
  obtain rfl := List.eq_nil_of_length_eq_zero hC
  obtain ⟨z, rfl, hl, q⟩ := hP
  walk_at "d"
  refine dForGo_map (fun c => PyData.str ⟨#[c]⟩) z.cps.toList (fun pre E C => C = [] ∧ ∃ y : Option W, E = [some (.val (.str z)), some (.val (.int (rkF (pre.map fun c => ((c : Nat) : Int))))), y]) ?_ ?_ ⟨rfl, none, rfl⟩
  · rintro pre n post E C e ⟨rfl, y, rfl⟩ N hN
    obtain ⟨r0, r1⟩ := rkFn_in (pre.map fun c => ((c : Nat) : Int))
    walk_at "d"
    refine ⟨wide_mul (a := 21) (b := 8) (by omega) (by decide) (by decide) (by decide) (by decide), rfl, by decide, hN _ _ ⟨rfl, some (.val (.str ⟨#[n]⟩)), ?_⟩⟩
    rw [List.map_append, List.map_cons, List.map_nil, rkF_snoc]
    rfl
  · rintro E C ⟨rfl, y, rfl⟩
    walk_at "d"
    exact q
end
abbrev sPStandsAbove : Stmt := topS 13
theorem scPStandsAbove : FnScope ["key", "other", "own_rank", "other_rank"] ["key", "other"] (defScope sPStandsAbove) := ⟨rfl, rfl, rfl, by decide +kernel, rfl, by decide +kernel, by decide +kernel⟩
/-- it stands above: by rank, then by key -/
def abv (a b : Str) : Bool := decide (rk b < rk a) || (decide (rk a = rk b) && slt a b)
def pPStandsAbove : DSp := fun ws C Q _ => ∃ a b, ws = [.val (.str a), .val (.str b)] ∧ a.length ≤ 1000 ∧ b.length ≤ 1000 ∧ Q (.val (.bool (abv a b))) C
section
variable {P : Program} {w : World} {K : PySem.W.Frag} {mg : Str → Option Value} {base : Heap} {ct : Ct}
theorem ok_PStandsAbove (D : Def K mg "stands_above" sPStandsAbove ["key", "other"]) (D_PRank : Def K mg "rank" sPRank ["key"])
    (G_PRank : FnOk P w K mg base CX0 1 D_PRank.f D_PRank.fd ["key"] (spD ct 0 1 pPRank)) : FnOk P w K mg base CX0 2 D.f D.fd ["key", "other"] (spD ct 0 2 pPStandsAbove) := by
  refine D.F.ok scPStandsAbove (fun vs H Q E h => spD_len h) (fun cdv A outer s H vs Q E hr h => ⟨_, (pss_cons (ps_set (i := 2) scPStandsAbove.nd rfl (.inl rfl) (pe_call G_PRank (hr.mono (by omega)) (by rfl) D_PRank.m D_PRank.F.kp D_PRank.b .nil pass0 (pa_cons (pv 0) pa_nil))) <|
    pss_cons (ps_set (i := 3) scPStandsAbove.nd rfl (.inl rfl) (pe_call G_PRank (hr.mono (by omega)) (by rfl) D_PRank.m D_PRank.F.kp D_PRank.b .nil pass0 (pa_cons (pv 1) pa_nil))) <|
    pss_one (ps_ret (pe_or (pe_cmpR op_gtA (pv 2) (pv 3) (nomark _)) (pe_one (pe_and (pe_cmpR (op_eqD hr.units) (pv 2) (pv 3) (nomark _)) (pe_one (pe_cmpR op_ltA (pv 0) (pv 1) (nomark _)))))))), body_ok _ (fun R => inferInstance) (by decide) (fun ws C Q R hw hC hP => ?_) h⟩)
  obtain rfl := List.eq_nil_of_length_eq_zero hC
  obtain ⟨a, b, rfl, ha, hb, q⟩ := hP
  walk_at "d"
  refine ⟨a, rfl, ha, ?_⟩
  walk_at "d"
  refine ⟨b, rfl, hb, ?_⟩
  walk_at "d"
  unfold abv at q
  refine ifd (fun h => ?_) (fun h => ?_)
  · rw [decide_eq_true h] at q
    exact q
  rw [decide_eq_false h, Bool.false_or] at q
  refine ifd (fun h => ?_) (fun h => ?_)
  · rw [decide_eq_true h, Bool.true_and] at q
    exact q
  · rw [decide_eq_false h, Bool.false_and] at q
    exact q
end

end RR

namespace RR
open PySem PySem.Spec PyProof.Rows L2
set_option hygiene false in
local macro_rules | `(tactic| walk_at "d") => `(tactic| simp -implicitDefEqProofs only [dSeqS, dNext, dDrop, dRet, dRetN, dIfS, dAsg, dAsgC, dgName, dgTup.eq_1, dgTup.eq_2, dgCons.eq_1, dgCons.eq_2, dgNil, dgSub, subK.eq_1, subK.eq_2, dVar, dVarF, dC, dOp, fII.eq_1, fII.eq_2, fIIc.eq_1, fIIc.eq_2, fAdd.eq_1, fAdd.eq_2, fAdd.eq_3, fAdd.eq_4, fAdd.eq_5, fAdd.eq_6, fCmp.eq_1, fCmp.eq_2, fCmp.eq_3, fEqD, fIsN.eq_1, fIsN.eq_2, isNon.eq_1, isNon.eq_2, rdV.eq_1, rdV.eq_2, rdV.eq_3, rdL.eq_1, rdL.eq_2, rdL.eq_3, dB, dAnd, dOr, dNot, dTru, dIf, dAndV, dOrV, dNotV, dChain, dNil, dCons, vals.eq_1, vals.eq_2, vals.eq_3, dTup, dLst, fIx.eq_1, fIx.eq_2, fIx.eq_3, fIx.eq_4, fIx.eq_5, dSl, dPart, dNoPart, dCB, fLen.eq_1, fLen.eq_2, fLen.eq_3, fLen.eq_4, fLen.eq_5, fInt.eq_1, fInt.eq_2, fInt.eq_3, fList.eq_1, fList.eq_2, rdS.eq_1, rdS.eq_2, rdS.eq_3, rdS.eq_4, fTup.eq_1, fTup.eq_2, fOrd.eq_1, fOrd.eq_2, fIsi.eq_1, fIsi.eq_2, tyD.eq_1, tyD.eq_2, tyD.eq_3, tyD.eq_4, tyD.eq_5, tyD.eq_6, tyD.eq_7, kb1, kb2, kb3, kb4, kb5, kb6, kb7, kb8, kb9, kb10, kb11, kb12, kb13, kb14, kb15, kb16, kb17, kb18, kb19, kb20, kb21, kb22, kb23, kb24, dSeq, seqK.eq_1, seqK.eq_2, seqK.eq_3, seqK.eq_4, seqK.eq_5, dRng1, dRng2, dRev, lstK.eq_1, lstK.eq_2, lstK.eq_3, dEnum, dZip, dBM, dBM0, fAppend.eq_1, fAppend.eq_2, fExtend.eq_1, fExtend.eq_2, fExtA.eq_1, fExtA.eq_2, fPop.eq_1, fPop.eq_2, dRevT, dRevL, f2I.eq_1, f2I.eq_2, bK.eq_1, bK.eq_2, truK.eq_1, truK.eq_2, truK.eq_3, truK.eq_4, truK.eq_5, truK.eq_6, truK.eq_7, truL.eq_1, truL.eq_2, dispK.eq_1, dispK.eq_2, ixK.eq_1, ixK.eq_2, ixS.eq_1, ixS.eq_2, ixL.eq_1, ixL.eq_2, partK.eq_1, partK.eq_2, slK.eq_1, slK.eq_2, slK.eq_3, slK.eq_4, slK.eq_5, slL.eq_1, slL.eq_2, lenLK.eq_1, lenLK.eq_2, mkL.eq_1, mkL.eq_2, isiB.eq_1, isiB.eq_2, isiK.eq_1, isiK.eq_2, frzK.eq_1, frzK.eq_2, frzK.eq_3, rng1K.eq_1, rng1K.eq_2, rng2K.eq_1, rng2K.eq_2, lst1K.eq_1, lst1K.eq_2, zipK.eq_1, zipK.eq_2, sub1K.eq_1, sub1K.eq_2, sub2K.eq_1, sub2K.eq_2, appK.eq_1, appK.eq_2, extK.eq_1, extK.eq_2, pop2K.eq_1, pop2K.eq_2, popK.eq_1, popK.eq_2, lstFK.eq_1, lstFK.eq_2, lisFK.eq_1, lisFK.eq_2, lisF2K.eq_1, lisF2K.eq_2, accK.eq_1, accK.eq_2, dVal, revTK.eq_1, revTK.eq_2, callK.eq_1, callK.eq_2, eqK.eq_1, eqK.eq_2, catK.eq_1, catK.eq_2, cellL.eq_1, cellL.eq_2, cellL.eq_3, okDi, okDb, okDn, eqvi, eqvs, dLstF, dListF, dLc, dYes, wipeE.eq_1, wipeE.eq_2, dFor, fin, finD, wOk.eq_1, wOk.eq_2, cellOk.eq_1, cellOk.eq_2, E0D, dCallP, dCallW, putW, firstRef.eq_1, firstRef.eq_2, firstRef.eq_3, shW.eq_1, shW.eq_2, unW.eq_1, unW.eq_2, inW.eq_1, inW.eq_2, shC.eq_1, shC.eq_2, unC.eq_1, unC.eq_2, inC.eq_1, inC.eq_2, dBreak, at0, at1, at2, at3, atI_last, List.getElem?_cons_zero, List.getElem?_cons_succ, List.getElem?_nil, List.set_cons_zero, List.set_cons_succ, List.map_cons, List.map_nil, List.length_cons, List.length_nil, List.replicate_succ, List.replicate_zero, List.cons_append, List.nil_append, List.append_nil, Option.map_some, Option.map_none, Option.isSome_some, if_true, if_false, ite_true, ite_false, Bool.and_true, Bool.true_and, Bool.and_false, Bool.false_and, Bool.or_true, Bool.or_false, Bool.true_or, Bool.false_or, Bool.not_true, Bool.not_false, true_and, and_true, List.take_succ_cons, List.take_zero, List.take_nil, List.drop_zero, List.drop_succ_cons, List.drop_nil, List.all_cons, List.all_nil, List.any_cons, List.any_nil, List.contains_cons, List.elem_nil, Nat.zero_add, Nat.add_zero, Nat.le_refl, Nat.reduceAdd, Nat.reduceSub, Nat.reduceLT, Nat.reduceLeDiff, Nat.sub_self, Nat.sub_zero, Nat.zero_le, decide_true, decide_false, beq_self_eq_true, Bool.false_eq_true, reduceCtorEq, List.isEmpty_cons, List.isEmpty_nil, List.dropLast_concat, dUn, unK.eq_1, unK.eq_2, dFld, fldK.eq_1, fldK.eq_2, fldK.eq_3, fldC.eq_1, fldC.eq_2, fldW.eq_1, fldW.eq_2, dMake, makK.eq_1, makK.eq_2, fld00, fld01, fld02, lenF0, lenF1, lenF2, get_end, set_end, id])
set_option hygiene false in
local macro_rules | `(tactic| walk_at "s") => `(tactic| simp -implicitDefEqProofs only [dNext, dDrop, dRet, dRetN, dIfS, dAsg, dAsgC, dgName, dgTup.eq_1, dgTup.eq_2, dgCons.eq_1, dgCons.eq_2, dgNil, dgSub, subK.eq_1, subK.eq_2, dVar, dVarF, dC, dOp, fII.eq_1, fII.eq_2, fIIc.eq_1, fIIc.eq_2, fAdd.eq_1, fAdd.eq_2, fAdd.eq_3, fAdd.eq_4, fAdd.eq_5, fAdd.eq_6, fCmp.eq_1, fCmp.eq_2, fCmp.eq_3, fEqD, fIsN.eq_1, fIsN.eq_2, isNon.eq_1, isNon.eq_2, rdV.eq_1, rdV.eq_2, rdV.eq_3, rdL.eq_1, rdL.eq_2, rdL.eq_3, dB, dAnd, dOr, dNot, dTru, dIf, dAndV, dOrV, dNotV, dChain, dNil, dCons, vals.eq_1, vals.eq_2, vals.eq_3, dTup, dLst, fIx.eq_1, fIx.eq_2, fIx.eq_3, fIx.eq_4, fIx.eq_5, dSl, dPart, dNoPart, dCB, fLen.eq_1, fLen.eq_2, fLen.eq_3, fLen.eq_4, fLen.eq_5, fInt.eq_1, fInt.eq_2, fInt.eq_3, fList.eq_1, fList.eq_2, rdS.eq_1, rdS.eq_2, rdS.eq_3, rdS.eq_4, fTup.eq_1, fTup.eq_2, fOrd.eq_1, fOrd.eq_2, fIsi.eq_1, fIsi.eq_2, tyD.eq_1, tyD.eq_2, tyD.eq_3, tyD.eq_4, tyD.eq_5, tyD.eq_6, tyD.eq_7, kb1, kb2, kb3, kb4, kb5, kb6, kb7, kb8, kb9, kb10, kb11, kb12, kb13, kb14, kb15, kb16, kb17, kb18, kb19, kb20, kb21, kb22, kb23, kb24, dSeq, seqK.eq_1, seqK.eq_2, seqK.eq_3, seqK.eq_4, seqK.eq_5, dRng1, dRng2, dRev, lstK.eq_1, lstK.eq_2, lstK.eq_3, dEnum, dZip, dBM, dBM0, fAppend.eq_1, fAppend.eq_2, fExtend.eq_1, fExtend.eq_2, fExtA.eq_1, fExtA.eq_2, fPop.eq_1, fPop.eq_2, dRevT, dRevL, f2I.eq_1, f2I.eq_2, bK.eq_1, bK.eq_2, truK.eq_1, truK.eq_2, truK.eq_3, truK.eq_4, truK.eq_5, truK.eq_6, truK.eq_7, truL.eq_1, truL.eq_2, dispK.eq_1, dispK.eq_2, ixK.eq_1, ixK.eq_2, ixS.eq_1, ixS.eq_2, ixL.eq_1, ixL.eq_2, partK.eq_1, partK.eq_2, slK.eq_1, slK.eq_2, slK.eq_3, slK.eq_4, slK.eq_5, slL.eq_1, slL.eq_2, lenLK.eq_1, lenLK.eq_2, mkL.eq_1, mkL.eq_2, isiB.eq_1, isiB.eq_2, isiK.eq_1, isiK.eq_2, frzK.eq_1, frzK.eq_2, frzK.eq_3, rng1K.eq_1, rng1K.eq_2, rng2K.eq_1, rng2K.eq_2, lst1K.eq_1, lst1K.eq_2, zipK.eq_1, zipK.eq_2, sub1K.eq_1, sub1K.eq_2, sub2K.eq_1, sub2K.eq_2, appK.eq_1, appK.eq_2, extK.eq_1, extK.eq_2, pop2K.eq_1, pop2K.eq_2, popK.eq_1, popK.eq_2, lstFK.eq_1, lstFK.eq_2, lisFK.eq_1, lisFK.eq_2, lisF2K.eq_1, lisF2K.eq_2, accK.eq_1, accK.eq_2, dVal, revTK.eq_1, revTK.eq_2, callK.eq_1, callK.eq_2, eqK.eq_1, eqK.eq_2, catK.eq_1, catK.eq_2, cellL.eq_1, cellL.eq_2, cellL.eq_3, okDi, okDb, okDn, eqvi, eqvs, dLstF, dListF, dLc, dYes, wipeE.eq_1, wipeE.eq_2, dFor, fin, finD, wOk.eq_1, wOk.eq_2, cellOk.eq_1, cellOk.eq_2, E0D, dCallP, dCallW, putW, firstRef.eq_1, firstRef.eq_2, firstRef.eq_3, shW.eq_1, shW.eq_2, unW.eq_1, unW.eq_2, inW.eq_1, inW.eq_2, shC.eq_1, shC.eq_2, unC.eq_1, unC.eq_2, inC.eq_1, inC.eq_2, dBreak, at0, at1, at2, at3, atI_last, List.getElem?_cons_zero, List.getElem?_cons_succ, List.getElem?_nil, List.set_cons_zero, List.set_cons_succ, List.map_cons, List.map_nil, List.length_cons, List.length_nil, List.replicate_succ, List.replicate_zero, List.cons_append, List.nil_append, List.append_nil, Option.map_some, Option.map_none, Option.isSome_some, if_true, if_false, ite_true, ite_false, Bool.and_true, Bool.true_and, Bool.and_false, Bool.false_and, Bool.or_true, Bool.or_false, Bool.true_or, Bool.false_or, Bool.not_true, Bool.not_false, true_and, and_true, List.take_succ_cons, List.take_zero, List.take_nil, List.drop_zero, List.drop_succ_cons, List.drop_nil, List.all_cons, List.all_nil, List.any_cons, List.any_nil, List.contains_cons, List.elem_nil, Nat.zero_add, Nat.add_zero, Nat.le_refl, Nat.reduceAdd, Nat.reduceSub, Nat.reduceLT, Nat.reduceLeDiff, Nat.sub_self, Nat.sub_zero, Nat.zero_le, decide_true, decide_false, beq_self_eq_true, Bool.false_eq_true, reduceCtorEq, List.isEmpty_cons, List.isEmpty_nil, List.dropLast_concat, dUn, unK.eq_1, unK.eq_2, dFld, fldK.eq_1, fldK.eq_2, fldK.eq_3, fldC.eq_1, fldC.eq_2, fldW.eq_1, fldW.eq_2, dMake, makK.eq_1, makK.eq_2, fld00, fld01, fld02, lenF0, lenF1, lenF2, get_end, set_end, id])
abbrev sPColumnOf : Stmt := topS 3
theorem scPColumnOf : FnScope ["row", "column"] ["row", "column"] (defScope sPColumnOf) := ⟨rfl, rfl, rfl, by decide +kernel, rfl, by decide +kernel, by decide +kernel⟩
def pPColumnOf : DSp := fun ws C Q _ => ∃ ns c, ws = [.val (rowD ns), .val (.int c)] ∧ 0 ≤ c ∧ Q (.val (.int (colOf ns c))) C
theorem colOf_inP {ns : List Int} {c : Int} (h0 : 0 ≤ c) (h1 : c < (ns.length : Int)) : atI (ns.map PyData.int) c = some (.int (colOf ns c)) := by
  obtain ⟨j, rfl, hj⟩ := nat_of h0 h1
  obtain ⟨x, hx, _⟩ := get_of hj
  rw [at_map PyData.int hx]
  unfold colOf
  rw [if_pos h1, List.getD_eq_getElem?_getD, show (j : Int).toNat = j by omega, hx]
  rfl
section
variable {P : Program} {w : World} {K : PySem.W.Frag} {mg : Str → Option Value} {base : Heap} {ct : Ct}
theorem ok_PColumnOf (D : Def K mg "column_of" sPColumnOf ["row", "column"]) (m_len : mg "len" = none)
    : FnOk P w K mg base CX0 1 D.f D.fd ["row", "column"] (spD ct 0 2 pPColumnOf) := by
  refine D.F.ok scPColumnOf (fun vs H Q E h => spD_len h) (fun cdv A outer s H vs Q E hr h => ⟨_, (pss_one (ps_ret (pe_ifExp (pt_chain op_leA op_ltA pe_int (pv 1) (pe_callB call_lenA (by rfl) m_len (by decide +kernel) (pa_cons (pv 0) pa_nil))) (pe_ix ix_seq (pv 0) (pv 1) (fun _ _ => rfl)) pe_int))), body_ok _ (fun R => inferInstance) (by decide) (fun ws C Q R hw hC hP => ?_) h⟩)
  obtain rfl := List.eq_nil_of_length_eq_zero hC
  obtain ⟨ns, c, rfl, h0, q⟩ := hP
  unfold rowD
  walk_at "d"
  rw [List.length_map]
  refine ifd (fun _ => ?_) (fun h => absurd h0 h)
  refine ifd (fun h => ?_) (fun h => ?_)
  · rw [colOf_inP h0 h]
    walk_at "d"
    exact q
  · rw [show colOf ns c = 0 from if_neg h] at q
    exact q
end
abbrev sPEntryDigest : Stmt := topS 8
theorem scPEntryDigest : FnScope ["rule", "entry", "key", "row", "left", "right"] ["rule", "entry"] (defScope sPEntryDigest) := ⟨rfl, rfl, rfl, by decide +kernel, rfl, by decide +kernel, by decide +kernel⟩
def pPEntryDigest : DSp := fun ws C Q _ => ∃ b m e, ws = [.val (ruleD b m), .val (entD e)] ∧ RuleOk b m ∧ e.Fit ∧ Q (.val (.int (dig b m (enc (nodeD e))))) C
section
variable {P : Program} {w : World} {K : PySem.W.Frag} {mg : Str → Option Value} {base : Heap} {ct : Ct}
theorem ok_PEntryDigest (D : Def K mg "entry_digest" sPEntryDigest ["rule", "entry"]) (D_PDigest : Def K mg "digest" sPDigest ["rule", "value"])
    (G_PDigest : FnOk P w K mg base CX0 2 D_PDigest.f D_PDigest.fd ["rule", "value"] (spD ct 0 2 pPDigest)) : FnOk P w K mg base CX0 3 D.f D.fd ["rule", "entry"] (spD ct 0 2 pPEntryDigest) := by
  refine D.F.ok scPEntryDigest (fun vs H Q E h => spD_len h) (fun cdv A outer s H vs Q E hr h => ⟨_, (pss_cons (ps_asg (pv 1) (pg_tup (n := 4) (by rfl) (pgs_cons (pg_name (i := 2) scPEntryDigest.nd rfl (Or.inl rfl)) (pgs_cons (pg_name (i := 3) scPEntryDigest.nd rfl (Or.inl rfl)) (pgs_cons (pg_name (i := 4) scPEntryDigest.nd rfl (Or.inl rfl)) (pgs_cons (pg_name (i := 5) scPEntryDigest.nd rfl (Or.inl rfl)) pgs_nil)))))) <|
    pss_one (ps_ret (pe_call G_PDigest (hr.mono (by omega)) (by rfl) D_PDigest.m D_PDigest.F.kp D_PDigest.b .nil pass0 (pa_cons (pv 0) (pa_cons (pe_tup (pa_cons pe_str (pa_cons (pv 2) (pa_cons (pv 3) (pa_cons (pv 4) (pa_cons (pv 5) pa_nil)))))) pa_nil))))), body_ok _ (fun R => inferInstance) (by decide) (fun ws C Q R hw hC hP => ?_) h⟩)
  obtain rfl := List.eq_nil_of_length_eq_zero hC
  obtain ⟨b, m, e, rfl, hr, hf, q⟩ := hP
  obtain ⟨f1, f2, f3⟩ := node_fit hf
  unfold entD entDs
  walk_at "d"
  refine ⟨by decide, b, m, nodeD e, rfl, hr, f1, by omega, ?_⟩
  walk_at "d"
  exact q
end
abbrev sPEntryLink : Stmt := topS 9
theorem scPEntryLink : FnScope ["rule", "entry", "_", "row", "left", "right", "sums", "column"] ["rule", "entry"] (defScope sPEntryLink) := ⟨rfl, rfl, rfl, by decide +kernel, rfl, by decide +kernel, by decide +kernel⟩
def pPEntryLink : DSp := fun ws C Q _ => ∃ b m e, ws = [.val (ruleD b m), .val (entD e)] ∧ RuleOk b m ∧ e.Fit ∧ Q (.val (linkD (lnkOf b m e))) C
section
variable {P : Program} {w : World} {K : PySem.W.Frag} {mg : Str → Option Value} {base : Heap} {ct : Ct}
theorem ok_PEntryLink (D : Def K mg "entry_link" sPEntryLink ["rule", "entry"]) (D_PColumnOf : Def K mg "column_of" sPColumnOf ["row", "column"]) (D_PEntryDigest : Def K mg "entry_digest" sPEntryDigest ["rule", "entry"]) (m_range : mg "range" = none) (m_tuple : mg "tuple" = none) {tk_WIDEST_ROW : Tok} (c_WIDEST_ROW : mg "WIDEST_ROW" = some (.int 3 tk_WIDEST_ROW))
    (G_PColumnOf : FnOk P w K mg base CX0 1 D_PColumnOf.f D_PColumnOf.fd ["row", "column"] (spD ct 0 2 pPColumnOf)) (G_PEntryDigest : FnOk P w K mg base CX0 3 D_PEntryDigest.f D_PEntryDigest.fd ["rule", "entry"] (spD ct 0 2 pPEntryDigest)) : FnOk P w K mg base CX0 4 D.f D.fd ["rule", "entry"] (spD ct 0 2 pPEntryLink) := by
  refine D.F.ok scPEntryLink (fun vs H Q E h => spD_len h) (fun cdv A outer s H vs Q E hr h => ⟨_, (pss_cons (ps_asg (pv 1) (pg_tup (n := 4) (by rfl) (pgs_cons (pg_name (i := 2) scPEntryLink.nd rfl (Or.inl rfl)) (pgs_cons (pg_name (i := 3) scPEntryLink.nd rfl (Or.inr rfl)) (pgs_cons (pg_name (i := 4) scPEntryLink.nd rfl (Or.inr rfl)) (pgs_cons (pg_name (i := 5) scPEntryLink.nd rfl (Or.inr rfl)) pgs_nil)))))) <|
    pss_cons (ps_setLc (i := 6) (own := [("column", 7)]) (g := (gName 7)) (by rfl) scPEntryLink.nd rfl rfl (sw_true rfl rfl rfl (by decide +kernel)) (pi_range1 (by rfl) m_range (pa_cons (pe_glob (v := .int 3) rfl c_WIDEST_ROW ⟨_, rfl⟩) pa_nil))
        (blkOk_by (own := [("column", 7)]) (N := ["rule", "entry", "_", "row", "left", "right", "sums", "column"]) (sc := defScope sPEntryLink) (by decide +kernel))
        (fun _ _ _ _ _ => (pg_name (i := 7) scPEntryLink.nd rfl (Or.inl rfl))) (fun _ _ _ _ _ => pts_nil)
        (fun _ _ _ _ _ => (pe_op (op_addC (K := K) rfl) (pe_op (op_addC (K := K) rfl) (pe_call G_PColumnOf (hr.mono (by omega)) (by rfl) D_PColumnOf.m D_PColumnOf.F.kp D_PColumnOf.b .nil pass0 (pa_cons (pv 3) (pa_cons (pv 7) pa_nil))) (pe_ix (ix_seqC (K := K) rfl) (pe_ix (ix_seqC (K := K) rfl) (pv 4) pe_int (fun _ _ => rfl)) (pv 7) (fun _ _ => rfl))) (pe_ix (ix_seqC (K := K) rfl) (pe_ix (ix_seqC (K := K) rfl) (pv 5) pe_int (fun _ _ => rfl)) (pv 7) (fun _ _ => rfl))))) <|
    pss_one (ps_ret (pe_tup (pa_cons (pe_call G_PEntryDigest (hr.mono (by omega)) (by rfl) D_PEntryDigest.m D_PEntryDigest.F.kp D_PEntryDigest.b .nil pass0 (pa_cons (pv 0) (pa_cons (pv 1) pa_nil))) (pa_cons (pe_op op_addA (pe_op op_addA pe_int (pe_ix ix_seq (pv 4) pe_int (fun _ _ => rfl))) (pe_ix ix_seq (pv 5) pe_int (fun _ _ => rfl))) (pa_cons (pe_callTy call_tupA (by rfl) m_tuple (by decide +kernel) (pa_cons (pv 6) pa_nil)) pa_nil)))))), body_ok _ (fun R => inferInstance) (by decide) (fun ws C Q R hw hC hP => ?_) h⟩)
  obtain rfl := List.eq_nil_of_length_eq_zero hC
  obtain ⟨b, m, e, rfl, hr, hf, q⟩ := hP
  unfold entD entDs linkD sumsD
  walk_at "d"
  refine ⟨by decide, by decide, ?_⟩
  rw [show rangeD 0 (Int.toNat 3) = [.int 0, .int 1, .int 2] from rfl]
  simp only [dLcGo]
  walk_at "d"
  refine ⟨_, _, rfl, by decide, ?_⟩
  walk_at "d"
  refine ⟨by decide, _, _, rfl, by decide, ?_⟩
  walk_at "d"
  refine ⟨by decide, _, _, rfl, by decide, ?_⟩
  walk_at "d"
  refine ⟨by decide, b, m, e, rfl, hr, hf, ?_⟩
  walk_at "d"
  exact ⟨by decide, q⟩
end
abbrev sPEmptyLink : Stmt := topS 10
theorem scPEmptyLink : FnScope ["rule"] ["rule"] (defScope sPEmptyLink) := ⟨rfl, rfl, rfl, by decide +kernel, rfl, by decide +kernel, by decide +kernel⟩
def pPEmptyLink : DSp := fun ws C Q _ => ∃ b m, ws = [.val (ruleD b m)] ∧ RuleOk b m ∧ Q (.val (linkD (lnk0 b m))) C
section
variable {P : Program} {w : World} {K : PySem.W.Frag} {mg : Str → Option Value} {base : Heap} {ct : Ct}
theorem ok_PEmptyLink (D : Def K mg "empty_link" sPEmptyLink ["rule"]) (D_PDigest : Def K mg "digest" sPDigest ["rule", "value"])
    (G_PDigest : FnOk P w K mg base CX0 2 D_PDigest.f D_PDigest.fd ["rule", "value"] (spD ct 0 2 pPDigest)) : FnOk P w K mg base CX0 3 D.f D.fd ["rule"] (spD ct 0 1 pPEmptyLink) := by
  refine D.F.ok scPEmptyLink (fun vs H Q E h => spD_len h) (fun cdv A outer s H vs Q E hr h => ⟨_, (pss_one (ps_ret (pe_tup (pa_cons (pe_call G_PDigest (hr.mono (by omega)) (by rfl) D_PDigest.m D_PDigest.F.kp D_PDigest.b .nil pass0 (pa_cons (pv 0) (pa_cons (pe_tup (pa_cons pe_str pa_nil)) pa_nil))) (pa_cons pe_int (pa_cons (pe_tup (pa_cons pe_int (pa_cons pe_int (pa_cons pe_int pa_nil)))) pa_nil)))))), body_ok _ (fun R => inferInstance) (by decide) (fun ws C Q R hw hC hP => ?_) h⟩)
  obtain rfl := List.eq_nil_of_length_eq_zero hC
  obtain ⟨b, m, rfl, hr, q⟩ := hP
  walk_at "d"
  refine ⟨by decide, b, m, _, rfl, hr, empty_fit.1, by have := empty_fit.2.2; omega, ?_⟩
  walk_at "d"
  exact ⟨by decide, by decide, q⟩
end

end RR

namespace RR
open PySem PySem.Spec PyProof.Rows L2
abbrev sPPartInit : Stmt := inClass (topS 14) 0
theorem scPPartInit : FnScope ["self", "link", "root", "is_open"] ["self", "link", "root", "is_open"] (defScope sPPartInit) := ⟨rfl, rfl, rfl, by decide +kernel, rfl, by decide +kernel, by decide +kernel⟩
section
variable {P : Program} {w : World} {K : PySem.W.Frag} {mg : Str → Option Value} {base : Heap} {ct : Ct}
theorem ok_PartI {C : Addr} (I : Ini K mg "Part" C "Part.__init__" sPPartInit ["self", "link", "root", "is_open"]) : FnOk P w K mg base CX0 1 I.f I.fd ["self", "link", "root", "is_open"] (spInit K (clsF 0)) := by
  refine I.F.ok scPPartInit (fun vs H Q E h => ?_) (fun cdv A outer s H vs Q E hr h => ?_)
  · obtain ⟨a, C, dx, us, rfl, hl, _⟩ := h
    exact congrArg (· + 1) hl
  · obtain ⟨a, C, dx, us, rfl, hl, ha, cls, no, q⟩ := h
    match us, hl with
    | [x, y, z], _ =>
      refine ⟨_, pss_cons (ps_fld (pv 0) (pv 1) rfl) (pss_cons (ps_fld (pv 0) (pv 2) rfl) (pss_one (ps_fld (pv 0) (pv 3) rfl))), ?_⟩
      refine ⟨x, rfl, _, rfl, a, C, dx, _, rfl, ha, cls, no "link" (by decide), by show 0 < 1000; decide, ?_⟩
      refine ⟨y, rfl, _, rfl, a, C, dx, _, rfl, upd_same, cls, no "root" (by decide), by show 1 < 1000; decide, ?_⟩
      refine ⟨z, rfl, _, rfl, a, C, dx, _, rfl, upd_same, cls, no "is_open" (by decide), by show 2 < 1000; decide, ?_⟩
      rw [upd_upd, upd_upd]
      exact q
end
/-! ### parts, as the program keeps them -/
inductive PT where
  | hid (l : Lnk) (o : Bool)
  | nod (k : Str) (r : List Int) (x y : PT) (o : Bool)
def PT.lnk (b m : Int) : PT → Lnk
  | .hid l _ => l
  | .nod k r x y _ => lnkOf b m ⟨k, r, x.lnk b m, y.lnk b m⟩
def objD (c : Int) (ds : List PyData) : PyData := .dict [(.int c, .list ds)]
def partD (b m : Int) : PT → PyData
  | .hid l o => .dict [(.int 0, .list [linkD l, .none, .bool o])]
  | .nod k r x y o => .dict [(.int 0, .list [linkD (lnkOf b m ⟨k, r, x.lnk b m, y.lnk b m⟩), .tuple [.str k, rowD r, partD b m x, partD b m y], .bool o])]
def rootD (b m : Int) : PT → PyData
  | .hid _ _ => .none
  | .nod k r x y _ => .tuple [.str k, rowD r, partD b m x, partD b m y]
def PT.op : PT → Bool
  | .hid _ o => o
  | .nod _ _ _ _ o => o
theorem partD_eq (b m : Int) (t : PT) : partD b m t = .dict [(.int 0, .list [linkD (t.lnk b m), rootD b m t, .bool t.op])] := by
  cases t <;> rfl
def PT.Fit : PT → Prop
  | .hid _ _ => True
  | .nod k r x y _ => k.length ≤ 1000 ∧ r.length ≤ 1000 ∧ x.Fit ∧ y.Fit
/-- gaps: an entry with one part that is known and one that is to come -/
inductive Gap where
  | lo (k : Str) (r : List Int) (x : PT)
  | hi (k : Str) (r : List Int) (y : PT)
def gapD (b m : Int) : Gap → PyData
  | .lo k r x => .tuple [.str k, rowD r, partD b m x, .none]
  | .hi k r y => .tuple [.str k, rowD r, .none, partD b m y]
def Gap.put (o : Bool) (t : PT) : Gap → PT
  | .lo k r x => .nod k r x t o
  | .hi k r y => .nod k r t y o
def Gap.Fit : Gap → Prop
  | .lo k r x => k.length ≤ 1000 ∧ r.length ≤ 1000
  | .hi k r y => k.length ≤ 1000 ∧ r.length ≤ 1000
def compl (o : Bool) (gs : List Gap) (t : PT) : PT := gs.foldr (fun g t => g.put o t) t

end RR

namespace RR
open PySem PySem.Spec PyProof.Rows L2
set_option hygiene false in
local macro_rules | `(tactic| walk_at "d") => `(tactic| simp -implicitDefEqProofs only [dSeqS, dNext, dDrop, dRet, dRetN, dIfS, dAsg, dAsgC, dgName, dgTup.eq_1, dgTup.eq_2, dgCons.eq_1, dgCons.eq_2, dgNil, dgSub, subK.eq_1, subK.eq_2, dVar, dVarF, dC, dOp, fII.eq_1, fII.eq_2, fIIc.eq_1, fIIc.eq_2, fAdd.eq_1, fAdd.eq_2, fAdd.eq_3, fAdd.eq_4, fAdd.eq_5, fAdd.eq_6, fCmp.eq_1, fCmp.eq_2, fCmp.eq_3, fEqD, fIsN.eq_1, fIsN.eq_2, isNon.eq_1, isNon.eq_2, rdV.eq_1, rdV.eq_2, rdV.eq_3, rdL.eq_1, rdL.eq_2, rdL.eq_3, dB, dAnd, dOr, dNot, dTru, dIf, dAndV, dOrV, dNotV, dChain, dNil, dCons, vals.eq_1, vals.eq_2, vals.eq_3, dTup, dLst, fIx.eq_1, fIx.eq_2, fIx.eq_3, fIx.eq_4, fIx.eq_5, dSl, dPart, dNoPart, dCB, fLen.eq_1, fLen.eq_2, fLen.eq_3, fLen.eq_4, fLen.eq_5, fInt.eq_1, fInt.eq_2, fInt.eq_3, fList.eq_1, fList.eq_2, rdS.eq_1, rdS.eq_2, rdS.eq_3, rdS.eq_4, fTup.eq_1, fTup.eq_2, fOrd.eq_1, fOrd.eq_2, fIsi.eq_1, fIsi.eq_2, tyD.eq_1, tyD.eq_2, tyD.eq_3, tyD.eq_4, tyD.eq_5, tyD.eq_6, tyD.eq_7, kb1, kb2, kb3, kb4, kb5, kb6, kb7, kb8, kb9, kb10, kb11, kb12, kb13, kb14, kb15, kb16, kb17, kb18, kb19, kb20, kb21, kb22, kb23, kb24, dSeq, seqK.eq_1, seqK.eq_2, seqK.eq_3, seqK.eq_4, seqK.eq_5, dRng1, dRng2, dRev, lstK.eq_1, lstK.eq_2, lstK.eq_3, dEnum, dZip, dBM, dBM0, fAppend.eq_1, fAppend.eq_2, fExtend.eq_1, fExtend.eq_2, fExtA.eq_1, fExtA.eq_2, fPop.eq_1, fPop.eq_2, dRevT, dRevL, f2I.eq_1, f2I.eq_2, bK.eq_1, bK.eq_2, truK.eq_1, truK.eq_2, truK.eq_3, truK.eq_4, truK.eq_5, truK.eq_6, truK.eq_7, truL.eq_1, truL.eq_2, dispK.eq_1, dispK.eq_2, ixK.eq_1, ixK.eq_2, ixS.eq_1, ixS.eq_2, ixL.eq_1, ixL.eq_2, partK.eq_1, partK.eq_2, slK.eq_1, slK.eq_2, slK.eq_3, slK.eq_4, slK.eq_5, slL.eq_1, slL.eq_2, lenLK.eq_1, lenLK.eq_2, mkL.eq_1, mkL.eq_2, isiB.eq_1, isiB.eq_2, isiK.eq_1, isiK.eq_2, frzK.eq_1, frzK.eq_2, frzK.eq_3, rng1K.eq_1, rng1K.eq_2, rng2K.eq_1, rng2K.eq_2, lst1K.eq_1, lst1K.eq_2, zipK.eq_1, zipK.eq_2, sub1K.eq_1, sub1K.eq_2, sub2K.eq_1, sub2K.eq_2, appK.eq_1, appK.eq_2, extK.eq_1, extK.eq_2, pop2K.eq_1, pop2K.eq_2, popK.eq_1, popK.eq_2, lstFK.eq_1, lstFK.eq_2, lisFK.eq_1, lisFK.eq_2, lisF2K.eq_1, lisF2K.eq_2, accK.eq_1, accK.eq_2, dVal, revTK.eq_1, revTK.eq_2, callK.eq_1, callK.eq_2, eqK.eq_1, eqK.eq_2, catK.eq_1, catK.eq_2, cellL.eq_1, cellL.eq_2, cellL.eq_3, okDi, okDb, okDn, eqvi, eqvs, dLstF, dListF, dLc, dYes, wipeE.eq_1, wipeE.eq_2, dFor, fin, finD, wOk.eq_1, wOk.eq_2, cellOk.eq_1, cellOk.eq_2, E0D, dCallP, dCallW, putW, firstRef.eq_1, firstRef.eq_2, firstRef.eq_3, shW.eq_1, shW.eq_2, unW.eq_1, unW.eq_2, inW.eq_1, inW.eq_2, shC.eq_1, shC.eq_2, unC.eq_1, unC.eq_2, inC.eq_1, inC.eq_2, dBreak, at0, at1, at2, at3, atI_last, List.getElem?_cons_zero, List.getElem?_cons_succ, List.getElem?_nil, List.set_cons_zero, List.set_cons_succ, List.map_cons, List.map_nil, List.length_cons, List.length_nil, List.replicate_succ, List.replicate_zero, List.cons_append, List.nil_append, List.append_nil, Option.map_some, Option.map_none, Option.isSome_some, if_true, if_false, ite_true, ite_false, Bool.and_true, Bool.true_and, Bool.and_false, Bool.false_and, Bool.or_true, Bool.or_false, Bool.true_or, Bool.false_or, Bool.not_true, Bool.not_false, true_and, and_true, List.take_succ_cons, List.take_zero, List.take_nil, List.drop_zero, List.drop_succ_cons, List.drop_nil, List.all_cons, List.all_nil, List.any_cons, List.any_nil, List.contains_cons, List.elem_nil, Nat.zero_add, Nat.add_zero, Nat.le_refl, Nat.reduceAdd, Nat.reduceSub, Nat.reduceLT, Nat.reduceLeDiff, Nat.sub_self, Nat.sub_zero, Nat.zero_le, decide_true, decide_false, beq_self_eq_true, Bool.false_eq_true, reduceCtorEq, List.isEmpty_cons, List.isEmpty_nil, List.dropLast_concat, dUn, unK.eq_1, unK.eq_2, dFld, fldK.eq_1, fldK.eq_2, fldK.eq_3, fldC.eq_1, fldC.eq_2, fldW.eq_1, fldW.eq_2, dMake, makK.eq_1, makK.eq_2, fld00, fld01, fld02, lenF0, lenF1, lenF2, get_end, set_end, id])
set_option hygiene false in
local macro_rules | `(tactic| walk_at "s") => `(tactic| simp -implicitDefEqProofs only [dNext, dDrop, dRet, dRetN, dIfS, dAsg, dAsgC, dgName, dgTup.eq_1, dgTup.eq_2, dgCons.eq_1, dgCons.eq_2, dgNil, dgSub, subK.eq_1, subK.eq_2, dVar, dVarF, dC, dOp, fII.eq_1, fII.eq_2, fIIc.eq_1, fIIc.eq_2, fAdd.eq_1, fAdd.eq_2, fAdd.eq_3, fAdd.eq_4, fAdd.eq_5, fAdd.eq_6, fCmp.eq_1, fCmp.eq_2, fCmp.eq_3, fEqD, fIsN.eq_1, fIsN.eq_2, isNon.eq_1, isNon.eq_2, rdV.eq_1, rdV.eq_2, rdV.eq_3, rdL.eq_1, rdL.eq_2, rdL.eq_3, dB, dAnd, dOr, dNot, dTru, dIf, dAndV, dOrV, dNotV, dChain, dNil, dCons, vals.eq_1, vals.eq_2, vals.eq_3, dTup, dLst, fIx.eq_1, fIx.eq_2, fIx.eq_3, fIx.eq_4, fIx.eq_5, dSl, dPart, dNoPart, dCB, fLen.eq_1, fLen.eq_2, fLen.eq_3, fLen.eq_4, fLen.eq_5, fInt.eq_1, fInt.eq_2, fInt.eq_3, fList.eq_1, fList.eq_2, rdS.eq_1, rdS.eq_2, rdS.eq_3, rdS.eq_4, fTup.eq_1, fTup.eq_2, fOrd.eq_1, fOrd.eq_2, fIsi.eq_1, fIsi.eq_2, tyD.eq_1, tyD.eq_2, tyD.eq_3, tyD.eq_4, tyD.eq_5, tyD.eq_6, tyD.eq_7, kb1, kb2, kb3, kb4, kb5, kb6, kb7, kb8, kb9, kb10, kb11, kb12, kb13, kb14, kb15, kb16, kb17, kb18, kb19, kb20, kb21, kb22, kb23, kb24, dSeq, seqK.eq_1, seqK.eq_2, seqK.eq_3, seqK.eq_4, seqK.eq_5, dRng1, dRng2, dRev, lstK.eq_1, lstK.eq_2, lstK.eq_3, dEnum, dZip, dBM, dBM0, fAppend.eq_1, fAppend.eq_2, fExtend.eq_1, fExtend.eq_2, fExtA.eq_1, fExtA.eq_2, fPop.eq_1, fPop.eq_2, dRevT, dRevL, f2I.eq_1, f2I.eq_2, bK.eq_1, bK.eq_2, truK.eq_1, truK.eq_2, truK.eq_3, truK.eq_4, truK.eq_5, truK.eq_6, truK.eq_7, truL.eq_1, truL.eq_2, dispK.eq_1, dispK.eq_2, ixK.eq_1, ixK.eq_2, ixS.eq_1, ixS.eq_2, ixL.eq_1, ixL.eq_2, partK.eq_1, partK.eq_2, slK.eq_1, slK.eq_2, slK.eq_3, slK.eq_4, slK.eq_5, slL.eq_1, slL.eq_2, lenLK.eq_1, lenLK.eq_2, mkL.eq_1, mkL.eq_2, isiB.eq_1, isiB.eq_2, isiK.eq_1, isiK.eq_2, frzK.eq_1, frzK.eq_2, frzK.eq_3, rng1K.eq_1, rng1K.eq_2, rng2K.eq_1, rng2K.eq_2, lst1K.eq_1, lst1K.eq_2, zipK.eq_1, zipK.eq_2, sub1K.eq_1, sub1K.eq_2, sub2K.eq_1, sub2K.eq_2, appK.eq_1, appK.eq_2, extK.eq_1, extK.eq_2, pop2K.eq_1, pop2K.eq_2, popK.eq_1, popK.eq_2, lstFK.eq_1, lstFK.eq_2, lisFK.eq_1, lisFK.eq_2, lisF2K.eq_1, lisF2K.eq_2, accK.eq_1, accK.eq_2, dVal, revTK.eq_1, revTK.eq_2, callK.eq_1, callK.eq_2, eqK.eq_1, eqK.eq_2, catK.eq_1, catK.eq_2, cellL.eq_1, cellL.eq_2, cellL.eq_3, okDi, okDb, okDn, eqvi, eqvs, dLstF, dListF, dLc, dYes, wipeE.eq_1, wipeE.eq_2, dFor, fin, finD, wOk.eq_1, wOk.eq_2, cellOk.eq_1, cellOk.eq_2, E0D, dCallP, dCallW, putW, firstRef.eq_1, firstRef.eq_2, firstRef.eq_3, shW.eq_1, shW.eq_2, unW.eq_1, unW.eq_2, inW.eq_1, inW.eq_2, shC.eq_1, shC.eq_2, unC.eq_1, unC.eq_2, inC.eq_1, inC.eq_2, dBreak, at0, at1, at2, at3, atI_last, List.getElem?_cons_zero, List.getElem?_cons_succ, List.getElem?_nil, List.set_cons_zero, List.set_cons_succ, List.map_cons, List.map_nil, List.length_cons, List.length_nil, List.replicate_succ, List.replicate_zero, List.cons_append, List.nil_append, List.append_nil, Option.map_some, Option.map_none, Option.isSome_some, if_true, if_false, ite_true, ite_false, Bool.and_true, Bool.true_and, Bool.and_false, Bool.false_and, Bool.or_true, Bool.or_false, Bool.true_or, Bool.false_or, Bool.not_true, Bool.not_false, true_and, and_true, List.take_succ_cons, List.take_zero, List.take_nil, List.drop_zero, List.drop_succ_cons, List.drop_nil, List.all_cons, List.all_nil, List.any_cons, List.any_nil, List.contains_cons, List.elem_nil, Nat.zero_add, Nat.add_zero, Nat.le_refl, Nat.reduceAdd, Nat.reduceSub, Nat.reduceLT, Nat.reduceLeDiff, Nat.sub_self, Nat.sub_zero, Nat.zero_le, decide_true, decide_false, beq_self_eq_true, Bool.false_eq_true, reduceCtorEq, List.isEmpty_cons, List.isEmpty_nil, List.dropLast_concat, dUn, unK.eq_1, unK.eq_2, dFld, fldK.eq_1, fldK.eq_2, fldK.eq_3, fldC.eq_1, fldC.eq_2, fldW.eq_1, fldW.eq_2, dMake, makK.eq_1, makK.eq_2, fld00, fld01, fld02, lenF0, lenF1, lenF2, get_end, set_end, id])
abbrev sPLinkedPart : Stmt := topS 15
theorem scPLinkedPart : FnScope ["link"] ["link"] (defScope sPLinkedPart) := ⟨rfl, rfl, rfl, by decide +kernel, rfl, by decide +kernel, by decide +kernel⟩
def pPLinkedPart : DSp := fun ws C Q _ => ∃ l b m, ws = [.val (linkD l)] ∧ Q (.val (partD b m (.hid l false))) C
section
variable {P : Program} {w : World} {K : PySem.W.Frag} {mg : Str → Option Value} {base : Heap} {ct : Ct}
theorem ok_PLinkedPart (D : Def K mg "linked_part" sPLinkedPart ["link"]) [CtOk K ct] {C_Part : Addr} [ClA ct C_Part 0] (I_Part : Ini K mg "Part" C_Part "Part.__init__" sPPartInit ["self", "link", "root", "is_open"])
    (G_PartI : FnOk P w K mg base CX0 1 I_Part.f I_Part.fd ["self", "link", "root", "is_open"] (spInit K (clsF 0))) : FnOk P w K mg base CX0 3 D.f D.fd ["link"] (spD ct 0 1 pPLinkedPart) := by
  refine D.F.ok scPLinkedPart (fun vs H Q E h => spD_len h) (fun cdv A outer s H vs Q E hr h => ⟨_, (pss_one (ps_ret (pe_make I_Part.M G_PartI (hr.mono (by omega)) (by rfl) I_Part.g I_Part.b .nil pass0 (pa_cons (pv 0) (pa_cons pe_non (pa_cons pe_bl pa_nil)))))), body_ok _ (fun R => inferInstance) (by decide) (fun ws C Q R hw hC hP => ?_) h⟩)
  obtain rfl := List.eq_nil_of_length_eq_zero hC
  obtain ⟨l, b, m, rfl, q⟩ := hP
  walk_at "d"
  exact q
end
abbrev sPEmptyPart : Stmt := topS 16
theorem scPEmptyPart : FnScope ["rule"] ["rule"] (defScope sPEmptyPart) := ⟨rfl, rfl, rfl, by decide +kernel, rfl, by decide +kernel, by decide +kernel⟩
def pPEmptyPart : DSp := fun ws C Q _ => ∃ b m, ws = [.val (ruleD b m)] ∧ RuleOk b m ∧ Q (.val (partD b m (.hid (lnk0 b m) false))) C
section
variable {P : Program} {w : World} {K : PySem.W.Frag} {mg : Str → Option Value} {base : Heap} {ct : Ct}
theorem ok_PEmptyPart (D : Def K mg "empty_part" sPEmptyPart ["rule"]) (D_PLinkedPart : Def K mg "linked_part" sPLinkedPart ["link"]) (D_PEmptyLink : Def K mg "empty_link" sPEmptyLink ["rule"])
    (G_PLinkedPart : FnOk P w K mg base CX0 3 D_PLinkedPart.f D_PLinkedPart.fd ["link"] (spD ct 0 1 pPLinkedPart)) (G_PEmptyLink : FnOk P w K mg base CX0 3 D_PEmptyLink.f D_PEmptyLink.fd ["rule"] (spD ct 0 1 pPEmptyLink)) : FnOk P w K mg base CX0 4 D.f D.fd ["rule"] (spD ct 0 1 pPEmptyPart) := by
  refine D.F.ok scPEmptyPart (fun vs H Q E h => spD_len h) (fun cdv A outer s H vs Q E hr h => ⟨_, (pss_one (ps_ret (pe_call G_PLinkedPart (hr.mono (by omega)) (by rfl) D_PLinkedPart.m D_PLinkedPart.F.kp D_PLinkedPart.b .nil pass0 (pa_cons (pe_call G_PEmptyLink (hr.mono (by omega)) (by rfl) D_PEmptyLink.m D_PEmptyLink.F.kp D_PEmptyLink.b .nil pass0 (pa_cons (pv 0) pa_nil)) pa_nil)))), body_ok _ (fun R => inferInstance) (by decide) (fun ws C Q R hw hC hP => ?_) h⟩)
  obtain rfl := List.eq_nil_of_length_eq_zero hC
  obtain ⟨b, m, rfl, hr, q⟩ := hP
  walk_at "d"
  refine ⟨b, m, rfl, hr, ?_⟩
  walk_at "d"
  refine ⟨lnk0 b m, b, m, rfl, ?_⟩
  walk_at "d"
  exact q
end
abbrev sPRootedPart : Stmt := topS 17
theorem scPRootedPart : FnScope ["rule", "root", "is_open", "key", "row", "left", "right"] ["rule", "root", "is_open"] (defScope sPRootedPart) := ⟨rfl, rfl, rfl, by decide +kernel, rfl, by decide +kernel, by decide +kernel⟩
def pPRootedPart : DSp := fun ws C Q _ => ∃ b m k r x y o, ws = [.val (ruleD b m), .val (.tuple [.str k, rowD r, partD b m x, partD b m y]), .val (.bool o)] ∧ RuleOk b m ∧ k.length ≤ 1000 ∧ r.length ≤ 1000 ∧ Q (.val (partD b m (.nod k r x y o))) C
section
variable {P : Program} {w : World} {K : PySem.W.Frag} {mg : Str → Option Value} {base : Heap} {ct : Ct}
theorem ok_PRootedPart (D : Def K mg "rooted_part" sPRootedPart ["rule", "root", "is_open"]) [CtOk K ct] {C_Part : Addr} [ClA ct C_Part 0] (D_PEntryLink : Def K mg "entry_link" sPEntryLink ["rule", "entry"]) (I_Part : Ini K mg "Part" C_Part "Part.__init__" sPPartInit ["self", "link", "root", "is_open"])
    (G_PEntryLink : FnOk P w K mg base CX0 4 D_PEntryLink.f D_PEntryLink.fd ["rule", "entry"] (spD ct 0 2 pPEntryLink)) (G_PartI : FnOk P w K mg base CX0 1 I_Part.f I_Part.fd ["self", "link", "root", "is_open"] (spInit K (clsF 0))) : FnOk P w K mg base CX0 5 D.f D.fd ["rule", "root", "is_open"] (spD ct 0 3 pPRootedPart) := by
  refine D.F.ok scPRootedPart (fun vs H Q E h => spD_len h) (fun cdv A outer s H vs Q E hr h => ⟨_, (pss_cons (ps_asg (pv 1) (pg_tup (n := 4) (by rfl) (pgs_cons (pg_name (i := 3) scPRootedPart.nd rfl (Or.inl rfl)) (pgs_cons (pg_name (i := 4) scPRootedPart.nd rfl (Or.inl rfl)) (pgs_cons (pg_name (i := 5) scPRootedPart.nd rfl (Or.inl rfl)) (pgs_cons (pg_name (i := 6) scPRootedPart.nd rfl (Or.inl rfl)) pgs_nil)))))) <|
    pss_one (ps_ret (pe_make I_Part.M G_PartI (hr.mono (by omega)) (by rfl) I_Part.g I_Part.b .nil pass0 (pa_cons (pe_call G_PEntryLink (hr.mono (by omega)) (by rfl) D_PEntryLink.m D_PEntryLink.F.kp D_PEntryLink.b .nil pass0 (pa_cons (pv 0) (pa_cons (pe_tup (pa_cons (pv 3) (pa_cons (pv 4) (pa_cons (pe_fldC (K := K) rfl (pv 5) rfl) (pa_cons (pe_fldC (K := K) rfl (pv 6) rfl) pa_nil))))) pa_nil))) (pa_cons (pv 1) (pa_cons (pv 2) pa_nil)))))), body_ok _ (fun R => inferInstance) (by decide) (fun ws C Q R hw hC hP => ?_) h⟩)
  obtain rfl := List.eq_nil_of_length_eq_zero hC
  obtain ⟨b, m, k, r, x, y, o, rfl, hr, h1, h2, q⟩ := hP
  rw [partD_eq b m x, partD_eq b m y]
  walk_at "d"
  refine ⟨by decide, b, m, ⟨k, r, x.lnk b m, y.lnk b m⟩, rfl, hr, ⟨h1, h2⟩, ?_⟩
  walk_at "d"
  rw [← partD_eq b m x, ← partD_eq b m y]
  exact q
end
abbrev sPCompleted : Stmt := topS 18
theorem scPCompleted : FnScope ["rule", "gaps", "part", "is_open", "key", "row", "left", "right", "root"] ["rule", "gaps", "part", "is_open"] (defScope sPCompleted) := ⟨rfl, rfl, rfl, by decide +kernel, rfl, by decide +kernel, by decide +kernel⟩
def pPCompleted : DSp := fun ws C Q _ => ∃ b m gs t o, ws = [.val (ruleD b m), .val (.list (gs.map (gapD b m))), .val (partD b m t), .val (.bool o)] ∧ RuleOk b m ∧ (∀ g ∈ gs, g.Fit) ∧ Q (.val (partD b m (compl o gs t))) C
section
variable {P : Program} {w : World} {K : PySem.W.Frag} {mg : Str → Option Value} {base : Heap} {ct : Ct}
theorem ok_PCompleted (D : Def K mg "completed" sPCompleted ["rule", "gaps", "part", "is_open"]) (D_PRootedPart : Def K mg "rooted_part" sPRootedPart ["rule", "root", "is_open"]) (m_reversed : mg "reversed" = none)
    (G_PRootedPart : FnOk P w K mg base CX0 5 D_PRootedPart.f D_PRootedPart.fd ["rule", "root", "is_open"] (spD ct 0 3 pPRootedPart)) : FnOk P w K mg base CX0 6 D.f D.fd ["rule", "gaps", "part", "is_open"] (spD ct 0 4 pPCompleted) := by
  refine D.F.ok scPCompleted (fun vs H Q E h => spD_len h) (fun cdv A outer s H vs Q E hr h => ⟨_, (pss_cons (ps_for PassesOwn.never rfl (pi_reversed (by rfl) m_reversed (pa_cons (pv 1) pa_nil)) (pg_tup (n := 4) (by rfl) (pgs_cons (pg_name (i := 4) scPCompleted.nd rfl (Or.inl rfl)) (pgs_cons (pg_name (i := 5) scPCompleted.nd rfl (Or.inl rfl)) (pgs_cons (pg_name (i := 6) scPCompleted.nd rfl (Or.inl rfl)) (pgs_cons (pg_name (i := 7) scPCompleted.nd rfl (Or.inl rfl)) pgs_nil)))))
      (pss_cons (ps_set (i := 8) scPCompleted.nd rfl (.inl rfl) (pe_ifExp (pt_cmpR op_isNA (pv 6) pe_non (nomark _)) (pe_tup (pa_cons (pv 4) (pa_cons (pv 5) (pa_cons (pv 2) (pa_cons (pv 7) pa_nil))))) (pe_tup (pa_cons (pv 4) (pa_cons (pv 5) (pa_cons (pv 6) (pa_cons (pv 2) pa_nil))))))) <|
        pss_one (ps_set (i := 2) scPCompleted.nd rfl (.inl rfl) (pe_call G_PRootedPart (hr.mono (by omega)) (by rfl) D_PRootedPart.m D_PRootedPart.F.kp D_PRootedPart.b .nil pass0 (pa_cons (pv 0) (pa_cons (pv 8) (pa_cons (pv 3) pa_nil))))))) <|
    pss_one (ps_ret (pv 2))), body_ok _ (fun R => inferInstance) (by decide) (fun ws C Q R hw hC hP => ?_) h⟩)
  obtain rfl := List.eq_nil_of_length_eq_zero hC
  obtain ⟨b, m, gs, t, o, rfl, hr, hg, q⟩ := hP
  walk_at "d"
  rw [← List.map_reverse]
  have hf : ∀ g ∈ gs.reverse, g.Fit := fun g h => hg g (List.mem_reverse.mp h)
  have he : compl o gs t = gs.reverse.foldl (fun t g => g.put o t) t := List.foldr_eq_foldl_reverse ..
  rw [he] at q
  generalize gs.reverse = rs at hf q
  refine dForGo_map (gapD b m) rs (fun pre E C => C = [] ∧ ∃ y4 y5 y6 y7 y8 : Option W, E = [some (.val (ruleD b m)), some (.val (.list (gs.map (gapD b m)))), some (.val (partD b m (pre.foldl (fun t g => g.put o t) t))), some (.val (.bool o)), y4, y5, y6, y7, y8]) ?_ ?_ ⟨rfl, _, _, _, _, _, rfl⟩
  · rintro pre g post E C e ⟨rfl, y4, y5, y6, y7, y8, rfl⟩ N hN
    have hgf := hf g (by rw [e]; exact List.mem_append_right _ List.mem_cons_self)
    have hN' := fun y4 y5 y6 y7 y8 => hN _ _ ⟨rfl, y4, y5, y6, y7, y8, rfl⟩
    rw [List.foldl_append] at hN'
    generalize pre.foldl (fun t g => g.put o t) t = u at hN'
    cases g with
    | lo k r x =>
      simp only [gapD]
      rw [partD_eq b m x]
      walk_at "d"
      refine ⟨by decide, b, m, k, r, x, u, o, by rw [← partD_eq b m x], hr, hgf.1, hgf.2, ?_⟩
      walk_at "d"
      exact hN' _ _ _ _ _
    | hi k r y =>
      simp only [gapD]
      walk_at "d"
      refine ⟨by decide, b, m, k, r, u, y, o, rfl, hr, hgf.1, hgf.2, ?_⟩
      walk_at "d"
      exact hN' _ _ _ _ _
  · rintro E C ⟨rfl, y4, y5, y6, y7, y8, rfl⟩
    walk_at "d"
    exact q
end

end RR

namespace RR
open PySem PySem.Spec PyProof.Rows L2
def toPT (b m : Int) : Tree → PT
  | .nil => .hid (lnk0 b m) false
  | .node k r x y => .nod k r (toPT b m x) (toPT b m y) false
theorem toPT_lnk (b m : Int) : ∀ t : Tree, (toPT b m t).lnk b m = t.lnk b m
  | .nil => rfl
  | .node k r x y => by
    show lnkOf b m ⟨k, r, (toPT b m x).lnk b m, (toPT b m y).lnk b m⟩ = lnkOf b m ⟨k, r, x.lnk b m, y.lnk b m⟩
    rw [toPT_lnk b m x, toPT_lnk b m y]
/-- a row put behind all others -/
def ins (p : Str × List Int) : Tree → Tree
  | .nil => .node p.1 p.2 .nil .nil
  | .node k r x y => if rk k < rk p.1 then .node p.1 p.2 (.node k r x y) .nil else .node k r x (ins p y)
theorem keyAt_app {tb ys : Tab} {i : Nat} (h : i < tb.length) : keyAt (tb ++ ys) i = keyAt tb i := by
  unfold keyAt
  rw [List.map_append, List.getD_eq_getElem?_getD, List.getD_eq_getElem?_getD, List.getElem?_append_left (by rw [List.length_map]; exact h)]
theorem topI_app {tb ys : Tab} : ∀ n, n ≤ tb.length → topI (tb ++ ys) n = topI tb n
  | 0, _ => rfl
  | n + 1, h => by
    have ih := topI_app (tb := tb) (ys := ys) n (by omega)
    have ht : topI tb n < tb.length := by
      cases n with
      | zero => exact h
      | succ n => have := topI_lt tb n; omega
    show (if rk (keyAt (tb ++ ys) (topI (tb ++ ys) n)) < rk (keyAt (tb ++ ys) n) then n else topI (tb ++ ys) n) = if rk (keyAt tb (topI tb n)) < rk (keyAt tb n) then n else topI tb n
    rw [ih, keyAt_app ht, keyAt_app (by omega)]
theorem treeOf_snoc : ∀ (n : Nat) (tb : Tab) (p : Str × List Int), tb.length ≤ n → treeOf (tb ++ [p]) = ins p (treeOf tb)
  | n, tb, p, hn => by
    have hlast : (tb ++ [p])[tb.length]? = some p := get_end tb p
    have hk : keyAt (tb ++ [p]) tb.length = p.1 := key_at hlast
    have hlen : (tb ++ [p]).length = tb.length + 1 := by rw [List.length_append]; rfl
    have ht : topI (tb ++ [p]) (tb ++ [p]).length = if rk (keyAt (tb ++ [p]) (topI tb tb.length)) < rk p.1 then tb.length else topI tb tb.length := by
      rw [hlen]
      show (if rk (keyAt (tb ++ [p]) (topI (tb ++ [p]) tb.length)) < rk (keyAt (tb ++ [p]) tb.length) then tb.length else topI (tb ++ [p]) tb.length) = _
      rw [topI_app tb.length (Nat.le_refl _), hk]
    by_cases hne : tb = []
    · subst hne
      have e0 : topI [p] [p].length = 0 := by
        show (if _ then 0 else 0) = 0
        split <;> rfl
      show treeOf [p] = _
      have e1 : [p][topI [p] [p].length]? = some p := by rw [e0]; rfl
      rw [treeOf_node e1, e0]
      rfl
    · have hi := topI_in hne
      obtain ⟨q, hq, _⟩ := get_of hi
      have hkq : keyAt (tb ++ [p]) (topI tb tb.length) = q.1 := by
        rw [keyAt_app hi]
        exact key_at hq
      rw [hkq] at ht
      by_cases hlt : rk q.1 < rk p.1
      · rw [if_pos hlt] at ht
        have e1 : (tb ++ [p])[topI (tb ++ [p]) (tb ++ [p]).length]? = some p := by rw [ht]; exact hlast
        rw [treeOf_node e1, ht, List.take_append_of_le_length (Nat.le_refl _), List.take_length, List.drop_eq_nil_of_le (by rw [hlen]; exact Nat.le_refl _), treeOf_node hq]
        show Tree.node _ _ _ _ = if rk q.1 < rk p.1 then _ else _
        rw [if_pos hlt]
        rfl
      · rw [if_neg hlt] at ht
        have e1 : (tb ++ [p])[topI (tb ++ [p]) (tb ++ [p]).length]? = some q := by
          rw [ht, List.getElem?_append_left hi]
          exact hq
        rw [treeOf_node e1, ht, List.take_append_of_le_length (by omega), List.drop_append_of_le_length (by omega), treeOf_node hq]
        show _ = if rk q.1 < rk p.1 then _ else _
        rw [if_neg hlt]
        match n, hn with
        | 0, hn => exact absurd (List.eq_nil_of_length_eq_zero (Nat.le_zero.mp hn)) hne
        | n + 1, hn => rw [treeOf_snoc n (tb.drop (topI tb tb.length + 1)) p (by rw [List.length_drop]; omega)]
/-- the right edge: entries with their left trees, the highest first -/
abbrev Spn := List ((Str × List Int) × Tree)
def comp (S : Spn) : Tree := S.foldr (fun s acc => .node s.1.1 s.1.2 s.2 acc) .nil
theorem ins_comp (p : Str × List Int) (S2 : Spn) (h2 : ∀ s ∈ S2, rk s.1.1 < rk p.1) : ∀ S1 : Spn, (∀ s ∈ S1, ¬ rk s.1.1 < rk p.1) → ins p (comp (S1 ++ S2)) = comp (S1 ++ [(p, comp S2)])
  | [], _ => by
    cases S2 with
    | nil => rfl
    | cons s S2 =>
      show (if rk s.1.1 < rk p.1 then Tree.node p.1 p.2 (comp (s :: S2)) .nil else _) = Tree.node p.1 p.2 (comp (s :: S2)) .nil
      rw [if_pos (h2 s List.mem_cons_self)]
  | s :: S1, h1 => by
    show (if rk s.1.1 < rk p.1 then _ else Tree.node s.1.1 s.1.2 s.2 (ins p (comp (S1 ++ S2)))) = Tree.node s.1.1 s.1.2 s.2 (comp (S1 ++ [(p, comp S2)]))
    rw [if_neg (h1 s List.mem_cons_self), ins_comp p S2 h2 S1 fun x hx => h1 x (List.mem_cons_of_mem _ hx)]
def gapS (b m : Int) (s : (Str × List Int) × Tree) : Gap := .lo s.1.1 s.1.2 (toPT b m s.2)
theorem compl_comp (b m : Int) : ∀ S : Spn, compl false (S.map (gapS b m)) (.hid (lnk0 b m) false) = toPT b m (comp S)
  | [] => rfl
  | s :: S => by
    show PT.nod s.1.1 s.1.2 (toPT b m s.2) (compl false (S.map (gapS b m)) (.hid (lnk0 b m) false)) false = PT.nod _ _ _ (toPT b m (comp S)) false
    rw [compl_comp b m S]
/-- the edge of a table's tree -/
structure EdgeOf (S : Spn) (pre : Tab) : Prop where
  tree : comp S = treeOf pre
  desc : S.Pairwise fun a b => rk b.1.1 ≤ rk a.1.1
  keys : ∀ s ∈ S, s.1 ∈ pre
theorem EdgeOf.put {A L : Spn} {pre : Tab} {p : Str × List Int} (e : EdgeOf (A ++ L) pre) (hL : ∀ s ∈ L, rk s.1.1 < rk p.1) (hA : ∀ s ∈ A.getLast?, ¬ rk s.1.1 < rk p.1) : EdgeOf (A ++ [(p, comp L)]) (pre ++ [p]) := by
  have dA : A.Pairwise fun a b => rk b.1.1 ≤ rk a.1.1 := (List.pairwise_append.mp e.desc).1
  have all : ∀ s ∈ A, ¬ rk s.1.1 < rk p.1 := fun s hs => by
    rcases concat_cases A with rfl | ⟨A', z, rfl⟩
    · cases hs
    · have hz : ¬ rk z.1.1 < rk p.1 := hA z (by simp)
      rcases List.mem_append.mp hs with h | h
      · have := (List.pairwise_append.mp dA).2.2 s h z List.mem_cons_self
        omega
      · have : s = z := by simpa using h
        rw [this]
        exact hz
  refine ⟨?_, ?_, fun s hs => ?_⟩
  · rw [treeOf_snoc _ pre p (Nat.le_refl _), ← e.tree, ins_comp p L hL A all]
  · refine List.pairwise_append.mpr ⟨dA, List.pairwise_singleton _ _, fun s hs z hz => ?_⟩
    have : z = (p, comp L) := by simpa using hz
    rw [this]
    have := all s hs
    show rk p.1 ≤ _
    omega
  · rcases List.mem_append.mp hs with h | h
    · exact List.mem_append_left _ (e.keys s (List.mem_append_left _ h))
    · have : s = (p, comp L) := by simpa using h
      rw [this]
      exact List.mem_append_right _ List.mem_cons_self
theorem abv_later {a c : Str} (h : Lt c a) : abv a c = decide (rk c < rk a) := by
  unfold abv slt
  rw [decide_eq_false (lt_asym h), Bool.and_false, Bool.or_false]
theorem comp_size : ∀ S : Spn, S.length ≤ (comp S).size
  | [] => Nat.le_refl _
  | s :: S => by
    have := comp_size S
    show S.length + 1 ≤ s.2.size + (comp S).size + 1
    omega
theorem EdgeOf.len {S : Spn} {pre : Tab} (e : EdgeOf S pre) : S.length ≤ pre.length := by
  have h1 := comp_size S
  rw [e.tree] at h1
  exact Nat.le_trans h1 (treeOf_size pre)
theorem rev_gaps (b m : Int) (L : Spn) : ((L.reverse.map fun s => gapD b m (gapS b m s))).reverse = (L.map (gapS b m)).map (gapD b m) := by
  rw [← List.map_reverse, List.reverse_reverse, List.map_map]
  rfl

end RR

namespace RR
open PySem PySem.Spec PyProof.Rows L2
set_option hygiene false in
local macro_rules | `(tactic| walk_at "d") => `(tactic| simp -implicitDefEqProofs only [dSeqS, dNext, dDrop, dRet, dRetN, dIfS, dAsg, dAsgC, dgName, dgTup.eq_1, dgTup.eq_2, dgCons.eq_1, dgCons.eq_2, dgNil, dgSub, subK.eq_1, subK.eq_2, dVar, dVarF, dC, dOp, fII.eq_1, fII.eq_2, fIIc.eq_1, fIIc.eq_2, fAdd.eq_1, fAdd.eq_2, fAdd.eq_3, fAdd.eq_4, fAdd.eq_5, fAdd.eq_6, fCmp.eq_1, fCmp.eq_2, fCmp.eq_3, fEqD, fIsN.eq_1, fIsN.eq_2, isNon.eq_1, isNon.eq_2, rdV.eq_1, rdV.eq_2, rdV.eq_3, rdL.eq_1, rdL.eq_2, rdL.eq_3, dB, dAnd, dOr, dNot, dTru, dIf, dAndV, dOrV, dNotV, dChain, dNil, dCons, vals.eq_1, vals.eq_2, vals.eq_3, dTup, dLst, fIx.eq_1, fIx.eq_2, fIx.eq_3, fIx.eq_4, fIx.eq_5, dSl, dPart, dNoPart, dCB, fLen.eq_1, fLen.eq_2, fLen.eq_3, fLen.eq_4, fLen.eq_5, fInt.eq_1, fInt.eq_2, fInt.eq_3, fList.eq_1, fList.eq_2, rdS.eq_1, rdS.eq_2, rdS.eq_3, rdS.eq_4, fTup.eq_1, fTup.eq_2, fOrd.eq_1, fOrd.eq_2, fIsi.eq_1, fIsi.eq_2, tyD.eq_1, tyD.eq_2, tyD.eq_3, tyD.eq_4, tyD.eq_5, tyD.eq_6, tyD.eq_7, kb1, kb2, kb3, kb4, kb5, kb6, kb7, kb8, kb9, kb10, kb11, kb12, kb13, kb14, kb15, kb16, kb17, kb18, kb19, kb20, kb21, kb22, kb23, kb24, dSeq, seqK.eq_1, seqK.eq_2, seqK.eq_3, seqK.eq_4, seqK.eq_5, dRng1, dRng2, dRev, lstK.eq_1, lstK.eq_2, lstK.eq_3, dEnum, dZip, dBM, dBM0, fAppend.eq_1, fAppend.eq_2, fExtend.eq_1, fExtend.eq_2, fExtA.eq_1, fExtA.eq_2, fPop.eq_1, fPop.eq_2, dRevT, dRevL, f2I.eq_1, f2I.eq_2, bK.eq_1, bK.eq_2, truK.eq_1, truK.eq_2, truK.eq_3, truK.eq_4, truK.eq_5, truK.eq_6, truK.eq_7, truL.eq_1, truL.eq_2, dispK.eq_1, dispK.eq_2, ixK.eq_1, ixK.eq_2, ixS.eq_1, ixS.eq_2, ixL.eq_1, ixL.eq_2, partK.eq_1, partK.eq_2, slK.eq_1, slK.eq_2, slK.eq_3, slK.eq_4, slK.eq_5, slL.eq_1, slL.eq_2, lenLK.eq_1, lenLK.eq_2, mkL.eq_1, mkL.eq_2, isiB.eq_1, isiB.eq_2, isiK.eq_1, isiK.eq_2, frzK.eq_1, frzK.eq_2, frzK.eq_3, rng1K.eq_1, rng1K.eq_2, rng2K.eq_1, rng2K.eq_2, lst1K.eq_1, lst1K.eq_2, zipK.eq_1, zipK.eq_2, sub1K.eq_1, sub1K.eq_2, sub2K.eq_1, sub2K.eq_2, appK.eq_1, appK.eq_2, extK.eq_1, extK.eq_2, pop2K.eq_1, pop2K.eq_2, popK.eq_1, popK.eq_2, lstFK.eq_1, lstFK.eq_2, lisFK.eq_1, lisFK.eq_2, lisF2K.eq_1, lisF2K.eq_2, accK.eq_1, accK.eq_2, dVal, revTK.eq_1, revTK.eq_2, callK.eq_1, callK.eq_2, eqK.eq_1, eqK.eq_2, catK.eq_1, catK.eq_2, cellL.eq_1, cellL.eq_2, cellL.eq_3, okDi, okDb, okDn, eqvi, eqvs, dLstF, dListF, dLc, dYes, wipeE.eq_1, wipeE.eq_2, dFor, fin, finD, wOk.eq_1, wOk.eq_2, cellOk.eq_1, cellOk.eq_2, E0D, dCallP, dCallW, putW, firstRef.eq_1, firstRef.eq_2, firstRef.eq_3, shW.eq_1, shW.eq_2, unW.eq_1, unW.eq_2, inW.eq_1, inW.eq_2, shC.eq_1, shC.eq_2, unC.eq_1, unC.eq_2, inC.eq_1, inC.eq_2, dBreak, at0, at1, at2, at3, atI_last, List.getElem?_cons_zero, List.getElem?_cons_succ, List.getElem?_nil, List.set_cons_zero, List.set_cons_succ, List.map_cons, List.map_nil, List.length_cons, List.length_nil, List.replicate_succ, List.replicate_zero, List.cons_append, List.nil_append, List.append_nil, Option.map_some, Option.map_none, Option.isSome_some, if_true, if_false, ite_true, ite_false, Bool.and_true, Bool.true_and, Bool.and_false, Bool.false_and, Bool.or_true, Bool.or_false, Bool.true_or, Bool.false_or, Bool.not_true, Bool.not_false, true_and, and_true, List.take_succ_cons, List.take_zero, List.take_nil, List.drop_zero, List.drop_succ_cons, List.drop_nil, List.all_cons, List.all_nil, List.any_cons, List.any_nil, List.contains_cons, List.elem_nil, Nat.zero_add, Nat.add_zero, Nat.le_refl, Nat.reduceAdd, Nat.reduceSub, Nat.reduceLT, Nat.reduceLeDiff, Nat.sub_self, Nat.sub_zero, Nat.zero_le, decide_true, decide_false, beq_self_eq_true, Bool.false_eq_true, reduceCtorEq, List.isEmpty_cons, List.isEmpty_nil, List.dropLast_concat, dUn, unK.eq_1, unK.eq_2, dFld, fldK.eq_1, fldK.eq_2, fldK.eq_3, fldC.eq_1, fldC.eq_2, fldW.eq_1, fldW.eq_2, dMake, makK.eq_1, makK.eq_2, fld00, fld01, fld02, lenF0, lenF1, lenF2, get_end, set_end, id])
set_option hygiene false in
local macro_rules | `(tactic| walk_at "s") => `(tactic| simp -implicitDefEqProofs only [dNext, dDrop, dRet, dRetN, dIfS, dAsg, dAsgC, dgName, dgTup.eq_1, dgTup.eq_2, dgCons.eq_1, dgCons.eq_2, dgNil, dgSub, subK.eq_1, subK.eq_2, dVar, dVarF, dC, dOp, fII.eq_1, fII.eq_2, fIIc.eq_1, fIIc.eq_2, fAdd.eq_1, fAdd.eq_2, fAdd.eq_3, fAdd.eq_4, fAdd.eq_5, fAdd.eq_6, fCmp.eq_1, fCmp.eq_2, fCmp.eq_3, fEqD, fIsN.eq_1, fIsN.eq_2, isNon.eq_1, isNon.eq_2, rdV.eq_1, rdV.eq_2, rdV.eq_3, rdL.eq_1, rdL.eq_2, rdL.eq_3, dB, dAnd, dOr, dNot, dTru, dIf, dAndV, dOrV, dNotV, dChain, dNil, dCons, vals.eq_1, vals.eq_2, vals.eq_3, dTup, dLst, fIx.eq_1, fIx.eq_2, fIx.eq_3, fIx.eq_4, fIx.eq_5, dSl, dPart, dNoPart, dCB, fLen.eq_1, fLen.eq_2, fLen.eq_3, fLen.eq_4, fLen.eq_5, fInt.eq_1, fInt.eq_2, fInt.eq_3, fList.eq_1, fList.eq_2, rdS.eq_1, rdS.eq_2, rdS.eq_3, rdS.eq_4, fTup.eq_1, fTup.eq_2, fOrd.eq_1, fOrd.eq_2, fIsi.eq_1, fIsi.eq_2, tyD.eq_1, tyD.eq_2, tyD.eq_3, tyD.eq_4, tyD.eq_5, tyD.eq_6, tyD.eq_7, kb1, kb2, kb3, kb4, kb5, kb6, kb7, kb8, kb9, kb10, kb11, kb12, kb13, kb14, kb15, kb16, kb17, kb18, kb19, kb20, kb21, kb22, kb23, kb24, dSeq, seqK.eq_1, seqK.eq_2, seqK.eq_3, seqK.eq_4, seqK.eq_5, dRng1, dRng2, dRev, lstK.eq_1, lstK.eq_2, lstK.eq_3, dEnum, dZip, dBM, dBM0, fAppend.eq_1, fAppend.eq_2, fExtend.eq_1, fExtend.eq_2, fExtA.eq_1, fExtA.eq_2, fPop.eq_1, fPop.eq_2, dRevT, dRevL, f2I.eq_1, f2I.eq_2, bK.eq_1, bK.eq_2, truK.eq_1, truK.eq_2, truK.eq_3, truK.eq_4, truK.eq_5, truK.eq_6, truK.eq_7, truL.eq_1, truL.eq_2, dispK.eq_1, dispK.eq_2, ixK.eq_1, ixK.eq_2, ixS.eq_1, ixS.eq_2, ixL.eq_1, ixL.eq_2, partK.eq_1, partK.eq_2, slK.eq_1, slK.eq_2, slK.eq_3, slK.eq_4, slK.eq_5, slL.eq_1, slL.eq_2, lenLK.eq_1, lenLK.eq_2, mkL.eq_1, mkL.eq_2, isiB.eq_1, isiB.eq_2, isiK.eq_1, isiK.eq_2, frzK.eq_1, frzK.eq_2, frzK.eq_3, rng1K.eq_1, rng1K.eq_2, rng2K.eq_1, rng2K.eq_2, lst1K.eq_1, lst1K.eq_2, zipK.eq_1, zipK.eq_2, sub1K.eq_1, sub1K.eq_2, sub2K.eq_1, sub2K.eq_2, appK.eq_1, appK.eq_2, extK.eq_1, extK.eq_2, pop2K.eq_1, pop2K.eq_2, popK.eq_1, popK.eq_2, lstFK.eq_1, lstFK.eq_2, lisFK.eq_1, lisFK.eq_2, lisF2K.eq_1, lisF2K.eq_2, accK.eq_1, accK.eq_2, dVal, revTK.eq_1, revTK.eq_2, callK.eq_1, callK.eq_2, eqK.eq_1, eqK.eq_2, catK.eq_1, catK.eq_2, cellL.eq_1, cellL.eq_2, cellL.eq_3, okDi, okDb, okDn, eqvi, eqvs, dLstF, dListF, dLc, dYes, wipeE.eq_1, wipeE.eq_2, dFor, fin, finD, wOk.eq_1, wOk.eq_2, cellOk.eq_1, cellOk.eq_2, E0D, dCallP, dCallW, putW, firstRef.eq_1, firstRef.eq_2, firstRef.eq_3, shW.eq_1, shW.eq_2, unW.eq_1, unW.eq_2, inW.eq_1, inW.eq_2, shC.eq_1, shC.eq_2, unC.eq_1, unC.eq_2, inC.eq_1, inC.eq_2, dBreak, at0, at1, at2, at3, atI_last, List.getElem?_cons_zero, List.getElem?_cons_succ, List.getElem?_nil, List.set_cons_zero, List.set_cons_succ, List.map_cons, List.map_nil, List.length_cons, List.length_nil, List.replicate_succ, List.replicate_zero, List.cons_append, List.nil_append, List.append_nil, Option.map_some, Option.map_none, Option.isSome_some, if_true, if_false, ite_true, ite_false, Bool.and_true, Bool.true_and, Bool.and_false, Bool.false_and, Bool.or_true, Bool.or_false, Bool.true_or, Bool.false_or, Bool.not_true, Bool.not_false, true_and, and_true, List.take_succ_cons, List.take_zero, List.take_nil, List.drop_zero, List.drop_succ_cons, List.drop_nil, List.all_cons, List.all_nil, List.any_cons, List.any_nil, List.contains_cons, List.elem_nil, Nat.zero_add, Nat.add_zero, Nat.le_refl, Nat.reduceAdd, Nat.reduceSub, Nat.reduceLT, Nat.reduceLeDiff, Nat.sub_self, Nat.sub_zero, Nat.zero_le, decide_true, decide_false, beq_self_eq_true, Bool.false_eq_true, reduceCtorEq, List.isEmpty_cons, List.isEmpty_nil, List.dropLast_concat, dUn, unK.eq_1, unK.eq_2, dFld, fldK.eq_1, fldK.eq_2, fldK.eq_3, fldC.eq_1, fldC.eq_2, fldW.eq_1, fldW.eq_2, dMake, makK.eq_1, makK.eq_2, fld00, fld01, fld02, lenF0, lenF1, lenF2, get_end, set_end, id])
abbrev sPTreeOf : Stmt := topS 19
theorem scPTreeOf : FnScope ["rule", "table", "gaps", "key", "row", "lower"] ["rule", "table"] (defScope sPTreeOf) := ⟨rfl, rfl, rfl, by decide +kernel, rfl, by decide +kernel, by decide +kernel⟩
def pPTreeOf : DSp := fun ws C Q _ => ∃ b m tb, ws = [.val (ruleD b m), .val (tabD tb)] ∧ RuleOk b m ∧ (tb.map (·.1)).Pairwise Lt ∧ TabFit tb ∧ tb.length ≤ 1000 ∧ Q (.val (partD b m (toPT b m (treeOf tb)))) C
section
variable {P : Program} {w : World} {K : PySem.W.Frag} {mg : Str → Option Value} {base : Heap} {ct : Ct}
theorem ok_PTreeOf (D : Def K mg "tree_of" sPTreeOf ["rule", "table"]) (D_PStandsAbove : Def K mg "stands_above" sPStandsAbove ["key", "other"]) (D_PCompleted : Def K mg "completed" sPCompleted ["rule", "gaps", "part", "is_open"]) (D_PEmptyPart : Def K mg "empty_part" sPEmptyPart ["rule"])
    (G_PStandsAbove : FnOk P w K mg base CX0 2 D_PStandsAbove.f D_PStandsAbove.fd ["key", "other"] (spD ct 0 2 pPStandsAbove)) (G_PCompleted : FnOk P w K mg base CX0 6 D_PCompleted.f D_PCompleted.fd ["rule", "gaps", "part", "is_open"] (spD ct 0 4 pPCompleted)) (G_PEmptyPart : FnOk P w K mg base CX0 4 D_PEmptyPart.f D_PEmptyPart.fd ["rule"] (spD ct 0 1 pPEmptyPart)) : FnOk P w K mg base CX0 7 D.f D.fd ["rule", "table"] (spD ct 0 2 pPTreeOf) := by
  refine D.F.ok scPTreeOf (fun vs H Q E h => spD_len h) (fun cdv A outer s H vs Q E hr h => ⟨_, (pss_cons (psC (ps_set (i := 2) scPTreeOf.nd rfl (.inl rfl) (pe_lst pa_nil))) <|
    pss_cons (ps_for PassesOwn.never rfl (pi_seqA (pv 1)) (pg_tup (n := 2) (by rfl) (pgs_cons (pg_name (i := 3) scPTreeOf.nd rfl (Or.inl rfl)) (pgs_cons (pg_name (i := 4) scPTreeOf.nd rfl (Or.inl rfl)) pgs_nil)))
      (pss_cons (psC (ps_set (i := 5) scPTreeOf.nd rfl (.inl rfl) (pe_lst pa_nil))) <|
        pss_cons (ps_while PassesOwn.never (PW.pt (pw_and (pt_truA (pv 2)) (pw_and1 (pt_truA (pe_call G_PStandsAbove (hr.mono (by omega)) (by rfl) D_PStandsAbove.m D_PStandsAbove.F.kp D_PStandsAbove.b .nil pass0 (pa_cons (pv 3) (pa_cons (pe_ix ix_seq (pe_ix ix_seq (pv 2) (pe_un un_neg pe_int) (fun _ _ => rfl)) pe_int (fun _ _ => rfl)) pa_nil)))))))
          (pss_one (ps_expr (pe_bm PySem.F.plainAttrs_list PySem.F.slot_list_append PySem.F.type_list_append mt_append (pv 5) (pa_cons (pe_bm0 PySem.F.plainAttrs_list PySem.F.slot_list_pop PySem.F.type_list_pop mt_pop (pv 2)) pa_nil))))) <|
        pss_one (ps_expr (pe_bm PySem.F.plainAttrs_list PySem.F.slot_list_append PySem.F.type_list_append mt_append (pv 2) (pa_cons (pe_tup (pa_cons (pv 3) (pa_cons (pv 4) (pa_cons (pe_call G_PCompleted (hr.mono (by omega)) (by rfl) D_PCompleted.m D_PCompleted.F.kp D_PCompleted.b .nil pass0 (pa_cons (pv 0) (pa_cons (pe_revL (pv 5)) (pa_cons (pe_call G_PEmptyPart (hr.mono (by omega)) (by rfl) D_PEmptyPart.m D_PEmptyPart.F.kp D_PEmptyPart.b .nil pass0 (pa_cons (pv 0) pa_nil)) (pa_cons pe_bl pa_nil))))) (pa_cons pe_non pa_nil))))) pa_nil))))) <|
    pss_one (ps_ret (pe_call G_PCompleted (hr.mono (by omega)) (by rfl) D_PCompleted.m D_PCompleted.F.kp D_PCompleted.b .nil pass0 (pa_cons (pv 0) (pa_cons (pvF 2) (pa_cons (pe_call G_PEmptyPart (hr.mono (by omega)) (by rfl) D_PEmptyPart.m D_PEmptyPart.F.kp D_PEmptyPart.b .nil pass0 (pa_cons (pv 0) pa_nil)) (pa_cons pe_bl pa_nil))))))), body_ok _ (fun R => inferInstance) (by decide) (fun ws C Q R hw hC hP => ?_) h⟩)
  obtain rfl := List.eq_nil_of_length_eq_zero hC
  obtain ⟨b, m, tb, rfl, hr, hs, hf, hl, q⟩ := hP
  walk_at "s"
  refine dSeq_go ?_
  walk_at "s"
  refine dSeq_go ?_
  walk_at "s"
  refine dForGo_map pairD tb (fun pre E C => ∃ (S : Spn) (J : List Cell) (y3 y4 y5 : Option W), EdgeOf S pre ∧ C = .lst (S.map fun s => gapD b m (gapS b m s)) :: J ∧ E = [some (.val (ruleD b m)), some (.val (tabD tb)), some (.ref 0), y3, y4, y5]) ?_ ?_ ⟨[], [], none, none, none, ⟨rfl, .nil, fun s h => by cases h⟩, rfl, rfl⟩
  · rintro pre p post E C e ⟨S, J, y3, y4, y5, hS, rfl, rfl⟩ N hN
    simp only [pairD]
    walk_at "s"
    refine dSeq_go ?_
    walk_at "s"
    have hpm : p ∈ tb := by rw [e]; exact List.mem_append_right _ List.mem_cons_self
    have hpl : pre.length + 1 ≤ tb.length := by rw [e, List.length_append, List.length_cons]; omega
    have later : ∀ s ∈ pre, Lt s.1 p.1 := fun s h => by
      rw [e, List.map_append, List.map_cons] at hs
      exact (List.pairwise_append.mp hs).2.2 s.1 (List.mem_map.mpr ⟨s, h, rfl⟩) p.1 List.mem_cons_self
    refine dSeq_cut (fun E C => ∃ A L : Spn, EdgeOf (A ++ L) pre ∧ (∀ s ∈ L, rk s.1.1 < rk p.1) ∧ (∀ s ∈ A.getLast?, ¬ rk s.1.1 < rk p.1) ∧ C = .lst (A.map fun s => gapD b m (gapS b m s)) :: (J ++ [.lst (L.reverse.map fun s => gapD b m (gapS b m s))]) ∧ E = [some (.val (ruleD b m)), some (.val (tabD tb)), some (.ref 0), some (.val (.str p.1)), some (.val (rowD p.2)), some (.ref (J.length + 1))]) ?_ ?_
    · intro N2 hN2
      refine dWhile_by (fun (a : Spn × Spn) E C => EdgeOf (a.1 ++ a.2) pre ∧ (∀ s ∈ a.2, rk s.1.1 < rk p.1) ∧ C = .lst (a.1.map fun s => gapD b m (gapS b m s)) :: (J ++ [.lst (a.2.reverse.map fun s => gapD b m (gapS b m s))]) ∧ E = [some (.val (ruleD b m)), some (.val (tabD tb)), some (.ref 0), some (.val (.str p.1)), some (.val (rowD p.2)), some (.ref (J.length + 1))]) (fun a => a.1.length) (S, []) ⟨by rw [List.append_nil]; exact hS, fun s h => (by cases h), rfl, rfl⟩ ?_
      rintro ⟨A, L⟩ E C ⟨hE, hL, rfl, rfl⟩
      have hlen := hE.len
      rw [List.length_append] at hlen
      have fitE : ∀ s ∈ A ++ L, s.1.1.length ≤ 1000 ∧ s.1.2.length ≤ 1000 := fun s h => hf s.1 (by rw [e]; exact List.mem_append_left _ (hE.keys s h))
      rcases concat_cases A with rfl | ⟨A, z, rfl⟩
      · walk_at "s"
        exact hN2 _ _ ⟨[], L, hE, hL, fun s h => (by cases h), rfl, rfl⟩
      · have hz : z.1 ∈ pre := hE.keys z (by simp)
        have hlt := later z.1 hz
        have hzf := fitE z (by simp)
        rw [List.map_append, List.map_cons, List.map_nil]
        walk_at "s"
        rw [if_pos (by rw [isEmpty_concat]; rfl)]
        have hg : gapD b m (gapS b m z) = .tuple [.str z.1.1, rowD z.1.2, partD b m (toPT b m z.2), .none] := rfl
        rw [hg]
        walk_at "s"
        refine ⟨p.1, z.1.1, rfl, (hf p hpm).1, hzf.1, ?_⟩
        rw [abv_later hlt]
        walk_at "s"
        refine ifd (fun hab => ?_) (fun hab => ?_)
        · rw [last_get]
          walk_at "s"
          refine ⟨bigL (by rw [List.length_map, List.length_reverse]; exact Nat.le_trans (Nat.le_trans (Nat.le_add_left _ _) hlen) (by omega)), (A, z :: L), by rw [List.length_append]; exact Nat.lt_succ_self _, ?_, fun s hs => ?_, ?_⟩
          · rw [List.append_assoc] at hE
            exact hE
          · rcases List.mem_cons.mp hs with h | h
            · rw [h]
              exact hab
            · exact hL s h
          · rw [show ((A, z :: L) : Spn × Spn).2.reverse = L.reverse ++ [z] from List.reverse_cons, List.map_append]
            rfl
        · exact hN2 _ _ ⟨A ++ [z], L, hE, hL, fun s h => by
            have : s = z := by simpa using h.symm
            rw [this]
            exact hab, by rw [List.map_append]; rfl, rfl⟩
    · rintro E C ⟨A, L, hE, hL, hA, rfl, rfl⟩
      have hlen := hE.len
      rw [List.length_append] at hlen
      have fitE : ∀ s ∈ A ++ L, s.1.1.length ≤ 1000 ∧ s.1.2.length ≤ 1000 := fun s h => hf s.1 (by rw [e]; exact List.mem_append_left _ (hE.keys s h))
      walk_at "s"
      refine ⟨b, m, rfl, hr, ?_⟩
      walk_at "s"
      refine ⟨b, m, L.map (gapS b m), .hid (lnk0 b m) false, false, by rw [rev_gaps], hr, fun g hg => ?_, ?_⟩
      · obtain ⟨s, hs', rfl⟩ := List.mem_map.mp hg
        exact fitE s (List.mem_append_right _ hs')
      rw [compl_comp]
      walk_at "s"
      rw [List.length_map]
      refine ⟨by decide, bigL (by omega), hN _ _ ⟨A ++ [(p, comp L)], J ++ [.lst (L.reverse.map fun s => gapD b m (gapS b m s))], _, _, _, hE.put hL hA, by rw [List.map_append]; rfl, rfl⟩⟩
  · rintro E C ⟨S, J, y3, y4, y5, hS, rfl, rfl⟩
    walk_at "s"
    refine ⟨b, m, rfl, hr, ?_⟩
    walk_at "s"
    refine ⟨b, m, S.map (gapS b m), .hid (lnk0 b m) false, false, by rw [List.map_map]; rfl, hr, fun g hg => ?_, ?_⟩
    · obtain ⟨s, hs', rfl⟩ := List.mem_map.mp hg
      exact hf s.1 (hS.keys s hs')
    · rw [compl_comp, hS.tree]
      walk_at "s"
      exact q
end
abbrev sPHeadOf : Stmt := topS 20
theorem scPHeadOf : FnScope ["rule", "table"] ["rule", "table"] (defScope sPHeadOf) := ⟨rfl, rfl, rfl, by decide +kernel, rfl, by decide +kernel, by decide +kernel⟩
def pPHeadOf : DSp := fun ws C Q _ => ∃ b m tb, ws = [.val (ruleD b m), .val (tabD tb)] ∧ RuleOk b m ∧ (tb.map (·.1)).Pairwise Lt ∧ TabFit tb ∧ tb.length ≤ 1000 ∧ Q (.val (linkD ((treeOf tb).lnk b m))) C
section
variable {P : Program} {w : World} {K : PySem.W.Frag} {mg : Str → Option Value} {base : Heap} {ct : Ct}
theorem ok_PHeadOf (D : Def K mg "head_of" sPHeadOf ["rule", "table"]) [CtOk K ct] (D_PTreeOf : Def K mg "tree_of" sPTreeOf ["rule", "table"])
    (G_PTreeOf : FnOk P w K mg base CX0 7 D_PTreeOf.f D_PTreeOf.fd ["rule", "table"] (spD ct 0 2 pPTreeOf)) : FnOk P w K mg base CX0 8 D.f D.fd ["rule", "table"] (spD ct 0 2 pPHeadOf) := by
  refine D.F.ok scPHeadOf (fun vs H Q E h => spD_len h) (fun cdv A outer s H vs Q E hr h => ⟨_, (pss_one (ps_ret (pe_fldC (K := K) rfl (pe_call G_PTreeOf (hr.mono (by omega)) (by rfl) D_PTreeOf.m D_PTreeOf.F.kp D_PTreeOf.b .nil pass0 (pa_cons (pv 0) (pa_cons (pv 1) pa_nil))) rfl))), body_ok _ (fun R => inferInstance) (by decide) (fun ws C Q R hw hC hP => ?_) h⟩)
  obtain rfl := List.eq_nil_of_length_eq_zero hC
  obtain ⟨b, m, tb, rfl, hr, hs, hf, hl, q⟩ := hP
  walk_at "d"
  refine ⟨b, m, tb, rfl, hr, hs, hf, hl, ?_⟩
  rw [partD_eq, toPT_lnk]
  walk_at "d"
  exact q
end

end RR

namespace RR
open PySem PySem.Spec PyProof.Rows L2
set_option hygiene false in
local macro_rules | `(tactic| walk_at "d") => `(tactic| simp -implicitDefEqProofs only [dSeqS, dNext, dDrop, dRet, dRetN, dIfS, dAsg, dAsgC, dgName, dgTup.eq_1, dgTup.eq_2, dgCons.eq_1, dgCons.eq_2, dgNil, dgSub, subK.eq_1, subK.eq_2, dVar, dVarF, dC, dOp, fII.eq_1, fII.eq_2, fIIc.eq_1, fIIc.eq_2, fAdd.eq_1, fAdd.eq_2, fAdd.eq_3, fAdd.eq_4, fAdd.eq_5, fAdd.eq_6, fCmp.eq_1, fCmp.eq_2, fCmp.eq_3, fEqD, fIsN.eq_1, fIsN.eq_2, isNon.eq_1, isNon.eq_2, rdV.eq_1, rdV.eq_2, rdV.eq_3, rdL.eq_1, rdL.eq_2, rdL.eq_3, dB, dAnd, dOr, dNot, dTru, dIf, dAndV, dOrV, dNotV, dChain, dNil, dCons, vals.eq_1, vals.eq_2, vals.eq_3, dTup, dLst, fIx.eq_1, fIx.eq_2, fIx.eq_3, fIx.eq_4, fIx.eq_5, dSl, dPart, dNoPart, dCB, fLen.eq_1, fLen.eq_2, fLen.eq_3, fLen.eq_4, fLen.eq_5, fInt.eq_1, fInt.eq_2, fInt.eq_3, fList.eq_1, fList.eq_2, rdS.eq_1, rdS.eq_2, rdS.eq_3, rdS.eq_4, fTup.eq_1, fTup.eq_2, fOrd.eq_1, fOrd.eq_2, fIsi.eq_1, fIsi.eq_2, tyD.eq_1, tyD.eq_2, tyD.eq_3, tyD.eq_4, tyD.eq_5, tyD.eq_6, tyD.eq_7, kb1, kb2, kb3, kb4, kb5, kb6, kb7, kb8, kb9, kb10, kb11, kb12, kb13, kb14, kb15, kb16, kb17, kb18, kb19, kb20, kb21, kb22, kb23, kb24, dSeq, seqK.eq_1, seqK.eq_2, seqK.eq_3, seqK.eq_4, seqK.eq_5, dRng1, dRng2, dRev, lstK.eq_1, lstK.eq_2, lstK.eq_3, dEnum, dZip, dBM, dBM0, fAppend.eq_1, fAppend.eq_2, fExtend.eq_1, fExtend.eq_2, fExtA.eq_1, fExtA.eq_2, fPop.eq_1, fPop.eq_2, dRevT, dRevL, f2I.eq_1, f2I.eq_2, bK.eq_1, bK.eq_2, truK.eq_1, truK.eq_2, truK.eq_3, truK.eq_4, truK.eq_5, truK.eq_6, truK.eq_7, truL.eq_1, truL.eq_2, dispK.eq_1, dispK.eq_2, ixK.eq_1, ixK.eq_2, ixS.eq_1, ixS.eq_2, ixL.eq_1, ixL.eq_2, partK.eq_1, partK.eq_2, slK.eq_1, slK.eq_2, slK.eq_3, slK.eq_4, slK.eq_5, slL.eq_1, slL.eq_2, lenLK.eq_1, lenLK.eq_2, mkL.eq_1, mkL.eq_2, isiB.eq_1, isiB.eq_2, isiK.eq_1, isiK.eq_2, frzK.eq_1, frzK.eq_2, frzK.eq_3, rng1K.eq_1, rng1K.eq_2, rng2K.eq_1, rng2K.eq_2, lst1K.eq_1, lst1K.eq_2, zipK.eq_1, zipK.eq_2, sub1K.eq_1, sub1K.eq_2, sub2K.eq_1, sub2K.eq_2, appK.eq_1, appK.eq_2, extK.eq_1, extK.eq_2, pop2K.eq_1, pop2K.eq_2, popK.eq_1, popK.eq_2, lstFK.eq_1, lstFK.eq_2, lisFK.eq_1, lisFK.eq_2, lisF2K.eq_1, lisF2K.eq_2, accK.eq_1, accK.eq_2, dVal, revTK.eq_1, revTK.eq_2, callK.eq_1, callK.eq_2, eqK.eq_1, eqK.eq_2, catK.eq_1, catK.eq_2, cellL.eq_1, cellL.eq_2, cellL.eq_3, okDi, okDb, okDn, eqvi, eqvs, dLstF, dListF, dLc, dYes, wipeE.eq_1, wipeE.eq_2, dFor, fin, finD, wOk.eq_1, wOk.eq_2, cellOk.eq_1, cellOk.eq_2, E0D, dCallP, dCallW, putW, firstRef.eq_1, firstRef.eq_2, firstRef.eq_3, shW.eq_1, shW.eq_2, unW.eq_1, unW.eq_2, inW.eq_1, inW.eq_2, shC.eq_1, shC.eq_2, unC.eq_1, unC.eq_2, inC.eq_1, inC.eq_2, dBreak, at0, at1, at2, at3, atI_last, List.getElem?_cons_zero, List.getElem?_cons_succ, List.getElem?_nil, List.set_cons_zero, List.set_cons_succ, List.map_cons, List.map_nil, List.length_cons, List.length_nil, List.replicate_succ, List.replicate_zero, List.cons_append, List.nil_append, List.append_nil, Option.map_some, Option.map_none, Option.isSome_some, if_true, if_false, ite_true, ite_false, Bool.and_true, Bool.true_and, Bool.and_false, Bool.false_and, Bool.or_true, Bool.or_false, Bool.true_or, Bool.false_or, Bool.not_true, Bool.not_false, true_and, and_true, List.take_succ_cons, List.take_zero, List.take_nil, List.drop_zero, List.drop_succ_cons, List.drop_nil, List.all_cons, List.all_nil, List.any_cons, List.any_nil, List.contains_cons, List.elem_nil, Nat.zero_add, Nat.add_zero, Nat.le_refl, Nat.reduceAdd, Nat.reduceSub, Nat.reduceLT, Nat.reduceLeDiff, Nat.sub_self, Nat.sub_zero, Nat.zero_le, decide_true, decide_false, beq_self_eq_true, Bool.false_eq_true, reduceCtorEq, List.isEmpty_cons, List.isEmpty_nil, List.dropLast_concat, dUn, unK.eq_1, unK.eq_2, dFld, fldK.eq_1, fldK.eq_2, fldK.eq_3, fldC.eq_1, fldC.eq_2, fldW.eq_1, fldW.eq_2, dMake, makK.eq_1, makK.eq_2, fld00, fld01, fld02, lenF0, lenF1, lenF2, get_end, set_end, id])
set_option hygiene false in
local macro_rules | `(tactic| walk_at "s") => `(tactic| simp -implicitDefEqProofs only [dNext, dDrop, dRet, dRetN, dIfS, dAsg, dAsgC, dgName, dgTup.eq_1, dgTup.eq_2, dgCons.eq_1, dgCons.eq_2, dgNil, dgSub, subK.eq_1, subK.eq_2, dVar, dVarF, dC, dOp, fII.eq_1, fII.eq_2, fIIc.eq_1, fIIc.eq_2, fAdd.eq_1, fAdd.eq_2, fAdd.eq_3, fAdd.eq_4, fAdd.eq_5, fAdd.eq_6, fCmp.eq_1, fCmp.eq_2, fCmp.eq_3, fEqD, fIsN.eq_1, fIsN.eq_2, isNon.eq_1, isNon.eq_2, rdV.eq_1, rdV.eq_2, rdV.eq_3, rdL.eq_1, rdL.eq_2, rdL.eq_3, dB, dAnd, dOr, dNot, dTru, dIf, dAndV, dOrV, dNotV, dChain, dNil, dCons, vals.eq_1, vals.eq_2, vals.eq_3, dTup, dLst, fIx.eq_1, fIx.eq_2, fIx.eq_3, fIx.eq_4, fIx.eq_5, dSl, dPart, dNoPart, dCB, fLen.eq_1, fLen.eq_2, fLen.eq_3, fLen.eq_4, fLen.eq_5, fInt.eq_1, fInt.eq_2, fInt.eq_3, fList.eq_1, fList.eq_2, rdS.eq_1, rdS.eq_2, rdS.eq_3, rdS.eq_4, fTup.eq_1, fTup.eq_2, fOrd.eq_1, fOrd.eq_2, fIsi.eq_1, fIsi.eq_2, tyD.eq_1, tyD.eq_2, tyD.eq_3, tyD.eq_4, tyD.eq_5, tyD.eq_6, tyD.eq_7, kb1, kb2, kb3, kb4, kb5, kb6, kb7, kb8, kb9, kb10, kb11, kb12, kb13, kb14, kb15, kb16, kb17, kb18, kb19, kb20, kb21, kb22, kb23, kb24, dSeq, seqK.eq_1, seqK.eq_2, seqK.eq_3, seqK.eq_4, seqK.eq_5, dRng1, dRng2, dRev, lstK.eq_1, lstK.eq_2, lstK.eq_3, dEnum, dZip, dBM, dBM0, fAppend.eq_1, fAppend.eq_2, fExtend.eq_1, fExtend.eq_2, fExtA.eq_1, fExtA.eq_2, fPop.eq_1, fPop.eq_2, dRevT, dRevL, f2I.eq_1, f2I.eq_2, bK.eq_1, bK.eq_2, truK.eq_1, truK.eq_2, truK.eq_3, truK.eq_4, truK.eq_5, truK.eq_6, truK.eq_7, truL.eq_1, truL.eq_2, dispK.eq_1, dispK.eq_2, ixK.eq_1, ixK.eq_2, ixS.eq_1, ixS.eq_2, ixL.eq_1, ixL.eq_2, partK.eq_1, partK.eq_2, slK.eq_1, slK.eq_2, slK.eq_3, slK.eq_4, slK.eq_5, slL.eq_1, slL.eq_2, lenLK.eq_1, lenLK.eq_2, mkL.eq_1, mkL.eq_2, isiB.eq_1, isiB.eq_2, isiK.eq_1, isiK.eq_2, frzK.eq_1, frzK.eq_2, frzK.eq_3, rng1K.eq_1, rng1K.eq_2, rng2K.eq_1, rng2K.eq_2, lst1K.eq_1, lst1K.eq_2, zipK.eq_1, zipK.eq_2, sub1K.eq_1, sub1K.eq_2, sub2K.eq_1, sub2K.eq_2, appK.eq_1, appK.eq_2, extK.eq_1, extK.eq_2, pop2K.eq_1, pop2K.eq_2, popK.eq_1, popK.eq_2, lstFK.eq_1, lstFK.eq_2, lisFK.eq_1, lisFK.eq_2, lisF2K.eq_1, lisF2K.eq_2, accK.eq_1, accK.eq_2, dVal, revTK.eq_1, revTK.eq_2, callK.eq_1, callK.eq_2, eqK.eq_1, eqK.eq_2, catK.eq_1, catK.eq_2, cellL.eq_1, cellL.eq_2, cellL.eq_3, okDi, okDb, okDn, eqvi, eqvs, dLstF, dListF, dLc, dYes, wipeE.eq_1, wipeE.eq_2, dFor, fin, finD, wOk.eq_1, wOk.eq_2, cellOk.eq_1, cellOk.eq_2, E0D, dCallP, dCallW, putW, firstRef.eq_1, firstRef.eq_2, firstRef.eq_3, shW.eq_1, shW.eq_2, unW.eq_1, unW.eq_2, inW.eq_1, inW.eq_2, shC.eq_1, shC.eq_2, unC.eq_1, unC.eq_2, inC.eq_1, inC.eq_2, dBreak, at0, at1, at2, at3, atI_last, List.getElem?_cons_zero, List.getElem?_cons_succ, List.getElem?_nil, List.set_cons_zero, List.set_cons_succ, List.map_cons, List.map_nil, List.length_cons, List.length_nil, List.replicate_succ, List.replicate_zero, List.cons_append, List.nil_append, List.append_nil, Option.map_some, Option.map_none, Option.isSome_some, if_true, if_false, ite_true, ite_false, Bool.and_true, Bool.true_and, Bool.and_false, Bool.false_and, Bool.or_true, Bool.or_false, Bool.true_or, Bool.false_or, Bool.not_true, Bool.not_false, true_and, and_true, List.take_succ_cons, List.take_zero, List.take_nil, List.drop_zero, List.drop_succ_cons, List.drop_nil, List.all_cons, List.all_nil, List.any_cons, List.any_nil, List.contains_cons, List.elem_nil, Nat.zero_add, Nat.add_zero, Nat.le_refl, Nat.reduceAdd, Nat.reduceSub, Nat.reduceLT, Nat.reduceLeDiff, Nat.sub_self, Nat.sub_zero, Nat.zero_le, decide_true, decide_false, beq_self_eq_true, Bool.false_eq_true, reduceCtorEq, List.isEmpty_cons, List.isEmpty_nil, List.dropLast_concat, dUn, unK.eq_1, unK.eq_2, dFld, fldK.eq_1, fldK.eq_2, fldK.eq_3, fldC.eq_1, fldC.eq_2, fldW.eq_1, fldW.eq_2, dMake, makK.eq_1, makK.eq_2, fld00, fld01, fld02, lenF0, lenF1, lenF2, get_end, set_end, id])
abbrev sLaw : Stmt := topS 35
theorem scLaw : FnScope ["script", "state", "k", "rule", "table", "pair", "copy", "actual"] ["script"] (defScope sLaw) := ⟨rfl, rfl, rfl, by decide +kernel, rfl, by decide +kernel, by decide +kernel⟩
theorem eqvS {d : PyData} (h : okD d) : PyData.eqv d d = true := SeqAt.eqv_refl d h.lay
theorem okD_tab {tb : Tab} (h : KeysOk tb) : okD (tabD tb) := (Sh.tab (n := 0) fun p hp => (h p hp).1).ok (by decide)
theorem ifF {c : Bool} {A B : Prop} (h : c = false) (b : B) : if c = true then A else B := by
  rw [h]
  exact b
section
variable {P : Program} {w : World} {K : PySem.W.Frag} {mg : Str → Option Value} {base : Heap} {ct : Ct}
theorem ok_Law (D : Def K mg "law" sLaw ["script"]) (D_LRule : Def K mg "_law_rule" sLRule ["state"]) (D_LTable : Def K mg "_law_table" sLTable ["state", "most"]) (D_PRank : Def K mg "rank" sPRank ["key"]) (D_LRank : Def K mg "_law_rank" sLRank ["key"]) (D_PHeadOf : Def K mg "head_of" sPHeadOf ["rule", "table"]) (D_LTree : Def K mg "_law_tree" sLTree ["rule", "table"]) (m_bool : mg "bool" = none) (m_isinstance : mg "isinstance" = none) (m_list : mg "list" = none) (m_range : mg "range" = none) (m_tuple : mg "tuple" = none)
    (G_LRule : FnOk P w K mg base CX0 2 D_LRule.f D_LRule.fd ["state"] (spD ct 1 1 pLRule)) (G_LTable : FnOk P w K mg base CX0 3 D_LTable.f D_LTable.fd ["state", "most"] (spD ct 1 2 pLTable)) (G_PRank : FnOk P w K mg base CX0 1 D_PRank.f D_PRank.fd ["key"] (spD ct 0 1 pPRank)) (G_LRank : FnOk P w K mg base CX0 2 D_LRank.f D_LRank.fd ["key"] (spD ct 0 1 pLRank)) (G_PHeadOf : FnOk P w K mg base CX0 8 D_PHeadOf.f D_PHeadOf.fd ["rule", "table"] (spD ct 0 2 pPHeadOf)) (G_LTree : ∀ n, FnOk P w K mg base CX0 (n + 12) D_LTree.f D_LTree.fd ["rule", "table"] (spD ct 0 2 (pLTree n))) : FnOk P w K mg base CX0 213 D.f D.fd ["script"] (spLaw K) := by
  refine D.F.ok scLaw (fun vs H Q E h => by obtain ⟨a, ns, rfl, _⟩ := h; rfl) (fun cdv A outer s H vs Q E hr h => ⟨_, (pss_cons (psC (ps_set (i := 1) scLaw.nd rfl (.inl rfl) (pe_lst (pa_cons pe_int (pa_cons pe_int (pa_cons (pe_callTy call_listA (by rfl) m_list (by decide +kernel) (pa_cons (pv 0) pa_nil)) (pa_cons pe_int pa_nil))))))) <|
    pss_cons (ps_for PassesOwn.never rfl (pi_range1 (by rfl) m_range (pa_cons pe_int pa_nil)) (pg_name (i := 2) scLaw.nd rfl (Or.inl rfl))
      (pss_cons (ps_set (i := 3) scLaw.nd rfl (.inl rfl) (pe_call G_LRule (hr.mono (by omega)) (by rfl) D_LRule.m D_LRule.F.kp D_LRule.b .nil pass0 (pa_cons (pv 1) pa_nil))) <|
        pss_cons (ps_set (i := 4) scLaw.nd rfl (.inl rfl) (pe_call G_LTable (hr.mono (by omega)) (by rfl) D_LTable.m D_LTable.F.kp D_LTable.b .nil pass0 (pa_cons (pv 1) (pa_cons pe_int pa_nil)))) <|
        pss_cons (ps_for PassesOwn.never rfl (pi_seqA (pv 4)) (pg_name (i := 5) scLaw.nd rfl (Or.inl rfl))
          (pss_one (ps_if (PW.pt (pw_or (pt_cmpR (op_neD hr.units) (pe_call G_PRank (hr.mono (by omega)) (by rfl) D_PRank.m D_PRank.F.kp D_PRank.b .nil pass0 (pa_cons (pe_ix ix_seq (pv 5) pe_int (fun _ _ => rfl)) pa_nil)) (pe_call G_LRank (hr.mono (by omega)) (by rfl) D_LRank.m D_LRank.F.kp D_LRank.b .nil pass0 (pa_cons (pe_ix ix_seq (pv 5) pe_int (fun _ _ => rfl)) pa_nil)) (nomark _)) (pw_or1 (pt_truA (pe_callB call_isi (by rfl) m_isinstance (by decide +kernel) (pa_cons (pe_call G_PRank (hr.mono (by omega)) (by rfl) D_PRank.m D_PRank.F.kp D_PRank.b .nil pass0 (pa_cons (pe_ix ix_seq (pv 5) pe_int (fun _ _ => rfl)) pa_nil)) (pa_cons (pe_bltn (v := .ty "bool") (by rfl) m_bool (by decide +kernel) rfl) pa_nil)))))))
              (pss_one (ps_ret pe_bl)) pss_nil))) <|
        pss_cons (ps_set (i := 6) scLaw.nd rfl (.inl rfl) (pe_callTy call_listA (by rfl) m_list (by decide +kernel) (pa_cons (pv 4) pa_nil))) <|
        pss_cons (ps_set (i := 7) scLaw.nd rfl (.inl rfl) (pe_call G_PHeadOf (hr.mono (by omega)) (by rfl) D_PHeadOf.m D_PHeadOf.F.kp D_PHeadOf.b .nil pass0 (pa_cons (pv 3) (pa_cons (pv 6) pa_nil)))) <|
        pss_cons (ps_if (PW.pt (pw_or (pt_not (pt_truA (pe_callB call_isi (by rfl) m_isinstance (by decide +kernel) (pa_cons (pv 7) (pa_cons (pe_bltn (v := .ty "tuple") (by rfl) m_tuple (by decide +kernel) rfl) pa_nil))))) (pw_or (pt_cmpR (op_neD hr.units) (pv 7) (pe_ix ix_seq (pe_call (G_LTree 200) (hr.mono (by omega)) (by rfl) D_LTree.m D_LTree.F.kp D_LTree.b .nil pass0 (pa_cons (pv 3) (pa_cons (pv 4) pa_nil))) pe_int (fun _ _ => rfl)) (nomark _)) (pw_or1 (pt_cmpR (op_neD hr.units) (pv 6) (pv 4) (nomark _))))))
          (pss_one (ps_ret pe_bl)) pss_nil) <|
        pss_one (ps_if (PW.pt (pw_or (pt_truA (pe_callB call_isi (by rfl) m_isinstance (by decide +kernel) (pa_cons (pe_ix ix_seq (pv 7) pe_int (fun _ _ => rfl)) (pa_cons (pe_bltn (v := .ty "bool") (by rfl) m_bool (by decide +kernel) rfl) pa_nil)))) (pw_or (pt_truA (pe_callB call_isi (by rfl) m_isinstance (by decide +kernel) (pa_cons (pe_ix ix_seq (pv 7) pe_int (fun _ _ => rfl)) (pa_cons (pe_bltn (v := .ty "bool") (by rfl) m_bool (by decide +kernel) rfl) pa_nil)))) (pw_or1 (pt_truA (pe_callB call_isi (by rfl) m_isinstance (by decide +kernel) (pa_cons (pe_ix ix_seq (pe_ix ix_seq (pv 7) pe_int (fun _ _ => rfl)) pe_int (fun _ _ => rfl)) (pa_cons (pe_bltn (v := .ty "bool") (by rfl) m_bool (by decide +kernel) rfl) pa_nil))))))))
          (pss_one (ps_ret pe_bl)) pss_nil))) <|
    pss_one (ps_ret pe_bl)), law_body (ct := ct) (N := ["script", "state", "k", "rule", "table", "pair", "copy", "actual"]) inferInstance (by decide) (fun ns hns => ?_) h⟩)
  walk_at "s"
  refine dSeq_go ?_
  walk_at "s"
  refine ⟨by decide, by decide, ?_⟩
  refine dForGo_range (Int.toNat 3) (fun _ E C => ∃ (l : List PyData) (y2 y3 y4 y5 y6 y7 : Option W), StL l ∧ C = [.lst l] ∧ E = [none, some (.ref 0), y2, y3, y4, y5, y6, y7]) ?_ ?_ ⟨_, _, _, _, _, _, _, st0_ok ns, rfl, rfl⟩
  · rintro k E C hk ⟨l, y2, y3, y4, y5, y6, y7, s, rfl, rfl⟩ N hN
    walk_at "s"
    refine dSeq_go ?_
    walk_at "s"
    refine ⟨l, rfl, rfl, s, fun b m l1 hr s1 => ?_⟩
    walk_at "s"
    refine dSeq_go ?_
    walk_at "s"
    refine ⟨12, l1, rfl, rfl, s1, by decide, by decide, fun tb l2 htb hlen s2 => ?_⟩
    walk_at "s"
    have hfit := htb.fit
    refine dSeq_go ?_
    walk_at "s"
    refine dForGo_map pairD tb (fun _ E C => ∃ y5 : Option W, C = [.lst l2] ∧ E = [none, some (.ref 0), some (.val (.int (0 + (k : Nat)))), some (.val (ruleD b m)), some (.val (tabD tb)), y5, y6, y7]) ?_ ?_ ⟨_, rfl, rfl⟩
    · rintro pre p post E C e ⟨y5, rfl, rfl⟩ N2 hN2
      have hpf := hfit p (by rw [e]; exact List.mem_append_right _ List.mem_cons_self)
      simp only [pairD]
      walk_at "s"
      refine ⟨p.1, rfl, hpf.1, ?_⟩
      walk_at "s"
      refine ⟨p.1, rfl, hpf.1, ?_⟩
      walk_at "s"
      refine ⟨p.1, rfl, hpf.1, ?_⟩
      walk_at "s"
      exact hN2 _ _ ⟨_, rfl, rfl⟩
    rintro E C ⟨y5, rfl, rfl⟩
    dsimp only
    refine dSeq_go ?_
    walk_at "s"
    refine dSeq_go ?_
    walk_at "s"
    refine ⟨b, m, tb, rfl, hr, htb.1, hfit, by omega, ?_⟩
    walk_at "s"
    obtain ⟨r, et⟩ := treeD_head b m (treeOf tb)
    refine dSeq_go ?_
    generalize (treeOf tb).lnk b m = L at et
    simp only [linkD, sumsD] at et ⊢
    walk_at "s"
    refine ⟨b, m, tb, rfl, hr, hfit, by omega, by omega, ?_⟩
    rw [et]
    walk_at "s"
    refine ⟨okD_link L, okD_link L, ?_⟩
    refine ifF (show (!PyData.eqv (linkD L) (linkD L)) = false by rw [eqvS (okD_link L)]; rfl) ?_
    refine ⟨okD_tab htb.keys, okD_tab htb.keys, ?_⟩
    refine ifF (by rw [eqvS (okD_tab htb.keys)]; rfl) ?_
    exact hN _ _ ⟨l2, _, _, _, _, _, _, s2, rfl, rfl⟩
  · rintro E C ⟨l, y2, y3, y4, y5, y6, y7, s, rfl, rfl⟩
    rfl
end

end RR

namespace RR
open PySem PySem.Spec PyProof.Rows L2
theorem all_mk {l : PySem.W.OpenLaw} {w : World} {K : PySem.W.Frag} {h : Heap} {mg : Str → Option Value} {fa f1 f2 f3 f4 f5 f6 f7 f8 f9 f10 f11 f12 f13 f14 f15 f16 f17 f18 f19 f20 f21 f22 f23 f24 f25 f26 f27 f28 f29 C_Part : Addr} (X : K.In h) (G : h.Ns mainGlobals mg) (hfa : mg "law" = some (.ref fa))
    {od1 an1 od2 an2 od3 an3 od4 an4 od5 an5 od6 an6 od7 an7 od8 an8 od9 an9 od10 an10 od11 an11 od12 an12 od13 an13 od14 an14 od15 an15 od16 an16 od17 an17 od18 an18 od19 an19 od20 an20 od21 an21 od22 an22 od23 an23 od24 an24 od25 an25 od26 an26 od27 an27 od28 an28 od29 an29 : Option Addr} {sl1 sl2 sl3 sl4 sl5 sl6 sl7 sl8 sl9 sl10 sl11 sl12 sl13 sl14 sl15 sl16 sl17 sl18 sl19 sl20 sl21 sl22 sl23 sl24 sl25 sl26 sl27 sl28 sl29 : Array (Option Value)} {oc1 kV1 dc1 pm1 cd1 ct1 oc2 kV2 dc2 pm2 cd2 ct2 oc3 kV3 dc3 pm3 cd3 ct3 oc4 kV4 dc4 pm4 cd4 ct4 oc5 kV5 dc5 pm5 cd5 ct5 oc6 kV6 dc6 pm6 cd6 ct6 oc7 kV7 dc7 pm7 cd7 ct7 oc8 kV8 dc8 pm8 cd8 ct8 oc9 kV9 dc9 pm9 cd9 ct9 oc10 kV10 dc10 pm10 cd10 ct10 oc11 kV11 dc11 pm11 cd11 ct11 oc12 kV12 dc12 pm12 cd12 ct12 oc13 kV13 dc13 pm13 cd13 ct13 oc14 kV14 dc14 pm14 cd14 ct14 oc15 kV15 dc15 pm15 cd15 ct15 oc16 kV16 dc16 pm16 cd16 ct16 oc17 kV17 dc17 pm17 cd17 ct17 oc18 kV18 dc18 pm18 cd18 ct18 oc19 kV19 dc19 pm19 cd19 ct19 oc20 kV20 dc20 pm20 cd20 ct20 oc21 kV21 dc21 pm21 cd21 ct21 oc22 kV22 dc22 pm22 cd22 ct22 oc23 kV23 dc23 pm23 cd23 ct23 oc24 kV24 dc24 pm24 cd24 ct24 oc25 kV25 dc25 pm25 cd25 ct25 oc26 kV26 dc26 pm26 cd26 ct26 oc27 kV27 dc27 pm27 cd27 ct27 oc28 kV28 dc28 pm28 cd28 ct28 oc29 kV29 dc29 pm29 cd29 ct29 : Value}
    (a1 : PySem.W.nsIn K mainGlobals "column_of" = some (some (.ref f1)))
    (l1 : K.lookup f1 = some ⟨oc1, od1, .func (PySem.W.fnOf "column_of" "column_of" (defArgs sPColumnOf) (defBody sPColumnOf) (defScope sPColumnOf) .none kV1 dc1 pm1 an1 cd1 ct1), sl1⟩) (e1 : PySem.W.codeIn K cd1 "column_of" = true) (k1 : PySem.W.keepIn K (.ref f1) = true)
    (a2 : PySem.W.nsIn K mainGlobals "encode" = some (some (.ref f2)))
    (l2 : K.lookup f2 = some ⟨oc2, od2, .func (PySem.W.fnOf "encode" "encode" (defArgs sPEncode) (defBody sPEncode) (defScope sPEncode) .none kV2 dc2 pm2 an2 cd2 ct2), sl2⟩) (e2 : PySem.W.codeIn K cd2 "encode" = true) (k2 : PySem.W.keepIn K (.ref f2) = true)
    (a3 : PySem.W.nsIn K mainGlobals "digest" = some (some (.ref f3)))
    (l3 : K.lookup f3 = some ⟨oc3, od3, .func (PySem.W.fnOf "digest" "digest" (defArgs sPDigest) (defBody sPDigest) (defScope sPDigest) .none kV3 dc3 pm3 an3 cd3 ct3), sl3⟩) (e3 : PySem.W.codeIn K cd3 "digest" = true) (k3 : PySem.W.keepIn K (.ref f3) = true)
    (a4 : PySem.W.nsIn K mainGlobals "entry_digest" = some (some (.ref f4)))
    (l4 : K.lookup f4 = some ⟨oc4, od4, .func (PySem.W.fnOf "entry_digest" "entry_digest" (defArgs sPEntryDigest) (defBody sPEntryDigest) (defScope sPEntryDigest) .none kV4 dc4 pm4 an4 cd4 ct4), sl4⟩) (e4 : PySem.W.codeIn K cd4 "entry_digest" = true) (k4 : PySem.W.keepIn K (.ref f4) = true)
    (a5 : PySem.W.nsIn K mainGlobals "entry_link" = some (some (.ref f5)))
    (l5 : K.lookup f5 = some ⟨oc5, od5, .func (PySem.W.fnOf "entry_link" "entry_link" (defArgs sPEntryLink) (defBody sPEntryLink) (defScope sPEntryLink) .none kV5 dc5 pm5 an5 cd5 ct5), sl5⟩) (e5 : PySem.W.codeIn K cd5 "entry_link" = true) (k5 : PySem.W.keepIn K (.ref f5) = true)
    (a6 : PySem.W.nsIn K mainGlobals "empty_link" = some (some (.ref f6)))
    (l6 : K.lookup f6 = some ⟨oc6, od6, .func (PySem.W.fnOf "empty_link" "empty_link" (defArgs sPEmptyLink) (defBody sPEmptyLink) (defScope sPEmptyLink) .none kV6 dc6 pm6 an6 cd6 ct6), sl6⟩) (e6 : PySem.W.codeIn K cd6 "empty_link" = true) (k6 : PySem.W.keepIn K (.ref f6) = true)
    (a7 : PySem.W.nsIn K mainGlobals "rank" = some (some (.ref f7)))
    (l7 : K.lookup f7 = some ⟨oc7, od7, .func (PySem.W.fnOf "rank" "rank" (defArgs sPRank) (defBody sPRank) (defScope sPRank) .none kV7 dc7 pm7 an7 cd7 ct7), sl7⟩) (e7 : PySem.W.codeIn K cd7 "rank" = true) (k7 : PySem.W.keepIn K (.ref f7) = true)
    (a8 : PySem.W.nsIn K mainGlobals "stands_above" = some (some (.ref f8)))
    (l8 : K.lookup f8 = some ⟨oc8, od8, .func (PySem.W.fnOf "stands_above" "stands_above" (defArgs sPStandsAbove) (defBody sPStandsAbove) (defScope sPStandsAbove) .none kV8 dc8 pm8 an8 cd8 ct8), sl8⟩) (e8 : PySem.W.codeIn K cd8 "stands_above" = true) (k8 : PySem.W.keepIn K (.ref f8) = true)
    (a9 : PySem.W.nsIn K mainGlobals "linked_part" = some (some (.ref f9)))
    (l9 : K.lookup f9 = some ⟨oc9, od9, .func (PySem.W.fnOf "linked_part" "linked_part" (defArgs sPLinkedPart) (defBody sPLinkedPart) (defScope sPLinkedPart) .none kV9 dc9 pm9 an9 cd9 ct9), sl9⟩) (e9 : PySem.W.codeIn K cd9 "linked_part" = true) (k9 : PySem.W.keepIn K (.ref f9) = true)
    (a10 : PySem.W.nsIn K mainGlobals "empty_part" = some (some (.ref f10)))
    (l10 : K.lookup f10 = some ⟨oc10, od10, .func (PySem.W.fnOf "empty_part" "empty_part" (defArgs sPEmptyPart) (defBody sPEmptyPart) (defScope sPEmptyPart) .none kV10 dc10 pm10 an10 cd10 ct10), sl10⟩) (e10 : PySem.W.codeIn K cd10 "empty_part" = true) (k10 : PySem.W.keepIn K (.ref f10) = true)
    (a11 : PySem.W.nsIn K mainGlobals "rooted_part" = some (some (.ref f11)))
    (l11 : K.lookup f11 = some ⟨oc11, od11, .func (PySem.W.fnOf "rooted_part" "rooted_part" (defArgs sPRootedPart) (defBody sPRootedPart) (defScope sPRootedPart) .none kV11 dc11 pm11 an11 cd11 ct11), sl11⟩) (e11 : PySem.W.codeIn K cd11 "rooted_part" = true) (k11 : PySem.W.keepIn K (.ref f11) = true)
    (a12 : PySem.W.nsIn K mainGlobals "completed" = some (some (.ref f12)))
    (l12 : K.lookup f12 = some ⟨oc12, od12, .func (PySem.W.fnOf "completed" "completed" (defArgs sPCompleted) (defBody sPCompleted) (defScope sPCompleted) .none kV12 dc12 pm12 an12 cd12 ct12), sl12⟩) (e12 : PySem.W.codeIn K cd12 "completed" = true) (k12 : PySem.W.keepIn K (.ref f12) = true)
    (a13 : PySem.W.nsIn K mainGlobals "tree_of" = some (some (.ref f13)))
    (l13 : K.lookup f13 = some ⟨oc13, od13, .func (PySem.W.fnOf "tree_of" "tree_of" (defArgs sPTreeOf) (defBody sPTreeOf) (defScope sPTreeOf) .none kV13 dc13 pm13 an13 cd13 ct13), sl13⟩) (e13 : PySem.W.codeIn K cd13 "tree_of" = true) (k13 : PySem.W.keepIn K (.ref f13) = true)
    (a14 : PySem.W.nsIn K mainGlobals "head_of" = some (some (.ref f14)))
    (l14 : K.lookup f14 = some ⟨oc14, od14, .func (PySem.W.fnOf "head_of" "head_of" (defArgs sPHeadOf) (defBody sPHeadOf) (defScope sPHeadOf) .none kV14 dc14 pm14 an14 cd14 ct14), sl14⟩) (e14 : PySem.W.codeIn K cd14 "head_of" = true) (k14 : PySem.W.keepIn K (.ref f14) = true)
    (a15 : PySem.W.nsIn K mainGlobals "_law_draw" = some (some (.ref f15)))
    (l15 : K.lookup f15 = some ⟨oc15, od15, .func (PySem.W.fnOf "_law_draw" "_law_draw" (defArgs sDraw) (defBody sDraw) (defScope sDraw) .none kV15 dc15 pm15 an15 cd15 ct15), sl15⟩) (e15 : PySem.W.codeIn K cd15 "_law_draw" = true) (k15 : PySem.W.keepIn K (.ref f15) = true)
    (a16 : PySem.W.nsIn K mainGlobals "_law_rule" = some (some (.ref f16)))
    (l16 : K.lookup f16 = some ⟨oc16, od16, .func (PySem.W.fnOf "_law_rule" "_law_rule" (defArgs sLRule) (defBody sLRule) (defScope sLRule) .none kV16 dc16 pm16 an16 cd16 ct16), sl16⟩) (e16 : PySem.W.codeIn K cd16 "_law_rule" = true) (k16 : PySem.W.keepIn K (.ref f16) = true)
    (a17 : PySem.W.nsIn K mainGlobals "_law_codes" = some (some (.ref f17)))
    (l17 : K.lookup f17 = some ⟨oc17, od17, .func (PySem.W.fnOf "_law_codes" "_law_codes" (defArgs sLCodes) (defBody sLCodes) (defScope sLCodes) .none kV17 dc17 pm17 an17 cd17 ct17), sl17⟩) (e17 : PySem.W.codeIn K cd17 "_law_codes" = true) (k17 : PySem.W.keepIn K (.ref f17) = true)
    (a18 : PySem.W.nsIn K mainGlobals "_law_encode" = some (some (.ref f18)))
    (l18 : K.lookup f18 = some ⟨oc18, od18, .func (PySem.W.fnOf "_law_encode" "_law_encode" (defArgs sLEncode) (defBody sLEncode) (defScope sLEncode) .none kV18 dc18 pm18 an18 cd18 ct18), sl18⟩) (e18 : PySem.W.codeIn K cd18 "_law_encode" = true) (k18 : PySem.W.keepIn K (.ref f18) = true)
    (a19 : PySem.W.nsIn K mainGlobals "_law_digest" = some (some (.ref f19)))
    (l19 : K.lookup f19 = some ⟨oc19, od19, .func (PySem.W.fnOf "_law_digest" "_law_digest" (defArgs sLDigest) (defBody sLDigest) (defScope sLDigest) .none kV19 dc19 pm19 an19 cd19 ct19), sl19⟩) (e19 : PySem.W.codeIn K cd19 "_law_digest" = true) (k19 : PySem.W.keepIn K (.ref f19) = true)
    (a20 : PySem.W.nsIn K mainGlobals "_law_key" = some (some (.ref f20)))
    (l20 : K.lookup f20 = some ⟨oc20, od20, .func (PySem.W.fnOf "_law_key" "_law_key" (defArgs sKey) (defBody sKey) (defScope sKey) .none kV20 dc20 pm20 an20 cd20 ct20), sl20⟩) (e20 : PySem.W.codeIn K cd20 "_law_key" = true) (k20 : PySem.W.keepIn K (.ref f20) = true)
    (a21 : PySem.W.nsIn K mainGlobals "_law_row" = some (some (.ref f21)))
    (l21 : K.lookup f21 = some ⟨oc21, od21, .func (PySem.W.fnOf "_law_row" "_law_row" (defArgs sRow) (defBody sRow) (defScope sRow) .none kV21 dc21 pm21 an21 cd21 ct21), sl21⟩) (e21 : PySem.W.codeIn K cd21 "_law_row" = true) (k21 : PySem.W.keepIn K (.ref f21) = true)
    (a22 : PySem.W.nsIn K mainGlobals "_law_table" = some (some (.ref f22)))
    (l22 : K.lookup f22 = some ⟨oc22, od22, .func (PySem.W.fnOf "_law_table" "_law_table" (defArgs sTable) (defBody sTable) (defScope sTable) .none kV22 dc22 pm22 an22 cd22 ct22), sl22⟩) (e22 : PySem.W.codeIn K cd22 "_law_table" = true) (k22 : PySem.W.keepIn K (.ref f22) = true)
    (a23 : PySem.W.nsIn K mainGlobals "_law_cell" = some (some (.ref f23)))
    (l23 : K.lookup f23 = some ⟨oc23, od23, .func (PySem.W.fnOf "_law_cell" "_law_cell" (defArgs sLCell) (defBody sLCell) (defScope sLCell) .none kV23 dc23 pm23 an23 cd23 ct23), sl23⟩) (e23 : PySem.W.codeIn K cd23 "_law_cell" = true) (k23 : PySem.W.keepIn K (.ref f23) = true)
    (a24 : PySem.W.nsIn K mainGlobals "_law_rank" = some (some (.ref f24)))
    (l24 : K.lookup f24 = some ⟨oc24, od24, .func (PySem.W.fnOf "_law_rank" "_law_rank" (defArgs sLRank) (defBody sLRank) (defScope sLRank) .none kV24 dc24 pm24 an24 cd24 ct24), sl24⟩) (e24 : PySem.W.codeIn K cd24 "_law_rank" = true) (k24 : PySem.W.keepIn K (.ref f24) = true)
    (a25 : PySem.W.nsIn K mainGlobals "_law_top" = some (some (.ref f25)))
    (l25 : K.lookup f25 = some ⟨oc25, od25, .func (PySem.W.fnOf "_law_top" "_law_top" (defArgs sLTop) (defBody sLTop) (defScope sLTop) .none kV25 dc25 pm25 an25 cd25 ct25), sl25⟩) (e25 : PySem.W.codeIn K cd25 "_law_top" = true) (k25 : PySem.W.keepIn K (.ref f25) = true)
    (a26 : PySem.W.nsIn K mainGlobals "_law_tree" = some (some (.ref f26)))
    (l26 : K.lookup f26 = some ⟨oc26, od26, .func (PySem.W.fnOf "_law_tree" "_law_tree" (defArgs sLTree) (defBody sLTree) (defScope sLTree) .none kV26 dc26 pm26 an26 cd26 ct26), sl26⟩) (e26 : PySem.W.codeIn K cd26 "_law_tree" = true) (k26 : PySem.W.keepIn K (.ref f26) = true)
    (a27 : PySem.W.nsIn K mainGlobals "_law_link" = some (some (.ref f27)))
    (l27 : K.lookup f27 = some ⟨oc27, od27, .func (PySem.W.fnOf "_law_link" "_law_link" (defArgs sLLink) (defBody sLLink) (defScope sLLink) .none kV27 dc27 pm27 an27 cd27 ct27), sl27⟩) (e27 : PySem.W.codeIn K cd27 "_law_link" = true) (k27 : PySem.W.keepIn K (.ref f27) = true)
    (a28 : PySem.W.findIn K (.ref C_Part) "__init__" = some (some (.ref f28))) (i28 : PySem.W.isFn K (.ref f28) = true)
    (l28 : K.lookup f28 = some ⟨oc28, od28, .func (PySem.W.fnOf "__init__" "Part.__init__" (defArgs sPPartInit) (defBody sPPartInit) (defScope sPPartInit) .none kV28 dc28 pm28 an28 cd28 ct28), sl28⟩) (e28 : PySem.W.codeIn K cd28 "Part.__init__" = true) (k28 : PySem.W.keepIn K (.ref f28) = true)
    (a29 : PySem.W.nsIn K mainGlobals "law" = some (some (.ref f29)))
    (l29 : K.lookup f29 = some ⟨oc29, od29, .func (PySem.W.fnOf "law" "law" (defArgs sLaw) (defBody sLaw) (defScope sLaw) .none kV29 dc29 pm29 an29 cd29 ct29), sl29⟩) (e29 : PySem.W.codeIn K cd29 "law" = true) (k29 : PySem.W.keepIn K (.ref f29) = true)
    (aC_Part : PySem.W.nsIn K mainGlobals "Part" = some (some (.ref C_Part))) (pg_Part : PySem.W.plainGet K C_Part Str.empty = true) (hd_Part : PySem.W.hasDictIn K C_Part = true) (po_Part : PySem.W.plainOver K C_Part = true) (sa_Part : PySem.W.findIn K (.ref C_Part) "__setattr__" = some (some (.builtin "object.__setattr__"))) (mk_Part : PySem.W.makesIn K C_Part = true) (kc_Part : PySem.W.keepIn K (.ref C_Part) = true)
    (n_Part_link : PySem.W.findIn K (.ref C_Part) "link" = some none)
    (n_Part_root : PySem.W.findIn K (.ref C_Part) "root" = some none)
    (n_Part_is_open : PySem.W.findIn K (.ref C_Part) "is_open" = some none)
    {tk1 : Tok} (q1 : PySem.W.nsIn K mainGlobals "WIDEST_ROW" = some (some (.int 3 tk1)))
    (z1 : PySem.W.nsIn K mainGlobals "bool" = some none) (z2 : PySem.W.nsIn K mainGlobals "int" = some none) (z3 : PySem.W.nsIn K mainGlobals "isinstance" = some none) (z4 : PySem.W.nsIn K mainGlobals "len" = some none) (z5 : PySem.W.nsIn K mainGlobals "list" = some none) (z6 : PySem.W.nsIn K mainGlobals "ord" = some none) (z7 : PySem.W.nsIn K mainGlobals "range" = some none) (z8 : PySem.W.nsIn K mainGlobals "reversed" = some none) (z9 : PySem.W.nsIn K mainGlobals "sorted" = some none) (z10 : PySem.W.nsIn K mainGlobals "str" = some none) (z11 : PySem.W.nsIn K mainGlobals "tuple" = some none) :
    ∃ fd : FuncData, (∀ (s : Shared) (v : Value), BindsTo s fd ⟨[v], []⟩ [("script", v)]) ∧ ∀ base : Heap, K.In base → base.Ns mainGlobals mg → FnOk l.prog w K mg base CX0 213 fa fd ["script"] (spLaw K) := by
  have e := hfa.symm.trans (PySem.W.mg_of X G a29)
  cases e
  have F1 := fun_mk (st := sPColumnOf) l1 e1 k1
  have b1 := F1.binds (ps := ["row", "column"]) fun _ _ _ _ _ _ us hl => match us, hl with | [_, _], _ => rfl
  let d_column_of : Def K mg "column_of" sPColumnOf ["row", "column"] := ⟨_, _, F1, b1, PySem.W.mg_of X G a1⟩
  have F2 := fun_mk (st := sPEncode) l2 e2 k2
  have b2 := F2.binds (ps := ["value"]) fun _ _ _ _ _ _ us hl => match us, hl with | [_], _ => rfl
  let d_encode : Def K mg "encode" sPEncode ["value"] := ⟨_, _, F2, b2, PySem.W.mg_of X G a2⟩
  have F3 := fun_mk (st := sPDigest) l3 e3 k3
  have b3 := F3.binds (ps := ["rule", "value"]) fun _ _ _ _ _ _ us hl => match us, hl with | [_, _], _ => rfl
  let d_digest : Def K mg "digest" sPDigest ["rule", "value"] := ⟨_, _, F3, b3, PySem.W.mg_of X G a3⟩
  have F4 := fun_mk (st := sPEntryDigest) l4 e4 k4
  have b4 := F4.binds (ps := ["rule", "entry"]) fun _ _ _ _ _ _ us hl => match us, hl with | [_, _], _ => rfl
  let d_entry_digest : Def K mg "entry_digest" sPEntryDigest ["rule", "entry"] := ⟨_, _, F4, b4, PySem.W.mg_of X G a4⟩
  have F5 := fun_mk (st := sPEntryLink) l5 e5 k5
  have b5 := F5.binds (ps := ["rule", "entry"]) fun _ _ _ _ _ _ us hl => match us, hl with | [_, _], _ => rfl
  let d_entry_link : Def K mg "entry_link" sPEntryLink ["rule", "entry"] := ⟨_, _, F5, b5, PySem.W.mg_of X G a5⟩
  have F6 := fun_mk (st := sPEmptyLink) l6 e6 k6
  have b6 := F6.binds (ps := ["rule"]) fun _ _ _ _ _ _ us hl => match us, hl with | [_], _ => rfl
  let d_empty_link : Def K mg "empty_link" sPEmptyLink ["rule"] := ⟨_, _, F6, b6, PySem.W.mg_of X G a6⟩
  have F7 := fun_mk (st := sPRank) l7 e7 k7
  have b7 := F7.binds (ps := ["key"]) fun _ _ _ _ _ _ us hl => match us, hl with | [_], _ => rfl
  let d_rank : Def K mg "rank" sPRank ["key"] := ⟨_, _, F7, b7, PySem.W.mg_of X G a7⟩
  have F8 := fun_mk (st := sPStandsAbove) l8 e8 k8
  have b8 := F8.binds (ps := ["key", "other"]) fun _ _ _ _ _ _ us hl => match us, hl with | [_, _], _ => rfl
  let d_stands_above : Def K mg "stands_above" sPStandsAbove ["key", "other"] := ⟨_, _, F8, b8, PySem.W.mg_of X G a8⟩
  have F9 := fun_mk (st := sPLinkedPart) l9 e9 k9
  have b9 := F9.binds (ps := ["link"]) fun _ _ _ _ _ _ us hl => match us, hl with | [_], _ => rfl
  let d_linked_part : Def K mg "linked_part" sPLinkedPart ["link"] := ⟨_, _, F9, b9, PySem.W.mg_of X G a9⟩
  have F10 := fun_mk (st := sPEmptyPart) l10 e10 k10
  have b10 := F10.binds (ps := ["rule"]) fun _ _ _ _ _ _ us hl => match us, hl with | [_], _ => rfl
  let d_empty_part : Def K mg "empty_part" sPEmptyPart ["rule"] := ⟨_, _, F10, b10, PySem.W.mg_of X G a10⟩
  have F11 := fun_mk (st := sPRootedPart) l11 e11 k11
  have b11 := F11.binds (ps := ["rule", "root", "is_open"]) fun _ _ _ _ _ _ us hl => match us, hl with | [_, _, _], _ => rfl
  let d_rooted_part : Def K mg "rooted_part" sPRootedPart ["rule", "root", "is_open"] := ⟨_, _, F11, b11, PySem.W.mg_of X G a11⟩
  have F12 := fun_mk (st := sPCompleted) l12 e12 k12
  have b12 := F12.binds (ps := ["rule", "gaps", "part", "is_open"]) fun _ _ _ _ _ _ us hl => match us, hl with | [_, _, _, _], _ => rfl
  let d_completed : Def K mg "completed" sPCompleted ["rule", "gaps", "part", "is_open"] := ⟨_, _, F12, b12, PySem.W.mg_of X G a12⟩
  have F13 := fun_mk (st := sPTreeOf) l13 e13 k13
  have b13 := F13.binds (ps := ["rule", "table"]) fun _ _ _ _ _ _ us hl => match us, hl with | [_, _], _ => rfl
  let d_tree_of : Def K mg "tree_of" sPTreeOf ["rule", "table"] := ⟨_, _, F13, b13, PySem.W.mg_of X G a13⟩
  have F14 := fun_mk (st := sPHeadOf) l14 e14 k14
  have b14 := F14.binds (ps := ["rule", "table"]) fun _ _ _ _ _ _ us hl => match us, hl with | [_, _], _ => rfl
  let d_head_of : Def K mg "head_of" sPHeadOf ["rule", "table"] := ⟨_, _, F14, b14, PySem.W.mg_of X G a14⟩
  have F15 := fun_mk (st := sDraw) l15 e15 k15
  have b15 := F15.binds (ps := ["state", "limit"]) fun _ _ _ _ _ _ us hl => match us, hl with | [_, _], _ => rfl
  let d__law_draw : Def K mg "_law_draw" sDraw ["state", "limit"] := ⟨_, _, F15, b15, PySem.W.mg_of X G a15⟩
  have F16 := fun_mk (st := sLRule) l16 e16 k16
  have b16 := F16.binds (ps := ["state"]) fun _ _ _ _ _ _ us hl => match us, hl with | [_], _ => rfl
  let d__law_rule : Def K mg "_law_rule" sLRule ["state"] := ⟨_, _, F16, b16, PySem.W.mg_of X G a16⟩
  have F17 := fun_mk (st := sLCodes) l17 e17 k17
  have b17 := F17.binds (ps := ["text"]) fun _ _ _ _ _ _ us hl => match us, hl with | [_], _ => rfl
  let d__law_codes : Def K mg "_law_codes" sLCodes ["text"] := ⟨_, _, F17, b17, PySem.W.mg_of X G a17⟩
  have F18 := fun_mk (st := sLEncode) l18 e18 k18
  have b18 := F18.binds (ps := ["value"]) fun _ _ _ _ _ _ us hl => match us, hl with | [_], _ => rfl
  let d__law_encode : Def K mg "_law_encode" sLEncode ["value"] := ⟨_, _, F18, b18, PySem.W.mg_of X G a18⟩
  have F19 := fun_mk (st := sLDigest) l19 e19 k19
  have b19 := F19.binds (ps := ["rule", "value"]) fun _ _ _ _ _ _ us hl => match us, hl with | [_, _], _ => rfl
  let d__law_digest : Def K mg "_law_digest" sLDigest ["rule", "value"] := ⟨_, _, F19, b19, PySem.W.mg_of X G a19⟩
  have F20 := fun_mk (st := sKey) l20 e20 k20
  have b20 := F20.binds (ps := ["state"]) fun _ _ _ _ _ _ us hl => match us, hl with | [_], _ => rfl
  let d__law_key : Def K mg "_law_key" sKey ["state"] := ⟨_, _, F20, b20, PySem.W.mg_of X G a20⟩
  have F21 := fun_mk (st := sRow) l21 e21 k21
  have b21 := F21.binds (ps := ["state"]) fun _ _ _ _ _ _ us hl => match us, hl with | [_], _ => rfl
  let d__law_row : Def K mg "_law_row" sRow ["state"] := ⟨_, _, F21, b21, PySem.W.mg_of X G a21⟩
  have F22 := fun_mk (st := sTable) l22 e22 k22
  have b22 := F22.binds (ps := ["state", "most"]) fun _ _ _ _ _ _ us hl => match us, hl with | [_, _], _ => rfl
  let d__law_table : Def K mg "_law_table" sTable ["state", "most"] := ⟨_, _, F22, b22, PySem.W.mg_of X G a22⟩
  have F23 := fun_mk (st := sLCell) l23 e23 k23
  have b23 := F23.binds (ps := ["row", "column"]) fun _ _ _ _ _ _ us hl => match us, hl with | [_, _], _ => rfl
  let d__law_cell : Def K mg "_law_cell" sLCell ["row", "column"] := ⟨_, _, F23, b23, PySem.W.mg_of X G a23⟩
  have F24 := fun_mk (st := sLRank) l24 e24 k24
  have b24 := F24.binds (ps := ["key"]) fun _ _ _ _ _ _ us hl => match us, hl with | [_], _ => rfl
  let d__law_rank : Def K mg "_law_rank" sLRank ["key"] := ⟨_, _, F24, b24, PySem.W.mg_of X G a24⟩
  have F25 := fun_mk (st := sLTop) l25 e25 k25
  have b25 := F25.binds (ps := ["table"]) fun _ _ _ _ _ _ us hl => match us, hl with | [_], _ => rfl
  let d__law_top : Def K mg "_law_top" sLTop ["table"] := ⟨_, _, F25, b25, PySem.W.mg_of X G a25⟩
  have F26 := fun_mk (st := sLTree) l26 e26 k26
  have b26 := F26.binds (ps := ["rule", "table"]) fun _ _ _ _ _ _ us hl => match us, hl with | [_, _], _ => rfl
  let d__law_tree : Def K mg "_law_tree" sLTree ["rule", "table"] := ⟨_, _, F26, b26, PySem.W.mg_of X G a26⟩
  have F27 := fun_mk (st := sLLink) l27 e27 k27
  have b27 := F27.binds (ps := ["rule", "entry"]) fun _ _ _ _ _ _ us hl => match us, hl with | [_, _], _ => rfl
  let d__law_link : Def K mg "_law_link" sLLink ["rule", "entry"] := ⟨_, _, F27, b27, PySem.W.mg_of X G a27⟩
  have F28 := fun_mk (st := sPPartInit) l28 e28 k28
  have b28 := F28.binds (ps := ["self", "link", "root", "is_open"]) fun _ _ _ _ _ _ us hl => match us, hl with | [_, _, _, _], _ => rfl
  let I_Part : Ini K mg "Part" C_Part "Part.__init__" sPPartInit ["self", "link", "root", "is_open"] := ⟨_, _, F28, b28, ⟨mk_Part, a28, i28, kc_Part⟩, PySem.W.mg_of X G aC_Part⟩
  have F29 := fun_mk (st := sLaw) l29 e29 k29
  have b29 := F29.binds (ps := ["script"]) fun _ _ _ _ _ _ us hl => match us, hl with | [_], _ => rfl
  let d_law : Def K mg "law" sLaw ["script"] := ⟨_, _, F29, b29, PySem.W.mg_of X G a29⟩
  have m_bool := PySem.W.mg_none_of X G z1
  have m_int := PySem.W.mg_none_of X G z2
  have m_isinstance := PySem.W.mg_none_of X G z3
  have m_len := PySem.W.mg_none_of X G z4
  have m_list := PySem.W.mg_none_of X G z5
  have m_ord := PySem.W.mg_none_of X G z6
  have m_range := PySem.W.mg_none_of X G z7
  have m_reversed := PySem.W.mg_none_of X G z8
  have m_sorted := PySem.W.mg_none_of X G z9
  have m_str := PySem.W.mg_none_of X G z10
  have m_tuple := PySem.W.mg_none_of X G z11
  have c_WIDEST_ROW := PySem.W.mg_of X G q1
  let ct : Ct := ⟨clT [(0, C_Part)], E0, X0⟩
  haveI : CtOk K ct := ctOk_of fun p hp => by
    simp only [List.mem_cons, List.not_mem_nil, or_false] at hp
    rcases hp with rfl
    · refine ⟨⟨pg_Part, hd_Part, po_Part, sa_Part⟩, fun f hf => ?_⟩
      have hf' : f ∈ (["link", "root", "is_open"] : List Str) := hf
      simp only [List.mem_cons, List.not_mem_nil, or_false] at hf'
      rcases hf' with rfl | rfl | rfl
      · exact n_Part_link
      · exact n_Part_root
      · exact n_Part_is_open
  haveI : ClA ct C_Part 0 := ⟨rfl⟩
  refine ⟨PySem.W.fnOf "law" "law" (defArgs sLaw) (defBody sLaw) (defScope sLaw) .none kV29 dc29 pm29 an29 cd29 ct29, fun s v => .of_eq rfl, fun base _ _ => ?_⟩
  have GD := ok_draw (P := l.prog) (w := w) (base := base) d__law_draw m_len m_int
  have GK := ok_key d__law_key d__law_draw m_range GD
  have GR := ok_row d__law_row d__law_draw m_range m_tuple GD
  have GT := ok_table d__law_table d__law_draw d__law_key d__law_row m_range m_sorted GD GK GR
  have G_LDraw := br_draw (ct := ct) GD
  have G_LTable := br_table (ct := ct) GT
  have G_PEncode := ok_PEncode (P := l.prog) (w := w) (base := base) (ct := ct) d_encode m_int m_isinstance m_len m_ord m_str
  have G_PDigest := ok_PDigest (P := l.prog) (w := w) (base := base) (ct := ct) d_digest d_encode m_len G_PEncode
  have G_LCodes := ok_LCodes (P := l.prog) (w := w) (base := base) (ct := ct) d__law_codes m_ord
  have G_LEncode := ok_LEncode (P := l.prog) (w := w) (base := base) (ct := ct) d__law_encode d__law_codes m_isinstance m_len m_str m_tuple G_LCodes
  have G_LDigest := ok_LDigest (P := l.prog) (w := w) (base := base) (ct := ct) d__law_digest d__law_encode m_int m_len G_LEncode
  have G_LRule := ok_LRule (P := l.prog) (w := w) (base := base) (ct := ct) d__law_rule d__law_draw G_LDraw
  have G_LCell := ok_LCell (P := l.prog) (w := w) (base := base) (ct := ct) d__law_cell m_len
  have G_LRank := ok_LRank (P := l.prog) (w := w) (base := base) (ct := ct) d__law_rank d__law_codes m_int G_LCodes
  have G_LTop := ok_LTop (P := l.prog) (w := w) (base := base) (ct := ct) d__law_top d__law_rank m_len m_range G_LRank
  have G_LLink := ok_LLink (P := l.prog) (w := w) (base := base) (ct := ct) d__law_link d__law_cell d__law_digest m_range m_tuple G_LCell G_LDigest
  have G_LTree := ok_LTree (P := l.prog) (w := w) (base := base) (ct := ct) d__law_tree d__law_digest d__law_top d__law_link m_len G_LDigest G_LTop G_LLink
  have G_PRank := ok_PRank (P := l.prog) (w := w) (base := base) (ct := ct) d_rank m_ord
  have G_PStandsAbove := ok_PStandsAbove (P := l.prog) (w := w) (base := base) (ct := ct) d_stands_above d_rank G_PRank
  have G_PColumnOf := ok_PColumnOf (P := l.prog) (w := w) (base := base) (ct := ct) d_column_of m_len
  have G_PEntryDigest := ok_PEntryDigest (P := l.prog) (w := w) (base := base) (ct := ct) d_entry_digest d_digest G_PDigest
  have G_PEntryLink := ok_PEntryLink (P := l.prog) (w := w) (base := base) (ct := ct) d_entry_link d_column_of d_entry_digest m_range m_tuple c_WIDEST_ROW G_PColumnOf G_PEntryDigest
  have G_PEmptyLink := ok_PEmptyLink (P := l.prog) (w := w) (base := base) (ct := ct) d_empty_link d_digest G_PDigest
  have G_PartI := ok_PartI (P := l.prog) (w := w) (base := base) I_Part
  have G_PLinkedPart := ok_PLinkedPart (P := l.prog) (w := w) (base := base) (ct := ct) d_linked_part I_Part G_PartI
  have G_PEmptyPart := ok_PEmptyPart (P := l.prog) (w := w) (base := base) (ct := ct) d_empty_part d_linked_part d_empty_link G_PLinkedPart G_PEmptyLink
  have G_PRootedPart := ok_PRootedPart (P := l.prog) (w := w) (base := base) (ct := ct) d_rooted_part d_entry_link I_Part G_PEntryLink G_PartI
  have G_PCompleted := ok_PCompleted (P := l.prog) (w := w) (base := base) (ct := ct) d_completed d_rooted_part m_reversed G_PRootedPart
  have G_PTreeOf := ok_PTreeOf (P := l.prog) (w := w) (base := base) (ct := ct) d_tree_of d_stands_above d_completed d_empty_part G_PStandsAbove G_PCompleted G_PEmptyPart
  have G_PHeadOf := ok_PHeadOf (P := l.prog) (w := w) (base := base) (ct := ct) d_head_of d_tree_of G_PTreeOf
  have W := ok_Law (P := l.prog) (w := w) (base := base) (ct := ct) d_law d__law_rule d__law_table d_rank d__law_rank d_head_of d__law_tree m_bool m_isinstance m_list m_range m_tuple G_LRule G_LTable G_PRank G_LRank G_PHeadOf G_LTree
  exact W
end RR
open PySem PySem.W PyProof.Rows
set_option maxRecDepth 100000 in
set_option maxHeartbeats 0 in
theorem PySem.Challenge.cw_rightrows_k07_heads_holds : PySem.Challenge.rw_rightrows_k07_heads.Holds := by
  w_on; o_law; k_head; (case hw => w_witness2)
  k_fill
  refine L2.walk_of (l := PySem.Challenge.rw_rightrows_k07_heads) (n := 63) (k := 213) (x := "script") (CX := fun _ => L2.CX0) (sp := fun w => RR.spLaw _) rfl (by decide) rfl ⟨rfl, by decide, by decide⟩ (fun w h Y => PySem.W.kIn_of Y) ?F (fun _ _ a ns hl _ hS => ⟨a, ns, rfl, hS, hl, fun _ => rfl⟩) (fun _ _ _ _ _ h => h)
  case F =>
    intro w mg fa h KX G hmg
    refine' RR.all_mk KX G hmg ?a1 ?l1 ?e1 ?k1 ?a2 ?l2 ?e2 ?k2 ?a3 ?l3 ?e3 ?k3 ?a4 ?l4 ?e4 ?k4 ?a5 ?l5 ?e5 ?k5 ?a6 ?l6 ?e6 ?k6 ?a7 ?l7 ?e7 ?k7 ?a8 ?l8 ?e8 ?k8 ?a9 ?l9 ?e9 ?k9 ?a10 ?l10 ?e10 ?k10 ?a11 ?l11 ?e11 ?k11 ?a12 ?l12 ?e12 ?k12 ?a13 ?l13 ?e13 ?k13 ?a14 ?l14 ?e14 ?k14 ?a15 ?l15 ?e15 ?k15 ?a16 ?l16 ?e16 ?k16 ?a17 ?l17 ?e17 ?k17 ?a18 ?l18 ?e18 ?k18 ?a19 ?l19 ?e19 ?k19 ?a20 ?l20 ?e20 ?k20 ?a21 ?l21 ?e21 ?k21 ?a22 ?l22 ?e22 ?k22 ?a23 ?l23 ?e23 ?k23 ?a24 ?l24 ?e24 ?k24 ?a25 ?l25 ?e25 ?k25 ?a26 ?l26 ?e26 ?k26 ?a27 ?l27 ?e27 ?k27 ?a28 ?i28 ?l28 ?e28 ?k28 ?a29 ?l29 ?e29 ?k29 ?aC_Part ?pg_Part ?hd_Part ?po_Part ?sa_Part ?mk_Part ?kc_Part ?n_Part_link ?n_Part_root ?n_Part_is_open ?q1 ?z1 ?z2 ?z3 ?z4 ?z5 ?z6 ?z7 ?z8 ?z9 ?z10 ?z11
    (case aC_Part => k_is); (case a1 => k_is); (case l1 => k_is); (case e1 => k_is); (case k1 => k_is); (case a2 => k_is)
    (case l2 => k_is); (case e2 => k_is); (case k2 => k_is); (case a3 => k_is); (case l3 => k_is); (case e3 => k_is)
    (case k3 => k_is); (case a4 => k_is); (case l4 => k_is); (case e4 => k_is); (case k4 => k_is); (case a5 => k_is)
    (case l5 => k_is); (case e5 => k_is); (case k5 => k_is); (case a6 => k_is); (case l6 => k_is); (case e6 => k_is)
    (case k6 => k_is); (case a7 => k_is); (case l7 => k_is); (case e7 => k_is); (case k7 => k_is); (case a8 => k_is)
    (case l8 => k_is); (case e8 => k_is); (case k8 => k_is); (case a9 => k_is); (case l9 => k_is); (case e9 => k_is)
    (case k9 => k_is); (case a10 => k_is); (case l10 => k_is); (case e10 => k_is); (case k10 => k_is); (case a11 => k_is)
    (case l11 => k_is); (case e11 => k_is); (case k11 => k_is); (case a12 => k_is); (case l12 => k_is); (case e12 => k_is)
    (case k12 => k_is); (case a13 => k_is); (case l13 => k_is); (case e13 => k_is); (case k13 => k_is); (case a14 => k_is)
    (case l14 => k_is); (case e14 => k_is); (case k14 => k_is); (case a15 => k_is); (case l15 => k_is); (case e15 => k_is)
    (case k15 => k_is); (case a16 => k_is); (case l16 => k_is); (case e16 => k_is); (case k16 => k_is); (case a17 => k_is)
    (case l17 => k_is); (case e17 => k_is); (case k17 => k_is); (case a18 => k_is); (case l18 => k_is); (case e18 => k_is)
    (case k18 => k_is); (case a19 => k_is); (case l19 => k_is); (case e19 => k_is); (case k19 => k_is); (case a20 => k_is)
    (case l20 => k_is); (case e20 => k_is); (case k20 => k_is); (case a21 => k_is); (case l21 => k_is); (case e21 => k_is)
    (case k21 => k_is); (case a22 => k_is); (case l22 => k_is); (case e22 => k_is); (case k22 => k_is); (case a23 => k_is)
    (case l23 => k_is); (case e23 => k_is); (case k23 => k_is); (case a24 => k_is); (case l24 => k_is); (case e24 => k_is)
    (case k24 => k_is); (case a25 => k_is); (case l25 => k_is); (case e25 => k_is); (case k25 => k_is); (case a26 => k_is)
    (case l26 => k_is); (case e26 => k_is); (case k26 => k_is); (case a27 => k_is); (case l27 => k_is); (case e27 => k_is)
    (case k27 => k_is); (case a28 => k_is); (case i28 => k_is); (case l28 => k_is); (case e28 => k_is); (case k28 => k_is)
    (case a29 => k_is); (case l29 => k_is); (case e29 => k_is); (case k29 => k_is); (case pg_Part => k_is); (case hd_Part => k_is)
    (case po_Part => k_is); (case sa_Part => k_is); (case mk_Part => k_is); (case kc_Part => k_is); (case n_Part_link => k_is); (case n_Part_root => k_is)
    (case n_Part_is_open => k_is); (case q1 => k_is); (case z1 => k_is); (case z2 => k_is); (case z3 => k_is); (case z4 => k_is)
    (case z5 => k_is); (case z6 => k_is); (case z7 => k_is); (case z8 => k_is); (case z9 => k_is); (case z10 => k_is)
    (case z11 => k_is)
